import PyProof.Rows.All
import Wide.All
import OpenK.AllK
import Wide.FinOn
import Lean
import PyProof.EqAt
import PyProof.EqKinds
import PyProof.TupleCall
import PySem.Challenge.RW_twomeet_k10_likenesses_written
set_option Elab.async false
set_option linter.all false
set_option maxRecDepth 100000
set_option maxHeartbeats 4000000
set_option compiler.extract_closed false
noncomputable section
abbrev aH:=PySem.Value->PySem.Shared->Prop
abbrev aJ:=List (PySem.Addr×PySem.Obj)
abbrev uM:=@Array.getElem?_eq_some_iff
abbrev GD:=@Array.length_toList
abbrev av:=@Bool.and_eq_true
abbrev kx:=@Bool.and_eq_true_iff
abbrev pZ:=@Bool.beq_eq_decide_eq
abbrev II:=@Bool.false_eq_true
abbrev eC:=@Bool.false_ne_true
abbrev yA:=@Bool.not_eq_true
abbrev kN:=@Bool.not_eq_true'
abbrev Mf:=@PySem.Calls.spliced_cons
abbrev zZ:=@PySem.Code.quiet_builtin
abbrev Ed:=@PySem.F.args_tuple_iterator_next_1
abbrev Dz:=@PySem.F.entry_tuple_iterator_next
abbrev wa:=@PySem.F.plain_extend_loop
abbrev sY:=@PySem.F.slot_tuple_iterator_next
abbrev vO:=@Function.comp_def
abbrev D6:=@PySem.Heap.get?_none_of_le
abbrev bj:=@PySem.Heap.get?_push_of_some
abbrev cY:=@PySem.Heap.get?_push_size
abbrev gG:=@PySem.Heap.get?_update_other
abbrev lF:=@PySem.Heap.get?_update_self
abbrev aY:=@PySem.Heap.lt_size
abbrev mL:=@PySem.Heap.size_push
abbrev A7:=@Int.toNat_natCast
abbrev eQ:=@List.all_cons
abbrev lP:=@List.all_eq_true
abbrev lN:=@List.any_cons
abbrev om:=@List.append_assoc
abbrev hJ:=@List.append_nil
abbrev jB:=@List.cons_append
abbrev Ae:=@List.contains_eq_mem
abbrev Bh:=@List.contains_iff_mem
abbrev Aq:=@List.drop_eq_getElem_cons
abbrev EW:=@List.ext_getElem?
abbrev Bs:=@List.filterMap_cons
abbrev sR:=@List.find?_cons
abbrev tF:=@List.flatten_cons
abbrev Bg:=@List.forall_mem_cons
abbrev g9:=@List.getElem?_append_left
abbrev qX:=@List.getElem?_append_right
abbrev qS:=@List.getElem?_cons_succ
abbrev xb:=@List.getElem?_cons_zero
abbrev iM:=@List.getElem?_eq_getElem
abbrev DY:=@List.getElem?_eq_none
abbrev tP:=@List.getElem?_eq_none_iff
abbrev dE:=@List.getElem?_eq_some_iff
abbrev mZ:=@List.getElem?_map
abbrev Fg:=@List.getElem?_replicate
abbrev iy:=@List.getElem?_set_ne
abbrev iu:=@List.getElem?_set_self
abbrev tB:=@List.getElem_mem
abbrev iU:=@List.length_append
abbrev cQ:=@List.length_cons
abbrev vX:=@List.length_drop
abbrev gC:=@List.length_map
abbrev ka:=@List.length_nil
abbrev wJ:=@List.length_reverse
abbrev w8:=@List.length_set
abbrev DB:=@List.length_singleton
abbrev sU:=@List.length_take
abbrev eS:=@List.lookup_cons
abbrev aR:=@List.map_cons
abbrev mC:=@List.map_map
abbrev gD:=@List.map_nil
abbrev n9:=@List.mem_append
abbrev iA:=@List.mem_append_right
abbrev cX:=@List.mem_cons
abbrev di:=@List.mem_cons_of_mem
abbrev gF:=@List.mem_cons_self
abbrev jF:=@List.mem_map
abbrev wd:=@List.mem_of_getElem?
abbrev tK:=@List.mem_singleton
abbrev gE:=@List.nil_append
abbrev mJ:=@List.nodup_cons
abbrev xG:=@List.not_mem_nil
abbrev oQ:=@List.replicate_succ
abbrev vB:=@List.reverse_cons
abbrev Ax:=@List.set_append_right
abbrev lE:=@List.set_cons_succ
abbrev lL:=@List.set_cons_zero
abbrev Ad:=@List.set_set
abbrev bX:=@List.size_toArray
abbrev Fu:=@List.take_length
abbrev Fo:=@List.take_of_length_le
abbrev mM:=@Nat.le_max_left
abbrev mI:=@Nat.le_max_right
abbrev aA:=@Nat.le_refl
abbrev i6:=@Nat.le_succ
abbrev cL:=@Nat.le_trans
abbrev tD:=@Nat.lt_irrefl
abbrev cM:=@Nat.lt_of_lt_of_le
abbrev xJ:=@Nat.lt_or_ge
abbrev Am:=@Nat.lt_succ_of_lt
abbrev tL:=@Nat.lt_succ_self
abbrev nV:=@Nat.ne_of_gt
abbrev bT:=@Nat.ne_of_lt
abbrev kG:=@Nat.not_lt
abbrev jA:=@Nat.pow_le_pow_right
abbrev oo:=@Nat.pow_succ
abbrev rg:=@Nat.succ.inj
abbrev jS:=@Nat.zero_le
abbrev aX:=@Ne.symm
abbrev sH:=@PySem.Obj.data_mapFields
abbrev vc:=@PySem.Obj.isFreed_of_fields
abbrev dJ:=@Option.bind_eq_some_iff
abbrev u5:=@Option.bind_some
abbrev pf:=@Option.isNone_iff_eq_none
abbrev rF:=@Option.isSome_iff_exists
abbrev AN:=@Option.isSome_map
abbrev je:=@Option.map_eq_some_iff
abbrev eE:=@Option.some.inj
abbrev pF:=@PyProof.Rows.callWith_type1
abbrev Ay:=@PyProof.Rows.slot_tuple_getitem
abbrev zU:=@PySem.F.args_tuple_add_2
abbrev AI:=@PySem.F.entry_tuple_add
abbrev AW:=@PySem.F.plainAttrs_list
abbrev zL:=@PySem.F.slot_tuple_add
abbrev Bq:=@PySem.W.Looks.here
abbrev lg:=@PySem.W.callWith_K
abbrev u6:=@PySem.W.looks_clsIn
abbrev pz:=@PySem.W.looks_findIn
abbrev vg:=@PySem.W.methodCall_KW
abbrev gX:=@PySem.W.mg_none_of
abbrev fG:=@PySem.W.mg_of
abbrev AO:=@PySem.W.plainGet_of
abbrev jN:=@PySem.mem_of_lookup
abbrev A1:=@PySem.SeqAt.EqAt.int_str
abbrev zP:=@PySem.SeqAt.EqAt.str_int
abbrev kY:=@True.intro
abbrev ik:=@beq_eq_false_iff_ne
abbrev ji:=@beq_iff_eq
abbrev vf:=@PySem.builtinLookup_eq_fast
abbrev pP:=@PySem.call_meets
abbrev AV:=@PySem.codeAny_call_builtin
abbrev lh:=@PySem.codeAny_mono
abbrev gU:=@congrArg
abbrev bU:=@decide_eq_false
abbrev jb:=@decide_eq_true
abbrev aI:=@decide_eq_true_eq
abbrev vq:=@decide_false
abbrev kX:=@if_false
abbrev gY:=@if_true
abbrev pG:=@PySem.lookup_relabel_local
abbrev AB:=@PySem.noFill_tuple_add
abbrev AM:=@PySem.pastItsLine_dict
abbrev F5:=@PySem.plainObj_wpAny_Assign_Attribute
abbrev eO:=@PySem.sizeLine_eq
abbrev AK:=@PySem.slot_dict_contains
abbrev Al:=@PySem.slot_dict_getitem
abbrev uZ:=@PySem.tupleKind_room_in1
abbrev vh:=@PySem.typeLookup_type
abbrev mP:=@PySem.wpAny_Call_Name_kw
abbrev Bc:=@PySem.wpAny_Return_some
abbrev af:=@PySem.wpAny_bind
abbrev k8:=@PySem.wpAny_call
abbrev rC:=@PySem.wpAny_callSpecial?_slot
abbrev pd:=@PySem.wpAny_call_entry
abbrev vv:=@PySem.wpAny_execs_cons
abbrev k6:=@PySem.wpAny_execs_nil
abbrev fD:=@PySem.wpAny_field
abbrev fF:=@PySem.wpAny_holding
abbrev pK:=@PySem.wpAny_isSubtype_exc
abbrev sE:=@PySem.wpAny_ite_false
abbrev pR:=@PySem.wpAny_loadPart'
abbrev gW:=@PySem.wpAny_loadPart_at
abbrev zK:=@PySem.wpAny_lookBehind
abbrev Af:=@PySem.wpAny_madeBy_exc
abbrev eX:=@PySem.wpAny_mono
abbrev ij:=@PySem.wpAny_newObj_type
abbrev gP:=@PySem.wpAny_passesOwn
abbrev aj:=@PySem.wpAny_pure
abbrev Aw:=@PySem.wpAny_pyIter_list
abbrev vn:=@PySem.wpAny_pyIter_tuple
abbrev sF:=@PySem.wpAny_rule
abbrev vd:=@PySem.wpAny_seqItems
abbrev pe:=@PySem.wpAny_setField
abbrev pS:=@PySem.wpAny_specialOf
abbrev mD:=@PySem.wpAny_standAt
abbrev pO:=@PySem.wpAny_truthy_bool
abbrev vw:=@PySem.wpAny_updateSeq
theorem Exists.g{α:Sort u}{p:α->Prop}{b:Prop}(h:∃x,p x)(k:∀a,p a->b):b:=Exists.elim h k
theorem And.g{a b c:Prop}(h:a/\b)(k:a->b->c):c:=k h.1 h.2
theorem Exists.g4{α:Sort u}{β:Sort v}{p q s:α->β->Prop}{r:Prop}(h:∃a b,p a b/\q a b/\s a b)(k:∀a b,p a b->q a b->s a b->r):r:=h.elim fun a h=>h.elim fun b h=>k a b h.1 h.2.1 h.2.2
theorem Exists.g6{α:Sort u}{β:Sort v}{γ:Sort w}{p q s t:α->β->γ->Prop}{r:Prop}(h:∃a b c,p a b c/\q a b c/\s a b c/\t a b c)(k:∀a b c,p a b c->q a b c->s a b c->t a b c->r):r:=h.elim fun a h=>h.elim fun b h=>h.elim fun c h=>k a b c h.1 h.2.1 h.2.2.1 h.2.2.2
namespace L2
open PySem PySem.Spec PyProof.Rows
noncomputable abbrev Key:=Sum Int Str
noncomputable def iN:Key->Value->Bool
 |.inl k,v=>Value.isInt k v
 |.inr x,v=>Value.isStrOf x v
def Qu(w:World):Key->Int
 |.inl k=>hashInt k
 |.inr x=>hashStr w x
theorem ck:∀{k:Key}{v:Value},iN k v=true->(∃i t,k=Sum.inl i/\v=Value.int i t)\/(∃x t,k=Sum.inr x/\v=Value.str x t)
 |.inl i,v,h=>by
  obtain⟨t,e⟩:=Value.isInt_shape (k:=i) (v:=v) h;exact .inl ⟨i,t,rfl,e⟩
 |.inr x,v,h=>by
  obtain⟨t,e⟩:=Value.isStrOf_shape (x:=x) (v:=v) h;exact .inr ⟨x,t,rfl,e⟩
theorem Dn(i:Int)(t:Tok):iN (.inl i) (.int i t)=true:=by simp[iN,Value.isInt]
theorem Cb(x:Str)(t:Tok):iN (.inr x) (.str x t)=true:=by simp[iN,Value.isStrOf]
theorem vL(a b:Int):decide ((Sum.inl a:Key)=Sum.inl b)=(a== b):=by
 by_cases e:a=b
 .subst e;simp
 .have h:¬ (Sum.inl a:Key)=Sum.inl b:=fun q=>e (Sum.inl.inj q);rw[bU h];exact (ik.mpr e).symm
theorem wW(a b:Str):decide ((Sum.inr a:Key)=Sum.inr b)=decide (a=b):=by
 by_cases e:a=b
 .subst e;simp
 .have h:¬ (Sum.inr a:Key)=Sum.inr b:=fun q=>e (Sum.inr.inj q);rw[bU h,bU e]
theorem vA(a:Int)(b:Str):decide ((Sum.inl a:Key)=Sum.inr b)=false:=bU (fun q=>nomatch q)
theorem vZ(a:Str)(b:Int):decide ((Sum.inr a:Key)=Sum.inl b)=false:=bU (fun q=>nomatch q)
def b7(prog:Program)(w:World):PySem.KeyKind prog w Key where
 is:=iN
 hash:=Qu w
 inj:=fun v a b ha hb=>by
  rcases ck ha with ⟨i,t,rfl,rfl⟩|⟨x,t,rfl,rfl⟩
  .rcases ck hb with ⟨j,u,rfl,e⟩|⟨y,u,rfl,e⟩
   .injection e with e1 _;rw[e1]
   .exact nomatch e
  .rcases ck hb with ⟨j,u,rfl,e⟩|⟨y,u,rfl,e⟩
   .exact nomatch e
   .injection e with e1 _;rw[e1]
 byValue:=fun k v h=>by
  rcases ck h with ⟨i,t,rfl,rfl⟩|⟨x,t,rfl,rfl⟩<;>rfl
 pyHash:=fun hv h=>by
  rcases ck hv with ⟨i,t,rfl,rfl⟩|⟨x,t,rfl,rfl⟩
  .exact wpAny_pyHash_int h
  .exact wpAny_pyHash_str h
 eqBool:=fun hu hv h=>by
  rcases ck hu with ⟨i,t,rfl,rfl⟩|⟨x,t,rfl,rfl⟩
  .rcases ck hv with ⟨j,u,rfl,rfl⟩|⟨y,u,rfl,rfl⟩
   .rw[vL] at h;exact wpAny_eqBool_int h
   .rw[vA] at h;exact A1 i t y u _ _ _ _ h
  .rcases ck hv with ⟨j,u,rfl,rfl⟩|⟨y,u,rfl,rfl⟩
   .rw[vZ] at h;exact zP x t j u _ _ _ _ h
   .rw[wW] at h;exact wpAny_eqBool_str h
 «strs» := fun k x t v h=>by
  rcases ck h with ⟨i,u,rfl,e⟩|⟨y,u,rfl,e⟩
  .exact nomatch e
  .injection e with e1 _;subst e1;cases v<;>rfl
theorem xU(prog:Program)(w:World)(i:Int)(t:Tok):(b7 prog w).is (.inl i) (.int i t)=true:=Dn i t
theorem x9(prog:Program)(w:World)(x:Str)(t:Tok):(b7 prog w).is (.inr x) (.str x t)=true:=Cb x t
inductive V where
 |ak|bl (b:Bool)|int (i:Int)|str (x:Str)|byt (b:Array UInt8)|flt (b:UInt64)|ref (a:Addr)|ty (n:String)
 deriving DecidableEq
noncomputable def RelV:V->Value->Prop
 |.ak,u=>u=Value.none
 |.bl b,u=>u=Value.bool b
 |.int i,u=>∃t,u=Value.int i t
 |.str x,u=>∃t,u=Value.str x t
 |.byt b,u=>∃t,u=Value.bytes b t
 |.flt b,u=>∃t,u=Value.float b t
 |.ref a,u=>u=Value.ref a
 |.ty n,u=>u=Value.type n
abbrev Vals:List V->List Value->Prop:=Paired RelV
theorem Vals.length{xs:List V}{us:List Value}(r:Vals xs us):xs.length=us.length:=Paired.length r
theorem Vals.get:∀{xs:List V}{us:List Value}{i:Nat}{x:V},Vals xs us->xs[i]?=some x->∃u,us[i]?=some u/\RelV x u
 |_,_,_,_,.nil,e=>by simp at e
 |_,_,0,_,.cons r _,e=>by simp at e;subst e;exact⟨_,rfl,r⟩
 |_,_,i+1,x,.cons _ t,e=>by
  obtain⟨u,h1,h2⟩:=Vals.get (i:=i) (x:=x) t (by simpa using e);exact⟨u,by simpa using h1,h2⟩
theorem Vals.set{x:V}{u:Value}(r:RelV x u):∀{xs:List V}{us:List Value}(i:Nat),Vals xs us->Vals (xs.set i x) (us.set i u)
 |_,_,_,.nil=>.nil
 |_,_,0,.cons _ t=>.cons r t
 |_,_,i+1,.cons q t=>.cons q (Vals.set r i t)
theorem Vals.append:∀{xs ys:List V}{us ws:List Value},Vals xs us->Vals ys ws->Vals (xs++ys) (us++ws)
 |_,_,_,_,.nil,s=>s
 |_,_,_,_,.cons r t,s=>.cons r (Vals.append t s)
theorem Vals.take:∀{xs:List V}{us:List Value}(n:Nat),Vals xs us->Vals (xs.take n) (us.take n)
 |_,_,0,_=>.nil
 |_,_,_+1,.nil=>.nil
 |_,_,n+1,.cons r t=>.cons r (Vals.take n t)
theorem Vals.drop:∀{xs:List V}{us:List Value}(n:Nat),Vals xs us->Vals (xs.drop n) (us.drop n)
 |_,_,0,r=>r
 |_,_,_+1,.nil=>.nil
 |_,_,n+1,.cons _ t=>Vals.drop n t
noncomputable def dY:Option V->Option Value->Prop
 |some v,some u=>RelV v u
 |none,none=>True
 |_,_=>False
def KV{κ:Type}:List (κ×V)->List (κ×Value)->Prop:=Paired fun (p:κ×V) (q:κ×Value)=>p.1=q.1/\RelV p.2 q.2
noncomputable def kV:Key->V
 |.inl i=>.int i
 |.inr x=>.str x
inductive HO where
 |lst (xs:List V)
 |tup (xs:List V)
 |dK (kvs:List (Key×V))|dT (kvs:List (List Key×V))
 |set (S:Int->Bool) (n:Nat)
 |ins (C dx:Addr) (fs:List (Str×V))
 |own (x:Addr)
 |xd (fs:List (Str×V))
 |met (f x:Addr)
 |hZ (lo hi:Int)
 |bI (o:Obj) (u:HO)
 |wQ (ps:Array Value)
 |ext (φ:Heap->Prop)
noncomputable abbrev Hp:=Addr->Option HO
noncomputable def upd(H:Hp)(a:Addr)(o:HO):Hp:=fun b=>if b=a then some o else H b
theorem aB{H:Hp}{a:Addr}{o:HO}:upd H a o a=some o:=by unfold upd;rw[if_pos rfl]
theorem aq{H:Hp}{a b:Addr}{o:HO}(h:b≠a):upd H a o b=H b:=by unfold upd;rw[if_neg h]
theorem yp{H:Hp}{a:Addr}{o u:HO}:upd (upd H a o) a u=upd H a u:=by funext b;unfold upd;split<;>rfl
theorem NW{H:Hp}{a b:Addr}{o u:HO}(h:H a=some o)(h':H b=some u)(d:o≠u):a≠b:=by intro e;subst e;rw[h] at h';exact d (eE h')
theorem bW{H:Hp}{a b:Addr}{o:HO}(h:H a=some o)(h':H b=none):a≠b:=by intro e;subst e;rw[h] at h';cases h'
section
variable (P:Program) (w:World)
def bM(H:Hp)(h:Heap)(a:Addr):HO->Prop
 |.lst xs=>xs.length<=sizeLine/\∃(its:List Value) (n:Nat),Vals xs its/\h.get? a=some {cls:=.type "list",data:=.seq its.toArray n}
 |.tup xs=>xs.length<=sizeLine/\∃its:List Value,Vals xs its/\IsTup h a its.toArray
 |.dK kvs=>kvs.length<=sizeLine/\(a== sysModules)=false/\∃vs,KV kvs vs/\h.DictOf (b7 P w) a vs
 |.dT kvs=>kvs.length<=sizeLine/\(a== sysModules)=false/\∃xs:List (List Key×Addr×Value),
   Paired (fun (p:List Key×V) (q:List Key×Addr×Value)=>p.1=q.1/\H q.2.1=some (.tup (p.1.map kV))/\RelV p.2 q.2.2) kvs xs/\
   ∃o es ep,h.get? a=some o/\o.ExactDict/\o.data=.dict es ep/\es.toList=xs.map (entryOfKey (tupleKind (b7 P w)))/\(xs.map (·.1)).Nodup
 |.set S n=>h.SetOf (intKind P w) a S n
 |.ins C dx fs=>H dx=some (.own a)/\fs.length<=1000/\dx≠a/\h.get? a=some (W.instObj C dx)/\
   ∃mA,h.Ns1 dx mA/\(∀f,dY (fs.lookup f) (mA f))/\PySem.Within mA (fs.map (·.1))
 |.own _=>∃o,h.get? a=some o
 |.xd fs=>∃mA,h.Ns1 a mA/\∀f,dY (fs.lookup f) (mA f)
 |.hZ lo hi=>∃t u v,h.get? a=some {cls:=.type "range",data:=.fields #[.int lo t,.int hi u,.int 1 v]}
 |.bI o u=>h.get? a=some o/\bM H h a u
 |.wQ ps=>h.get? a=some {cls:=.none,data:=.fields ps}
 |.met f x=>h.get? a=some (W.methodObj (.ref f) (.ref x))
 |.ext φ=>φ h/\(∃o,h.get? a=some o)/\∀h1 h2:Heap,φ h1->(∀o,h1.get? a=some o->h2.get? a=some o)->φ h2
def cR(H:Hp)(h:Heap):Prop:=∀a o,H a=some o->bM P w H h a o
end
section
variable {P:Program}{w:World}{H H':Hp}{h h':Heap}{a:Addr}{o:HO}
theorem bM.lt(x:bM P w H h a o):a<h.objs.size:=by
 cases o with
 |lst xs=>obtain⟨_,_,_,_,e⟩:=x;exact aY e
 |tup xs=>obtain⟨_,_,_,p⟩:=x;exact p.lt
 |dK kvs=>obtain⟨_,_,_,_,o,_,_,e,_⟩:=x;exact aY e
 |dT kvs=>obtain⟨_,_,_,_,o,_,_,e,_⟩:=x;exact aY e
 |set S n=>obtain⟨o,_,_,_,e,_⟩:=x;exact aY e
 |ins C dx fs=>obtain⟨_,_,_,e,_⟩:=x;exact aY e
 |own y=>obtain⟨_,e⟩:=x;exact aY e
 |xd fs=>obtain⟨_,⟨_,_,_,e,_⟩,_⟩:=x;exact aY e
 |hZ lo hi=>obtain⟨_,_,_,e⟩:=x;exact aY e
 |bI ob u=>obtain⟨e,_⟩:=x;exact aY e
 |wQ ps=>exact aY (show h.get? a=some _ from x)
 |met f y=>exact aY (show h.get? a=some _ from x)
 |ext φ=>obtain⟨_,⟨_,e⟩,_⟩:=x;exact aY e
theorem Paired.Fv{α β:Type}{F G:α->β->Prop}:∀{l₁:List α}{l₂:List β},Paired F l₁ l₂->(∀a b,F a b->G a b)->Paired G l₁ l₂
 |_,_,.nil,_=>.nil
 |_,_,.cons r t,f=>.cons (f _ _ r) (Paired.Fv t f)
theorem bM.fq(x:bM P w H h a o)(k:∀b u,(b=a\/H b=some (.own a))->h.get? b=some u->h'.get? b=some u)
  (ho:∀b,H b=some (.own a)->H' b=some (.own a)) (ht:∀b xs,H b=some (.tup xs)->H' b=some (.tup xs)):bM P w H' h' a o:=by
 induction o with
 |lst xs=>obtain⟨z,its,n,r,e⟩:=x;exact⟨z,its,n,r,k _ _ (.inl rfl) e⟩
 |tup xs=>obtain⟨z,its,r,ob,e,c⟩:=x;exact⟨z,its,r,ob,k _ _ (.inl rfl) e,c⟩
 |dK kvs=>obtain⟨z,y,vs,r,ob,es,ep,e,c⟩:=x;exact⟨z,y,vs,r,ob,es,ep,k _ _ (.inl rfl) e,c⟩
 |dT kvs=>
  obtain⟨z,y,xs,r,ob,es,ep,e,c⟩:=x;exact⟨z,y,xs,Paired.Fv r fun p q z=>⟨z.1,ht _ _ z.2.1,z.2.2⟩,ob,es,ep,k _ _ (.inl rfl) e,c⟩
 |set S n=>obtain⟨ob,es,ep,t,e,c⟩:=x;exact⟨ob,es,ep,t,k _ _ (.inl rfl) e,c⟩
 |ins C dx fs=>
  obtain⟨d,z,ne,e,mA,⟨od,es,ep,e2,c⟩,r⟩:=x;exact⟨ho _ d,z,ne,k _ _ (.inl rfl) e,mA,⟨od,es,ep,k _ _ (.inr d) e2,c⟩,r⟩
 |own y=>obtain⟨ob,e⟩:=x;exact⟨ob,k _ _ (.inl rfl) e⟩
 |xd fs=>obtain⟨mA,⟨od,es,ep,e,c⟩,r⟩:=x;exact⟨mA,⟨od,es,ep,k _ _ (.inl rfl) e,c⟩,r⟩
 |hZ lo hi=>obtain⟨t,u,v,e⟩:=x;exact⟨t,u,v,k _ _ (.inl rfl) e⟩
 |bI ob u ih=>obtain⟨e,q⟩:=x;exact⟨k _ _ (.inl rfl) e,ih q⟩
 |wQ ps=>
  have e:h.get? a=some {cls:=.none,data:=.fields ps}:=x;show h'.get? a=some {cls:=.none,data:=.fields ps};exact k a _ (.inl rfl) e
 |met f y=>
  have e:h.get? a=some (W.methodObj (.ref f) (.ref y)):=x;show h'.get? a=some (W.methodObj (.ref f) (.ref y));exact k a _ (.inl rfl) e
 |ext φ=>obtain⟨p,⟨o,e⟩,st⟩:=x;exact⟨st _ _ p fun o q=>k _ _ (.inl rfl) q,⟨o,k _ _ (.inl rfl) e⟩,st⟩
theorem cR.lt(x:cR P w H h)(e:H a=some o):a<h.objs.size:=(x a o e).lt
theorem cR.fresh(x:cR P w H h)(e:h.objs.size<=a):H a=none:=by
 cases q:H a with
 |none=>rfl
 |some u=>exact absurd (cM (x.lt q) e) (tD _)
theorem cR.kept(x:cR P w H h)(k:∀b u,h.get? b=some u->h'.get? b=some u):cR P w H h':=fun a o e=>
 (x a o e).fq (fun b u _ q=>k b u q) (fun _ q=>q) fun _ _ q=>q
theorem cR.laid(x:cR P w H h)(k:∀b u,h.get? b=some u->h'.get? b=some u)(hp:h.objs.size<=a)(new:bM P w (upd H a o) h' a o):cR P w (upd H a o) h':=fun b u e=>by
 have hn:=x.fresh hp;by_cases hb:b=a
 .subst hb;rw[aB] at e;cases e;exact new
 .rw[aq hb] at e;exact (x b u e).fq (fun c v _ q=>k c v q) (fun c q=>by rw[aq (bW q hn)];exact q) fun c xs q=>by rw[aq (bW q hn)];exact q
end
def Rd(H:Hp)(a:Addr)(u:HO):Prop:=H a=some u\/∃o,H a=some (.bI o u)
theorem Rd.ok{P:Program}{w:World}{H:Hp}{h:Heap}{a:Addr}{u:HO}(r:Rd H a u)(x:cR P w H h):bM P w H h a u:=by
 rcases r with r|⟨o,r⟩
 .exact x a u r
 .obtain⟨_,q⟩:=x a _ r;exact q
noncomputable def Bx:Option HO->Prop
 |some (.lst _)=>True
 |some (.dK _)=>True
 |some (.dT _)=>True
 |some (.set _ _)=>True
 |some (.ins _ _ _)=>True
 |some (.ext _)=>True
 |_=>False
section
variable {P:Program}{w:World}{H:Hp}{h h':Heap}{x e:Addr}{o':HO}
theorem cR.write(ok:cR P w H h)(mu:Bx (H x))(he:e=x\/H e=some (.own x))(k:∀b u,b≠e->h.get? b=some u->h'.get? b=some u)(heo:∃u,h'.get? e=some u)
  (new:bM P w (upd H x o') h' x o'):cR P w (upd H x o') h':=fun b u q=>by
 have nown:∀c y,H c=some (.own y)->c≠x:=fun c y r z=>by subst z;rw[r] at mu;exact mu
 have ntup:∀c xs,H c=some (.tup xs)->c≠x:=fun c xs r z=>by subst z;rw[r] at mu;exact mu
 by_cases hb:b=x
 .subst hb;rw[aB] at q;cases q;exact new
 .rw[aq hb] at q;by_cases hbe:b=e
  .have q':H b=some (.own x):=by
    rcases he with z|z
    .exact absurd (hbe.trans z) hb
    .rw[hbe];exact z
   rw[q] at q';cases q';obtain⟨v,hv⟩:=heo;exact⟨v,by rw[hbe];exact hv⟩
  .refine (ok b u q).fq (fun c v hc r=>k c v ?_ r) (fun c r=>by rw[aq (nown c b r)];exact r) fun c xs r=>by rw[aq (ntup c xs r)];exact r
   rcases hc with rfl|hc
   .exact hbe
   .rintro rfl
    rcases he with z|z
    .exact nown c b hc z
    .rw[hc] at z;cases z;exact hb rfl
end
structure Un(fs ex:List Addr)(H H':Hp)(h h':Heap):Prop where
 keep:∀b o,h.get? b=some o->H b=none->b∉fs->b∉ex->h'.get? b=some o
 slot:∀b o,h.get? b=some o->H b=none->b∈fs->b∉ex->∃sl,h'.get? b=some {o with slots:=sl}
 free:∀b o,h.get? b=some o->H b=none->b∉ex->H' b=none
 there:∀b o,h.get? b=some o->b∉ex->∃o',h'.get? b=some o'
 fO:∀b xs,H b=some (.tup xs)->H' b=some (.tup xs)
 ft:∀b o u,H b=some (.bI o u)->H' b=some (.bI o u)
 fR:∀b ps,H b=some (.wQ ps)->∃more,H' b=some (.wQ (ps++more))
section
variable {fs fs' ex ex':List Addr}{H H1 H2:Hp}{h h1 h2 h':Heap}{a x e:Addr}{o:HO}
theorem Un.any(u:Un fs ex H H1 h h1){b:Addr}{ob:Obj}(q:h.get? b=some ob)(n:H b=none)(hx:b∉ex):∃sl,h1.get? b=some {ob with slots:=sl}:=by
 by_cases hb:b∈fs
 .exact u.slot b ob q n hb hx
 .exact⟨ob.slots,u.keep b ob q n hb hx⟩
theorem Un.trans(a:Un fs ex H H1 h h1)(b:Un fs ex H1 H2 h1 h2):Un fs ex H H2 h h2 where
 keep:=fun c ob q n hc hx=>b.keep c ob (a.keep c ob q n hc hx) (a.free c ob q n hx) hc hx
 slot:=fun c ob q n hc hx=>by
  obtain⟨sl,e1⟩:=a.slot c ob q n hc hx;obtain⟨sl',e2⟩:=b.slot c _ e1 (a.free c ob q n hx) hc hx;exact⟨sl',e2⟩
 free:=fun c ob q n hx=>by
  obtain⟨o',e1⟩:=a.there c ob q hx;exact b.free c o' e1 (a.free c ob q n hx) hx
 there:=fun c ob q hx=>by
  obtain⟨o',e1⟩:=a.there c ob q hx;exact b.there c o' e1 hx
 fO:=fun c xs q=>b.fO c xs (a.fO c xs q)
 ft:=fun c ob xs q=>b.ft c ob xs (a.ft c ob xs q)
 fR:=fun c ps q=>by
  obtain⟨m1,e1⟩:=a.fR c ps q;obtain⟨m2,e2⟩:=b.fR c _ e1;exact⟨m1++m2,by rw[e2,Array.append_assoc]⟩
theorem Un.kept(k:∀b u,h.get? b=some u->h'.get? b=some u):Un fs ex H H h h':=
 ⟨fun b ob q _ _ _=>k b ob q,fun b ob q _ _ _=>⟨ob.slots,k b ob q⟩,fun _ _ _ n _=>n,fun b ob q _=>⟨ob,k b ob q⟩,fun _ _ q=>q,fun _ _ _ q=>q,fun _ ps q=>⟨#[],by rw[q];simp⟩⟩
theorem Un.refl:Un fs ex H H h h:=Un.kept fun _ _ q=>q
theorem Un.laid(k:∀b u,h.get? b=some u->h'.get? b=some u)(hp:h.objs.size<=a)(hn:H a=none):Un fs ex H (upd H a o) h h' where
 keep:=fun b u q _ _ _=>k b u q
 slot:=fun b u q _ _ _=>⟨u.slots,k b u q⟩
 free:=fun b u q n _=>by rw[aq (bT (cM (aY q) hp))];exact n
 there:=fun b u q _=>⟨u,k b u q⟩
 fO:=fun b xs q=>by rw[aq (bW q hn)];exact q
 ft:=fun b u xs q=>by rw[aq (bW q hn)];exact q
 fR:=fun b ps q=>⟨#[],by rw[aq (bW q hn),q];simp⟩
theorem Un.write(mu:Bx (H x))(he:e=x\/H e=some (.own x))(k:∀b u,b≠e->h.get? b=some u->h'.get? b=some u)(heo:∃u,h'.get? e=some u):Un fs ex H (upd H x o) h h':=by
 have hx:∀b,H b=none->b≠x:=fun b n z=>by subst z;rw[n] at mu;exact mu
 have hb:∀b,H b=none->b≠e:=fun b n z=>by
  subst z;rcases he with r|r
  .exact hx b n r
  .rw[n] at r;cases r
 have hm:∀b u,H b=some u->¬ Bx (some u)->b≠x:=fun b u q nm z=>by subst z;rw[q] at mu;exact nm mu
 refine⟨fun b u q n _ _=>k b u (hb b n) q,fun b u q n _ _=>⟨u.slots,k b u (hb b n) q⟩,fun b u q n _=>by rw[aq (hx b n)];exact n,fun b u q _=>?_,
  fun b xs q=>by rw[aq (hm b _ q fun z=>z)];exact q,fun b u xs q=>by rw[aq (hm b _ q fun z=>z)];exact q,fun b ps q=>⟨#[],by rw[aq (hm b _ q fun z=>z),q];simp⟩⟩
 by_cases hbe:b=e
 .subst hbe;exact heo
 .exact⟨u,k b u hbe q⟩
theorem Un.mono(u:Un fs ex H H1 h h1)(hs:∀b∈fs,b∈fs')(hx:∀b∈ex,b∈ex'):Un fs' ex' H H1 h h1:=
 ⟨fun b ob q n hb he=>u.keep b ob q n (fun z=>hb (hs b z)) fun z=>he (hx b z),fun _ _ q n _ he=>u.any q n fun z=>he (hx _ z),fun b ob q n he=>u.free b ob q n fun z=>he (hx b z),fun b ob q he=>u.there b ob q fun z=>he (hx b z),u.fO,u.ft,u.fR⟩
end
noncomputable def GA(h:Heap)(H:Hp):List Addr:=(List.range h.objs.size).filter fun a=>(H a).isSome
def m5(h:Heap)(H:Hp):Heap:=W.hideAll h (GA h H)
theorem Co(h:Heap)(H:Hp):(m5 h H).objs.size=h.objs.size:=W.hideAll_size _ _
theorem DN{h:Heap}{H:Hp}{b:Addr}{o:Obj}(e:h.get? b=some o)(n:H b=none):(m5 h H).get? b=some o:=
 W.hideAll_get _ e fun hm=>by
  have q:(H b).isSome=true:=(List.mem_filter.mp hm).2;rw[n] at q;simp at q
theorem HU{h:Heap}{H:Hp}{b:Addr}{o:Obj}(e:(m5 h H).get? b=some o):h.get? b=some o/\H b=none:=by
 have e':h.get? b=some o:=W.of_hideAll (GA h H) e;refine⟨e',?_⟩;cases q:H b with
 |none=>rfl
 |some x=>
  have hm:b∈GA h H:=List.mem_filter.mpr ⟨List.mem_range.mpr (aY e'),by simp[q]⟩;have z:(m5 h H).get? b=none:=W.hideAll_none (GA h H) hm;rw[z] at e;cases e
noncomputable def HH(g h:Heap)(L:Addr):aJ:=(List.range h.objs.size).filterMap fun a=>if a=L\/(g.get? a).isSome=true then none else (h.get? a).map fun o=>(a,o)
def rest(g h:Heap)(L d:Addr):aJ:=(HH g h L).filter fun p=>decide (p.1≠d)
structure Mod(K:W.Frag)(mg:Str->Option Value)(base:Heap):Prop where
 qh:K.In base
 glob:base.Ns mainGlobals mg
 blt:∃mb,base.Ns builtinsNs mb/\∀x:Str,x≠ "__name__" ->mb x=bootBuiltins x
 nolimit:base.NoLimit
/-- the context:a def's body (or a comprehension's block) running. base:fixed through the whole law;aQ,lJ:the entry;outer:the frames whose slots others may change (a def's callers);stack:all frames that run;
  ex:iterators that were made ahead of the entry and are walked here (a comprehension's);fn:the names whose cells were made at the entry (a def:all;a comprehension's block:its own);calm:not within an except suite;pn:pins that every state bears;xe:what is wanted of an exception that leaves the code -/
structure Cx where
 prog:Program
 w:World
 K:W.Frag
 mg:Str->Option Value
 base:Heap
 A:Around
 N:List Str
 aQ:Shared
 lJ:Hp
 env:Env
 outer:List Env
 stack:List Env
 ex:List Addr
 fn:Str->Bool
 calm:Bool
 pn:aJ
 xe:aH
def bF(l:List Env):List Addr:=l.filterMap (·.frame)
abbrev Cx.fs(X:Cx):List Addr:=bF X.outer
def jH(sc:Scope)(x:Str):Prop:=sc.names.lookup x=some .local\/sc.names.lookup x=some .cell\/sc.names.lookup x=some .free
def Loc(sc:Scope)(x:Str):Prop:=sc.names.lookup x=some .local\/sc.names.lookup x=some .cell
def Look(env:Env)(h:Heap)(m:Str->Option Value)(x:Str)(u:Value):Prop:=
 (env.kindOf x=some .local/\m x=some u)\/((env.kindOf x=some .cell\/env.kindOf x=some .free)/\∃c,env.cells.lookup x=some c/\h.IsCell c (some u))
structure Cx.Ok(X:Cx):Prop where
 mod:Mod X.K X.mg X.base
 kind:X.env.scope.kind=.function
 glob:X.env.globals=mainGlobals
 blt:X.env.builtins=builtinsNs
 above:X.aQ.heap.objs.size<=X.env.locals
 inj:∀x y c,X.env.cells.lookup x=some c->X.env.cells.lookup y=some c->x=y
 has:∀x,(X.env.kindOf x=some .cell\/X.env.kindOf x=some .free)->∃c,X.env.cells.lookup x=some c
 si:∀x c,X.fn x=true->X.env.cells.lookup x=some c->X.aQ.heap.objs.size<=c
 hd:X.calm=true->X.A.handled=none
 frames:X.A.frames=some X.stack
 uK:X.stack=X.outer\/(X.stack=X.env::X.outer/\X.env.frame=some X.env.locals)
 yV:∀b∈X.ex,b≠X.env.locals/\∀x c,X.env.cells.lookup x=some c->c≠b
 bs:∀b o,X.base.get? b=some o->X.aQ.heap.get? b=some o/\X.lJ b=none
 mr:X.base.objs.size<=X.aQ.heap.objs.size
 mX:∀b o,X.base.get? b=some o->b∉X.ex
 nW:∀b∈X.ex,b∉X.fs
 gH:X.aQ.heap.FunFrames X.base X.outer
 oy:∀b∈X.fs,X.lJ b=none
structure Inv(X:Cx)(pins:aJ)(σ:List (Option V))(H:Hp)(s:Shared):Prop where
 ok:X.Ok
 os:s.os=X.aQ.os
 bare:AllBare s.gens
 base:Un X.fs X.ex X.lJ H X.aQ.heap s.heap
 loc:∃m,s.heap.Ns X.env.locals m/\∀(i:Nat)(x:Str)(v:V),X.N[i]?=some x->σ[i]?=some (some v)->jH X.env.scope x->∃u,RelV v u/\Look X.env s.heap m x u
 cell:∀x c,X.env.cells.lookup x=some c->∃v,s.heap.IsCell c v
 free:H X.env.locals=none
 eD:∀x c,X.env.cells.lookup x=some c->H c=none
 pin:∀p∈X.pn++pins,s.heap.get? p.1=some p.2/\H p.1=none/\p.1≠X.env.locals/\p.1∉X.fs/\∀v,p.2.data≠.cell v
 ao:cR X.prog X.w H s.heap
 len:σ.length=X.N.length
section
variable {X:Cx}{pins:aJ}{σ:List (Option V)}{H H':Hp}{s:Shared}{h':Heap}
theorem Cx.Ok.QT(ok:X.Ok){b:Addr}{o:Obj}(e:X.base.get? b=some o):b∉X.fs:=fun hb=>by
 have:=(ok.gH.mem hb).1;rw[e] at this;cases this
theorem Inv.bs(I:Inv X pins σ H s):∀b o,X.base.get? b=some o->s.heap.get? b=some o/\H b=none:=fun b o e=>
 ⟨I.base.keep b o (I.ok.bs b o e).1 (I.ok.bs b o e).2 (I.ok.QT e) (I.ok.mX b o e),I.base.free b o (I.ok.bs b o e).1 (I.ok.bs b o e).2 (I.ok.mX b o e)⟩
theorem Inv.bk(I:Inv X pins σ H s):∀b o,X.base.get? b=some o->s.heap.get? b=some o:=fun b o e=>(I.bs b o e).1
theorem Inv.mod(I:Inv X pins σ H s):Mod X.K X.mg X.base:=I.ok.mod
theorem Inv.cJ(I:Inv X pins σ H s):X.K.In s.heap:=I.ok.mod.qh.keeps I.bk
theorem Inv.lt(I:Inv X pins σ H s):X.env.locals<s.heap.objs.size:=let ⟨_,hn,_⟩:=I.loc;hn.lt
theorem Inv.sz(I:Inv X pins σ H s):X.aQ.heap.objs.size<=s.heap.objs.size:=cL I.ok.above (Nat.le_of_lt I.lt)
theorem Inv.Q7(I:Inv X pins σ H s){a:Addr}(h:s.heap.objs.size<=a):a∉X.fs:=fun hb=>by
 obtain⟨_,o,ho,_⟩:=I.ok.gH.mem hb;exact absurd (cM (aY ho) (cL I.sz h)) (tD _)
theorem Inv.qu(I:Inv X pins σ H s):∀x c,X.env.cells.lookup x=some c->c≠X.env.locals:=fun x c e z=>by
 obtain⟨v,o,ho,hd⟩:=I.cell x c e;obtain⟨m,⟨o',es,ep,ho',hd',_⟩,_⟩:=I.loc;rw[z,ho'] at ho;cases ho;rw[hd'] at hd;cases hd
theorem Inv.gH(I:Inv X pins σ H s):s.heap.FunFrames X.base X.outer:=by
 have all:∀(l:List Env),(∀b∈bF l,b∈X.fs)->X.aQ.heap.FunFrames X.base l->s.heap.FunFrames X.base l:=by
  intro l
  induction l with
  |nil=>intro _ _;trivial
  |cons env r ih=>
   intro hs hl;obtain⟨hk,⟨L,o,hf,hn,ho,hd⟩,hr⟩:=hl;have hL:L∈X.fs:=hs L (by unfold bF;rw[Bs,hf];exact gF);obtain⟨sl,e⟩:=I.base.slot L o ho (I.ok.oy L hL) hL fun z=>I.ok.nW L z hL;exact⟨hk,⟨L,_,hf,hn,e,hd⟩,ih (fun b hb=>hs b (by unfold bF;rw[Bs,hf];exact di _ hb)) hr⟩
 exact all X.outer (fun _ hb=>hb) I.ok.gH
theorem Inv.stack(I:Inv X pins σ H s):s.heap.FunFrames X.base X.stack:=by
 rcases I.ok.uK with e|⟨e,hf⟩
 .rw[e];exact I.gH
 .rw[e];obtain⟨m,hn,_⟩:=I.loc;refine .cons (by rw[I.ok.kind];decide) hf hn ?_ I.gH;exact D6 (cL I.ok.mr I.ok.above)
theorem Inv.lV(I:Inv X pins σ H s):∀b∈bF X.stack,b∈X.env.locals::X.fs:=fun b hb=>by
 rcases I.ok.uK with e|⟨e,hf⟩
 .rw[e] at hb;exact di _ hb
 .rw[e] at hb;unfold bF at hb;rw[Bs,hf] at hb;exact hb
theorem Inv.jW(I:Inv X pins σ H s):∀b∈bF X.stack,H b=none:=fun b hb=>by
 rcases cX.mp (I.lV b hb) with e|hb
 .rw[e];exact I.free
 .obtain⟨_,o,ho,_⟩:=I.ok.gH.mem hb;exact I.base.free b o ho (I.ok.oy b hb) fun z=>I.ok.nW b z hb
theorem Inv.step{g':Array GenState}{t':Nat}{d':Drawn}{ch:List Addr}(I:Inv X pins σ H s)
  (hch:∀b∈ch,(b∈X.ex\/X.aQ.heap.objs.size<=b)/\b≠X.env.locals/\(∀x c,X.env.cells.lookup x=some c->c≠b)/\∀p∈X.pn++pins,p.1≠b)
  (keep:∀b o,b≠X.env.locals->b∉X.fs->b∉ch->s.heap.get? b=some o->H b=none->h'.get? b=some o)
  (slot:∀b o,b≠X.env.locals->b∈X.fs->b∉ch->s.heap.get? b=some o->H b=none->∃sl,h'.get? b=some {o with slots:=sl}) (free:∀b o,b∉ch->s.heap.get? b=some o->H b=none->H' b=none)
  (there:∀b o,b∉ch->s.heap.get? b=some o->∃o',h'.get? b=some o')
  (fO:∀b xs,H b=some (.tup xs)->H' b=some (.tup xs)) (ft:∀b o u,H b=some (.bI o u)->H' b=some (.bI o u)) (fR:∀b ps,H b=some (.wQ ps)->∃more,H' b=some (.wQ (ps++more)))
  (ns:∀m,s.heap.Ns X.env.locals m->h'.Ns X.env.locals m) (ao:cR X.prog X.w H' h') (hg:AllBare g'):
  Inv X pins σ H' {s with heap:=h',gens:=g',drawn:=d',toks:=t'}:=by
 have neL:∀b o,X.aQ.heap.get? b=some o->b≠X.env.locals:=fun b o e=>bT (cM (aY e) I.ok.above);have neC:∀b o,X.aQ.heap.get? b=some o->b∉X.ex->b∉ch:=fun b o e hx hb=>by
  rcases (hch b hb).1 with z|z
  .exact hx z
  .exact absurd (cM (aY e) z) (tD _)
 have cellK:∀x c,X.env.cells.lookup x=some c->∀v,s.heap.IsCell c v->h'.IsCell c v:=fun x c e v Z=>Z.g fun o Z=>Z.g fun ho hd=>by
  have nch:c∉ch:=fun z=>(hch c z).2.2.1 x c e rfl;by_cases hc:c∈X.fs
  .obtain⟨sl,q⟩:=slot c o (I.qu x c e) hc nch ho (I.eD x c e);exact⟨_,q,hd⟩
  .exact⟨o,keep c o (I.qu x c e) hc nch ho (I.eD x c e),hd⟩
 refine⟨I.ok,I.os,hg,⟨fun b o e n hb hx=>?_,fun b o e n hb hx=>?_,fun b o e n hx=>?_,fun b o e hx=>?_,fun b xs e=>fO b xs (I.base.fO b xs e),fun b o xs e=>ft b o xs (I.base.ft b o xs e),fun b ps e=>?_⟩,?_,fun x c e=>?_,?_,fun x c e=>?_,fun p hp=>?_,ao,I.len⟩
 .exact keep b o (neL b o e) hb (neC b o e hx) (I.base.keep b o e n hb hx) (I.base.free b o e n hx)
 .obtain⟨sl,e1⟩:=I.base.slot b o e n hb hx;obtain⟨sl',e2⟩:=slot b _ (neL b o e) hb (neC b o e hx) e1 (I.base.free b o e n hx);exact⟨sl',e2⟩
 .obtain⟨o',e1⟩:=I.base.there b o e hx;exact free b o' (neC b o e hx) e1 (I.base.free b o e n hx)
 .obtain⟨o',e1⟩:=I.base.there b o e hx;exact there b o' (neC b o e hx) e1
 .obtain⟨m1,e1⟩:=I.base.fR b ps e;obtain⟨m2,e2⟩:=fR b _ e1;exact⟨m1++m2,by rw[e2,Array.append_assoc]⟩
 .obtain⟨m,hn,hl⟩:=I.loc;refine⟨m,ns m hn,fun i x v e1 e2 e3=>?_⟩;obtain⟨u,r,l⟩:=hl i x v e1 e2 e3;refine⟨u,r,?_⟩;rcases l with l|⟨k,c,e,z⟩
  .exact .inl l
  .exact .inr ⟨k,c,e,cellK x c e _ z⟩
 .obtain⟨v,z⟩:=I.cell x c e;exact⟨v,cellK x c e v z⟩
 .obtain⟨m,⟨o,_,_,ho,_⟩,_⟩:=I.loc;exact free _ o (fun z=>(hch _ z).2.1 rfl) ho I.free
 .obtain⟨v,o,ho,hd⟩:=I.cell x c e;exact free c o (fun z=>(hch c z).2.2.1 x c e rfl) ho (I.eD x c e)
 .obtain⟨e,n,ne,nf,d⟩:=I.pin p hp;have nch:p.1∉ch:=fun z=>(hch p.1 z).2.2.2 p hp rfl;exact⟨keep p.1 p.2 ne nf nch e n,free p.1 p.2 nch e n,ne,nf,d⟩
theorem Inv.un{t':Nat}(I:Inv X pins σ H s)(u:Un X.fs [] H H' s.heap h')(ao:cR X.prog X.w H' h'):Inv X pins σ H' {s with heap:=h',toks:=t'}:=by
 obtain⟨m,⟨o,es,ep,ho,r⟩,_⟩:=id I.loc;obtain⟨sl,hL⟩:=u.any ho I.free (by simp);exact I.step (g':=s.gens) (d':=s.drawn) (ch:=[]) (fun _ z=>nomatch z) (fun b o _ hb _ e n=>u.keep b o e n hb (by simp)) (fun b o _ hb _ e n=>u.slot b o e n hb (by simp)) (fun b o _ e n=>u.free b o e n (by simp)) (fun b o _ e=>u.there b o e (by simp)) u.fO u.ft u.fR (fun m' hm=>by
  obtain⟨o',es',ep',ho',r'⟩:=hm;rw[ho] at ho';cases ho';exact⟨_,es',ep',hL,r'⟩) ao I.bare
theorem Inv.call{g':Array GenState}{t':Nat}{d':Drawn}{ch:List Addr}(I:Inv X pins σ H s)(u:Un (bF X.stack) ch H H' s.heap h')(ao:cR X.prog X.w H' h')(hg:AllBare g')
  (hch:∀b∈ch,(b∈X.ex\/X.aQ.heap.objs.size<=b)/\b≠X.env.locals/\(∀x c,X.env.cells.lookup x=some c->c≠b)/\∀p∈X.pn++pins,p.1≠b):
  Inv X pins σ H' {s with heap:=h',gens:=g',drawn:=d',toks:=t'}:=by
 obtain⟨m,⟨o,es,ep,ho,r⟩,_⟩:=id I.loc;obtain⟨sl,hL⟩:=u.any ho I.free fun z=>(hch _ z).2.1 rfl;exact I.step (ch:=ch) hch (fun b o hL hb hc e n=>u.keep b o e n (fun z=>(cX.mp (I.lV b z)).elim hL hb) hc) (fun b o _ _ hc e n=>u.any e n hc) (fun b o hc e n=>u.free b o e n hc) (fun b o hc e=>u.there b o e hc) u.fO u.ft u.fR (fun m' hm=>by
  obtain⟨o',es',ep',ho',r'⟩:=hm;rw[ho] at ho';cases ho';exact⟨_,es',ep',hL,r'⟩) ao hg
theorem Inv.turned{t':Nat}{it:Addr}(I:Inv X pins σ H s)(k:∀b o,b≠it->s.heap.get? b=some o->h'.get? b=some o)(hn:H it=none)(hL:it≠X.env.locals)
  (h1:it∈X.ex\/X.aQ.heap.objs.size<=it) (h2:∀x c,X.env.cells.lookup x=some c->c≠it) (h3:∀p∈X.pn++pins,p.1≠it):Inv X pins σ H {s with heap:=h',toks:=t'}:=by
 have nit:∀b u,H b=some u->b≠it:=fun b u e z=>by rw[z,hn] at e;cases e
 refine I.step (g':=s.gens) (d':=s.drawn) (ch:=[it]) (fun b hb=>?_) (fun b o _ _ hc e _=>k b o (fun z=>hc (by simp[z])) e) (fun b o _ _ hc e _=>⟨o.slots,k b o (fun z=>hc (by simp[z])) e⟩) (fun _ _ _ _ n=>n)
  (fun b o hc e=>⟨o,k b o (fun z=>hc (by simp[z])) e⟩) (fun _ _ e=>e) (fun _ _ _ e=>e) (fun b ps e=>⟨#[],by rw[e];simp⟩) (fun m hm=>?_) (fun b u e=>?_) I.bare
 .have e:b=it:=by simpa using hb
  subst e;exact⟨h1,hL,h2,h3⟩
 .obtain⟨o,es,ep,ho,r⟩:=hm;exact⟨o,es,ep,k _ o (aX hL) ho,r⟩
 .refine (I.ao b u e).fq (fun c v hc q=>k c v ?_ q) (fun _ q=>q) fun _ _ q=>q;rcases hc with z|z
  .rw[z];exact nit b u e
  .exact nit c _ z
theorem Inv.tok(I:Inv X pins σ H s)(t:Nat):Inv X pins σ H {s with toks:=t}:=I.un (h':=s.heap) (t':=t) Un.refl I.ao
theorem Inv.kept{t':Nat}(I:Inv X pins σ H s)(k:∀b u,s.heap.get? b=some u->h'.get? b=some u):Inv X pins σ H {s with heap:=h',toks:=t'}:=I.un (Un.kept k) (I.ao.kept k)
theorem Inv.laid{a:Addr}{o:HO}{t':Nat}(I:Inv X pins σ H s)(k:∀b u,s.heap.get? b=some u->h'.get? b=some u)(hp:s.heap.objs.size<=a)(new:bM X.prog X.w (upd H a o) h' a o):
  Inv X pins σ (upd H a o) {s with heap:=h',toks:=t'}:=I.un (Un.laid k hp (I.ao.fresh hp)) (I.ao.laid k hp new)
theorem Inv.write{x e:Addr}{o:HO}{t':Nat}(I:Inv X pins σ H s)(mu:Bx (H x))(he:e=x\/H e=some (.own x))(k:∀b u,b≠e->s.heap.get? b=some u->h'.get? b=some u)(heo:∃u,h'.get? e=some u)
  (new:bM X.prog X.w (upd H x o) h' x o):Inv X pins σ (upd H x o) {s with heap:=h',toks:=t'}:=I.un (Un.write mu he k heo) (I.ao.write mu he k heo new)
theorem Inv.zy{pins':aJ}(I:Inv X pins σ H s)(h:∀p∈pins',s.heap.get? p.1=some p.2/\H p.1=none/\p.1≠X.env.locals/\p.1∉X.fs/\∀v,p.2.data≠.cell v):Inv X pins' σ H s:=
 ⟨I.ok,I.os,I.bare,I.base,I.loc,I.cell,I.free,I.eD,fun p hp=>(n9.mp hp).elim (fun z=>I.pin p (List.mem_append_left _ z)) (h p),I.ao,I.len⟩
theorem rj{N:List Str}(hN:N.Nodup){i j:Nat}{x:Str}(a:N[i]?=some x)(b:N[j]?=some x):i=j:=by obtain⟨h1,e1⟩:=dE.mp a;obtain⟨h2,e2⟩:=dE.mp b;exact (List.getElem_inj hN).mp (e1.trans e2.symm)
theorem Cf{M:Model}{A:Around}{E:aH}{i:Nat}{x:Str}{v:V}{u:Value}{Q:Unit->Shared->Prop}(I:Inv X pins σ H s)(hN:X.N.Nodup)(hi:X.N[i]?=some x)(hx:Loc X.env.scope x)(r:RelV v u)
  (h:∀s',Inv X pins (σ.set i (some v)) H s'->(∃a,Heap.SameBut a s.heap s'.heap/\(a=X.env.locals\/X.env.cells.lookup x=some a))->Q () s') (hf:X.fn x=true\/X.env.scope.names.lookup x=some .local:=by first|exact .inl rfl|exact .inr rfl|assumption):wpAny M A (storeName X.env x u) Q E s:=by
 obtain⟨m,hn,hl⟩:=id I.loc;have hcls:(X.env.scope.kind== .class || (X.env.scope.kind== .module&&X.env.locals != X.env.globals))=false:=by rw[I.ok.kind];rfl
 have hiσ:i<σ.length:=by rw[I.len];exact (dE.mp hi).1
 have qu:=I.qu;have tracked:∀{a:Addr}{h':Heap},(∃o,s.heap.get? a=some o/\H a=none)->Heap.SameBut a s.heap h'->cR X.prog X.w H h':=fun {a h'} ha hs b ob e=>by
  obtain⟨_,_,hfree⟩:=ha;refine (I.ao b ob e).fq (fun c w' hc q=>(hs.2 c ?_).trans q) (fun _ q=>q) fun _ _ q=>q
  rintro rfl
  rcases hc with rfl|hc
  .rw[hfree] at e;cases e
  .rw[hfree] at hc;cases hc
 rcases hx with hk|hk
 .refine wpAny_storeName_local hk hn (fun h' hn' hs=>?_) hcls;obtain⟨oL,_,_,hoL,_⟩:=id hn;refine h _ ⟨I.ok,I.os,I.bare,⟨fun b o e n hb hx=>?_,fun b o e n hb hx=>?_,I.base.free,fun b o e hx=>?_,I.base.fO,I.base.ft,I.base.fR⟩,⟨_,hn',fun j y v' e1 e2 e3=>?_⟩,fun y c e=>?_,I.free,I.eD,fun p hp=>?_,tracked ⟨oL,hoL,I.free⟩ hs,by simpa using I.len⟩ ⟨_,hs,.inl rfl⟩
  .exact (hs.2 b (bT (cM (aY e) I.ok.above))).trans (I.base.keep b o e n hb hx)
  .obtain⟨sl,e1⟩:=I.base.slot b o e n hb hx;exact⟨sl,(hs.2 b (bT (cM (aY e) I.ok.above))).trans e1⟩
  .obtain⟨o',e1⟩:=I.base.there b o e hx;exact⟨o',(hs.2 b (bT (cM (aY e) I.ok.above))).trans e1⟩
  .by_cases hj:j=i
   .subst hj;rw[hi] at e1;cases e1;rw[iu hiσ] at e2;cases e2;exact⟨u,r,.inl ⟨hk,by simp⟩⟩
   .rw[iy (aX hj)] at e2;obtain⟨u',r',q⟩:=hl j y v' e1 e2 e3;refine⟨u',r',?_⟩;rcases q with ⟨k,e⟩|⟨k,c,e,z⟩
    .refine .inl ⟨k,?_⟩;have:y≠x:=fun e=>hj (rj hN e1 (e▸hi));simp[this,e]
    .exact .inr ⟨k,c,e,z.sameBut hs (qu y c e)⟩
  .obtain⟨w',z⟩:=I.cell y c e;exact⟨w',z.sameBut hs (qu y c e)⟩
  .obtain⟨e,n,ne,nf,d⟩:=I.pin p hp;exact⟨(hs.2 p.1 ne).trans e,n,ne,nf,d⟩
 .have hfn:X.fn x=true:=by
   rcases hf with z|z
   .exact z
   .rw[z] at hk;cases hk
  obtain⟨c,hc⟩:=I.ok.has x (.inl hk);obtain⟨w',z⟩:=I.cell x c hc;refine wpAny_storeName_cell I.ok.kind hk hc z (fun h' hc' hs=>?_);obtain⟨oc,hoc,hocd⟩:=id z;refine h {s with heap:=h'} ⟨I.ok,I.os,I.bare,⟨fun b o e n hb hx=>?_,fun b o e n hb hx=>?_,I.base.free,fun b o e hx=>?_,I.base.fO,I.base.ft,I.base.fR⟩,⟨m,hn.sameBut hs (aX (qu x c hc)),fun j y v' e1 e2 e3=>?_⟩,fun y c' e=>?_,I.free,I.eD,fun p hp=>?_,tracked ⟨oc,hoc,I.eD x c hc⟩ hs,by simpa using I.len⟩ ⟨c,hs,.inr hc⟩
  .exact (hs.2 b (bT (cM (aY e) (I.ok.si x c hfn hc)))).trans (I.base.keep b o e n hb hx)
  .obtain⟨sl,e1⟩:=I.base.slot b o e n hb hx;exact⟨sl,(hs.2 b (bT (cM (aY e) (I.ok.si x c hfn hc)))).trans e1⟩
  .obtain⟨o',e1⟩:=I.base.there b o e hx;exact⟨o',(hs.2 b (bT (cM (aY e) (I.ok.si x c hfn hc)))).trans e1⟩
  .by_cases hj:j=i
   .subst hj;rw[hi] at e1;cases e1;rw[iu hiσ] at e2;cases e2;exact⟨u,r,.inr ⟨.inl hk,c,hc,hc'⟩⟩
   .rw[iy (aX hj)] at e2;obtain⟨u',r',q⟩:=hl j y v' e1 e2 e3;refine⟨u',r',?_⟩;rcases q with q|⟨k,c',e,z'⟩
    .exact .inl q
    .refine .inr ⟨k,c',e,z'.sameBut hs ?_⟩
     rintro rfl
     exact hj (rj hN e1 (I.ok.inj _ _ _ e hc▸hi))
  .by_cases hcc:c'=c
   .subst hcc;exact⟨_,hc'⟩
   .obtain⟨w2,z2⟩:=I.cell y c' e;exact⟨w2,z2.sameBut hs hcc⟩
  .obtain⟨e,n,ne,nf,d⟩:=I.pin p hp;refine⟨(hs.2 p.1 ?_).trans e,n,ne,nf,d⟩;intro q;rw[q,hoc] at e;have q':oc=p.2:=eE e;exact d w' (by rw[<-q'];exact hocd)
theorem iR{M:Model}{A:Around}{E:aH}{i:Nat}{x:Str}{v:V}{u:Value}{Q:Unit->Shared->Prop}(I:Inv X pins σ H s)(hN:X.N.Nodup)(hi:X.N[i]?=some x)(hx:Loc X.env.scope x)(r:RelV v u)
  (h:∀s',Inv X pins (σ.set i (some v)) H s'->Q () s') (hf:X.fn x=true\/X.env.scope.names.lookup x=some .local:=by first|exact .inl rfl|exact .inr rfl|assumption):wpAny M A (storeName X.env x u) Q E s:=
 Cf I hN hi hx r (fun s' I' _=>h s' I') hf
theorem Inv.FJ{s':Shared}{ch:List Addr}(I:Inv X pins σ H s)(ho:s'.os=s.os)(u:Un (bF X.stack) ch H H' s.heap s'.heap)(ao:cR X.prog X.w H' s'.heap)(hg:AllBare s'.gens)
  (hch:∀b∈ch,(b∈X.ex\/X.aQ.heap.objs.size<=b)/\b≠X.env.locals/\(∀x c,X.env.cells.lookup x=some c->c≠b)/\∀p∈X.pn++pins,p.1≠b):Inv X pins σ H' s':=by
 obtain⟨h',g',d',t',o'⟩:=s';have e:o'=s.os:=ho;subst e;exact I.call (g':=g') (t':=t') (d':=d') u ao hg hch
end
abbrev XK:=Value->Option Addr->Hp->Prop
noncomputable abbrev St:=List (Option V)
abbrev VK:=V->Hp->Prop
abbrev TE:=St->Hp->VK->Prop
abbrev TT:=St->Hp->(Bool->Hp->Prop)->Prop
abbrev TA:=St->Hp->(List V->Hp->Prop)->Prop
structure Ends where
 nx:St->Hp->Prop
 rt:VK
 bk:St->Hp->Prop:=fun _ _=>False
 ct:St->Hp->Prop:=fun _ _=>False
abbrev TS:=Ends->St->Hp->Prop
def EP(X:Cx)(pins:aJ)(σ:St)(Q:VK)(u:Value)(s':Shared):Prop:=∃v H',Inv X pins σ H' s'/\RelV v u/\Q v H'
def TP(X:Cx)(pins:aJ)(σ:St)(Q:Bool->Hp->Prop)(b:Bool)(s':Shared):Prop:=∃H',Inv X pins σ H' s'/\Q b H'
def AP(X:Cx)(pins:aJ)(σ:St)(Q:List V->Hp->Prop)(us:List Value)(s':Shared):Prop:=∃vs H',Inv X pins σ H' s'/\Vals vs us/\Q vs H'
def SP(X:Cx)(pins:aJ)(D:Ends)(f:Flow)(s':Shared):Prop:=
 match f with
 |.next=>∃σ' H',Inv X pins σ' H' s'/\D.nx σ' H'
 |.brk=>∃σ' H',Inv X pins σ' H' s'/\D.bk σ' H'
 |.cont=>∃σ' H',Inv X pins σ' H' s'/\D.ct σ' H'
 |.ret u=>∃v σ' H',Inv X pins σ' H' s'/\RelV v u/\D.rt v H'
def PE(X:Cx)(e:Expr)(t:TE):Prop:=
 ∀(pins:aJ)(s:Shared)(σ:St)(H:Hp)(Q:VK),Inv X pins σ H s->t σ H Q->wpAny (model X.prog X.w) X.A (eval e X.env) (EP X pins σ Q) X.xe s
def PT(X:Cx)(e:Expr)(t:TT):Prop:=
 ∀(pins:aJ)(s:Shared)(σ:St)(H:Hp)(Q:Bool->Hp->Prop),Inv X pins σ H s->t σ H Q->wpAny (model X.prog X.w) X.A (isTrue e X.env (eval e X.env)) (TP X pins σ Q) X.xe s
def PW(X:Cx)(e:Expr)(t:TT):Prop:=
 ∀(whole:Sem Value)(pins:aJ)(s:Shared)(σ:St)(H:Hp)(Q:Bool->Hp->Prop),Inv X pins σ H s->t σ H Q->wpAny (model X.prog X.w) X.A (isTrue e X.env whole) (TP X pins σ Q) X.xe s
theorem PW.pt{X:Cx}{e:Expr}{t:TT}(h:PW X e t):PT X e t:=h _
def PA(X:Cx)(es:List Expr)(t:TA):Prop:=
 ∀(pos:Pos)(pins:aJ)(s:Shared)(σ:St)(H:Hp)(Q:List V->Hp->Prop),Inv X pins σ H s->t σ H Q->wpAny (model X.prog X.w) X.A (spliced (backTo pos (starEach es X.env))) (AP X pins σ Q) X.xe s
def PS(X:Cx)(st:Stmt)(t:TS):Prop:=
 ∀(pins:aJ)(s:Shared)(σ:St)(H:Hp)(D:Ends),Inv X pins σ H s->t D σ H->wpAny (model X.prog X.w) X.A (exec st X.env) (SP X pins D) X.xe s
def dU(X:Cx)(st:List Stmt)(t:TS):Prop:=
 ∀(pins:aJ)(s:Shared)(σ:St)(H:Hp)(D:Ends),Inv X pins σ H s->t D σ H->wpAny (model X.prog X.w) X.A (execs st X.env) (SP X pins D) X.xe s
theorem az{α:Type}{t:Sem α}{Q Q':α->Shared->Prop}{M:Model}{A:Around}{E:aH}{s:Shared}(h:wpAny M A t Q E s)(hQ:∀a s,Q a s->Q' a s):wpAny M A t Q' E s:=eX h hQ fun _ _ x=>x
section
variable {X:Cx}
noncomputable def xE(i:Nat):TE:=fun σ H Q=>∃v,σ[i]?=some (some v)/\Q v H
def tC(v:V):TE:=fun _ H Q=>Q v H
theorem lR{i:Nat}{x:Str}{pos:Pos}(hN:X.N[i]?=some x)(hv:jH X.env.scope x)(hd:(x== ("__debug__" : Str))=false:=by decide)(hcd:(x== ("__classdict__" : Str))=false:=by decide):PE X (.Name x pos) (xE i):=by
 intro pins s σ H Q I h;obtain⟨v,e,h⟩:=h;obtain⟨m,hn,hl⟩:=I.loc;obtain⟨u,r,l⟩:=hl i x v hN e hv;have fin:EP X pins σ Q u s:=⟨v,H,I,r,h⟩;rcases l with ⟨hk,hm⟩|⟨hk,c,hc,hcell⟩
 .exact wpAny_Name (wpAny_loadName_local I.ok.kind hk hn hm fin) hd
 .rcases hk with hk|hk
  .exact wpAny_Name (wpAny_loadName_cell I.ok.kind hk hc hcell fin) hd
  .exact wpAny_Name (wpAny_loadName_free I.ok.kind hk hc hcell fin hcd) hd
theorem JQ{i j pos}:PE X (.Constant (.int i) j pos) (tC (.int i)):=fun _ _ _ H _ I h=>wpAny_Constant_int ⟨.int i,H,I.tok _,⟨_,rfl⟩,h⟩
theorem Nn{b j pos}:PE X (.Constant (.bool b) j pos) (tC (.bl b)):=fun _ _ _ H _ I h=>Constant_bool ⟨.bl b,H,I,rfl,h⟩
theorem JM{j pos}:PE X (.Constant .none j pos) (tC .ak):=fun _ _ _ H _ I h=>Constant_none ⟨.ak,H,I,rfl,h⟩
theorem BA{x j pos}:PE X (.Constant (.str x) j pos) (tC (.str x)):=fun _ _ _ H _ I h=>Calls.Constant_str ⟨.str x,H,I.tok _,⟨_,rfl⟩,h⟩
def Gl(X:Cx)(x:Str):Prop:=X.env.kindOf x=some .globalImplicit
theorem fZ{E:aH}{pins:aJ}{s:Shared}{σ:St}{H:Hp}{x:Str}{u:Value}{pos:Pos}{Q:aH}(I:Inv X pins σ H s)(hg:Gl X x)(hm:X.mg x=some u)(h:Q u s)
  (hd:(x== ("__debug__" : Str))=false:=by decide):wpAny (model X.prog X.w) X.A (eval (.Name x pos) X.env) Q E s:=
 Calls.Name_function_global I.ok.kind hg (Calls.loadGlobal_global (by rw[I.ok.glob];exact I.mod.glob.keeps I.bk) hm h) hd
theorem j3{E:aH}{pins:aJ}{s:Shared}{σ:St}{H:Hp}{x:Str}{u:Value}{pos:Pos}{Q:aH}(I:Inv X pins σ H s)(hg:Gl X x)(hm:X.mg x=none)(hv:bootBuiltins x=some u)(h:Q u s)
  (hn:x≠ "__name__" := by decide) (hd:(x== ("__debug__" : Str))=false:=by decide):wpAny (model X.prog X.w) X.A (eval (.Name x pos) X.env) Q E s:=by
 obtain⟨mb,h1,h2⟩:=I.mod.blt;exact Calls.Name_function_global I.ok.kind hg (Calls.loadGlobal_builtin (by rw[I.ok.glob];exact I.mod.glob.keeps I.bk) hm (by rw[I.ok.blt];exact h1.keeps I.bk) ((h2 x hn).trans hv) h) hd
theorem tu{x:Str}{v:V}{u:Value}{pos:Pos}(hg:Gl X x)(hm:X.mg x=some u)(r:RelV v u)(hd:(x== ("__debug__" : Str))=false:=by decide):PE X (.Name x pos) (tC v):=
 fun _ _ _ H _ I h=>fZ I hg hm ⟨v,H,I,r,h⟩ hd
variable {a b:Expr}{ta tb:TE}{pos:Pos}
variable {tA tB':TT}{rest:List Expr}
noncomputable def Qb(t u:TT):TT:=fun σ H Q=>t σ H fun c H1=>if c=true then u σ H1 Q else Q false H1
noncomputable def Rv(t u:TT):TT:=fun σ H Q=>t σ H fun c H1=>if c=true then Q true H1 else u σ H1 Q
def PL(t:TT):TT:=fun σ H Q=>t σ H fun c H1=>Q (!c) H1
theorem Ia(ha:PT X a tA):PW X (.BoolOp .And [a] pos) tA:=by
 intro wh pins s σ H Q I h;refine isTrue_and (az (ha pins s σ H Q I h) fun c s1 e=>?_);cases c with
 |true=>exact isTrue_and_nil e
 |false=>exact e
theorem IU(ha:PT X a tA):PW X (.BoolOp .Or [a] pos) tA:=by
 intro wh pins s σ H Q I h;refine isTrue_or (az (ha pins s σ H Q I h) fun c s1 e=>?_);cases c with
 |false=>exact isTrue_or_nil e
 |true=>exact e
theorem JI(ha:PT X a tA)(hb:PW X (.BoolOp .And (b::rest) pos) tB'):PW X (.BoolOp .And (a::b::rest) pos) (Qb tA tB'):=by
 intro wh pins s σ H Q I h;refine isTrue_and (az (ha pins s σ H _ I h) fun c s1 Z=>Z.g fun H1 Z=>Z.g fun I1 q1=>?_);cases c with
 |true=>exact hb wh pins s1 σ H1 Q I1 q1
 |false=>exact⟨H1,I1,q1⟩
theorem Ni(ha:PT X a tA)(hb:PW X (.BoolOp .Or (b::rest) pos) tB'):PW X (.BoolOp .Or (a::b::rest) pos) (Rv tA tB'):=by
 intro wh pins s σ H Q I h;refine isTrue_or (az (ha pins s σ H _ I h) fun c s1 Z=>Z.g fun H1 Z=>Z.g fun I1 q1=>?_);cases c with
 |true=>exact⟨H1,I1,q1⟩
 |false=>exact hb wh pins s1 σ H1 Q I1 q1
theorem KR(ha:PT X a tA):PT X (.UnaryOp .Not a pos) (PL tA):=by intro pins s σ H Q I h;exact isTrue_not (ha pins s σ H (fun c H1=>Q (!c) H1) I h)
noncomputable def NN(ta tb:TE):TE:=fun σ H Q=>ta σ H fun x H1=>∃c,x=.bl c/\if c=true then tb σ H1 Q else Q (.bl false) H1
noncomputable def PK(ta tb:TE):TE:=fun σ H Q=>ta σ H fun x H1=>∃c,x=.bl c/\if c=true then Q (.bl true) H1 else tb σ H1 Q
theorem IF{op}{t:TE}(h:PE X a t):PE X (.BoolOp op [a] pos) t:=fun pins s σ H Q I hw=>BoolOp_one (h pins s σ H Q I hw)
theorem Kj(ha:PE X a ta)(hb:PE X (.BoolOp .And (b::rest) pos) tb):PE X (.BoolOp .And (a::b::rest) pos) (NN ta tb):=by
 intro pins s σ H Q I h;refine BoolOp_and (az (ha pins s σ H _ I h) fun v s1 Z=>Z.g4 fun x H1 I1 r1 q1=>?_);obtain⟨c,rfl,q1⟩:=q1;cases r1;refine pO ?_;cases c with
 |true=>exact hb pins s1 σ H1 Q I1 q1
 |false=>exact⟨.bl false,H1,I1,rfl,q1⟩
theorem M5(ha:PE X a ta)(hb:PE X (.BoolOp .Or (b::rest) pos) tb):PE X (.BoolOp .Or (a::b::rest) pos) (PK ta tb):=by
 intro pins s σ H Q I h;refine BoolOp_or (az (ha pins s σ H _ I h) fun v s1 Z=>Z.g4 fun x H1 I1 r1 q1=>?_);obtain⟨c,rfl,q1⟩:=q1;cases r1;refine pO ?_;cases c with
 |false=>exact hb pins s1 σ H1 Q I1 q1
 |true=>exact⟨.bl true,H1,I1,rfl,q1⟩
noncomputable def RG(t:TT)(ta tb:TE):TE:=fun σ H Q=>t σ H fun c H1=>if c=true then ta σ H1 Q else tb σ H1 Q
theorem Ef{c:Expr}(hc:PT X c tA)(ha:PE X a ta)(hb:PE X b tb):PE X (.IfExp c a b pos) (RG tA ta tb):=by
 intro pins s σ H Q I h;refine wpAny_IfExp (az (hc pins s σ H _ I h) fun d s1 Z=>Z.g fun H1 Z=>Z.g fun I1 q1=>?_);cases d with
 |true=>exact ha pins s1 σ H1 Q I1 q1
 |false=>exact hb pins s1 σ H1 Q I1 q1
end
def bB(K:W.Frag)(H:Hp)(a:Addr)(xs:List V):Prop:=
 Rd H a (.lst xs)\/
  ∃(o:Obj) (its:Array Value) (n:Nat),K.lookup a=some o/\o.cls=.type "list" /\o.dict=none/\o.data=.seq its n/\its.size<=sizeLine/\Vals xs its.toList
def df(K:W.Frag)(H:Hp)(a:Addr)(xs:List V):Prop:=
 Rd H a (.tup xs)\/
  ∃(o:Obj) (its:Array Value) (n:Nat),K.lookup a=some o/\o.cls=.type "tuple" /\o.data=.seq its n/\its.size<=sizeLine/\Vals xs its.toList
noncomputable def P0:Value->Option V
 |.none=>some .ak
 |.bool b=>some (.bl b)
 |.int i _=>some (.int i)
 |.str x _=>some (.str x)
 |.bytes b _=>some (.byt b)
 |.float b _=>some (.flt b)
 |.ref a=>some (.ref a)
 |.type n=>some (.ty n)
 |_=>none
theorem RelV.abs{x:V}{u:Value}(r:RelV x u):P0 u=some x:=by
 cases x with
 |ak=>cases r;rfl
 |bl _=>cases r;rfl
 |int _=>obtain⟨t,rfl⟩:=r;rfl
 |str _=>obtain⟨t,rfl⟩:=r;rfl
 |byt _=>obtain⟨t,rfl⟩:=r;rfl
 |flt _=>obtain⟨t,rfl⟩:=r;rfl
 |ref _=>cases r;rfl
 |ty _=>cases r;rfl
theorem RelV.inj{x y:V}{u:Value}(r:RelV x u)(q:RelV y u):x=y:=eE (r.abs.symm.trans q.abs)
theorem Vals.inj:∀{xs ys:List V}{us:List Value},Vals xs us->Vals ys us->xs=ys
 |_,_,_,.nil,.nil=>rfl
 |_,_,_,.cons r t,.cons r' t'=>by rw[r.inj r',Vals.inj t t']
section
variable {X:Cx}{pins:aJ}{σ:St}{H:Hp}{s:Shared}{a:Addr}{xs ys:List V}
theorem bB.of{K:W.Frag}(h:H a=some (.lst xs)):bB K H a xs:=.inl (.inl h)
theorem df.of{K:W.Frag}(h:H a=some (.tup xs)):df K H a xs:=.inl (.inl h)
theorem Inv.list(I:Inv X pins σ H s)(h:bB X.K H a xs):∃its:List Value,Vals xs its/\PlainL s.heap a its.toArray/\xs.length<=sizeLine:=by
 rcases h with h|⟨o,its,n,hk,hc,hd,hs,hz,r⟩
 .obtain⟨z,its,n,r,e⟩:=h.ok I.ao;exact⟨its,r,⟨_,n,e,rfl,rfl,rfl⟩,z⟩
 .refine⟨its.toList,r,⟨o,n,I.cJ a o hk,hc,hd,by simpa using hs⟩,?_⟩;have e:=r.length;simp only[GD] at e;omega
theorem Inv.tuple(I:Inv X pins σ H s)(h:df X.K H a xs):∃its:List Value,Vals xs its/\IsTup s.heap a its.toArray/\xs.length<=sizeLine:=by
 rcases h with h|⟨o,its,n,hk,hc,hs,hz,r⟩
 .obtain⟨z,its,r,p⟩:=h.ok I.ao;exact⟨its,r,p,z⟩
 .refine⟨its.toList,r,⟨o,I.cJ a o hk,hc,n,by simpa using hs⟩,?_⟩;have e:=r.length;simp only[GD] at e;omega
theorem Inv.rh(I:Inv X pins σ H s)(h:bB X.K H a xs)(h':bB X.K H a ys):xs=ys:=by
 obtain⟨its,r,⟨o,n,e,_,_,d⟩,_⟩:=I.list h;obtain⟨its',r',⟨o',n',e',_,_,d'⟩,_⟩:=I.list h';rw[e] at e';cases e';rw[d] at d';injection d' with d1 _;have:its=its':=by simpa using gU Array.toList d1
 subst this;exact r.inj r'
theorem Inv.uC(I:Inv X pins σ H s)(h:df X.K H a xs)(h':df X.K H a ys):xs=ys:=by
 obtain⟨its,r,⟨o,e,_,n,d⟩,_⟩:=I.tuple h;obtain⟨its',r',⟨o',e',_,n',d'⟩,_⟩:=I.tuple h';rw[e] at e';cases e';rw[d] at d';injection d' with d1 _;have:its=its':=by simpa using gU Array.toList d1
 subst this;exact r.inj r'
end
noncomputable abbrev Cx.kf(X:Cx)(E:aH):Cx:={X with xe:=E}
abbrev Cx.qe(X:Cx):Cx:=X.kf fun _ _=>False
theorem Cx.Ok.kf{X:Cx}(ok:X.Ok)(E:aH):(X.kf E).Ok:=
 ⟨ok.mod,ok.kind,ok.glob,ok.blt,ok.above,ok.inj,ok.has,ok.si,ok.hd,ok.frames,ok.uK,ok.yV,ok.bs,ok.mr,ok.mX,ok.nW,ok.gH,ok.oy⟩
theorem Cx.Ok.j6{X:Cx}{E:aH}(ok:(X.kf E).Ok):X.Ok:=
 ⟨ok.mod,ok.kind,ok.glob,ok.blt,ok.above,ok.inj,ok.has,ok.si,ok.hd,ok.frames,ok.uK,ok.yV,ok.bs,ok.mr,ok.mX,ok.nW,ok.gH,ok.oy⟩
section
variable {X:Cx}{pins:aJ}{σ:St}{H:Hp}{s:Shared}{E:aH}
theorem Inv.kf(I:Inv X pins σ H s)(E:aH):Inv (X.kf E) pins σ H s:=⟨I.ok.kf E,I.os,I.bare,I.base,I.loc,I.cell,I.free,I.eD,I.pin,I.ao,I.len⟩
theorem Inv.j6(I:Inv (X.kf E) pins σ H s):Inv X pins σ H s:=⟨I.ok.j6,I.os,I.bare,I.base,I.loc,I.cell,I.free,I.eD,I.pin,I.ao,I.len⟩
end
section
variable {X:Cx}{st:Stmt}{rest:List Stmt}{t u:TS}{e:Expr}{te:TE}{pos:Pos}
noncomputable def zW:TS:=fun D σ H=>D.nx σ H
def DL(t u:TS):TS:=fun D σ H=>t {D with nx:=u D} σ H
theorem zk:dU X [] zW:=fun _ _ σ H _ I h=>k6 ⟨σ,H,I,h⟩
theorem q8(h1:PS X st t)(h2:dU X rest u):dU X (st::rest) (DL t u):=by
 intro pins s σ H D I h;refine vv (az (h1 pins s σ H {D with nx:=u D} I h) fun f s1 q=>?_);cases f with
 |next=>
  obtain⟨σ',H',I',q⟩:=q;exact h2 pins s1 σ' H' D I' q
 |ret v=>exact q
 |brk=>exact q
 |cont=>exact q
theorem Ie(h1:PS X st t):dU X [st] t:=by
 intro pins s σ H D I h;refine vv (az (h1 pins s σ H D I h) fun f s1 q=>?_);cases f with
 |next=>exact k6 q
 |ret v=>exact q
 |brk=>exact q
 |cont=>exact q
noncomputable def L9:TS:=fun D σ H=>D.bk σ H
noncomputable def M9:TS:=fun D σ H=>D.ct σ H
theorem G4:PS X (.Pass pos) zW:=fun _ _ σ H _ I h=>wpAny_Pass ⟨σ,H,I,h⟩
theorem Dx:PS X (.Break pos) L9:=fun _ _ σ H _ I h=>wpAny_Break ⟨σ,H,I,h⟩
theorem ye:PS X (.Continue pos) M9:=fun _ _ σ H _ I h=>wpAny_Continue ⟨σ,H,I,h⟩
theorem Inv.quiet{pins:aJ}{σ:St}{H:Hp}{s:Shared}(I:Inv X pins σ H s):interactive X.env=false:=by simp[interactive,I.ok.kind]
def Gj(te:TE):TS:=fun D σ H=>te σ H fun _ H1=>D.nx σ H1
theorem yD(he:PE X e te)(hs:swapsWith e none pos.line X.env=pure false:=by rfl):PS X (.Expr e pos) (Gj te):=by intro pins s σ H D I h;exact wpAny_Expr_any (az (he pins s σ H _ I h) fun v s1 Z=>Z.g4 fun x H1 I1 r1 q1=>⟨σ,H1,I1,q1⟩) I.quiet hs
def PQ(te:TE):TS:=fun D σ H=>te σ H D.rt
theorem JH(he:PE X e te):PS X (.Return (some e) pos) (PQ te):=by intro pins s σ H D I h;exact Bc (az (he pins s σ H _ I h) fun v s1 Z=>Z.g4 fun x H1 I1 r1 q1=>⟨x,σ,H1,I1,r1,q1⟩)
noncomputable def Nx:TS:=fun D _ H=>D.rt .ak H
theorem Hk:PS X (.Return none pos) Nx:=fun _ _ σ H _ I h=>wpAny_Return_none ⟨.ak,σ,H,I,rfl,h⟩
noncomputable def QL(c:TT)(t u:TS):TS:=fun D σ H=>c σ H fun b H1=>if b=true then t D σ H1 else u D σ H1
theorem NP{c:Expr}{a b:List Stmt}{tc:TT}(hc:PT X c tc)(ha:dU X a t)(hb:dU X b u):PS X (.If c a b pos) (QL tc t u):=by
 intro pins s σ H D I h;refine wpAny_If (az (hc pins s σ H _ I h) fun d s1 Z=>Z.g fun H1 Z=>Z.g fun I1 q1=>?_);cases d with
 |true=>exact ha pins s1 σ H1 D I1 q1
 |false=>exact hb pins s1 σ H1 D I1 q1
end
abbrev TG:=V->St->Hp->(St->Hp->Prop)->Prop
abbrev vK:=List V->St->Hp->(St->Hp->Prop)->Prop
def PG(X:Cx)(target:Expr)(t:TG):Prop:=
 ∀(pins:aJ)(s:Shared)(σ:St)(H:Hp)(v:V)(u:Value)(Q:St->Hp->Prop),Inv X pins σ H s->RelV v u->t v σ H Q->
  wpAny (model X.prog X.w) X.A (assign target X.env u) (fun _ s'=>∃σ' H',Inv X pins σ' H' s'/\Q σ' H') X.xe s
def Gp(X:Cx)(ts:List Expr)(t:vK):Prop:=
 ∀(pins:aJ)(s:Shared)(σ:St)(H:Hp)(vs:List V)(us:List Value)(Q:St->Hp->Prop),Inv X pins σ H s->Vals vs us->t vs σ H Q->
  wpAny (model X.prog X.w) X.A (assignInOrder ((assignEach ts X.env).map (·.2)) us) (fun _ s'=>∃σ' H',Inv X pins σ' H' s'/\Q σ' H') X.xe s
abbrev AE:=V->V->V->Hp->(Hp->Prop)->Prop
def nP(X:Cx)(t:AE):Prop:=
 ∀(pins:aJ)(s:Shared)(σ:St)(H:Hp)(o i v:V)(ov iv u:Value)(Q:Hp->Prop),Inv X pins σ H s->RelV o ov->RelV i iv->RelV v u->t o i v H Q->
  wpAny (model X.prog X.w) X.A (setItem ov iv u) (fun _ s'=>∃H',Inv X pins σ H' s'/\Q H') X.xe s
abbrev Gw:=V->V->Hp->VK->Prop
def Og(X:Cx)(op:Operator)(t:Gw):Prop:=
 ∀(pins:aJ)(s:Shared)(σ:St)(H:Hp)(x y:V)(v u:Value)(Q:VK),Inv X pins σ H s->RelV x v->RelV y u->t x y H Q->
  wpAny (model X.prog X.w) X.A (inplaceOp op v u) (EP X pins σ Q) X.xe s
section
variable {X:Cx}{pos:Pos}
def fI(i:Nat):TG:=fun v σ H Q=>Q (σ.set i (some v)) H
theorem lY{i:Nat}{x:Str}(hN:X.N.Nodup)(hi:X.N[i]?=some x)(hx:Loc X.env.scope x)(hf:X.fn x=true\/X.env.scope.names.lookup x=some .local:=by first|exact .inl rfl|exact .inr rfl|assumption):PG X (.Name x pos) (fI i):=by intro pins s σ H v u Q I r h;exact wpAny_assign_Name (iR I hN hi hx r (fun s' I'=>⟨_,H,I',h⟩) hf)
noncomputable def Ak:vK:=fun vs σ H Q=>vs=[]/\Q σ H
noncomputable def mS(t:TG)(u:vK):vK:=fun vs σ H Q=>∃v r,vs=v::r/\t v σ H fun σ' H'=>u r σ' H' Q
theorem tm:Gp X [] Ak:=by intro pins s σ H vs us Q I r h;obtain⟨e,h⟩:=h;subst e;cases r;exact assignInOrder_nil ⟨σ,H,I,h⟩
theorem i9{e:Expr}{es:List Expr}{t:TG}{u:vK}(h1:PG X e t)(h2:Gp X es u)
  (hs:(assignEach (e::es) X.env).map (·.2)=assign e X.env::(assignEach es X.env).map (·.2):=by rfl):Gp X (e::es) (mS t u):=by
 intro pins s σ H vs us Q I r h;obtain⟨v,vr,e1,h⟩:=h;subst e1;cases r with
 |cons r rr=>
  rw[hs];refine assignInOrder_cons (az (h1 pins s σ H _ _ _ I r h) fun _ s1 Z=>Z.g fun σ1 Z=>Z.g fun H1 Z=>Z.g fun I1 q1=>?_);exact h2 pins s1 σ1 H1 _ _ Q I1 rr q1
noncomputable def zH(K:W.Frag)(n:Nat)(t:vK):TG:=fun v σ H Q=>∃a xs,v=.ref a/\df K H a xs/\xs.length=n/\t xs σ H Q
theorem xk{es:List Expr}{k:Nat}{t:vK}{n:Nat}(hc:X.calm=true)(h:Gp X es t)
  (hn:(assignEach es X.env).length=n:=by rfl) (hst:(assignEach es X.env).findIdx? (·.1)=none:=by rfl):PG X (.Tuple es k pos) (zH X.K n t):=by
 intro pins s σ H v u Q I r hw;obtain⟨a,xs,e1,hq,hl,hw⟩:=hw;subst e1;cases r;obtain⟨its,rv,ht,hz⟩:=I.tuple hq;refine assign_Tuple_tuple (I.ok.hd hc) ht (by simp[hn,<-hl,rv.length]) hst fun h' hx=>?_;have I1:Inv X pins σ H {s with heap:=h'}:=I.kept (t':=s.toks) fun b o e=>hx b o (bT (aY e)) e;exact h pins _ σ H xs _ Q I1 (by simpa using rv) hw
noncomputable def Pr(to ti:TE)(t:AE):TG:=fun v σ H Q=>to σ H fun o H1=>ti σ H1 fun i H2=>t o i v H2 fun H3=>Q σ H3
theorem J4{o i:Expr}{to ti:TE}{t:AE}(ho:PE X o to)(hi:PE X i ti)(hs:nP X t)
  (ha:∀v,assign (.Subscript o i pos) X.env v=(do
   let ov <-holding [v] (eval o X.env)
   let iv <-holding [v,ov] (eval i X.env)
   standAt pos
   holding [v,ov,iv] (setItem ov iv v)
   release [v,ov,iv] []):=by intro _;rfl):PG X (.Subscript o i pos) (Pr to ti t):=by
 intro pins s σ H v u Q I r h;rw[ha];refine af (fF (az (ho pins s σ H _ I h) fun ov s1 Z=>Z.g4 fun x H1 I1 r1 q1=>?_));refine af (fF (az (hi pins s1 σ H1 _ I1 q1) fun iv s2 Z=>Z.g4 fun y H2 I2 r2 q2=>?_));refine af (mD (af (fF (az (hs pins s2 σ H2 x y v ov iv u _ I2 r1 r2 r q2) fun _ s3 Z=>Z.g fun H3 Z=>Z.g fun I3 q3=>?_))));exact wpAny_release ⟨σ,H3,I3,q3⟩
noncomputable def Ma(te:TE)(g:TG):TS:=fun D σ H=>te σ H fun x H1=>g x σ H1 D.nx
theorem BD{tg e:Expr}{te:TE}{g:TG}(he:PE X e te)(hg:PG X tg g)(hs:swapsWithSole [tg] e pos.line X.env=pure false:=by rfl)(hw:swappedStores [tg] e X.env=pure none:=by rfl)
  (h1:(assignEach [tg] X.env).map (·.2)=[assign tg X.env]:=by rfl):PS X (.Assign [tg] e pos) (Ma te g):=by
 intro pins s σ H D I h;refine wpAny_Assign_stores (az (he pins s σ H _ I h) fun v s1 Z=>Z.g4 fun x H1 I1 r1 q1=>?_) hs hw;rw[h1];exact az (hg pins s1 σ H1 x v _ I1 r1 q1) fun _ s2 q=>q
theorem K8{i:Nat}{x:Str}{e:Expr}{te:TE}{pos':Pos}(hN:X.N.Nodup)(hi:X.N[i]?=some x)(hx:Loc X.env.scope x)(he:PE X e te)(hs:swapsWith e (some (.Name x pos')) pos.line X.env=pure false:=by rfl)(hf:X.fn x=true\/X.env.scope.names.lookup x=some .local:=by first|exact .inl rfl|exact .inr rfl|assumption):
  PS X (.Assign [.Name x pos'] e pos) (Ma te (fI i)):=by
 intro pins s σ H D I h;refine wpAny_Assign_Name (az (he pins s σ H _ I h) fun v s1 Z=>Z.g4 fun y H1 I1 r1 q1=>?_) hs;exact iR I1 hN hi hx r1 (fun s2 I2=>⟨_,H1,I2,q1⟩) hf
noncomputable def P2(i:Nat)(te:TE)(ti:Gw):TS:=fun D σ H=>∃x,σ[i]?=some (some x)/\te σ H fun y H1=>ti x y H1 fun z H2=>D.nx (σ.set i (some z)) H2
theorem JG{i:Nat}{x:Str}{e:Expr}{te:TE}{op:Operator}{ti:Gw}{pos':Pos}(hN:X.N.Nodup)(hi:X.N[i]?=some x)(hx:Loc X.env.scope x)(he:PE X e te)(ho:Og X op ti)(hf:X.fn x=true\/X.env.scope.names.lookup x=some .local:=by first|exact .inl rfl|exact .inr rfl|assumption):
  PS X (.AugAssign (.Name x pos') op e pos) (P2 i te ti):=by
 intro pins s σ H D I h;obtain⟨v,e1,h⟩:=h;obtain⟨m,hn,hl⟩:=I.loc;have pW:jH X.env.scope x:=by rcases hx with k|k;exact .inl k;exact .inr (.inl k)
 obtain⟨u,r,l⟩:=hl i x v hi e1 pW;refine wpAny_AugAssign_Name ?_;have go:wpAny (model X.prog X.w) X.A (eval e X.env) (fun w s₂=>wpAny (model X.prog X.w) X.A (inplaceOp op u w) (fun r s₃=>wpAny (model X.prog X.w) X.A (storeName X.env x r) (fun _=>SP X pins D .next) X.xe s₃) X.xe s₂) X.xe s:=by refine az (he pins s σ H _ I h) fun w s1 Z=>Z.g4 fun y H1 I1 r1 q1=>?_;refine az (ho pins s1 σ H1 v y u w _ I1 r r1 q1) fun z s2 Z=>Z.g4 fun zv H2 I2 r2 q2=>?_;exact iR I2 hN hi hx r2 (fun s3 I3=>⟨_,H2,I3,q2⟩) hf
 rcases l with ⟨hk,hm⟩|⟨hk,c,hc,hcell⟩
 .exact wpAny_loadName_local I.ok.kind hk hn hm go
 .rcases hk with hk|hk
  .exact wpAny_loadName_cell I.ok.kind hk hc hcell go
  .rcases hx with k|k
   .have:X.env.scope.names.lookup x=some .free:=hk;rw[k] at this;cases this
   .have:X.env.scope.names.lookup x=some .free:=hk;rw[k] at this;cases this
noncomputable def Ry(f:Int->Int->Int):Gw:=fun x y H Q=>∃i j,x=.int i/\y=.int j/\Q (.int (f i j)) H
theorem LX:Og X .Add (Ry fun i j=>i+j):=by intro pins s σ H x y v u Q I r1 r2 h;obtain⟨i,j,e1,e2,q⟩:=h;subst e1;subst e2;obtain⟨t,rfl⟩:=r1;obtain⟨t',rfl⟩:=r2;exact iadd_int ⟨.int _,H,I.tok _,⟨_,rfl⟩,q⟩
end
section
variable {X:Cx}{pos:Pos}
def KZ(c:TT)(tb:TS):TS:=fun D σ H=>∃W:Nat->St->Hp->Prop,(∃m,W m σ H)/\∀m σ H,W m σ H->
 c σ H fun b H1=>if b=true then ∃N:St->Hp->Prop,(∀σ' H',N σ' H'->∃m',m'<m/\W m' σ' H')/\tb {D with nx:=N,ct:=N,bk:=D.nx} σ H1 else D.nx σ H1
theorem E4{c:Expr}{body:List Stmt}{tc:TT}{tb:TS}(hp:PassesOwn (model X.prog X.w) X.A X.env X.xe)(hc:PT X c tc)(hb:dU X body tb):PS X (.While c body [] pos) (KZ tc tb):=by
 intro pins s σ H D I h;obtain⟨W,⟨m0,w0⟩,turn⟩:=h;refine wpAny_While (codeAny_whileLoop (fun n s'=>∃σ' H',Inv X pins σ' H' s'/\W n σ' H') ?_ m0 ⟨σ,H,I,w0⟩)
 rintro n s1 ⟨σ1,H1,I1,w1⟩
 refine gP hp (az (hc pins s1 σ1 H1 _ I1 (turn n σ1 H1 w1)) fun b s2 Z=>Z.g fun H2 Z=>Z.g fun I2 q2=>?_);cases b with
 |true=>
  obtain⟨N,hN,q2⟩:=q2;rw[if_pos rfl];refine gP hp (az (hb pins s2 σ1 H2 _ I2 q2) fun f s3 q3=>?_);cases f with
  |next=>
   obtain⟨σ3,H3,I3,n3⟩:=q3;obtain⟨m',hm,w3⟩:=hN σ3 H3 n3;exact⟨m',hm,σ3,H3,I3,w3⟩
  |cont=>
   obtain⟨σ3,H3,I3,n3⟩:=q3;obtain⟨m',hm,w3⟩:=hN σ3 H3 n3;exact⟨m',hm,σ3,H3,I3,w3⟩
  |brk=>exact q3
  |ret v=>exact q3
 |false=>
  rw[if_neg eC];exact k6 ⟨σ1,H2,I2,q2⟩
end
structure It where
 go:Nat->Hp->Prop
 zg:Nat->Hp->V->Hp->Prop
 stop:Nat->Hp->Prop
def eh(X:Cx)(pins:aJ)(H:Hp)(b:Addr):Prop:=
 H b=none/\b≠X.env.locals/\b∉X.fs/\(b∈X.ex\/X.aQ.heap.objs.size<=b)/\(∀x c,X.env.cells.lookup x=some c->c≠b)/\∀p∈X.pn++pins,p.1≠b
theorem Inv.oP{X:Cx}{pins:aJ}{σ:St}{H H':Hp}{s:Shared}{b:Addr}(I:Inv X pins σ H s)(hb:s.heap.objs.size<=b)(hn:H' b=none):eh X pins H' b:=by
 refine⟨hn,nV (cM I.lt hb),I.Q7 hb,.inr (cL I.sz hb),fun x c e z=>?_,fun p hp z=>?_⟩
 .obtain⟨v,q⟩:=I.cell x c e;exact absurd (cM q.lt (by rw[z];exact hb)) (tD _)
 .exact absurd (cM (aY (I.pin p hp).1) (by rw[z];exact hb)) (tD _)
structure Turn(P:Program)(w:World)(K:W.Frag)(tg:Expr)(J:It)(fp:List Addr)(it:Addr)(tn:Nat->Heap->Prop):Prop where
 mem:it∈fp
 obj:∀i h,tn i h->∀b∈fp,∃o,h.get? b=some o/\∀v,o.data≠.cell v
 keep:∀i h h',tn i h->(∀b∈fp,∀o,h.get? b=some o->h'.get? b=some o)->tn i h'
 item:∀(X:Cx),X.prog=P->X.w=w->X.K=K->X.calm=true->∀(i:Nat)(pins:aJ)(s:Shared)(σ:St)(H:Hp)(E:aH),Inv X pins σ H s->(∀b∈fp,eh X pins H b)->tn i s.heap->J.go i H->
  wpAny (model P w) X.A (pyNext (.ref it)) (fun r s1=>∃u,r=some u/\
   wpAny (model P w) X.A (letOwnedTupleGo tg (.ref it) u) (fun _ s2=>∃x H',Inv X pins σ H' s2/\RelV x u/\J.zg i H x H'/\tn (i+1) s2.heap/\∀b∈fp,H' b=none) E s1) E s
 done:∀(X:Cx),X.prog=P->X.w=w->X.K=K->X.calm=true->∀(i:Nat)(pins:aJ)(s:Shared)(σ:St)(H:Hp)(E:aH),Inv X pins σ H s->(∀b∈fp,eh X pins H b)->tn i s.heap->J.stop i H->
  wpAny (model P w) X.A (pyNext (.ref it)) (fun r s1=>r=none/\Inv X pins σ H s1) E s
 self:∀(A:Around)(i:Nat)(s:Shared)(Q:aH)(E:aH),tn i s.heap->Q (.ref it) s->wpAny (model P w) A (pyIter (.ref it)) Q E s
abbrev TI:=St->Hp->(It->Hp->Prop)->Prop
def O7(X:Cx)(pins:aJ)(σ:St)(tg:Expr)(R:It->Hp->Prop)(itv:Value)(s2:Shared):Prop:=
 ∃(it:Addr) (fp:List Addr) (tn:Nat->Heap->Prop) (J:It) (H':Hp),itv=.ref it/\Inv X pins σ H' s2/\Turn X.prog X.w X.K tg J fp it tn/\tn 0 s2.heap/\(∀b∈fp,eh X pins H' b)/\R J H'
def PI(X:Cx)(tg iter:Expr)(wi:TI):Prop:=
 ∀(pins:aJ)(s:Shared)(σ:St)(H:Hp)(R:It->Hp->Prop),Inv X pins σ H s->wi σ H R->
  wpAny (model X.prog X.w) X.A (eval iter X.env) (fun v s1=>wpAny (model X.prog X.w) X.A (pyIter v) (O7 X pins σ tg R) X.xe s1) X.xe s
theorem sC{M:Model}{A:Around}{E:aH}{s:Shared}{tg:Expr}{it:Addr}{u:Value}{o:Obj}{n:String}{vs:Array Value}{Q:Unit->Shared->Prop}(ho:s.heap.get? it=some o)(hc:o.cls=.type n)(hd:o.data=.fields vs)
  (hn: ["enumerate", "zip", "dict_itemiterator", "dict_reverseitemiterator", "odict_iterator", "itertools.zip_longest", "itertools.pairwise"].contains n=false) (hQ:Q () s):wpAny M A (letOwnedTupleGo tg (.ref it) u) Q E s:=by
 unfold letOwnedTupleGo;cases tg<;>first
  |exact aj hQ
  |(cases u<;>first
    |exact aj hQ
    |(refine af (wpAny_load ho ?_)
      rw[hc,hd];show wpAny M A (if (["enumerate", "zip", "dict_itemiterator", "dict_reverseitemiterator", "odict_iterator", "itertools.zip_longest", "itertools.pairwise"].contains n&&vs[0]?== some (rawInt _))=true then _ else _) Q E s;rw[if_neg (by intro h;rw[hn,Bool.false_and] at h;cases h)];exact aj hQ))
def IQ(K:W.Frag)(a:Addr):It:=
 ⟨fun i H=>∃xs x,bB K H a xs/\xs[i]?=some x,fun i H x H'=>H'=H/\∀xs,bB K H a xs->xs[i]?=some x,fun i H=>∃xs,bB K H a xs/\xs.length<=i⟩
def Jx(K:W.Frag)(a:Addr):It:=
 ⟨fun i H=>∃xs x,df K H a xs/\xs[i]?=some x,fun i H x H'=>H'=H/\∀xs,df K H a xs->xs[i]?=some x,fun i H=>∃xs,df K H a xs/\xs.length<=i⟩
noncomputable def FY(lo:Int)(n:Nat):It:=⟨fun i _=>i<n,fun i H x H'=>H'=H/\x=.int (lo+i),fun i _=>n<=i⟩
theorem Bt{P:Program}{w:World}{K:W.Frag}{tg:Expr}(a it:Addr):Turn P w K tg (IQ K a) [it] it (fun i h=>h.IsListIter it a i) where
 mem:=by simp
 obj:=fun i h st b hb=>by
  have e:b=it:=by simpa using hb
  subst e;obtain⟨o,e,c,d⟩:=st;exact⟨o,e,fun v z=>by rw[d] at z;cases z⟩
 keep:=fun i h h' st k=>st.at fun o e=>k it (by simp) o e
 item:=by intro X hP hw hK hc i pins s σ H E I hf st hg;subst hP hw hK;obtain⟨xs,x,hq,hx⟩:=hg;obtain⟨its,rv,p,hz⟩:=I.list hq;obtain⟨u,hu,ru⟩:=rv.get hx;obtain⟨f0,f1,f2,f3,f4,f5⟩:=hf it (by simp);refine wpAny_pyNext_list_item st p.isList (x:=u) (by simpa using hu) fun h' st' sb=>?_;have I1:Inv X pins σ H {s with heap:=h'}:=I.turned (t':=s.toks) (fun b o hb e=>(sb.2 b hb).trans e) f0 f1 f3 f4 f5;obtain⟨o,e,c,d⟩:=id st';exact⟨u,rfl,sC (s:={s with heap:=h'}) e c d (by decide) ⟨x,H,I1,ru,⟨rfl,fun ys hy=>by rw[I.rh hy hq];exact hx⟩,st',fun b hb=>(hf b hb).1⟩⟩
 done:=by intro X hP hw hK hc i pins s σ H E I hf st hg;subst hP hw hK;obtain⟨xs,hq,hx⟩:=hg;obtain⟨its,rv,p,hz⟩:=I.list hq;obtain⟨f0,f1,f2,f3,f4,f5⟩:=hf it (by simp);have hl:=rv.length;exact wpAny_pyNext_list_end (I.ok.hd hc) st p.isList (by simp;omega) fun h' eb=>⟨rfl,I.turned (t':=s.toks) (fun b o hb e=>eb b o hb e) f0 f1 f3 f4 f5⟩
 self:=fun _ _ _ _ _ st h=>wpAny_pyIter_listiter st h
theorem rR{P:Program}{w:World}{K:W.Frag}{tg:Expr}(a it:Addr):Turn P w K tg (Jx K a) [it] it (fun i h=>h.IsTupleIter it a i) where
 mem:=by simp
 obj:=fun i h st b hb=>by
  have e:b=it:=by simpa using hb
  subst e;obtain⟨o,e,c,d⟩:=st;exact⟨o,e,fun v z=>by rw[d] at z;cases z⟩
 keep:=fun i h h' st k=>st.at fun o e=>k it (by simp) o e
 item:=by intro X hP hw hK hc i pins s σ H E I hf st hg;subst hP hw hK;obtain⟨xs,x,hq,hx⟩:=hg;obtain⟨its,rv,p,hz⟩:=I.tuple hq;obtain⟨u,hu,ru⟩:=rv.get hx;obtain⟨f0,f1,f2,f3,f4,f5⟩:=hf it (by simp);refine wpAny_pyNext_tuple_item st (show s.heap.IsTuple a its.toArray from p) (x:=u) (by simpa using hu) fun h' st' sb=>?_;have I1:Inv X pins σ H {s with heap:=h'}:=I.turned (t':=s.toks) (fun b o hb e=>(sb.2 b hb).trans e) f0 f1 f3 f4 f5;obtain⟨o,e,c,d⟩:=id st';exact⟨u,rfl,sC (s:={s with heap:=h'}) e c d (by decide) ⟨x,H,I1,ru,⟨rfl,fun ys hy=>by rw[I.uC hy hq];exact hx⟩,st',fun b hb=>(hf b hb).1⟩⟩
 done:=by intro X hP hw hK hc i pins s σ H E I hf st hg;subst hP hw hK;obtain⟨xs,hq,hx⟩:=hg;obtain⟨its,rv,p,hz⟩:=I.tuple hq;obtain⟨f0,f1,f2,f3,f4,f5⟩:=hf it (by simp);have hl:=rv.length;exact wpAny_pyNext_tuple_end (I.ok.hd hc) st (show s.heap.IsTuple a its.toArray from p) (by simp;omega) fun h' eb=>⟨rfl,I.turned (t':=s.toks) (fun b o hb e=>eb b o hb e) f0 f1 f3 f4 f5⟩
 self:=fun _ _ _ _ _ st h=>wpAny_pyIter_tupleiter st h
theorem zS{P:Program}{w:World}{K:W.Frag}{tg:Expr}(it:Addr)(lo:Int)(n:Nat):Turn P w K tg (FY lo n) [it] it (fun i h=>IsRangeIter h it (lo+(i:Nat) * 1) ((n:Int)-(i:Nat)) 1) where
 mem:=by simp
 obj:=fun i h st b hb=>by
  have e:b=it:=by simpa using hb
  subst e;exact⟨_,st,fun v z=>by
   have z':Data.fields _=Data.cell v:=z;cases z'⟩
 keep:=fun i h h' st k=>k it (by simp) _ st
 item:=by intro X hP hw hK hc i pins s σ H E I hf st hg;subst hP hw hK;obtain⟨f0,f1,f2,f3,f4,f5⟩:=hf it (by simp);have W:=Walks.range (prog:=X.prog) (w:=X.w) (I.ok.hd hc) it lo 1 n;refine W.item i s _ _ hg st fun v h' tk hv st' kk=>?_;obtain⟨t,rfl⟩:=hv;have I1:Inv X pins σ H {s with heap:=h',toks:=tk}:=I.turned (fun b o hb e=>kk b o (by simpa using hb) e) f0 f1 f3 f4 f5;refine⟨_,rfl,sC (s:={s with heap:=h',toks:=tk}) (n:= "range_iterator") st' rfl rfl (by decide) ⟨.int (lo+i),H,I1,⟨t,?_⟩,⟨rfl,rfl⟩,st',fun b hb=>(hf b hb).1⟩⟩;rw[Int.mul_one]
 done:=by intro X hP hw hK hc i pins s σ H E I hf st hg;subst hP hw hK;obtain⟨f0,f1,f2,f3,f4,f5⟩:=hf it (by simp);exact wpAny_pyNext_range_end (I.ok.hd hc) st (by have:n<=i:=hg;omega) fun h' eb=>⟨rfl,I.turned (t':=s.toks) (fun b o hb e=>eb b o hb e) f0 f1 f3 f4 f5⟩
 self:=fun _ _ _ _ _ st h=>wpAny_pyIter_rangeiter st h
section
variable {X:Cx}{tg:Expr}
noncomputable def Nl(K:W.Frag)(tl:TE):TI:=fun σ H R=>tl σ H fun x H1=>∃a,x=.ref a/\(∃xs,bB K H1 a xs)/\R (IQ K a) H1
noncomputable def Qc(K:W.Frag)(tl:TE):TI:=fun σ H R=>tl σ H fun x H1=>∃a,x=.ref a/\(∃xs,df K H1 a xs)/\R (Jx K a) H1
theorem Hx{l:Expr}{tl:TE}(hl:PE X l tl):PI X tg l (Nl X.K tl):=by
 intro pins s σ H R I h;refine az (hl pins s σ H _ I h) fun v s1 Z=>Z.g4 fun x H1 I1 r1 q1=>?_;obtain⟨a,e,⟨xs,hq⟩,q⟩:=q1;subst e;cases r1;obtain⟨its,rv,p,hz⟩:=I1.list hq;refine Aw p.isList ?_;refine⟨s1.heap.objs.size,[s1.heap.objs.size],_,_,H1,rfl,I1.kept (t':=s1.toks) fun b o e=>bj _ e,Bt a _,⟨_,cY _ rfl,rfl,rfl⟩,fun b hb=>?_,q⟩;have e:b=s1.heap.objs.size:=by simpa using hb
 subst e;exact I1.oP (aA _) (I1.ao.fresh (aA _))
theorem Jc{l:Expr}{tl:TE}(hl:PE X l tl):PI X tg l (Qc X.K tl):=by
 intro pins s σ H R I h;refine az (hl pins s σ H _ I h) fun v s1 Z=>Z.g4 fun x H1 I1 r1 q1=>?_;obtain⟨a,e,⟨xs,hq⟩,q⟩:=q1;subst e;cases r1;obtain⟨its,rv,p,hz⟩:=I1.tuple hq;refine vn (show s1.heap.IsTuple a its.toArray from p) ?_;refine⟨s1.heap.objs.size,[s1.heap.objs.size],_,_,H1,rfl,I1.kept (t':=s1.toks) fun b o e=>bj _ e,rR a _,⟨_,cY _ rfl,rfl,rfl⟩,fun b hb=>?_,q⟩;have e:b=s1.heap.objs.size:=by simpa using hb
 subst e;exact I1.oP (aA _) (I1.ao.fresh (aA _))
theorem D8{pins:aJ}{σ:St}{H:Hp}{s:Shared}{R:It->Hp->Prop}{E:aH}{lo hi:Int}{t u v:Tok}{tk:Nat}(I:Inv X pins σ H s)(h1: -(2 ^ 62)<=lo)(h2:lo<2 ^ 62)(h3: -(2 ^ 62)<=hi)(h4:hi<2 ^ 62)
  (q:R (FY lo (hi-lo).toNat) H):wpAny (model X.prog X.w) X.A (pyIter (.ref s.heap.objs.size)) (O7 X pins σ tg R) E {s with heap:=s.heap.push {cls:=.type "range",data:=.fields #[.int lo t,.int hi u,.int 1 v]},toks:=tk}:=by
 refine wpAny_pyIter_range (IsRange.new ..) (small_one h1 h2 h3 h4) ?_;have I1:Inv X pins σ H {s with heap:=s.heap.push {cls:=.type "range",data:=.fields #[.int lo t,.int hi u,.int 1 v]},toks:=tk}:=I.kept fun b o e=>bj _ e;refine⟨(s.heap.push {cls:=.type "range",data:=.fields #[.int lo t,.int hi u,.int 1 v]}).objs.size,[(s.heap.push {cls:=.type "range",data:=.fields #[.int lo t,.int hi u,.int 1 v]}).objs.size],_,_,H,rfl,
  I1.kept (t':=tk) fun b o e=>bj _ e,zS _ lo (hi-lo).toNat,?_,fun b hb=>?_,q⟩
 .have e1:lo+((0:Nat):Int) * 1=lo:=by simp
  have e2:(((hi-lo).toNat:Nat):Int)-((0:Nat):Int)=Builtin.Range.rangeSize lo hi 1:=by rw[rangeSize_one];split<;>omega
  show IsRangeIter _ _ (lo+((0:Nat):Int) * 1) ((((hi-lo).toNat:Nat):Int)-((0:Nat):Int)) 1;rw[e1,e2];exact cY _ rfl
 .have e:b=(s.heap.push {cls:=.type "range",data:=.fields #[.int lo t,.int hi u,.int 1 v]}).objs.size:=by simpa using hb
  subst e;exact I1.oP (aA _) (I1.ao.fresh (aA _))
def ND(ta:TA):TI:=fun σ H R=>ta σ H fun vs H1=>∃j:Int,vs=[.int j]/\ -(2 ^ 62)<=j/\j<2 ^ 62/\R (FY 0 j.toNat) H1
theorem B9{a:Expr}{ta:TA}{p pos:Pos}(hg:Gl X "range")(hm:X.mg "range" = none)(ha:PA X [a] ta)(hs:starEach [a] X.env=[(false,eval a X.env)]:=by rfl):PI X tg (.Call (.Name "range" p) [a] [] pos) (ND ta):=by
 intro pins s σ H R I h;refine Call_ (j3 I hg hm boot_range (pF (az (ha pos pins s σ H _ I h) fun us s1 Z=>Z.g4 fun vs H1 I1 r1 q1=>?_) hs rfl));obtain⟨j,e,q1,q2,q⟩:=q1;subst e;cases r1 with
 |cons r rr=>
  cases rr;obtain⟨t,rfl⟩:=r;exact call_range_1 (D8 I1 (by omega) (by omega) q1 q2 (by simpa using q))
def PX(wi:TI)(g:TG)(tb:TS):TS:=fun D σ H=>wi σ H fun J H1=>∃W:Nat->Nat->St->Hp->Prop,(∃m,W 0 m σ H1)/\∀i m σ H,W i m σ H->
 (J.stop i H/\D.nx σ H)\/(J.go i H/\∃N:St->Hp->Prop,(∀σ' H',N σ' H'->∃m',m'<m/\W (i+1) m' σ' H')/\∀x H',J.zg i H x H'->g x σ H' fun σ2 H2=>tb {D with nx:=N,ct:=N,bk:=D.nx} σ2 H2)
noncomputable def jr(fp:List Addr)(h:Heap):aJ:=fp.filterMap fun b=>(h.get? b).map fun o=>(b,o)
theorem gf{fp:List Addr}{h:Heap}{b:Addr}{o:Obj}(hb:b∈fp)(e:h.get? b=some o):(b,o)∈jr fp h:=List.mem_filterMap.mpr ⟨b,hb,by rw[e];rfl⟩
theorem Dv{fp:List Addr}{h:Heap}{p:Addr×Obj}(hp:p∈jr fp h):p.1∈fp/\h.get? p.1=some p.2:=by
 obtain⟨b,hb,e⟩:=List.mem_filterMap.mp hp;cases q:h.get? b with
 |none=>rw[q] at e;cases e
 |some o=>
  rw[q] at e;have e':(b,o)=p:=eE e;subst e';exact⟨hb,q⟩
theorem Inv.pinned{pins:aJ}{σ:St}{H:Hp}{s:Shared}{fp:List Addr}(I:Inv X pins σ H s)(hf:∀b∈fp,eh X pins H b)(ho:∀b∈fp,∃o,s.heap.get? b=some o/\∀v,o.data≠.cell v):Inv X (pins++jr fp s.heap) σ H s:=
 I.zy fun p hp=>(n9.mp hp).elim (fun z=>I.pin p (iA _ z)) fun z=>by
  obtain⟨hb,e⟩:=Dv z;obtain⟨f0,f1,f2,_⟩:=hf p.1 hb;obtain⟨o,e',d⟩:=ho p.1 hb;rw[e] at e';cases e';exact⟨e,f0,f1,f2,d⟩
theorem Inv.fN{pins pl:aJ}{σ:St}{H:Hp}{s:Shared}(I:Inv X (pins++pl) σ H s):Inv X pins σ H s:=I.zy fun p hp=>I.pin p (iA _ (List.mem_append_left _ hp))
theorem Kl{iter:Expr}{body:List Stmt}{wi:TI}{g:TG}{tb:TS}{pos:Pos}(hp:PassesOwn (model X.prog X.w) X.A X.env X.xe)(hc:X.calm=true)(hi:PI X tg iter wi)(hg:PG X tg g)(hb:dU X body tb)
  (hs:∀x,foldedSetIterable iter X.env x=pure x:=by intro _;rfl):PS X (.For tg iter body [] pos) (PX wi g tb):=by
 intro pins s σ H D I h;refine wpAny_For (az (hi pins s σ H _ I h) fun v s1 h1=>az h1 fun itv s2 h2=>?_) hs;obtain⟨it,fp,tn,J,H2,e,I2,T,st2,f2,W,⟨m0,w0⟩,turn⟩:=h2;subst e;have stat:∀{H':Hp},(∀b∈fp,H' b=none)->∀b∈fp,eh X pins H' b:=fun hn b hb=>⟨hn b hb,(f2 b hb).2⟩;refine codeAny_forLoop_any (fun n s'=>∃i σ' H',Inv X pins σ' H' s'/\tn i s'.heap/\(∀b∈fp,H' b=none)/\W i n σ' H') ?_ m0 ⟨0,σ,H2,I2,st2,fun b hb=>(f2 b hb).1,w0⟩
 rintro n s3 ⟨i,σ3,H3,I3,st3,fr3,w3⟩
 rcases turn i n σ3 H3 w3 with ⟨stop,qn⟩|⟨go,N,hN,step⟩
 .refine gP hp (az (T.done X rfl rfl rfl hc i pins s3 σ3 H3 X.xe I3 (stat fr3) st3 stop) fun r s4 Z=>Z.g fun hr I4=>?_);subst hr;exact k6 ⟨σ3,H3,I4,qn⟩
 .refine gP hp (az (T.item X rfl rfl rfl hc i pins s3 σ3 H3 X.xe I3 (stat fr3) st3 go) fun r s4 Z=>Z.g fun u Z=>Z.g fun hr h4=>?_);subst hr;refine gP hp (az h4 fun _ s5 Z=>Z.g fun x Z=>Z.g fun H5 Z=>Z.g fun I5 Z=>Z.g fun r5 Z=>Z.g fun y5 Z=>Z.g fun st5 fr5=>?_);have I5':=I5.pinned (stat fr5) (T.obj _ _ st5);refine gP hp (az (hg _ s5 σ3 H5 x u _ I5' r5 (step x H5 y5)) fun _ s6 Z=>Z.g fun σ6 Z=>Z.g fun H6 Z=>Z.g fun I6 q6=>?_);refine gP hp (az (hb _ s6 σ6 H6 _ I6 q6) fun f s7 q7=>?_);have again:∀{σ7:St}{H7:Hp},Inv X (pins++jr fp s5.heap) σ7 H7 s7->N σ7 H7->∃m,m<n/\∃i σ' H',Inv X pins σ' H' s7/\tn i s7.heap/\(∀b∈fp,H' b=none)/\W i m σ' H':=fun {σ7 H7} I7 n7=>by
   obtain⟨m',hm,w7⟩:=hN σ7 H7 n7;refine⟨m',hm,i+1,σ7,H7,I7.fN,T.keep _ _ _ st5 fun b hb o e=>(I7.pin (b,o) (iA _ (iA _ (gf hb e)))).1,fun b hb=>?_,w7⟩;obtain⟨o,e,d⟩:=T.obj _ _ st5 b hb;exact (I7.pin (b,o) (iA _ (iA _ (gf hb e)))).2.1
  cases f with
  |next=>obtain⟨σ7,H7,I7,n7⟩:=q7;exact again I7 n7
  |cont=>obtain⟨σ7,H7,I7,n7⟩:=q7;exact again I7 n7
  |brk=>obtain⟨σ7,H7,I7,q7⟩:=q7;exact⟨σ7,H7,I7.fN,q7⟩
  |ret v=>obtain⟨x7,σ7,H7,I7,r7,q7⟩:=q7;exact⟨x7,σ7,H7,I7.fN,r7,q7⟩
end
abbrev R2:=V->V->Hp->VK->Prop
def cN(X:Cx)(f:Value->Value->Sem Value)(r:R2):Prop:=
 ∀(pins:aJ)(s:Shared)(σ:St)(H:Hp)(x y:V)(v u:Value)(Q:VK),Inv X pins σ H s->RelV x v->RelV y u->r x y H Q->
  wpAny (model X.prog X.w) X.A (f v u) (EP X pins σ Q) X.xe s
def eV(X:Cx)(f:Value)(r:List V->Hp->VK->Prop):Prop:=
 ∀(pins:aJ)(s:Shared)(σ:St)(H:Hp)(xs:List V)(us:List Value)(Q:VK),Inv X pins σ H s->Vals xs us->r xs H Q->
  wpAny (model X.prog X.w) X.A (call f us) (EP X pins σ Q) X.xe s
def QJ(X:Cx)(r:V->Hp->(Bool->Hp->Prop)->Prop):Prop:=
 ∀(pins:aJ)(s:Shared)(σ:St)(H:Hp)(x:V)(v:Value)(Q:Bool->Hp->Prop),Inv X pins σ H s->RelV x v->r x H Q->
  wpAny (model X.prog X.w) X.A (truthy v) (TP X pins σ Q) X.xe s
noncomputable def zt(r:R2)(ta tb:TE):TE:=fun σ H Q=>ta σ H fun x H1=>tb σ H1 fun y H2=>r x y H2 Q
noncomputable def rI(C:Int->Int->Prop)(g:Int->Int->V):R2:=fun x y H Q=>∃i j,x=.int i/\y=.int j/\C i j/\Q (g i j) H
noncomputable def xO(g:Int->Int->V):R2:=fun x y H Q=>∃i j,x=.int i/\y=.int j/\Q (g i j) H
section
variable {X:Cx}{a b c:Expr}{ta tb tc:TE}{pos:Pos}
theorem E6(ha:PE X a ta)(hb:PE X b tb){pins:aJ}{s:Shared}{σ:St}{H:Hp}{R:V->V->Hp->Prop}(I:Inv X pins σ H s)
  (h:ta σ H fun x H1=>tb σ H1 fun y H2=>R x y H2) {Q:aH}{f:Value->Value->Sem Value}
  (hf:∀v u s2 x y H2,Inv X pins σ H2 s2->RelV x v->RelV y u->R x y H2->wpAny (model X.prog X.w) X.A (f v u) Q X.xe s2):
  wpAny (model X.prog X.w) X.A (eval a X.env) (fun v s₁=>wpAny (model X.prog X.w) X.A (eval b X.env) (fun u s₂=>wpAny (model X.prog X.w) X.A (f v u) Q X.xe s₂) X.xe s₁) X.xe s:=by
 refine az (ha pins s σ H _ I h) fun v s1 Z=>Z.g4 fun x H1 I1 r1 q1=>?_;refine az (hb pins s1 σ H1 _ I1 q1) fun u s2 Z=>Z.g4 fun y H2 I2 r2 q2=>?_;exact hf v u s2 x y H2 I2 r1 r2 q2
theorem pk{op:Operator}{r:R2}(ho:cN X (binaryOp op) r)(ha:PE X a ta)(hb:PE X b tb):PE X (.BinOp a op b pos) (zt r ta tb):=by intro pins s σ H Q I h;exact wpAny_BinOp (E6 ha hb I h fun v u s2 x y H2 I2 rx ry q=>ho pins s2 σ H2 x y v u Q I2 rx ry q)
theorem Gq{f:Value->Value->Sem Value}{C:Int->Int->Prop}{g:Int->Int->Int}
  (rule:∀(i j:Int)(t u:Tok)(s:Shared)(Q:aH)(E:aH),C i j->Q (.int (g i j) s.toks) {s with toks:=s.toks+1}->wpAny (model X.prog X.w) X.A (f (.int i t) (.int j u)) Q E s):
  cN X f (rI C fun i j=>.int (g i j)):=by
 intro pins s σ H x y v u Q I rx ry h;obtain⟨i,j,rfl,rfl,hc,q⟩:=h;obtain⟨t,rfl⟩:=rx;obtain⟨t',rfl⟩:=ry;exact rule i j t t' s _ _ hc ⟨.int (g i j),H,I.tok _,⟨_,rfl⟩,q⟩
theorem Kr{f:Value->Value->Sem Value}{g:Int->Int->Int}
  (rule:∀(i j:Int)(t u:Tok)(s:Shared)(Q:aH)(E:aH),Q (.int (g i j) s.toks) {s with toks:=s.toks+1}->wpAny (model X.prog X.w) X.A (f (.int i t) (.int j u)) Q E s):
  cN X f (xO fun i j=>.int (g i j)):=by
 intro pins s σ H x y v u Q I rx ry h;obtain⟨i,j,rfl,rfl,q⟩:=h;obtain⟨t,rfl⟩:=rx;obtain⟨t',rfl⟩:=ry;exact rule i j t t' s _ _ ⟨.int (g i j),H,I.tok _,⟨_,rfl⟩,q⟩
theorem Qm{f:Value->Value->Sem Value}{g:Int->Int->Bool}
  (rule:∀(i j:Int)(t u:Tok)(s:Shared)(Q:aH)(E:aH),Q (.bool (g i j)) s->wpAny (model X.prog X.w) X.A (f (.int i t) (.int j u)) Q E s):
  cN X f (xO fun i j=>.bl (g i j)):=by
 intro pins s σ H x y v u Q I rx ry h;obtain⟨i,j,rfl,rfl,q⟩:=h;obtain⟨t,rfl⟩:=rx;obtain⟨t',rfl⟩:=ry;exact rule i j t t' s _ _ ⟨.bl (g i j),H,I,rfl,q⟩
def P8(i j:Int):Prop:=0<j/\j<1073741824
def Qv(i j:Int):Prop:=0<=j/\j<=1000000/\i.natAbs<2 ^ 64
def zC(i j:Int):Prop:=(-(2 ^ 64)<i/\i<2 ^ 64)\/(-(2 ^ 64)<j/\j<2 ^ 64)
theorem zC.ok{i j:Int}(h:zC i j):IntMulOk i j:=by
 rcases h with ⟨h1,h2⟩|⟨h1,h2⟩
 .exact .of_left (intBits_le_64 h1 h2)
 .exact .of_right (intBits_le_64 h1 h2)
theorem JW:cN X (binaryOp .Add) (xO fun i j=>.int (i+j)):=Kr fun _ _ _ _ _ _ _ q=>add_int q
theorem IZ:cN X (binaryOp .Sub) (xO fun i j=>.int (i-j)):=Kr fun _ _ _ _ _ _ _ q=>sub_int q
theorem JX:cN X (binaryOp .Mult) (rI zC fun i j=>.int (i * j)):=Gq fun _ _ _ _ _ _ _ hc q=>mul_int q hc.ok
theorem Iq:cN X (binaryOp .FloorDiv) (rI P8 fun i j=>.int (i / j)):=Gq fun i j _ _ _ _ _ hc q=>by
 have h1:(0:Int)<j:=hc.1;have h2:j<1073741824:=hc.2;exact floordiv_int (by omega) (by rw[Int.fdiv_eq_ediv_of_nonneg i (by omega)];exact q) (.inl (PyProof.noPylong_small (by omega)))
theorem JY:cN X (binaryOp .Mod) (rI (fun _ j=>0<j) fun i j=>.int (i % j)):=Gq fun i j _ _ _ _ _ hc q=>by
 have h1:(0:Int)<j:=hc;exact mod_int' (by omega) (by rw[Int.fmod_eq_emod_of_nonneg i (by omega)];exact q)
theorem K5:cN X (binaryOp .Pow) (rI Qv fun i j=>.int (i ^ j.toNat)):=Gq fun _ _ _ _ _ _ _ hc q=>pow_int_small hc.1 hc.2.1 hc.2.2 q
end
section
variable {X:Cx}{a b c:Expr}{ta tb tc:TE}{pos:Pos}
theorem BQ{pins:aJ}{σ:St}{H:Hp}{s:Shared}{Q:VK}{k k':Bool}(I:Inv X pins σ H s)(q:Q (.bl k) H)(e:k=k'):EP X pins σ Q (.bool k') s:=by subst e;exact⟨.bl k,H,I,rfl,q⟩
theorem M8:cN X (compareOp .Lt) (xO fun i j=>.bl (decide (i<j))):=Qm fun _ _ _ _ _ _ _ q=>lt_int q
theorem LR:cN X (compareOp .Is) (fun x y H Q=>y=.ak/\Q (.bl (decide (x=.ak))) H):=by
 intro pins s σ H x y v u Q I rx ry h;obtain⟨rfl,q⟩:=h;cases ry;refine is_none_gen (BQ I q ?_);cases x<;>first
  |(cases rx;rfl)
  |(obtain⟨t,rfl⟩:=rx;rfl)
theorem Hq:cN X (compareOp .IsNot) (fun x y H Q=>y=.ak/\Q (.bl (!decide (x=.ak))) H):=by
 intro pins s σ H x y v u Q I rx ry h;obtain⟨rfl,q⟩:=h;cases ry;refine isnot_none_gen (BQ I q ?_);cases x<;>first
  |(cases rx;rfl)
  |(obtain⟨t,rfl⟩:=rx;rfl)
theorem cN.or{f:Value->Value->Sem Value}{r r':R2}(h:cN X f r)(h':cN X f r'):cN X f (fun x y H Q=>r x y H Q\/r' x y H Q):=by
 intro pins s σ H x y v u Q I rx ry q;rcases q with q|q
 .exact h pins s σ H x y v u Q I rx ry q
 .exact h' pins s σ H x y v u Q I rx ry q
theorem Sa(b:Expr){op:CmpOp}(h:op≠.In:=by decide)(h2:op≠.NotIn:=by decide):behindInMarks op b=false:=by
 have e1:(op== CmpOp.In)=false:=by cases op<;>first|rfl|exact absurd rfl h
 have e2:(op== CmpOp.NotIn)=false:=by cases op<;>first|rfl|exact absurd rfl h2
 cases b<;>simp[behindInMarks,e1,e2]
theorem zc{op:CmpOp}{r:R2}(ho:cN X (compareOp op) r)(ha:PE X a ta)(hb:PE X b tb)(hm:behindInMarks op b=false):PE X (.Compare a [op] [b] pos) (zt r ta tb):=by intro pins s σ H Q I h;exact wpAny_Compare1 (E6 ha hb I h fun v u s2 x y H2 I2 rx ry q=>ho pins s2 σ H2 x y v u Q I2 rx ry q) hm
noncomputable def MS(t:TE):TT:=fun σ H Q=>t σ H fun x H'=>∃k,x=.bl k/\Q k H'
theorem zr{op:CmpOp}{r:R2}(ho:cN X (compareOp op) r)(ha:PE X a ta)(hb:PE X b tb)(hm:behindInMarks op b=false):PT X (.Compare a [op] [b] pos) (MS (zt r ta tb)):=by
 intro pins s σ H Q I h;refine wpAny_isTrue_Compare1 (az (ha pins s σ H _ I h) fun v s1 Z=>Z.g fun x Z=>Z.g fun H1 Z=>Z.g fun I1 Z=>Z.g fun r1 q1=>az (hb pins s1 σ H1 _ I1 q1) fun u s2 Z=>Z.g fun y Z=>Z.g fun H2 Z=>Z.g fun I2 Z=>Z.g fun r2 q2=>
  az (ho pins s2 σ H2 x y v u _ I2 r1 r2 q2) fun c s3 Z=>Z.g fun z Z=>Z.g fun H3 Z=>Z.g fun I3 Z=>Z.g fun r3 Z=>Z.g fun k Z=>Z.g fun e q3=>?_) hm
 subst e;cases r3;exact pO ⟨H3,I3,q3⟩
def EH(K:W.Frag)(x:V)(H:Hp)(k:Bool):Prop:=
 match x with
 |.ak=>k=false
 |.bl b=>k=b
 |.int i=>k=(i != 0)
 |.str y=>y.length<=sizeLine/\k=((y.length:Int) != 0)
 |.byt y=>y.size<=sizeLine/\k=((y.size:Int) != 0)
 |.ref p=>(∃xs,bB K H p xs/\k=!xs.isEmpty)\/(∃xs,df K H p xs/\k=!xs.isEmpty)\/∃kvs,H p=some (.dK kvs)/\k=!kvs.isEmpty
 |_=>False
theorem zI{κ:Type}{kvs:List (κ×V)}{vs:List (κ×Value)}(r:KV kvs vs):(!vs.isEmpty)=!kvs.isEmpty:=by cases r<;>rfl
theorem rD{xs:List V}{its:List Value}(r:Vals xs its):(!its.toArray.isEmpty)=!xs.isEmpty:=by cases r<;>simp
theorem km:(sizeLine:Nat)<2 ^ 63:=by rw[eO];decide
theorem BK:QJ X (fun x H Q=>∃k,EH X.K x H k/\Q k H):=by
 intro pins s σ H x v Q I rx h;obtain⟨k,e,q⟩:=h;have hl:=km;have hs:sizeLine=16777216:=eO;cases x with
 |ak=>
  cases rx;have e':k=false:=e;subst e';exact truthy_none ⟨H,I,q⟩
 |bl b=>
  cases rx;have e':k=b:=e;subst e';exact pO ⟨H,I,q⟩
 |int i=>
  obtain⟨t,rfl⟩:=rx;have e':k=(i != 0):=e;subst e';exact PySem.P.truthy_int ⟨H,I,q⟩
 |str y=>
  obtain⟨t,rfl⟩:=rx;obtain⟨hy,e'⟩:y.length<=sizeLine/\k=((y.length:Int) != 0):=e;subst e';exact PySem.P.truthy_str (by omega) ⟨H,I.tok _,q⟩
 |byt y=>
  obtain⟨t,rfl⟩:=rx;obtain⟨hy,e'⟩:y.size<=sizeLine/\k=((y.size:Int) != 0):=e;subst e';exact W.truthy_bytes (by omega) ⟨H,I.tok _,q⟩
 |ref p=>
  cases rx;have e':(∃xs,bB X.K H p xs/\k=!xs.isEmpty)\/(∃xs,df X.K H p xs/\k=!xs.isEmpty)\/∃kvs,H p=some (.dK kvs)/\k=!kvs.isEmpty:=e;rcases e' with ⟨xs,hx,e'⟩|⟨xs,hx,e'⟩|⟨kvs,hx,e'⟩
  .subst e';obtain⟨its,r,pl,hz⟩:=I.list hx;have hlen:=r.length;exact wpAny_truthy_list pl.isList (by simp only[bX];omega) ⟨H,I.tok _,by rw[rD r];exact q⟩
  .subst e';obtain⟨its,r,pl,hz⟩:=I.tuple hx;have hlen:=r.length;exact truthy_tuple pl (by simp only[bX];omega) ⟨H,I.tok _,by rw[rD r];exact q⟩
  .subst e';obtain⟨hz,hS,vs,r,m⟩:kvs.length<=sizeLine/\(p== sysModules)=false/\∃vs,KV kvs vs/\s.heap.DictOf (b7 X.prog X.w) p vs:=I.ao p _ hx;have hlen:kvs.length=vs.length:=Paired.length r;exact wpAny_truthy_dict hS m (by omega) ⟨H,I.tok _,by rw[zI r];exact q⟩
 |_=>exact (show False from e).elim
theorem Ek(ha:PE X a ta)(he:∀whole,isTrue a X.env whole=(do let v <-whole;standAt a.pos;holding [v] (truthy v))):
  PT X a (fun σ H Q=>ta σ H fun x H'=>∃k,EH X.K x H' k/\Q k H'):=by
 intro pins s σ H Q I h;exact isTrue_plain (az (ha pins s σ H _ I h) fun v s1 Z=>Z.g4 fun x H1 I1 r1 q1=>BK pins s1 σ H1 x v Q I1 r1 q1) (he _)
theorem Au:cN X (binaryOp .Add) (fun x y H Q=>∃i j,x=.str i/\y=.str j/\i.length+j.length<=sizeLine/\Q (.str (i++j)) H):=by intro pins s σ H x y v u Q I rx ry h;obtain⟨i,j,rfl,rfl,hz,q⟩:=h;obtain⟨t,rfl⟩:=rx;obtain⟨t',rfl⟩:=ry;exact add_str (fun t' tk=>⟨.str (i++j),H,I.tok _,⟨_,rfl⟩,q⟩) hz
theorem vals1{x:V}{us:List Value}(r:Vals [x] us):∃u,us=[u]/\RelV x u:=by
 cases r with
 |cons r1 r2=>cases r2;exact⟨_,rfl,r1⟩
end
structure qC(h:Heap)(x dx C:Addr)(mA:Str->Option Value):Prop where
 obj:h.get? x=some (W.instObj C dx)
 ns:h.Ns1 dx mA
 ne:dx≠x
theorem uy{h:Heap}{dx:Addr}{mA:Str->Option Value}(n:h.Ns1 dx mA):∃od,h.get? dx=some od/\∀name,W.lookIn name od=some (mA name):=by
 obtain⟨o,es,ep,ho,hd,hk,_,hm⟩:=n;refine⟨o,ho,fun name=>?_⟩;have e:=hm name;unfold nsFind findBy at e;rw[<-Array.find?_toList] at e;unfold W.lookIn;rw[hd];dsimp only;split
 .rename_i y q;rw[q] at e;exact gU some e
 .rename_i q;rw[q] at e;have a:es.toList.any (·.refKey)=false:=by
   rw[List.any_eq_false];intro y hy;obtain⟨z,t,hkey⟩:=hk y (Array.mem_toList_iff.mp hy);simp[DictEntry.refKey,hkey]
  have a':¬ es.toList.any (·.refKey)=true:=by rw[a];exact eC
  rw[if_neg a'];exact gU some e
theorem qC.look{h:Heap}{x dx C:Addr}{mA:Str->Option Value}(I:qC h x dx C mA):∃od,W.InstAt h x (W.instObj C dx) C (some od)/\∀name,W.lookIn name od=some (mA name):=
 let ⟨od,ho,hl⟩:=uy I.ns
 ⟨od,⟨I.obj,rfl,rfl,ho⟩,hl⟩
section
variable {prog:Program}{w:World}{A:Around}{E:aH}{s:Shared}{K:W.Frag}{x dx C f:Addr}{mA:Str->Option Value}{name:Str}{v:Value}
theorem get_map{expr:Bool}{Q:aH}(X:K.In s.heap)(I:qC s.heap x dx C mA)(hg:W.plainGet K C name=true)(hh:W.hasDictIn K C=true)
  (ha:W.findIn K (.ref C) name=some none) (hv:mA name=some v) (hv':W.handedIn v=true) (h:Q v {s with toks:=s.toks+1}):
  wpAny (model prog w) A (getAttr (.ref x) name expr) Q E s:=by
 obtain⟨od,J,hl⟩:=I.look;exact W.get_value X J (AO hg).1 (W.findObj_own hh ha rfl (by rw[hl,hv])) hv' h
theorem EA{pl:Sem Bool}{Q:Value×List Value->Shared->Prop}(X:K.In s.heap)(I:qC s.heap x dx C mA)(hg:W.plainGet K C name=true)
  (hf:W.findIn K (.ref C) name=some (some (.ref f))) (ht:W.isFn K (.ref f)=true) (hv:mA name=none) (h:Q (.ref f,[.ref x]) s):
  wpAny (model prog w) A (getMethod (.ref x) name pl) Q E s:=by
 obtain⟨od,J,hl⟩:=I.look;exact W.method_fn X J (AO hg).1 (AO hg).2 hf (ji.mp ht) (by show (W.lookIn name od).map (·.isSome)=some false;rw[hl,hv];rfl) h
theorem G6{ns:List Str}{Q:Unit->Shared->Prop}(X:K.In s.heap)(I:qC s.heap x dx C mA)
  (hs:W.findIn K (.ref C) "__setattr__" = some (some (.builtin "object.__setattr__"))) (hp:W.plainOver K C=true) (ht:W.takerIn K C name=some none) (hh:W.hasDictIn K C=true)
  (hw:PySem.Within mA ns) (hsz:ns.length<=sizeLine)
  (h:∀h',qC h' x dx C (fun y=>if y=name then some v else mA y)->Heap.SameBut dx s.heap h'->Q () {s with heap:=h',toks:=s.toks+2}):
  wpAny (model prog w) A (setAttr (.ref x) name v) Q E s:=by
 obtain⟨od,J,hl⟩:=I.look;refine W.set_plain X J hs (W.osa_open (s:={s with toks:=s.toks+1}) (r:=none) X J hp ht fun b=>?_);obtain⟨cd,hc,hd'⟩:=W.any_some hh;have hx:s.heap.get? x=some ⟨.ref C,some dx,.plain,#[]⟩:=I.obj;refine af (aj (af (af (wpAny_loadPart hx (af (Bq (s:={s with toks:=s.toks+1}) (u6 X hc) ?_))))));rw[hd'];refine aj (a:=some dx) (af (aj (af ?_)));refine wpAny_nsSet1 (s:={s with toks:=s.toks+1}) I.ns fun h' hn2 hs2=>?_;obtain⟨oD,esD,epD,hoD,hdD,hcD⟩:=hn2.count (PySem.Within.cons name v hw);refine af (zK hoD (by rw[hdD];exact AM (cL hcD (by rw[cQ];omega))) ?_);exact aj (h _ ⟨(hs2.2 _ (aX I.ne)).trans I.obj,hn2,I.ne⟩ hs2)
theorem DT{R:Result->Shared->Prop}{vs:List Value}{kw:List (Str×Value)}(X:K.In s.heap)(hm:W.makesIn K C=true)
  (hi:W.findIn K (.ref C) "__init__" = some (some (.ref f))) (hf:W.typeIn K (.ref f)=some (.type "function"))
  (h:codeAny (model prog w) (A.under (.builtin "type.__call__" ⟨.ref C::vs,kw⟩)) (.call (.ref f) ⟨.ref (s.heap.objs.size+1)::vs,kw⟩) (W.InitBack (s.heap.objs.size+1) R)
   {s with heap:=(s.heap.push W.emptyDict).push (W.instObj C s.heap.objs.size)}):
  codeAny (model prog w) A (.call (.ref C) ⟨vs,kw⟩) R s:=by
 obtain⟨hh,g,d,t,os⟩:=s;exact W.make_core (W.makes_of X hm) (pz X hi) (fun self=>W.bind_fn X self hf) (.inl rfl) h
end
def dA(f:Str)(v:V):List (Str×V)->List (Str×V)
 |[]=>[(f,v)]
 |(g,x)::r=>if g=f then (g,v)::r else (g,x)::dA f v r
theorem lq(f g:Str)(v:V):∀fs:List (Str×V),(dA f v fs).lookup g=if g=f then some v else fs.lookup g
 |[]=>by
  show List.lookup g [(f,v)]=_;by_cases h:g=f
  .have hb:(g== f)=true:=ji.mpr h;simp only[List.lookup,hb,if_pos h]
  .have hb:(g== f)=false:=ik.mpr h;simp only[List.lookup,hb,if_neg h]
 |(k,x)::r=>by
  have ih:=lq f g v r;rw[show dA f v ((k,x)::r)=(if k=f then (k,v)::r else (k,x)::dA f v r) from rfl];by_cases hk:k=f
  .rw[if_pos hk];by_cases h:g=k
   .have hb:(g== k)=true:=ji.mpr h;simp only[List.lookup,hb,if_pos (h.trans hk)]
   .have hb:(g== k)=false:=ik.mpr h;simp only[List.lookup,hb,if_neg (fun e:g=f=>h (e.trans hk.symm))]
  .rw[if_neg hk];by_cases h:g=k
   .have hb:(g== k)=true:=ji.mpr h;simp only[List.lookup,hb,if_neg (fun e:g=f=>hk (h.symm.trans e))]
   .have hb:(g== k)=false:=ik.mpr h;simp only[List.lookup,hb];exact ih
theorem oE(f:Str)(v:V):∀fs:List (Str×V),f∈(dA f v fs).map (·.1)/\∀g,g∈fs.map (·.1)->g∈(dA f v fs).map (·.1)
 |[]=>⟨by simp[dA],fun g h=>by simp at h⟩
 |(k,x)::r=>by
  obtain⟨i1,i2⟩:=oE f v r;rw[show dA f v ((k,x)::r)=(if k=f then (k,v)::r else (k,x)::dA f v r) from rfl];by_cases hk:k=f
  .rw[if_pos hk];subst hk;exact⟨by simp,fun g h=>by simpa using h⟩
  .rw[if_neg hk];refine⟨?_,fun g h=>?_⟩
   .rw[aR];exact di _ i1
   .rw[aR] at h⊢;rcases cX.mp h with e|e
    .exact cX.mpr (.inl e)
    .exact di _ (i2 g e)
theorem pX(f:Str)(v:V):∀fs:List (Str×V),(dA f v fs).length<=fs.length+1
 |[]=>by simp[dA]
 |(k,x)::r=>by
  have ih:=pX f v r;rw[show dA f v ((k,x)::r)=(if k=f then (k,v)::r else (k,x)::dA f v r) from rfl];by_cases hk:k=f
  .rw[if_pos hk,cQ,cQ];omega
  .rw[if_neg hk,cQ,cQ];omega
theorem dY.some_of{v:V}{o:Option Value}(r:dY (some v) o):∃u,o=some u/\RelV v u:=by
 cases o with
 |none=>exact (show False from r).elim
 |some u=>exact⟨u,rfl,r⟩
theorem dY.none_of{o:Option Value}(r:dY none o):o=none:=by
 cases o with
 |none=>rfl
 |some u=>exact (show False from r).elim
theorem ui{v:V}{u:Value}(r:RelV v u):W.handedIn u=true:=by
 cases v with
 |ak=>cases (show u=Value.none from r);rfl
 |bl b=>cases (show u=Value.bool b from r);rfl
 |int i=>obtain⟨t,e⟩:=(show ∃t,u=Value.int i t from r);cases e;rfl
 |str x=>obtain⟨t,e⟩:=(show ∃t,u=Value.str x t from r);cases e;rfl
 |byt b=>obtain⟨t,e⟩:=(show ∃t,u=Value.bytes b t from r);cases e;rfl
 |flt b=>obtain⟨t,e⟩:=(show ∃t,u=Value.float b t from r);cases e;rfl
 |ref a=>cases (show u=Value.ref a from r);rfl
 |ty n=>cases (show u=Value.type n from r);rfl
section
variable {P:Program}{w:World}{H H':Hp}{h h':Heap}{a C dx:Addr}{fs fs':List (Str×V)}
theorem tM(ao:cR P w H h)(e:H a=some (.ins C dx fs)):∃mA,qC h a dx C mA/\(∀f,dY (fs.lookup f) (mA f))/\PySem.Within mA (fs.map (·.1))/\fs.length<=1000/\H dx=some (.own a):=by obtain⟨d,z,ne,ob,mA,n,r,q⟩:=(show bM P w H h a (.ins C dx fs) from ao a _ e);exact⟨mA,⟨ob,n,ne⟩,r,q,z,d⟩
end
structure qf(K:W.Frag)(C:Addr):Prop where
 pg:W.plainGet K C Str.empty=true
 hd:W.hasDictIn K C=true
 po:W.plainOver K C=true
 sa:W.findIn K (.ref C) "__setattr__" = some (some (.builtin "object.__setattr__"))
theorem qf.get{K:W.Frag}{C:Addr}(c:qf K C)(f:Str):W.plainGet K C f=true:=c.pg
def bo(K:W.Frag)(C:Addr)(f:Str):Prop:=W.findIn K (.ref C) f=some none
theorem bo.NH{K:W.Frag}{C:Addr}{f:Str}(n:bo K C f):W.takerIn K C f=some none:=by unfold W.takerIn;rw[show W.findIn K (.ref C) f=some none from n];rfl
structure Meth(K:W.Frag)(C:Addr)(m:Str)(f:Addr):Prop where
 at_:W.findIn K (.ref C) m=some (some (.ref f))
 fn:W.isFn K (.ref f)=true
 kp:W.keepIn K (.ref f)=true
section
variable {X:Cx}{pins:aJ}{σ:St}{H:Hp}{s:Shared}{a C dx:Addr}{fs:List (Str×V)}{f:Str}{v:V}{A:Around}{E:aH}
theorem Ar{b:Bool}{Q:aH}(I:Inv X pins σ H s)(e:H a=some (.ins C dx fs))(c:qf X.K C)(n:bo X.K C f)(l:fs.lookup f=some v)
  (h:∀u s',Inv X pins σ H s'->RelV v u->Q u s'):wpAny (model X.prog X.w) A (getAttr (.ref a) f b) Q E s:=by
 obtain⟨mA,O,r,_,_,_⟩:=tM I.ao e;obtain⟨u,hu,ru⟩:=dY.some_of (v:=v) (o:=mA f) (by rw[<-l];exact r f);exact get_map I.cJ O (c.get f) c.hd n hu (ui ru) (h u _ (I.tok _) ru)
theorem mG{m:Str}{g:Addr}{pl:Sem Bool}{Q:Value×List Value->Shared->Prop}(I:Inv X pins σ H s)(e:H a=some (.ins C dx fs))(c:qf X.K C)(k:Meth X.K C m g)(l:fs.lookup m=none)
  (h:Q (.ref g,[.ref a]) s):wpAny (model X.prog X.w) A (getMethod (.ref a) m pl) Q E s:=by
 obtain⟨mA,O,r,_,_,_⟩:=tM I.ao e;have hn:mA m=none:=dY.none_of (by rw[<-l];exact r m);exact EA I.cJ O (c.get m) k.at_ k.fn hn h
theorem Br{y:V}{u:Value}{Q:Unit->Shared->Prop}(I:Inv X pins σ H s)(e:H a=some (.ins C dx fs))(c:qf X.K C)(n:bo X.K C f)(hl:fs.length<1000)(ry:RelV y u)
  (h:∀s',Inv X pins σ (upd H a (.ins C dx (dA f y fs))) s'->Q () s'):wpAny (model X.prog X.w) A (setAttr (.ref a) f u) Q E s:=by
 obtain⟨mA,O,r,wi,_,ho⟩:=tM I.ao e;have hz:(fs.map (·.1)).length<=sizeLine:=by rw[gC,eO];omega
 refine G6 I.cJ O c.sa c.po n.NH c.hd wi hz fun h' O' sb=>h _ ?_;have hd:∃o,h'.get? dx=some o:=let ⟨o,_,_,e',_⟩:=O'.ns;⟨o,e'⟩
 refine I.write (x:=a) (e:=dx) (by rw[e];exact kY) (.inr ho) (fun b q hb z=>(sb.2 b hb).trans z) hd ?_;refine⟨by rw[aq O.ne];exact ho,?_,O.ne,O'.obj,_,O'.ns,fun g=>?_,fun g hg=>?_⟩
 .have:=pX f y fs;omega
 .show dY ((dA f y fs).lookup g) (if g=f then some u else mA g);rw[lq];by_cases q:g=f
  .rw[if_pos q,if_pos q];exact ry
  .rw[if_neg q,if_neg q];exact r g
 .by_cases q:g=f
  .rw[q];exact (oE f y fs).1
  .refine (oE f y fs).2 g (wi g fun z=>hg ?_);show (if g=f then some u else mA g)=none;rw[if_neg q];exact z
theorem Inv.made(I:Inv X pins σ H s):Inv X pins σ (upd (upd H s.heap.objs.size (.own (s.heap.objs.size+1))) (s.heap.objs.size+1) (.ins C s.heap.objs.size []))
  {s with heap:=(s.heap.push W.emptyDict).push (W.instObj C s.heap.objs.size)}:=by
 have e1:(s.heap.push W.emptyDict).get? s.heap.objs.size=some W.emptyDict:=cY s.heap rfl;have e2:((s.heap.push W.emptyDict).push (W.instObj C s.heap.objs.size)).get? (s.heap.objs.size+1)=some (W.instObj C s.heap.objs.size):=by
  have:=cY (s.heap.push W.emptyDict) (o:=W.instObj C s.heap.objs.size) rfl
  rwa [mL] at this
 have e3:(s.heap.push W.emptyDict).Ns s.heap.objs.size (fun _=>none):=⟨W.emptyDict,#[],_,e1,rfl,(fun e he=>absurd he (by simp)),fun _=>rfl⟩;have I1:=I.laid (a:=s.heap.objs.size) (o:=.own (s.heap.objs.size+1)) (h':=s.heap.push W.emptyDict) (t':=s.toks) (fun b u q=>bj _ q) (aA _) ⟨_,e1⟩;refine I1.laid (a:=s.heap.objs.size+1) (o:=.ins C s.heap.objs.size []) (t':=s.toks) (fun b u q=>bj _ q) (Nat.le_of_eq (mL _ _)) ?_;have ne:s.heap.objs.size≠s.heap.objs.size+1:=bT (tL _);refine⟨by rw[aq ne,aB],jS _,ne,e2,fun _=>none,(Heap.Ns1.of_empty e3).at fun o q=>bj _ q,fun _=>kY,fun y hy=>absurd rfl hy⟩
theorem yK{prog:Program}{w:World}{env:Env}{e:Expr}{f:Str}{pos:Pos}{s:Shared}{Q:aH}(hb:attributeBase e f env (eval e env)=eval e env)
  (h:wpAny (model prog w) A (eval e env) (fun o s₁=>wpAny (model prog w) A (getAttr o f true) Q E s₁) E s):wpAny (model prog w) A (eval (.Attribute e f pos) env) Q E s:=
 Attribute_any_ h (by rw[arm_eval_Attribute,hb])
end
noncomputable def Qr(K:W.Frag)(ta:TE)(f:Str):TE:=fun σ H Q=>ta σ H fun x H1=>∃a C dx fs v,x=.ref a/\H1 a=some (.ins C dx fs)/\qf K C/\bo K C f/\fs.lookup f=some v/\Q v H1
def Pq(K:W.Frag)(ta tv:TE)(f:Str):TS:=fun D σ H=>tv σ H fun y H1=>ta σ H1 fun x H2=>∃a C dx fs,x=.ref a/\H2 a=some (.ins C dx fs)/\qf K C/\bo K C f/\fs.length<1000/\
 D.nx σ (upd H2 a (.ins C dx (dA f y fs)))
section
variable {X:Cx}{o e value:Expr}{f:Str}{pos pos' tpos:Pos}{ta tv:TE}
theorem IE(he:PE X e ta)(hb:attributeBase e f X.env (eval e X.env)=eval e X.env):PE X (.Attribute e f pos) (Qr X.K ta f):=by intro pins s σ H Q I h;refine yK hb (az (he pins s σ H _ I h) fun u s1 Z=>Z.g fun x Z=>Z.g fun H1 Z=>Z.g fun I1 Z=>Z.g fun rx Z=>Z.g fun a Z=>Z.g fun C Z=>Z.g fun dx Z=>Z.g fun fs Z=>Z.g fun v Z=>Z.g fun ex Z=>Z.g fun ea Z=>Z.g fun c Z=>Z.g fun n Z=>Z.g fun l q=>?_);subst ex;obtain rfl:u=Value.ref a:=rx;exact Ar I1 ea c n l fun u' s2 I2 ru=>⟨v,H1,I2,ru,q⟩
theorem JZ(ha:PE X o ta)(hv:PE X value tv)(hs:swapsWith value (some (.Attribute o f pos')) pos.line X.env=pure false):PS X (.Assign [.Attribute o f pos'] value pos) (Pq X.K ta tv f):=by intro pins s σ H D I h;refine F5 (az (hv pins s σ H _ I h) fun u s1 Z=>Z.g fun y Z=>Z.g fun H1 Z=>Z.g fun I1 Z=>Z.g fun ry q=>az (ha pins s1 σ H1 _ I1 q) fun ov s2 Z=>Z.g fun x Z=>Z.g fun H2 Z=>Z.g fun I2 Z=>Z.g fun rx Z=>Z.g fun a Z=>Z.g fun C Z=>Z.g fun dx Z=>Z.g fun fs Z=>Z.g fun ex Z=>Z.g fun ea Z=>Z.g fun c Z=>Z.g fun n Z=>Z.g fun l q2=>?_) hs;subst ex;obtain rfl:ov=Value.ref a:=rx;exact Br I2 ea c n l ry fun s3 I3=>⟨σ,_,I3,q2⟩
end
section
variable {X:Cx}{pins:aJ}{σ:St}{H:Hp}{s:Shared}{A:Around}{E:aH}{Q:aH}{c:Value}{b:Bool}
end
structure bK(hv:Option Value)(k:Nat)(A:Around):Prop where
 hd:A.handled=hv
 dp:A.depth+3 * k+5<recursionLimit
 un:A.units+16 * k+200<cLine
noncomputable abbrev qx:=bK none
theorem bK.mono{j k:Nat}{A:Around}(r:bK hv k A)(h:j<=k):bK hv j A:=⟨r.hd,by have:=r.dp;omega,by have:=r.un;omega⟩
theorem bK.deeper{k:Nat}{A:Around}(r:bK hv (k+1) A)(env:Env):bK hv k (A.deeper env):=
 ⟨r.hd,by have:=r.dp;show A.depth+1+3 * k+5<_;omega,by have:=r.un;show A.units+3+16 * k+200<_;omega⟩
theorem AS{A:Around}{C:Addr}{us:List Value}{kw:List (Str×Value)}:(A.under (.builtin "type.__call__" ⟨.ref C::us,kw⟩)).depth=A.depth+1:=by first|rfl|simp[Around.under,Code.weight,Code.isCreation,Code.isGuard,Code.isCaller,Code.frames,Code.isFrame,guardIds]
theorem zO{A:Around}{C:Addr}{us:List Value}{kw:List (Str×Value)}:(A.under (.builtin "type.__call__" ⟨.ref C::us,kw⟩)).units=A.units+1:=by first|rfl|simp[Around.under,Code.cUnits,Code.frames,Code.isFrame]
theorem bK.make{k:Nat}{A:Around}(r:bK hv (k+1) A)(C:Addr)(us:List Value)(kw:List (Str×Value)):bK hv k (A.under (.builtin "type.__call__" ⟨.ref C::us,kw⟩)):=
 ⟨r.hd,by have:=r.dp;rw[AS];omega,by have:=r.un;rw[zO];omega⟩
theorem bK.depth{k:Nat}{A:Around}(r:bK hv k A):A.depth<recursionLimit:=by have:=r.dp;omega
noncomputable def xP:TA:=fun _ H Q=>Q [] H
noncomputable def nq(ta:TE)(tr:TA):TA:=fun σ H Q=>ta σ H fun x H1=>tr σ H1 fun xs H2=>Q (x::xs) H2
section
variable {X:Cx}{e:Expr}{es:List Expr}{te:TE}{t:TA}{pos:Pos}
theorem dD:PA X [] xP:=fun _ _ _ _ H Q I h=>Calls.spliced_nil ⟨[],H,I,.nil,h⟩
theorem cE(ha:PE X e te)(hr:PA X es t)(hs:starEach (e::es) X.env=(false,eval e X.env)::starEach es X.env:=by rfl):PA X (e::es) (nq te t):=by intro pos pins s σ H Q I h;rw[hs];show wpAny _ _ (spliced ((false,eval e X.env)::backTo pos (starEach es X.env))) _ _ s;refine Mf (az (ha pins s σ H _ I h) fun u s1 Z=>Z.g4 fun x H1 I1 r1 q1=>?_);exact az (hr pos pins s1 σ H1 _ I1 q1) fun us s2 Z=>Z.g4 fun xs H2 I2 r2 q2=>⟨x::xs,H2,I2,.cons r1 r2,q2⟩
def QO(t:TA):TE:=fun σ H Q=>t σ H fun xs H1=>xs.length<=sizeLine/\∀p,H1 p=none->Q (.ref p) (upd H1 p (.tup xs))
def QY(t:TA):TE:=fun σ H Q=>t σ H fun xs H1=>xs.length<=sizeLine/\∀p,H1 p=none->Q (.ref p) (upd H1 p (.lst xs))
theorem Ko{x1}(h:PA X es t):PE X (.Tuple es x1 pos) (QO t):=by intro pins s σ H Q I hq;refine wpAny_Tuple_spliced (az (h pos pins s σ H _ I hq) fun us s1 Z=>Z.g4 fun xs H1 I1 r Z=>Z.g fun z q=>⟨by rw[<-r.length];exact z,?_⟩);have hf:H1 s1.heap.objs.size=none:=I1.ao.fresh (aA _);refine⟨.ref s1.heap.objs.size,upd H1 s1.heap.objs.size (.tup xs),I1.laid (t':=s1.toks) (fun b u e=>bj _ e) (aA _) ?_,rfl,q _ hf⟩;exact⟨z,us,r,⟨_,cY _ rfl,rfl,_,rfl⟩⟩
theorem Lu(h:PA X es t):PE X (.List es pos) (QY t):=by intro pins s σ H Q I hq;refine wpAny_List_spliced (az (h pos pins s σ H _ I hq) fun us s1 Z=>Z.g4 fun xs H1 I1 r Z=>Z.g fun z q=>⟨by rw[<-r.length];exact z,?_⟩);have hf:H1 s1.heap.objs.size=none:=I1.ao.fresh (aA _);refine⟨.ref s1.heap.objs.size,upd H1 s1.heap.objs.size (.lst xs),I1.laid (t':=s1.toks) (fun b u e=>bj _ e) (aA _) ?_,rfl,q _ hf⟩;exact⟨z,us,0,r,cY _ rfl⟩
end
abbrev Sp:=List V->Hp->VK->XK->Prop
abbrev eL:=List Env->Hp->Shared->XK->aH
structure qB(P:Program)(w:World)(K:W.Frag)(mg:Str->Option Value)(base:Heap)(A:Around)(outer:List Env)(s:Shared)(H:Hp):Prop where
 frames:A.frames=some outer
 mod:Mod K mg base
 bs:∀b o,base.get? b=some o->s.heap.get? b=some o/\H b=none
 mr:base.objs.size<=s.heap.objs.size
 gH:s.heap.FunFrames base outer
 oy:∀b∈bF outer,H b=none
 ao:cR P w H s.heap
 bare:AllBare s.gens
def CE(outer:List Env)(P:Program)(w:World)(H:Hp)(s:Shared)(Q:VK)(u:Value)(s':Shared):Prop:=
 ∃v H',s'.os=s.os/\AllBare s'.gens/\Un (bF outer) [] H H' s.heap s'.heap/\cR P w H' s'.heap/\RelV v u/\Q v H'
def CR(CX:eL)(outer:List Env)(P:Program)(w:World)(H:Hp)(s:Shared)(Q:VK)(E:XK)(r:Result)(s':Shared):Prop:=
 match r with
 |.ok (.ret u)=>CE outer P w H s Q u s'
 |.ok _=>False
 |.error e=>CX outer H s E e s'
structure bV(hv:Option Value)(P:Program)(w:World)(K:W.Frag)(mg:Str->Option Value)(base:Heap)(CX:eL)(k:Nat)(f:Addr)(fd:FuncData)(ps:List Str)(sp:Sp):Prop where
 len:∀vs H Q E,sp vs H Q E->vs.length=ps.length
 run:∀(A:Around)(outer:List Env)(s:Shared)(H:Hp)(args:Args)(us:List Value)(vs:List V)(Q:VK)(E:XK),bK hv k A->qB P w K mg base A outer s H->BindsTo s fd args (ps.zip us)->Vals vs us->sp vs H Q E->
  codeAny (model P w) A (.call (.ref f) args) (CR CX outer P w H s Q E) s
noncomputable abbrev kK:=bV none
theorem bV.imp{P:Program}{w:World}{K:W.Frag}{mg:Str->Option Value}{base:Heap}{CX:eL}{k:Nat}{f:Addr}{fd:FuncData}{ps:List Str}{sp sp':Sp}(F:bV hv P w K mg base CX k f fd ps sp)
  (h:∀vs H Q E,sp' vs H Q E->sp vs H Q E):bV hv P w K mg base CX k f fd ps sp':=
 ⟨fun vs H Q E q=>F.len vs H Q E (h _ _ _ _ q),fun A outer s H args us vs Q E hr he hb hv hs=>F.run A outer s H args us vs Q E hr he hb hv (h _ _ _ _ hs)⟩
theorem qB.make{P:Program}{w:World}{K:W.Frag}{mg:Str->Option Value}{base:Heap}{A:Around}{outer:List Env}{s:Shared}{H:Hp}(e:qB P w K mg base A outer s H)(C:Addr)(us:List Value)(kw:List (Str×Value)):
  qB P w K mg base (A.under (.builtin "type.__call__" ⟨.ref C::us,kw⟩)) outer s H:=⟨by first|exact e.frames|(simpa [Around.under,Code.envs,Code.isFrame,pushEnvs] using e.frames),e.mod,e.bs,e.mr,e.gH,e.oy,e.ao,e.bare⟩
section
variable {X:Cx}{pins:aJ}{σ:St}{H:Hp}{s s':Shared}
theorem Inv.AQ(I:Inv X pins σ H s):qB X.prog X.w X.K X.mg X.base X.A X.stack s H:=
 ⟨I.ok.frames,I.ok.mod,I.bs,cL I.ok.mr I.sz,I.stack,I.jW,I.ao,I.bare⟩
theorem Inv.after{Q:VK}{u:Value}(I:Inv X pins σ H s)(h:CE X.stack X.prog X.w H s Q u s'):EP X pins σ Q u s':=by obtain⟨v,H',os,bare,un,ao,r,q⟩:=h;obtain⟨hh,g,d,t,os'⟩:=s';obtain rfl:os'=s.os:=os;exact⟨v,H',I.call (h':=hh) (g':=g) (d':=d) (t':=t) (ch:=[]) un ao bare (fun b z=>absurd z (by simp)),r,q⟩
end
noncomputable def AG(sp:Sp)(dvs:List V)(E:XK)(t:TA):TE:=fun σ H Q=>t σ H fun vs H1=>sp (vs++dvs) H1 Q E
noncomputable def Bp(C:Addr)(m:Str)(sp:Sp)(dvs:List V)(E:XK)(ta:TE)(t:TA):TE:=fun σ H Q=>ta σ H fun x H1=>∃a dx fs,x=.ref a/\H1 a=some (.ins C dx fs)/\fs.lookup m=none/\
 t σ H1 fun vs H2=>sp (x::(vs++dvs)) H2 Q E
def MN(C:Addr)(sp:Sp)(dvs:List V)(E:XK)(t:TA):TE:=fun σ H Q=>t σ H fun vs H1=>∀x dx,H1 x=none->H1 dx=none->dx≠x->
 sp (.ref x::(vs++dvs)) (upd (upd H1 dx (.own x)) x (.ins C dx [])) (fun v H2=>v=.ak/\Q (.ref x) H2) E
def Binds(K:W.Frag)(fd:FuncData)(ps:List Str)(ds:List Value):Prop:=
 ∀(s:Shared)(us:List Value),K.In s.heap->(us++ds).length=ps.length->BindsTo s fd ⟨us,[]⟩ (ps.zip (us++ds))
theorem Binds.all{K:W.Frag}{fd:FuncData}{ps:List Str}(h:∀us:List Value,us.length=ps.length->bindArgs fd ⟨us,[]⟩=pure (ps.zip us)):Binds K fd ps []:=fun s us _ hl=>by
 rw[hJ] at hl⊢;exact .of_eq (h us hl)
def Passes(CX:eL)(X:Cx)(E:XK):Prop:=∀(pins:aJ)(σ:St)(H:Hp)(s:Shared)(e:Value)(s':Shared),Inv X pins σ H s->CX X.stack H s E e s'->X.xe e s'
section
variable {X:Cx}{CX:eL}{k:Nat}{f C:Addr}{fd:FuncData}{ps:List Str}{sp:Sp}{dvs:List V}{ds:List Value}{E:XK}{x m:Str}{p pos apos:Pos}{e o:Expr}{es:List Expr}{ta:TE}{t:TA}
theorem oS{pins:aJ}{σ:St}{H:Hp}{s:Shared}{Q:VK}{us:List Value}{vs:List V}(F:bV hv X.prog X.w X.K X.mg X.base CX k f fd ps sp)(hr:bK hv k X.A)(hb:Binds X.K fd ps ds)(hd:Vals dvs ds)(hx:Passes CX X E)
  (I:Inv X pins σ H s) (r:Vals vs us) (h:sp (vs++dvs) H Q E):wpAny (model X.prog X.w) X.A (call (.ref f) us) (EP X pins σ Q) X.xe s:=by
 have r2:Vals (vs++dvs) (us++ds):=r.append hd;have hl:(us++ds).length=ps.length:=by rw[<-r2.length];exact F.len _ _ _ _ h
 refine k8 (lh (F.run X.A X.stack s H ⟨us,[]⟩ (us++ds) (vs++dvs) Q E hr I.AQ (hb s us I.cJ hl) r2 h) fun r s' hq=>?_);cases r with
 |error e=>exact hx pins σ H s e s' I hq
 |ok fl=>
  cases fl with
  |ret u=>exact I.after hq
  |next=>exact False.elim hq
  |brk=>exact False.elim hq
  |cont=>exact False.elim hq
theorem HV(F:bV hv X.prog X.w X.K X.mg X.base CX k f fd ps sp)(hr:bK hv k X.A)(hg:Gl X x)(hm:X.mg x=some (.ref f))(hk:W.keepIn X.K (.ref f)=true)(hb:Binds X.K fd ps ds)(hd:Vals dvs ds)(hx:Passes CX X E)
  (ha:PA X (e::es) t) (hdb:(x== ("__debug__" : Str))=false:=by decide) (he:starEach (e::es) X.env=(false,eval e X.env)::starEach es X.env:=by rfl) (hpl:(backTo pos (starEach es X.env)).any (·.1)=false:=by rfl):
  PE X (.Call (.Name x p) (e::es) [] pos) (AG sp dvs E t):=by
 intro pins s σ H Q I h;refine mP (fZ I hg hm ?_ hdb);refine lg (h₀:=X.base) I.ok.mod.qh hk (az (ha pos pins s σ H _ I h) fun us s1 Z=>Z.g4 fun vs H1 I1 r q=>⟨I1.cJ,?_⟩) he hpl;exact oS F hr hb hd hx I1 r q
theorem GY{pl:Sem Bool}(he:PE X o ta)(c:qf X.K C)(hm:Meth X.K C m f)(F:bV hv X.prog X.w X.K X.mg X.base CX k f fd ps sp)(hr:bK hv k X.A)(hb:Binds X.K fd ps ds)(hd:Vals dvs ds)(hx:Passes CX X E)(ha:PA X (e::es) t)
  (hst:starEach (e::es) X.env=(false,eval e X.env)::starEach es X.env:=by rfl) (hpl:(backTo pos (starEach es X.env)).any (·.1)=false:=by rfl)
  (ht:eval (.Call (.Attribute o m apos) (e::es) [] pos) X.env=(do
   let ov <-eval o X.env
   standAt apos.atName
   let (f,first) <-holding [ov] (getMethod ov m pl)
   callWith pos f first (backTo pos (starEach (e::es) X.env)) (backToKw pos (keywordEach [] X.env))):=by rfl):
  PE X (.Call (.Attribute o m apos) (e::es) [] pos) (Bp C m sp dvs E ta t):=by
 intro pins s σ H Q I h;refine vg (pl:=pl) (az (he pins s σ H _ I h) fun u s1 Z=>Z.g fun x Z=>Z.g fun H1 Z=>Z.g fun I1 Z=>Z.g fun rx Z=>Z.g fun a Z=>Z.g fun dx Z=>Z.g fun fs Z=>Z.g fun ex Z=>Z.g fun ea Z=>Z.g fun l q=>?_) ht;subst ex;obtain rfl:u=Value.ref a:=rx;refine mG I1 ea c hm l ?_;refine lg (first:=[.ref a]) (h₀:=X.base) I.ok.mod.qh hm.kp (az (ha pos pins s1 σ H1 _ I1 q) fun us s2 Z=>Z.g fun vs Z=>Z.g fun H2 Z=>Z.g fun I2 Z=>Z.g fun r q2=>⟨I2.cJ,?_⟩) hst hpl;exact oS (us:=.ref a::us) (vs:=.ref a::vs) F hr hb hd hx I2 (.cons rfl r) q2
structure Mk(K:W.Frag)(C f:Addr):Prop where
 makes:W.makesIn K C=true
 init:W.findIn K (.ref C) "__init__" = some (some (.ref f))
 fn:W.isFn K (.ref f)=true
 kp:W.keepIn K (.ref C)=true
theorem xM{pins:aJ}{σ:St}{H:Hp}{s:Shared}{Q:VK}{us:List Value}{vs:List V}(M:Mk X.K C f)(F:bV hv X.prog X.w X.K X.mg X.base CX k f fd ps sp)(hr:bK hv (k+1) X.A)(hb:Binds X.K fd ps ds)(hd:Vals dvs ds)
  (hx:Passes CX X E) (I:Inv X pins σ H s) (r:Vals vs us)
  (h:∀x dx,H x=none->H dx=none->dx≠x->sp (.ref x::(vs++dvs)) (upd (upd H dx (.own x)) x (.ins C dx [])) (fun v H2=>v=.ak/\Q (.ref x) H2) E):
  wpAny (model X.prog X.w) X.A (call (.ref C) us) (EP X pins σ Q) X.xe s:=by
 have hq:=h (s.heap.objs.size+1) s.heap.objs.size (I.ao.fresh (i6 _)) (I.ao.fresh (aA _)) (bT (tL _));have I2:=Inv.made (C:=C) I;have r2:Vals (V.ref (s.heap.objs.size+1)::(vs++dvs)) (Value.ref (s.heap.objs.size+1)::(us++ds)):=.cons rfl (r.append hd);have hl:(Value.ref (s.heap.objs.size+1)::us++ds).length=ps.length:=by have e:=r2.length;rw[F.len _ _ _ _ hq] at e;exact e.symm
 refine k8 (DT (f:=f) I.cJ M.makes M.init (ji.mp M.fn) (lh (F.run _ X.stack _ _ ⟨Value.ref (s.heap.objs.size+1)::us,[]⟩ (Value.ref (s.heap.objs.size+1)::(us++ds)) _ _ E (hr.make C us [])
  (I2.AQ.make C us []) (hb _ (Value.ref (s.heap.objs.size+1)::us) I2.cJ hl) r2 hq) fun r s' hq'=>?_))
 cases r with
 |error e=>exact hx pins σ _ _ e s' I2 hq'
 |ok fl=>
  cases fl with
  |ret u=>
   obtain⟨v,H',I3,rv,ev,q3⟩:=I2.after hq';subst ev;exact⟨rv,⟨V.ref (s.heap.objs.size+1),H',I3,rfl,q3⟩⟩
  |next=>exact False.elim hq'
  |brk=>exact False.elim hq'
  |cont=>exact False.elim hq'
theorem Hz(M:Mk X.K C f)(F:bV hv X.prog X.w X.K X.mg X.base CX k f fd ps sp)(hr:bK hv (k+1) X.A)(hg:Gl X x)(hm:X.mg x=some (.ref C))(hb:Binds X.K fd ps ds)(hd:Vals dvs ds)(hx:Passes CX X E)
  (ha:PA X (e::es) t) (hdb:(x== ("__debug__" : Str))=false:=by decide) (he:starEach (e::es) X.env=(false,eval e X.env)::starEach es X.env:=by rfl) (hpl:(backTo pos (starEach es X.env)).any (·.1)=false:=by rfl):
  PE X (.Call (.Name x p) (e::es) [] pos) (MN C sp dvs E t):=by
 intro pins s σ H Q I h;refine mP (fZ I hg hm ?_ hdb);refine lg (h₀:=X.base) I.ok.mod.qh M.kp (az (ha pos pins s σ H _ I h) fun us s1 Z=>Z.g4 fun vs H1 I1 r q=>⟨I1.cJ,?_⟩) he hpl;exact xM M F hr hb hd hx I1 r q
end
section
variable {X:Cx}{CX:eL}{k:Nat}{f C:Addr}{fd:FuncData}{ps ks:List Str}{sp:Sp}{E:XK}{x m:Str}{p pos apos kpos:Pos}{e o:Expr}{es:List Expr}{kws:List Keyword}{te ta:TE}{t tk:TA}{nm:Option Str}
variable {g:List Value->List Value->List Value}{gV:List V->List V->List V}
end
structure jY(N P:List Str)(sc:Scope):Prop where
 kind:sc.kind=.function
 co:sc.isCoroutine=false
 gen:sc.isGenerator=false
 nd:N.Nodup
 pre:N.take P.length=P
 par:∀x∈P,sc.names.lookup x=some .local\/sc.names.lookup x=some .cell
 Lz:∀y∈sc.names,y.2≠.free
theorem uD{kindOf:Str->Option NameKind}{x:Str}:∀{binds:List (Str×Value)}{m:Str->Option Value},(∀v,(x,v)∉binds)->bindL kindOf binds m x=m x
 |[],_,_=>rfl
 |(n,v)::r,m,h=>by
  unfold bindL;rw[uD fun w hw=>h w (di _ hw)];split
  .have:x≠n:=by rintro rfl;exact h v gF
   simp[this]
  .rfl
theorem ue{kindOf:Str->Option NameKind}{x:Str}:∀{binds:List (Str×Value)}{m:Str->Option Value},(∀v,(x,v)∉binds)->bindC kindOf binds m x=m x
 |[],_,_=>rfl
 |(n,v)::r,m,h=>by
  unfold bindC;rw[ue fun w hw=>h w (di _ hw)];split
  .rfl
  .have:x≠n:=by rintro rfl;exact h v gF
   simp[this]
theorem tY{kindOf:Str->Option NameKind}{x:Str}{v:Value}:∀{P:List Str}{vs:List Value}{i:Nat}{m:Str->Option Value},P.Nodup->P[i]?=some x->vs[i]?=some v->kindOf x=some .local->
  bindL kindOf (P.zip vs) m x=some v
 |[],_,_,_,_,h,_,_=>by simp at h
 |_::_,[],_,_,_,_,h,_=>by simp at h
 |p::P,w::vs,0,m,nd,h1,h2,hk=>by
  simp at h1 h2;subst h1;subst h2;show bindL kindOf ((p,w)::P.zip vs) m p=_;unfold bindL;rw[uD fun v hv=>(mJ.mp nd).1 (List.of_mem_zip hv).1,if_pos hk];simp
 |p::P,w::vs,i+1,m,nd,h1,h2,hk=>by
  show bindL kindOf ((p,w)::P.zip vs) m x=_;unfold bindL;exact tY (i:=i) (mJ.mp nd).2 (by simpa using h1) (by simpa using h2) hk
theorem t6{kindOf:Str->Option NameKind}{x:Str}{v:Value}:∀{P:List Str}{vs:List Value}{i:Nat}{m:Str->Option Value},P.Nodup->P[i]?=some x->vs[i]?=some v->kindOf x≠some .local->
  bindC kindOf (P.zip vs) m x=some v
 |[],_,_,_,_,h,_,_=>by simp at h
 |_::_,[],_,_,_,_,h,_=>by simp at h
 |p::P,w::vs,0,m,nd,h1,h2,hk=>by
  simp at h1 h2;subst h1;subst h2;show bindC kindOf ((p,w)::P.zip vs) m p=_;unfold bindC;rw[ue fun v hv=>(mJ.mp nd).1 (List.of_mem_zip hv).1,if_neg hk];simp
 |p::P,w::vs,i+1,m,nd,h1,h2,hk=>by
  show bindC kindOf ((p,w)::P.zip vs) m x=_;unfold bindC;exact t6 (i:=i) (mJ.mp nd).2 (by simpa using h1) (by simpa using h2) hk
noncomputable def start(N:List Str)(vs:List V):St:=vs.map some++List.replicate (N.length-vs.length) none
noncomputable def k4(hv:Option Value)(CX:eL)(P:Program)(w:World)(K:W.Frag)(mg:Str->Option Value)(base:Heap)(N:List Str)(qual:Str)(scope:Scope)(f:Addr)(cd:Value)(A:Around)(outer:List Env)(s:Shared)(H:Hp)(E:XK):Cx where
 prog:=P
 w:=w
 K:=K
 mg:=mg
 base:=base
 A:=A.deeper (envOfC qual scope s.heap.objs.size f cd)
 N:=N
 aQ:=s
 lJ:=H
 env:=envOfC qual scope s.heap.objs.size f cd
 outer:=outer
 stack:=envOfC qual scope s.heap.objs.size f cd::outer
 ex:=[]
 calm:=hv.isNone
 fn:=fun _=>true
 pn:=[]
 xe:=fun e s'=>wpAny (model P w) (A.deeper (envOfC qual scope s.heap.objs.size f cd)) (leaving (envOfC qual scope s.heap.objs.size f cd) e) (fun _ s''=>CX outer H s E e s'') (fun e' s''=>CX outer H s E e' s'') s'
abbrev Ep:=k4 none
theorem xD{sc:Scope}{n:Nat}{x:Str}(h:sc.names.lookup x=some .cell):∃c,(cellsFrom n sc.names []).lookup x=some c:=by have q:=W.cellsFrom_some sc.names n [] (.inl h);exact rF.mp q
theorem CI{CX:eL}{P:Program}{w:World}{K:W.Frag}{mg:Str->Option Value}{base:Heap}{N ps:List Str}{qual:Str}{scope:Scope}{f:Addr}{cd:Value}{A:Around}{outer:List Env}{s s1:Shared}{H:Hp}{E:XK}{us:List Value}{vs:List V}
  (S:jY N ps scope) (hd:A.handled=hv) (e0:qB P w K mg base A outer s H) (hl:vs.length=ps.length) (r:Vals vs us)
  (x:InCallC s s.heap.objs.size (bindL (envOfC qual scope s.heap.objs.size f cd).kindOf (ps.zip us) fun _=>none) (cellsFrom (s.heap.objs.size+1) scope.names []) (bindC (envOfC qual scope s.heap.objs.size f cd).kindOf (ps.zip us) fun _=>none) s1):
  Inv (k4 hv CX P w K mg base N qual scope f cd A outer s H E) [] (start N vs) H s1:=by
 have hpl:ps.length<=N.length:=by have:=gU List.length S.pre;rw[sU] at this;omega
 obtain⟨h1,tk,rfl,hk⟩:=x.done;have noA:∀b:Addr,b∉(k4 hv CX P w K mg base N qual scope f cd A outer s H E).ex:=fun b z=>absurd (show b∈([]:List Addr) from z) (by simp);refine⟨⟨e0.mod,S.kind,rfl,rfl,aA _,fun y z c h1 h2=>?_,fun y hy=>?_,fun y c _ h=>?_,fun c=>hd.trans (pf.mp c),Around.frames_deeper e0.frames,.inr ⟨rfl,rfl⟩,fun b z=>absurd z (noA b),e0.bs,e0.mr,fun b _ _=>noA b,fun b z=>absurd z (noA b),e0.gH,e0.oy⟩,
  rfl,e0.bare,Un.kept hk,⟨_,x.toInCall.ns,fun i y v h1 h2 h3=>?_⟩,fun y c h=>⟨_,x.cell y c h⟩,e0.ao.fresh (aA _),fun y c h=>?_,fun p hp=>absurd (show p∈([]:aJ) from hp) (by simp),e0.ao.kept hk,?_⟩
 .exact name_of_addr x.apart (jN h1) (jN h2)
 .have hy:scope.names.lookup y=some .cell\/scope.names.lookup y=some .free:=hy;rcases hy with hy|hy
  .exact xD hy
  .exact absurd rfl (S.Lz _ (jN hy))
 .exact Nat.le_of_lt (x.above y c (jN h))
 .have hi:i<vs.length:=by
   unfold start at h2;by_cases hi:i<vs.length
   .exact hi
   .rw[qX (by simpa using hi)] at h2;rw[Fg] at h2;split at h2<;>cases h2
  have ha:vs[i]?=some v:=by
   unfold start at h2;rw[g9 (by simpa using hi),mZ] at h2;cases e:vs[i]? with
   |none=>rw[e] at h2;cases h2
   |some a=>rw[e] at h2;cases h2;rfl
  obtain⟨u,hu,rv⟩:=r.get ha;have hp:ps[i]?=some y:=by rw[<-S.pre,List.getElem?_take_of_lt (by omega)];exact h1
  have ndP:ps.Nodup:=by rw[<-S.pre];exact S.nd.sublist (List.take_sublist _ _)
  refine⟨u,rv,?_⟩;rcases S.par y (wd hp) with k|k
  .exact .inl ⟨k,tY ndP hp hu k⟩
  .obtain⟨c,e⟩:=xD (n:=s.heap.objs.size+1) k;refine .inr ⟨.inl k,c,e,?_⟩;have q:=x.cell y c e;rw[t6 ndP hp hu (by show scope.names.lookup y≠_;rw[k];decide)] at q;exact q
 .exact e0.ao.fresh (Nat.le_of_lt (x.above y c (jN h)))
 .unfold start;show _=N.length;rw[iU,gC,List.length_replicate];omega
theorem Aj{CX:eL}{P:Program}{w:World}{K:W.Frag}{mg:Str->Option Value}{base:Heap}{k:Nat}{f:Addr}{name qual:Str}{params:Arguments}{body:List Stmt}{scope:Scope}{dV kV doc pm cdv ct oc:Value}{an od:Option Addr}
  {osl:Array (Option Value)}{N ps:List Str}{sp:Sp} (lk:K.lookup f=some ⟨oc,od,.func (W.fnOf name qual params body scope dV kV doc pm an cdv ct),osl⟩) (hcd:W.codeIn K cdv qual=true) (S:jY N ps scope)
  (len:∀vs H Q E,sp vs H Q E->vs.length=ps.length)
  (hbody:∀(A:Around)(outer:List Env)(s:Shared)(H:Hp)(vs:List V)(Q:VK)(E:XK),bK hv k (A.deeper (envOfC qual scope s.heap.objs.size f cdv))->sp vs H Q E->
   ∃t,dU (k4 hv CX P w K mg base N qual scope f cdv A outer s H E) body t/\t {nx:=fun _ H'=>Q .ak H',rt:=Q} (start N vs) H):
  bV hv P w K mg base CX (k+1) f (W.fnOf name qual params body scope dV kV doc pm an cdv ct) ps sp:=by
 refine⟨len,fun A outer s H args us vs Q E hr e0 hb r hsp=>?_⟩;have hl:=len _ _ _ _ hsp;have KX:K.In s.heap:=e0.mod.qh.keeps fun b o e=>(e0.bs b o e).1;have lim:s.heap.NoLimit:=e0.mod.nolimit.keeps fun b o e=>(e0.bs b o e).1;have hkind:∀y∈ps.zip us,scope.names.lookup y.1=some .local\/(scope.names.lookup y.1=some .cell/\((cellsFrom (s.heap.objs.size+1) scope.names []).lookup y.1).isSome=true):=fun⟨n,v⟩ hy=>by
  rcases S.par n (List.of_mem_zip hy).1 with q|q
  .exact .inl q
  .exact .inr ⟨q,W.cellsFrom_some _ _ _ (.inl q)⟩
 refine codeAny_call_function hr.depth (KX _ _ lk) rfl S.co S.gen rfl (W.codeRec_of KX hcd) (hb _ _ _ _ ?_);refine wpAny_newFunctionEnv_cells S.kind hkind fun env he s1 x=>?_;subst he;refine⟨lim.keeps x.toInCall.keep,codeAny_func ?_⟩;obtain⟨t,ht,hq⟩:=hbody A outer s H vs Q E (hr.deeper _) hsp;have I:Inv (k4 hv CX P w K mg base N qual scope f cdv A outer s H E) [] (start N vs) H s1:=CI S hr.hd e0 hl r x;refine eX (ht [] s1 (start N vs) H _ I hq) (fun fl s' hs=>?_) fun e s' hs=>hs;have fin:∀{σ':St}{H':Hp}{v:V}{u:Value},Inv (k4 hv CX P w K mg base N qual scope f cdv A outer s H E) [] σ' H' s'->RelV v u->Q v H'->CE outer P w H s Q u s':=
  fun {σ' H' v u} J rv q=>⟨v,H',J.os,J.bare,J.base,J.ao,rv,q⟩
 cases fl with
 |ret u=>
  obtain⟨v,σ',H',J,rv,q⟩:=hs;exact fin J rv q
 |next=>
  obtain⟨σ',H',J,q⟩:=hs;exact fin (v:=V.ak) (u:=Value.none) J rfl q
 |brk=>
  obtain⟨_,_,_,q⟩:=hs;exact False.elim q
 |cont=>
  obtain⟨_,_,_,q⟩:=hs;exact False.elim q
section
variable {X:Cx}{x:Str}{p pos:Pos}{e:Expr}{es:List Expr}{t:TA}{id T:String}{r:List V->Hp->VK->Prop}
noncomputable def JA(r:List V->Hp->VK->Prop)(t:TA):TE:=fun σ H Q=>t σ H fun vs H1=>r vs H1 Q
theorem Fj(hc:eV X (.builtin id) r)(hg:Gl X x)(hm:X.mg x=none)(hv:bootBuiltins x=some (.builtin id))(ha:PA X (e::es) t)(hn:x≠ "__name__" := by decide)(hdb:(x== ("__debug__" : Str))=false:=by decide)
  (he:starEach (e::es) X.env=(false,eval e X.env)::starEach es X.env:=by rfl) (hpl:(backTo pos (starEach es X.env)).any (·.1)=false:=by rfl):PE X (.Call (.Name x p) (e::es) [] pos) (JA r t):=by
 intro pins s σ H Q I h;refine mP (j3 I hg hm hv ?_ hn hdb);exact PyProof.Rows.callWith_builtin1 (az (ha pos pins s σ H _ I h) fun us s1 Z=>Z.g4 fun vs H1 I1 r1 q1=>hc pins s1 σ H1 vs us Q I1 r1 q1) he hpl
theorem uo(hc:eV X (.type T) r)(hg:Gl X x)(hm:X.mg x=none)(hv:bootBuiltins x=some (.type T))(ha:PA X (e::es) t)(hn:x≠ "__name__" := by decide)(hdb:(x== ("__debug__" : Str))=false:=by decide)
  (he:starEach (e::es) X.env=(false,eval e X.env)::starEach es X.env:=by rfl) (hpl:(backTo pos (starEach es X.env)).any (·.1)=false:=by rfl):PE X (.Call (.Name x p) (e::es) [] pos) (JA r t):=by
 intro pins s σ H Q I h;refine mP (j3 I hg hm hv ?_ hn hdb);exact pF (az (ha pos pins s σ H _ I h) fun us s1 Z=>Z.g4 fun vs H1 I1 r1 q1=>hc pins s1 σ H1 vs us Q I1 r1 q1) he hpl
end
end L2
namespace HT
open PySem PyProof.Rows
section
open PySem.SeqAt
open PySem.AutoSeq1 (wpAny_loadPart')
open PySem.MeetsSeq PySem.MeetsSeq2 PySem.MeetsSeq3
end
section
variable {prog:Program}{w:World}{A:Around}{E:aH}{s:Shared}
theorem G8{t b:Addr}{vs ws:List Value}{Q:aH}(ht:IsTup s.heap t vs.toArray)(hb:IsTup s.heap b ws.toArray)(hv:vs≠ [])
  (h1:ws=[]->Q (.ref t) s) (h2:ws≠ []->Q (.ref s.heap.objs.size) {s with heap:=s.heap.push {cls:=.type "tuple",data:=.seq (vs++ws).toArray}})
  (hsz:vs.length+ws.length<=sizeLine):wpAny (model prog w) A (binaryOp .Add (.ref t) (.ref b)) Q E s:=by
 obtain⟨⟨cls,dd,data,sl⟩,ho,hc,n,hd⟩:=id ht;obtain⟨⟨cls2,dd2,data2,sl2⟩,ho2,hc2,n2,hd2⟩:=id hb;simp only at hc hd hc2 hd2;subst hc hd hc2 hd2;have e:vs.toArray++ws.toArray=(vs++ws).toArray:=by simp
 by_cases hw:ws=[]
 .exact concat_meets ⟨_,ho,rfl⟩ ⟨_,ho2,rfl⟩ AB seq_tuple_add zL AI (zU _ _)
   (tuple_addW1 t b vs.toArray ws.toArray n n2 dd dd2 sl sl2 (by simpa using hv) (by simp[hw])) ⟨ho,ho2,h1 hw⟩
 .refine concat_meets ⟨_,ho,rfl⟩ ⟨_,ho2,rfl⟩ AB seq_tuple_add zL AI (zU _ _)
   (tuple_addW2 t b vs.toArray ws.toArray n n2 dd dd2 sl sl2 (by simpa using hv) (by simpa using hw) (by rw[bX,bX];exact hsz)) ⟨ho,ho2,?_⟩
  rw[e];exact h2 hw
def aV(n d:Nat):Option Int->Nat
 |none=>d
 |some v=>if v<0 then (v+(n:Int)).toNat else min v.toNat n
theorem Dp(n d:Nat)(hd:d<=n)(o:Option Int):aV n d o<=n:=by
 cases o with
 |none=>exact hd
 |some v=>
  show (if v<0 then (v+(n:Int)).toNat else min v.toNat n)<=n;by_cases hv:v<0
  .rw[if_pos hv];omega
  .rw[if_neg hv];exact Nat.min_le_right _ _
theorem y9(v:Int)(n d:Nat):(if v<0 then max (v+(n:Int)) 0 else min v (n:Int))=((aV n d (some v):Nat):Int):=by
 show (if v<0 then max (v+(n:Int)) 0 else min v (n:Int))=(((if v<0 then (v+(n:Int)).toNat else min v.toNat n):Nat):Int);by_cases hv:v<0
 .simp only[if_pos hv];omega
 .simp only[if_neg hv];omega
theorem AD(lo hi:Option Int)(n:Nat):Builtin.Slice.sliceAdjust lo hi 1 (n:Int)=(((aV n 0 lo:Nat):Int),((aV n n hi:Nat):Int)):=by
 have h1:¬ ((1:Int)<0):=by omega
 unfold Builtin.Slice.sliceAdjust;simp only[h1,kX];refine Prod.ext ?_ ?_
 .cases lo with
  |none=>rfl
  |some v=>exact y9 v n 0
 .cases hi with
  |none=>rfl
  |some v=>exact y9 v n n
theorem A8(i j:Nat):Builtin.Slice.slicePlaces (i:Int) (j:Int) 1=j-i:=by
 unfold Builtin.Slice.slicePlaces;have h1:(1:Int) > 0:=by omega
 simp only[h1,gY,Int.ediv_one];split<;>omega
theorem rL{v:Value}{o:Option Int}{Q:Option Int->Shared->Prop}(p:IsPart v o)(h:Q o s):wpAny (model prog w) A (Builtin.Slice.slicePartIndex v) Q E s:=by
 cases p with
 |none=>exact slicePart_none h
 |int i t=>exact slicePart_int h
theorem qF{sl:Addr}{vl vu:Value}{lo hi:Option Int}{n:Nat}{Q:Int×Int×Nat->Shared->Prop}(hs:s.heap.IsSliceOf sl vl vu .none)(pl:IsPart vl lo)(pu:IsPart vu hi)
  (h:Q (((aV n 0 lo:Nat):Int),1,aV n n hi-aV n 0 lo) s):wpAny (model prog w) A (Builtin.Slice.sliceApplied (.ref sl) (pure (n:Int))) Q E s:=by
 obtain⟨os,hos,hcs,eB⟩:=id hs;unfold Builtin.Slice.sliceApplied Builtin.Slice.sliceFields;refine af (af (fD hos eB (x:=vl) rfl (af (fD hos eB (x:=vu) rfl (af (fD hos eB (x:=.none) rfl (aj ?_)))))));refine af (slicePart_none ?_);show wpAny _ _ (if ((1:Int)== 0)=true then _ else _) _ _ s;rw[if_neg (by decide)];refine af (rL pl (af (rL pu (af (aj ?_)))));show wpAny _ _ (match Builtin.Slice.sliceAdjust lo hi 1 (n:Int) with|(lo,hi)=>pure (lo,(1:Int),Builtin.Slice.slicePlaces lo hi 1)) _ _ s;rw[AD lo hi n];show wpAny _ _ (pure (((aV n 0 lo:Nat):Int),(1:Int),Builtin.Slice.slicePlaces ((aV n 0 lo:Nat):Int) ((aV n n hi:Nat):Int) 1)) _ _ s;rw[A8];exact aj h
theorem E9(xs:Array Value)(i k:Nat):((List.range k).filterMap fun (m:Nat)=>xs[((i:Int)+(m:Int) * 1).toNat]?).toArray=((xs.toList.drop i).take k).toArray:=by
 have e:(fun (m:Nat)=>xs[((i:Int)+(m:Int) * 1).toNat]?)=fun m=>xs[i+m]?:=by
  funext m;have:((i:Int)+(m:Int) * 1).toNat=i+m:=by omega
  rw[this]
 rw[e];have:=pick_run xs i k;rw[List.filterMap_map] at this;have e2:((fun x=>xs[x]?) ∘ fun x=>i+x)=fun m=>xs[i+m]?:=rfl;rw[e2] at this;rw[this]
theorem pU{t sl:Addr}{items:Array Value}{vl vu:Value}{lo hi:Option Int}{Q:aH}(ht:IsTup s.heap t items)(hs:s.heap.IsSliceOf sl vl vu .none)(pl:IsPart vl lo)(pu:IsPart vu hi)
  (hw:¬ (aV items.size 0 lo=0/\aV items.size items.size hi=items.size))
  (h:Q (.ref s.heap.objs.size) {s with heap:=s.heap.push {cls:=.type "tuple",data:=.seq ((items.toList.drop (aV items.size 0 lo)).take (aV items.size items.size hi-aV items.size 0 lo)).toArray}})
  (hsz:items.size<=sizeLine):wpAny (model prog w) A (getItem (.ref t) (.ref sl)) Q E s:=by
 have htake:sizeOk (.seq ((items.toList.drop (aV items.size 0 lo)).take (aV items.size items.size hi-aV items.size 0 lo)).toArray):=by show ((items.toList.drop (aV items.size 0 lo)).take (aV items.size items.size hi-aV items.size 0 lo)).toArray.size<=sizeLine;rw[bX,sU,vX,GD];omega
 have hj:aV items.size items.size hi<=items.size:=Dp _ _ (aA _) hi;obtain⟨os,hos,hcs,eB⟩:=id hs;have hTs:s.TypeIs (.ref sl) "slice" := ⟨os,hos,hcs⟩;unfold getItem
 try with_reducible refine fF ?_
 first|refine af (aj ?_)|skip
 refine af (wpAny_sequenceKey ht.typeIs (by decide) ?_);refine af (rC (name:=Str.ofString "__getitem__") ht.typeIs Ay
  (pd Ay ht.typeIs entry_tuple_getitem ?_ (args_tuple_getitem _ _)))
 show wpAny _ _ (Builtin.Tuple.tupleItemsOf (.ref t) >>= _) _ _ s;refine af (tupleItemsOf_ ht ?_);refine af (wpAny_typeOf hTs ?_);rw[if_pos (by decide)];refine af (qF hs pl pu ?_);have hno:¬ ((((aV items.size 0 lo:Nat):Int)== 0&&(1:Int)== 1&&(aV items.size items.size hi-aV items.size 0 lo)== items.size)=true):=by intro q;rw[av,av] at q;have q1:((aV items.size 0 lo:Nat):Int)=0:=eq_of_beq q.1.1;have q2:aV items.size items.size hi-aV items.size 0 lo=items.size:=eq_of_beq q.2;exact hw ⟨by omega,by omega⟩
 show wpAny _ _ (if (((aV items.size 0 lo:Nat):Int)== 0&&(1:Int)== 1&&(aV items.size items.size hi-aV items.size 0 lo)== items.size)=true then _ else _) _ _ s;rw[if_neg hno,E9];first
  |exact af (m:=Builtin.Tuple.tupleExact _) (ij (aj ⟨_,rfl,aj h⟩) htake)
  |exact af (m:=Builtin.Tuple.tupleExact _) (ij (af (aj (aj ⟨_,rfl,aj h⟩))) htake)
  |exact af (af (m:=Builtin.Tuple.tupleExact _) (ij (aj (aj ⟨_,rfl,aj h⟩)) htake))
  |exact af (af (m:=Builtin.Tuple.tupleExact _) (ij (aj ⟨_,rfl,aj h⟩) htake))
end
end HT
namespace L2
open PySem PySem.Spec PyProof.Rows
abbrev TO:=St->Hp->(Option Int->Hp->Prop)->Prop
def PO(X:Cx)(e:Option Expr)(t:TO):Prop:=
 ∀(pins:aJ)(s:Shared)(σ:St)(H:Hp)(Q:Option Int->Hp->Prop),Inv X pins σ H s->t σ H Q->
  wpAny (model X.prog X.w) X.A (evalPart e X.env) (fun u s'=>∃o H',Inv X pins σ H' s'/\IsPart u o/\Q o H') X.xe s
noncomputable def IC:TO:=fun _ H Q=>Q none H
noncomputable def Nd(t:TE):TO:=fun σ H Q=>t σ H fun x H1=>∃i,x=.int i/\Q (some i) H1
section
variable {X:Cx}{e:Expr}{te:TE}{lo hi:Option Expr}{tl th:TO}{pos p2:Pos}
theorem Ht:PO X none IC:=by intro pins s σ H Q I h;rw[evalPart_none];exact aj ⟨none,H,I,.none,h⟩
theorem Hw(h:PE X e te):PO X (some e) (Nd te):=by intro pins s σ H Q I hw;rw[evalPart_some];refine az (h pins s σ H _ I hw) fun u s1 Z=>Z.g4 fun x H1 I1 r1 q1=>?_;obtain⟨i,rfl,q⟩:=q1;obtain⟨t,rfl⟩:=r1;exact⟨some i,H1,I1,.int i t,q⟩
def rq(X:Cx)(r:V->Option Int->Option Int->Hp->VK->Prop):Prop:=
 ∀(pins:aJ)(s:Shared)(σ:St)(H:Hp)(x:V)(v vl vu:Value)(lo hi:Option Int)(sl:Addr)(Q:VK),Inv X pins σ H s->RelV x v->s.heap.IsSliceOf sl vl vu .none->IsPart vl lo->IsPart vu hi->r x lo hi H Q->
  ∃T id,typeLookup (.type T) "__getitem__" = pure (some (.builtin id))/\s.TypeIs v T/\wpAny (model X.prog X.w) X.A (getItem v (.ref sl)) (EP X pins σ Q) X.xe s
theorem rq.or{r r':V->Option Int->Option Int->Hp->VK->Prop}(h:rq X r)(h':rq X r'):rq X (fun x lo hi H Q=>r x lo hi H Q\/r' x lo hi H Q):=by
 intro pins s σ H x v vl vu lo hi sl Q I rx hs pl pu q;rcases q with q|q
 .exact h pins s σ H x v vl vu lo hi sl Q I rx hs pl pu q
 .exact h' pins s σ H x v vl vu lo hi sl Q I rx hs pl pu q
noncomputable def R8(r:V->Option Int->Option Int->Hp->VK->Prop)(te:TE)(tl th:TO):TE:=fun σ H Q=>te σ H fun x H1=>tl σ H1 fun l H2=>th σ H2 fun u H3=>r x l u H3 Q
theorem EZ{r:V->Option Int->Option Int->Hp->VK->Prop}(hr:rq X r)(he:PE X e te)(hl:PO X lo tl)(hu:PO X hi th):PE X (.Subscript e (.Slice lo hi none p2) pos) (R8 r te tl th):=by intro pins s σ H Q I h;refine Subscript_ (az (he pins s σ H _ I h) fun v s1 Z=>Z.g4 fun x H1 I1 r1 q1=>?_);refine wpAny_Slice (az (hl pins s1 σ H1 _ I1 q1) fun vl s2 Z=>Z.g4 fun l H2 I2 pl q2=>az (hu pins s2 σ H2 _ I2 q2) fun vu s3 Z=>Z.g4 fun u H3 I3 pu q3=>?_);rw[evalPart_none];refine aj ?_;have I4:Inv X pins σ H3 {s3 with heap:=s3.heap.push {cls:=.type "slice",data:=.fields #[vl,vu,.none]}}:=I3.kept (t':=s3.toks) fun b ob q=>bj _ q;obtain⟨T,id,hT,ht,hg⟩:=hr pins {s3 with heap:=s3.heap.push {cls:=.type "slice",data:=.fields #[vl,vu,.none]}} σ H3 x v vl vu l u s3.heap.objs.size Q I4 r1 (Heap.IsSliceOf.new ..) pl pu q3;show wpAny (model X.prog X.w) X.A (subscriptTail e (.Slice lo hi none p2) v (.ref s3.heap.objs.size)) (EP X pins σ Q) X.xe {s3 with heap:=s3.heap.push {cls:=.type "slice",data:=.fields #[vl,vu,.none]}};exact tail_any (ops:=[.ref s3.heap.objs.size,v]) ht hT hg (by with_unfolding_all rfl)
noncomputable def oN(xs:List V)(lo hi:Option Int):List V:=(xs.drop (HT.aV xs.length 0 lo)).take (HT.aV xs.length xs.length hi-HT.aV xs.length 0 lo)
theorem qg(xs:List V)(lo hi:Option Int):(oN xs lo hi).length<=xs.length:=by unfold oN;rw[sU,vX];omega
def Ks(K:W.Frag):V->Option Int->Option Int->Hp->VK->Prop:=fun x lo hi H Q=>∃a xs,x=.ref a/\df K H a xs/\
 ¬ (HT.aV xs.length 0 lo=0/\HT.aV xs.length xs.length hi=xs.length)/\∀p,H p=none->Q (.ref p) (upd H p (.tup (oN xs lo hi)))
theorem Mc:rq X (Ks X.K):=by
 intro pins s σ H x v vl vu lo hi sl Q I rx hs pl pu h;obtain⟨a,xs,rfl,hx,hw,q⟩:=h;cases rx;obtain⟨its,r,ht,hz⟩:=I.tuple hx;have hlen:its.toArray.size=xs.length:=by rw[bX];exact r.length.symm
 refine⟨"tuple",_,Ay.lookup,ht.typeIs,?_⟩;refine HT.pU ht hs pl pu (by rw[hlen];exact hw) ?_ (by rw[hlen];exact hz);rw[hlen];refine⟨.ref s.heap.objs.size,_,I.laid (t':=s.toks) (o:=.tup (oN xs lo hi)) (fun b ob q=>bj _ q) (aA _) ?_,rfl,q _ (I.ao.fresh (aA _))⟩;exact⟨cL (qg xs lo hi) hz,_,(r.drop (HT.aV xs.length 0 lo)).take (HT.aV xs.length xs.length hi-HT.aV xs.length 0 lo),IsTup.new _ _⟩
def FZ(K:W.Frag):R2:=fun x y H Q=>∃a b xs ys,x=.ref a/\y=.ref b/\df K H a xs/\df K H b ys/\xs≠ []/\xs.length+ys.length<=sizeLine/\
 (ys=[]->Q (.ref a) H)/\(ys≠ []->∀p,H p=none->Q (.ref p) (upd H p (.tup (xs++ys))))
theorem Vals.pD{xs:List V}{us:List Value}(r:Vals xs us):us=[]↔xs=[]:=by
 cases r with
 |nil=>simp
 |cons _ _=>simp
theorem GJ:cN X (binaryOp .Add) (FZ X.K):=by intro pins s σ H x y v u Q I rx ry h;obtain⟨a,b,xs,ys,rfl,rfl,ha,hb,hx,hz,q1,q2⟩:=h;cases rx;cases ry;obtain⟨its,r1,p1,_⟩:=I.tuple ha;obtain⟨its2,r2,p2,_⟩:=I.tuple hb;refine HT.G8 p1 p2 (fun z=>hx (r1.pD.mp z)) (fun z=>⟨.ref a,H,I,rfl,q1 (r2.pD.mp z)⟩) (fun z=>?_) (by rw[<-r1.length,<-r2.length];exact hz);refine⟨.ref s.heap.objs.size,_,I.laid (t':=s.toks) (o:=.tup (xs++ys)) (fun b ob q=>bj _ q) (aA _) ?_,rfl,q2 (fun w=>z (r2.pD.mpr w)) _ (I.ao.fresh (aA _))⟩;exact⟨by rw[iU];exact hz,_,r1.append r2,IsTup.new _ _⟩
end
noncomputable def iz(n:Nat)(i:Int):Option Nat:=if 0<=i then (if i<n then some i.toNat else none) else if -(n:Int)<=i then some (i+n).toNat else none
def cg{α:Type}(xs:List α)(i:Int):Option α:=(iz xs.length i).bind fun j=>xs[j]?
theorem yg{n:Nat}{i:Int}{j:Nat}(h:iz n i=some j):seqIndex? i n=some j/\j<n/\ -(n:Int)<=i/\i<n:=by
 unfold iz at h;by_cases h0:0<=i
 .rw[if_pos h0] at h;by_cases h1:i<n
  .rw[if_pos h1] at h;have e:i.toNat=j:=eE h;exact⟨by rw[seqIndex_of h0 h1,e],by omega,by omega,h1⟩
  .rw[if_neg h1] at h;cases h
 .rw[if_neg h0] at h;by_cases h1: -(n:Int)<=i
  .rw[if_pos h1] at h;have e:(i+n).toNat=j:=eE h;exact⟨by rw[seqIndex_neg (by omega) h1,e],by omega,h1,by omega⟩
  .rw[if_neg h1] at h;cases h
theorem sL{α:Type}{xs:List α}{i:Int}{v:α}(h:cg xs i=some v):∃j,seqIndex? i xs.length=some j/\xs[j]?=some v/\j<xs.length/\ -(xs.length:Int)<=i/\i<xs.length:=by
 unfold cg at h;cases e:iz xs.length i with
 |none=>rw[e] at h;cases h
 |some j=>
  rw[e] at h;obtain⟨h1,h2,h3,h4⟩:=yg e;exact⟨j,h1,h,h2,h3,h4⟩
theorem i4{α:Type}{xs:List α}{j:Nat}{v:α}(h:xs[j]?=some v):cg xs (j:Int)=some v:=by
 have hj:j<xs.length:=(dE.mp h).1;have e:iz xs.length (j:Int)=some j:=by unfold iz;rw[if_pos (by omega),if_pos (by omega)];simp
 unfold cg;rw[e];exact h
def sP(b:Expr):Prop:=∀o i,subscripted b false o i=operate [o,i] (getItem o i)
def nZ(X:Cx)(r:R2):Prop:=
 ∀(value slice:Expr)(pins:aJ)(s:Shared)(σ:St)(H:Hp)(x y:V)(v u:Value)(Q:VK),Inv X pins σ H s->RelV x v->RelV y u->r x y H Q->
  subscripted slice false v u=operate [v,u] (getItem v u)->wpAny (model X.prog X.w) X.A (subscriptTail value slice v u) (EP X pins σ Q) X.xe s
def Kp(X:Cx)(id:String)(r:V->List V->Hp->VK->Prop):Prop:=
 ∀(pins:aJ)(s:Shared)(σ:St)(H:Hp)(x:V)(xs:List V)(v:Value)(us:List Value)(Q:VK),Inv X pins σ H s->RelV x v->Vals xs us->r x xs H Q->
  wpAny (model X.prog X.w) X.A (call (.builtin id) (v::us)) (EP X pins σ Q) X.xe s
section
variable {X:Cx}{a b:Expr}{ta tb:TE}{pos:Pos}
theorem nZ.or{r r':R2}(h:nZ X r)(h':nZ X r'):nZ X (fun x y H Q=>r x y H Q\/r' x y H Q):=by
 intro value slice pins s σ H x y v u Q I rx ry q hs;rcases q with q|q
 .exact h value slice pins s σ H x y v u Q I rx ry q hs
 .exact h' value slice pins s σ H x y v u Q I rx ry q hs
theorem Gh{r:R2}(hr:nZ X r)(ha:PE X a ta)(hb:PE X b tb)(hs:sP b):PE X (.Subscript a b pos) (zt r ta tb):=by intro pins s σ H Q I h;exact Subscript_ (E6 ha hb I h fun v u s2 x y H2 I2 rx ry q=>hr a b pins s2 σ H2 x y v u Q I2 rx ry q (hs _ _))
def Lh(K:W.Frag):R2:=fun x y H Q=>∃p xs i v,x=.ref p/\y=.int i/\bB K H p xs/\cg xs i=some v/\Q v H
def JD(K:W.Frag):R2:=fun x y H Q=>∃p xs i v,x=.ref p/\y=.int i/\df K H p xs/\cg xs i=some v/\Q v H
def Md:R2:=fun x y H Q=>∃z i c,x=.str z/\y=.int i/\z.length<=sizeLine/\cg z.cps.toList i=some c/\Q (.str ⟨#[c]⟩) H
theorem GU:nZ X (Lh X.K):=by
 intro value slice pins s σ H x y v u Q I rx ry h hs;obtain⟨p,xs,i,z,rfl,rfl,hq,he,q⟩:=h;cases rx;obtain⟨t,rfl⟩:=ry;obtain⟨its,r,pl,hz⟩:=I.list hq;obtain⟨j,h1,h2,h3,h4,h5⟩:=sL he;obtain⟨w,ew,rw'⟩:=r.get h2;have hl:=r.length;have hn:=km;have fin:EP X pins σ Q w s:=⟨z,H,I,rw',q⟩;by_cases h0:0<=i
 .have hj:i.toNat=j:=by
   rw[seqIndex_of h0 h5] at h1;exact eE h1
  exact item_listR pl.isList h0 (by omega) (by rw[hj];simpa using ew) fin hs
 .have hj:(i+(its.toArray.size:Int)).toNat=j:=by
   rw[seqIndex_neg (by omega) h4] at h1;rw[bX,<-hl];exact eE h1
  exact subscriptTail_builtinR (x:=w) pl.isList.typeIs slot_list_getitem.lookup
   (wpAny_getItem_list_neg (Q:=fun r s'=>r=w/\EP X pins σ Q r s') pl.isList (by omega) (by rw[bX]<;>omega) (by omega) (by rw[hj];simpa using ew) ⟨rfl,fin⟩) hs
theorem Kn:nZ X (JD X.K):=by
 intro value slice pins s σ H x y v u Q I rx ry h hs;obtain⟨p,xs,i,z,rfl,rfl,hq,he,q⟩:=h;cases rx;obtain⟨t,rfl⟩:=ry;obtain⟨its,r,pl,hz⟩:=I.tuple hq;obtain⟨j,h1,h2,h3,h4,h5⟩:=sL he;obtain⟨w,ew,rw'⟩:=r.get h2;have hl:=r.length;have hn:=km;have fin:EP X pins σ Q w s:=⟨z,H,I,rw',q⟩;exact subscriptTail_builtinR (x:=w) pl.typeIs slot_tuple_getitem.lookup
  (getItem_tuple (j:=j) (Q:=fun r s'=>r=w/\EP X pins σ Q r s') pl (by omega) (by omega) (by rw[bX,<-hl];exact h1) (by simpa using ew) ⟨rfl,fin⟩) hs
theorem La:nZ X Md:=by
 intro value slice pins s σ H x y v u Q I rx ry h hs;obtain⟨z,i,c,rfl,rfl,hz,he,q⟩:=h;obtain⟨t,rfl⟩:=rx;obtain⟨t',rfl⟩:=ry;obtain⟨j,h1,h2,h3,h4,h5⟩:=sL he;have hl:z.cps.toList.length=z.length:=by simp[Str.length]
 rw[hl] at h1 h4 h5;have hn:=km;exact tail_any (typeIs_str s z t) slot_str_getitem.lookup (getItem_str (c:=c) (by have e1:decide (i < -(2 ^ 63:Int))=false:=bU (by omega);have e2:decide (i ≥ 2 ^ 63)=false:=bU (by omega);rw[e1,e2,Bool.or_false]) (by rw[h1];simpa using h2) ⟨.str ⟨#[c]⟩,H,I.tok _,⟨_,rfl⟩,q⟩) hs
def Oy(K:W.Frag):R2:=fun x y H Q=>Lh K x y H Q\/JD K x y H Q\/Md x y H Q
theorem K7:nZ X (Oy X.K):=GU.or (Kn.or La)
theorem zR(its:List Value)(n j:Nat)(u:Value):Obj.mapSeq (·.setIfInBounds j u) {cls:=.type "list",data:=.seq its.toArray n}={cls:=.type "list",data:=.seq (its.set j u).toArray n}:=by simp[Obj.mapSeq]
theorem Inv.lst{pins:aJ}{σ:St}{H:Hp}{s:Shared}{p:Addr}{xs:List V}(I:Inv X pins σ H s)(h:H p=some (.lst xs)):
  ∃(its:List Value) (n:Nat),Vals xs its/\s.heap.get? p=some {cls:=.type "list",data:=.seq its.toArray n}/\xs.length<=sizeLine:=by
 obtain⟨z,its,n,r,e⟩:=I.ao p _ h;exact⟨its,n,r,e,z⟩
theorem Inv.Kv{pins:aJ}{σ:St}{H:Hp}{s:Shared}{p:Addr}{xs ys:List V}{its its':List Value}{n n':Nat}{f:Obj->Obj}(I:Inv X pins σ H s)(h:H p=some (.lst xs))
  (ho:s.heap.get? p=some {cls:=.type "list",data:=.seq its.toArray n}) (hf:f {cls:=.type "list",data:=.seq its.toArray n}={cls:=.type "list",data:=.seq its'.toArray n'}) (r:Vals ys its') (hz:ys.length<=sizeLine) (t:Nat):
  Inv X pins σ (upd H p (.lst ys)) {s with heap:=s.heap.update p f,toks:=t}:=by
 have e:(s.heap.update p f).get? p=some {cls:=.type "list",data:=.seq its'.toArray n'}:=by rw[lF f ho (by rw[hf]<;>rfl),hf]
 refine I.write (x:=p) (e:=p) (by rw[h];trivial) (.inl rfl) (fun b u hb q=>(gG _ _ (aX hb)).trans q) ⟨_,e⟩ ?_;exact⟨hz,its',n',r,e⟩
def F8:V->V->V->Hp->(Hp->Prop)->Prop:=fun o i v H Q=>∃p xs k j,o=.ref p/\i=.int k/\H p=some (.lst xs)/\iz xs.length k=some j/\Q (upd H p (.lst (xs.set j v)))
theorem set_list:nP X F8:=by
 intro pins s σ H o i v ov iv u Q I ro ri rv h;obtain⟨p,xs,k,j,rfl,rfl,hp,hj,q⟩:=h;cases ro;obtain⟨t,rfl⟩:=ri;obtain⟨its,n,r,ho,hz⟩:=I.lst hp;obtain⟨h1,h2,h3,h4⟩:=yg hj;have hl:=r.length;have hn:=km;have I':Inv X pins σ (upd H p (.lst (xs.set j v))) {s with heap:=s.heap.update p (Obj.mapSeq (·.setIfInBounds j u))}:=
  I.Kv hp ho (zR its n j u) (r.set rv j) (by rw[w8];exact hz) s.toks
 by_cases h0:0<=k
 .have hk:k.toNat=j:=by
   rw[seqIndex_of h0 h4] at h1;exact eE h1
  exact W.ki_setAt ho h0 (by omega) (by rw[bX,<-hl];exact h4) (by rw[hk];exact⟨_,I',q⟩)
 .have hk:(k+(its.toArray.size:Int)).toNat=j:=by
   rw[seqIndex_neg (by omega) h3] at h1;rw[bX,<-hl];exact eE h1
  exact W.ki_setBack ho (by omega) (by rw[bX,<-hl];exact h3) (by omega) (by rw[hk];exact⟨_,I',q⟩)
theorem oR(lo hi:Option Int)(n:Nat):(sliceBounds lo hi none n).1=((HT.aV n 0 lo:Nat):Int)/\(sliceBounds lo hi none n).2.1=((HT.aV n n hi:Nat):Int)/\(sliceBounds lo hi none n).2.2=1:=by
 refine⟨?_,?_,rfl⟩
 .cases lo with
  |none=>simp[sliceBounds,HT.aV]
  |some i=>
   simp only[sliceBounds,HT.aV,Option.getD_none,show (1:Int) > 0 by decide,gY];by_cases h:i<0
   .simp only[h,gY]<;>omega
   .simp only[h,kX]<;>omega
 .cases hi with
  |none=>simp[sliceBounds,HT.aV]
  |some i=>
   simp only[sliceBounds,HT.aV,Option.getD_none,show (1:Int) > 0 by decide,gY];by_cases h:i<0
   .simp only[h,gY]<;>omega
   .simp only[h,kX]<;>omega
theorem uR(its:List Value)(lo hi:Option Int):slicePick its.toArray lo hi none=((its.drop (HT.aV its.length 0 lo)).take (HT.aV its.length its.length hi-HT.aV its.length 0 lo)).toArray:=by obtain⟨h1,h2,h3⟩:=oR lo hi its.toArray.size;unfold slicePick;rw[h1,h2,h3];simp only[sliceRange_one,pick_run,bX]<;>rfl
def JF(K:W.Frag):V->Option Int->Option Int->Hp->VK->Prop:=fun x lo hi H Q=>∃a xs,x=.ref a/\bB K H a xs/\∀p,H p=none->Q (.ref p) (upd H p (.lst (oN xs lo hi)))
theorem GV:rq X (JF X.K):=by intro pins s σ H x v vl vu lo hi sl Q I rx hs pl pu h;obtain⟨a,xs,rfl,hx,q⟩:=h;cases rx;obtain⟨its,r,ht,hz⟩:=I.list hx;have hlen:=r.length;refine⟨"list",_,slot_list_getitem.lookup,ht.isList.typeIs,?_⟩;refine wpAny_getItem_list_slice ht.isList hs pl pu .none (by simp) ?_ (by rw[bX]<;>omega);rw[uR,<-hlen];refine⟨.ref s.heap.objs.size,_,I.laid (t':=s.toks) (o:=.lst (oN xs lo hi)) (fun b ob q=>bj _ q) (aA _) ?_,rfl,q _ (I.ao.fresh (aA _))⟩;exact⟨cL (qg xs lo hi) hz,_,0,(r.drop (HT.aV xs.length 0 lo)).take (HT.aV xs.length xs.length hi-HT.aV xs.length 0 lo),cY _ rfl⟩
noncomputable def jk:V->Bool
 |.ak=>true
 |.bl _=>true
 |.int _=>true
 |.str _=>true
 |_=>false
noncomputable def bz:V->V->Bool
 |.ak,.ak=>true
 |.bl a,.bl b=>a== b
 |.bl a,.int b=>(if a then 1 else 0)== b
 |.int a,.bl b=>a== (if b then 1 else 0)
 |.int a,.int b=>a== b
 |.str a,.str b=>a== b
 |_,_=>false
theorem Ly{A:Around}{s:Shared}{y x:V}{u v:Value}(ry:RelV y u)(rx:RelV x v)(fy:jk y=true)(fx:jk x=true):SeqAt.EqAt A s u v (bz y x):=by
 cases y with
 |ak=>
  cases ry;cases x with
  |ak=>cases rx;exact SeqAt.EqAt.same _
  |bl b=>cases rx;exact SeqAt.EqAt.none_bool b
  |int b=>obtain⟨t,rfl⟩:=rx;exact SeqAt.EqAt.none_int b t
  |str b=>obtain⟨t,rfl⟩:=rx;exact SeqAt.EqAt.none_str b t
  |_=>exact absurd (show false=true from fx) eC
 |bl a=>
  cases ry;cases x with
  |ak=>cases rx;exact SeqAt.EqAt.bool_none a
  |bl b=>cases rx;exact SeqAt.EqAt.bool_bool a b
  |int b=>obtain⟨t,rfl⟩:=rx;exact SeqAt.EqAt.bool_int a b t
  |str b=>obtain⟨t,rfl⟩:=rx;exact SeqAt.EqAt.bool_str a b t
  |_=>exact absurd (show false=true from fx) eC
 |int a=>
  obtain⟨t',rfl⟩:=ry;cases x with
  |ak=>cases rx;exact SeqAt.EqAt.int_none a t'
  |bl b=>cases rx;exact SeqAt.EqAt.int_bool a t' b
  |int b=>obtain⟨t,rfl⟩:=rx;exact SeqAt.EqAt.int_int a t' b t
  |str b=>obtain⟨t,rfl⟩:=rx;exact A1 a t' b t
  |_=>exact absurd (show false=true from fx) eC
 |str a=>
  obtain⟨t',rfl⟩:=ry;cases x with
  |ak=>cases rx;exact SeqAt.EqAt.str_none a t'
  |bl b=>cases rx;exact SeqAt.EqAt.str_bool a t' b
  |int b=>obtain⟨t,rfl⟩:=rx;exact zP a t' b t
  |str b=>obtain⟨t,rfl⟩:=rx;exact SeqAt.EqAt.str_str a t' b t
  |_=>exact absurd (show false=true from fx) eC
 |_=>exact absurd (show false=true from fy) eC
def kj(x:V)(u:Value):Bool:=match u with
 |.none=>bz .ak x
 |.bool b=>bz (.bl b) x
 |.int i _=>bz (.int i) x
 |.str z _=>bz (.str z) x
 |_=>false
theorem By{x y:V}{u:Value}(r:RelV y u)(f:jk y=true):kj x u=bz y x:=by
 cases y with
 |ak=>cases r;rfl
 |bl b=>cases r;rfl
 |int i=>obtain⟨t,rfl⟩:=r;rfl
 |str z=>obtain⟨t,rfl⟩:=r;rfl
 |_=>exact absurd (show false=true from f) eC
theorem my{x:V}:∀{xs:List V}{us:List Value},Vals xs us->xs.all jk=true->us.any (kj x)=xs.any fun y=>bz y x
 |_,_,.nil,_=>rfl
 |y::xs,u::us,.cons r t,f=>by
  rw[eQ,av] at f;rw[lN,lN,By r f.1,my t f.2]
theorem kL{A:Around}{s:Shared}{x:V}{v:Value}(rx:RelV x v)(fx:jk x=true):∀{xs:List V}{us:List Value},Vals xs us->xs.all jk=true->∀u∈us,SeqAt.EqAt A s u v (kj x u)
 |_,_,.nil,_=>fun u hu=>by cases hu
 |y::xs,u::us,.cons r t,f=>fun u' hu=>by
  rw[eQ,av] at f;rcases cX.mp hu with rfl|hu
  .rw[By r f.1];exact Ly r rx f.1 fx
  .exact kL rx fx t f.2 u' hu
def Lk(x:V)(xs:List V):Bool:=xs.any fun y=>bz y x
def J5(K:W.Frag)(neg:Bool):R2:=fun x y H Q=>∃p xs,y=.ref p/\(bB K H p xs\/df K H p xs)/\jk x=true/\xs.all jk=true/\Q (.bl (if neg then !Lk x xs else Lk x xs)) H
theorem BH:cN X (compareOp .In) (J5 X.K false):=by
 intro pins s σ H x y v u Q I rx ry h;obtain⟨p,xs,rfl,hq,fx,fs,q⟩:=h;cases ry;rcases hq with hq|hq
 .obtain⟨its,r,pl,hz⟩:=I.list hq;refine SeqAt.in_listAt (kj x) pl.isList (fun w hw=>kL rx fx r fs w (by simpa using hw)) ⟨.bl _,H,I,rfl,?_⟩;rw[show its.toArray.any (kj x)=its.any (kj x) by simp,my r fs];exact q
 .obtain⟨its,r,pl,hz⟩:=I.tuple hq;refine SeqAt.in_tupleAt (kj x) pl (fun w hw=>kL rx fx r fs w (by simpa using hw)) ⟨.bl _,H,I,rfl,?_⟩;rw[show its.toArray.any (kj x)=its.any (kj x) by simp,my r fs];exact q
theorem v9:cN X (compareOp .NotIn) (J5 X.K true):=by
 intro pins s σ H x y v u Q I rx ry h;obtain⟨p,xs,rfl,hq,fx,fs,q⟩:=h;cases ry;rcases hq with hq|hq
 .obtain⟨its,r,pl,hz⟩:=I.list hq;refine SeqAt.notIn_listAt (kj x) pl.isList (fun w hw=>kL rx fx r fs w (by simpa using hw)) ⟨.bl _,H,I,rfl,?_⟩;rw[show its.toArray.any (kj x)=its.any (kj x) by simp,my r fs];exact q
 .obtain⟨its,r,pl,hz⟩:=I.tuple hq;refine SeqAt.notIn_tupleAt (kj x) pl (fun w hw=>kL rx fx r fs w (by simpa using hw)) ⟨.bl _,H,I,rfl,?_⟩;rw[show its.toArray.any (kj x)=its.any (kj x) by simp,my r fs];exact q
theorem w9:eV X (.builtin "len") (fun xs H Q=>∃p ys,xs=[.ref p]/\(bB X.K H p ys\/df X.K H p ys)/\Q (.int ys.length) H):=by
 intro pins s σ H xs us Q I r h;obtain⟨p,ys,rfl,hq,q⟩:=h;obtain⟨u,rfl,rx⟩:=vals1 r;cases rx;have hn:=km;rcases hq with hq|hq
 .obtain⟨its,r',pl,hz⟩:=I.list hq;have hlen:=r'.length;exact Calls.call_len_list pl.isList (by simp only[bX]<;>omega) ⟨.int ys.length,H,I.tok _,⟨s.toks+1,by rw[bX,hlen]⟩,q⟩
 .obtain⟨its,r',pl,hz⟩:=I.tuple hq;have hlen:=r'.length;exact len_tuple pl (by simp only[bX]<;>omega) ⟨.int ys.length,H,I.tok _,⟨s.toks+1,by rw[bX,hlen]⟩,q⟩
theorem w4:eV X (.builtin "len") (fun xs H Q=>∃z,xs=[.str z]/\z.length<=sizeLine/\Q (.int z.length) H):=by intro pins s σ H xs us Q I r h;obtain⟨z,rfl,hz,q⟩:=h;obtain⟨u,rfl,t,rfl⟩:=vals1 r;have hn:=km;exact len_str (by omega) ⟨.int z.length,H,I.tok _,⟨_,rfl⟩,q⟩
theorem eV.or{f:Value}{r r':List V->Hp->VK->Prop}(h:eV X f r)(h':eV X f r'):eV X f (fun xs H Q=>r xs H Q\/r' xs H Q):=by
 intro pins s σ H xs us Q I rs q;rcases q with q|q
 .exact h pins s σ H xs us Q I rs q
 .exact h' pins s σ H xs us Q I rs q
theorem vY:eV X (.type "list") (fun xs H Q=>∃p ys,xs=[.ref p]/\(bB X.K H p ys\/df X.K H p ys)/\∀l,H l=none->Q (.ref l) (upd H l (.lst ys))):=by
 intro pins s σ H xs us Q I r h;obtain⟨p,ys,rfl,hq,q⟩:=h;obtain⟨u,rfl,rx⟩:=vals1 r;cases rx;have fin:∀(its:List Value),Vals ys its->ys.length<=sizeLine->∀(h':Heap)(c':Nat),(∀b o',s.heap.get? b=some o'->h'.get? b=some o')->
   h'.get? s.heap.objs.size=some {cls:=.type "list",dict:=none,data:=.seq its.toArray c',slots:=#[]}->EP X pins σ Q (.ref s.heap.objs.size) {s with heap:=h'}:=fun its r' hz h' c' kp e=>
  ⟨.ref s.heap.objs.size,_,I.laid (t':=s.toks) kp (aA _) (show bM X.prog X.w _ h' _ (.lst ys) from ⟨hz,its,c',r',e⟩),rfl,q _ (I.ao.fresh (aA _))⟩
 rcases hq with hq|hq
 .obtain⟨its,r',pl,hz⟩:=I.list hq;have hlen:=r'.length;obtain⟨o,ho,hc,n,hd⟩:=pl.isList;exact call_list_seq p (.inl rfl) ho hc hd (fun h' c' kp e=>fin its r' hz h' c' kp e) (by simp only[bX]<;>omega)
 .obtain⟨its,r',pl,hz⟩:=I.tuple hq;have hlen:=r'.length;obtain⟨o,ho,hc,n,hd⟩:=pl;exact call_list_seq p (.inr rfl) ho hc hd (fun h' c' kp e=>fin its r' hz h' c' kp e) (by simp only[bX]<;>omega)
theorem uQ:eV X (.type "tuple") (fun xs H Q=>∃p ys,xs=[.ref p]/\((bB X.K H p ys/\∀l,H l=none->Q (.ref l) (upd H l (.tup ys)))\/(df X.K H p ys/\Q (.ref p) H))):=by
 intro pins s σ H xs us Q I r h;obtain⟨p,ys,rfl,h⟩:=h;obtain⟨u,rfl,rx⟩:=vals1 r;cases rx;rcases h with ⟨hq,q⟩|⟨hq,q⟩
 .obtain⟨its,r',pl,hz⟩:=I.list hq;have hlen:=r'.length;refine call_tuple_list pl.isList (fun h' kp=>?_) (by simp only[bX]<;>omega);have I1:Inv X pins σ H {s with heap:=h'}:=I.kept (t':=s.toks) kp;have I2:Inv X pins σ (upd H h'.objs.size (.tup ys)) {s with heap:=h'.push {cls:=.type "tuple",data:=.seq its.toArray}}:=
   I1.laid (t':=s.toks) (fun b o e=>bj _ e) (aA _) (show bM X.prog X.w _ _ _ (.tup ys) from ⟨hz,its,r',IsTup.new _ _⟩)
  exact⟨.ref h'.objs.size,_,I2,rfl,q _ (I1.ao.fresh (aA _))⟩
 .obtain⟨its,r',pl,hz⟩:=I.tuple hq;exact call_tuple_same pl ⟨.ref p,H,I,rfl,q⟩
def Lp(K:W.Frag)(T:String)(x:V)(H:Hp):Prop:=match x with
 |.str _=>T= "str"
 |.int _=>T= "int"
 |.ref p=>(T= "list" /\∃xs,bB K H p xs)\/(T= "tuple" /\∃o,K.lookup p=some o/\o.cls=.type "tuple" /\o.dict=none)\/
   (T= "dict" /\((∃kvs,H p=some (.dK kvs))\/∃kvs,H p=some (.dT kvs)))\/(T= "set" /\∃S n,H p=some (.set S n))
 |_=>False
theorem CO{pins:aJ}{σ:St}{H:Hp}{s:Shared}{T:String}{x:V}{v:Value}(I:Inv X pins σ H s)(r:RelV x v)(ty:Lp X.K T x H):
  s.TypeIs v T/\∀a,v=.ref a->∃ob,s.heap.get? a=some ob/\ob.dict=none:=by
 cases x with
 |str z=>
  obtain⟨t,rfl⟩:=r;cases (show T= "str" from ty);exact⟨typeIs_str s z t,fun _ e=>nomatch e⟩
 |int i=>
  obtain⟨t,rfl⟩:=r;cases (show T= "int" from ty);exact⟨typeIs_int s i t,fun _ e=>nomatch e⟩
 |ref p=>
  cases r;rcases ty with ⟨rfl,xs,hq⟩|⟨rfl,o,hk,hc,hd⟩|⟨rfl,hk⟩|⟨rfl,S,n,hk⟩
  .obtain⟨its,_,pl,_⟩:=I.list hq;refine⟨pl.isList.typeIs,fun a e=>?_⟩;cases e;obtain⟨o,n,e,c,hd,_⟩:=pl;exact⟨o,e,hd⟩
  .refine⟨⟨o,I.cJ p o hk,hc⟩,fun a e=>?_⟩;cases e;exact⟨o,I.cJ _ o hk,hd⟩
  .have z:∃o,s.heap.get? p=some o/\o.ExactDict:=by
    rcases hk with ⟨kvs,hk⟩|⟨kvs,hk⟩
    .obtain⟨_,_,_,_,o,_,_,e,ex,_⟩:=I.ao p _ hk;exact⟨o,e,ex⟩
    .obtain⟨_,_,_,_,o,_,_,e,ex,_⟩:=I.ao p _ hk;exact⟨o,e,ex⟩
   obtain⟨o,e,ex⟩:=z;refine⟨⟨o,e,ex.1⟩,fun a e2=>?_⟩;cases e2;exact⟨o,e,ex.2.1⟩
  .obtain⟨o,_,_,_,e,ex,_⟩:=I.ao p _ hk;refine⟨⟨o,e,ex.1⟩,fun a e2=>?_⟩;cases e2;exact⟨o,e,ex.2.1⟩
 |_=>exact False.elim ty
noncomputable def P5(K:W.Frag)(T:String)(r:V->List V->Hp->VK->Prop)(to:TE):TE:=fun σ H Q=>to σ H fun x H1=>Lp K T x H1/\r x [] H1 Q
noncomputable def RH(K:W.Frag)(T:String)(r:V->List V->Hp->VK->Prop)(to:TE)(t:TA):TE:=fun σ H Q=>to σ H fun x H1=>Lp K T x H1/\t σ H1 fun xs H2=>r x xs H2 Q
variable {o e:Expr}{es:List Expr}{to:TE}{t:TA}{name:Str}{apos cpos:Pos}{T id:String}{r:V->List V->Hp->VK->Prop}
theorem IW(pa:PlainAttrs T)(slot:Slot T name id)(hty:typeOf (.builtin id)=pure (.type "method_descriptor"))(hm:Kp X id r)(ho:PE X o to)
  (hbase:attributeBase o name X.env (eval o X.env)=eval o X.env:=by rfl) (hline:(apos.endLine== cpos.line)=true:=by rfl):PE X (.Call (.Attribute o name apos) [] [] cpos) (P5 X.K T r to):=by
 intro pins s σ H Q I h;refine wpAny_Call_method0_late hbase hline (az (ho pins s σ H _ I h) fun v s1 Z=>Z.g4 fun x H1 I1 r1 Z=>Z.g fun ty q1=>?_);obtain⟨h1,h2⟩:=CO I1 r1 ty;exact⟨T,id,pa,slot,hty,h1,h2,Calls.callWith_builtin rfl (PySem.evalArgs_none (hm pins s1 σ H1 x [] v [] Q I1 r1 .nil q1))⟩
theorem Bj(pa:PlainAttrs T)(slot:Slot T name id)(hty:typeOf (.builtin id)=pure (.type "method_descriptor"))(hm:Kp X id r)(ho:PE X o to)(ha:PA X (e::es) t)
  (hbase:attributeBase o name X.env (eval o X.env)=eval o X.env:=by rfl)
  (hfew:((backTo cpos (starEach (e::es) X.env)).all (fun x=>!x.1)&&(backToKw cpos (keywordEach [] X.env)).all (fun x=>x.1.isSome)
   && decide ((e::es).length+([]:List Keyword).length+(if ([]:List Keyword).isEmpty then 0 else 1)<30))=true:=by rfl)
  (hline:(apos.endLine== cpos.line)=true:=by rfl) (hs:starEach (e::es) X.env=(false,eval e X.env)::starEach es X.env:=by rfl) (hplain:(backTo cpos (starEach es X.env)).any (·.1)=false:=by rfl):
  PE X (.Call (.Attribute o name apos) (e::es) [] cpos) (RH X.K T r to t):=by
 intro pins s σ H Q I h;refine wpAny_Call_method_late hbase hfew hline rfl (az (ho pins s σ H _ I h) fun v s1 Z=>Z.g4 fun x H1 I1 r1 Z=>Z.g fun ty q1=>?_);obtain⟨h1,h2⟩:=CO I1 r1 ty;refine⟨T,id,pa,slot,hty,h1,h2,?_⟩;have hA:=ha cpos pins s1 σ H1 _ I1 q1;rw[hs] at hA⊢;refine Calls.callWith_builtin (by show (false || (backTo cpos (starEach es X.env)).any (·.1))=false;rw[hplain]<;>rfl) (Calls.evalArgs_plain ?_);exact az hA fun us s2 Z=>Z.g4 fun vs H2 I2 r2 q2=>hm pins s2 σ H2 x vs v us Q I2 r1 r2 q2
end
def Lc(X:Cx)(id:String)(r:V->List V->Hp->VK->Prop):Prop:=
 ∀(pins:aJ)(s:Shared)(σ:St)(H:Hp)(x:V)(xs:List V)(v:Value)(us:List Value)(Q:VK),Inv X pins σ H s->RelV x v->Vals xs us->r x xs H Q->
  wpAny (model X.prog X.w) X.A (call (.builtin id) (v::us)) (EP X pins σ Q) X.xe s
theorem Vals.one:∀{x:V}{us:List Value},Vals [x] us->∃u,us=[u]/\RelV x u
 |_,_,.cons r .nil=>⟨_,rfl,r⟩
theorem Vals.zero:∀{us:List Value},Vals [] us->us=[]
 |_,.nil=>rfl
theorem Vals.reverse{xs:List V}{us:List Value}(h:Vals xs us):Vals xs.reverse us.reverse:=by
 induction h with
 |nil=>exact .nil
 |cons r t ih=>rw[vB,vB];exact Vals.append ih (.cons r .nil)
theorem Vals.rep{xs:List V}{us:List Value}(h:Vals xs us):∀k:Nat,Vals (List.replicate k xs).flatten (List.replicate k us).flatten
 |0=>.nil
 |k+1=>by
  rw[oQ,oQ,tF,tF];exact Vals.append h (Vals.rep h k)
theorem foldl_rep(its:List Value):∀(k:Nat)(acc:List Value),
  List.foldl (fun x1 x2=>x1++x2) acc.toArray (List.replicate k its.toArray)=(acc++(List.replicate k its).flatten).toArray
 |0,acc=>by simp
 |k+1,acc=>by
  have e:acc.toArray++its.toArray=(acc++its).toArray:=by simp
  have e2:(acc++its)++(List.replicate k its).flatten=acc++(List.replicate (k+1) its).flatten:=by rw[oQ,tF,om]
  rw[<-e2,<-foldl_rep its k (acc++its),<-e,oQ,List.foldl_cons]
section
variable {X:Cx}{pins:aJ}{σ:St}{H:Hp}{s:Shared}{l b:Addr}{xs ys zs:List V}
theorem Inv.DV{its its':List Value}{n:Nat}{f:Array Value->Array Value}{t':Nat}(I:Inv X pins σ H s)(hH:H l=some (.lst xs))
  (e:s.heap.get? l=some {cls:=.type "list",data:=.seq its.toArray n}) (hf:f its.toArray=its'.toArray) (hv:Vals ys its') (hz:ys.length<=sizeLine):
  Inv X pins σ (upd H l (.lst ys)) {s with heap:=s.heap.update l (Obj.mapSeq f),toks:=t'}:=by
 have q:=PySem.IsL.update e f;rw[hf] at q;refine I.write (x:=l) (e:=l) (by rw[hH];exact trivial) (.inl rfl) (fun b' u hb hu=>(gG s.heap (Obj.mapSeq f) (aX hb)).trans hu) ⟨_,q⟩ ?_;exact⟨hz,its',_,hv,q⟩
theorem Inv.Qz{its:List Value}{t':Nat}(I:Inv X pins σ H s)(hv:Vals ys its)(hz:ys.length<=sizeLine):
  Inv X pins σ (upd H s.heap.objs.size (.lst ys)) {s with heap:=s.heap.push {cls:=.type "list",data:=.seq its.toArray},toks:=t'}:=
 I.laid (fun _ _ q=>bj _ q) (aA _) ⟨hz,its,0,hv,cY _ rfl⟩
theorem Inv.fresh(I:Inv X pins σ H s):H s.heap.objs.size=none:=I.ao.fresh (aA _)
theorem Inv.sZ(I:Inv X pins σ H s)(hH:H l=some (.lst xs)):xs.length<=sizeLine/\∃(its:List Value) (n:Nat),Vals xs its/\xs.length=its.length/\s.heap.get? l=some {cls:=.type "list",data:=.seq its.toArray n}:=by obtain⟨z,its,n,r,e⟩:=I.ao l _ hH;exact⟨z,its,n,r,r.length,e⟩
end
section
variable {X:Cx}
def He:V->List V->Hp->VK->Prop:=fun x vs H Q=>∃l xs y,x=.ref l/\vs=[y]/\H l=some (.lst xs)/\xs.length<sizeLine/\Q .ak (upd H l (.lst (xs++[y])))
theorem uz:Lc X "list.append" He:=by intro pins s σ H x vs v us Q I rx rv h;obtain⟨l,xs,y,rfl,rfl,hH,hz,q⟩:=h;cases rx;obtain⟨u,rfl,ru⟩:=rv.one;obtain⟨z,its,n,r,hl,e⟩:=I.sZ hH;refine pP F.slot_list_append ⟨_,e,rfl⟩ F.entry_list_append (F.args_list_append_2 _ _) (PySem.list_append l its.toArray n u (by rw[bX];omega)) ⟨e,?_⟩;refine⟨.ak,_,I.DV (its':=its++[u]) hH e (by simp) (r.append (.cons ru .nil)) ?_,rfl,q⟩;rw[iU,DB];omega
def EU:V->List V->Hp->VK->Prop:=fun x vs H Q=>∃l xs,x=.ref l/\vs=[]/\H l=some (.lst xs)/\Q .ak (upd H l (.lst xs.reverse))
theorem zX:Lc X "list.reverse" EU:=by intro pins s σ H x vs v us Q I rx rv h;obtain⟨l,xs,rfl,rfl,hH,q⟩:=h;cases rx;have hus:=rv.zero;subst hus;obtain⟨z,its,n,r,hl,e⟩:=I.sZ hH;refine pP F.slot_list_reverse ⟨_,e,rfl⟩ F.entry_list_reverse (F.args_list_reverse_1 _) (AutoSeq1.list_reverse_list_0 l its.toArray n (by rw[bX];omega)) ⟨e,?_⟩;refine⟨.ak,_,I.DV (its':=its.reverse) hH e (by simp) r.reverse ?_,rfl,q⟩;rw[wJ];omega
def KU:R2:=fun x y H Q=>∃l b xs zs,x=.ref l/\y=.ref b/\H l=some (.lst xs)/\H b=some (.lst zs)/\xs.length+zs.length<=sizeLine/\∀p,H p=none->Q (.ref p) (upd H p (.lst (xs++zs)))
theorem Kb:cN X (binaryOp .Add) KU:=by
 intro pins s σ H x y v u Q I rx ry h;obtain⟨l,b,xs,zs,rfl,rfl,hH,hB,hz,q⟩:=h;cases rx;cases ry;obtain⟨z,its,n,r,hl,e⟩:=I.sZ hH;obtain⟨z2,its2,n2,r2,hl2,e2⟩:=I.sZ hB;refine PySem.P.add_list e e2 ?_ (by rw[bX,bX];omega);have ea:its.toArray++its2.toArray=(its++its2).toArray:=by simp
 rw[ea];exact⟨.ref _,_,I.Qz (t':=s.toks) (r.append r2) (by rw[iU];omega),rfl,q _ I.fresh⟩
theorem len_rep{α:Type}(xs:List α)(k:Nat):(List.replicate k xs).flatten.length=k * xs.length:=by
 induction k with
 |zero=>simp
 |succ k ih=>rw[oQ,tF,iU,ih,Nat.succ_mul,Nat.add_comm]
end
section
variable {prog:Program}{w:World}{A:Around}{E:aH}{s:Shared}
set_option maxRecDepth 100000 in
end
section
variable {X:Cx}
end
section
variable {κ:Type} [DecidableEq κ]
noncomputable def i7(kvs:List (κ×V))(k:κ):Option V:=(kvs.find? fun kv=>decide (kv.1=k)).map (·.2)
def putK(kvs:List (κ×V))(k:κ)(v:V):List (κ×V):=
 if (kvs.any fun kv=>decide (kv.1=k))=true then kvs.map (fun kv=>if kv.1=k then (kv.1,v) else kv) else kvs++[(k,v)]
theorem mE{p:κ×V}{r:List (κ×V)}{k:κ}(e:p.1=k):i7 (p::r) k=some p.2:=by simp[i7,sR,e]
theorem m8{p:κ×V}{r:List (κ×V)}{k:κ}(e:¬ p.1=k):i7 (p::r) k=i7 r k:=by simp[i7,sR,e]
theorem vW(k:κ):∀kvs:List (κ×V),(kvs.any fun kv=>decide (kv.1=k))=(i7 kvs k).isSome
 |[]=>rfl
 |p::r=>by
  rw[lN];by_cases e:p.1=k
  .simp only[mE e,jb e,Bool.true_or,Option.isSome_some]
  .rw[m8 e,bU e,Bool.false_or];exact vW k r
theorem lA(kvs:List (κ×V))(k:κ)(v:V):(putK kvs k v).length<=kvs.length+1:=by
 unfold putK;split
 .rw[gC];omega
 .rw[iU,cQ,ka];omega
theorem dY.js{o:Option V}{u:Option Value}(r:dY o u):o.isSome=u.isSome:=by
 cases o with
 |none=>cases u with
  |none=>rfl
  |some _=>exact (show False from r).elim
 |some _=>cases u with
  |none=>exact (show False from r).elim
  |some _=>rfl
theorem KV.val{kvs:List (κ×V)}{vs:List (κ×Value)}(r:KV kvs vs)(k:κ):dY (i7 kvs k) (valueAt vs k):=by
 unfold KV at r
 induction r with
 |nil=>exact kY
 | @cons p q ps qs h t ih=>
  obtain⟨h1,h2⟩:=h;by_cases e:p.1=k
  .have e':q.1=k:=h1.symm.trans e;have b:valueAt (q::qs) k=some q.2:=by simp[valueAt,sR,e']
   rw[mE e,b];exact h2
  .have e':¬ q.1=k:=fun z=>e (h1.trans z);have b:valueAt (q::qs) k=valueAt qs k:=by simp[valueAt,sR,e']
   rw[m8 e,b];exact ih
theorem KV.any{kvs:List (κ×V)}{vs:List (κ×Value)}(r:KV kvs vs)(k:κ):(kvs.any fun kv=>decide (kv.1=k))=vs.any fun kv=>decide (kv.1=k):=by
 unfold KV at r
 induction r with
 |nil=>rfl
 |cons h t ih=>rw[lN,lN,ih,h.1]
theorem KV.Ej{kvs:List (κ×V)}{vs:List (κ×Value)}(r:KV kvs vs)(k:κ){y:V}{u:Value}(ry:RelV y u):
  KV (kvs.map fun kv=>if kv.1=k then (kv.1,y) else kv) (vs.map fun kv=>if kv.1=k then (kv.1,u) else kv):=by
 unfold KV at r⊢
 induction r with
 |nil=>exact .nil
 | @cons p q ps qs h t ih=>
  rw[aR,aR];refine .cons ?_ ih;obtain⟨h1,h2⟩:=h;by_cases e:p.1=k
  .rw[if_pos e,if_pos (h1.symm.trans e)];exact⟨h1,ry⟩
  .rw[if_neg e,if_neg (fun z=>e (h1.trans z))];exact⟨h1,h2⟩
theorem KV.put{kvs:List (κ×V)}{vs:List (κ×Value)}(r:KV kvs vs)(k:κ){y:V}{u:Value}(ry:RelV y u):KV (putK kvs k y) (stored vs k u):=by
 unfold putK stored;rw[r.any k];by_cases e:(vs.any fun kv=>decide (kv.1=k))=true
 .rw[if_pos e,if_pos e];exact r.Ej k ry
 .rw[if_neg e,if_neg e];exact Paired.snoc r ⟨rfl,ry⟩
theorem KV.length{kvs:List (κ×V)}{vs:List (κ×Value)}(r:KV kvs vs):kvs.length=vs.length:=Paired.length r
end
theorem oY{P:Program}{w:World}{k:Key}{u:Value}(r:RelV (kV k) u):(b7 P w).is k u=true:=by
 cases k with
 |inl i=>obtain⟨t,e⟩:=(show ∃t,u=Value.int i t from r);subst e;exact xU P w i t
 |inr x=>obtain⟨t,e⟩:=(show ∃t,u=Value.str x t from r);subst e;exact x9 P w x t
theorem C5{a b:Key}(e:kV a=kV b):a=b:=by
 cases a with
 |inl i=>cases b with
  |inl j=>have e':V.int i=V.int j:=e;injection e' with e';rw[e']
  |inr y=>exact nomatch (show V.int i=V.str y from e)
 |inr x=>cases b with
  |inl j=>exact nomatch (show V.str x=V.int j from e)
  |inr y=>have e':V.str x=V.str y:=e;injection e' with e';rw[e']
theorem uh{P:Program}{w:World}:∀{ks:List Key}{us:List Value},Vals (ks.map kV) us->ItemsAre (b7 P w) ks us
 |[],_,r=>by rw[gD] at r;cases r;exact .nil
 |k::ks,_,r=>by
  rw[aR] at r;cases r with
  |cons h t=>exact .cons (oY h) (uh t)
abbrev KT(H:Hp):List (List Key×V)->List (List Key×Addr×Value)->Prop:=Paired fun p q=>p.1=q.1/\H q.2.1=some (.tup (p.1.map kV))/\RelV p.2 q.2.2
theorem KT.val{H:Hp}{kvs:List (List Key×V)}{xs:List (List Key×Addr×Value)}(r:KT H kvs xs)(k:List Key):dY (i7 kvs k) ((atKey xs k).map (·.2)):=by
 induction r with
 |nil=>exact kY
 | @cons p q ps qs h t ih=>
  obtain⟨h1,_,h2⟩:=h;by_cases e:p.1=k
  .have e':q.1=k:=h1.symm.trans e;have b:atKey (q::qs) k=some q.2:=by simp[atKey,sR,e']
   rw[mE e,b];exact h2
  .have e':¬ q.1=k:=fun z=>e (h1.trans z);have b:atKey (q::qs) k=atKey qs k:=by simp[atKey,sR,e']
   rw[m8 e,b];exact ih
theorem KT.Ej{H:Hp}{kvs:List (List Key×V)}{xs:List (List Key×Addr×Value)}(r:KT H kvs xs)(k:List Key){y:V}{u:Value}(ry:RelV y u):
  KT H (kvs.map fun kv=>if kv.1=k then (kv.1,y) else kv) (xs.map (putAt k u)):=by
 induction r with
 |nil=>exact .nil
 | @cons p q ps qs h t ih=>
  rw[aR,aR];refine .cons ?_ ih;obtain⟨h1,h2,h3⟩:=h;unfold putAt;by_cases e:p.1=k
  .rw[if_pos e,if_pos (h1.symm.trans e)];exact⟨h1,h2,ry⟩
  .rw[if_neg e,if_neg (fun z=>e (h1.trans z))];exact⟨h1,h2,h3⟩
theorem KT.put{H:Hp}{kvs:List (List Key×V)}{xs:List (List Key×Addr×Value)}(r:KT H kvs xs)(k:List Key){b:Addr}{y:V}{u:Value}(hb:H b=some (.tup (k.map kV)))(ry:RelV y u):
  KT H (putK kvs k y) (storedH xs k b u):=by
 have e:(kvs.any fun kv=>decide (kv.1=k))=(atKey xs k).isSome:=by rw[vW,(r.val k).js,AN]
 unfold putK storedH;rw[e];by_cases q:(atKey xs k).isSome=true
 .rw[if_pos q,if_pos q];exact r.Ej k ry
 .rw[if_neg q,if_neg q];exact Paired.snoc r ⟨rfl,hb,ry⟩
theorem KT.keeps{H H':Hp}{kvs:List (List Key×V)}{xs:List (List Key×Addr×Value)}(r:KT H kvs xs)(ht:∀b ys,H b=some (.tup ys)->H' b=some (.tup ys)):KT H' kvs xs:=
 Paired.Fv r fun _ _ z=>⟨z.1,ht _ _ z.2.1,z.2.2⟩
section
variable {P:Program}{w:World}{H:Hp}{h:Heap}{a:Addr}
theorem jV{u:HO}(ok:cR P w H h)(e:Rd H a u):bM P w H h a u:=e.ok ok
theorem pN{kvs:List (Key×V)}(ok:cR P w H h)(e:Rd H a (.dK kvs)):kvs.length<=sizeLine/\(a== sysModules)=false/\∃vs,KV kvs vs/\h.DictOf (b7 P w) a vs:=
 show bM P w H h a (.dK kvs) from jV ok e
theorem m7{kvs:List (Key×V)}(ok:cR P w H h)(e:H a=some (.dK kvs)):kvs.length<=sizeLine/\(a== sysModules)=false/\∃vs,KV kvs vs/\h.DictOf (b7 P w) a vs:=pN ok (.inl e)
theorem oU{ks:List Key}(ok:cR P w H h)(e:H a=some (.tup (ks.map kV))):(tupleKind (b7 P w)).is h ks a:=by obtain⟨_,its,r,o,h1,h2,n,h3⟩:=(show bM P w H h a (.tup (ks.map kV)) from ok a _ e);exact⟨o,its.toArray,n,h1,h2,h3,by simpa using uh r⟩
theorem rU{kvs:List (List Key×V)}(ok:cR P w H h)(e:Rd H a (.dT kvs)):kvs.length<=sizeLine/\(a== sysModules)=false/\
  ∃xs,KT H kvs xs/\h.DictOfH (tupleKind (b7 P w)) a xs:=by
 obtain⟨z,y,xs,r,o,es,ep,h1,h2,h3,h4,h5⟩:=(show bM P w H h a (.dT kvs) from jV ok e);refine⟨z,y,xs,r,o,es,ep,h1,h2,h3,h4,fun x hx=>?_,h5⟩;have all:∀{l:List (List Key×V)}{m:List (List Key×Addr×Value)},KT H l m->∀x∈m,(tupleKind (b7 P w)).is h x.1 x.2.1:=by
  intro l m q
  induction q with
  |nil=>intro x hx;exact nomatch hx
  | @cons p q ps qs hq t ih=>
   intro x hx;rcases cX.mp hx with e|hx
   .subst e;exact oU ok (by rw[<-hq.1];exact hq.2.1)
   .exact ih x hx
 exact all r x hx
theorem Na{kvs:List (List Key×V)}(ok:cR P w H h)(e:H a=some (.dT kvs)):kvs.length<=sizeLine/\(a== sysModules)=false/\
  ∃xs,KT H kvs xs/\h.DictOfH (tupleKind (b7 P w)) a xs:=rU ok (.inl e)
end
def kD(H:Hp)(a:Addr)(y:V)(r:Option V):Prop:=
 (∃kvs k,Rd H a (.dK kvs)/\y=kV k/\r=i7 kvs k)\/∃kvs k b,Rd H a (.dT kvs)/\y=.ref b/\H b=some (.tup (k.map kV))/\r=i7 kvs k
def tN(H:Hp)(a:Addr)(y v:V)(H':Hp):Prop:=
 (∃kvs k,H a=some (.dK kvs)/\y=kV k/\kvs.length<sizeLine/\H'=upd H a (.dK (putK kvs k v)))\/
 ∃kvs k b,H a=some (.dT kvs)/\y=.ref b/\H b=some (.tup (k.map kV))/\kvs.length<sizeLine/\H'=upd H a (.dT (putK kvs k v))
theorem kD.k{H:Hp}{a:Addr}{kvs:List (Key×V)}{k:Key}(e:H a=some (.dK kvs)):kD H a (kV k) (i7 kvs k):=.inl ⟨kvs,k,.inl e,rfl,rfl⟩
theorem tN.k{H:Hp}{a:Addr}{kvs:List (Key×V)}{k:Key}{v:V}(e:H a=some (.dK kvs))(hl:kvs.length<sizeLine):tN H a (kV k) v (upd H a (.dK (putK kvs k v))):=.inl ⟨kvs,k,e,rfl,hl,rfl⟩
section
variable {X:Cx}{pins:aJ}{σ:St}{H:Hp}{s:Shared}{a:Addr}{y v:V}{u r:Value}{o:Option V}{A:Around}{E:aH}
theorem Inv.big(I:Inv X pins σ H s):sysModules<s.heap.objs.size:=by have h:mainGlobals<s.heap.objs.size:=(I.mod.glob.keeps I.bk).lt;exact Nat.lt_trans (by decide) h
theorem Ca{Q:aH}(hu:A.units+1<cLine)(I:Inv X pins σ H s)(g:kD H a y (some v))(ry:RelV y u)(h:∀w' s',Inv X pins σ H s'->RelV v w'->Q w' s'):
  wpAny (model X.prog X.w) A (getItem (.ref a) u) Q E s:=by
 rcases g with ⟨kvs,k,e,ey,l⟩|⟨kvs,k,b,e,ey,eb,l⟩
 .subst ey;obtain⟨z,hd,vs,rel,dd⟩:=pN I.ao e;obtain⟨w',hw,rw'⟩:=dY.some_of (v:=v) (o:=valueAt vs k) (by rw[l];exact rel.val k);exact wpAny_getItem_of (oY ry) dd.mapOf hw (h w' _ (I.tok _) rw')
 .subst ey;cases (show u=Value.ref b from ry);obtain⟨z,hd,xs,rel,dd⟩:=rU I.ao e;obtain⟨w',hw,rw'⟩:=dY.some_of (v:=v) (o:=(atKey xs k).map (·.2)) (by rw[l];exact rel.val k);obtain⟨p,hp,hp2⟩:=je.mp hw;refine wpAny_getItem_heap (uZ hu) (oU I.ao eb) dd hp ?_;rw[hp2];exact h w' _ (I.tok _) rw'
theorem Pn{Q:aH}(hu:A.units+1<cLine)(I:Inv X pins σ H s)(g:kD H a y o)(ry:RelV y u)(h:∀s',Inv X pins σ H s'->Q (.bool o.isSome) s'):
  wpAny (model X.prog X.w) A (compareOp .In u (.ref a)) Q E s:=by
 rcases g with ⟨kvs,k,e,ey,l⟩|⟨kvs,k,b,e,ey,eb,l⟩
 .subst ey;obtain⟨z,hd,vs,rel,dd⟩:=pN I.ao e;refine wpAny_in_of (oY ry) hd dd.mapOf ?_;rw[<-(rel.val k).js,<-l];exact h _ (I.tok _)
 .subst ey;cases (show u=Value.ref b from ry);obtain⟨z,hd,xs,rel,dd⟩:=rU I.ao e;refine wpAny_in_heap (uZ hu) (oU I.ao eb) hd dd ?_;have q:=(rel.val k).js;rw[AN] at q;rw[<-q,<-l];exact h _ (I.tok _)
theorem GW{Q:aH}(hu:A.units+1<cLine)(I:Inv X pins σ H s)(g:kD H a y o)(ry:RelV y u)(h:∀s',Inv X pins σ H s'->Q (.bool (!o.isSome)) s'):
  wpAny (model X.prog X.w) A (compareOp .NotIn u (.ref a)) Q E s:=by
 rcases g with ⟨kvs,k,e,ey,l⟩|⟨kvs,k,b,e,ey,eb,l⟩
 .subst ey;obtain⟨z,hd,vs,rel,dd⟩:=pN I.ao e;refine wpAny_notIn_of (oY ry) hd dd.mapOf ?_;rw[<-(rel.val k).js,<-l];exact h _ (I.tok _)
 .subst ey;cases (show u=Value.ref b from ry);obtain⟨z,hd,xs,rel,dd⟩:=rU I.ao e;refine wpAny_notIn_heap (uZ hu) (oU I.ao eb) hd dd ?_;have q:=(rel.val k).js;rw[AN] at q;rw[<-q,<-l];exact h _ (I.tok _)
theorem sW{h':Heap}{t':Nat}{ob:HO}(I:Inv X pins σ H s)(mu:Bx (H a))(hs:Heap.SameBut a s.heap h')(he:∃q,h'.get? a=some q)(new:bM X.prog X.w (upd H a ob) h' a ob):
  Inv X pins σ (upd H a ob) {s with heap:=h',toks:=t'}:=
 I.write (x:=a) (e:=a) mu (.inl rfl) (fun b q hb z=>(hs.2 b hb).trans z) he new
theorem CL{P:Program}{w:World}{H':Hp}{h':Heap}{kvs:List (Key×V)}{vs:List (Key×Value)}(z:kvs.length<=sizeLine)(hd:(a== sysModules)=false)(rel:KV kvs vs)(dd:h'.DictOf (b7 P w) a vs):
  bM P w H' h' a (.dK kvs):=⟨z,hd,vs,rel,dd⟩
theorem B3{H':Hp}{Q:Unit->Shared->Prop}(hu:A.units+1<cLine)(I:Inv X pins σ H s)(g:tN H a y v H')(ry:RelV y u)(rv:RelV v r)(h:∀s',Inv X pins σ H' s'->Q () s'):
  wpAny (model X.prog X.w) A (setItem (.ref a) u r) Q E s:=by
 rcases g with ⟨kvs,k,e,ey,l,eH⟩|⟨kvs,k,b,e,ey,eb,l,eH⟩
 .subst ey eH;obtain⟨z,hd,vs,rel,dd⟩:=m7 I.ao e;have hz:vs.length<=sizeLine:=by rw[<-rel.length];exact z
  have hl:(putK kvs k v).length<=sizeLine:=by have:=lA kvs k v;omega
  refine wpAny_setItem_pairs (hsz:=hz) (oY ry) dd fun h' dd' hs=>h _ ?_;have he:∃q,h'.get? a=some q:=let ⟨q,_,_,hq,_⟩:=dd';⟨q,hq⟩
  exact sW I (by rw[e];exact kY) hs he (CL hl hd (rel.put k rv) dd')
 .subst ey eH;cases (show u=Value.ref b from ry);obtain⟨z,hd,xs,rel,dd⟩:=Na I.ao e;have hz:xs.length<=sizeLine:=by rw[<-Paired.length rel];exact z
  have hl:(putK kvs k v).length<=sizeLine:=by have:=lA kvs k v;omega
  refine wpAny_setItem_heap (hsz:=hz) (uZ hu) (oU I.ao eb) dd fun h' dd' hs=>h _ ?_;obtain⟨q,es,ep,hq,h2,h3,h4,_,h5⟩:=dd';refine sW I (by rw[e];exact kY) hs ⟨q,hq⟩ ⟨hl,hd,_,(rel.put k eb rv).keeps fun c ys ec=>?_,q,es,ep,hq,h2,h3,h4,h5⟩;rw[aq (NW ec e (fun z=>nomatch z))];exact ec
end
section
variable {X:Cx}{pins:aJ}{σ:St}{H:Hp}{s:Shared}{a:Addr}{kvs:List (Key×V)}{k:Key}{u:Value}{A:Around}{E:aH}
theorem Nc{Q:aH}(I:Inv X pins σ H s)(e:Rd H a (.dK kvs))(h:∀t s',Inv X pins σ H s'->Q (.int kvs.length t) s'):wpAny (model X.prog X.w) A (call (.builtin "len") [.ref a]) Q E s:=by obtain⟨z,hd,vs,rel,dd⟩:=pN I.ao e;refine call_len_dict hd dd (by rw[<-rel.length];rw[eO] at z;omega) ?_;rw[<-rel.length];exact h _ _ (I.tok _)
end
theorem xZ{X:Cx}{pins:aJ}{σ:St}{H:Hp}{s:Shared}{a:Addr}{y:V}{o:Option V}(I:Inv X pins σ H s)(g:kD H a y o):s.TypeIs (.ref a) "dict" := by
 rcases g with ⟨kvs,k,e,_,_⟩|⟨kvs,k,b,e,_,_,_⟩
 .obtain⟨_,_,vs,_,dd⟩:=pN I.ao e;exact dd.typeIs
 .obtain⟨_,_,xs,_,dd⟩:=rU I.ao e;exact dd.typeIs
section
variable {X:Cx}{o i e value:Expr}{pos pos' tpos:Pos}{td ty tv:TE}
end
theorem wx{P:Program}{w:World}{H:Hp}(h:Heap)(hb:sysModules<h.objs.size):bM P w H (h.push {cls:=.type "dict",data:=.dict #[]}) h.objs.size (.dK []):=
 ⟨jS _,ik.mpr (aX (bT hb)),[],.nil,Heap.DictOf.new h⟩
def JT:TE:=fun _ H Q=>∀p,H p=none->Q (.ref p) (upd H p (.dK []))
section
variable {X:Cx}{pos:Pos}
theorem Fz:PE X (.Dict [] [] pos) JT:=fun pins s σ H Q I h=>
 wpAny_Dict_empty ⟨.ref s.heap.objs.size,_,I.laid (a:=s.heap.objs.size) (o:=.dK []) (t':=s.toks) (fun _ _ q=>bj _ q) (aA _) (wx s.heap I.big),rfl,h _ (I.ao.fresh (aA _))⟩
end
noncomputable def rX:List (TE×TE)->St->Hp->(List (V×V)->Hp->Prop)->Prop
 |[],_,H,Q=>Q [] H
 |(tk,tv)::r,σ,H,Q=>tk σ H fun x H1=>tv σ H1 fun y H2=>rX r σ H2 fun ps H3=>Q ((x,y)::ps) H3
abbrev VV:List (V×V)->List (Value×Value)->Prop:=Paired fun p q=>RelV p.1 q.1/\RelV p.2 q.2
def yh(X:Cx)(pos:Pos)(keys:List (Option Expr))(values:List Expr)(trs:List (TE×TE)):Prop:=
 ∀(pins:aJ)(s:Shared)(σ:St)(H:Hp)(Q:List (V×V)->Hp->Prop),Inv X pins σ H s->rX trs σ H Q->
  wpAny (model X.prog X.w) X.A (evalPairs (pairTrees keys values X.env pos)) (fun vs s'=>∃ps H',Inv X pins σ H' s'/\VV ps vs/\Q ps H') X.xe s
theorem HZ{X:Cx}{pos:Pos}:yh X pos [] [] []:=fun pins s σ H Q I h=>pairTrees_nil_walk ⟨[],H,I,.nil,h⟩
theorem Eg{X:Cx}{pos:Pos}{k v:Expr}{ks:List (Option Expr)}{vs:List Expr}{tk tv:TE}{trs:List (TE×TE)}(hk:PE X k tk)(hv:PE X v tv)(hr:yh X pos ks vs trs):
  yh X pos (some k::ks) (v::vs) ((tk,tv)::trs):=fun pins s σ H Q I h=>
 pairTrees_cons_walk (az (hk pins s σ H _ I h) fun u s1 Z=>Z.g4 fun x H1 I1 rx q1=>az (hv pins s1 σ H1 _ I1 q1) fun w2 s2 Z=>Z.g4 fun y H2 I2 ry q2=>
  az (hr pins s2 σ H2 _ I2 q2) fun ws s3 Z=>Z.g4 fun ps H3 I3 rel q3=>⟨(x,y)::ps,H3,I3,.cons ⟨rx,ry⟩ rel,q3⟩)
noncomputable def iL(kvs more:List (Key×V)):List (Key×V):=more.foldl (fun acc kv=>putK acc kv.1 kv.2) kvs
theorem KV.merge:∀{more:List (Key×V)}{rs:List (Key×Value)}{kvs:List (Key×V)}{vs:List (Key×Value)},KV more rs->KV kvs vs->KV (iL kvs more) (merged vs rs):=by
 intro more rs kvs vs r;unfold KV at r
 induction r generalizing kvs vs with
 |nil=>intro q;exact q
 | @cons p q ps qs h t ih=>
  intro r0;have e:KV (putK kvs p.1 p.2) (stored vs q.1 q.2):=by have:=r0.put p.1 h.2;rw[<-h.1];exact this
  exact ih e
theorem nL:∀(more kvs:List (Key×V)),(iL kvs more).length<=kvs.length+more.length
 |[],kvs=>by show kvs.length<=kvs.length+0;omega
 |p::r,kvs=>by
  have h1:=nL r (putK kvs p.1 p.2);have h2:=lA kvs p.1 p.2;show (iL (putK kvs p.1 p.2) r).length<=_;rw[cQ];omega
theorem rN{P:Program}{w:World}:∀{kvs:List (Key×V)}{ws:List (Value×Value)},VV (kvs.map fun kv=>(kV kv.1,kv.2)) ws->∃rs,Carries (b7 P w) ws rs/\KV kvs rs
 |[],_,r=>by rw[gD] at r;cases r;exact⟨[],kY,.nil⟩
 |p::kvs,_,r=>by
  rw[aR] at r;cases r with
  | @cons a b as bs h t=>
   obtain⟨rs,c,q⟩:=rN (P:=P) (w:=w) t;obtain⟨b1,b2⟩:=b;exact⟨(p.1,b2)::rs,⟨oY h.1,rfl,c⟩,.cons ⟨rfl,h.2⟩ q⟩
def Nb(trs:List (TE×TE)):TE:=fun σ H Q=>∀p,H p=none->rX trs σ (upd H p (.dK [])) fun ps H2=>H2 p=some (.dK [])/\∃kvs:List (Key×V),ps=kvs.map (fun kv=>(kV kv.1,kv.2))/\kvs.length<=15/\Q (.ref p) (upd H2 p (.dK (iL [] kvs)))
theorem GL{X:Cx}{pos:Pos}{keys:List (Option Expr)}{values:List Expr}{trs:List (TE×TE)}(h:yh X pos keys values trs)(hall:keys.all (·.isSome)=true)(hl:keys.length=values.length)(h0:keys≠ [])
  (h15:keys.length<=15):PE X (.Dict keys values pos) (Nb trs):=by
 intro pins s σ H Q I q;have hn:=I.ao.fresh (aA s.heap.objs.size);have I1:=I.laid (a:=s.heap.objs.size) (o:=.dK []) (h':=s.heap.push {cls:=.type "dict",data:=.dict #[]}) (t':=s.toks) (fun _ _ q=>bj _ q) (aA _) (wx s.heap I.big);refine wpAny_Dict_walk (knd:=b7 X.prog X.w) hall hl h0 h15 (az (h pins _ σ _ _ I1 (q _ hn)) fun ws s2 Z=>Z.g fun ps Z=>Z.g fun H2 Z=>Z.g fun I2 Z=>Z.g fun rel Z=>Z.g fun e Z=>Z.g fun kvs Z=>Z.g fun ep Z=>Z.g fun lk q2=>?_);subst ep;obtain⟨rs,c,rk⟩:=rN (P:=X.prog) (w:=X.w) rel;obtain⟨z,hd,vs0,r0,dd⟩:=m7 I2.ao e;cases r0;refine⟨rs,c,dd,fun h' dd' hs=>⟨.ref s.heap.objs.size,_,?_,rfl,q2⟩⟩;have hz:(iL [] kvs).length<=sizeLine:=by have h1:=nL kvs [];rw[ka] at h1;rw[eO];omega
 have he:∃q,h'.get? s.heap.objs.size=some q:=let ⟨q,_,_,hq,_⟩:=dd';⟨q,hq⟩
 exact sW I2 (by rw[e];exact kY) hs he (CL hz hd (rk.merge .nil) dd')
section
variable {X:Cx}{pins:aJ}{σ:St}{H:Hp}{s:Shared}{a:Addr}{y d:V}{u r:Value}{o:Option V}{A:Around}{E:aH}
end
section
variable {X:Cx}{o e f:Expr}{apos cpos:Pos}{td ty tx:TE}
end
section
variable {X:Cx}{pins:aJ}{σ:St}{H:Hp}{s:Shared}{a:Addr}{kvs:List (Key×V)}{A:Around}{E:aH}
end
section
variable {X:Cx}{pins:aJ}{σ:St}{H:Hp}{s:Shared}{a:Addr}{y:V}{u:Value}{A:Around}{E:aH}
end
end L2
namespace Att
open PySem PySem.W PySem.Calls PyProof.Rows
theorem sd{P:Params}{h:Heap}:∀(ns:List Int)(vs:List Value),WellAll P h vs (ns.map WData.int)->IntsAre vs ns:=by
 intro ns
 induction ns with
 |nil=>
  intro vs w;rw[gD] at w;cases w;exact .nil
 |cons n ns ih=>
  intro vs w;rw[aR] at w;cases w with
  |cons a b=>
   cases a;exact .cons _ _ (ih _ b)
theorem BO{l:OpenLaw}{n:Nat}(hn:l.most=some n){P:Params}{h:Heap}{args:List WData}{vals:List Value}
  (hpre:l.row.toRowW.claim.pre args=true) (hwl:WellAll P h vals args):
  ∃a vs ns,vals=[Value.ref a]/\args=[WData.list (ns.map WData.int)]/\h.get? a=some {cls:=.type "list",data:=.seq vs.toArray}/\IntsAre vs ns/\ns.length<=n:=by
 have hsh:WShape.hasAll [] args [.list .int]=true:=(pre_splitW hpre).1;have hc:l.pre.holds [] {args:=args}=true:=(pre_splitW hpre).2;obtain⟨d,r,rfl,h1,h2⟩:=hasAllW_cons hsh;obtain rfl:=hasAllW_nil h2;obtain⟨xs,rfl,h3⟩:=hasW_list h1;obtain⟨ns,rfl⟩:=items_int h3;have hlen:ns.length<=n:=by
  unfold OpenLaw.pre at hc;have h4:(WTm.not (.lt (.lit (.int (n:Int))) (.len (.arg 0)))).holds [] {args:=[.list (ns.map .int)]}=true:=by have h4:=(holds_andW hc).1;rw[hn] at h4;exact h4
  have h5:=condW_of h4 (w_not (w_lt w_lit (w_len_list (w_arg rfl))));rw[gC] at h5;refine Nat.le_of_not_lt fun q=>?_;have q':(n:Int)<((ns.length:Nat):Int):=by omega
  first
   |(rw[jb q'] at h5;exact absurd h5 (by decide))
   |(simp at h5;omega)
 cases hwl with
 |cons w1 w2=>
  cases w2;cases w1 with
  |list ho hall=>exact⟨_,_,ns,rfl,rfl,ho,sd ns _ hall,hlen⟩
theorem Di(l:OpenLaw)(args:List WData):l.row.toRowW.claim.post args (.bool true) args=true:=
 postW_of (r:=l.row.toRowW) (X:=(true== true))
  (show WShape.has [] (.bool true) .bool=true by first|rfl|decide|simp[WShape.has,WShape.arms,WShape.armsAll])
  (show (WTm.eq .res (.lit (.bool true))).value [] {args:=args,res:=some (.bool true),after:=args}=some (.bool (true== true)) from w_eq_bool (w_res rfl) w_lit) rfl
theorem xT{l:OpenLaw}{n:Nat}{q:Program}{loose:List Str}{XP:(Str->Option Value)->Heap->Prop}{YP:World->Heap->Prop}{d:DefRec}
  (hn:l.most=some n) (hdf:d.params.defaults=[])
  (call:∀(w:World)(aQ s₁:Shared)(mg mb:Str->Option Value)(fa:Addr)(o:Obj)(pm cd doc:Value)(a:Addr)(vs:List Value)(ns:List Int),
   Ground q loose [] XP w aQ mg mb s₁.heap->YP w s₁.heap->
   s₁.heap.get? fa=some o->o.data=.func (docDef d.name d.params d.body d.scope pm cd doc)->s₁.heap.CodeRec cd d.name->mg d.name=some (.ref fa)->
   s₁.heap.get? a=some {cls:=.type "list",data:=.seq vs.toArray}->IntsAre vs ns->ns.length<=n->s₁.gens=#[]->
   codeAny (model l.prog w) callerA (.call (.ref fa) ⟨[.ref a],[]⟩) (fun r s'=>r=.ok (.ret (.bool true))/\OldK s₁.heap s'.heap/\s'.os=s₁.os/\AllBare s'.gens) s₁):
  WalkO q loose XP YP l.row.toRowW d [] (fun f vs=>PySem.call f vs):=by
 intro w aQ s₁ mg mb G Y fa o pm cd doc dV kV ho hd hcd hD hmg hg args vals as hpre hlay hrd hwl hlo;obtain rfl:dV=.none:=Dflts.none hD hdf;obtain rfl:kV=.none:=Dflts.noKw hD;obtain⟨a,vs,ns,rfl,rfl,hobj,hints,hlen⟩:=BO hn hpre hwl;refine enter_call (lh (call w aQ s₁ mg mb fa o pm cd doc a vs ns G Y ho (fd_plain hd) hcd hmg hobj hints hlen hg) fun r s' hq=>?_);obtain⟨rfl,h2,h3,h4⟩:=hq;exact⟨.inl ⟨.bool true,.bool true,[],rfl,fun _=>rfl,.bool true,Di l _,fun _=>⟨List.Pairwise.nil,fun _ hm=>(nomatch hm)⟩⟩,h2,h3,h4⟩
section
variable {prog:Program}{w:World}{A:Around}{E:aH}{s:Shared}{K:Frag}
end
end Att
namespace L2
open PySem PySem.Spec PyProof.Rows
theorem uv:∀{vs:List Value}{ns:List Int},IntsAre vs ns->Vals (ns.map V.int) vs
 |_,_,.nil=>.nil
 |_,_,.cons n t h=>.cons ⟨t,rfl⟩ (uv h)
def Ff(H:Hp):Prop:=∀b,H b=none\/∃o xs,H b=some (.bI o (.lst xs))
theorem EY{P:Program}{w:World}{K:W.Frag}{mg mb:Str->Option Value}{CX:eL}{k:Nat}{fa a:Addr}{fd:FuncData}{x:Str}{sp:Sp}{s₁:Shared}{vs:List Value}{ns:List Int}
  (KX:K.In s₁.heap) (hns:s₁.heap.Ns mainGlobals mg) (hb:s₁.heap.Ns builtinsNs mb) (hbb:∀x:Str,x≠ "__name__" ->mb x=bootBuiltins x) (hlim:s₁.heap.NoLimit) (hg:s₁.gens=#[])
  (ha:s₁.heap.get? a=some {cls:=.type "list",data:=.seq vs.toArray}) (hi:IntsAre vs ns) (hl:ns.length<=sizeLine) (hr:qx k callerA)
  (F:∀base:Heap,K.In base->base.Ns mainGlobals mg->kK P w K mg base CX k fa fd [x] sp) (hbind:∀(s:Shared)(u:Value),BindsTo s fd ⟨[u],[]⟩ [(x,u)])
  (hsp:∀H:Hp,Ff H->bB K H a (ns.map V.int)->sp [.ref a] H (fun v _=>v=.bl true) fun _ _ _=>False)
  (hCX:∀H e s',CX [] H s₁ (fun _ _ _=>False) e s'->False):
  codeAny (model P w) callerA (.call (.ref fa) ⟨[.ref a],[]⟩) (fun r s'=>r=.ok (.ret (.bool true))/\OldK s₁.heap s'.heap/\s'.os=s₁.os/\AllBare s'.gens) s₁:=by
 have rv:=uv hi;have lenV:=hi.length;have core:∀H:Hp,Ff H->bB K H a (ns.map V.int)->cR P w H s₁.heap->(∀b,H b≠none->b=a)->(H a≠none->K.lookup a=none)->
   codeAny (model P w) callerA (.call (.ref fa) ⟨[.ref a],[]⟩) (fun r s'=>r=.ok (.ret (.bool true))/\OldK s₁.heap s'.heap/\s'.os=s₁.os/\AllBare s'.gens) s₁:=by
  intro H hO hS ao hA hK;have base_of:∀{b:Addr}{o:Obj},s₁.heap.get? b=some o->H b=none->(m5 s₁.heap H).get? b=some o:=fun e n=>DN e n;have noA:∀{b:Addr}{o:Obj}{es:Array DictEntry}{ep:Nat},s₁.heap.get? b=some o->o.data=.dict es ep->H b=none:=fun {b o es ep} e d=>by
   cases q:H b with
   |none=>rfl
   |some u=>
    have e':b=a:=hA b (by rw[q];simp);subst e';rw[ha] at e;cases e;have d':Data.seq vs.toArray _=Data.dict es ep:=d;cases d'
  have nsK:∀{b:Addr}{m:Str->Option Value},s₁.heap.Ns b m->(m5 s₁.heap H).Ns b m:=fun {b m} ⟨o,es,ep,e,d,r⟩=>⟨o,es,ep,base_of e (noA e d),d,r⟩;have hKb:K.In (m5 s₁.heap H):=fun b o e=>base_of (KX b o e) (by
   cases q:H b with
   |none=>rfl
   |some u=>
    have e':b=a:=hA b (by rw[q];simp);subst e';rw[hK (by rw[q];simp)] at e;cases e)
  have hM:Mod K mg (m5 s₁.heap H):=⟨hKb,nsK hns,⟨mb,nsK hb,hbb⟩,let ⟨mc,h1,h2⟩:=hlim;⟨mc,nsK h1,h2⟩⟩;have e0:qB P w K mg (m5 s₁.heap H) callerA [] s₁ H:=⟨rfl,hM,fun b o e=>HU e,Nat.le_of_eq (Co _ _),trivial,fun b hb=>absurd (show b∈([]:List Addr) from hb) (by simp),ao,.of_eq hg⟩;refine lh ((F _ hKb (nsK hns)).run callerA [] s₁ H ⟨[.ref a],[]⟩ [.ref a] [.ref a] _ _ hr e0 (hbind s₁ (.ref a)) (.cons rfl .nil) (hsp H hO hS)) fun r s' h=>?_;cases r with
  |error e=>exact (hCX H e s' h).elim
  |ok fl=>
   cases fl with
   |next=>exact False.elim h
   |brk=>exact False.elim h
   |cont=>exact False.elim h
   |ret u=>
    obtain⟨v,H',os,bare,un,hok',r',q⟩:=h;have q':v=.bl true:=q;subst q';obtain rfl:u=Value.bool true:=r';refine⟨rfl,OldK.of_keep fun b o e=>?_,os,bare⟩;cases q:H b with
    |none=>exact un.keep b o e q (by intro z;exact absurd (show b∈([]:List Addr) from z) (by simp)) (by simp)
    |some u=>
     rcases hO b with z|⟨ob,xs,z⟩
     .rw[q] at z;cases z
     .have z2:=un.ft b ob _ z;obtain⟨e1,_⟩:=ao b _ z;obtain⟨e2,_⟩:=hok' b _ z2;rw[e] at e1;cases e1;exact e2
 cases hk:K.lookup a with
 |some o=>
  have e:=KX a o hk;rw[ha] at e;cases e;refine core (fun _=>none) (fun _=>.inl rfl) (.inr ⟨_,vs.toArray,_,hk,rfl,rfl,rfl,by rw[bX,lenV];exact hl,by simpa using rv⟩) (fun b u z=>by have z':(none:Option HO)=some u:=z;cases z') (fun b z=>absurd rfl z) fun z=>absurd rfl z
 |none=>
  refine core (fun b=>if b=a then some (.bI {cls:=.type "list",data:=.seq vs.toArray} (.lst (ns.map V.int))) else none) (fun b=>?_) (.inl (.inr ⟨{cls:=.type "list",data:=.seq vs.toArray},if_pos rfl⟩)) (fun b u z=>?_) (fun b z=>?_) fun _=>hk
  .by_cases hb:b=a
   .exact .inr ⟨_,_,if_pos hb⟩
   .exact .inl (if_neg hb)
  .by_cases hb:b=a
   .have z':=(if_pos hb).symm.trans z;cases z';subst hb;exact⟨ha,by rw[gC];exact hl,vs,_,rv,ha⟩
   .have z':=(if_neg hb).symm.trans z;cases z'
  .by_cases hb:b=a
   .exact hb
   .exact absurd (if_neg hb) z
theorem HW{l:W.OpenLaw}{n k:Nat}{q:Program}{loose:List Str}{XP:(Str->Option Value)->Heap->Prop}{YP:World->Heap->Prop}{d:DefRec}{K:Params->W.Frag}{CX:World->eL}{sp:World->Sp}{x:Str}
  (hn:l.most=some n) (hn2:n<=sizeLine) (hdf:d.params.defaults=[]) (hr:qx k callerA)
  (hY:∀(w:World)(h:Heap),YP w h->(K w.params).In h)
  (F:∀(w:World)(mg:Str->Option Value)(fa:Addr)(h:Heap),(K w.params).In h->h.Ns mainGlobals mg->mg d.name=some (.ref fa)->
   ∃fd:FuncData,(∀(s:Shared)(u:Value),BindsTo s fd ⟨[u],[]⟩ [(x,u)])/\
    ∀base:Heap,(K w.params).In base->base.Ns mainGlobals mg->kK l.prog w (K w.params) mg base (CX w) k fa fd [x] (sp w))
  (hsp:∀(w:World)(H:Hp)(a:Addr)(ns:List Int),ns.length<=n->Ff H->bB (K w.params) H a (ns.map V.int)->sp w [.ref a] H (fun v _=>v=.bl true) fun _ _ _=>False)
  (hCX:∀(w:World)(H:Hp)(s:Shared)(e:Value)(s':Shared),CX w [] H s (fun _ _ _=>False) e s'->False):
  W.WalkO q loose XP YP l.row.toRowW d [] (fun f vs=>PySem.call f vs):=by
 refine Att.xT hn hdf fun w aQ s₁ mg mb fa o pm cd doc a vs ns G Y ho hd hcd hmg hobj hints hlen hg=>?_;have KX:=hY w _ Y;obtain⟨fd,hb,hF⟩:=F w mg fa _ KX G.T.g hmg;exact EY KX G.T.g G.T.b G.T.builtins G.T.nolimit hg hobj hints (cL hlen hn2) hr hF hb (fun H hO hS=>hsp w H a ns hlen hO hS) fun H e s'=>hCX w H s₁ e s'
def cS(s:Stmt):Arguments:=match s with
 |.FunctionDef _ a _ _ _ _ _ _ _ _=>a
 |_=>{posonlyargs:=[],args:=[],vararg:=none,kwonlyargs:=[],kw_defaults:=[],kwarg:=none,defaults:=[]}
def bR(s:Stmt):List Stmt:=match s with
 |.FunctionDef _ _ b _ _ _ _ _ _ _=>b
 |_=>[]
def ai(s:Stmt):Scope:=match s with
 |.FunctionDef _ _ _ _ _ _ sc _ _ _=>sc
 |_=>{kind:=.function,names:=[],isGenerator:=false,isCoroutine:=false}
noncomputable abbrev E0:XK:=fun _ _ _=>False
structure rK(K:W.Frag)(x qual:Str)(st:Stmt)(f:Addr)(fd:FuncData):Prop where
 ex:∃(oc:Value) (od:Option Addr) (kV doc pm:Value) (an:Option Addr) (cdv ct:Value) (osl:Array (Option Value)),
  fd=W.fnOf x qual (cS st) (bR st) (ai st) .none kV doc pm an cdv ct/\K.lookup f=some ⟨oc,od,.func fd,osl⟩/\W.codeIn K cdv qual=true
 kp:W.keepIn K (.ref f)=true
section
variable {P:Program}{w:World}{K:W.Frag}{mg:Str->Option Value}{base:Heap}
theorem oO{x qual:Str}{st:Stmt}{f:Addr}{oc:Value}{od an:Option Addr}{osl:Array (Option Value)}{kV doc pm cdv ct:Value}(l:K.lookup f=some ⟨oc,od,.func (W.fnOf x qual (cS st) (bR st) (ai st) .none kV doc pm an cdv ct),osl⟩)
  (c:W.codeIn K cdv qual=true) (k:W.keepIn K (.ref f)=true):rK K x qual st f (W.fnOf x qual (cS st) (bR st) (ai st) .none kV doc pm an cdv ct):=⟨⟨oc,od,kV,doc,pm,an,cdv,ct,osl,rfl,l,c⟩,k⟩
end
section
variable {X:Cx}
theorem Dj:eV X (.builtin "len") (fun xs H Q=>∃a kvs,xs=[V.ref a]/\H a=some (.dK kvs)/\Q (.int kvs.length) H):=by intro pins s σ H xs us Q I r h;obtain⟨a,kvs,rfl,ha,q⟩:=h;obtain⟨u,rfl,ru⟩:=vals1 r;cases ru;exact Nc I (.inl ha) fun t s' I'=>⟨.int kvs.length,H,I',⟨t,rfl⟩,q⟩
end
def Ac(H H':Hp):Prop:=∀b o,H b=some o->H' b=some o
theorem Ac.trans{H H1 H2:Hp}(a:Ac H H1)(b:Ac H1 H2):Ac H H2:=fun c o h=>b c o (a c o h)
section
variable {κ:Type} [DecidableEq κ]
end
end L2
namespace Tw
noncomputable abbrev S:=List Nat
inductive W where
 |ak|bl (b:Bool)|int (i:Int)|str (x:S)|tup (xs:List W)|ref (a:Nat)
 |lst (xs:List W)
inductive O where
 |lst (xs:List W)
 |bI (xs:List W)
 |aK (kvs:List (W×W))
 |ins (c:S) (fs:List (S×W))
 |ax (c:S) (fs:List (S×W))
noncomputable abbrev Hp:=List O
inductive R(α:Type) where
 |ok (a:α) (h:Hp)
 |ax (a:Nat) (h:Hp)
 |bad
namespace R
def bind{α β:Type}(m:R α)(k:α->Hp->R β):R β:=match m with
 |.ok a h=>k a h
 |.ax a h=>.ax a h
 |.bad=>.bad
@[simp] theorem aw{α β:Type}(a:α)(h:Hp)(k:α->Hp->R β):(R.ok a h).bind k=k a h:=rfl
@[simp] theorem Pw{α β:Type}(a:Nat)(h:Hp)(k:α->Hp->R β):(R.ax a h).bind k=.ax a h:=rfl
@[simp] theorem Qg{α β:Type}(k:α->Hp->R β):(R.bad:R α).bind k=.bad:=rfl
def of{α:Type}(o:Option α)(h:Hp):R α:=match o with
 |some a=>.ok a h
 |none=>.bad
@[simp] theorem jZ{α:Type}(a:α)(h:Hp):R.of (some a) h=.ok a h:=rfl
@[simp] theorem of_none{α:Type}(h:Hp):R.of (none:Option α) h=.bad:=rfl
end R
def SZ:Nat:=2 ^ 24
mutual
noncomputable def bw:W->W->Bool
 |.ak,.ak=>true
 |.bl a,.bl b=>decide (a=b)
 |.int a,.int b=>decide (a=b)
 |.bl a,.int b=>decide ((if a then 1 else 0)=b)
 |.int a,.bl b=>decide (a=(if b then 1 else 0))
 |.str a,.str b=>decide (a=b)
 |.tup xs,.tup ys=>n8 xs ys
 |.lst xs,.lst ys=>n8 xs ys
 |_,_=>false
@[simp] noncomputable def n8:List W->List W->Bool
 |[],[]=>true
 |x::xs,y::ys=>bw x y&&n8 xs ys
 |_,_=>false
end
@[simp] theorem MI:bw .ak .ak=true:=rfl
@[simp] theorem MR(b2:Bool):bw .ak (.bl b2)=false:=rfl
@[simp] theorem Mn(i2:Int):bw .ak (.int i2)=false:=rfl
@[simp] theorem Mz(x2:S):bw .ak (.str x2)=false:=rfl
@[simp] theorem Mr(t2:List W):bw .ak (.tup t2)=false:=rfl
@[simp] theorem Ms(l2:List W):bw .ak (.lst l2)=false:=rfl
@[simp] theorem NM(b1:Bool):bw (.bl b1) .ak=false:=rfl
@[simp] theorem Oq(b1:Bool)(b2:Bool):bw (.bl b1) (.bl b2)=decide (b1=b2):=rfl
@[simp] theorem Nq(b1:Bool)(i2:Int):bw (.bl b1) (.int i2)=decide ((if b1 then 1 else 0)=i2):=rfl
@[simp] theorem Nj(b1:Bool)(x2:S):bw (.bl b1) (.str x2)=false:=rfl
@[simp] theorem M4(b1:Bool)(t2:List W):bw (.bl b1) (.tup t2)=false:=rfl
@[simp] theorem Nr(b1:Bool)(l2:List W):bw (.bl b1) (.lst l2)=false:=rfl
@[simp] theorem MF(i1:Int):bw (.int i1) .ak=false:=rfl
@[simp] theorem N2(i1:Int)(b2:Bool):bw (.int i1) (.bl b2)=decide (i1=(if b2 then 1 else 0)):=rfl
@[simp] theorem Mu(i1:Int)(i2:Int):bw (.int i1) (.int i2)=decide (i1=i2):=rfl
@[simp] theorem My(i1:Int)(x2:S):bw (.int i1) (.str x2)=false:=rfl
@[simp] theorem MJ(i1:Int)(t2:List W):bw (.int i1) (.tup t2)=false:=rfl
@[simp] theorem MG(i1:Int)(l2:List W):bw (.int i1) (.lst l2)=false:=rfl
@[simp] theorem MB(x1:S):bw (.str x1) .ak=false:=rfl
@[simp] theorem Nm(x1:S)(b2:Bool):bw (.str x1) (.bl b2)=false:=rfl
@[simp] theorem Mp(x1:S)(i2:Int):bw (.str x1) (.int i2)=false:=rfl
@[simp] theorem lQ(x1:S)(x2:S):bw (.str x1) (.str x2)=decide (x1=x2):=rfl
@[simp] theorem MA(x1:S)(t2:List W):bw (.str x1) (.tup t2)=false:=rfl
@[simp] theorem Mm(x1:S)(l2:List W):bw (.str x1) (.lst l2)=false:=rfl
@[simp] theorem MD(t1:List W):bw (.tup t1) .ak=false:=rfl
@[simp] theorem MT(t1:List W)(b2:Bool):bw (.tup t1) (.bl b2)=false:=rfl
@[simp] theorem MH(t1:List W)(i2:Int):bw (.tup t1) (.int i2)=false:=rfl
@[simp] theorem Mq(t1:List W)(x2:S):bw (.tup t1) (.str x2)=false:=rfl
@[simp] theorem xR(t1:List W)(t2:List W):bw (.tup t1) (.tup t2)=n8 t1 t2:=rfl
@[simp] theorem Mo(t1:List W)(l2:List W):bw (.tup t1) (.lst l2)=false:=rfl
@[simp] theorem MC(l1:List W):bw (.lst l1) .ak=false:=rfl
@[simp] theorem MY(l1:List W)(b2:Bool):bw (.lst l1) (.bl b2)=false:=rfl
@[simp] theorem Mv(l1:List W)(i2:Int):bw (.lst l1) (.int i2)=false:=rfl
@[simp] theorem ME(l1:List W)(x2:S):bw (.lst l1) (.str x2)=false:=rfl
@[simp] theorem Mw(l1:List W)(t2:List W):bw (.lst l1) (.tup t2)=false:=rfl
@[simp] theorem xV(l1:List W)(l2:List W):bw (.lst l1) (.lst l2)=n8 l1 l2:=rfl
mutual
noncomputable def W.deep:W->Nat
 |.tup xs=>aS xs+1
 |.lst xs=>aS xs+1
 |_=>0
noncomputable def aS:List W->Nat
 |[]=>0
 |x::xs=>max x.deep (aS xs)
end
mutual
@[simp] noncomputable def rd(h:Hp):Nat->W->Option W
 |_,.ak=>some .ak
 |_,.bl b=>some (.bl b)
 |_,.int i=>some (.int i)
 |_,.str x=>some (.str x)
 |0,_=>none
 |n+1,.tup xs=>(gu h n xs).map .tup
 |n+1,.ref a=>match h[a]? with
  |some (.lst xs)=>(gu h n xs).map .lst
  |some (.bI xs)=>(gu h n xs).map .lst
  |_=>none
 |_+1,.lst _=>none
@[simp] noncomputable def gu(h:Hp):Nat->List W->Option (List W)
 |_,[]=>some []
 |n,x::xs=>match rd h n x,gu h n xs with
  |some d,some ds=>some (d::ds)
  |_,_=>none
end
@[simp] noncomputable def isKey:W->Bool
 |.int _=>true
 |.str _=>true
 |_=>false
@[simp] noncomputable def pQ:W->W->Bool
 |.int a,.int b=>a== b
 |.str a,.str b=>a== b
 |_,_=>false
@[simp] def lM(k:W):List (W×W)->Option W
 |[]=>none
 |(j,v)::r=>if pQ j k then some v else lM k r
@[simp] def dput(k v:W):List (W×W)->List (W×W)
 |[]=>[(k,v)]
 |(j,u)::r=>if pQ j k then (j,v)::r else (j,u)::dput k v r
def rl(h:Hp)(ys:List (W×W)):List (W×W)->Option Bool
 |[]=>some true
 |(k,v)::r=>match lM k ys with
  |none=>some false
  |some u=>match rd h 40 v,rd h 40 u,rl h ys r with
   |some a,some b,some c=>some (bw a b&&c)
   |_,_,_=>none
def bE(h:Hp):W->Option (List (W×W))
 |.ref a=>match h[a]? with
  |some (.aK kvs)=>some kvs
  |_=>none
 |_=>none
def bz(h:Hp)(x y:W):Option Bool:=match bE h x,bE h y with
 |some xs,some ys=>if xs.length=ys.length then rl h ys xs else some false
 |none,none=>match rd h 60 x,rd h 60 y with
  |some a,some b=>some (bw a b)
  |_,_=>none
 |_,_=>none
@[simp] theorem Rm(h:Hp)(a b:Int):bz h (.int a) (.int b)=some (decide (a=b)):=by simp[bz,bE,rd,bw]
@[simp] theorem Rn(h:Hp)(a b:S):bz h (.str a) (.str b)=some (decide (a=b)):=by simp[bz,bE,rd,bw]
inductive Op|add|sub|mul|fdiv|mod|pow
 deriving DecidableEq
inductive Cp|eq|ne|lt|le|gt|ge|isin|notin|isN|notN
 deriving DecidableEq
inductive Ty|list|tuple|dict|int|str|bool
 deriving DecidableEq
inductive B|len|list|tuple|dict|int|listE|listR|dictP|listS
 deriving DecidableEq
inductive Mt|append|get|join|index|pop|rev
 deriving DecidableEq
mutual
inductive E where
 |var (i:Nat)
 |cst (w:W)
 |tup (es:Es)
 |lst (es:Es)
 |aK (es:Es)
 |bin (op:Op) (a b:E)
 |cmp (op:Cp) (a b:E)
 |and (a b:E)
 |or (a b:E)
 |not (a:E)
 |ite (c a b:E)
 |idx (a b:E)
 |sl (a:E) (lo hi:Eo)
 |call (f:Nat) (es:Es)
 |blt (b:B) (a:E)
 |nM (m:Mt) (o:E) (es:Es)
 |wu (a:E) (t:Ty)
 |comp (elt:E) (it:It) (c:Eo)
 |jj (elt:E) (it:It)
 |bad
 |fld (a:E) (x:S)
 |mk (c:S) (f:Nat) (es:Es)
 |own (o:E) (c m:S) (f:Nat) (es:Es)
 |qN (g:List (S×Nat)) (k:E) (es:Es)
 |zu (k:E) (g:List S)
 |la (a:E) (ns ds cs:List S)
 |uJ (a:E) (x:S) (ds:List S)
inductive Es where
 |nil
 |cons (e:E) (es:Es)
inductive Eo where
 |none
 |some (e:E)
inductive It where
 |seq (e:E)
 |hZ (e:E)
 |Bm (a b:E)
 |zip (a b:E)
 |enum (e:E)
 |rev (e:E)
end
inductive Tg where
 |var (i:Nat)
 |two (i j:Nat)
inductive Hs where
 |ret (e:E)
 |Bd (c e:E)
abbrev Hd:=S×List S×Nat×List Hs
inductive Tb where
 |call (o:E) (c m:S) (f:Nat) (es:Es) (u:Option W)
 |lH (i:Nat) (o:E) (c m:S) (f:Nat) (es:Es)
 |ret (e:E)
inductive St where
 |expr (e:E)
 |ret (e:E)
 |Ai
 |set (i:Nat) (e:E)
 |put (o k e:E)
 |iff (c:E) (a b:List St)
 |for (t:Tg) (it:It) (b:List St)
 |pass
 |brk
 |cont
 |bad
 |iF (i j:Nat) (e:E)
 |lC (o:E) (x:S) (e:E)
 |aug (i:Nat) (op:Op) (e:E)
 |BF (c:E) (b:List St)
 |raise (c:S) (xs:List S) (es:Es)
 |wz (b:List Tb) (hs:List Hd)
 |tw (i:Nat) (e:E) (b:List St)
noncomputable abbrev Env:=List (Option W)
@[simp] def truth(h:Hp):W->Option Bool
 |.ak=>some false
 |.bl b=>some b
 |.int i=>some (i != 0)
 |.str x=>if x.length<=SZ then some (!x.isEmpty) else none
 |.tup xs=>some (!xs.isEmpty)
 |.lst _=>none
 |.ref a=>match h[a]? with
  |some (.lst xs)=>some (!xs.isEmpty)
  |some (.bI xs)=>some (!xs.isEmpty)
  |some (.aK kvs)=>some (!kvs.isEmpty)
  |_=>none
@[simp] def items(h:Hp):W->Option (List W)
 |.ref a=>match h[a]? with
  |some (.lst xs)=>some xs
  |some (.bI xs)=>some xs
  |_=>none
 |_=>none
@[simp] def zM(h:Hp):W->Option (List W)
 |.tup xs=>some xs
 |w=>items h w
@[simp] def new(o:O)(h:Hp):R W:=.ok (.ref h.length) (h++[o])
noncomputable def dC(xs:List W)(h:Hp):R W:=if xs.length<=SZ then new (.lst xs) h else .bad
noncomputable def small(i:Int):Bool:=decide (-(2 ^ 64)<i)&&decide (i<2 ^ 64)
@[simp] def binI(op:Op)(i j:Int):Option Int:=match op with
 |.add=>some (i+j)
 |.sub=>some (i-j)
 |.mul=>if small i || small j then some (i * j) else none
 |.fdiv=>if 0<j/\j<1073741824 then some (i / j) else none
 |.mod=>if 0<j then some (i % j) else none
 |.pow=>if 0<=j/\j<=1000000/\i.natAbs<2 ^ 64 then some (i ^ j.toNat) else none
@[simp] def bin(op:Op)(x y:W)(h:Hp):R W:=match x,y with
 |.int i,.int j=>R.of ((binI op i j).map .int) h
 |.str a,.str b=>if op=.add/\a.length+b.length<=SZ then .ok (.str (a++b)) h else .bad
 |.tup a,.tup b=>if op=.add/\a.length+b.length<=SZ then .ok (.tup (a++b)) h else .bad
 |.tup a,.int k=>if op=.mul/\1<=k/\k<=100/\a≠ []/\a.length<=100 then .ok (.tup (List.replicate k.toNat a).flatten) h else .bad
 |.ref a,.ref b=>match h[a]?,h[b]? with
  |some (.lst xs),some (.lst ys)=>if op=.add/\xs.length+ys.length<=SZ then new (.lst (xs++ys)) h else .bad
  |_,_=>.bad
 |_,_=>.bad
@[simp] noncomputable def flat:W->Bool
 |.ak=>true
 |.bl _=>true
 |.int _=>true
 |.str _=>true
 |_=>false
def isIn(x y:W)(h:Hp):Option Bool:=match bE h y with
 |some kvs=>if isKey x then some (lM x kvs).isSome else none
 |none=>match zM h y with
  |some xs=>if flat x&&xs.all flat then some (xs.any fun z=>bw z x) else none
  |none=>none
@[simp] def cmp(op:Cp)(x y:W)(h:Hp):Option Bool:=match op with
 |.eq=>bz h x y
 |.ne=>(bz h x y).map (!·)
 |.lt=>match x,y with | .int i,.int j=>some (decide (i<j))|_,_=>none
 |.le=>match x,y with | .int i,.int j=>some (decide (i<=j))|_,_=>none
 |.gt=>match x,y with | .int i,.int j=>some (decide (j<i))|_,_=>none
 |.ge=>match x,y with | .int i,.int j=>some (decide (j<=i))|_,_=>none
 |.isin=>isIn x y h
 |.notin=>(isIn x y h).map (!·)
 |.isN=>match y with | .ak=>some (match x with | .ak=>true|_=>false)|_=>none
 |.notN=>match y with | .ak=>some (match x with | .ak=>false|_=>true)|_=>none
noncomputable def iz(n:Nat)(i:Int):Option Nat:=if 0<=i then (if i<n then some i.toNat else none) else if -(n:Int)<=i then some (i+n).toNat else none
def cg{α:Type}(xs:List α)(i:Int):Option α:=(iz xs.length i).bind fun j=>xs[j]?
@[simp] def idx(x y:W)(h:Hp):R W:=match x,y with
 |.tup xs,.int i=>R.of (cg xs i) h
 |.str z,.int i=>if z.length<=SZ then R.of ((cg z i).map fun c=>.str [c]) h else .bad
 |.ref a,y=>match h[a]?,y with
  |some (.lst xs),.int i=>R.of (cg xs i) h
  |some (.bI xs),.int i=>R.of (cg xs i) h
  |some (.aK kvs),k=>if isKey k then R.of (lM k kvs) h else .bad
  |_,_=>.bad
 |_,_=>.bad
def aV(n d:Nat):Option Int->Nat
 |none=>d
 |some v=>if v<0 then (v+n).toNat else min v.toNat n
noncomputable def cut{α:Type}(xs:List α)(lo hi:Option Int):List α:=(xs.drop (aV xs.length 0 lo)).take (aV xs.length xs.length hi-aV xs.length 0 lo)
@[simp] noncomputable def ix:Option W->Option (Option Int)
 |none=>some none
 |some (.int i)=>some (some i)
 |_=>none
@[simp] def slice(x:W)(lo hi:Option W)(h:Hp):R W:=match ix lo,ix hi with
 |some l,some u=>match x with
  |.tup xs=>if aV xs.length 0 l=0/\aV xs.length xs.length u=xs.length then .bad else .ok (.tup (cut xs l u)) h
  |.str z=>if z.length<=SZ then .ok (.str (cut z l u)) h else .bad
  |.ref a=>match h[a]? with
   |some (.lst xs)=>new (.lst (cut xs l u)) h
   |some (.bI xs)=>new (.lst (cut xs l u)) h
   |_=>.bad
  |_=>.bad
 |_,_=>.bad
@[simp] def eT(i:Int):List W->List W
 |[]=>[]
 |x::r=>.tup [.int i,x]::eT (i+1) r
def ip(x:W):List W->Option Nat
 |[]=>none
 |y::r=>if pQ y x then some 0 else (ip x r).map (·+ 1)
@[simp] def Lq(acc:List (W×W)):List W->Option (List (W×W))
 |[]=>some acc
 |.tup [k,v]::r=>if isKey k then Lq (dput k v acc) r else none
 |_::_=>none
@[simp] def builtin(b:B)(x:W)(h:Hp):R W:=match b with
 |.len=>match x with
  |.str z=>if z.length<=SZ then .ok (.int z.length) h else .bad
  |.tup xs=>.ok (.int xs.length) h
  |.ref a=>match h[a]? with
   |some (.lst xs)=>.ok (.int xs.length) h
   |some (.bI xs)=>.ok (.int xs.length) h
   |some (.aK kvs)=>.ok (.int kvs.length) h
   |_=>.bad
  |_=>.bad
 |.list=>match x with
  |.tup xs=>new (.lst xs) h
  |.ref a=>match h[a]? with
   |some (.lst xs)=>new (.lst xs) h
   |some (.bI xs)=>new (.lst xs) h
   |some (.aK kvs)=>new (.lst (kvs.map (·.1))) h
   |_=>.bad
  |_=>.bad
 |.tuple=>match x with
  |.tup xs=>.ok (.tup xs) h
  |.ref a=>match h[a]? with
   |some (.lst xs)=>.ok (.tup xs) h
   |some (.bI xs)=>.ok (.tup xs) h
   |_=>.bad
  |_=>.bad
 |.dict=>match x with
  |.ref a=>match h[a]? with
   |some (.aK kvs)=>new (.aK kvs) h
   |_=>.bad
  |_=>.bad
 |.int=>match x with
  |.int i=>.ok (.int i) h
  |.bl b=>.ok (.int (if b then 1 else 0)) h
  |_=>.bad
 |.listE=>match x with
  |.tup xs=>new (.lst (eT 0 xs)) h
  |_=>.bad
 |.listR=>match x with
  |.ref a=>match h[a]? with
   |some (.lst xs)=>new (.lst xs.reverse) h
   |_=>.bad
  |_=>.bad
 |.dictP=>match x with
  |.ref a=>match h[a]? with
   |some (.lst xs)=>if xs.length<=1000 then (match Lq [] xs with
    |some kvs=>new (.aK kvs) h
    |none=>.bad) else .bad
   |_=>.bad
  |_=>.bad
 |.listS=>match x with
  |.str z=>if z.length<=1000/\z.all (fun c=>decide (c<128))=true then new (.lst (z.map fun c=>.str [c])) h else .bad
  |_=>.bad
@[simp] noncomputable def texts:List W->Option (List S)
 |[]=>some []
 |.str x::r=>(texts r).map (x:: ·)
 |_::_=>none
@[simp] def gj(sep:S):List S->S
 |[]=>[]
 |[x]=>x
 |x::r=>x++sep++gj sep r
@[simp] def method(m:Mt)(o:W)(xs:List W)(h:Hp):R W:=match m,o,xs with
 |.append,.ref a,[x]=>match h[a]? with
  |some (.lst ys)=>if ys.length<SZ then .ok .ak (h.set a (.lst (ys++[x]))) else .bad
  |_=>.bad
 |.index,.ref a,[x]=>match h[a]? with
  |some (.lst ys)=>if isKey x&&ys.all isKey then R.of ((ip x ys).map fun n=>.int (n:Int)) h else .bad
  |_=>.bad
 |.pop,.ref a,[]=>match h[a]? with
  |some (.lst ys)=>match ys.getLast? with
   |some y=>.ok y (h.set a (.lst ys.dropLast))
   |none=>.bad
  |_=>.bad
 |.rev,.ref a,[]=>match h[a]? with
  |some (.lst ys)=>.ok .ak (h.set a (.lst ys.reverse))
  |_=>.bad
 |.get,.ref a,[k]=>match h[a]? with
  |some (.aK kvs)=>if isKey k then .ok ((lM k kvs).getD .ak) h else .bad
  |_=>.bad
 |.get,.ref a,[k,d]=>match h[a]? with
  |some (.aK kvs)=>if isKey k then .ok ((lM k kvs).getD d) h else .bad
  |_=>.bad
 |.join,.str sep,[x]=>match items h x with
  |some ys=>match texts ys with
   |some ts=>if (ts.map (·.length)).sum+ts.length * sep.length<=SZ then .ok (.str (gj sep ts)) h else .bad
   |none=>.bad
  |none=>.bad
 |_,_,_=>.bad
@[simp] def qT(m:Mt)(x:W)(h:Hp):Bool:=match m,x with
 |.append,.ref a=>match h[a]? with
  |some (.lst _)=>true
  |_=>false
 |.index,.ref a=>match h[a]? with
  |some (.lst _)=>true
  |_=>false
 |.pop,.ref a=>match h[a]? with
  |some (.lst _)=>true
  |_=>false
 |.rev,.ref a=>match h[a]? with
  |some (.lst _)=>true
  |_=>false
 |.get,.ref a=>match h[a]? with
  |some (.aK _)=>true
  |_=>false
 |.join,.str _=>true
 |_,_=>false
@[simp] def wu(x:W)(t:Ty)(h:Hp):Option Bool:=match x,t with
 |.bl _,.bool=>some true
 |.int _,.int=>some true
 |.str _,.str=>some true
 |.tup _,.tuple=>some true
 |.ref a,t=>match h[a]?,t with
  |some (.lst _),.list=>some true
  |some (.aK _),.dict=>some true
  |_,_=>none
 |_,_=>none
@[simp] def kE(o k v:W)(h:Hp):R Unit:=match o with
 |.ref a=>match h[a]?,k with
  |some (.lst xs),.int i=>match iz xs.length i with
   |some j=>.ok () (h.set a (.lst (xs.set j v)))
   |none=>.bad
  |some (.aK kvs),k=>if isKey k/\kvs.length<SZ then .ok () (h.set a (.aK (dput k v kvs))) else .bad
  |_,_=>.bad
 |_=>.bad
@[simp] noncomputable def jM:List W->List (W×W)->Option (List (W×W))
 |[],acc=>some acc
 |k::v::r,acc=>if isKey k then jM r (dput k v acc) else none
 |[_],_=>none
def upTo(lo:Int):Nat->List W
 |0=>[]
 |n+1=>.int lo::upTo (lo+1) n
@[simp] noncomputable def DA:List W->List W->List W
 |x::xs,y::ys=>.tup [x,y]::DA xs ys
 |_,_=>[]
abbrev Or:=Nat->List W->Hp->R W
inductive Fl where
 |next (σ:Env)|ret (w:W)|brk (σ:Env)|cont (σ:Env)
inductive Src where
 |fix (xs:List W)
 |at (a:Nat) (n:Nat)
 |rv (a:Nat) (n:Nat)
 |ea (a:Nat) (n:Nat)
def R.gv{α:Type}(m:R α):R α:=match m with
 |.ax _ _=>.bad
 |m=>m
@[simp] theorem R.lS{α:Type}(a:α)(h:Hp):(R.ok a h).gv=.ok a h:=rfl
@[simp] theorem R.Rc{α:Type}:(R.bad:R α).gv=.bad:=rfl
@[simp] theorem R.Rh{α:Type}(a:Nat)(h:Hp):(R.ax a h:R α).gv=.bad:=rfl
def bD(h:Hp)(a:Nat):Option (List W):=match h[a]? with
 |some (.lst xs)=>some xs
 |some (.bI xs)=>some xs
 |_=>none
@[simp] noncomputable def eG(k:W->List W->Hp->R (List W)):List W->List W->Hp->R (List W)
 |[],acc,h=>.ok acc h
 |x::xs,acc,h=>(k x acc h).bind fun acc h=>eG k xs acc h
noncomputable def cP(a:Nat)(k:W->List W->Hp->R (List W)):Nat->Nat->List W->Hp->R (List W)
 |n,i,acc,h=>match bD h a with
  |none=>.bad
  |some ys=>match ys[i]? with
   |none=>.ok acc h
   |some x=>match n with
    |0=>.bad
    |n+1=>(k x acc h).bind fun acc h=>cP a k n (i+1) acc h
noncomputable def dP(a:Nat)(k:W->List W->Hp->R (List W)):Nat->Nat->List W->Hp->R (List W)
 |n,i,acc,h=>match bD h a with
  |none=>.bad
  |some ys=>match ys[i]? with
   |none=>.ok acc h
   |some x=>match n with
    |0=>.bad
    |n+1=>(k (.tup [.int i,x]) acc h).bind fun acc h=>dP a k n (i+1) acc h
@[simp] def walk(s:Src)(k:W->List W->Hp->R (List W))(h:Hp):R (List W):=match s with
 |.fix xs=>eG k xs [] h
 |.at a n=>cP a k n 0 [] h
 |.rv _ _=>.bad
 |.ea a n=>dP a k n 0 [] h
noncomputable def c8(j:Int):Bool:=decide (-(2 ^ 62)<=j)&&decide (j<2 ^ 62)
@[simp] def src(h:Hp):W->Option Src
 |.tup xs=>some (.fix xs)
 |.ref a=>match h[a]? with
  |some (.lst xs)=>some (.at a xs.length)
  |some (.bI xs)=>some (.at a xs.length)
  |_=>none
 |_=>none
@[simp] def mh(h:Hp):Option W->Option Bool
 |none=>some true
 |some t=>truth h t
noncomputable def fA(c:Env->Hp->R (Option W))(elt:Env->Hp->R W)(σ:Env)(x:W)(acc:List W)(h:Hp):R (List W):=
 (c (σ++[some x]) h).gv.bind fun t h=>match mh h t with
  |none=>.bad
  |some true=>(elt (σ++[some x]) h).gv.bind fun y h=>.ok (acc++[y]) h
  |some false=>.ok acc h
noncomputable def gN(elt:Env->Hp->R W)(σ:Env)(x:W)(acc:List W)(h:Hp):R (List W):=match x with
 |.tup [u,v]=>(elt (σ++[some u,some v]) h).gv.bind fun y h=>.ok (acc++[y]) h
 |_=>.bad
@[simp] def field(w:W)(x:S)(h:Hp):Option W:=match w with
 |.ref a=>match h[a]? with
  |some (.ins _ fs)=>fs.lookup x
  |_=>none
 |_=>none
@[simp] noncomputable def kF(w:W)(x:S)(ds:List S)(h:Hp):Option W:=match w with
 |.ref a=>match h[a]? with
  |some (.ax c fs)=>if ds.contains c then fs.lookup x else none
  |_=>none
 |_=>none
@[simp] def N9(w:W)(ds cs:List S)(h:Hp):Option Bool:=match w with
 |.ref a=>match h[a]? with
  |some (.ax c _)=>if ds.contains c then some (cs.contains c) else none
  |_=>none
 |_=>none
def mH(x:S)(v:W):List (S×W)->List (S×W)
 |[]=>[(x,v)]
 |(y,u)::r=>if y=x then (y,v)::r else (y,u)::mH x v r
@[simp] def putField(w:W)(x:S)(v:W)(h:Hp):R Unit:=match w with
 |.ref a=>match h[a]? with
  |some (.ins c fs)=>if fs.length<1000 then .ok () (h.set a (.ins c (mH x v fs))) else .bad
  |_=>.bad
 |_=>.bad
@[simp] def gR(w:W)(c m:S)(h:Hp):Bool:=match w with
 |.ref a=>match h[a]? with
  |some (.ins c' fs)=>decide (c'=c)&&(fs.lookup m).isNone
  |_=>false
 |_=>false
@[simp] def pick(g:List (S×Nat)):W->Option Nat
 |.str s=>g.lookup s
 |_=>none
mutual
noncomputable def ag(C:Or):E->Env->Hp->R W
 |.var i,σ,h=>match σ[i]? with
  |some (some w)=>.ok w h
  |_=>.bad
 |.cst w,_,h=>.ok w h
 |.tup es,σ,h=>(bS C es σ h).bind fun xs h=>.ok (.tup xs) h
 |.lst es,σ,h=>(bS C es σ h).bind fun xs h=>new (.lst xs) h
 |.aK es,σ,h=>(bS C es σ h).bind fun xs h=>match jM xs [] with
  |some kvs=>new (.aK kvs) h
  |none=>.bad
 |.bin op a b,σ,h=>(ag C a σ h).bind fun x h=>(ag C b σ h).bind fun y h=>bin op x y h
 |.cmp op a b,σ,h=>(ag C a σ h).bind fun x h=>(ag C b σ h).bind fun y h=>R.of ((cmp op x y h).map .bl) h
 |.and a b,σ,h=>(ag C a σ h).bind fun x h=>match x with
  |.bl true=>ag C b σ h
  |.bl false=>.ok (.bl false) h
  |_=>.bad
 |.or a b,σ,h=>(ag C a σ h).bind fun x h=>match x with
  |.bl false=>ag C b σ h
  |.bl true=>.ok (.bl true) h
  |_=>.bad
 |.not a,σ,h=>(ag C a σ h).bind fun x h=>R.of ((truth h x).map fun b=>.bl (!b)) h
 |.ite c a b,σ,h=>(ag C c σ h).bind fun x h=>match truth h x with
  |some true=>ag C a σ h
  |some false=>ag C b σ h
  |none=>.bad
 |.idx a b,σ,h=>(ag C a σ h).bind fun x h=>(ag C b σ h).bind fun y h=>idx x y h
 |.sl a lo hi,σ,h=>(ag C a σ h).bind fun x h=>(fw C lo σ h).bind fun l h=>(fw C hi σ h).gv.bind fun u h=>slice x l u h
 |.call f es,σ,h=>(bS C es σ h).bind fun xs h=>C f xs h
 |.blt b a,σ,h=>(ag C a σ h).bind fun x h=>builtin b x h
 |.nM m o es,σ,h=>(ag C o σ h).bind fun x h=>if qT m x h then (bS C es σ h).bind fun xs h=>method m x xs h else .bad
 |.wu a t,σ,h=>(ag C a σ h).bind fun x h=>R.of ((wu x t h).map .bl) h
 |.comp elt it c,σ,h=>(dN C it σ h).bind fun s h=>(walk s (fA (fun σ h=>fw C c σ h) (fun σ h=>ag C elt σ h) σ) h).bind dC
 |.jj elt it,σ,h=>(dN C it σ h).bind fun s h=>(walk s (gN (fun σ h=>ag C elt σ h) σ) h).bind dC
 |.bad,_,_=>.bad
 |.fld a x,σ,h=>(ag C a σ h).bind fun w h=>R.of (field w x h) h
 |.uJ a x ds,σ,h=>(ag C a σ h).bind fun w h=>R.of (kF w x ds h) h
 |.mk c f es,σ,h=>(bS C es σ h).bind fun xs h=>(C f (.ref h.length::xs) (h++[.ins c []])).bind fun r h'=>match r with
  |.ak=>.ok (.ref h.length) h'
  |_=>.bad
 |.own o c m f es,σ,h=>(ag C o σ h).bind fun x h=>if gR x c m h then (bS C es σ h).bind fun xs h=>C f (x::xs) h else .bad
 |.qN g k es,σ,h=>(ag C k σ h).bind fun x h=>match pick g x with
  |some f=>(bS C es σ h).bind fun xs h=>C f xs h
  |none=>.bad
 |.zu k g,σ,h=>(ag C k σ h).bind fun x h=>match x with
  |.str s=>.ok (.bl (g.contains s)) h
  |_=>.bad
 |.la a _ ds cs,σ,h=>(ag C a σ h).bind fun x h=>R.of ((N9 x ds cs h).map .bl) h
noncomputable def bS(C:Or):Es->Env->Hp->R (List W)
 |.nil,_,h=>.ok [] h
 |.cons e es,σ,h=>(ag C e σ h).bind fun x h=>(bS C es σ h).bind fun xs h=>.ok (x::xs) h
noncomputable def fw(C:Or):Eo->Env->Hp->R (Option W)
 |.none,_,h=>.ok none h
 |.some e,σ,h=>(ag C e σ h).bind fun x h=>.ok (some x) h
noncomputable def dN(C:Or):It->Env->Hp->R Src
 |.seq e,σ,h=>(ag C e σ h).bind fun x h=>R.of (src h x) h
 |.hZ e,σ,h=>(ag C e σ h).bind fun x h=>match x with
  |.int j=>if c8 j then .ok (.fix (upTo 0 j.toNat)) h else .bad
  |_=>.bad
 |.Bm a b,σ,h=>(ag C a σ h).bind fun x h=>(ag C b σ h).bind fun y h=>match x,y with
  |.int i,.int j=>if c8 i&&c8 j then .ok (.fix (upTo i (j-i).toNat)) h else .bad
  |_,_=>.bad
 |.zip a b,σ,h=>(ag C a σ h).bind fun x h=>(ag C b σ h).bind fun y h=>match x,y with
  |.tup xs,.tup ys=>.ok (.fix (DA xs ys)) h
  |_,_=>.bad
 |.enum e,σ,h=>(ag C e σ h).bind fun x h=>match x with
  |.tup xs=>.ok (.fix (eT 0 xs)) h
  |.ref a=>match h[a]? with
   |some (.lst xs)=>.ok (.ea a xs.length) h
   |_=>.bad
  |_=>.bad
 |.rev e,σ,h=>(ag C e σ h).bind fun x h=>match x with
  |.ref a=>match h[a]? with
   |some (.lst xs)=>.ok (.rv a xs.length) h
   |_=>.bad
  |_=>.bad
end
@[simp] theorem iV(C:Or)(i:Nat)(σ:Env)(h:Hp):ag C (.var i) σ h=(match σ[i]? with
  |some (some w)=>.ok w h
  |_=>.bad):=rfl
@[simp] theorem ic(C:Or)(w:W)(σ:Env)(h:Hp):ag C (.cst w) σ h=(.ok w h):=rfl
@[simp] theorem Il(C:Or)(es:Es)(σ:Env)(h:Hp):ag C (.tup es) σ h=((bS C es σ h).bind fun xs h=>.ok (.tup xs) h):=rfl
@[simp] theorem Rk(C:Or)(es:Es)(σ:Env)(h:Hp):ag C (.lst es) σ h=((bS C es σ h).bind fun xs h=>new (.lst xs) h):=rfl
@[simp] theorem GZ(C:Or)(es:Es)(σ:Env)(h:Hp):ag C (.aK es) σ h=((bS C es σ h).bind fun xs h=>match jM xs [] with
  |some kvs=>new (.aK kvs) h
  |none=>.bad):=rfl
@[simp] theorem HK(C:Or)(op:Op)(a:E)(b:E)(σ:Env)(h:Hp):ag C (.bin op a b) σ h=((ag C a σ h).bind fun x h=>(ag C b σ h).bind fun y h=>bin op x y h):=rfl
@[simp] theorem Ik(C:Or)(op:Cp)(a:E)(b:E)(σ:Env)(h:Hp):ag C (.cmp op a b) σ h=((ag C a σ h).bind fun x h=>(ag C b σ h).bind fun y h=>R.of ((cmp op x y h).map .bl) h):=rfl
@[simp] theorem GK(C:Or)(a:E)(b:E)(σ:Env)(h:Hp):ag C (.and a b) σ h=((ag C a σ h).bind fun x h=>match x with
  |.bl true=>ag C b σ h
  |.bl false=>.ok (.bl false) h
  |_=>.bad):=rfl
@[simp] theorem LH(C:Or)(a:E)(b:E)(σ:Env)(h:Hp):ag C (.or a b) σ h=((ag C a σ h).bind fun x h=>match x with
  |.bl false=>ag C b σ h
  |.bl true=>.ok (.bl true) h
  |_=>.bad):=rfl
@[simp] theorem ID(C:Or)(a:E)(σ:Env)(h:Hp):ag C (.not a) σ h=((ag C a σ h).bind fun x h=>R.of ((truth h x).map fun b=>.bl (!b)) h):=rfl
@[simp] theorem G0(C:Or)(c:E)(a:E)(b:E)(σ:Env)(h:Hp):ag C (.ite c a b) σ h=((ag C c σ h).bind fun x h=>match truth h x with
  |some true=>ag C a σ h
  |some false=>ag C b σ h
  |none=>.bad):=rfl
@[simp] theorem oZ(C:Or)(a:E)(b:E)(σ:Env)(h:Hp):ag C (.idx a b) σ h=((ag C a σ h).bind fun x h=>(ag C b σ h).bind fun y h=>idx x y h):=rfl
@[simp] theorem RV(C:Or)(a:E)(lo:Eo)(hi:Eo)(σ:Env)(h:Hp):ag C (.sl a lo hi) σ h=((ag C a σ h).bind fun x h=>(fw C lo σ h).bind fun l h=>(fw C hi σ h).gv.bind fun u h=>slice x l u h):=rfl
@[simp] theorem nv(C:Or)(f:Nat)(es:Es)(σ:Env)(h:Hp):ag C (.call f es) σ h=((bS C es σ h).bind fun xs h=>C f xs h):=rfl
@[simp] theorem Ip(C:Or)(b:B)(a:E)(σ:Env)(h:Hp):ag C (.blt b a) σ h=((ag C a σ h).bind fun x h=>builtin b x h):=rfl
@[simp] theorem yq(C:Or)(m:Mt)(o:E)(es:Es)(σ:Env)(h:Hp):ag C (.nM m o es) σ h=((ag C o σ h).bind fun x h=>if qT m x h then (bS C es σ h).bind fun xs h=>method m x xs h else .bad):=rfl
@[simp] theorem Ro(C:Or)(a:E)(t:Ty)(σ:Env)(h:Hp):ag C (.wu a t) σ h=((ag C a σ h).bind fun x h=>R.of ((wu x t h).map .bl) h):=rfl
theorem fM(C:Or)(elt:E)(it:It)(c:Eo)(σ:Env)(h:Hp):ag C (.comp elt it c) σ h=((dN C it σ h).bind fun s h=>(walk s (fA (fw C c) (ag C elt) σ) h).bind dC):=rfl
theorem jy(C:Or)(elt:E)(it:It)(σ:Env)(h:Hp):ag C (.jj elt it) σ h=((dN C it σ h).bind fun s h=>(walk s (gN (ag C elt) σ) h).bind dC):=rfl
@[simp] theorem sX(C:Or)(σ:Env)(h:Hp):ag C .bad σ h=.bad:=rfl
@[simp] theorem Ri(C:Or)(a:E)(x:S)(σ:Env)(h:Hp):ag C (.fld a x) σ h=((ag C a σ h).bind fun w h=>R.of (field w x h) h):=rfl
@[simp] theorem G9(C:Or)(a:E)(x:S)(ds:List S)(σ:Env)(h:Hp):ag C (.uJ a x ds) σ h=((ag C a σ h).bind fun w h=>R.of (kF w x ds h) h):=rfl
@[simp] theorem Li(C:Or)(c:S)(f:Nat)(es:Es)(σ:Env)(h:Hp):ag C (.mk c f es) σ h=((bS C es σ h).bind fun xs h=>(C f (.ref h.length::xs) (h++[.ins c []])).bind fun r h'=>match r with
  |.ak=>.ok (.ref h.length) h'
  |_=>.bad):=rfl
@[simp] theorem Rg(C:Or)(o:E)(c m:S)(f:Nat)(es:Es)(σ:Env)(h:Hp):ag C (.own o c m f es) σ h=((ag C o σ h).bind fun x h=>if gR x c m h then (bS C es σ h).bind fun xs h=>C f (x::xs) h else .bad):=rfl
@[simp] theorem xK(C:Or)(g:List (S×Nat))(k:E)(es:Es)(σ:Env)(h:Hp):ag C (.qN g k es) σ h=((ag C k σ h).bind fun x h=>match pick g x with
  |some f=>(bS C es σ h).bind fun xs h=>C f xs h
  |none=>.bad):=rfl
@[simp] theorem tq(C:Or)(k:E)(g:List S)(σ:Env)(h:Hp):ag C (.zu k g) σ h=((ag C k σ h).bind fun x h=>match x with
  |.str s=>.ok (.bl (g.contains s)) h
  |_=>.bad):=rfl
@[simp] theorem Rq(C:Or)(a:E)(ns ds cs:List S)(σ:Env)(h:Hp):ag C (.la a ns ds cs) σ h=((ag C a σ h).bind fun x h=>R.of ((N9 x ds cs h).map .bl) h):=rfl
@[simp] theorem Cq(C:Or)(e:E)(σ:Env)(h:Hp):dN C (.enum e) σ h=((ag C e σ h).bind fun x h=>match x with
  |.tup xs=>.ok (.fix (eT 0 xs)) h
  |.ref a=>match h[a]? with
   |some (.lst xs)=>.ok (.ea a xs.length) h
   |_=>.bad
  |_=>.bad):=rfl
@[simp] theorem DD(C:Or)(e:E)(σ:Env)(h:Hp):dN C (.rev e) σ h=((ag C e σ h).bind fun x h=>match x with
  |.ref a=>match h[a]? with
   |some (.lst xs)=>.ok (.rv a xs.length) h
   |_=>.bad
  |_=>.bad):=rfl
@[simp] theorem oJ(C:Or)(σ:Env)(h:Hp):fw C .none σ h=(.ok none h):=rfl
@[simp] theorem ub(C:Or)(e:E)(σ:Env)(h:Hp):fw C (.some e) σ h=((ag C e σ h).bind fun x h=>.ok (some x) h):=rfl
@[simp] theorem fW(C:Or)(σ:Env)(h:Hp):bS C .nil σ h=.ok [] h:=rfl
@[simp] theorem dR(C:Or)(e:E)(es:Es)(σ:Env)(h:Hp):bS C (.cons e es) σ h=((ag C e σ h).bind fun x h=>(bS C es σ h).bind fun xs h=>.ok (x::xs) h):=rfl
@[simp] theorem qI(C:Or)(e:E)(σ:Env)(h:Hp):dN C (.seq e) σ h=((ag C e σ h).bind fun x h=>R.of (src h x) h):=rfl
@[simp] theorem qK(C:Or)(e:E)(σ:Env)(h:Hp):dN C (.hZ e) σ h=((ag C e σ h).bind fun x h=>match x with
  |.int j=>if c8 j then .ok (.fix (upTo 0 j.toNat)) h else .bad
  |_=>.bad):=rfl
@[simp] theorem Pe(C:Or)(a b:E)(σ:Env)(h:Hp):dN C (.Bm a b) σ h=((ag C a σ h).bind fun x h=>(ag C b σ h).bind fun y h=>match x,y with
  |.int i,.int j=>if c8 i&&c8 j then .ok (.fix (upTo i (j-i).toNat)) h else .bad
  |_,_=>.bad):=rfl
@[simp] theorem QP(C:Or)(a b:E)(σ:Env)(h:Hp):dN C (.zip a b) σ h=((ag C a σ h).bind fun x h=>(ag C b σ h).bind fun y h=>match x,y with
  |.tup xs,.tup ys=>.ok (.fix (DA xs ys)) h
  |_,_=>.bad):=rfl
@[simp] def iZ(t:Tg)(x:W)(σ:Env):Option Env:=match t,x with
 |.var i,x=>some (σ.set i (some x))
 |.two i j,.tup [x,y]=>some ((σ.set i (some x)).set j (some y))
 |_,_=>none
@[simp] noncomputable def turn(t:Tg)(k:Env->Hp->R Fl)(x:W)(σ:Env)(h:Hp)(go:Env->Hp->R Fl):R Fl:=match iZ t x σ with
 |none=>.bad
 |some σ=>(k σ h).bind fun f h=>match f with
  |.next σ=>go σ h
  |.cont σ=>go σ h
  |.brk σ=>.ok (.next σ) h
  |.ret w=>.ok (.ret w) h
@[simp] def bh(t:Tg)(k:Env->Hp->R Fl):List W->Env->Hp->R Fl
 |[],σ,h=>.ok (.next σ) h
 |x::xs,σ,h=>turn t k x σ h (bh t k xs)
noncomputable def cH(a:Nat)(t:Tg)(k:Env->Hp->R Fl):Nat->Nat->Env->Hp->R Fl
 |n,i,σ,h=>match bD h a with
  |none=>.bad
  |some ys=>match ys[i]? with
   |none=>.ok (.next σ) h
   |some x=>match n with
    |0=>.bad
    |n+1=>turn t k x σ h (cH a t k n (i+1))
noncomputable def dQ(a:Nat)(t:Tg)(k:Env->Hp->R Fl):Nat->Env->Hp->R Fl
 |0,σ,h=>.ok (.next σ) h
 |n+1,σ,h=>match bD h a with
  |none=>.bad
  |some ys=>match ys[n]? with
   |none=>.bad
   |some x=>turn t k x σ h (dQ a t k n)
noncomputable def fT(a:Nat)(t:Tg)(k:Env->Hp->R Fl):Nat->Nat->Env->Hp->R Fl
 |n,i,σ,h=>match bD h a with
  |none=>.bad
  |some ys=>match ys[i]? with
   |none=>.ok (.next σ) h
   |some x=>match n with
    |0=>.bad
    |n+1=>turn t k (.tup [.int i,x]) σ h (fT a t k n (i+1))
noncomputable def kT(c:Env->Hp->R W)(b:Env->Hp->R Fl):Nat->Env->Hp->R Fl
 |0,_,_=>.bad
 |n+1,σ,h=>(c σ h).bind fun x h=>match truth h x with
  |some true=>(b σ h).bind fun f h=>match f with
   |.next σ=>kT c b n σ h
   |.cont σ=>kT c b n σ h
   |.brk σ=>.ok (.next σ) h
   |.ret w=>.ok (.ret w) h
  |some false=>.ok (.next σ) h
  |none=>.bad
def FU:Nat:=2 ^ 20
@[simp] def turns(s:Src)(t:Tg)(k:Env->Hp->R Fl)(σ:Env)(h:Hp):R Fl:=match s with
 |.fix xs=>bh t k xs σ h
 |.at a n=>cH a t k n 0 σ h
 |.rv a n=>dQ a t k n σ h
 |.ea a n=>fT a t k n 0 σ h
@[simp] def KQ(C:Or)(σ:Env)(h:Hp):Hs->R Fl
 |.ret e=>(ag C e σ h).bind fun w h=>.ok (.ret w) h
 |.Bd c e=>(ag C c σ h).bind fun x h=>match truth h x with
  |some true=>(ag C e σ h).bind fun w h=>.ok (.ret w) h
  |some false=>.ok (.next σ) h
  |none=>.bad
@[simp] def qH(C:Or):List Hs->Env->Hp->R Fl
 |[],σ,h=>.ok (.next σ) h
 |a::r,σ,h=>(KQ C σ h a).bind fun f h=>match f with
  |.next σ=>qH C r σ h
  |f=>.ok f h
@[simp] def m6(c:S):List Hd->Option (Nat×List Hs)
 |[]=>none
 |(_,cs,j,a)::r=>if cs.contains c then some (j,a) else m6 c r
@[simp] def OS(j:Nat):Fl->Fl
 |.next σ=>.next (σ.set j none)
 |.brk σ=>.brk (σ.set j none)
 |.cont σ=>.cont (σ.set j none)
 |.ret w=>.ret w
noncomputable def lX(hs:List Hd)(C:Or)(σ:Env)(m:R Fl):R Fl:=match m with
 |.ok (.next σ') h=>.ok (.next σ') h
 |.ok (.ret w) h=>.ok (.ret w) h
 |.ok _ _=>.bad
 |.ax a h=>match h[a]? with
  |some (.ax c _)=>match m6 c hs with
   |some (j,act)=>(qH C act (σ.set j (some (.ref a))) h).gv.bind fun fl h=>.ok (OS j fl) h
   |none=>.bad
  |_=>.bad
 |.bad=>.bad
def nY(C:Or)(o:E)(c m:S)(f:Nat)(es:Es)(σ:Env)(h:Hp):R W:=
 (ag C o σ h).gv.bind fun w h=>if gR w c m h then (bS C es σ h).gv.bind fun ws h=>C f (w::ws) h else .bad
@[simp] def Pu(u:Option W)(σ:Env)(v:W)(h:Hp):R Fl:=match u with
 |none=>.ok (.next σ) h
 |some z=>.ok (.ret (.tup [v,z])) h
@[simp] def lG(C:Or)(σ:Env)(h:Hp):Tb->R Fl
 |.call o c m f es u=>(nY C o c m f es σ h).bind fun v h=>Pu u σ v h
 |.lH i o c m f es=>(nY C o c m f es σ h).bind fun v h=>.ok (.next (σ.set i (some v))) h
 |.ret e=>(ag C e σ h).gv.bind fun w h=>.ok (.ret w) h
@[simp] def jJ(C:Or)(σ:Env):List Tb->Hp->R Fl
 |[],h=>.ok (.next σ) h
 |t::r,h=>(lG C σ h t).bind fun f h=>match f with
  |.next σ'=>(match r with
   |[]=>.ok (.next σ') h
   |_=>jJ C σ r h)
  |f=>.ok f h
noncomputable def iT(c:S)(xs:List S)(ws:List W)(h:Hp):R Fl:=if ws.length=xs.length then .ax h.length (h++[.ax c (xs.zip ws)]) else .bad
mutual
noncomputable def dq(C:Or):St->Env->Hp->R Fl
 |.expr e,σ,h=>(ag C e σ h).bind fun _ h=>.ok (.next σ) h
 |.ret e,σ,h=>(ag C e σ h).bind fun x h=>.ok (.ret x) h
 |.Ai,_,h=>.ok (.ret .ak) h
 |.set i e,σ,h=>(ag C e σ h).bind fun x h=>.ok (.next (σ.set i (some x))) h
 |.put o k e,σ,h=>(ag C e σ h).bind fun v h=>(ag C o σ h).bind fun x h=>(ag C k σ h).bind fun y h=>(kE x y v h).bind fun _ h=>.ok (.next σ) h
 |.iff c a b,σ,h=>(ag C c σ h).bind fun x h=>match truth h x with
  |some true=>au C a σ h
  |some false=>au C b σ h
  |none=>.bad
 |.for t it b,σ,h=>(dN C it σ h).bind fun s h=>turns s t (au C b) σ h
 |.pass,σ,h=>.ok (.next σ) h
 |.brk,σ,h=>.ok (.brk σ) h
 |.cont,σ,h=>.ok (.cont σ) h
 |.bad,_,_=>.bad
 |.iF i j e,σ,h=>(ag C e σ h).bind fun x h=>match x with
  |.tup [u,v]=>.ok (.next ((σ.set i (some u)).set j (some v))) h
  |_=>.bad
 |.lC o x e,σ,h=>(ag C e σ h).bind fun v h=>(ag C o σ h).bind fun w h=>(putField w x v h).bind fun _ h=>.ok (.next σ) h
 |.aug i op e,σ,h=>match σ[i]? with
  |some (some (.int a))=>(ag C e σ h).bind fun y h=>match y with
   |.int b=>R.of ((binI op a b).map fun c=>.next (σ.set i (some (.int c)))) h
   |_=>.bad
  |_=>.bad
 |.BF c b,σ,h=>kT (ag C c) (au C b) FU σ h
 |.raise c xs es,σ,h=>(bS C es σ h).bind fun ws h=>iT c xs ws h
 |.wz b hs,σ,h=>lX hs C σ (jJ C σ b h)
 |.tw i e b,σ,h=>(ag C e σ h).bind fun x h=>match x with
  |.tup xs=>bh (.var i) (au C b) xs σ h
  |_=>.bad
noncomputable def au(C:Or):List St->Env->Hp->R Fl
 |[],σ,h=>.ok (.next σ) h
 |s::r,σ,h=>(dq C s σ h).bind fun f h=>match f with
  |.next σ=>au C r σ h
  |f=>.ok f h
end
@[simp] theorem QB(C:Or)(e:E)(σ:Env)(h:Hp):dq C (.expr e) σ h=((ag C e σ h).bind fun _ h=>.ok (.next σ) h):=rfl
@[simp] theorem pT(C:Or)(e:E)(σ:Env)(h:Hp):dq C (.ret e) σ h=((ag C e σ h).bind fun x h=>.ok (.ret x) h):=rfl
@[simp] theorem P4(C:Or)(σ:Env)(h:Hp):dq C .Ai σ h=(.ok (.ret .ak) h):=rfl
@[simp] theorem yr(C:Or)(i:Nat)(e:E)(σ:Env)(h:Hp):dq C (.set i e) σ h=((ag C e σ h).bind fun x h=>.ok (.next (σ.set i (some x))) h):=rfl
@[simp] theorem Rj(C:Or)(o:E)(k:E)(e:E)(σ:Env)(h:Hp):dq C (.put o k e) σ h=((ag C e σ h).bind fun v h=>(ag C o σ h).bind fun x h=>(ag C k σ h).bind fun y h=>(kE x y v h).bind fun _ h=>.ok (.next σ) h):=rfl
@[simp] theorem ig(C:Or)(c:E)(a:List St)(b:List St)(σ:Env)(h:Hp):dq C (.iff c a b) σ h=((ag C c σ h).bind fun x h=>match truth h x with
  |some true=>au C a σ h
  |some false=>au C b σ h
  |none=>.bad):=rfl
theorem fh(C:Or)(t:Tg)(it:It)(b:List St)(σ:Env)(h:Hp):dq C (.for t it b) σ h=((dN C it σ h).bind fun s h=>turns s t (au C b) σ h):=rfl
@[simp] theorem Q6(C:Or)(σ:Env)(h:Hp):dq C .pass σ h=(.ok (.next σ) h):=rfl
@[simp] theorem Rp(C:Or)(σ:Env)(h:Hp):dq C .brk σ h=(.ok (.brk σ) h):=rfl
@[simp] theorem QC(C:Or)(σ:Env)(h:Hp):dq C .cont σ h=(.ok (.cont σ) h):=rfl
@[simp] theorem Rt(C:Or)(σ:Env)(h:Hp):dq C .bad σ h=.bad:=rfl
@[simp] theorem qG(C:Or)(i j:Nat)(e:E)(σ:Env)(h:Hp):dq C (.iF i j e) σ h=((ag C e σ h).bind fun x h=>match x with
  |.tup [u,v]=>.ok (.next ((σ.set i (some u)).set j (some v))) h
  |_=>.bad):=rfl
@[simp] theorem Qp(C:Or)(o:E)(x:S)(e:E)(σ:Env)(h:Hp):dq C (.lC o x e) σ h=((ag C e σ h).bind fun v h=>(ag C o σ h).bind fun w h=>(putField w x v h).bind fun _ h=>.ok (.next σ) h):=rfl
@[simp] theorem Iu(C:Or)(i:Nat)(op:Op)(e:E)(σ:Env)(h:Hp):dq C (.aug i op e) σ h=(match σ[i]? with
  |some (some (.int a))=>(ag C e σ h).bind fun y h=>match y with
   |.int b=>R.of ((binI op a b).map fun c=>.next (σ.set i (some (.int c)))) h
   |_=>.bad
  |_=>.bad):=rfl
theorem Hh(C:Or)(c:E)(b:List St)(σ:Env)(h:Hp):dq C (.BF c b) σ h=kT (ag C c) (au C b) FU σ h:=rfl
theorem BL(C:Or)(c:S)(xs:List S)(es:Es)(σ:Env)(h:Hp):dq C (.raise c xs es) σ h=((bS C es σ h).bind fun ws h=>iT c xs ws h):=rfl
theorem xa(C:Or)(b:List Tb)(hs:List Hd)(σ:Env)(h:Hp):dq C (.wz b hs) σ h=lX hs C σ (jJ C σ b h):=rfl
theorem vU(C:Or)(i:Nat)(e:E)(b:List St)(σ:Env)(h:Hp):dq C (.tw i e b) σ h=((ag C e σ h).bind fun x h=>match x with
  |.tup xs=>bh (.var i) (au C b) xs σ h
  |_=>.bad):=rfl
@[simp] theorem c7(C:Or)(σ:Env)(h:Hp):au C [] σ h=.ok (.next σ) h:=rfl
@[simp] theorem bg(C:Or)(s:St)(r:List St)(σ:Env)(h:Hp):au C (s::r) σ h=((dq C s σ h).bind fun f h=>match f with
  |.next σ=>au C r σ h
  |f=>.ok f h):=rfl
structure Fn where
 ps:Nat
 ns:Nat
 body:List St
def bq(C:Or)(f:Fn)(xs:List W)(h:Hp):R W:=
 if xs.length=f.ps then (au C f.body (xs.map some++List.replicate (f.ns-f.ps) none) h).bind fun fl h=>match fl with
  |.next _=>.ok .ak h
  |.ret w=>.ok w h
  |_=>.bad
 else .bad
def run(T:List Fn):Nat->Or
 |0,_,_,_=>.bad
 |k+1,f,xs,h=>match T[f]? with
  |some fn=>bq (run T k) fn xs h
  |none=>.bad
end Tw
namespace TwS
open PySem L2
def ql(x:Tw.S):Prop:=∀c∈x,c<0x110000
def TupAt(K:W.Frag)(H:L2.Hp)(a:Addr)(xs:List V):Prop:=
 H a=some (.tup xs)\/∃(o:Obj) (its:Array Value) (n:Nat),K.lookup a=some o/\o.cls=.type "tuple" /\o.data=.seq its n/\its.size<=sizeLine/\Vals xs its.toList
theorem TupAt.sq{K:W.Frag}{H:L2.Hp}{a:Addr}{xs:List V}(t:TupAt K H a xs):df K H a xs:=by
 rcases t with t|t
 .exact df.of t
 .exact .inr t
mutual
inductive RW(K:W.Frag)(ι:Nat->Addr)(n:Nat)(H:L2.Hp):Tw.W->V->Prop
 |ak:RW K ι n H .ak .ak
 |bl (b:Bool):RW K ι n H (.bl b) (.bl b)
 |int (i:Int):RW K ι n H (.int i) (.int i)
 |str (x:Tw.S) (hx:ql x):RW K ι n H (.str x) (.str ⟨x.toArray⟩)
 |tup {a:Addr}{xs:List V}{ws:List Tw.W}:TupAt K H a xs->aT K ι n H ws xs->RW K ι n H (.tup ws) (.ref a)
 |ref {i:Nat}:i<n->RW K ι n H (.ref i) (.ref (ι i))
inductive aT(K:W.Frag)(ι:Nat->Addr)(n:Nat)(H:L2.Hp):List Tw.W->List V->Prop
 |nil:aT K ι n H [] []
 |cons {w:Tw.W}{v:V}{ws:List Tw.W}{vs:List V}:RW K ι n H w v->aT K ι n H ws vs->aT K ι n H (w::ws) (v::vs)
end
structure Keeps(ι:Nat->Addr)(n:Nat)(H:L2.Hp)(ι':Nat->Addr)(n':Nat)(H':L2.Hp):Prop where
 le:n<=n'
 same:∀i,i<n->ι' i=ι i
 tup:∀a xs,H a=some (.tup xs)->H' a=some (.tup xs)
theorem Keeps.uX{K:W.Frag}{ι ι':Nat->Addr}{n n':Nat}{H H':L2.Hp}(k:Keeps ι n H ι' n' H'){a:Addr}{xs:List V}(t:TupAt K H a xs):TupAt K H' a xs:=t.imp (k.tup a xs) id
section
variable {K:W.Frag}{ι ι':Nat->Addr}{n n':Nat}{H H':L2.Hp}
mutual
theorem RW.keep(k:Keeps ι n H ι' n' H'):∀{w:Tw.W}{v:V},RW K ι n H w v->RW K ι' n' H' w v
 |_,_,.ak=>.ak
 |_,_,.bl b=>.bl b
 |_,_,.int i=>.int i
 |_,_,.str x hx=>.str x hx
 |_,_,.tup e r=>.tup (k.uX e) (aT.keep k r)
 |_,_,.ref (i:=i) h=>by rw[<-k.same i h];exact .ref (cM h k.le)
theorem aT.keep(k:Keeps ι n H ι' n' H'):∀{ws:List Tw.W}{vs:List V},aT K ι n H ws vs->aT K ι' n' H' ws vs
 |_,_,.nil=>.nil
 |_,_,.cons a r=>.cons (RW.keep k a) (aT.keep k r)
end
theorem aT.length:∀{ws:List Tw.W}{vs:List V},aT K ι n H ws vs->ws.length=vs.length
 |_,_,.nil=>rfl
 |_,_,.cons _ r=>gU (·+ 1) r.length
theorem aT.get:∀{ws:List Tw.W}{vs:List V}{i:Nat}{w:Tw.W},aT K ι n H ws vs->ws[i]?=some w->∃v,vs[i]?=some v/\RW K ι n H w v
 |_,_,_,_,.nil,e=>by simp at e
 |_,_,0,_,.cons a _,e=>by simp at e;subst e;exact⟨_,rfl,a⟩
 |_,_,i+1,w,.cons _ r,e=>by
  obtain⟨v,h1,h2⟩:=aT.get (i:=i) (w:=w) r (by simpa using e);exact⟨v,by simpa using h1,h2⟩
theorem aT.append:∀{ws us:List Tw.W}{vs xs:List V},aT K ι n H ws vs->aT K ι n H us xs->aT K ι n H (ws++us) (vs++xs)
 |_,_,_,_,.nil,s=>s
 |_,_,_,_,.cons a r,s=>.cons a (aT.append r s)
theorem aT.take:∀{ws:List Tw.W}{vs:List V}(k:Nat),aT K ι n H ws vs->aT K ι n H (ws.take k) (vs.take k)
 |_,_,0,_=>.nil
 |_,_,_+1,.nil=>.nil
 |_,_,k+1,.cons a r=>.cons a (aT.take k r)
theorem aT.drop:∀{ws:List Tw.W}{vs:List V}(k:Nat),aT K ι n H ws vs->aT K ι n H (ws.drop k) (vs.drop k)
 |_,_,0,r=>r
 |_,_,_+1,.nil=>.nil
 |_,_,k+1,.cons _ r=>aT.drop k r
theorem aT.set{w:Tw.W}{v:V}(a:RW K ι n H w v):∀{ws:List Tw.W}{vs:List V}(i:Nat),aT K ι n H ws vs->aT K ι n H (ws.set i w) (vs.set i v)
 |_,_,_,.nil=>.nil
 |_,_,0,.cons _ r=>.cons a r
 |_,_,i+1,.cons b r=>.cons b (aT.set a i r)
end
inductive RD(K:W.Frag)(ι:Nat->Addr)(n:Nat)(H:L2.Hp):List (Tw.W×Tw.W)->List (Key×V)->Prop
 |nil:RD K ι n H [] []
 |cons {k w:Tw.W}{q:Key}{v:V}{kvs:List (Tw.W×Tw.W)}{xs:List (Key×V)}:q∉xs.map (·.1)->RW K ι n H k (kV q)->RW K ι n H w v->RD K ι n H kvs xs->RD K ι n H ((k,w)::kvs) ((q,v)::xs)
theorem RD.keep{K:W.Frag}{ι ι':Nat->Addr}{n n':Nat}{H H':L2.Hp}(k:Keeps ι n H ι' n' H'):∀{kvs:List (Tw.W×Tw.W)}{xs:List (Key×V)},RD K ι n H kvs xs->RD K ι' n' H' kvs xs
 |_,_,.nil=>.nil
 |_,_,.cons m e a r=>.cons m (e.keep k) (a.keep k) (RD.keep k r)
theorem RD.length{K:W.Frag}{ι:Nat->Addr}{n:Nat}{H:L2.Hp}:∀{kvs:List (Tw.W×Tw.W)}{xs:List (Key×V)},RD K ι n H kvs xs->kvs.length=xs.length
 |_,_,.nil=>rfl
 |_,_,.cons _ _ _ r=>gU (·+ 1) r.length
def tW(K:W.Frag)(H:L2.Hp)(a:Addr)(xs:List V):Prop:=
 (∃o,H a=some (.bI o (.lst xs)))\/
  ∃(o:Obj) (its:Array Value) (n:Nat),K.lookup a=some o/\o.cls=.type "list" /\o.dict=none/\o.data=.seq its n/\its.size<=sizeLine/\Vals xs its.toList
theorem tW.sq{K:W.Frag}{H:L2.Hp}{a:Addr}{xs:List V}(s:tW K H a xs):bB K H a xs:=by
 rcases s with s|s
 .exact .inl (.inr s)
 .exact .inr s
inductive RF(K:W.Frag)(ι:Nat->Addr)(n:Nat)(H:L2.Hp):List (Tw.S×Tw.W)->List (Str×V)->Prop
 |nil:RF K ι n H [] []
 |cons {x:Tw.S}{w:Tw.W}{v:V}{fs:List (Tw.S×Tw.W)}{gs:List (Str×V)}:RW K ι n H w v->RF K ι n H fs gs->RF K ι n H ((x,w)::fs) ((⟨x.toArray⟩,v)::gs)
theorem RF.keep{K:W.Frag}{ι ι':Nat->Addr}{n n':Nat}{H H':L2.Hp}(k:Keeps ι n H ι' n' H'):∀{fs:List (Tw.S×Tw.W)}{gs:List (Str×V)},RF K ι n H fs gs->RF K ι' n' H' fs gs
 |_,_,.nil=>.nil
 |_,_,.cons a r=>.cons (a.keep k) (RF.keep k r)
theorem RF.length{K:W.Frag}{ι:Nat->Addr}{n:Nat}{H:L2.Hp}:∀{fs:List (Tw.S×Tw.W)}{gs:List (Str×V)},RF K ι n H fs gs->fs.length=gs.length
 |_,_,.nil=>rfl
 |_,_,.cons _ r=>gU (·+ 1) r.length
structure Zk where
 K:W.Frag
 mg:Str->Option Value
 ex:XK
 hv:Option Value
abbrev zx(X:Cx)(E:XK):Zk:=⟨X.K,X.mg,E,X.A.handled⟩
noncomputable def y7:List Str:=["shelf", "free", "needs", "bound", "definitions", "numbers", "kind", "core", "whole_kind", "part", "around"]
structure GoodC(K:W.Frag)(C:Addr):Prop where
 cls:qf K C
 no:∀f∈y7,bo K C f
noncomputable def gK(C:Addr)(dx:Option Addr)(e:Addr):HO:=.ext fun h=>∃o vs,h.get? e=some o/\o.cls=.ref C/\o.dict=dx/\o.data=.fields vs/\vs[2]?=some .none
def XD(H:L2.Hp)(gs:List (Str×V)):Option Addr->Prop
 |some d=>H d=some (.xd gs)
 |none=>gs=[]
theorem XD.keep{H H1:L2.Hp}{gs:List (Str×V)}{dx:Option Addr}(q:XD H gs dx)(s:∀b u,(∃gs,u=HO.xd gs)->H b=some u->H1 b=some u):XD H1 gs dx:=by
 cases dx with
 |none=>exact q
 |some d=>exact s _ _ ⟨_,rfl⟩ q
noncomputable def eR:Tw.O->Bool
 |.bI _=>false
 |.ax _ _=>false
 |_=>true
noncomputable def RO(K:Zk)(ι:Nat->Addr)(n:Nat)(H:L2.Hp)(a:Addr):Tw.O->Prop
 |.lst ws=>∃xs,H a=some (.lst xs)/\aT K.K ι n H ws xs
 |.bI ws=>∃xs,tW K.K H a xs/\aT K.K ι n H ws xs
 |.aK kvs=>∃xs,H a=some (.dK xs)/\RD K.K ι n H kvs xs
 |.ins c fs=>∃C dx gs,(K.mg ⟨c.toArray⟩=some (.ref C)/\GoodC K.K C)/\H a=some (.ins C dx gs)/\RF K.K ι n H fs gs
 |.ax c fs=>∃C dx gs,K.mg ⟨c.toArray⟩=some (.ref C)/\H a=some (gK C dx a)/\XD H gs dx/\RF K.K ι n H fs gs
structure HR(K:Zk)(ι:Nat->Addr)(h:Tw.Hp)(H:L2.Hp):Prop where
 obj:∀(i:Nat)(o:Tw.O),h[i]?=some o->RO K ι h.length H (ι i) o
 inj:∀(i j:Nat)(o u:Tw.O),h[i]?=some o->h[j]?=some u->eR o=true->eR u=true->ι i=ι j->i=j
 hx:∀e,K.hv=some (.ref e)->∃C dx,H e=some (gK C dx e)
structure Ext(ι:Nat->Addr)(h:Tw.Hp)(H:L2.Hp)(ι':Nat->Addr)(h':Tw.Hp)(H':L2.Hp):Prop where
 len:h.length<=h'.length
 same:∀i,i<h.length->ι' i=ι i
 fr:∀b u,H b=some u->(∀(i:Nat)(o:Tw.O),h[i]?=some o->eR o=true->ι i≠b)->H' b=some u
 new:∀i,h.length<=i->i<h'.length->H (ι' i)=none
 zf:∀b,H' b=none->H b=none
 fz:∀(i:Nat)(o u:Tw.O),h[i]?=some o->h'[i]?=some u->eR u=eR o
section
variable {K:Zk}{ι ι1 ι2:Nat->Addr}{h h1 h2:Tw.Hp}{H H1 H2:L2.Hp}
theorem jL{h:Tw.Hp}{i:Nat}{o:Tw.O}(e:h[i]?=some o):i<h.length:=(dE.mp e).1
theorem Ext.refl(ι:Nat->Addr)(h:Tw.Hp)(H:L2.Hp):Ext ι h H ι h H:=
 ⟨aA _,fun _ _=>rfl,fun _ _ e _=>e,fun i a b=>absurd b (kG.mpr a),fun _ e=>e,fun i o u e f=>by rw[e] at f;cases f;rfl⟩
theorem Ext.trans(a:Ext ι h H ι1 h1 H1)(b:Ext ι1 h1 H1 ι2 h2 H2):Ext ι h H ι2 h2 H2 where
 len:=cL a.len b.len
 same:=fun i hi=>(b.same i (cM hi a.len)).trans (a.same i hi)
 fr:=fun c u e n=>b.fr c u (a.fr c u e n) fun i o e1 m z=>by
  by_cases hi:i<h.length
  .obtain⟨o',eo⟩:∃o',h[i]?=some o':=⟨_,iM hi⟩;rw[a.same i hi] at z;exact n i o' eo (by rw[<-a.fz i o' o eo e1];exact m) z
  .have q:=a.new i (kG.mp hi) (jL e1);rw[z,e] at q;cases q
 new:=fun i h1' h2'=>by
  by_cases hi:i<h1.length
  .rw[b.same i hi];exact a.new i h1' hi
  .exact a.zf _ (b.new i (kG.mp hi) h2')
 zf:=fun c e=>a.zf c (b.zf c e)
 fz:=fun i o u e f=>by
  obtain⟨v,ev⟩:∃v,h1[i]?=some v:=⟨_,iM (cM (jL e) a.len)⟩;rw[b.fz i v u ev f,a.fz i o v e ev]
theorem HR.there(r:HR K ι h H){i:Nat}{o:Tw.O}(e:h[i]?=some o)(m:eR o=true):∃u,H (ι i)=some u/\(∀xs,u≠.tup xs)/\(∀o v,u≠.bI o v)/\(∀gs,u≠.xd gs)/\∀φ,u≠.ext φ:=by
 have q:=r.obj i o e;cases o with
 |lst ws=>obtain⟨xs,q,_⟩:=q;exact⟨_,q,(fun _ z=>nomatch z),(fun _ _ z=>nomatch z),(fun _ z=>nomatch z),fun _ z=>nomatch z⟩
 |bI ws=>cases m
 |aK kvs=>obtain⟨xs,q,_⟩:=q;exact⟨_,q,(fun _ z=>nomatch z),(fun _ _ z=>nomatch z),(fun _ z=>nomatch z),fun _ z=>nomatch z⟩
 |ins c fs=>obtain⟨C,dx,gs,_,q,_⟩:=q;exact⟨_,q,(fun _ z=>nomatch z),(fun _ _ z=>nomatch z),(fun _ z=>nomatch z),fun _ z=>nomatch z⟩
 |ax c fs=>cases m
theorem Ext.keeps(r:HR K ι h H)(a:Ext ι h H ι1 h1 H1):Keeps ι h.length H ι1 h1.length H1:=
 ⟨a.len,a.same,fun b xs e=>a.fr b _ e fun i o eo m z=>by
  obtain⟨u,q,n,_⟩:=r.there eo m;rw[z,e] at q;cases q;exact n _ rfl⟩
theorem kB{H:L2.Hp}{p:Addr}{o:HO}(hp:H p=none):∀b u,H b=some u->upd H p o b=some u:=fun b u e=>by
 rw[aq (bW e hp)];exact e
theorem pM{H:L2.Hp}{p:Addr}{o:HO}:∀b,upd H p o b=none->H b=none:=fun b e=>by
 by_cases z:b=p
 .subst z;rw[aB] at e;cases e
 .rw[aq z] at e;exact e
theorem tW.keep{K:W.Frag}{H H1:L2.Hp}{a:Addr}{xs:List V}(s:tW K H a xs)(k:∀u,H a=some u->H1 a=some u):tW K H1 a xs:=by
 rcases s with ⟨o,s⟩|s
 .exact .inl ⟨o,k _ s⟩
 .exact .inr s
theorem RO.keep{n n':Nat}{a:Addr}{o:Tw.O}(r:RO K ι n H a o)(k:Keeps ι n H ι1 n' H1)(s:∀b u,(b=a\/∃gs,u=HO.xd gs)->H b=some u->H1 b=some u):RO K ι1 n' H1 a o:=by
 cases o with
 |lst ws=>obtain⟨xs,q,z⟩:=r;exact⟨xs,s _ _ (.inl rfl) q,z.keep k⟩
 |bI ws=>obtain⟨xs,q,z⟩:=r;exact⟨xs,tW.keep q (fun u=>s _ u (.inl rfl)),z.keep k⟩
 |aK kvs=>obtain⟨xs,q,z⟩:=r;exact⟨xs,s _ _ (.inl rfl) q,z.keep k⟩
 |ins c fs=>obtain⟨C,dx,gs,q0,q,z⟩:=r;exact⟨C,dx,gs,q0,s _ _ (.inl rfl) q,z.keep k⟩
 |ax c fs=>obtain⟨C,dx,gs,q0,q,qd,z⟩:=r;exact⟨C,dx,gs,q0,s _ _ (.inl rfl) q,XD.keep qd fun b u hb=>s b u (.inr hb),z.keep k⟩
theorem HR.grow{p:Addr}{o:HO}(r:HR K ι h H)(hp:H p=none):HR K ι h (upd H p o)/\Ext ι h H ι h (upd H p o):=by have e:Ext ι h H ι h (upd H p o):=⟨aA _,fun _ _=>rfl,fun b u q _=>kB hp b u q,fun i a b=>absurd b (kG.mpr a),pM,fun i o u e f=>by rw[e] at f;cases f;rfl⟩;exact⟨⟨fun i u q=>(r.obj i u q).keep (e.keeps r) fun b v _ z=>kB hp b v z,r.inj,fun e z=>let ⟨C,dx,q⟩:=r.hx e z;⟨C,dx,kB hp _ _ q⟩⟩,e⟩
noncomputable def eI(ι:Nat->Addr)(n:Nat)(p:Addr):Nat->Addr:=fun i=>if i=n then p else ι i
theorem cV{n i:Nat}{p:Addr}(h:i<n):eI ι n p i=ι i:=if_neg (bT h)
theorem cG{n:Nat}{p:Addr}:eI ι n p n=p:=if_pos rfl
theorem HR.DF{p:Addr}{o:HO}{u:Tw.O}(r:HR K ι h H)(hp:H p=none)(ro:∀ι' n' H',Keeps ι h.length H ι' n' H'->(∀b v,H b=some v->H' b=some v)->H' p=some o->RO K ι' n' H' p u):
  HR K (eI ι h.length p) (h++[u]) (upd H p o)/\Ext ι h H (eI ι h.length p) (h++[u]) (upd H p o):=by
 have hl:(h++[u]).length=h.length+1:=by simp
 have cases2:∀{i:Nat}{v:Tw.O},(h++[u])[i]?=some v->(i<h.length/\h[i]?=some v)\/(i=h.length/\v=u):=fun {i v} e=>by
  have hi:=jL e;by_cases z:i<h.length
  .rw[g9 z] at e;exact .inl ⟨z,e⟩
  .have z':i=h.length:=by omega
   subst z';simp at e;exact .inr ⟨rfl,e.symm⟩
 have e:Ext ι h H (eI ι h.length p) (h++[u]) (upd H p o):=by
  refine⟨by omega,fun i hi=>cV hi,fun b v q _=>kB hp b v q,fun i h1 h2=>?_,pM,fun i v w e f=>?_⟩
  .have:i=h.length:=by omega
   subst this;rw[cG];exact hp
  .rcases cases2 f with ⟨_,f⟩|⟨f,_⟩
   .rw[e] at f;cases f;rfl
   .have:=jL e;omega
 refine⟨⟨fun i v q=>?_,fun i j v w q1 q2 m1 m2 z=>?_,fun e z=>let ⟨C,dx,q⟩:=r.hx e z;⟨C,dx,kB hp _ _ q⟩⟩,e⟩
 .rcases cases2 q with ⟨hi,q⟩|⟨rfl,rfl⟩
  .rw[cV hi];exact (r.obj i v q).keep (e.keeps r) fun b x _ z=>kB hp b x z
  .rw[cG];exact ro _ _ _ (e.keeps r) (fun b v q=>kB hp b v q) aB
 .rcases cases2 q1 with ⟨hi,p1⟩|⟨ei,ev⟩<;>rcases cases2 q2 with ⟨hj,p2⟩|⟨ej,ew⟩
  .rw[cV hi,cV hj] at z;exact r.inj i j v w p1 p2 m1 m2 z
  .rw[cV hi,ej,cG] at z;obtain⟨x,q,_,_⟩:=r.there p1 m1;rw[z,hp] at q;cases q
  .rw[ei,cG,cV hj] at z;obtain⟨x,q,_,_⟩:=r.there p2 m2;rw[<-z,hp] at q;cases q
  .rw[ei,ej]
theorem HR.new{p:Addr}{o:HO}{u:Tw.O}(r:HR K ι h H)(hp:H p=none)(m:eR u=true)(ro:∀ι' n' H',Keeps ι h.length H ι' n' H'->H' p=some o->RO K ι' n' H' p u):
  HR K (eI ι h.length p) (h++[u]) (upd H p o)/\Ext ι h H (eI ι h.length p) (h++[u]) (upd H p o):=r.DF hp fun ι' n' H' k _ e=>ro ι' n' H' k e
theorem HR.put{i:Nat}{o:HO}{v u:Tw.O}(r:HR K ι h H)(ei:h[i]?=some v)(mv:eR v=true)(m:eR u=true)(no:∀xs,o≠.tup xs)
  (ro:∀H',Keeps ι h.length H ι h.length H'->H' (ι i)=some o->RO K ι h.length H' (ι i) u):
  HR K ι (h.set i u) (upd H (ι i) o)/\Ext ι h H ι (h.set i u) (upd H (ι i) o):=by
 have hl:(h.set i u).length=h.length:=by simp
 obtain⟨x0,q0,n0,f0,d0,e0⟩:=r.there ei mv;have kp:Keeps ι h.length H ι h.length (upd H (ι i) o):=⟨aA _,fun _ _=>rfl,fun a xs e=>by
  rw[aq (fun z=>by rw[z,q0] at e;cases e;exact n0 _ rfl)];exact e⟩
 have look:∀{j:Nat}{w:Tw.O},(h.set i u)[j]?=some w->(j=i/\w=u)\/(j≠i/\h[j]?=some w):=fun {j w} e=>by
  by_cases z:j=i
  .subst z;rw[iu (jL ei)] at e;cases e;exact .inl ⟨rfl,rfl⟩
  .rw[iy (aX z)] at e;exact .inr ⟨z,e⟩
 have e:Ext ι h H ι (h.set i u) (upd H (ι i) o):=by
  refine⟨by omega,fun _ _=>rfl,fun b w q n=>?_,fun j a b=>absurd b (by rw[hl];exact kG.mpr a),pM,fun j w w' e f=>?_⟩
  .rw[aq (fun z=>n i v ei mv z.symm)];exact q
  .rcases look f with ⟨rfl,rfl⟩|⟨_,f⟩
   .rw[ei] at e;cases e;rw[m,mv]
   .rw[e] at f;cases f;rfl
 refine⟨⟨fun j w q=>?_,fun j k w w' q1 q2 m1 m2 z=>?_,fun e z=>let ⟨C,dx,q⟩:=r.hx e z;⟨C,dx,by rw[aq (fun z=>by rw[z,q0] at q;cases q;exact e0 _ rfl)];exact q⟩⟩,e⟩
 .rw[hl];rcases look q with ⟨rfl,rfl⟩|⟨nj,q⟩
  .exact ro _ kp aB
  .by_cases Z:ι j=ι i
   .by_cases mw:eR w=true
    .exact absurd (r.inj j i w v q ei mw mv Z) nj
    .cases w with
     |bI ws=>
      obtain⟨xs,sq,rr⟩:=r.obj j _ q;rcases sq with ⟨o',sq⟩|sq
      .rw[Z,q0] at sq;cases sq;exact absurd rfl (f0 _ _)
      .exact⟨xs,.inr sq,rr.keep kp⟩
     |ax c fs=>
      obtain⟨C,dx,gs,_,z,_⟩:=r.obj j _ q;rw[Z,q0] at z;cases z;exact absurd rfl (e0 _)
     |_=>exact absurd rfl mw
   .exact (r.obj j w q).keep kp fun b y hb z=>by
     rw[aq]
     .exact z
     .rcases hb with rfl|⟨gs,rfl⟩
      .exact Z
      .intro y;rw[y,q0] at z;cases z;exact d0 _ rfl
 .have back:∀{j:Nat}{w:Tw.O},(h.set i u)[j]?=some w->eR w=true->∃w',h[j]?=some w'/\eR w'=true:=fun {j w} q mw=>by
   rcases look q with ⟨rfl,rfl⟩|⟨_,q⟩
   .exact⟨v,ei,mv⟩
   .exact⟨w,q,mw⟩
  obtain⟨a,qa,ma⟩:=back q1 m1;obtain⟨b,qb,mb⟩:=back q2 m2;exact r.inj j k a b qa qb ma mb z
end
end TwS
namespace TwS
open PySem L2 PyProof.Rows
theorem BJ(o:Obj)(f:Array Value->Array Value):(o.mapFields f).dict=o.dict:=by obtain⟨c,d,dt,sl⟩:=o;cases dt<;>rfl
structure Kc(fs:List Addr)(e T:Addr)(h h':Heap):Prop where
 keep:∀b o,h.get? b=some o->b≠e->b≠T->b∉fs->h'.get? b=some o
 slot:∀b o,h.get? b=some o->b≠e->b≠T->∃sl,h'.get? b=some {o with slots:=sl}
 err:∀o vs,h.get? e=some o->o.data=.fields vs->∃o' ws,h'.get? e=some o'/\o'.cls=o.cls/\o'.dict=o.dict/\o'.data=.fields ws/\ws[2]?=vs[2]?
def Tb(h0 h:Heap)(H:L2.Hp)(e:Addr)(fl:Value):Prop:=
 ∃oe vs T oT ts,h.get? e=some oe/\oe.data=.fields vs/\vs[1]?=some (.ref T)/\T≠e/\h0.get? T=none/\H T=none/\h.get? T=some oT/\oT.data=.fields ts/\ts[3]?=some fl
structure Fly0(P:Program)(w:World)(fs:List Addr)(H:L2.Hp)(s:Shared)(e C:Addr)(dx:Option Addr)(H':L2.Hp)(s':Shared):Prop where
 os:s'.os=s.os
 bare:AllBare s'.gens
 un:Un fs [] H H' s.heap s'.heap
 ao:cR P w H' s'.heap
 tr:H' e=some (gK C dx e)
 new:s.heap.get? e=none
structure gB(P:Program)(w:World)(fs:List Addr)(H:L2.Hp)(s:Shared)(e C:Addr)(dx:Option Addr)(fl:Value)(H':L2.Hp)(s':Shared):Prop extends Fly0 P w fs H s e C dx H' s' where
 tb:Tb s.heap s'.heap H' e fl
section
variable {P:Program}{w:World}{fs:List Addr}{H H':L2.Hp}{s s':Shared}{e C T:Addr}{dx:Option Addr}{h2:Heap}
theorem Fly0.chg(F:Fly0 P w fs H s e C dx H' s')(hf:∀b∈fs,H' b=none)(hT:s.heap.get? T=none)(hT':H' T=none)(c:Kc fs e T s'.heap h2):Fly0 P w fs H s e C dx H' {s' with heap:=h2}:=by
 have ne:∀b o,s.heap.get? b=some o->b≠e/\b≠T:=fun b o q=>⟨(fun z=>by rw[z,F.new] at q;cases q),(fun z=>by rw[z,hT] at q;cases q)⟩;have nt:∀b o,H' b=some o->b≠T/\b∉fs:=fun b o q=>⟨(fun z=>by rw[z,hT'] at q;cases q),(fun z=>by rw[hf b z] at q;cases q)⟩;refine⟨F.os,F.bare,⟨fun b o q n hb hx=>?_,fun b o q n hb hx=>?_,F.un.free,fun b o q hx=>?_,F.un.fO,F.un.ft,F.un.fR⟩,fun a o q=>?_,F.tr,F.new⟩
 .exact c.keep b o (F.un.keep b o q n hb hx) (ne b o q).1 (ne b o q).2 hb
 .obtain⟨sl,q1⟩:=F.un.slot b o q n hb hx;obtain⟨sl',q2⟩:=c.slot b _ q1 (ne b o q).1 (ne b o q).2;exact⟨sl',q2⟩
 .obtain⟨o1,q1⟩:=F.un.there b o q hx;obtain⟨sl',q2⟩:=c.slot b _ q1 (ne b o q).1 (ne b o q).2;exact⟨_,q2⟩
 .by_cases z:a=e
  .subst z;have q':=q;rw[F.tr] at q';cases q';obtain⟨⟨o1,vs,q1,q2,q3,q4,q5⟩,_,st⟩:=F.ao a _ q;obtain⟨o2,ws,r1,r2,r3,r4,r5⟩:=c.err o1 vs q1 q4;exact⟨⟨o2,ws,r1,r2.trans q2,r3.trans q3,r4,r5.trans q5⟩,⟨o2,r1⟩,st⟩
  .refine (F.ao a o q).fq (fun b u hb r=>?_) (fun _ q=>q) fun _ _ q=>q;rcases hb with rfl|hb
   .exact c.keep b u r z (nt b o q).1 (nt b o q).2
   .refine c.keep b u r (fun y=>?_) (nt b _ hb).1 (nt b _ hb).2;rw[y,F.tr] at hb;cases hb
theorem Fly0.back(F:Fly0 P w fs H s e C dx H' s')(hT:s'.heap.objs.size<=T):s.heap.get? T=none/\H' T=none:=by
 refine⟨?_,F.ao.fresh hT⟩;cases q:s.heap.get? T with
 |none=>rfl
 |some o=>
  obtain⟨o',q'⟩:=F.un.there T o q (by simp);exact absurd (aY q') (kG.mpr hT)
end
section
variable {M:Model}{A:Around}{E:aH}{s:Shared}{base:Heap}{env:Env}{outer:List Env}{L e:Addr}
theorem wZ{oe:Obj}{vs:Array Value}{head:Value}{hn:Bool}{Q:Unit->Shared->Prop}(hfr:A.frames=some (env::outer))(hl:s.heap.FunFrames base (env::outer))(hf:env.frame=some L)
  (he:s.heap.get? e=some oe) (hd:oe.data=.fields vs) (hsz:1<vs.size)
  (k:∀h' T oe' ws oT ts,s.heap.objs.size<=T->Kc (bF (env::outer)) e T s.heap h'->h'.get? e=some oe'->oe'.data=.fields ws->ws[1]?=some (.ref T)->T≠e->h'.get? T=some oT->oT.data=.fields ts->ts[3]?=some (rawInt L)->Q () {s with heap:=h'}):
  wpAny M A (do let a <-frameOf env;let pl <-entryPlaceOf L hn;let b <-EntryCells.newEntry head a .none (rawInt L) .none pl;setField (.ref e) 1 b) Q E s:=by
 have ne:e∉bF (env::outer):=fun m=>by
  obtain⟨_,o,ho,nf⟩:=hl.mem m;rw[he] at ho;cases ho;exact nf vs hd
 refine af (wpAny_frameOf_fun hfr hl hf fun h1 s1=>?_);have fin:∀(O:Obj)(ts:Array Value),O.data=.fields ts->ts[3]?=some (rawInt L)->wpAny M A (setField (.ref e) 1 (.ref h1.objs.size)) Q E {s with heap:=h1.push O}:=fun O ts hO h3=>by
  have he1:h1.get? e=some oe:=(s1.2.1 e ne).trans he;have he2:=bj (h:=h1) O he1;have nT:h1.objs.size≠e:=nV (aY he1);refine pe (s:={s with heap:=h1.push O}) he2 hd hsz ?_;have hd3:=sH hd (·.setIfInBounds 1 (Value.ref h1.objs.size));have he3:=lF (Obj.mapFields (·.setIfInBounds 1 (Value.ref h1.objs.size))) he2 (vc hd3);have hT3:=(gG (h1.push O) (Obj.mapFields (·.setIfInBounds 1 (Value.ref h1.objs.size))) (aX nT)).trans (cY h1 (vc hO));refine k _ h1.objs.size _ _ O ts (Nat.le_of_eq s1.1.symm) ⟨fun b o q n1 n2 n3=>?_,fun b o q n1 n2=>?_,fun o ws q qd=>?_⟩ he3 hd3 (by simp[hsz]) nT hT3 hO h3
  .rw[gG _ _ (aX n1)];exact bj _ ((s1.2.1 b n3).trans q)
  .obtain⟨sl,q1⟩:=s1.2.2 b o q;refine⟨sl,?_⟩;rw[gG _ _ (aX n1)];exact bj _ q1
  .rw[he] at q;cases q;rw[hd] at qd;cases qd;exact⟨_,_,he3,Obj.cls_mapFields _ _,BJ _ _,hd3,by simp⟩
 refine af (wpAny_entryPlaceOf fun pl hpl=>?_);unfold EntryCells.newEntry;unfold newFields;refine af (ij (s:={s with heap:=h1}) ?_ (hpl.sizeOk5 _ _ _ _ _));exact fin _ _ rfl (by first|(simp;done)|(rcases hpl with rfl|⟨_,_,_,_,_,_,_,rfl⟩<;>simp))
variable {P:Program}{w:World}{H H':L2.Hp}{s':Shared}{C:Addr}{dx:Option Addr}
theorem Fly0.note{oe:Obj}{vs:Array Value}{Q:Unit->Shared->Prop}(F:Fly0 P w (bF (env::outer)) H s e C dx H' s')(hfr:A.frames=some (env::outer))(hl:s'.heap.FunFrames base (env::outer))(hf:env.frame=some L)(hfree:∀b∈bF (env::outer),H' b=none)
  (he:s'.heap.get? e=some oe) (hd:oe.data=.fields vs) (h1:vs[1]?=some .none)
  (k:∀s2,gB P w (bF (env::outer)) H s e C dx (rawInt L) H' s2->Q () s2):wpAny M A (noteFrame (.ref e) env) Q E s':=by
 unfold noteFrame;simp only[hf];refine af (fD he hd h1 ?_);rw[if_neg (by decide)];refine wZ hfr hl hf he hd (uM.mp h1).1 fun h' T oe' ws oT ts hT c q1 q2 q3 q4 q5 q6 q7=>?_;obtain⟨b1,b2⟩:=F.back hT;exact k _ ⟨F.chg hfree b1 b2 c,oe',ws,T,oT,ts,q1,q2,q3,q4,b1,b2,q5,q6,q7⟩
theorem gB.note{Q:Unit->Shared->Prop}(F:gB P w (bF (env::outer)) H s e C dx .none H' s')(hfr:A.frames=some (env::outer))(hl:s'.heap.FunFrames base (env::outer))(hf:env.frame=some L)(hfree:∀b∈bF (env::outer),H' b=none)
  (k:∀s2,gB P w (bF (env::outer)) H s e C dx (rawInt L) H' s2->Q () s2):wpAny M A (noteFrame (.ref e) env) Q E s':=by
 obtain⟨oe,vs,T,oT,ts,he,hd,h1,nT,n0,nH,hT,hdT,h3⟩:=F.tb;unfold noteFrame;simp only[hf];refine af (fD he hd h1 ?_);rw[if_pos (show (Value.ref T != Value.none)=true from by simp)];refine af (fD hT hdT h3 ?_);rw[if_neg (show ¬ ((Value.none== rawInt L)=true) from by simp[rawInt])];refine af (pe hT hdT (uM.mp h3).1 ?_);have oth:∀b,b≠T->(s'.heap.update T (Obj.mapFields (·.setIfInBounds 3 Value.none))).get? b=s'.heap.get? b:=fun b hb=>gG _ _ (aX hb);have c1:Kc (bF (env::outer)) e T s'.heap (s'.heap.update T (Obj.mapFields (·.setIfInBounds 3 Value.none))):=
  ⟨fun b o q _ n2 _=>(oth b n2).trans q,fun b o q _ n2=>⟨o.slots,(oth b n2).trans q⟩,fun o ws q qd=>⟨o,ws,(oth e (aX nT)).trans q,rfl,rfl,qd,rfl⟩⟩
 have F1:=F.toFly0.chg hfree n0 nH c1;have hl1:(s'.heap.update T (Obj.mapFields (·.setIfInBounds 3 Value.none))).FunFrames base (env::outer):=hl.of_keeps fun b o hb nf=>⟨o,(oth b fun z=>by
  subst z;rw[hT] at hb;cases hb;exact nf ts hdT).trans hb,rfl⟩
 refine wZ (s:={s' with heap:=s'.heap.update T (Obj.mapFields (·.setIfInBounds 3 Value.none))}) hfr hl1 hf ((oth e (aX nT)).trans he) hd (uM.mp h1).1 fun h' T' oe' ws oT' ts' hT' c q1 q2 q3 q4 q5 q6 q7=>?_;obtain⟨b1,b2⟩:=F1.back hT';exact k _ ⟨F1.chg hfree b1 b2 c,oe',ws,T',oT',ts',q1,q2,q3,q4,b1,b2,q5,q6,q7⟩
theorem gB.land{fs:List Addr}{fl:Value}{Q:Unit->Shared->Prop}(F:gB P w fs H s e C dx fl H' s')(hfree:∀b∈fs,H' b=none)(k:∀s2,gB P w fs H s e C dx .none H' s2->Q () s2):
  wpAny M A (setFlight (.ref e) none) Q E s':=by
 obtain⟨oe,vs,T,oT,ts,he,hd,h1,nT,n0,nH,hT,hdT,h3⟩:=F.tb;have z3:3<ts.size:=(uM.mp h3).1;unfold setFlight;refine af (fD he hd h1 ?_);rw[if_pos (show (Value.ref T != Value.none)=true from by simp)];refine pe hT hdT z3 ?_;have oth:∀b,b≠T->(s'.heap.update T (Obj.mapFields (·.setIfInBounds 3 ((none:Option Addr).elim Value.none fun f=>rawInt f)))).get? b=s'.heap.get? b:=fun b hb=>gG _ _ (aX hb);refine k _ ⟨F.toFly0.chg hfree n0 nH ⟨fun b o q _ n2 _=>(oth b n2).trans q,fun b o q _ n2=>⟨o.slots,(oth b n2).trans q⟩,fun o ws q qd=>⟨o,ws,(oth e (aX nT)).trans q,rfl,rfl,qd,rfl⟩⟩,?_⟩;exact⟨oe,vs,T,_,_,(oth e (aX nT)).trans he,hd,h1,nT,n0,nH,lF _ hT (vc (sH hdT _)),sH hdT _,by simp[z3]⟩
theorem gB.leave{Q:Unit->Shared->Prop}(F:gB P w (bF (env::outer)) H s e C dx .none H' s')(hfr:A.frames=some (env::outer))(hl:s'.heap.FunFrames base (env::outer))(hf:env.frame=some L)(hfree:∀b∈bF (env::outer),H' b=none)
  (k:∀s2,gB P w (bF (env::outer)) H s e C dx .none H' s2->Q () s2):wpAny M A (leaving env (.ref e)) Q E s':=by
 unfold leaving;exact af (F.note hfr hl hf hfree fun s2 F2=>F2.land hfree k)
theorem Fly0.leave{oe:Obj}{vs:Array Value}{Q:Unit->Shared->Prop}(F:Fly0 P w (bF (env::outer)) H s e C dx H' s')(hfr:A.frames=some (env::outer))(hl:s'.heap.FunFrames base (env::outer))(hf:env.frame=some L)(hfree:∀b∈bF (env::outer),H' b=none)
  (he:s'.heap.get? e=some oe) (hd:oe.data=.fields vs) (h1:vs[1]?=some .none)
  (k:∀s2,gB P w (bF (env::outer)) H s e C dx .none H' s2->Q () s2):wpAny M A (leaving env (.ref e)) Q E s':=by
 unfold leaving;exact af (F.note hfr hl hf hfree he hd h1 fun s2 F2=>F2.land hfree k)
end
noncomputable def cO(P:Program)(w:World):eL:=fun l H s E e s'=>∃ea C dx H',e=.ref ea/\gB P w (bF l) H s ea C dx .none H' s'/\E e none H'
theorem cO.never{P:Program}{w:World}:∀outer H s e s',¬ cO P w outer H s E0 e s':=fun _ _ _ _ _ ⟨_,_,_,_,_,_,z⟩=>z
abbrev nB(X:Cx)(E:XK):aH:=fun e s'=>wpAny (model X.prog X.w) X.A (leaving X.env e) (fun _ s2=>cO X.prog X.w X.outer X.lJ X.aQ E e s2) (fun e' s2=>cO X.prog X.w X.outer X.lJ X.aQ E e' s2) s'
section
variable {X:Cx}{pins:aJ}{σ:L2.St}{H H':L2.Hp}{s s':Shared}{E:XK}{e C:Addr}{dx:Option Addr}{fl:Value}
theorem gB.up(I:Inv X pins σ H s)(hx:X.ex=[])(hs:X.stack=X.env::X.outer)(hfm:X.env.frame=some X.env.locals)(F:gB X.prog X.w (bF X.stack) H s e C dx fl H' s'):
  gB X.prog X.w (bF X.outer) X.lJ X.aQ e C dx fl H' s':=by
 have back:∀T,s.heap.get? T=none->X.aQ.heap.get? T=none:=fun T q=>by
  cases z:X.aQ.heap.get? T with
  |none=>rfl
  |some o=>
   obtain⟨o',z'⟩:=I.base.there T o z (by rw[hx];simp);rw[q] at z';cases z'
 have b0:Un (bF X.outer) [] X.lJ H X.aQ.heap s.heap:=hx▸I.base;have sub:∀b,b∈bF X.outer->b∈bF X.stack:=fun b hb=>by
  rw[hs];show b∈(X.env::X.outer).filterMap (·.frame);rw[Bs,hfm];exact di _ hb
 have nG:=(b0.mono (fs':=bF X.stack) (ex':=[]) sub fun _ z=>z).trans F.un;have ex:∀b o,X.aQ.heap.get? b=some o->b∉bF X.outer->b∉bF X.stack:=fun b o q hb hm=>by
  rcases cX.mp (I.lV b hm) with z|z
  .exact absurd (aY q) (by rw[z];exact kG.mpr I.ok.above)
  .exact hb z
 obtain⟨oe,vs,T,oT,ts,he,hd,h1,nT,n0,r⟩:=F.tb;exact⟨⟨F.os.trans I.os,F.bare,⟨fun b o q n hb hx'=>nG.keep b o q n (ex b o q hb) hx',fun b o q n hb hx'=>nG.slot b o q n (sub b hb) hx',nG.free,nG.there,nG.fO,nG.ft,nG.fR⟩,F.ao,F.tr,back _ F.new⟩,oe,vs,T,oT,ts,he,hd,h1,nT,back _ n0,r⟩
theorem Fly0.inv(I:Inv X pins σ H s)(F:Fly0 X.prog X.w (bF X.stack) H s e C dx H' s'):Inv X pins σ H' s':=I.FJ F.os F.un F.ao F.bare (fun b z=>absurd z (by simp))
theorem Gs(hx:X.ex=[])(hs:X.stack=X.env::X.outer)(hfm:X.env.frame=some X.env.locals)(hxe:X.xe=nB X E):Passes (cO X.prog X.w) X E:=fun pins σ H s e s' I ⟨ea,C,dx,H',ee,F,q⟩=>by
 subst ee;rw[hxe];have J:=F.toFly0.inv I;have fr:=J.jW;have st:=J.stack;have fm:=J.ok.frames;rw[hs] at fr st fm F;refine F.leave (base:=X.base) fm st hfm fr fun s2 F2=>?_;rw[<-hs] at F2;exact⟨ea,C,dx,H',rfl,F2.up I hx hs hfm,q⟩
theorem Dd{oe:Obj}{vs:Array Value}(hx:X.ex=[])(hs:X.stack=X.env::X.outer)(hfm:X.env.frame=some X.env.locals)(hxe:X.xe=nB X E)(I:Inv X pins σ H s)(F:Fly0 X.prog X.w (bF X.stack) H s e C dx H' s')
  (he:s'.heap.get? e=some oe) (hd:oe.data=.fields vs) (h1:vs[1]?=some .none) (q:E (.ref e) none H'):X.xe (.ref e) s':=by
 rw[hxe];have J:=F.inv I;have fr:=J.jW;have st:=J.stack;have fm:=J.ok.frames;rw[hs] at fr st fm F;refine F.leave (base:=X.base) fm st hfm fr he hd h1 fun s2 F2=>?_;rw[<-hs] at F2;exact⟨e,C,dx,H',rfl,F2.up I hx hs hfm,q⟩
end
end TwS
namespace TwS
open PySem L2 PyProof.Rows Builtin Builtin.ObjectAttr
noncomputable def nQ:List Value:=[.type "ValueError",.type "Exception",.type "BaseException",.type "object"]
structure XC(K:W.Frag)(C:Addr):Prop where
 mro:∃(cd:ClassData) (os:List Addr),W.clsIn K C=some cd/\cd.mro=.ref C::(os.map Value.ref++nQ)/\cd.hasDict=true
 sa:W.findIn K (.ref C) "__setattr__" = some (some (.builtin "object.__setattr__"))
 ga:W.findIn K (.ref C) "__getattribute__" = some (some (.builtin "BaseException.__getattribute__"))
 gh:W.findIn K (.ref C) "__getattr__" = some none
theorem pV(self:Value):∀os:List Addr,refuseLoop self "__setattr__" (os.map Value.ref++nQ)=pure ()
 |[]=>PySem.F.store_ValueError.passes self
 |a::r=>by rw[aR,jB,refuseLoop_ref];exact pV self r
theorem IA(os:List Addr)(v:Value)(h:nQ.contains v=true):(os.map Value.ref++nQ).contains v=true:=by rw[List.contains_append,h,Bool.or_true]
theorem XC.sub{K:W.Frag}{C:Addr}(c:XC K C){v:Value}(h:nQ.contains v=true):W.mroIn K C v=some true:=by obtain⟨cd,os,e1,e2,_⟩:=c.mro;unfold W.mroIn;rw[e1,u5,e2];show some ((Value.ref C::(os.map Value.ref++nQ)).contains v)=_;rw[List.contains_cons,IA os v h,Bool.or_true]
section
variable {prog:Program}{w:World}{A:Around}{E:aH}{s:Shared}{K:W.Frag}{x C:Addr}{ox:Obj}{name:Str}{v:Value}
theorem QN{od:Option Obj}{tk:Tok}{R:Result->Shared->Prop}(X:K.In s.heap)(I:W.InstAt s.heap x ox C od)(c:XC K C)(n:bo K C name)
  (h:∀b,wpAny (model prog w) A.in1 (storeInOwnDict (.ref x) (.ref C) (.str name tk) name v b) (fun fin s'=>match fin with | .done f=>R (.ok f) s' | .again c'=>c'.quiet=true/\codeAny (model prog w) A c' R s') (fun e s'=>R (.error e) s') s):
  codeAny (model prog w) A (.call (.builtin "object.__setattr__") ⟨[.ref x,.str name tk,v],[]⟩) R s:=by
 have F:=PySem.F.store_object;obtain⟨cd,os,e1,e2,_⟩:=c.mro;have sub:W.Looks (model prog w) s.heap (isInstance (.ref x) (.type "object")) true:=I.type.andThen (W.looks_mroIn X (c.sub (by decide)));refine AV F.slot.plain F.entry (@W.check_slot (model prog w) _ _ s "object.__setattr__" "object" "__setattr__" (.ref x) [.str name tk,v] [] _ F.kind F.split sub (F.args (.ref x) (.str name tk) v) ?_);have hm:W.Looks (model prog w) s.heap (mroOf (.ref C)) cd.mro:=(u6 X e1).andThen .now;rw[W.osa_eq,refuse_eq];refine af (af (I.type.here (af (hm.here ?_))));rw[e2,refuseLoop_ref,pV];refine aj (af (I.type.here (af ((pz X n).here (af (aj ?_))))));exact h _
theorem Gk{Q:Unit->Shared->Prop}(X:K.In s.heap)(I:W.InstAt s.heap x ox C od)(c:XC K C)(n:bo K C name)
  (h:∀b,wpAny (model prog w) A.in1 (storeInOwnDict (.ref x) (.ref C) (.str name s.toks) name v b) (fun fin s'=>match fin with | .done (.ret _)=>Q () s'|_=>False) (fun e s'=>E e s') {s with toks:=s.toks+1}):
  wpAny (model prog w) A (setAttr (.ref x) name v) Q E s:=by
 refine W.set_plain X I c.sa (QN (s:={s with toks:=s.toks+1}) X I c n fun b=>eX (h b) (fun fin s' z=>?_) fun _ _ z=>z);rcases fin with (_|_|_|_)|_<;>first|exact z|exact z.elim
theorem Mh{Q:Unit->Shared->Prop}(X:K.In s.heap)(hx:s.heap.get? x=some ox)(hc:ox.cls=.ref C)(hd:ox.dict=none)(hf:ox.data=.fields vs)(c:XC K C)(n:bo K C name)
  (h:∀h' t',h'.Ns1 s.heap.objs.size (fun y=>if y=name then some v else none)->h'.get? x=some {ox with dict:=some s.heap.objs.size}->(∀b o,b≠x->s.heap.get? b=some o->h'.get? b=some o)->Q () {s with heap:=h',toks:=t'}):
  wpAny (model prog w) A (setAttr (.ref x) name v) Q E s:=by
 obtain⟨cd,os,e1,e2,e3⟩:=c.mro;have I:W.InstAt s.heap x ox C none:=⟨hx,hc,by unfold W.notCls;rw[hf],by rw[hd];trivial⟩;refine Gk X I c n fun b=>?_;obtain⟨oc,od,oda,osl⟩:=ox;simp only at hc hd hf;subst hc hd hf;unfold storeInOwnDict ownDictForStores instanceDict;refine af (aj (af (af (wpAny_loadPart (s:={s with toks:=s.toks+1}) hx (af (Bq (s:={s with toks:=s.toks+1}) (u6 X e1) ?_))))));rw[e3];have hx1:(s.heap.push {cls:=.type "dict",data:=.dict #[]}).get? x=some ⟨.ref C,none,.fields vs,osl⟩:=bj _ hx;have ne:x≠s.heap.objs.size:=bT (aY hx);refine af (wpAny_alloc (af (wpAny_update hx1 ?_)));refine aj (a:=some s.heap.objs.size) ?_;have gd:((s.heap.push {cls:=.type "dict",data:=.dict #[]}).update x fun o=>{o with dict:=some s.heap.objs.size}).get? s.heap.objs.size=some {cls:=.type "dict",data:=.dict #[]}:=
  (gG _ _ ne).trans (Heap.get?_push_at rfl rfl)
 have gx:((s.heap.push {cls:=.type "dict",data:=.dict #[]}).update x fun o=>{o with dict:=some s.heap.objs.size}).get? x=some ⟨.ref C,some s.heap.objs.size,.fields vs,osl⟩:=lF _ hx1 rfl;have nd:((s.heap.push {cls:=.type "dict",data:=.dict #[]}).update x fun o=>{o with dict:=some s.heap.objs.size}).Ns s.heap.objs.size (fun _=>none):=⟨_,#[],_,gd,rfl,fun e he=>absurd he (by simp),fun _=>rfl⟩;show wpAny _ _ (storeInDict s.heap.objs.size (.str name s.toks) name v) _ _ _;unfold storeInDict newKeyGuard;refine af (aj (af (wpAny_nsSet1 (Heap.Ns1.of_empty nd) fun h' hn' hs=>?_)));obtain⟨oD,esD,epD,hoD,hdD,hcD⟩:=hn'.count (Within.cons name v Within.nil);refine af (zK hoD (by rw[hdD];exact AM (cL hcD (by rw[cQ,ka,eO];omega))) ?_);refine aj (h h' _ hn' ((hs.2 x ne).trans gx) fun b o nb q=>?_);exact (hs.2 b (bT (aY q))).trans ((gG _ _ (aX nb)).trans (bj _ q))
theorem Kz{mA:Str->Option Value}{Q:Unit->Shared->Prop}(X:K.In s.heap)(hx:s.heap.get? x=some ox)(hc:ox.cls=.ref C)(hd:ox.dict=some dx)(hf:ox.data=.fields vs)(hn:s.heap.Ns1 dx mA)(c:XC K C)(n:bo K C name)
  (hw:PySem.Within mA ns) (hsz:ns.length<=1000)
  (h:∀h' t',h'.Ns1 dx (fun y=>if y=name then some v else mA y)->(∀b,b≠dx->h'.get? b=s.heap.get? b)->Q () {s with heap:=h',toks:=t'}):
  wpAny (model prog w) A (setAttr (.ref x) name v) Q E s:=by
 obtain⟨cd,os,e1,e2,e3⟩:=c.mro;obtain⟨od,es,ep,ho,r⟩:=id hn;have I:W.InstAt s.heap x ox C (some od):=⟨hx,hc,by unfold W.notCls;rw[hf],by rw[hd];exact ho⟩;refine Gk X I c n fun b=>?_;obtain⟨oc,odi,oda,osl⟩:=ox;simp only at hc hd hf;subst hc hd hf;unfold storeInOwnDict ownDictForStores instanceDict;refine af (aj (af (af (wpAny_loadPart (s:={s with toks:=s.toks+1}) hx (af (Bq (s:={s with toks:=s.toks+1}) (u6 X e1) ?_))))));rw[e3];refine aj (a:=some dx) ?_;show wpAny _ _ (storeInDict dx (.str name s.toks) name v) _ _ _;unfold storeInDict newKeyGuard;refine af (aj (af (wpAny_nsSet1 (s:={s with toks:=s.toks+1}) hn fun h' hn' hs=>?_)));obtain⟨oD,esD,epD,hoD,hdD,hcD⟩:=hn'.count (Within.cons name v hw);refine af (zK hoD (by rw[hdD];exact AM (cL hcD (by rw[cQ,eO];omega))) ?_);exact aj (h h' _ hn' hs.2)
theorem MV{od:Obj}{Q:aH}(X:K.In s.heap)(I:W.InstAt s.heap x ox C (some od))(c:XC K C)(n:bo K C name)(hl:W.lookIn name od=some (some v))(hv:W.handedIn v=true)
  (h:Q v {s with toks:=s.toks+1}):wpAny (model prog w) A (getAttr (.ref x) name true) Q E s:=by
 obtain⟨cd,os,e1,e2,e3⟩:=c.mro;obtain⟨hh,g,d,t,ost⟩:=s;have L0:=I.type (M:=model prog w);have L1:=pz (M:=model prog w) X c.ga;have L2:=pz (M:=model prog w) X c.gh;have hf:W.findObj K C (some od) name=some (.value v):=W.findObj_own (by unfold W.hasDictIn;rw[e1];exact e3) n rfl hl;have L3:=W.looks_find (M:=model prog w) X I hf;have LB:W.Looks (model prog w) hh (isInstance (.ref x) (.type "BaseException")) true:=L0.andThen (W.looks_mroIn X (c.sub (by decide)));have G:=PySem.F.excAttr_ValueError.ga;unfold getAttr getAttrBy;refine af (wpAny_mkText (fF (af (L0.at (af (L1.at ?_))))));show wpAny _ _ (getAttrByItsOwn _ _ _ _ _ _) _ _ _;unfold getAttrByItsOwn;refine af (L2.at (af (wpAny_attempt (fF ?_))));show wpAny _ _ (boundAndCalled _ _ _) _ _ _;unfold boundAndCalled;rw[G.bind];refine af (aj (k8 (AV G.plain PySem.F.entry_bexc_ga (@W.check_slot (model prog w) _ _ _ "BaseException.__getattribute__" "BaseException" "__getattribute__" (.ref x) [.str name t] [] _ (by decide+kernel) (by decide+kernel) LB (PySem.F.args_bexc_ga _ _) ?_))));refine af (aj (af (aj (af (L0.at (af (L3.at ?_)))))));refine aj ?_;show wpAny _ _ (handedOut v) _ _ _;rw[W.handedOut_of hv];exact aj h
end
end TwS
namespace TwS
open PySem L2 PyProof.Rows
noncomputable def gy(C:Addr)(d:Option Addr)(e:Addr):HO:=.ext fun h=>∃o vs,h.get? e=some o/\o.cls=.ref C/\o.dict=d/\o.data=.fields vs/\vs[1]?=some .none/\vs[2]?=some .none
theorem gy.ok{P:Program}{w:World}{H:L2.Hp}{h:Heap}{C e:Addr}{d:Option Addr}{o:Obj}{vs:Array Value}(e1:h.get? e=some o)(e2:o.cls=.ref C)(e3:o.dict=d)(e4:o.data=.fields vs)(e5:vs[1]?=some .none)(e6:vs[2]?=some .none):bM P w H h e (gy C d e):=
 ⟨⟨o,vs,e1,e2,e3,e4,e5,e6⟩,⟨o,e1⟩,fun h1 h2 ⟨o,vs,a,b⟩ k=>⟨o,vs,k o a,b⟩⟩
theorem Cu{H:L2.Hp}{dx e:Addr}{a b x:HO}(n:dx≠e):upd (upd (upd H dx a) e x) dx b=upd (upd H dx b) e x:=by
 funext c;unfold upd;by_cases h1:c=dx
 .subst h1;simp[n]
 .by_cases h2:c=e
  .subst h2;simp[h1]
  .simp[h1,h2]
theorem D0{H:L2.Hp}{dx e:Addr}{a b x:HO}(n:dx≠e):upd (upd (upd H e a) dx b) e x=upd (upd H dx b) e x:=by
 funext c;unfold upd;by_cases h1:c=e
 .subst h1;simp
 .simp[h1]
section
variable {X:Cx}{pins:aJ}{σ:L2.St}{H H':L2.Hp}{s s':Shared}{x dx C:Addr}{A:Around}{E:aH}
theorem Inv.Jh(I:Inv X pins σ H s)(os:s'.os=s.os)(ba:AllBare s'.gens)(hx:∃φ,H x=some (.ext φ))(hd:(H dx=none/\s.heap.objs.size<=dx)\/∃gs,H dx=some (.xd gs))(sm:∀b,b≠x->b≠dx->H' b=H b)
  (kp:∀b o,b≠x->b≠dx->s.heap.get? b=some o->s'.heap.get? b=some o) (tx:∃o,s'.heap.get? x=some o) (td:∃o,s'.heap.get? dx=some o)
  (ox:∀u,H' x=some u->bM X.prog X.w H' s'.heap x u) (od:∀u,H' dx=some u->bM X.prog X.w H' s'.heap dx u):Inv X pins σ H' s':=by
 obtain⟨φ,hx⟩:=hx;have nx:∀b u,H b=u->(∀φ,u≠some (.ext φ))->b≠x:=fun b u q n z=>n φ (by rw[<-q,z];exact hx);have nd:∀b o,s.heap.get? b=some o->H b=none->b≠dx:=fun b o q n z=>by
  rcases hd with ⟨_,d⟩|⟨gs,d⟩
  .exact absurd (aY q) (by rw[z];exact kG.mpr d)
  .rw[z,d] at n;cases n
 have nd':∀b u,H b=some u->(∀gs,u≠.xd gs)->b≠dx:=fun b u q n z=>by
  rcases hd with ⟨d,_⟩|⟨gs,d⟩
  .rw[z,d] at q;cases q
  .rw[z,d] at q;cases q;exact n _ rfl
 have one:∀b u,H b=some u->(∀φ,u≠.ext φ)->(∀gs,u≠.xd gs)->H' b=some u:=fun b u q n1 n2=>by
  rw[sm b (nx b _ q fun φ z=>n1 φ (eE z)) (nd' b u q n2)];exact q
 refine I.FJ os ⟨fun b o q n _ _=>?_,fun b o q n _ _=>?_,fun b o q n _=>?_,fun b o q _=>?_,fun b xs q=>one b _ q (fun _ z=>nomatch z) (fun _ z=>nomatch z),fun b o u q=>one b _ q (fun _ z=>nomatch z) (fun _ z=>nomatch z),fun b ps q=>⟨#[],?_⟩⟩ (fun a o q=>?_) ba (ch:=[]) (fun b z=>absurd z (by simp))
 .exact kp b o (nx b _ n (fun _ z=>nomatch z)) (nd b o q n) q
 .exact⟨o.slots,kp b o (nx b _ n (fun _ z=>nomatch z)) (nd b o q n) q⟩
 .rw[sm b (nx b _ n (fun _ z=>nomatch z)) (nd b o q n)];exact n
 .by_cases z:b=x
  .subst z;exact tx
  .by_cases z2:b=dx
   .subst z2;exact td
   .exact⟨o,kp b o z z2 q⟩
 .rw[one b _ q (fun _ z=>nomatch z) (fun _ z=>nomatch z)];simp
 .by_cases z:a=x
  .subst z;exact ox o q
  .by_cases z2:a=dx
   .subst z2;exact od o q
   .rw[sm a z z2] at q;refine (I.ao a o q).fq (fun b u hb r=>?_) (fun b hb=>one b _ hb (fun _ z=>nomatch z) (fun _ z=>nomatch z)) fun b xs hb=>one b _ hb (fun _ z=>nomatch z) (fun _ z=>nomatch z);rcases hb with rfl|hb
    .exact kp b u z z2 r
    .exact kp b u (nx b _ hb (fun _ z=>nomatch z)) (nd' b _ hb (fun _ z=>nomatch z)) r
theorem Ei{f g:Str}{y:V}{u:Value}(ry:RelV y u):dY (List.lookup g [(f,y)]) (if g=f then some u else none):=by
 by_cases h:g=f
 .subst h;simp[List.lookup];exact ry
 .have:(g== f)=false:=ik.mpr h;simp[List.lookup,this,h,dY]
theorem En{f:Str}{y:V}{u:Value}{Q:Unit->Shared->Prop}(I:Inv X pins σ H s)(e:H x=some (gy C none x))(c:XC X.K C)(n:bo X.K C f)(ry:RelV y u)
  (h:∀dx s',H dx=none->dx≠x->Inv X pins σ (upd (upd H dx (.xd [(f,y)])) x (gy C (some dx) x)) s'->Q () s'):wpAny (model X.prog X.w) A (setAttr (.ref x) f u) Q E s:=by
 obtain⟨⟨o,vs,e1,e2,e3,e4,e5,e6⟩,_,_⟩:=I.ao x _ e;refine Mh I.cJ e1 e2 e3 e4 c n fun h' t' k1 k2 k3=>?_;have hf:=I.ao.fresh (aA s.heap.objs.size);have ne:s.heap.objs.size≠x:=(bT (aY e1)).symm;refine h s.heap.objs.size _ hf ne (Inv.Jh (x:=x) (dx:=s.heap.objs.size) I rfl I.bare ⟨_,e⟩ (.inl ⟨hf,aA _⟩) (fun b n1 n2=>by rw[aq n1,aq n2]) (fun b o n1 _ q=>k3 b o n1 q) ⟨_,k2⟩ ?_ (fun u' q=>?_) fun u' q=>?_)
 .obtain⟨o,_,_,q,_⟩:=k1;exact⟨o,q⟩
 .rw[aB] at q;cases q;exact gy.ok k2 e2 rfl e4 e5 e6
 .rw[aq ne,aB] at q;cases q;exact⟨_,k1,fun g=>Ei ry⟩
theorem FA{f:Str}{y:V}{u:Value}{gs:List (Str×V)}{Q:Unit->Shared->Prop}(I:Inv X pins σ H s)(e:H x=some (gy C (some dx) x))(ed:H dx=some (.xd gs))(hl:gs.length<=1000)(c:XC X.K C)(n:bo X.K C f)(ry:RelV y u)
  (h:∀s',Inv X pins σ (upd H dx (.xd (dA f y gs))) s'->Q () s'):wpAny (model X.prog X.w) A (setAttr (.ref x) f u) Q E s:=by
 obtain⟨⟨o,vs,e1,e2,e3,e4,e5,e6⟩,_,_⟩:=I.ao x _ e;obtain⟨mA,n1,r1⟩:=I.ao dx _ ed;have ne:dx≠x:=fun z=>by rw[z,e] at ed;cases ed
 refine Kz (ns:=gs.map (·.1)) I.cJ e1 e2 e3 e4 n1 c n (fun g hg=>?_) (by simpa using hl) fun h' t' k1 k2=>?_
 .have:=r1 g;cases q:gs.lookup g with
  |none=>
   rw[q] at this;cases q2:mA g with
   |none=>exact absurd q2 hg
   |some v=>rw[q2] at this;exact this.elim
  |some v=>exact jF.mpr ⟨(g,v),jN q,rfl⟩
 .refine h _ (Inv.Jh (x:=x) (dx:=dx) I rfl I.bare ⟨_,e⟩ (.inr ⟨_,ed⟩) (fun b n1 n2=>by rw[aq n2]) (fun b o _ n2 q=>(k2 b n2).trans q) ⟨_,(k2 x (aX ne)).trans e1⟩ ?_ (fun u' q=>?_) fun u' q=>?_)
  .obtain⟨o,_,_,q,_⟩:=k1;exact⟨o,q⟩
  .rw[aq (aX ne),e] at q;cases q;exact gy.ok ((k2 x (aX ne)).trans e1) e2 e3 e4 e5 e6
  .rw[aB] at q;cases q;refine⟨_,k1,fun g=>?_⟩;rw[lq];by_cases z:g=f
   .rw[if_pos z,if_pos z];exact ry
   .rw[if_neg z,if_neg z];exact r1 g
def tX(K:W.Frag)(j:Nat)(f:Str):TS:=fun D σ H=>∃e v C,σ[0]?=some (some (.ref e))/\σ[j]?=some (some v)/\XC K C/\bo K C f/\
 ((H e=some (gy C none e)/\∀dx,H dx=none->dx≠e->D.nx σ (upd (upd H dx (.xd [(f,v)])) e (gy C (some dx) e)))\/∃dx gs,H e=some (gy C (some dx) e)/\H dx=some (.xd gs)/\gs.length<=1000/\D.nx σ (upd H dx (.xd (dA f v gs))))
theorem Qq{sf f y:Str}{p1 p2 p3 pos:Pos}{j:Nat}(h0:X.N[0]?=some sf)(v0:jH X.env.scope sf)(hj:X.N[j]?=some y)(vj:jH X.env.scope y)(d0:(sf== ("__debug__" : Str))=false)(c0:(sf== ("__classdict__" : Str))=false)(dj:(y== ("__debug__" : Str))=false)(cj:(y== ("__classdict__" : Str))=false):
  PS X (.Assign [.Attribute (.Name sf p1) f p2] (.Name y p3) pos) (tX X.K j f):=by
 intro pins s σ H D I ⟨e,v,C,q0,q1,c,n,h⟩;refine F5 (az (lR hj vj dj cj pins s σ H (fun y' H1=>y'=v/\H1=H) I ⟨v,q1,rfl,rfl⟩) fun u s1 ⟨y',H1,I1,ry,e1,e2⟩=>az (lR h0 v0 d0 c0 pins s1 σ H1 (fun x' H2=>x'=.ref e/\H2=H1) I1 ⟨_,q0,rfl,rfl⟩) fun ov s2 ⟨x',H2,I2,rx,e3,e4⟩=>?_) rfl;subst e1 e2 e3 e4;obtain rfl:ov=Value.ref e:=rx;rcases h with ⟨he,k⟩|⟨dx,gs,he,hd,hl,k⟩
 .exact En I2 he c n ry fun dx s3 z1 z2 I3=>⟨σ,_,I3,k dx z1 z2⟩
 .exact FA I2 he hd hl c n ry fun s3 I3=>⟨σ,_,I3,k⟩
end
end TwS
namespace TwS
open PySem L2
abbrev Rl(α β:Type):=W.Frag->(Nat->Addr)->Nat->L2.Hp->α->β->Prop
def ah(K:Zk){α β:Type}(R:Rl α β)(ι:Nat->Addr)(h:Tw.Hp)(H:L2.Hp)(m:Tw.R α)(Q:β->L2.Hp->Prop):Prop:=match m with
 |.ok a h'=>∀ι' H' b,Ext ι h H ι' h' H'->HR K ι' h' H'->R K.K ι' h'.length H' a b->Q b H'
 |.ax a h'=>∀ι' H',Ext ι h H ι' h' H'->HR K ι' h' H'->K.ex (.ref (ι' a)) none H'
 |.bad=>False
structure At(K:Zk)(ι:Nat->Addr)(h:Tw.Hp)(H:L2.Hp)(ρ:Tw.Env)(σ:L2.St):Prop where
 hr:HR K ι h H
 len:σ.length=ρ.length
 st:∀(i:Nat)(w:Tw.W),ρ[i]?=some (some w)->∃v,σ[i]?=some (some v)/\RW K.K ι h.length H w v
noncomputable def tG(K:Zk){α β:Type}(R:Rl α β)(d:Tw.Env->Tw.Hp->Tw.R α):L2.St->L2.Hp->(β->L2.Hp->Prop)->Prop:=
 fun σ H Q=>∃ρ h ι,At K ι h H ρ σ/\ah K R ι h H (d ρ h) Q
noncomputable abbrev RE:Rl Tw.W V:=fun K ι n H w v=>RW K ι n H w v
noncomputable abbrev RA(k:Nat):Rl (List Tw.W) (List V):=fun K ι n H w v=>aT K ι n H w v/\w.length=k
noncomputable abbrev RB:Rl Bool Bool:=fun _ _ _ _ a b=>a=b
abbrev tE(K:Zk)(d:Tw.Env->Tw.Hp->Tw.R Tw.W):TE:=tG K RE d
section
variable {K:Zk}{α β γ δ:Type}{R:Rl α β}{R':Rl γ δ}{ι ι1:Nat->Addr}{h h1:Tw.Hp}{H H1:L2.Hp}{ρ:Tw.Env}{σ:L2.St}{m:Tw.R α}
theorem ah.mono{Q Q':β->L2.Hp->Prop}(p:ah K R ι h H m Q)(f:∀b H',Q b H'->Q' b H'):ah K R ι h H m Q':=by
 cases m with
 |ok a h'=>exact fun ι' H' b e r q=>f _ _ (p ι' H' b e r q)
 |ax=>exact p
 |bad=>exact p
theorem ah.later{Q:β->L2.Hp->Prop}(p:ah K R ι h H m Q)(e:Ext ι h H ι1 h1 H1):ah K R ι1 h1 H1 m Q:=by
 cases m with
 |ok a h'=>exact fun ι' H' b e' r q=>p ι' H' b (e.trans e') r q
 |ax a h'=>exact fun ι' H' e' r=>p ι' H' (e.trans e') r
 |bad=>exact p
theorem At.later(a:At K ι h H ρ σ)(e:Ext ι h H ι1 h1 H1)(r:HR K ι1 h1 H1):At K ι1 h1 H1 ρ σ:=
 ⟨r,a.len,fun i w q=>let ⟨v,q1,q2⟩:=a.st i w q;⟨v,q1,q2.keep (e.keeps a.hr)⟩⟩
theorem step{k:α->Tw.Hp->Tw.R γ}{Q:δ->L2.Hp->Prop}(a:At K ι h H ρ σ)(p:ah K R' ι h H (m.bind k) Q):
  ah K R ι h H m (fun x H1=>∃w h1 ι1,At K ι1 h1 H1 ρ σ/\Ext ι h H ι1 h1 H1/\R K.K ι1 h1.length H1 w x/\ah K R' ι1 h1 H1 (k w h1) Q):=by
 cases m with
 |ok w h1=>exact fun ι' H' b e r q=>⟨w,h1,ι',a.later e r,e,q,ah.later p e⟩
 |ax a h'=>exact p
 |bad=>exact p
theorem ah.self{Q:β->L2.Hp->Prop}(p:ah K R ι h H (.ok a h) Q)(r:HR K ι h H)(q:R K.K ι h.length H a b):Q b H:=p ι H b (Ext.refl ι h H) r q
theorem ah.tup(p:ah K RE ι h H (.ok (.tup ws) h) Q)(r:HR K ι h H)(q:aT K.K ι h.length H ws xs):∀a,H a=none->Q (.ref a) (upd H a (.tup xs)):=fun a ha=>by
 obtain⟨r',e⟩:=r.grow (o:=.tup xs) ha;exact p ι _ _ e r' (.tup (.inl aB) (q.keep (e.keeps r)))
theorem ah.lst(p:ah K RE ι h H (Tw.new (.lst ws) h) Q)(r:HR K ι h H)(q:aT K.K ι h.length H ws xs):∀a,H a=none->Q (.ref a) (upd H a (.lst xs)):=fun a ha=>by
 obtain⟨r',e⟩:=r.new (u:=.lst ws) (o:=.lst xs) ha rfl fun ι' n' H' k e=>⟨xs,e,q.keep k⟩;refine p _ _ (.ref a) e r' ?_;have z:RW K.K (eI ι h.length a) (h++[Tw.O.lst ws]).length (upd H a (.lst xs)) (.ref h.length) (.ref (eI ι h.length a h.length)):=.ref (by simp);rw[cG] at z;exact z
theorem ah.aK(p:ah K RE ι h H (Tw.new (.aK kvs) h) Q)(r:HR K ι h H)(q:RD K.K ι h.length H kvs xs):∀a,H a=none->Q (.ref a) (upd H a (.dK xs)):=fun a ha=>by
 obtain⟨r',e⟩:=r.new (u:=.aK kvs) (o:=.dK xs) ha rfl fun ι' n' H' k e=>⟨xs,e,q.keep k⟩;refine p _ _ (.ref a) e r' ?_;have z:RW K.K (eI ι h.length a) (h++[Tw.O.aK kvs]).length (upd H a (.dK xs)) (.ref h.length) (.ref (eI ι h.length a h.length)):=.ref (by simp);rw[cG] at z;exact z
end
theorem PE.imp(p:PE X e t)(f:∀σ H Q,t' σ H Q->t σ H Q):PE X e t':=fun pins s σ H Q I q=>p pins s σ H Q I (f σ H Q q)
theorem PT.imp(p:PT X e t)(f:∀σ H Q,t' σ H Q->t σ H Q):PT X e t':=fun pins s σ H Q I q=>p pins s σ H Q I (f σ H Q q)
theorem PW.imp(p:PW X e t)(f:∀σ H Q,t' σ H Q->t σ H Q):PW X e t':=fun wh pins s σ H Q I q=>p wh pins s σ H Q I (f σ H Q q)
theorem PA.imp(p:PA X e t)(f:∀σ H Q,t' σ H Q->t σ H Q):PA X e t':=fun pos pins s σ H Q I q=>p pos pins s σ H Q I (f σ H Q q)
theorem PS.imp(p:PS X e t)(f:∀D σ H,t' D σ H->t D σ H):PS X e t':=fun pins s σ H D I q=>p pins s σ H D I (f D σ H q)
theorem dU.imp(p:dU X e t)(f:∀D σ H,t' D σ H->t D σ H):dU X e t':=fun pins s σ H D I q=>p pins s σ H D I (f D σ H q)
section
variable {K:Zk}{ι:Nat->Addr}{h:Tw.Hp}{H:L2.Hp}
theorem HR.lst(r:HR K ι h H)(e:h[i]?=some (.lst ws)):∃xs,H (ι i)=some (.lst xs)/\aT K.K ι h.length H ws xs:=r.obj i _ e
theorem HR.aK(r:HR K ι h H)(e:h[i]?=some (.aK kvs)):∃xs,H (ι i)=some (.dK xs)/\RD K.K ι h.length H kvs xs:=r.obj i _ e
theorem HR.at(r:HR K ι h H)(e:Tw.bD h i=some ws):∃xs,bB K.K H (ι i) xs/\aT K.K ι h.length H ws xs:=by
 unfold Tw.bD at e;split at e
 .next q=>cases e;obtain⟨xs,q1,q2⟩:=r.obj i _ q;exact⟨xs,bB.of q1,q2⟩
 .next q=>cases e;obtain⟨xs,q1,q2⟩:=r.obj i _ q;exact⟨xs,q1.sq,q2⟩
 .cases e
end
theorem C1(n:Nat)(i:Int):Tw.iz n i=L2.iz n i:=rfl
theorem aT.cg{ι:Nat->Addr}(r:aT K ι n H ws xs)(e:Tw.cg ws i=some w):∃v,L2.cg xs i=some v/\RW K ι n H w v:=by
 unfold Tw.cg at e;unfold L2.cg;rw[<-r.length,<-C1];cases q:Tw.iz ws.length i with
 |none=>rw[q] at e;cases e
 |some j=>
  rw[q] at e;exact r.get e
theorem kn(n d:Nat)(o:Option Int):Tw.aV n d o=HT.aV n d o:=by
 cases o with
 |none=>rfl
 |some v=>first|rfl|(unfold Tw.aV HT.aV;split<;>first|rfl|omega|(simp;omega))
theorem aT.cut{ι:Nat->Addr}(r:aT K ι n H ws xs)(lo hi:Option Int):aT K ι n H (Tw.cut ws lo hi) (oN xs lo hi):=by unfold Tw.cut oN;rw[kn,kn,r.length];exact (r.drop _).take _
end TwS
namespace TwS
open PySem L2 PyProof.Rows
theorem wF:seqRepeat? (.type "tuple")=pure (some (.builtin "tuple.__mul__")):=by unfold seqRepeat?;have e1:seqSlot? (.type "tuple") (Str.ofString "__mul__")=pure (some (.builtin "tuple.__mul__")):=PySem.seqSlot_of PySem.F.slot_tuple_mul.lookup (by decide+kernel);have e2:seqSlot? (.type "tuple") (Str.ofString "__rmul__")=pure (some (.builtin "tuple.__rmul__")):=PySem.seqSlot_of PySem.F.slot_tuple_rmul.lookup (by decide+kernel);rw[e1,e2];rfl
theorem qQ:fillsNumberSlot (.type "tuple") "mul" = pure false:=
 PySem.fillsNumberSlot_seq PySem.F.slot_tuple_mul.lookup (by decide+kernel) PySem.F.slot_tuple_rmul.lookup (by decide+kernel)
theorem A0(a:Int)(t:Tok)(l:Addr)(items:Array Value)(n:Nat)(dd:Option Addr)(sl:Array (Option Value)):
  Meets (Builtin.«int.__rmul__» {pos:=[Value.int a t,Value.ref l]}) fun _ R s=>s.heap.get? l=some ⟨.type "tuple",dd,.seq items n,sl⟩/\R (.ok (.ret .notImplemented)) s:=
 Meets.of_wp fun prog w A R s h=>by
  obtain⟨hp,g,d,tk,os⟩:=s;obtain⟨hl,h⟩:=h;refine af ?_;refine aj ?_;refine af ?_;refine af ?_;refine aj ?_;refine aj ?_;refine af ?_;refine af ?_;refine wpAny_load' hl ?_;refine aj ?_;refine af ?_;refine sF ?_;refine aj ⟨_,rfl,h⟩
theorem As(u:Tok)(l:Addr)(items:Array Value)(n:Nat)(dd:Option Addr)(sl:Array (Option Value)):
  Meets (Builtin.«tuple.__mul__» {pos:=[Value.ref l,Value.int 1 u]}) fun _ R s=>s.heap.get? l=some ⟨.type "tuple",dd,.seq items n,sl⟩/\R (.ok (.ret (.ref l))) s:=
 Meets.of_wp fun prog w A R s h=>by
  obtain⟨hp,g,d,tk,os⟩:=s;obtain⟨hl,h⟩:=h;refine af ?_;refine af ?_;refine aj ?_;refine aj ?_;refine af ?_;refine af ?_;refine af ?_;refine wpAny_load' hl ?_;refine aj ?_;refine aj ?_;refine wpAny_ite_true (by cases items.isEmpty<;>rfl) ?_;refine af ?_;refine af ?_;refine wpAny_typeOf_ref hl ?_;refine aj ?_;refine wpAny_ite_true rfl ?_;refine af ?_;refine sF ?_;refine aj ⟨_,rfl,h⟩
theorem Bl(k:Int)(u:Tok)(l:Addr)(items:Array Value)(n:Nat)(dd:Option Addr)(sl:Array (Option Value))(h1:1<k)(h2:k<=1000)(h0:items.isEmpty=false)(hs:items.size * k.toNat<=sizeLine):
  Meets (Builtin.«tuple.__mul__» {pos:=[Value.ref l,Value.int k u]}) fun _ R s=>s.heap.get? l=some ⟨.type "tuple",dd,.seq items n,sl⟩/\R (.ok (.ret (.ref s.heap.objs.size))) {s with heap:=s.heap.push ⟨.type "tuple",none,.seq (List.foldl (fun x y=>x++y) #[] (List.replicate k.toNat items)) 0,#[]⟩}:=
 Meets.of_wp fun prog w A R s h=>by
  obtain⟨hp,g,d,tk,os⟩:=s;obtain⟨hl,h⟩:=h;have c1:decide ((decide (k < -2 ^ 63) || decide (k ≥ 2 ^ 63))=true)=false:=by rw[bU (show ¬ k < -2 ^ 63 by omega),bU (show ¬ k ≥ 2 ^ 63 by omega)];rfl
  have c2:decide ((items.isEmpty || k== 1)=true)=false:=by rw[h0,show (k== 1)=false from ik.mpr (by omega)];rfl
  have c3:decide ((decide (k<=0) || items.isEmpty)=true)=false:=by rw[h0,bU (show ¬ k<=0 by omega)];rfl
  have hk:((items.size:Int) * k)=((items.size * k.toNat:Nat):Int):=by rw[Int.natCast_mul,Int.toNat_of_nonneg (by omega)]
  have sz:(sizeLine:Nat)<=(2 ^ 63-1) / 8:=by decide
  have c4:decide ((items.size:Int) * k > (2 ^ 63-1) / 8)=false:=bU (by rw[hk];omega);have c5:decide (Builtin.Tuple.tupleTooMany ((items.size:Int) * k)=true)=false:=by unfold Builtin.Tuple.tupleTooMany;rw[hk];exact bU (by simp only[aI];omega)
  refine sE c1 ?_;refine af ?_;refine af ?_;refine af ?_;refine wpAny_load' hl ?_;refine aj ?_;refine aj ?_;refine sE c2 ?_;refine sE c3 ?_;refine sE c4 ?_;refine sE c5 ?_;refine af ?_;have hz:(List.foldl (fun x y=>x++y) #[] (List.replicate k.toNat items)).size<=sizeLine:=by
   have f:∀(m:Nat)(acc:Array Value),(List.foldl (fun x y=>x++y) acc (List.replicate m items)).size=acc.size+items.size * m:=fun m=>by
    induction m with
    |zero=>intro acc;simp
    |succ m ih=>intro acc;rw[oQ,List.foldl_cons,ih,Array.size_append,Nat.mul_succ];omega
   rw[f];simpa using hs
  exact ij (hd:=by simpa [sizeOk] using hz) (aj ⟨_,rfl,h⟩)
def Gd(K:W.Frag):R2:=fun x y H Q=>∃a k xs,x=.ref a/\y=.int k/\df K H a xs/\xs≠ []/\1<=k/\k<=100/\xs.length<=100/\
 (k=1->Q (.ref a) H)/\(1<k->∀p,H p=none->Q (.ref p) (upd H p (.tup (List.replicate k.toNat xs).flatten)))
theorem HJ:cN X (binaryOp .Mult) (Gd X.K):=by
 intro pins s σ H x y v u Q I rx ry h;obtain⟨a,k,xs,rfl,rfl,ha,hx,h1,h2,h3,q1,q2⟩:=h;cases rx;obtain⟨t,rfl⟩:=ry;obtain⟨its,r1,p1,_⟩:=I.tuple ha;obtain⟨⟨cls,dd,data,sl⟩,e,hc,n,hd⟩:=id p1;simp only at hc hd;subst hc hd;have hl:its.length<=100:=by rw[<-r1.length];exact h3
 have hsz:its.length * k.toNat<=sizeLine:=by have:its.length * k.toNat<=100 * 100:=Nat.mul_le_mul hl (by omega);exact cL this (by decide)
 refine wpAny_binaryOp_repeat_ref (T:= "tuple") (U:= "int") (by decide) ⟨_,e,rfl⟩ (fun s'=>typeIs_int s' k t) qQ F.fills_int_mul F.slot_int_rmul wF F.slot_int_index.lookup
  (pP F.slot_int_rmul (typeIs_int s k t) F.entry_int_rmul (F.args_int_rmul_2 _ _) (A0 k t a its.toArray n dd sl) ⟨e,rfl,⟨_,e,rfl⟩,?_⟩)
 by_cases hk:k=1
 .subst hk;exact pP F.slot_tuple_mul ⟨_,e,rfl⟩ F.entry_tuple_mul (F.args_tuple_mul_2 _ _) (As t a its.toArray n dd sl) ⟨e,.ref a,H,I,rfl,q1 rfl⟩
 .have e0:its.toArray.isEmpty=false:=by
   cases its with
   |nil=>exact (hx (r1.pD.mp rfl)).elim
   |cons _ _=>rfl
  refine pP F.slot_tuple_mul ⟨_,e,rfl⟩ F.entry_tuple_mul (F.args_tuple_mul_2 _ _) (Bl k t a its.toArray n dd sl (by omega) (by omega) e0 (by rw[bX];exact hsz)) ⟨e,?_⟩;have f0:=foldl_rep its k.toNat [];rw[gE] at f0;rw[show (List.foldl (fun x y=>x++y) #[] (List.replicate k.toNat its.toArray))=(List.replicate k.toNat its).flatten.toArray from f0];refine⟨.ref s.heap.objs.size,_,I.laid (t':=s.toks) (o:=.tup (List.replicate k.toNat xs).flatten) (fun b ob q=>bj _ q) (aA _) ?_,rfl,q2 (by omega) _ (I.ao.fresh (aA _))⟩;exact⟨by rw[len_rep,Nat.mul_comm,r1.length];exact hsz,_,r1.rep _,IsTup.new _ _⟩
section
variable {X:Cx}{E:XK}{a b c:Expr}{pos:Pos}{da db dc:Tw.Env->Tw.Hp->Tw.R Tw.W}
theorem NI{i:Nat}{x:Str}(hN:X.N[i]?=some x)(hv:jH X.env.scope x)(hd:(x== ("__debug__" : Str))=false)(hcd:(x== ("__classdict__" : Str))=false):
  PE X (.Name x pos) (tE (zx X E) fun ρ h=>match ρ[i]? with|some (some w)=>.ok w h|_=>.bad):=by
 refine PE.imp (lR hN hv hd hcd) fun σ H Q ⟨ρ,h,ι,at',p⟩=>?_;cases e:ρ[i]? with
 |none=>simp only[e] at p;exact p.elim
 |some o=>
  cases o with
  |none=>simp only[e] at p;exact p.elim
  |some w=>
   simp only[e] at p;obtain⟨v,q1,q2⟩:=at'.st i w e;exact⟨v,q1,p.self at'.hr q2⟩
theorem sv(hp:PE X a (tC v))(hr:∀ι n H,RW X.K ι n H w v):PE X a (tE (zx X E) fun _ h=>.ok w h):=
 PE.imp hp fun σ H Q ⟨ρ,h,ι,at',p⟩=>p.self at'.hr (hr _ _ _)
abbrev tA(K:Zk)(k:Nat)(d:Tw.Env->Tw.Hp->Tw.R (List Tw.W)):TA:=tG K (RA k) d
theorem NO:PA X [] (tA (zx X E) 0 fun _ h=>.ok [] h):=PA.imp dD fun σ H Q ⟨ρ,h,ι,at',p⟩=>p.self at'.hr ⟨.nil,rfl⟩
theorem Km{ds:Tw.Env->Tw.Hp->Tw.R (List Tw.W)}(ha:PE X a (tE (zx X E) da))(hs:PA X es (tA (zx X E) n ds))(hst:starEach (a::es) X.env=(false,eval a X.env)::starEach es X.env):
  PA X (a::es) (tA (zx X E) (n+1) fun ρ h=>(da ρ h).bind fun x h=>(ds ρ h).bind fun xs h=>.ok (x::xs) h):=by
 refine PA.imp (cE ha hs hst) fun σ H Q ⟨ρ,h,ι,at',p⟩=>?_;refine⟨ρ,h,ι,at',(step at' p).mono fun x H1 ⟨w,h1,ι1,at1,e1,r1,p1⟩=>⟨ρ,h1,ι1,at1,(step at1 p1).mono fun xs H2 ⟨ws,h2,ι2,at2,e2,r2,p2⟩=>?_⟩⟩;exact p2.self at2.hr ⟨.cons (r1.keep (e2.keeps at1.hr)) r2.1,by rw[cQ,r2.2]⟩
theorem fj:sizeLine=Tw.SZ:=by rw[eO];rfl
theorem NU{ds:Tw.Env->Tw.Hp->Tw.R (List Tw.W)}(hs:PA X es (tA (zx X E) n ds))(hl:n<=sizeLine):
  PE X (.Tuple es k pos) (tE (zx X E) fun ρ h=>(ds ρ h).bind fun xs h=>.ok (.tup xs) h):=by
 refine PE.imp (Ko hs) fun σ H Q ⟨ρ,h,ι,at',p⟩=>?_;refine⟨ρ,h,ι,at',(step at' p).mono fun xs H1 ⟨ws,h1,ι1,at1,e1,r1,p1⟩=>⟨by rw[<-r1.1.length,r1.2];exact hl,p1.tup at1.hr r1.1⟩⟩
theorem M3{ds:Tw.Env->Tw.Hp->Tw.R (List Tw.W)}(hs:PA X es (tA (zx X E) n ds))(hl:n<=sizeLine):
  PE X (.List es pos) (tE (zx X E) fun ρ h=>(ds ρ h).bind fun xs h=>Tw.new (.lst xs) h):=by
 refine PE.imp (Lu hs) fun σ H Q ⟨ρ,h,ι,at',p⟩=>?_;refine⟨ρ,h,ι,at',(step at' p).mono fun xs H1 ⟨ws,h1,ι1,at1,e1,r1,p1⟩=>⟨by rw[<-r1.1.length,r1.2];exact hl,p1.lst at1.hr r1.1⟩⟩
theorem two{op:Tw.W->Tw.W->Tw.Hp->Tw.R Tw.W}
  (hr:∀(ι:Nat->Addr)(h:Tw.Hp)(H:L2.Hp)(w u:Tw.W)(x y:V)(Q:VK),HR (zx X E) ι h H->RW X.K ι h.length H w x->RW X.K ι h.length H u y->ah (zx X E) RE ι h H (op w u h) Q->r x y H Q):
  ∀σ H Q,tE (zx X E) (fun ρ h=>(da ρ h).bind fun x h=>(db ρ h).bind fun y h=>op x y h) σ H Q->zt r (tE (zx X E) da) (tE (zx X E) db) σ H Q:=fun σ H Q ⟨ρ,h,ι,at',p⟩=>
 ⟨ρ,h,ι,at',(step at' p).mono fun x H1 ⟨w,h1,ι1,at1,e1,r1,p1⟩=>⟨ρ,h1,ι1,at1,(step at1 p1).mono fun y H2 ⟨u,h2,ι2,at2,e2,r2,p2⟩=>
  hr ι2 h2 H2 w u x y Q at2.hr (r1.keep (e2.keeps at1.hr)) r2 p2⟩⟩
noncomputable def CB(K:W.Frag):R2:=fun x y H Q=>∃a b ys,x=.ref a/\y=.ref b/\df K H a []/\df K H b ys/\Q (.ref b) H
theorem Fy{prog:Program}{w:World}{A:Around}{E:aH}{s:Shared}{t b:Addr}{ws:List Value}{Q:aH}(ht:IsTup s.heap t ([]:List Value).toArray)(hb:IsTup s.heap b ws.toArray)
  (h0:Q (.ref b) s):wpAny (model prog w) A (binaryOp .Add (.ref t) (.ref b)) Q E s:=by
 obtain⟨⟨cls,dd,data,sl⟩,ho,hc,n,hd⟩:=id ht;obtain⟨⟨cls2,dd2,data2,sl2⟩,ho2,hc2,n2,hd2⟩:=id hb;simp only at hc hd hc2 hd2;subst hc hd hc2 hd2;exact concat_meets ⟨_,ho,rfl⟩ ⟨_,ho2,rfl⟩ AB seq_tuple_add zL AI (zU _ _)
  (tuple_addW0 t b ([]:List Value).toArray ws.toArray n n2 dd dd2 sl sl2 (by simp)) ⟨ho,ho2,h0⟩
theorem Fs:cN X (binaryOp .Add) (CB X.K):=by intro pins s σ H x y v u Q I rx ry h;obtain⟨a,b,ys,rfl,rfl,ha,hb,q⟩:=h;cases rx;cases ry;obtain⟨its,r1,p1,_⟩:=I.tuple ha;obtain⟨its2,r2,p2,_⟩:=I.tuple hb;cases r1;exact Fy p1 p2 ⟨.ref b,H,I,rfl,q⟩
def Gr(K:W.Frag):R2:=fun x y H Q=>xO (fun i j=>.int (i+j)) x y H Q\/(∃i j,x=.str i/\y=.str j/\i.length+j.length<=sizeLine/\Q (.str (i++j)) H)\/KU x y H Q\/FZ K x y H Q\/CB K x y H Q
theorem HB:cN X (binaryOp .Add) (Gr X.K):=JW.or (Au.or (Kb.or (GJ.or Fs)))
theorem str_len(x:Tw.S):(⟨x.toArray⟩:Str).length=x.length:=by simp[Str.length]
theorem tH(x y:Tw.S):(⟨x.toArray⟩:Str)++⟨y.toArray⟩=⟨(x++y).toArray⟩:=by show Str.append _ _=_;simp[Str.append]
theorem Mg(ι:Nat->Addr)(h:Tw.Hp)(H:L2.Hp)(w u:Tw.W)(x y:V)(Q:VK)(r:HR (zx X E) ι h H)(rx:RW X.K ι h.length H w x)(ry:RW X.K ι h.length H u y)(p:ah (zx X E) RE ι h H (Tw.bin .add w u h) Q):Gr X.K x y H Q:=by
 cases rx with
 |int i=>
  cases ry with
  |int j=>exact .inl ⟨i,j,rfl,rfl,p.self r (.int _)⟩
  |_=>exact p.elim
 |str i hi=>
  cases ry with
  |str j hj=>
   have p:ah (zx X E) RE ι h H (if Tw.Op.add=Tw.Op.add/\i.length+j.length<=Tw.SZ then .ok (.str (i++j)) h else .bad) Q:=p;by_cases c:i.length+j.length<=Tw.SZ
   .rw[if_pos ⟨rfl,c⟩] at p;refine .inr (.inl ⟨_,_,rfl,rfl,by rw[str_len,str_len,fj];exact c,?_⟩);rw[tH];exact p.self r (.str _ fun c hc=>(n9.mp hc).elim (hi c) (hj c))
   .rw[if_neg (fun z=>c z.2)] at p;exact p.elim
  |_=>exact p.elim
 | @tup aa xs ws ea ra=>
  cases ry with
  | @tup ab ys us eb rb=>
   have p:ah (zx X E) RE ι h H (if Tw.Op.add=Tw.Op.add/\ws.length+us.length<=Tw.SZ then .ok (.tup (ws++us)) h else .bad) Q:=p;by_cases c:ws.length+us.length<=Tw.SZ
   .rw[if_pos ⟨rfl,c⟩] at p;by_cases z0:ws=[]
    .subst z0;cases ra;exact .inr (.inr (.inr (.inr ⟨aa,ab,ys,rfl,rfl,ea.sq,eb.sq,p.self r (.tup eb rb)⟩)))
    refine .inr (.inr (.inr (.inl ⟨aa,ab,xs,ys,rfl,rfl,ea.sq,eb.sq,?_,?_,?_⟩)))
    .intro z;subst z;cases ra;exact z0 rfl
    .rw[<-ra.length,<-rb.length,fj];exact c
    .refine⟨fun z=>?_,fun _=>p.tup r (ra.append rb)⟩;subst z;cases rb;rw[hJ] at p;exact p.self r (.tup ea ra)
   .rw[if_neg (fun z=>c z.2)] at p;exact p.elim
  |_=>exact p.elim
 | @ref i hi=>
  cases ry with
  | @ref j hj=>
   have p:ah (zx X E) RE ι h H (match h[i]?,h[j]? with
    |some (.lst xs),some (.lst ys)=>if Tw.Op.add=Tw.Op.add/\xs.length+ys.length<=Tw.SZ then Tw.new (.lst (xs++ys)) h else .bad
    |_,_=>.bad) Q:=p
   cases ei:h[i]? with
   |none=>rw[ei] at p;exact p.elim
   |some oi=>
    cases ej:h[j]? with
    |none=>rw[ei,ej] at p;cases oi<;>exact p.elim
    |some oj=>
     rw[ei,ej] at p;cases oi with
     |lst ws=>
      cases oj with
      |lst us=>
       dsimp only at p;by_cases c:ws.length+us.length<=Tw.SZ
       .rw[if_pos ⟨rfl,c⟩] at p;obtain⟨xs,q1,q2⟩:=r.lst ei;obtain⟨ys,q3,q4⟩:=r.lst ej;refine .inr (.inr (.inl ⟨_,_,xs,ys,rfl,rfl,q1,q3,?_,?_⟩))
        .rw[<-q2.length,<-q4.length,fj];exact c
        .exact p.lst r (q2.append q4)
       .rw[if_neg (fun z=>c z.2)] at p;exact p.elim
      |_=>exact p.elim
     |_=>cases oj<;>exact p.elim
  |_=>exact p.elim
 |_=>cases ry<;>exact p.elim
theorem NA(ha:PE X a (tE (zx X E) da))(hb:PE X b (tE (zx X E) db)):PE X (.BinOp a .Add b pos) (tE (zx X E) fun ρ h=>(da ρ h).bind fun x h=>(db ρ h).bind fun y h=>Tw.bin .add x y h):=
 PE.imp (pk HB ha hb) (two Mg)
theorem pI{op:Tw.Op}{r:R2}(hop:op≠.add)(hmu:op≠.mul)(hi:∀(i j k:Int)(H:L2.Hp)(Q:VK),Tw.binI op i j=some k->Q (.int k) H->r (.int i) (.int j) H Q)
  (ι:Nat->Addr) (h:Tw.Hp) (H:L2.Hp) (w u:Tw.W) (x y:V) (Q:VK) (hr:HR (zx X E) ι h H) (rx:RW X.K ι h.length H w x) (ry:RW X.K ι h.length H u y) (p:ah (zx X E) RE ι h H (Tw.bin op w u h) Q):r x y H Q:=by
 cases rx with
 |int i=>
  cases ry with
  |int j=>
   have p:ah (zx X E) RE ι h H (Tw.R.of ((Tw.binI op i j).map .int) h) Q:=p;cases e:Tw.binI op i j with
   |none=>rw[e] at p;exact p.elim
   |some k=>rw[e] at p;exact hi i j k H Q e (ah.self (a:=Tw.W.int k) p hr (.int _))
  |_=>exact p.elim
 |str i=>
  cases ry with
  |str j=>
   have p:ah (zx X E) RE ι h H (if op=Tw.Op.add/\i.length+j.length<=Tw.SZ then .ok (.str (i++j)) h else .bad) Q:=p;rw[if_neg (fun z=>hop z.1)] at p;exact p.elim
  |_=>exact p.elim
 | @tup aa xs ws ea ra=>
  cases ry with
  | @tup ab ys us eb rb=>
   have p:ah (zx X E) RE ι h H (if op=Tw.Op.add/\ws.length+us.length<=Tw.SZ then .ok (.tup (ws++us)) h else .bad) Q:=p;rw[if_neg (fun z=>hop z.1)] at p;exact p.elim
  |int k=>
   have p:ah (zx X E) RE ι h H (if op=.mul/\1<=k/\k<=100/\ws≠ []/\ws.length<=100 then .ok (.tup (List.replicate k.toNat ws).flatten) h else .bad) Q:=p;rw[if_neg (fun z=>hmu z.1)] at p;exact p.elim
  |_=>exact p.elim
 | @ref i hi=>
  cases ry with
  | @ref j hj=>
   have p:ah (zx X E) RE ι h H (match h[i]?,h[j]? with
    |some (.lst xs),some (.lst ys)=>if op=Tw.Op.add/\xs.length+ys.length<=Tw.SZ then Tw.new (.lst (xs++ys)) h else .bad
    |_,_=>.bad) Q:=p
   exfalso;split at p
   .rw[if_neg (fun z=>hop z.1)] at p;exact p
   .exact p
  |_=>exact p.elim
 |_=>cases ry<;>exact p.elim
theorem Jz(ι:Nat->Addr)(h:Tw.Hp)(H:L2.Hp)(w u:Tw.W)(x y:V)(Q:VK)(r:HR (zx X E) ι h H)(rx:RW X.K ι h.length H w x)(ry:RW X.K ι h.length H u y)(p:ah (zx X E) RE ι h H (Tw.bin .mul w u h) Q):rI zC (fun i j=>.int (i * j)) x y H Q\/Gd X.K x y H Q:=by
 cases rx with
 |int i=>
  cases ry with
  |int j=>
   have p:ah (zx X E) RE ι h H (Tw.R.of ((if (Tw.small i || Tw.small j)=true then some (i * j) else none).map .int) h) Q:=p;by_cases c:(Tw.small i || Tw.small j)=true
   .rw[if_pos c] at p;refine .inl ⟨i,j,rfl,rfl,?_,ah.self (a:=Tw.W.int (i * j)) p r (.int _)⟩;simp only[Tw.small,Bool.or_eq_true,av,aI] at c;exact c
   .rw[if_neg c] at p;exact p.elim
  |_=>exact p.elim
 |str i hi=>
  cases ry with
  |str j hj=>
   have p:ah (zx X E) RE ι h H (if Tw.Op.mul=Tw.Op.add/\i.length+j.length<=Tw.SZ then .ok (.str (i++j)) h else .bad) Q:=p;rw[if_neg (fun z=>nomatch z.1)] at p;exact p.elim
  |_=>exact p.elim
 | @tup aa xs ws ea ra=>
  cases ry with
  | @tup ab ys us eb rb=>
   have p:ah (zx X E) RE ι h H (if Tw.Op.mul=Tw.Op.add/\ws.length+us.length<=Tw.SZ then .ok (.tup (ws++us)) h else .bad) Q:=p;rw[if_neg (fun z=>nomatch z.1)] at p;exact p.elim
  |int k=>
   have p:ah (zx X E) RE ι h H (if Tw.Op.mul=.mul/\1<=k/\k<=100/\ws≠ []/\ws.length<=100 then .ok (.tup (List.replicate k.toNat ws).flatten) h else .bad) Q:=p;by_cases c:Tw.Op.mul=.mul/\1<=k/\k<=100/\ws≠ []/\ws.length<=100
   .rw[if_pos c] at p;obtain⟨_,c1,c2,c3,c4⟩:=c;have rr:∀m:Nat,aT X.K ι h.length H (List.replicate m ws).flatten (List.replicate m xs).flatten:=fun m=>by
     induction m with
     |zero=>exact .nil
     |succ m ih=>rw[oQ,oQ,tF,tF];exact ra.append ih
    refine .inr ⟨aa,k,xs,rfl,rfl,ea.sq,fun z=>?_,c1,c2,by rw[<-ra.length];exact c4,fun z=>?_,fun _=>p.tup r (rr _)⟩
    .subst z;cases ra;exact c3 rfl
    .subst z;have e1:(List.replicate (1:Int).toNat ws).flatten=ws:=by simp
     rw[e1] at p;exact p.self r (.tup ea ra)
   .rw[if_neg c] at p;exact p.elim
  |_=>exact p.elim
 | @ref i hi=>
  cases ry with
  | @ref j hj=>
   have p:ah (zx X E) RE ι h H (match h[i]?,h[j]? with
    |some (.lst xs),some (.lst ys)=>if Tw.Op.mul=Tw.Op.add/\xs.length+ys.length<=Tw.SZ then Tw.new (.lst (xs++ys)) h else .bad
    |_,_=>.bad) Q:=p
   exfalso;split at p
   .rw[if_neg (fun z=>nomatch z.1)] at p;exact p
   .exact p
  |_=>exact p.elim
 |_=>cases ry<;>exact p.elim
theorem Ny(ha:PE X a (tE (zx X E) da))(hb:PE X b (tE (zx X E) db)):PE X (.BinOp a .Sub b pos) (tE (zx X E) fun ρ h=>(da ρ h).bind fun x h=>(db ρ h).bind fun y h=>Tw.bin .sub x y h):=
 PE.imp (pk IZ ha hb) (two (pI (by decide) (by decide) fun i j k H Q e q=>by cases e;exact⟨i,j,rfl,rfl,q⟩))
theorem M1(ha:PE X a (tE (zx X E) da))(hb:PE X b (tE (zx X E) db)):PE X (.BinOp a .Mult b pos) (tE (zx X E) fun ρ h=>(da ρ h).bind fun x h=>(db ρ h).bind fun y h=>Tw.bin .mul x y h):=
 PE.imp (pk (JX.or HJ) ha hb) (two Jz)
theorem Ll(ha:PE X a (tE (zx X E) da))(hb:PE X b (tE (zx X E) db)):PE X (.BinOp a .FloorDiv b pos) (tE (zx X E) fun ρ h=>(da ρ h).bind fun x h=>(db ρ h).bind fun y h=>Tw.bin .fdiv x y h):=
 PE.imp (pk Iq ha hb) (two (pI (by decide) (by decide) fun i j k H Q e q=>by
  have e:(if 0<j/\j<1073741824 then some (i / j) else none)=some k:=e;by_cases c:0<j/\j<1073741824
  .rw[if_pos c] at e;cases e;exact⟨i,j,rfl,rfl,c,q⟩
  .rw[if_neg c] at e;cases e))
theorem MZ(ha:PE X a (tE (zx X E) da))(hb:PE X b (tE (zx X E) db)):PE X (.BinOp a .Mod b pos) (tE (zx X E) fun ρ h=>(da ρ h).bind fun x h=>(db ρ h).bind fun y h=>Tw.bin .mod x y h):=
 PE.imp (pk JY ha hb) (two (pI (by decide) (by decide) fun i j k H Q e q=>by
  have e:(if 0<j then some (i % j) else none)=some k:=e;by_cases c:0<j
  .rw[if_pos c] at e;cases e;exact⟨i,j,rfl,rfl,c,q⟩
  .rw[if_neg c] at e;cases e))
theorem Nh(ha:PE X a (tE (zx X E) da))(hb:PE X b (tE (zx X E) db)):PE X (.BinOp a .Pow b pos) (tE (zx X E) fun ρ h=>(da ρ h).bind fun x h=>(db ρ h).bind fun y h=>Tw.bin .pow x y h):=
 PE.imp (pk K5 ha hb) (two (pI (by decide) (by decide) fun i j k H Q e q=>by
  have e:(if 0<=j/\j<=1000000/\i.natAbs<2 ^ 64 then some (i ^ j.toNat) else none)=some k:=e;by_cases c:0<=j/\j<=1000000/\i.natAbs<2 ^ 64
  .rw[if_pos c] at e;cases e;exact⟨i,j,rfl,rfl,c,q⟩
  .rw[if_neg c] at e;cases e))
end
mutual
noncomputable def toD:Tw.W->PyData
 |.ak=>.none
 |.bl b=>.bool b
 |.int i=>.int i
 |.str x=>.str ⟨x.toArray⟩
 |.tup xs=>.tuple (fS xs)
 |.lst xs=>.list (fS xs)
 |.ref _=>.none
noncomputable def fS:List Tw.W->List PyData
 |[]=>[]
 |x::xs=>toD x::fS xs
end
mutual
noncomputable def nr:Tw.W->Bool
 |.tup xs=>se xs
 |.lst xs=>se xs
 |.ref _=>false
 |_=>true
noncomputable def se:List Tw.W->Bool
 |[]=>true
 |x::xs=>nr x&&se xs
end
theorem qA(a b:Tw.S):((⟨a.toArray⟩:Str)== ⟨b.toArray⟩)=decide (a=b):=by
 rw[pZ];by_cases e:a=b
 .subst e;simp
 .rw[bU e];refine bU fun z=>e ?_;injection z with z;simpa using gU Array.toList z
mutual
theorem pC:∀(a b:Tw.W),nr a=true->nr b=true->Tw.bw a b=PyData.eqv (toD a) (toD b)
 |.ak,b,ha,hb=>by cases b<;>simp_all [nr,toD,PyData.eqv,Tw.bw.eq_def]
 |.bl x,b,ha,hb=>by cases b<;>simp_all [nr,toD,PyData.eqv,Tw.bw.eq_def,pZ]
 |.int x,b,ha,hb=>by cases b<;>simp_all [nr,toD,PyData.eqv,Tw.bw.eq_def,pZ]
 |.str x,b,ha,hb=>by
  cases b with
  |str y=>rw[Tw.lQ,toD,toD,PyData.eqv,qA]
  |_=>simp_all [nr,toD,PyData.eqv,Tw.bw.eq_def]
 |.ref x,b,ha,hb=>by simp[nr] at ha
 |.tup xs,b,ha,hb=>by
  cases b with
  |tup ys=>rw[Tw.xR,toD,toD,PyData.eqv];exact qE xs ys (by simpa [nr] using ha) (by simpa [nr] using hb)
  |_=>simp_all [nr,toD,PyData.eqv,Tw.bw.eq_def]
 |.lst xs,b,ha,hb=>by
  cases b with
  |lst ys=>rw[Tw.xV,toD,toD,PyData.eqv];exact qE xs ys (by simpa [nr] using ha) (by simpa [nr] using hb)
  |_=>simp_all [nr,toD,PyData.eqv,Tw.bw.eq_def]
theorem qE:∀(a b:List Tw.W),se a=true->se b=true->Tw.n8 a b=PyData.eqvAll (fS a) (fS b)
 |[],[],_,_=>by simp[fS,PyData.eqvAll]
 |[],_::_,_,_=>by simp[fS,PyData.eqvAll]
 |_::_,[],_,_=>by simp[fS,PyData.eqvAll]
 |x::xs,y::ys,ha,hb=>by
  simp only[se,av] at ha hb;simp only[Tw.n8,fS,PyData.eqvAll,pC x y ha.1 hb.1,qE xs ys ha.2 hb.2]
end
theorem DG{x:Tw.S}(h:ql x):PySem.PyData.canLay0 (.str ⟨x.toArray⟩)=true:=by rw[PyData.canLay0];simp only[PyData.strOk];simp;exact h
section
variable {X:Cx}{E:XK}{pins:aJ}{σ:L2.St}{s:Shared}{ι:Nat->Addr}{h:Tw.Hp}{H:L2.Hp}
structure Dat(s:Shared)(k:Nat)(d:Tw.W)(u:Value):Prop where
 ex:∃as,Reads s.heap u (toD d) as
 lay:(toD d).canLay0=true
 deep:(toD d).depth<=k
 nr:nr d=true
theorem wA{k:Nat}(P:∀(w d:Tw.W)(v:V)(u:Value),Tw.rd h k w=some d->RW X.K ι h.length H w v->RelV v u->Dat s k d u):
  ∀(ws ds:List Tw.W)(vs:List V)(us:List Value),Tw.gu h k ws=some ds->aT X.K ι h.length H ws vs->Vals vs us->
   (∃as,ReadsAll s.heap us (fS ds) as)/\PyData.canLayAll0 (fS ds)=true/\PyData.depthAll (fS ds)<=k/\se ds=true
 |[],ds,_,_,e,.nil,.nil=>by
  simp at e;subst e;exact⟨⟨[],.nil⟩,by simp[fS,PyData.canLayAll0],by simp[fS,PyData.depthAll],by simp[se]⟩
 |w::ws,ds,_,_,e,.cons rw' rws,.cons rv rvs=>by
  rw[Tw.gu] at e;cases e1:Tw.rd h k w with
  |none=>rw[e1] at e;cases e
  |some d=>
   cases e2:Tw.gu h k ws with
   |none=>rw[e1,e2] at e;cases e
   |some ds'=>
    rw[e1,e2] at e;cases e;obtain⟨⟨as,h1⟩,h2,h3,h4⟩:=P w d _ _ e1 rw' rv;obtain⟨⟨bs,g1⟩,g2,g3,g4⟩:=wA P ws ds' _ _ e2 rws rvs;exact⟨⟨as++bs,by rw[fS];exact .cons h1 g1⟩,by simp[fS,PyData.canLayAll0,h2,g2],by simp only[fS,PyData.depthAll];omega,by simp[se,h4,g4]⟩
theorem jV(I:Inv X pins σ H s)(r:HR (zx X E) ι h H):∀(k:Nat)(w d:Tw.W)(v:V)(u:Value),Tw.rd h k w=some d->RW X.K ι h.length H w v->RelV v u->Dat s k d u:=by
 have flat:∀(k:Nat)(w d:Tw.W)(v:V)(u:Value),Tw.rd h k w=some d->RW X.K ι h.length H w v->RelV v u->(∀ws,w≠.tup ws)->(∀a,w≠.ref a)->Dat s k d u:=by
  intro k w d v u e rw' rv n1 n2;cases rw' with
  |ak=>simp at e;subst e;cases rv;exact⟨⟨[],.none⟩,by simp[toD,PyData.canLay0],by simp[toD,PyData.depth],by simp[nr]⟩
  |bl b=>simp at e;subst e;cases rv;exact⟨⟨[],.bool b⟩,by simp[toD,PyData.canLay0],by simp[toD,PyData.depth],by simp[nr]⟩
  |int i=>simp at e;subst e;obtain⟨t,rfl⟩:=rv;exact⟨⟨[],.int i t⟩,by simp[toD,PyData.canLay0],by simp[toD,PyData.depth],by simp[nr]⟩
  |str x hx=>simp at e;subst e;obtain⟨t,rfl⟩:=rv;exact⟨⟨[],by rw[toD];exact .str _ t⟩,by rw[toD];exact DG hx,by simp[toD,PyData.depth],by simp[nr]⟩
  |tup _ _=>exact absurd rfl (n1 _)
  |ref _=>exact absurd rfl (n2 _)
 intro k
 induction k with
 |zero=>
  intro w d v u e rw' rv;cases w with
  |tup ws=>simp at e
  |ref a=>simp at e
  |_=>exact flat _ _ _ _ _ e rw' rv (fun _ z=>nomatch z) (fun _ z=>nomatch z)
 |succ k ih=>
  intro w d v u e rw' rv;cases w with
  |tup ws=>
   rw[Tw.rd] at e;cases e2:Tw.gu h k ws with
   |none=>rw[e2] at e;cases e
   |some ds=>
    rw[e2] at e;cases e;cases rw' with
    | @tup a xs _ ea ra=>
     cases rv;obtain⟨its,r1,it,_⟩:=I.tuple (TupAt.sq ea);obtain⟨⟨as,g1⟩,g2,g3,g4⟩:=wA ih ws ds _ _ e2 ra r1;obtain⟨o,h1,h2,n,h3⟩:=it;exact⟨⟨as,by rw[toD];exact .tuple h1 h2 h3 (by simpa using g1)⟩,by rw[toD,PyData.canLay0];exact g2,by rw[toD,PyData.depth];omega,by rw[nr];exact g4⟩
  |ref i=>
   cases rw' with
   |ref hi=>
    cases rv;have e:(match h[i]? with
     |some (.lst xs)=>(Tw.gu h k xs).map Tw.W.lst
     |some (.bI xs)=>(Tw.gu h k xs).map Tw.W.lst
     |_=>none)=some d:=by rw[Tw.rd] at e;exact e
    have fin:∀(ws:List Tw.W)(xs:List V),(Tw.gu h k ws).map Tw.W.lst=some d->bB X.K H (ι i) xs->aT X.K ι h.length H ws xs->Dat s (k+1) d (.ref (ι i)):=by
     intro ws xs e sq rws;cases e2:Tw.gu h k ws with
     |none=>rw[e2] at e;cases e
     |some ds=>
      rw[e2] at e;cases e;obtain⟨its,r1,⟨o,n,h1,h2,_,h3⟩,_⟩:=I.list sq;obtain⟨⟨as,g1⟩,g2,g3,g4⟩:=wA ih ws ds _ _ e2 rws r1;exact⟨⟨_,by rw[toD];exact .list h1 h2 h3 (by simpa using g1)⟩,by rw[toD,PyData.canLay0];exact g2,by rw[toD,PyData.depth];omega,by rw[nr];exact g4⟩
    cases ei:h[i]? with
    |none=>rw[ei] at e;cases e
    |some o=>
     rw[ei] at e;cases o with
     |lst ws=>obtain⟨xs,q1,q2⟩:=r.obj i _ ei;exact fin ws xs e (bB.of q1) q2
     |bI ws=>obtain⟨xs,q1,q2⟩:=r.obj i _ ei;exact fin ws xs e q1.sq q2
     |aK _=>cases e
     |ins _ _=>cases e
     |ax _ _=>cases e
  |lst _=>simp[Tw.rd] at e
  |_=>exact flat _ _ _ _ _ e rw' rv (fun _ z=>nomatch z) (fun _ z=>nomatch z)
end
section
variable {K:W.Frag}{ι:Nat->Addr}{n:Nat}{H:L2.Hp}
theorem vJ{j k:Tw.W}{p q:Key}(a:RW K ι n H j (kV p))(b:RW K ι n H k (kV q)):Tw.pQ j k=decide (p=q):=by
 cases p with
 |inl i=>
  cases a;cases q with
  |inl i'=>cases b;rw[vL];rfl
  |inr y=>cases b;rw[vA];rfl
 |inr x=>
  cases a;cases q with
  |inl i'=>cases b;rw[vZ];rfl
  |inr y=>
   cases b with
   |str y' hy=>
    rename_i x' hx;rw[wW];have t:=qA x' y';rw[pZ] at t;rw[t];show (x'== y')=_;rw[pZ]
theorem iW{k:Tw.W}{v:V}(a:RW K ι n H k v)(h:Tw.isKey k=true):∃q,v=kV q:=by
 cases a with
 |int i=>exact⟨.inl i,rfl⟩
 |str x hx=>exact⟨.inr _,rfl⟩
 |_=>cases h
theorem RD.get{k:Tw.W}{q:Key}(b:RW K ι n H k (kV q)):∀{kvs:List (Tw.W×Tw.W)}{xs:List (Key×V)},RD K ι n H kvs xs->
  (Tw.lM k kvs=none/\i7 xs q=none)\/∃w v,Tw.lM k kvs=some w/\i7 xs q=some v/\RW K ι n H w v
 |_,_,.nil=>.inl ⟨rfl,rfl⟩
 |_,_,.cons (k:=j) (q:=p) (w:=w) (v:=v) _ a c r=>by
  have e:=vJ a b;rw[Tw.lM,e];by_cases z:p=q
  .rw[mE z,jb z];exact .inr ⟨w,v,rfl,rfl,c⟩
  .rw[m8 z,bU z];exact RD.get b r
theorem H9{q p:Key}{v:V}:∀{xs:List (Key×V)},p∈(putK xs q v).map (·.1)->p=q\/p∈xs.map (·.1):=by
 intro xs hp;unfold putK at hp;split at hp
 .rw[mC] at hp;refine .inr ?_;obtain⟨kv,h1,h2⟩:=jF.mp hp;refine jF.mpr ⟨kv,h1,?_⟩;rw[<-h2];simp only[Function.comp];split<;>rfl
 .rw[List.map_append,n9] at hp;rcases hp with hp|hp
  .exact .inr hp
  .simp at hp;exact .inl hp
theorem RD.put{k w:Tw.W}{q:Key}{v:V}(b:RW K ι n H k (kV q))(c:RW K ι n H w v):∀{kvs:List (Tw.W×Tw.W)}{xs:List (Key×V)},RD K ι n H kvs xs->RD K ι n H (Tw.dput k w kvs) (putK xs q v)
 |_,_,.nil=>.cons (by simp) b c .nil
 |_,_,.cons (k:=j) (q:=p) (w:=w') (v:=v') (kvs:=kvs) (xs:=xs) m a d r=>by
  have e:=vJ a b;rw[Tw.dput,e];by_cases z:p=q
  .subst z;rw[jb rfl];have t:putK ((p,v')::xs) p v=(p,v)::xs:=by
    have hm:∀l:List (Key×V),p∉l.map (·.1)->l.map (fun kv=>if kv.1=p then (kv.1,v) else kv)=l:=by
     intro l
     induction l with
     |nil=>intro _;rfl
     |cons x l ih=>
      intro hx;simp only[aR,cX,not_or] at hx;rw[aR,ih hx.2,if_neg (fun z=>hx.1 z.symm)]
    unfold putK;simp only[lN,decide_true,Bool.true_or,gY,aR];rw[hm xs m]
   rw[t];exact .cons m a c r
  .rw[bU z];have t:putK ((p,v')::xs) q v=(p,v')::putK xs q v:=by
    unfold putK;simp only[lN,z,vq,Bool.false_or,aR,kX];split<;>rfl
   rw[t];refine .cons (fun hp=>?_) a d (RD.put b c r);rcases H9 hp with hp|hp
   .exact z hp
   .exact m hp
end
section
variable {X:Cx}{E:XK}{pins:aJ}{σ:L2.St}{s:Shared}{ι:Nat->Addr}{h:Tw.Hp}{H:L2.Hp}{A:Around}
theorem Nz(I:Inv X pins σ H s)(r:HR (zx X E) ι h H){k:Nat}{w u a b:Tw.W}{x y:V}{v v':Value}(e1:Tw.rd h k w=some a)(e2:Tw.rd h k u=some b)(rx:RW X.K ι h.length H w x)(ry:RW X.K ι h.length H u y)
  (rv:RelV x v) (rv':RelV y v') (hu:A.units+k<cLine):SeqAt.EqAt A s v v' (Tw.bw a b):=by
 obtain⟨⟨as,h1⟩,h2,h3,h4⟩:=jV I r k w a x v e1 rx rv;obtain⟨⟨bs,g1⟩,g2,g3,g4⟩:=jV I r k u b y v' e2 ry rv';rw[pC a b h4 g4];exact SeqAt.eqAt_reads _ _ A s v v' as bs h1 g1 h2 g2 (by have:=Nat.min_le_left (toD a).depth (toD b).depth;omega)
theorem iB{w:Tw.W}{kvs:List (Tw.W×Tw.W)}(e:Tw.bE h w=some kvs):∃i,w=.ref i/\h[i]?=some (.aK kvs):=by
 unfold Tw.bE at e;split at e
 .next a=>
  split at e
  .next q=>cases e;exact⟨_,rfl,q⟩
  .cases e
 .cases e
theorem tf(I:Inv X pins σ H s)(r:HR (zx X E) ι h H)(hu:A.units+40<cLine){ys:List (Tw.W×Tw.W)}{ys':List (Key×V)}{yv:List (Key×Value)}(ry:RD X.K ι h.length H ys ys')(kv:KV ys' yv):
  ∀{xs:List (Tw.W×Tw.W)}{xs':List (Key×V)}{xv:List (Key×Value)}{b:Bool},RD X.K ι h.length H xs xs'->KV xs' xv->Tw.rl h ys xs=some b->W.KeqHits A s yv xv b
 |_,_,_,b,.nil,k2,e=>by
  unfold KV at k2;cases k2;cases e;exact .nil
 |_,_,_,b,.cons (k:=j) (q:=p) (w:=w) (v:=v) _ a c rr,k2,e=>by
  unfold KV at k2;cases k2 with
  | @cons _ pq _ qs hpq k2=>
   obtain⟨p',u⟩:=pq;obtain⟨rfl,ru⟩:=hpq;have val:=kv.val p;rw[Tw.rl] at e;rcases ry.get a with ⟨g1,g2⟩|⟨w2,v2,g1,g2,g3⟩
   .rw[g1] at e;cases e;rw[g2] at val;exact .miss (dY.none_of val)
   .rw[g1] at e;dsimp only at e;rw[g2] at val;obtain⟨u2,e2,r2⟩:=dY.some_of val;cases e3:Tw.rd h 40 w with
    |none=>rw[e3] at e;cases e
    |some d1=>
     cases e4:Tw.rd h 40 w2 with
     |none=>rw[e3,e4] at e;cases e
     |some d2=>
      cases e5:Tw.rl h ys _ with
      |none=>rw[e3,e4,e5] at e;cases e
      |some c'=>
       rw[e3,e4,e5] at e;cases e;exact .hit e2 (Nz I r e3 e4 c g3 ru r2 hu) (tf I r hu ry kv rr k2 e5)
end
def zY(K:Zk)(neg:Bool):R2:=fun x y H Q=>∃(ι:Nat->Addr) (h:Tw.Hp) (w u:Tw.W) (b:Bool),HR K ι h H/\RW K.K ι h.length H w x/\RW K.K ι h.length H u y/\Tw.bz h w u=some b/\Q (.bl (if neg then !b else b)) H
section
variable {X:Cx}{E:XK}
theorem KL(hu:X.A.units+100<cLine):cN X (compareOp .Eq) (zY (zx X E) false):=by
 intro pins s σ H x y v u Q I rx ry ⟨ι,h,w,z,b,r,rw',rz,e,q⟩;unfold Tw.bz at e;cases e1:Tw.bE h w with
 |none=>
  cases e2:Tw.bE h z with
  |some _=>rw[e1,e2] at e;cases e
  |none=>
   rw[e1,e2] at e;cases e3:Tw.rd h 60 w with
   |none=>rw[e3] at e;cases e
   |some a=>
    cases e4:Tw.rd h 60 z with
    |none=>rw[e3,e4] at e;cases e
    |some c=>
     rw[e3,e4] at e;cases e;obtain⟨⟨as,h1⟩,h2,h3,h4⟩:=jV I r 60 w a x v e3 rw' rx;obtain⟨⟨bs,g1⟩,g2,g3,g4⟩:=jV I r 60 z c y u e4 rz ry;refine SeqAt.compareEq_reads h1 g1 h2 g2 (by have:=Nat.min_le_left (toD a).depth (toD c).depth;omega) ?_;rw[<-pC a c h4 g4];exact⟨.bl _,H,I,rfl,q⟩
 |some xs=>
  cases e2:Tw.bE h z with
  |none=>rw[e1,e2] at e;cases e
  |some ys=>
   rw[e1,e2] at e;obtain⟨i,rfl,ei⟩:=iB e1;obtain⟨j,rfl,ej⟩:=iB e2;cases rw';cases rz;cases rx;cases ry;obtain⟨xs',q1,q2⟩:=r.aK ei;obtain⟨ys',q3,q4⟩:=r.aK ej;obtain⟨z1,s1,xv,k1,d1⟩:=m7 I.ao q1;obtain⟨z2,s2,yv,k2,d2⟩:=m7 I.ao q3;have l1:xs.length=xv.length:=q2.length.trans k1.length;have l2:ys.length=yv.length:=q4.length.trans k2.length;have e:(if xs.length=ys.length then Tw.rl h ys xs else some false)=some b:=e;by_cases c:xs.length=ys.length
   .rw[if_pos c] at e;refine W.keq_eq (r:=b) s1 s2 d1 d2 (by omega) (fun _=>tf I r (by show X.A.units+1+40<cLine;omega) q4 k2 q2 k1 e) ?_;rw[show (xv.length== yv.length)=true by rw[<-l1,<-l2,c];simp,Bool.true_and];exact⟨.bl b,H,I,rfl,q⟩
   .rw[if_neg c] at e;cases e;refine W.keq_eq (r:=true) s1 s2 d1 d2 (by omega) (fun z=>absurd (by omega) c) ?_;rw[show (xv.length== yv.length)=false by rw[<-l1,<-l2];simpa using c,Bool.false_and];exact⟨.bl false,H,I,rfl,q⟩
theorem Mi(hu:X.A.units+100<cLine):cN X (compareOp .NotEq) (zY (zx X E) true):=by
 intro pins s σ H x y v u Q I rx ry ⟨ι,h,w,z,b,r,rw',rz,e,q⟩;unfold Tw.bz at e;cases e1:Tw.bE h w with
 |none=>
  cases e2:Tw.bE h z with
  |some _=>rw[e1,e2] at e;cases e
  |none=>
   rw[e1,e2] at e;cases e3:Tw.rd h 60 w with
   |none=>rw[e3] at e;cases e
   |some a=>
    cases e4:Tw.rd h 60 z with
    |none=>rw[e3,e4] at e;cases e
    |some c=>
     rw[e3,e4] at e;cases e;obtain⟨⟨as,h1⟩,h2,h3,h4⟩:=jV I r 60 w a x v e3 rw' rx;obtain⟨⟨bs,g1⟩,g2,g3,g4⟩:=jV I r 60 z c y u e4 rz ry;refine SeqAt.compareNe_reads h1 g1 h2 g2 (by have:=Nat.min_le_left (toD a).depth (toD c).depth;omega) ?_;rw[<-pC a c h4 g4];exact⟨.bl _,H,I,rfl,q⟩
 |some xs=>
  cases e2:Tw.bE h z with
  |none=>rw[e1,e2] at e;cases e
  |some ys=>
   rw[e1,e2] at e;obtain⟨i,rfl,ei⟩:=iB e1;obtain⟨j,rfl,ej⟩:=iB e2;cases rw';cases rz;cases rx;cases ry;obtain⟨xs',q1,q2⟩:=r.aK ei;obtain⟨ys',q3,q4⟩:=r.aK ej;obtain⟨z1,s1,xv,k1,d1⟩:=m7 I.ao q1;obtain⟨z2,s2,yv,k2,d2⟩:=m7 I.ao q3;have l1:xs.length=xv.length:=q2.length.trans k1.length;have l2:ys.length=yv.length:=q4.length.trans k2.length;have e:(if xs.length=ys.length then Tw.rl h ys xs else some false)=some b:=e;by_cases c:xs.length=ys.length
   .rw[if_pos c] at e;refine W.keq_ne (r:=b) s1 s2 d1 d2 (by omega) (fun _=>tf I r (by show X.A.units+1+40<cLine;omega) q4 k2 q2 k1 e) ?_;rw[show (xv.length== yv.length)=true by rw[<-l1,<-l2,c];simp,Bool.true_and];exact⟨.bl (!b),H,I,rfl,q⟩
   .rw[if_neg c] at e;cases e;refine W.keq_ne (r:=true) s1 s2 d1 d2 (by omega) (fun z=>absurd (by omega) c) ?_;rw[show (xv.length== yv.length)=false by rw[<-l1,<-l2];simpa using c,Bool.false_and];exact⟨.bl (!false),H,I,rfl,q⟩
end
noncomputable def dT(d:Tw.Env->Tw.Hp->Tw.R Tw.W):Tw.Env->Tw.Hp->Tw.R Bool:=fun ρ h=>(d ρ h).bind fun w h=>Tw.R.of (Tw.truth h w) h
abbrev tT(K:Zk)(d:Tw.Env->Tw.Hp->Tw.R Tw.W):TT:=tG K RB (dT d)
theorem bind_assoc{α β γ:Type}(m:Tw.R α)(k:α->Tw.Hp->Tw.R β)(l:β->Tw.Hp->Tw.R γ):(m.bind k).bind l=m.bind fun a h=>(k a h).bind l:=by cases m<;>rfl
section
variable {X:Cx}{E:XK}{a b c:Expr}{pos:Pos}{da db dc:Tw.Env->Tw.Hp->Tw.R Tw.W}
theorem IV(ho:cN X (compareOp o) r)
  (hr:∀(ι:Nat->Addr)(h:Tw.Hp)(H:L2.Hp)(w u:Tw.W)(x y:V)(k:Bool)(Q:VK),HR (zx X E) ι h H->RW X.K ι h.length H w x->RW X.K ι h.length H u y->Tw.cmp op w u h=some k->Q (.bl k) H->r x y H Q)
  (ha:PE X a (tE (zx X E) da)) (hb:PE X b (tE (zx X E) db)) (hm:behindInMarks o b=false):
  PE X (.Compare a [o] [b] pos) (tE (zx X E) fun ρ h=>(da ρ h).bind fun x h=>(db ρ h).bind fun y h=>Tw.R.of ((Tw.cmp op x y h).map .bl) h)/\
  PT X (.Compare a [o] [b] pos) (tT (zx X E) fun ρ h=>(da ρ h).bind fun x h=>(db ρ h).bind fun y h=>Tw.R.of ((Tw.cmp op x y h).map .bl) h):=by
 constructor
 .refine PE.imp (zc ho ha hb hm) (two fun ι h H w u x y Q hR rx ry p=>?_);cases e:Tw.cmp op w u h with
  |none=>rw[e] at p;exact p.elim
  |some k=>rw[e] at p;exact hr ι h H w u x y k Q hR rx ry e (ah.self (a:=Tw.W.bl k) p hR (.bl k))
 .refine PT.imp (zr ho ha hb hm) fun σ H Q Z=>Z.g fun ρ Z=>Z.g fun h Z=>Z.g fun ι Z=>Z.g fun at' p=>?_;simp only[dT,bind_assoc] at p;refine⟨ρ,h,ι,at',(step at' p).mono fun x H1 Z=>Z.g fun w Z=>Z.g fun h1 Z=>Z.g fun ι1 Z=>Z.g fun at1 Z=>Z.g fun e1 Z=>Z.g fun r1 p1=>⟨ρ,h1,ι1,at1,(step at1 p1).mono fun y H2 Z=>Z.g fun u Z=>Z.g fun h2 Z=>Z.g fun ι2 Z=>Z.g fun at2 Z=>Z.g fun e2 Z=>Z.g fun r2 p2=>?_⟩⟩;cases e:Tw.cmp op w u h2 with
  |none=>rw[e] at p2;exact p2.elim
  |some k=>rw[e] at p2;exact hr ι2 h2 H2 w u x y k _ at2.hr (r1.keep (e2.keeps at1.hr)) r2 e ⟨k,rfl,ah.self (a:=k) p2 at2.hr rfl⟩
theorem QW(ι:Nat->Addr)(h:Tw.Hp)(H:L2.Hp)(w u:Tw.W)(x y:V)(k:Bool)(Q:VK)(r:HR (zx X E) ι h H)(rx:RW X.K ι h.length H w x)(ry:RW X.K ι h.length H u y)(e:Tw.cmp .eq w u h=some k)(q:Q (.bl k) H):zY (zx X E) false x y H Q:=
 ⟨ι,h,w,u,k,r,rx,ry,e,q⟩
theorem Q8(ι:Nat->Addr)(h:Tw.Hp)(H:L2.Hp)(w u:Tw.W)(x y:V)(k:Bool)(Q:VK)(r:HR (zx X E) ι h H)(rx:RW X.K ι h.length H w x)(ry:RW X.K ι h.length H u y)(e:Tw.cmp .ne w u h=some k)(q:Q (.bl k) H):zY (zx X E) true x y H Q:=by
 have e:(Tw.bz h w u).map (!·)=some k:=e;cases e2:Tw.bz h w u with
 |none=>rw[e2] at e;cases e
 |some b=>rw[e2] at e;cases e;exact⟨ι,h,w,u,b,r,rx,ry,e2,q⟩
theorem NR{f:Int->Int->Bool}(hf:∀w u h,Tw.cmp op w u h=match w,u with | .int i,.int j=>some (f i j)|_,_=>none)
  (ι:Nat->Addr) (h:Tw.Hp) (H:L2.Hp) (w u:Tw.W) (x y:V) (k:Bool) (Q:VK) (r:HR (zx X E) ι h H) (rx:RW X.K ι h.length H w x) (ry:RW X.K ι h.length H u y) (e:Tw.cmp op w u h=some k) (q:Q (.bl k) H):xO (fun i j=>.bl (f i j)) x y H Q:=by
 rw[hf] at e;cases rx with
 |int i=>
  cases ry with
  |int j=>cases e;exact⟨i,j,rfl,rfl,q⟩
  |_=>cases e
 |_=>cases ry<;>cases e
theorem NL(ι:Nat->Addr)(h:Tw.Hp)(H:L2.Hp)(w u:Tw.W)(x y:V)(k:Bool)(Q:VK)(r:HR (zx X E) ι h H)(rx:RW X.K ι h.length H w x)(ry:RW X.K ι h.length H u y)(e:Tw.cmp .isN w u h=some k)(q:Q (.bl k) H):
  y=.ak/\Q (.bl (decide (x=.ak))) H:=by
 cases ry with
 |ak=>cases rx<;>(cases e;exact⟨rfl,q⟩)
 |_=>cases e
theorem KP(ι:Nat->Addr)(h:Tw.Hp)(H:L2.Hp)(w u:Tw.W)(x y:V)(k:Bool)(Q:VK)(r:HR (zx X E) ι h H)(rx:RW X.K ι h.length H w x)(ry:RW X.K ι h.length H u y)(e:Tw.cmp .notN w u h=some k)(q:Q (.bl k) H):
  y=.ak/\Q (.bl (!decide (x=.ak))) H:=by
 cases ry with
 |ak=>cases rx<;>(cases e;exact⟨rfl,q⟩)
 |_=>cases e
def sQ(K:W.Frag)(neg:Bool):R2:=fun x y H Q=>J5 K neg x y H Q\/∃a o,y=.ref a/\kD H a x o/\Q (.bl (if neg then !o.isSome else o.isSome)) H
theorem J9(hu:X.A.units+1<cLine):cN X (compareOp .In) (sQ X.K false):=by refine cN.or BH ?_;intro pins s σ H x y v u Q I rx ry ⟨a,o,ey,g,q⟩;subst ey;cases ry;exact Pn hu I g rx fun s' I'=>⟨.bl o.isSome,H,I',rfl,q⟩
theorem Cd(hu:X.A.units+1<cLine):cN X (compareOp .NotIn) (sQ X.K true):=by refine cN.or v9 ?_;intro pins s σ H x y v u Q I rx ry ⟨a,o,ey,g,q⟩;subst ey;cases ry;exact GW hu I g rx fun s' I'=>⟨.bl (!o.isSome),H,I',rfl,q⟩
section
variable {ι:Nat->Addr}{n:Nat}{H:L2.Hp}
theorem y6(r:RW X.K ι n H w x)(h:Tw.flat w=true):jk x=true:=by cases r<;>first|rfl|exact absurd h eC
theorem we:∀{ws:List Tw.W}{xs:List V},aT X.K ι n H ws xs->ws.all Tw.flat=true->xs.all jk=true
 |_,_,.nil,_=>rfl
 |_,_,.cons a r,h=>by
  rw[eQ,av] at h;rw[eQ,y6 a h.1,we r h.2];rfl
theorem LK(r:RW X.K ι n H w x)(q:RW X.K ι n H u y)(f:Tw.flat w=true)(g:Tw.flat u=true):L2.bz x y=Tw.bw w u:=by
 cases r with
 |ak=>cases q<;>first|exact absurd g eC|(simp[L2.bz])
 |bl b=>cases q<;>first|exact absurd g eC|(simp[L2.bz,pZ])
 |int i=>cases q<;>first|exact absurd g eC|(simp[L2.bz,pZ])
 |str z hz=>
  cases q with
  |str z' hz'=>rw[Tw.lQ,L2.bz,qA]
  |ak=>simp[L2.bz]
  |bl _=>simp[L2.bz]
  |int _=>simp[L2.bz]
  |tup _ _=>cases g
  |ref _=>cases g
 |tup _ _=>cases f
 |ref _=>cases f
theorem Dl(q:RW X.K ι n H u y)(g:Tw.flat u=true):∀{ws:List Tw.W}{xs:List V},aT X.K ι n H ws xs->ws.all Tw.flat=true->(xs.any fun z=>L2.bz z y)=ws.any fun z=>Tw.bw z u
 |_,_,.nil,_=>rfl
 |_,_,.cons a r,h=>by
  rw[eQ,av] at h;rw[lN,lN,LK a q h.1 g,Dl q g r h.2]
end
theorem in_of(neg:Bool)(ι:Nat->Addr)(h:Tw.Hp)(H:L2.Hp)(w u:Tw.W)(x y:V)(k:Bool)(Q:VK)(r:HR (zx X E) ι h H)(rx:RW X.K ι h.length H w x)(ry:RW X.K ι h.length H u y)(e:Tw.isIn w u h=some k)
  (q:Q (.bl (if neg then !k else k)) H):sQ X.K neg x y H Q:=by
 unfold Tw.isIn at e;cases e1:Tw.bE h u with
 |some kvs=>
  rw[e1] at e;obtain⟨i,rfl,ei⟩:=iB e1;cases ry;obtain⟨xs,q1,q2⟩:=r.aK ei;dsimp only at e;by_cases c:Tw.isKey w=true
  .rw[if_pos c] at e;cases e;obtain⟨key,rfl⟩:=iW rx c;refine .inr ⟨_,_,rfl,kD.k q1,?_⟩;rcases q2.get rx with ⟨g1,g2⟩|⟨w2,v2,g1,g2,_⟩
   .rw[g2];rw[g1] at q;exact q
   .rw[g2];rw[g1] at q;exact q
  .rw[if_neg c] at e;cases e
 |none=>
  rw[e1] at e;dsimp only at e;cases e2:Tw.zM h u with
  |none=>rw[e2] at e;cases e
  |some ws=>
   rw[e2] at e;dsimp only at e;by_cases c:(Tw.flat w&&ws.all Tw.flat)=true
   .rw[if_pos c] at e;cases e;obtain⟨c1,c2⟩:=kx.mp c;have fin:∀(p:Addr)(xs:List V),y=.ref p->(bB X.K H p xs\/df X.K H p xs)->aT X.K ι h.length H ws xs->sQ X.K neg x y H Q:=by
     intro p xs ey sq rr;refine .inl ⟨p,xs,ey,sq,y6 rx c1,we rr c2,?_⟩;unfold Lk;rw[Dl rx c1 rr c2];exact q
    cases ry with
    | @tup a xs us ea ra=>
     have e2:some us=some ws:=e2;cases e2;exact fin a xs rfl (.inr (TupAt.sq ea)) ra
    | @ref i hi=>
     have e2:(match h[i]? with|some (.lst xs)=>some xs|some (.bI xs)=>some xs|_=>none)=some ws:=e2;cases ei:h[i]? with
     |none=>rw[ei] at e2;cases e2
     |some o=>
      rw[ei] at e2;cases o with
      |lst us=>cases e2;obtain⟨xs,q1,q2⟩:=r.obj i _ ei;exact fin _ xs rfl (.inl (bB.of q1)) q2
      |bI us=>cases e2;obtain⟨xs,q1,q2⟩:=r.obj i _ ei;exact fin _ xs rfl (.inl q1.sq) q2
      |aK _=>cases e2
      |ins _ _=>cases e2
      |ax _ _=>cases e2
    |_=>cases e2
   .rw[if_neg c] at e;cases e
theorem Qs(ι:Nat->Addr)(h:Tw.Hp)(H:L2.Hp)(w u:Tw.W)(x y:V)(k:Bool)(Q:VK)(r:HR (zx X E) ι h H)(rx:RW X.K ι h.length H w x)(ry:RW X.K ι h.length H u y)(e:Tw.cmp .isin w u h=some k)(q:Q (.bl k) H):sQ X.K false x y H Q:=
 in_of false ι h H w u x y k Q r rx ry e q
theorem HX(ι:Nat->Addr)(h:Tw.Hp)(H:L2.Hp)(w u:Tw.W)(x y:V)(k:Bool)(Q:VK)(r:HR (zx X E) ι h H)(rx:RW X.K ι h.length H w x)(ry:RW X.K ι h.length H u y)(e:Tw.cmp .notin w u h=some k)(q:Q (.bl k) H):sQ X.K true x y H Q:=by
 have e:(Tw.isIn w u h).map (!·)=some k:=e;cases e2:Tw.isIn w u h with
 |none=>rw[e2] at e;cases e
 |some b=>rw[e2] at e;cases e;exact in_of true ι h H w u x y b Q r rx ry e2 q
theorem C7(ι:Nat->Addr)(h:Tw.Hp)(H:L2.Hp)(w:Tw.W)(x:V)(k:Bool)(r:HR (zx X E) ι h H)(rx:RW X.K ι h.length H w x)(e:Tw.truth h w=some k):EH X.K x H k:=by
 cases rx with
 |ak=>cases e;rfl
 |bl b=>cases e;rfl
 |int i=>cases e;rfl
 |str z hz'=>
  have e:(if z.length<=Tw.SZ then some (!z.isEmpty) else none)=some k:=e;by_cases c:z.length<=Tw.SZ
  .rw[if_pos c] at e;cases e;refine⟨by rw[str_len,fj];exact c,?_⟩;rw[str_len];cases z with
   |nil=>rfl
   |cons c z=>simp;omega
  .rw[if_neg c] at e;cases e
 | @tup a xs ws ea ra=>
  have e:some (!ws.isEmpty)=some k:=e;cases e;refine .inr (.inl ⟨xs,TupAt.sq ea,?_⟩);cases ra<;>rfl
 | @ref i hi=>
  have e:(match h[i]? with|some (.lst xs)=>some (!xs.isEmpty)|some (.bI xs)=>some (!xs.isEmpty)|some (.aK kvs)=>some (!kvs.isEmpty)|_=>none)=some k:=e;cases ei:h[i]? with
  |none=>rw[ei] at e;cases e
  |some o=>
   rw[ei] at e;cases o with
   |lst us=>cases e;obtain⟨xs,q1,q2⟩:=r.obj i _ ei;refine .inl ⟨xs,bB.of q1,?_⟩;cases q2<;>rfl
   |bI us=>cases e;obtain⟨xs,q1,q2⟩:=r.obj i _ ei;refine .inl ⟨xs,q1.sq,?_⟩;cases q2<;>rfl
   |aK us=>cases e;obtain⟨xs,q1,q2⟩:=r.obj i _ ei;refine .inr (.inr ⟨xs,q1,?_⟩);cases q2<;>rfl
   |ins _ _=>cases e
   |ax _ _=>cases e
end
section
variable {X:Cx}{E:XK}{a b c:Expr}{pos:Pos}{da db dc:Tw.Env->Tw.Hp->Tw.R Tw.W}
theorem Ib(ha:PE X a (tE (zx X E) da))(he:∀whole,isTrue a X.env whole=(do let v <-whole;standAt a.pos;holding [v] (truthy v))):PT X a (tT (zx X E) da):=by
 refine PT.imp (Ek ha he) fun σ H Q Z=>Z.g fun ρ Z=>Z.g fun h Z=>Z.g fun ι Z=>Z.g fun at' p=>⟨ρ,h,ι,at',(step at' p).mono fun x H1 Z=>Z.g fun w Z=>Z.g fun h1 Z=>Z.g fun ι1 Z=>Z.g fun at1 Z=>Z.g fun e1 Z=>Z.g fun r1 p1=>?_⟩;cases e:Tw.truth h1 w with
 |none=>rw[e] at p1;exact p1.elim
 |some k=>rw[e] at p1;exact⟨k,C7 ι1 h1 H1 w x k at1.hr r1 e,ah.self (a:=k) p1 at1.hr rfl⟩
theorem NC(ha:PE X a (tE (zx X E) da))(ht:PT X a (tT (zx X E) da)):
  PE X (.UnaryOp .Not a pos) (tE (zx X E) fun ρ h=>(da ρ h).bind fun x h=>Tw.R.of ((Tw.truth h x).map fun b=>.bl (!b)) h)/\
  PT X (.UnaryOp .Not a pos) (tT (zx X E) fun ρ h=>(da ρ h).bind fun x h=>Tw.R.of ((Tw.truth h x).map fun b=>.bl (!b)) h):=by
 constructor
 .intro pins s σ H Q I ⟨ρ,h,ι,at',p⟩;refine UnaryOp_ (az (ha pins s σ H _ I ⟨ρ,h,ι,at',step at' p⟩) fun v s1 Z=>Z.g fun x Z=>Z.g fun H1 Z=>Z.g fun I1 Z=>Z.g fun rv Z=>Z.g fun w Z=>Z.g fun h1 Z=>Z.g fun ι1 Z=>Z.g fun at1 Z=>Z.g fun e1 Z=>Z.g fun r1 p1=>not_of ?_);cases e:Tw.truth h1 w with
  |none=>rw[e] at p1;exact p1.elim
  |some k=>
   rw[e] at p1;refine az (BK pins s1 σ H1 x v (fun k' H'=>Q (.bl (!k')) H') I1 rv ⟨k,C7 ι1 h1 H1 w x k at1.hr r1 e,ah.self (a:=Tw.W.bl (!k)) p1 at1.hr (.bl _)⟩) fun k' s2 Z=>Z.g fun H2 Z=>Z.g fun I2 q=>⟨.bl (!k'),H2,I2,rfl,q⟩
 .refine PT.imp (KR ht) fun σ H Q Z=>Z.g fun ρ Z=>Z.g fun h Z=>Z.g fun ι Z=>Z.g fun at' p=>?_;refine⟨ρ,h,ι,at',?_⟩;simp only[dT,bind_assoc] at p⊢;cases e0:da ρ h with
  |bad=>rw[e0] at p;exact p.elim
  |ax=>rw[e0] at p;exact p
  |ok w h1=>
   rw[e0] at p;simp only[Tw.R.aw] at p⊢;cases e:Tw.truth h1 w with
   |none=>rw[e] at p;exact p.elim
   |some k=>
    rw[e] at p;intro ι' H' b e1 r1 q;cases q;exact p ι' H' (!k) e1 r1 rfl
noncomputable def AZ(da db:Tw.Env->Tw.Hp->Tw.R Tw.W):Tw.Env->Tw.Hp->Tw.R Tw.W:=fun ρ h=>(da ρ h).bind fun x h=>match x with
  |.bl true=>db ρ h
  |.bl false=>.ok (.bl false) h
  |_=>.bad
noncomputable def F6(da db:Tw.Env->Tw.Hp->Tw.R Tw.W):Tw.Env->Tw.Hp->Tw.R Tw.W:=fun ρ h=>(da ρ h).bind fun x h=>match x with
  |.bl false=>db ρ h
  |.bl true=>.ok (.bl true) h
  |_=>.bad
theorem NK{rest:List Expr}(ha:PE X a (tE (zx X E) da))(hb:PE X (.BoolOp .And (b::rest) pos) (tE (zx X E) db)):PE X (.BoolOp .And (a::b::rest) pos) (tE (zx X E) (AZ da db)):=by
 refine PE.imp (Kj ha hb) fun σ H Q Z=>Z.g fun ρ Z=>Z.g fun h Z=>Z.g fun ι Z=>Z.g fun at' p=>⟨ρ,h,ι,at',(step at' p).mono fun x H1 Z=>Z.g fun w Z=>Z.g fun h1 Z=>Z.g fun ι1 Z=>Z.g fun at1 Z=>Z.g fun e1 Z=>Z.g fun r1 p1=>?_⟩;cases r1 with
 |bl k=>
  refine⟨k,rfl,?_⟩;cases k with
  |true=>rw[if_pos rfl];exact⟨ρ,h1,ι1,at1,p1⟩
  |false=>rw[if_neg (by decide)];exact ah.self (a:=Tw.W.bl false) p1 at1.hr (.bl _)
 |_=>exact p1.elim
theorem Q4{rest:List Expr}(ha:PE X a (tE (zx X E) da))(hb:PE X (.BoolOp .Or (b::rest) pos) (tE (zx X E) db)):PE X (.BoolOp .Or (a::b::rest) pos) (tE (zx X E) (F6 da db)):=by
 refine PE.imp (M5 ha hb) fun σ H Q Z=>Z.g fun ρ Z=>Z.g fun h Z=>Z.g fun ι Z=>Z.g fun at' p=>⟨ρ,h,ι,at',(step at' p).mono fun x H1 Z=>Z.g fun w Z=>Z.g fun h1 Z=>Z.g fun ι1 Z=>Z.g fun at1 Z=>Z.g fun e1 Z=>Z.g fun r1 p1=>?_⟩;cases r1 with
 |bl k=>
  refine⟨k,rfl,?_⟩;cases k with
  |true=>rw[if_pos rfl];exact ah.self (a:=Tw.W.bl true) p1 at1.hr (.bl _)
  |false=>rw[if_neg (by decide)];exact⟨ρ,h1,ι1,at1,p1⟩
 |_=>exact p1.elim
theorem w_and{rest:List Expr}(ha:PT X a (tT (zx X E) da))(hb:PW X (.BoolOp .And (b::rest) pos) (tT (zx X E) db)):PW X (.BoolOp .And (a::b::rest) pos) (tT (zx X E) (AZ da db)):=by
 refine PW.imp (JI ha hb) fun σ H Q Z=>Z.g fun ρ Z=>Z.g fun h Z=>Z.g fun ι Z=>Z.g fun at' p=>⟨ρ,h,ι,at',?_⟩;simp only[dT,AZ,bind_assoc] at p⊢;cases e0:da ρ h with
 |bad=>rw[e0] at p;exact p.elim
 |ax=>rw[e0] at p;exact p
 |ok w h1=>
  rw[e0] at p;simp only[Tw.R.aw] at p⊢;cases w with
  |bl k=>
   intro ι' H' k' e1 r1 q;cases q;cases k with
   |true=>rw[if_pos rfl];exact⟨ρ,h1,ι',at'.later e1 r1,ah.later p e1⟩
   |false=>rw[if_neg (by decide)];exact ah.self (a:=false) (ah.later p e1) r1 rfl
  |_=>exact p.elim
theorem w_or{rest:List Expr}(ha:PT X a (tT (zx X E) da))(hb:PW X (.BoolOp .Or (b::rest) pos) (tT (zx X E) db)):PW X (.BoolOp .Or (a::b::rest) pos) (tT (zx X E) (F6 da db)):=by
 refine PW.imp (Ni ha hb) fun σ H Q Z=>Z.g fun ρ Z=>Z.g fun h Z=>Z.g fun ι Z=>Z.g fun at' p=>⟨ρ,h,ι,at',?_⟩;simp only[dT,F6,bind_assoc] at p⊢;cases e0:da ρ h with
 |bad=>rw[e0] at p;exact p.elim
 |ax=>rw[e0] at p;exact p
 |ok w h1=>
  rw[e0] at p;simp only[Tw.R.aw] at p⊢;cases w with
  |bl k=>
   intro ι' H' k' e1 r1 q;cases q;cases k with
   |true=>rw[if_pos rfl];exact ah.self (a:=true) (ah.later p e1) r1 rfl
   |false=>rw[if_neg (by decide)];exact⟨ρ,h1,ι',at'.later e1 r1,ah.later p e1⟩
  |_=>exact p.elim
theorem Nt(hc:PT X c (tT (zx X E) dc))(ha:PE X a (tE (zx X E) da))(hb:PE X b (tE (zx X E) db)):PE X (.IfExp c a b pos) (tE (zx X E) fun ρ h=>(dc ρ h).bind fun x h=>match Tw.truth h x with
  |some true=>da ρ h
  |some false=>db ρ h
  |none=>.bad):=by
 refine PE.imp (Ef hc ha hb) fun σ H Q Z=>Z.g fun ρ Z=>Z.g fun h Z=>Z.g fun ι Z=>Z.g fun at' p=>⟨ρ,h,ι,at',?_⟩;simp only[dT] at p⊢;cases e0:dc ρ h with
 |bad=>rw[e0] at p;exact p.elim
 |ax=>rw[e0] at p;exact p
 |ok w h1=>
  rw[e0] at p;simp only[Tw.R.aw] at p⊢;cases e:Tw.truth h1 w with
  |none=>rw[e] at p;exact p.elim
  |some k=>
   rw[e] at p;intro ι' H' k' e1 r1 q;cases q;cases k with
   |true=>rw[if_pos rfl];exact⟨ρ,h1,ι',at'.later e1 r1,ah.later p e1⟩
   |false=>rw[if_neg (by decide)];exact⟨ρ,h1,ι',at'.later e1 r1,ah.later p e1⟩
theorem Ir(hu:X.A.units+1<cLine):nZ X (fun x y H Q=>∃a v,x=.ref a/\kD H a y (some v)/\Q v H):=by
 intro value slice pins s σ H x y v u Q I rx ry ⟨a,z,ex,g,q⟩ hs;subst ex;cases rx;have hT:=xZ I g;unfold subscriptTail;refine af ?_;rw[getitemInPython_of_ne hT.not_modules];refine af (pS hT PySem.F.slot_dict_getitem.lookup ?_);have fin:wpAny (model X.prog X.w) X.A (subscripted slice false (.ref a) u) (fun r s₃=>wpAny (model X.prog X.w) X.A (letTemporaryGo value (.ref a) r >>= fun _=>pure r) (EP X pins σ Q) X.xe s₃) X.xe s:=by rw[hs];exact wpAny_operating (az (Ca hu I g ry fun w' s3 I3 rw'=>(⟨z,H,I3,rw',q⟩:EP X pins σ Q w' s3)) fun r s₃ h₃=>af (wpAny_letTemporaryGo (aj h₃)))
 first
  |exact aj (af fin)
  |exact af (aj (af fin))
  |exact af fin
def Ls(K:W.Frag):R2:=fun x y H Q=>Oy K x y H Q\/∃a v,x=.ref a/\kD H a y (some v)/\Q v H
theorem KG(ι:Nat->Addr)(h:Tw.Hp)(H:L2.Hp)(w u:Tw.W)(x y:V)(Q:VK)(r:HR (zx X E) ι h H)(rx:RW X.K ι h.length H w x)(ry:RW X.K ι h.length H u y)(p:ah (zx X E) RE ι h H (Tw.idx w u h) Q):Ls X.K x y H Q:=by
 have lst:∀(i:Nat)(hi:i<h.length)(ws:List Tw.W)(xs:List V),bB X.K H (ι i) xs->aT X.K ι h.length H ws xs->ah (zx X E) RE ι h H (match u with | .int k=>Tw.R.of (Tw.cg ws k) h|_=>.bad) Q->Ls X.K (.ref (ι i)) y H Q:=by
  intro i hi ws xs sq rr p;cases ry with
  |int k=>
   dsimp only at p;cases e:Tw.cg ws k with
   |none=>rw[e] at p;exact p.elim
   |some w'=>
    rw[e] at p;obtain⟨v,q1,q2⟩:=rr.cg e;exact .inl (.inl ⟨ι i,xs,k,v,rfl,rfl,sq,q1,ah.self (a:=w') p r q2⟩)
  |_=>exact p.elim
 cases rx with
 | @tup a xs ws ea ra=>
  cases ry with
  |int k=>
   have p:ah (zx X E) RE ι h H (Tw.R.of (Tw.cg ws k) h) Q:=p;cases e:Tw.cg ws k with
   |none=>rw[e] at p;exact p.elim
   |some w'=>
    rw[e] at p;obtain⟨v,q1,q2⟩:=ra.cg e;exact .inl (.inr (.inl ⟨a,xs,k,v,rfl,rfl,TupAt.sq ea,q1,ah.self (a:=w') p r q2⟩))
  |_=>exact p.elim
 |str z hz=>
  cases ry with
  |int k=>
   have p:ah (zx X E) RE ι h H (if z.length<=Tw.SZ then Tw.R.of ((Tw.cg z k).map fun c=>Tw.W.str [c]) h else .bad) Q:=p;by_cases c:z.length<=Tw.SZ
   .rw[if_pos c] at p;cases e:Tw.cg z k with
    |none=>rw[e] at p;exact p.elim
    |some d=>
     rw[e] at p;refine .inl (.inr (.inr ⟨_,k,d,rfl,rfl,by rw[str_len,fj];exact c,?_,?_⟩))
     .show L2.cg z.toArray.toList k=some d;rw[List.toList_toArray];exact e
     .have hd:d<0x110000:=by
       unfold Tw.cg at e;cases e2:Tw.iz z.length k with
       |none=>rw[e2] at e;cases e
       |some j=>rw[e2] at e;exact hz d (wd e)
      exact ah.self (a:=Tw.W.str [d]) p r (.str [d] fun c hc=>by simp at hc;subst hc;exact hd)
   .rw[if_neg c] at p;exact p.elim
  |_=>exact p.elim
 | @ref i hi=>
  cases ei:h[i]? with
  |none=>
   have:h.length<=i:=by
    rcases xJ i h.length with z|z
    .rw[iM z] at ei;cases ei
    .exact z
   omega
  |some o=>
   cases o with
   |lst ws=>
    obtain⟨xs,q1,q2⟩:=r.obj i _ ei;refine lst i hi ws xs (bB.of q1) q2 ?_;simp only[Tw.idx,ei] at p;cases u<;>exact p
   |bI ws=>
    obtain⟨xs,q1,q2⟩:=r.obj i _ ei;refine lst i hi ws xs q1.sq q2 ?_;simp only[Tw.idx,ei] at p;cases u<;>exact p
   |aK kvs=>
    obtain⟨xs,q1,q2⟩:=r.obj i _ ei;have p:ah (zx X E) RE ι h H (if Tw.isKey u=true then Tw.R.of (Tw.lM u kvs) h else .bad) Q:=by simp only[Tw.idx,ei] at p;cases u<;>exact p
    by_cases c:Tw.isKey u=true
    .rw[if_pos c] at p;obtain⟨k,rfl⟩:=iW ry c;rcases q2.get ry with ⟨g1,g2⟩|⟨w2,v2,g1,g2,g3⟩
     .rw[g1] at p;exact p.elim
     .rw[g1] at p;refine .inr ⟨_,v2,rfl,?_,ah.self (a:=w2) p r g3⟩;have:=kD.k (k:=k) q1;rw[g2] at this;exact this
    .rw[if_neg c] at p;exact p.elim
   |ins _ _=>exfalso;cases ry<;>simp[Tw.idx,ei] at p<;>exact p
   |ax _ _=>exfalso;cases ry<;>simp[Tw.idx,ei] at p<;>exact p
 |_=>cases ry<;>exact p.elim
theorem MX(hu:X.A.units+1<cLine)(ha:PE X a (tE (zx X E) da))(hb:PE X b (tE (zx X E) db))(hs:sP b):PE X (.Subscript a b pos) (tE (zx X E) fun ρ h=>(da ρ h).bind fun x h=>(db ρ h).bind fun y h=>Tw.idx x y h):=
 PE.imp (Gh (K7.or (Ir hu)) ha hb hs) (two KG)
theorem EG(x:Tw.S)(l u:Option (Int×Tok)):(slicePicked ⟨x.toArray⟩ l u none).filterMap (x.toArray[·]?)=Tw.cut x (l.map (·.1)) (u.map (·.1))/\
  (slicePicked ⟨x.toArray⟩ l u none)=(List.range (Tw.aV x.length x.length (u.map (·.1))-Tw.aV x.length 0 (l.map (·.1)))).map (Tw.aV x.length 0 (l.map (·.1))+ ·):=by
 have e:slicePicked ⟨x.toArray⟩ l u none=Builtin.Str.strSliceIndices (l.map (·.1)) (u.map (·.1)) 1 x.length:=by unfold slicePicked;rw[str_len];rfl
 have e2:Builtin.Str.strSliceIndices (l.map (·.1)) (u.map (·.1)) 1 x.length=sliceRange (sliceBounds (l.map (·.1)) (u.map (·.1)) none x.length).1 (sliceBounds (l.map (·.1)) (u.map (·.1)) none x.length).2.1 1:=rfl;obtain⟨h1,h2,h3⟩:=oR (l.map (·.1)) (u.map (·.1)) x.length;rw[e,e2,h1,h2,sliceRange_one,pick_run];unfold Tw.cut;rw[kn,kn];exact⟨by simp,rfl⟩
def Jt:V->Option Int->Option Int->L2.Hp->VK->Prop:=fun x lo hi H Q=>∃z:Tw.S,x=.str ⟨z.toArray⟩/\z.length<=sizeLine/\Q (.str ⟨(Tw.cut z lo hi).toArray⟩) H
theorem part_of(p:IsPart v o):∃l:Option (Int×Tok),v=partValue l/\o=l.map (·.1):=by
 cases p with
 |none=>exact⟨none,rfl,rfl⟩
 |int i t=>exact⟨some (i,t),rfl,rfl⟩
theorem IH:rq X Jt:=by
 intro pins s σ H x v vl vu lo hi sl Q I rx hs pl pu ⟨z,ex,lz,q⟩;subst ex;obtain⟨t,rfl⟩:=rx;obtain⟨l,rfl,rfl⟩:=part_of pl;obtain⟨u,rfl,rfl⟩:=part_of pu;refine⟨"str",_,PySem.F.slot_str_getitem.lookup,typeIs_str s _ t,?_⟩;refine wpAny_getItem_str_slice (l:=l) (u:=u) (st:=none) hs rfl ?_;obtain⟨h1,h2⟩:=EG z l u;unfold sliceMade;by_cases c:((((none:Option (Int×Tok)).map (·.1)).getD 1== 1&&(slicePicked ⟨z.toArray⟩ l u none).length== (⟨z.toArray⟩:Str).length)=true)
 .rw[if_pos c];have c2:(slicePicked ⟨z.toArray⟩ l u none).length=z.length:=by
   have:=(kx.mp c).2;rw[str_len] at this;simpa using this
  rw[h2,gC,List.length_range] at c2;have ez:Tw.cut z (l.map (·.1)) (u.map (·.1))=z:=by
   have b1:Tw.aV z.length z.length (u.map (·.1))<=z.length:=by rw[kn];exact HT.Dp _ _ (aA _) _
   unfold Tw.cut;by_cases zl:z.length=0
   .have:z=[]:=List.eq_nil_of_length_eq_zero zl;subst this;simp
   .have b2:Tw.aV z.length 0 (l.map (·.1))=0:=by omega
    have b3:Tw.aV z.length z.length (u.map (·.1))=z.length:=by omega
    rw[b2,b3];simp
  rw[ez] at q;exact⟨.str ⟨z.toArray⟩,H,I,⟨t,rfl⟩,q⟩
 .rw[if_neg c];have e:(⟨((slicePicked ⟨z.toArray⟩ l u none).filterMap ((⟨z.toArray⟩:Str).cps[·]?)).toArray⟩:Str)=⟨(Tw.cut z (l.map (·.1)) (u.map (·.1))).toArray⟩:=by
   rw[show ((slicePicked ⟨z.toArray⟩ l u none).filterMap ((⟨z.toArray⟩:Str).cps[·]?))=_ from h1]
  rw[e];have lc:(⟨(Tw.cut z (l.map (·.1)) (u.map (·.1))).toArray⟩:Str).length<=sizeLine:=by rw[str_len];unfold Tw.cut;rw[sU,vX];omega
  exact⟨lc,.str ⟨(Tw.cut z (l.map (·.1)) (u.map (·.1))).toArray⟩,H,I.tok _,⟨_,rfl⟩,q⟩
end
section
variable {X:Cx}{E:XK}{a b c:Expr}{pos:Pos}{da db dc:Tw.Env->Tw.Hp->Tw.R Tw.W}
theorem Hg(hz:ql z)(lo hi:Option Int):ql (Tw.cut z lo hi):=fun c hc=>hz c (List.mem_of_mem_drop (List.mem_of_mem_take hc))
abbrev B8(K:Zk)(d:Tw.Env->Tw.Hp->Tw.R (Option Tw.W)):TO:=fun σ H Q=>∃ρ h ι,At K ι h H ρ σ/\ah K (fun _ _ _ _ (a:Option Tw.W) (b:Option Tw.W)=>a=b) ι h H (d ρ h) fun o H1=>∃i,Tw.ix o=some i/\Q i H1
theorem DR:PO X none (B8 (zx X E) fun _ h=>.ok none h):=fun pins s σ H Q I Z=>Z.g fun ρ Z=>Z.g fun h Z=>Z.g fun ι Z=>Z.g fun at' p=>by
 obtain⟨i,e,q⟩:=p.self at'.hr rfl;cases e;exact Ht pins s σ H Q I q
theorem Dy(ha:PE X a (tE (zx X E) da)):PO X (some a) (B8 (zx X E) fun ρ h=>(da ρ h).bind fun x h=>.ok (some x) h):=fun pins s σ H Q I Z=>Z.g fun ρ Z=>Z.g fun h Z=>Z.g fun ι Z=>Z.g fun at' p=>by
 refine Hw ha pins s σ H Q I ⟨ρ,h,ι,at',(step at' p).mono fun x H1 Z=>Z.g fun w Z=>Z.g fun h1 Z=>Z.g fun ι1 Z=>Z.g fun at1 Z=>Z.g fun e1 Z=>Z.g fun r1 p1=>?_⟩;obtain⟨i,e,q⟩:=ah.self (a:=some w) p1 at1.hr rfl;cases r1 with
 |int k=>cases e;exact⟨k,rfl,q⟩
 |_=>cases e
def LV(K:W.Frag):V->Option Int->Option Int->L2.Hp->VK->Prop:=fun x lo hi H Q=>Ks K x lo hi H Q\/JF K x lo hi H Q\/Jt x lo hi H Q
theorem Kw:rq X (LV X.K):=Mc.or (GV.or IH)
theorem Fw{ι:Nat->Addr}(r:HR (zx X E) ι h H)(rx:RW X.K ι h.length H w x)(el:Tw.ix l=some i)(eu:Tw.ix u=some j)
  (p:ah (zx X E) RE ι h H (Tw.slice w l u h) Q):LV X.K x i j H Q:=by
 unfold Tw.slice at p;rw[el,eu] at p;dsimp only at p;cases rx with
 | @tup a xs ws ea ra=>
  dsimp only at p;by_cases c:Tw.aV ws.length 0 i=0/\Tw.aV ws.length ws.length j=ws.length
  .rw[if_pos c] at p;exact p.elim
  .rw[if_neg c] at p;refine .inl ⟨a,xs,rfl,TupAt.sq ea,?_,p.tup r (ra.cut i j)⟩;rw[<-ra.length,<-kn,<-kn];exact c
 |str z hz=>
  dsimp only at p;by_cases c:z.length<=Tw.SZ
  .rw[if_pos c] at p;exact .inr (.inr ⟨z,rfl,by rw[fj];exact c,p.self r (.str _ (Hg hz i j))⟩)
  .rw[if_neg c] at p;exact p.elim
 | @ref k hk=>
  dsimp only at p;cases ei:h[k]? with
  |none=>rw[ei] at p;exact p.elim
  |some o=>
   rw[ei] at p;cases o with
   |lst ws=>obtain⟨xs,q1,q2⟩:=r.obj k _ ei;exact .inr (.inl ⟨_,xs,rfl,bB.of q1,p.lst r (q2.cut i j)⟩)
   |bI ws=>obtain⟨xs,q1,q2⟩:=r.obj k _ ei;exact .inr (.inl ⟨_,xs,rfl,q1.sq,p.lst r (q2.cut i j)⟩)
   |aK _=>exact p.elim
   |ins _ _=>exact p.elim
   |ax _ _=>exact p.elim
 |_=>exact p.elim
theorem GI{lo hi:Option Expr}{p2:Pos}{dl du:Tw.Env->Tw.Hp->Tw.R (Option Tw.W)}(ha:PE X a (tE (zx X E) da))(hl:PO X lo (B8 (zx X E) dl))(hu:PO X hi (B8 (zx X E) du)):
  PE X (.Subscript a (.Slice lo hi none p2) pos) (tE (zx X E) fun ρ h=>(da ρ h).bind fun x h=>(dl ρ h).bind fun l h=>(du ρ h).gv.bind fun u h=>Tw.slice x l u h):=by
 refine PE.imp (EZ Kw ha hl hu) fun σ H Q Z=>Z.g fun ρ Z=>Z.g fun h Z=>Z.g fun ι Z=>Z.g fun at' p=>⟨ρ,h,ι,at',(step at' p).mono fun x H1 Z=>Z.g fun w Z=>Z.g fun h1 Z=>Z.g fun ι1 Z=>Z.g fun at1 Z=>Z.g fun e1 Z=>Z.g fun r1 p1=>?_⟩;refine⟨ρ,h1,ι1,at1,?_⟩;cases el:dl ρ h1 with
 |bad=>rw[el] at p1;exact p1.elim
 |ax=>rw[el] at p1;exact p1
 |ok l h2=>
  rw[el] at p1;simp only[Tw.R.aw] at p1;intro ι2 H2 l' e2 r2 q2;cases q2;cases eu:du ρ h2 with
  |bad=>rw[eu] at p1;exact p1.elim
  |ax=>rw[eu] at p1;exact p1.elim
  |ok u h3=>
   rw[eu] at p1;simp only[Tw.R.lS,Tw.R.aw] at p1;have pl:∃i,Tw.ix l=some i:=by
    cases e:Tw.ix l with
    |some i=>exact⟨i,rfl⟩
    |none=>unfold Tw.slice at p1;rw[e] at p1;exact p1.elim
   have pu:∃i,Tw.ix u=some i:=by
    cases e:Tw.ix u with
    |some i=>exact⟨i,rfl⟩
    |none=>unfold Tw.slice at p1;rw[e] at p1;obtain⟨i,e'⟩:=pl;rw[e'] at p1;exact p1.elim
   obtain⟨i,ei⟩:=pl;obtain⟨j,ej⟩:=pu;refine⟨i,ei,ρ,h2,ι2,at1.later e2 r2,?_⟩;rw[eu];intro ι3 H3 u' e3 r3 q3;cases q3;have p3:=ah.later (ah.later p1 e2) e3;exact⟨j,ej,Fw r3 ((r1.keep (e2.keeps at1.hr)).keep (e3.keeps r2)) ei ej p3⟩
theorem zD{r:List V->L2.Hp->VK->Prop}(hp:PE X (.Call (.Name x p) [a] [] pos) (JA r (nq (tE (zx X E) da) xP)))
  (hr:∀(ι:Nat->Addr)(h:Tw.Hp)(H:L2.Hp)(w:Tw.W)(x:V)(Q:VK),HR (zx X E) ι h H->RW X.K ι h.length H w x->ah (zx X E) RE ι h H (Tw.builtin o w h) Q->r [x] H Q):
  PE X (.Call (.Name x p) [a] [] pos) (tE (zx X E) fun ρ h=>(da ρ h).bind fun x h=>Tw.builtin o x h):=
 PE.imp hp fun σ H Q Z=>Z.g fun ρ Z=>Z.g fun h Z=>Z.g fun ι Z=>Z.g fun at' p=>⟨ρ,h,ι,at',(step at' p).mono fun x H1 Z=>Z.g fun w Z=>Z.g fun h1 Z=>Z.g fun ι1 Z=>Z.g fun at1 Z=>Z.g fun e1 Z=>Z.g fun r1 p1=>hr ι1 h1 H1 w x Q at1.hr r1 p1⟩
noncomputable def FO(K:W.Frag):List V->L2.Hp->VK->Prop:=fun xs H Q=>(∃p ys,xs=[.ref p]/\(bB K H p ys\/df K H p ys)/\Q (.int ys.length) H)\/(∃z,xs=[.str z]/\z.length<=sizeLine/\Q (.int z.length) H)\/∃a kvs,xs=[V.ref a]/\H a=some (.dK kvs)/\Q (.int kvs.length) H
theorem Dg:eV X (.builtin "len") (FO X.K):=w9.or (w4.or Dj)
theorem Kk(ι:Nat->Addr)(h:Tw.Hp)(H:L2.Hp)(w:Tw.W)(x:V)(Q:VK)(r:HR (zx X E) ι h H)(rx:RW X.K ι h.length H w x)(p:ah (zx X E) RE ι h H (Tw.builtin .len w h) Q):FO X.K [x] H Q:=by
 unfold Tw.builtin at p;dsimp only at p;cases rx with
 |str z hz=>
  dsimp only at p;by_cases c:z.length<=Tw.SZ
  .rw[if_pos c] at p;refine .inr (.inl ⟨_,rfl,by rw[str_len,fj];exact c,?_⟩);rw[str_len];exact p.self r (.int _)
  .rw[if_neg c] at p;exact p.elim
 | @tup a xs ws ea ra=>exact .inl ⟨a,xs,rfl,.inr (TupAt.sq ea),by rw[<-ra.length];exact p.self r (.int _)⟩
 | @ref k hk=>
  dsimp only at p;cases ei:h[k]? with
  |none=>rw[ei] at p;exact p.elim
  |some o=>
   rw[ei] at p;cases o with
   |lst ws=>obtain⟨xs,q1,q2⟩:=r.obj k _ ei;exact .inl ⟨_,xs,rfl,.inl (bB.of q1),by rw[<-q2.length];exact p.self r (.int _)⟩
   |bI ws=>obtain⟨xs,q1,q2⟩:=r.obj k _ ei;exact .inl ⟨_,xs,rfl,.inl q1.sq,by rw[<-q2.length];exact p.self r (.int _)⟩
   |aK kvs=>obtain⟨xs,q1,q2⟩:=r.obj k _ ei;exact .inr (.inr ⟨_,xs,rfl,q1,by rw[<-q2.length];exact p.self r (.int _)⟩)
   |ins _ _=>exact p.elim
   |ax _ _=>exact p.elim
 |_=>exact p.elim
theorem Cz:eV X (.type "tuple") (fun xs H Q=>∃p ys,xs=[.ref p]/\((bB X.K H p ys/\∀l,H l=none->Q (.ref l) (upd H l (.tup ys)))\/(df X.K H p ys/\Q (.ref p) H))):=uQ
theorem EB(ι:Nat->Addr)(h:Tw.Hp)(H:L2.Hp)(w:Tw.W)(x:V)(Q:VK)(r:HR (zx X E) ι h H)(rx:RW X.K ι h.length H w x)(p:ah (zx X E) RE ι h H (Tw.builtin .tuple w h) Q):
  ∃p ys,[x]=[V.ref p]/\((bB X.K H p ys/\∀l,H l=none->Q (.ref l) (upd H l (.tup ys)))\/(df X.K H p ys/\Q (.ref p) H)):=by
 unfold Tw.builtin at p;dsimp only at p;cases rx with
 | @tup a xs ws ea ra=>exact⟨a,xs,rfl,.inr ⟨TupAt.sq ea,p.self r (.tup ea ra)⟩⟩
 | @ref k hk=>
  dsimp only at p;cases ei:h[k]? with
  |none=>rw[ei] at p;exact p.elim
  |some o=>
   rw[ei] at p;cases o with
   |lst ws=>obtain⟨xs,q1,q2⟩:=r.obj k _ ei;exact⟨_,xs,rfl,.inl ⟨bB.of q1,p.tup r q2⟩⟩
   |bI ws=>obtain⟨xs,q1,q2⟩:=r.obj k _ ei;exact⟨_,xs,rfl,.inl ⟨q1.sq,p.tup r q2⟩⟩
   |aK kvs=>exact p.elim
   |ins _ _=>exact p.elim
   |ax _ _=>exact p.elim
 |_=>exact p.elim
theorem uw:∀{kvs:List (Key×V)}{vs:List (Key×Value)},Paired (fun (p:Key×V) (q:Key×Value)=>p.1=q.1/\RelV p.2 q.2) kvs vs->∀us:List Value,us.length=vs.length->
  (∀(j:Nat)(v:Value),us[j]?=some v->∃k x,vs[j]?=some (k,x)/\(b7 P w).is k v=true)->Vals (kvs.map fun kv=>kV kv.1) us
 |_,_,.nil,[],_,_=>.nil
 |_,_,.nil,_::_,hn,_=>by cases hn
 |_,_,.cons _ _,[],hn,_=>by cases hn
 |_,_,.cons (a:=p) (b:=q') hp t,u::us,hn,hall=>by
  refine .cons ?_ (uw t us (by simpa using hn) fun j v e=>by simpa using hall (j+1) v (by simpa using e));obtain⟨k,x,e,hk⟩:=hall 0 u rfl;have e:q'=(k,x):=by simpa using e
  subst e;have hk:iN k u=true:=hk;show RelV (kV p.1) u;rw[hp.1];rcases ck hk with ⟨i,t,e1,rfl⟩|⟨y,t,e1,rfl⟩
  .show RelV (kV k) _;rw[e1];exact⟨t,rfl⟩
  .show RelV (kV k) _;rw[e1];exact⟨t,rfl⟩
theorem Bi(hc:X.calm=true):eV X (.type "list") (fun xs H Q=>∃a kvs,xs=[V.ref a]/\H a=some (.dK kvs)/\∀l,H l=none->Q (.ref l) (upd H l (.lst (kvs.map fun kv=>kV kv.1)))):=by
 intro pins s σ H xs us Q I r ⟨a,kvs,ex,ea,q⟩;subst ex;obtain⟨u,rfl,ru⟩:=vals1 r;cases ru;obtain⟨z,hd,vs,rel,dd⟩:=m7 I.ao ea;obtain⟨ep,da⟩:=dd.dictAt;refine W.kdl_call (W.kdl_dict hd) (I.ok.hd hc) da (by rw[<-rel.length];exact z) fun h' tk acc' c' hk hS hi=>?_;have rv:Vals (kvs.map fun kv=>kV kv.1) acc'.toList:=by
  have hn:acc'.toList.length=vs.length:=by rw[GD];exact hi.1
  exact uw rel acc'.toList hn fun j v e=>hi.2 j v (by rw[<-Array.getElem?_toList];exact e)
 exact⟨.ref s.heap.objs.size,_,I.laid (a:=s.heap.objs.size) (o:=.lst _) (t':=tk) hk (aA _) ⟨by rw[gC];exact z,acc'.toList,c',rv,by simpa using hS⟩,rfl,q _ (I.ao.fresh (aA _))⟩
theorem RD.keys{ι:Nat->Addr}:∀{kvs:List (Tw.W×Tw.W)}{xs:List (Key×V)},RD X.K ι n H kvs xs->aT X.K ι n H (kvs.map (·.1)) (xs.map fun kv=>kV kv.1)
 |_,_,.nil=>.nil
 |_,_,.cons _ a _ r=>.cons a r.keys
def BB(K:W.Frag):List V->L2.Hp->VK->Prop:=fun xs H Q=>(∃p ys,xs=[.ref p]/\(bB K H p ys\/df K H p ys)/\∀l,H l=none->Q (.ref l) (upd H l (.lst ys)))\/
 ∃a kvs,xs=[V.ref a]/\H a=some (.dK kvs)/\∀l,H l=none->Q (.ref l) (upd H l (.lst (kvs.map fun kv=>kV kv.1)))
theorem Aa(hc:X.calm=true):eV X (.type "list") (BB X.K):=vY.or (Bi hc)
theorem GO(ι:Nat->Addr)(h:Tw.Hp)(H:L2.Hp)(w:Tw.W)(x:V)(Q:VK)(r:HR (zx X E) ι h H)(rx:RW X.K ι h.length H w x)(p:ah (zx X E) RE ι h H (Tw.builtin .list w h) Q):BB X.K [x] H Q:=by
 unfold Tw.builtin at p;dsimp only at p;cases rx with
 | @tup a xs ws ea ra=>exact .inl ⟨a,xs,rfl,.inr (TupAt.sq ea),p.lst r ra⟩
 | @ref k hk=>
  dsimp only at p;cases ei:h[k]? with
  |none=>rw[ei] at p;exact p.elim
  |some o=>
   rw[ei] at p;cases o with
   |lst ws=>obtain⟨xs,q1,q2⟩:=r.obj k _ ei;exact .inl ⟨_,xs,rfl,.inl (bB.of q1),p.lst r q2⟩
   |bI ws=>obtain⟨xs,q1,q2⟩:=r.obj k _ ei;exact .inl ⟨_,xs,rfl,.inl q1.sq,p.lst r q2⟩
   |aK kvs=>obtain⟨xs,q1,q2⟩:=r.obj k _ ei;exact .inr ⟨_,xs,rfl,q1,p.lst r q2.keys⟩
   |ins _ _=>exact p.elim
   |ax _ _=>exact p.elim
 |_=>exact p.elim
end
section
variable {X:Cx}{E:XK}{a b c o e f:Expr}{pos apos cpos:Pos}{da db dc d1 d2:Tw.Env->Tw.Hp->Tw.R Tw.W}
def eW(K:W.Frag)(mg:Str->Option Value)(hv:Option Value)(F:List Tw.W->Tw.Hp->Tw.R Tw.W):Sp:=fun vs H Q E=>∃ws h ι,HR ⟨K,mg,E,hv⟩ ι h H/\aT K ι h.length H ws vs/\ah ⟨K,mg,E,hv⟩ RE ι h H (F ws h) Q
theorem s_call{CX:eL}{k n:Nat}{g:Addr}{fd:FuncData}{ps:List Str}{F:List Tw.W->Tw.Hp->Tw.R Tw.W}{x:Str}{p:Pos}{es:List Expr}{ds:Tw.Env->Tw.Hp->Tw.R (List Tw.W)}
  (G:bV X.A.handled X.prog X.w X.K X.mg X.base CX k g fd ps (eW X.K X.mg X.A.handled F)) (hx:Passes CX X E) (hr:bK X.A.handled k X.A) (hg:Gl X x) (hm:X.mg x=some (.ref g)) (hk:W.keepIn X.K (.ref g)=true) (hb:Binds X.K fd ps [])
  (hs:PA X (e::es) (tA (zx X E) n ds)) (hd:(x== ("__debug__" : Str))=false) (hst:starEach (e::es) X.env=(false,eval e X.env)::starEach es X.env) (hpl:(backTo pos (starEach es X.env)).any (·.1)=false):
  PE X (.Call (.Name x p) (e::es) [] pos) (tE (zx X E) fun ρ h=>(ds ρ h).bind fun xs h=>F xs h):=by
 refine PE.imp (HV (dvs:=[]) (ds:=[]) (E:=E) G hr hg hm hk hb .nil hx hs hd hst hpl) fun σ H Q ⟨ρ,h,ι,at',p⟩=>⟨ρ,h,ι,at',(step at' p).mono fun xs H1 ⟨ws,h1,ι1,at1,e1,r1,p1⟩=>?_⟩;rw[hJ];exact⟨ws,h1,ι1,at1.hr,r1.1,p1⟩
structure Me(X:Cx)(o:Expr)(m:Str)(apos:Pos)(es:List Expr)(cpos:Pos):Prop where
 base:attributeBase o m X.env (eval o X.env)=eval o X.env
 wt:((backTo cpos (starEach es X.env)).all (fun x=>!x.1)&&(backToKw cpos (keywordEach [] X.env)).all (fun x=>x.1.isSome)
  && decide (es.length+([]:List Keyword).length+(if ([]:List Keyword).isEmpty then 0 else 1)<30))=true
 line:(apos.endLine== cpos.line)=true
def yJ(m:Tw.Mt)(da db:Tw.Env->Tw.Hp->Tw.R Tw.W):Tw.Env->Tw.Hp->Tw.R Tw.W:=fun ρ h=>(da ρ h).bind fun x h=>if Tw.qT m x h then (db ρ h).bind fun y h=>Tw.method m x [y] h else .bad
theorem ah.ite{K:Zk}{α β:Type}{R:Rl α β}{ι:Nat->Addr}{h:Tw.Hp}{H:L2.Hp}{c:Bool}{m:Tw.R α}{Q:β->L2.Hp->Prop}(p:ah K R ι h H (if c=true then m else .bad) Q):c=true/\ah K R ι h H m Q:=by
 cases c with
 |true=>exact⟨rfl,by simpa using p⟩
 |false=>rw[if_neg (by decide)] at p;exact p.elim
theorem C4{w:Tw.W}{h:Tw.Hp}(e:Tw.qT .append w h=true):∃i ws,w=.ref i/\h[i]?=some (.lst ws):=by
 cases w with
 |ref i=>
  have e:(match h[i]? with|some (.lst _)=>true|_=>false)=true:=e;cases ei:h[i]? with
  |none=>rw[ei] at e;cases e
  |some o=>
   rw[ei] at e;cases o with
   |lst ws=>exact⟨i,ws,rfl,ei⟩
   |_=>cases e
 |_=>cases e
theorem D7(me:Me X o "append" apos [e] cpos)(hst:starEach [e] X.env=[(false,eval e X.env)])(ho:PE X o (tE (zx X E) da))(he:PE X e (tE (zx X E) db)):
  PE X (.Call (.Attribute o "append" apos) [e] [] cpos) (tE (zx X E) (yJ .append da db)):=by
 refine PE.imp (Bj AW PySem.F.slot_list_append PySem.F.type_list_append uz ho (cE he dD hst) me.base me.wt me.line hst rfl) fun σ H Q ⟨ρ,h,ι,at',p⟩=>?_;refine⟨ρ,h,ι,at',(step at' p).mono fun x H1 ⟨w,h1,ι1,at1,e1,r1,p1⟩=>?_⟩;obtain⟨hc,p1⟩:=ah.ite p1;obtain⟨i,ws,rfl,ei⟩:=C4 hc;cases r1 with
 |ref hi=>
  obtain⟨xs,q1,q2⟩:=at1.hr.lst ei;refine⟨.inl ⟨rfl,xs,bB.of q1⟩,ρ,h1,ι1,at1,(step at1 p1).mono fun y H2 ⟨u,h2,ι2,at2,e2,r2,p2⟩=>?_⟩;have p2:ah (zx X E) RE ι2 h2 H2 (match h2[i]? with
   |some (.lst ys)=>if ys.length<Tw.SZ then .ok .ak (h2.set i (.lst (ys++[u]))) else .bad
   |_=>.bad) Q:=p2
  have same:ι2 i=ι1 i:=e2.same i hi;cases ej:h2[i]? with
  |none=>rw[ej] at p2;exact p2.elim
  |some oj=>
   rw[ej] at p2;cases oj with
   |lst ys=>
    dsimp only at p2;by_cases c:ys.length<Tw.SZ
    .rw[if_pos c] at p2;obtain⟨zs,g1,g2⟩:=at2.hr.lst ej;refine⟨ι1 i,zs,y,rfl,rfl,by rw[<-same];exact g1,by rw[<-g2.length,fj];exact c,?_⟩;obtain⟨hr',ex⟩:=at2.hr.put (o:=.lst (zs++[y])) (u:=.lst (ys++[u])) ej rfl rfl (fun _ z=>nomatch z) fun H' k z=>⟨zs++[y],z,(g2.append (.cons r2 .nil)).keep k⟩;rw[<-same];exact p2 ι2 _ _ ex hr' .ak
    .rw[if_neg c] at p2;exact p2.elim
   |_=>exact p2.elim
theorem wL{ι:Nat->Addr}{n:Nat}{H:L2.Hp}:∀{ws:List Tw.W}{xs:List V}{us:List Value}{ts:List Tw.S},aT X.K ι n H ws xs->Vals xs us->Tw.texts ws=some ts->
  StrsAre us (ts.map fun t=>⟨t.toArray⟩)/\∀t∈ts,ql t
 |_,_,_,ts,.nil,.nil,e=>by cases e;exact⟨.nil,fun _ h=>nomatch h⟩
 |w::ws,_,_,ts,.cons a r,.cons rv rvs,e=>by
  cases a with
  |str x hx=>
   have e:(Tw.texts ws).map (x:: ·)=some ts:=e;cases e2:Tw.texts ws with
   |none=>rw[e2] at e;cases e
   |some ts'=>
    rw[e2] at e;cases e;obtain⟨h1,h2⟩:=wL r rvs e2;obtain⟨t,rfl⟩:=rv;refine⟨.cons _ t h1,fun y hy=>?_⟩;rcases cX.mp hy with rfl|hy
    .exact hx
    .exact h2 y hy
  |_=>cases e
theorem join_eq(sep:Tw.S):∀ts:List Tw.S,Str.join (⟨sep.toArray⟩:Str) (ts.map fun t=>⟨t.toArray⟩)=(⟨(Tw.gj sep ts).toArray⟩:Str)
 |[]=>rfl
 |[x]=>rfl
 |x::y::r=>by
  have ih:=join_eq sep (y::r);rw[aR,aR,join_cons_cons];rw[aR] at ih;rw[ih,tH,tH];rfl
theorem wY{sep:Tw.S}(hs:ql sep):∀{ts:List Tw.S},(∀t∈ts,ql t)->ql (Tw.gj sep ts)
 |[],_=>fun c hc=>nomatch hc
 |[x],h=>by simpa [Tw.gj] using h x (by simp)
 |x::y::r,h=>fun c hc=>by
  have ih:=wY hs (ts:=y::r) fun t ht=>h t (di _ ht);rw[Tw.gj] at hc
  .rcases n9.mp hc with hc|hc
   .rcases n9.mp hc with hc|hc
    .exact h x (by simp) c hc
    .exact hs c hc
   .exact ih c hc
  .intro z;cases z
theorem Io(ts:List Tw.S):((ts.map fun t=>(⟨t.toArray⟩:Str)).map (·.length)).sum=(ts.map (·.length)).sum:=by
 induction ts with
 |nil=>rfl
 |cons t r ih=>simp only[aR,List.sum_cons,str_len,ih]
theorem HQ:Kp X "str.join" (fun x xs H Q=>∃(ι:Nat->Addr) (n:Nat) (ws:List Tw.W) (p:Addr) (ys:List V) (sep:Tw.S) (ts:List Tw.S),x=.str ⟨sep.toArray⟩/\xs=[.ref p]/\bB X.K H p ys/\aT X.K ι n H ws ys/\Tw.texts ws=some ts/\
  (ts.map (·.length)).sum+ts.length * sep.length<=Tw.SZ/\Q (.str ⟨(Tw.gj sep ts).toArray⟩) H):=by
 intro pins s σ H x xs v us Q I rx rs ⟨ι,n,ws,p,ys,sep,ts,ex,exs,sq,rr,et,hz,q⟩;subst ex exs;obtain⟨t,rfl⟩:=rx;obtain⟨u,rfl,ru⟩:=vals1 rs;cases ru;obtain⟨its,rv,pl,_⟩:=I.list sq;obtain⟨h1,h2⟩:=wL rr rv et;refine join_list pl.isList (by simpa using h1) ?_ fun t' k=>?_
 .rw[Io,gC,str_len];exact hz
 .have e:Txt.join (⟨sep.toArray⟩:Str) (ts.map fun t=>⟨t.toArray⟩)=(⟨(Tw.gj sep ts).toArray⟩:Str):=(PySem.StrLaws.glued_eq_join _ _).trans (join_eq sep ts);rw[e];exact⟨.str ⟨(Tw.gj sep ts).toArray⟩,H,I.tok _,⟨_,rfl⟩,q⟩
theorem LY(me:Me X o "join" apos [e] cpos)(hst:starEach [e] X.env=[(false,eval e X.env)])(ho:PE X o (tE (zx X E) da))(he:PE X e (tE (zx X E) db)):
  PE X (.Call (.Attribute o "join" apos) [e] [] cpos) (tE (zx X E) (yJ .join da db)):=by
 refine PE.imp (Bj PySem.F.plainAttrs_str PySem.F.slot_str_join PySem.F.type_str_join HQ ho (cE he dD hst) me.base me.wt me.line hst rfl) fun σ H Q ⟨ρ,h,ι,at',p⟩=>?_;refine⟨ρ,h,ι,at',(step at' p).mono fun x H1 ⟨w,h1,ι1,at1,e1,r1,p1⟩=>?_⟩;obtain⟨hc,p1⟩:=ah.ite p1;cases r1 with
 |str sep hsep=>
  refine⟨rfl,ρ,h1,ι1,at1,(step at1 p1).mono fun y H2 ⟨u,h2,ι2,at2,e2,r2,p2⟩=>?_⟩;have p3:ah (zx X E) RE ι2 h2 H2 (match Tw.items h2 u with
   |some ys=>match Tw.texts ys with
    |some ts=>if (ts.map (·.length)).sum+ts.length * sep.length<=Tw.SZ then .ok (.str (Tw.gj sep ts)) h2 else .bad
    |none=>.bad
   |none=>.bad) Q:=p2
  cases ei:Tw.items h2 u with
  |none=>rw[ei] at p3;exact p3.elim
  |some ws=>
   rw[ei] at p3;dsimp only at p3;cases et:Tw.texts ws with
   |none=>rw[et] at p3;exact p3.elim
   |some ts=>
    rw[et] at p3;dsimp only at p3;by_cases c:(ts.map (·.length)).sum+ts.length * sep.length<=Tw.SZ
    .rw[if_pos c] at p3;clear p2;cases r2 with
     | @ref i hi=>
      have ei:Tw.bD h2 i=some ws:=ei;obtain⟨ys,sq,rr⟩:=at2.hr.at ei;have okt:∀t∈ts,ql t:=by
       have key:∀{ws:List Tw.W}{ys:List V}{ts:List Tw.S},aT X.K ι2 h2.length H2 ws ys->Tw.texts ws=some ts->∀t∈ts,ql t:=by
        intro ws ys ts rr et
        induction ws generalizing ys ts with
        |nil=>cases et;intro t ht;cases ht
        |cons w ws ih=>
         cases rr with
         |cons a rr=>
          cases a with
          |str x hx=>
           have et:(Tw.texts ws).map (x:: ·)=some ts:=et;cases e2:Tw.texts ws with
           |none=>rw[e2] at et;cases et
           |some ts'=>
            rw[e2] at et;cases et;intro t ht;rcases cX.mp ht with rfl|ht
            .exact hx
            .exact ih rr e2 t ht
          |_=>cases et
       exact key rr et
      exact⟨ι2,h2.length,ws,_,ys,sep,ts,rfl,rfl,sq,rr,et,c,ah.self (a:=Tw.W.str (Tw.gj sep ts)) p3 at2.hr (RW.str _ (wY hsep okt))⟩
     |_=>cases ei
    .rw[if_neg c] at p3;exact p3.elim
 |_=>cases hc
theorem Kf:PE X (.Dict [] [] pos) (tE (zx X E) fun _ h=>Tw.new (.aK []) h):=
 PE.imp Fz fun σ H Q ⟨ρ,h,ι,at',p⟩=>p.aK at'.hr .nil
end
def bx(K:Zk)(ι:Nat->Addr)(h:Tw.Hp)(H:L2.Hp)(m:Tw.R Tw.Fl)(D:Ends):Prop:=match m with
 |.ok (.next ρ) h'=>∀ι' H' σ',Ext ι h H ι' h' H'->At K ι' h' H' ρ σ'->D.nx σ' H'
 |.ok (.brk ρ) h'=>∀ι' H' σ',Ext ι h H ι' h' H'->At K ι' h' H' ρ σ'->D.bk σ' H'
 |.ok (.cont ρ) h'=>∀ι' H' σ',Ext ι h H ι' h' H'->At K ι' h' H' ρ σ'->D.ct σ' H'
 |.ok (.ret w) h'=>∀ι' H' v,Ext ι h H ι' h' H'->HR K ι' h' H'->RW K.K ι' h'.length H' w v->D.rt v H'
 |.ax a h'=>∀ι' H',Ext ι h H ι' h' H'->HR K ι' h' H'->K.ex (.ref (ι' a)) none H'
 |.bad=>False
noncomputable def cz(K:Zk)(d:Tw.Env->Tw.Hp->Tw.R Tw.Fl):TS:=fun D σ H=>∃ρ h ι,At K ι h H ρ σ/\bx K ι h H (d ρ h) D
section
variable {K:Zk}{α β:Type}{R:Rl α β}{ι ι1:Nat->Addr}{h h1:Tw.Hp}{H H1:L2.Hp}{ρ:Tw.Env}{σ:L2.St}
theorem bx.later(p:bx K ι h H m D)(e:Ext ι h H ι1 h1 H1):bx K ι1 h1 H1 m D:=by
 cases m with
 |ok f h'=>cases f<;>exact fun ι' H' σ' e'=>p ι' H' σ' (e.trans e')
 |ax a h'=>exact fun ι' H' e' r=>p ι' H' (e.trans e') r
 |bad=>exact p
theorem fB{k:α->Tw.Hp->Tw.R Tw.Fl}(a:At K ι h H ρ σ)(p:bx K ι h H (m.bind k) D):
  ah K R ι h H m (fun x H1=>∃w h1 ι1,At K ι1 h1 H1 ρ σ/\Ext ι h H ι1 h1 H1/\R K.K ι1 h1.length H1 w x/\bx K ι1 h1 H1 (k w h1) D):=by
 cases m with
 |ok w h1=>exact fun ι' H' b e r q=>⟨w,h1,ι',a.later e r,e,q,bx.later p e⟩
 |ax=>exact p
 |bad=>exact p
theorem At.set(a:At K ι h H ρ σ)(r:RW K.K ι h.length H w v)(i:Nat):At K ι h H (ρ.set i (some w)) (σ.set i (some v)) where
 hr:=a.hr
 len:=by rw[w8,w8];exact a.len
 st:=fun j u e=>by
  by_cases z:i=j
  .subst z;have hi:i<ρ.length:=by
    have:=(dE.mp e).1;simpa using this
   rw[iu hi] at e;cases e;exact⟨v,iu (by rw[a.len];exact hi),r⟩
  .rw[iy z] at e;obtain⟨v',h1,h2⟩:=a.st j u e;exact⟨v',by rw[iy z];exact h1,h2⟩
theorem bx.next(p:bx K ι h H (.ok (.next ρ) h) D)(a:At K ι h H ρ σ):D.nx σ H:=p ι H σ (Ext.refl _ _ _) a
end
section
variable {X:Cx}{E:XK}{a b c e o:Expr}{pos pos':Pos}{da db dc:Tw.Env->Tw.Hp->Tw.R Tw.W}
theorem Jf(ha:PE X a (tE (zx X E) da))(hs:swapsWith a none pos.line X.env=pure false):PS X (.Expr a pos) (cz (zx X E) fun ρ h=>(da ρ h).bind fun _ h=>.ok (.next ρ) h):=
 PS.imp (yD ha hs) fun D σ H Z=>Z.g fun ρ Z=>Z.g fun h Z=>Z.g fun ι Z=>Z.g fun at' p=>⟨ρ,h,ι,at',(fB at' p).mono fun x H1 Z=>Z.g fun w Z=>Z.g fun h1 Z=>Z.g fun ι1 Z=>Z.g fun at1 Z=>Z.g fun e1 Z=>Z.g fun r1 p1=>p1.next at1⟩
theorem Ap(ha:PE X a (tE (zx X E) da)):PS X (.Return (some a) pos) (cz (zx X E) fun ρ h=>(da ρ h).bind fun x h=>.ok (.ret x) h):=
 PS.imp (JH ha) fun D σ H Z=>Z.g fun ρ Z=>Z.g fun h Z=>Z.g fun ι Z=>Z.g fun at' p=>⟨ρ,h,ι,at',(fB at' p).mono fun x H1 Z=>Z.g fun w Z=>Z.g fun h1 Z=>Z.g fun ι1 Z=>Z.g fun at1 Z=>Z.g fun e1 Z=>Z.g fun r1 p1=>p1 ι1 H1 x (Ext.refl _ _ _) at1.hr r1⟩
theorem Jm:PS X (.Return none pos) (cz (zx X E) fun _ h=>.ok (.ret .ak) h):=
 PS.imp Hk fun D σ H Z=>Z.g fun ρ Z=>Z.g fun h Z=>Z.g fun ι Z=>Z.g fun at' p=>p ι H .ak (Ext.refl _ _ _) at'.hr .ak
theorem Jj:PS X (.Pass pos) (cz (zx X E) fun ρ h=>.ok (.next ρ) h):=PS.imp G4 fun D σ H Z=>Z.g fun ρ Z=>Z.g fun h Z=>Z.g fun ι Z=>Z.g fun at' p=>p.next at'
theorem NJ:PS X (.Break pos) (cz (zx X E) fun ρ h=>.ok (.brk ρ) h):=PS.imp Dx fun D σ H Z=>Z.g fun ρ Z=>Z.g fun h Z=>Z.g fun ι Z=>Z.g fun at' p=>p ι H σ (Ext.refl _ _ _) at'
theorem IX:PS X (.Continue pos) (cz (zx X E) fun ρ h=>.ok (.cont ρ) h):=PS.imp ye fun D σ H Z=>Z.g fun ρ Z=>Z.g fun h Z=>Z.g fun ι Z=>Z.g fun at' p=>p ι H σ (Ext.refl _ _ _) at'
theorem N3(hN:X.N.Nodup)(hi:X.N[i]?=some x)(hx:Loc X.env.scope x)(ha:PE X a (tE (zx X E) da))(hs:swapsWith a (some (.Name x pos')) pos.line X.env=pure false)(hf:X.fn x=true):
  PS X (.Assign [.Name x pos'] a pos) (cz (zx X E) fun ρ h=>(da ρ h).bind fun w h=>.ok (.next (ρ.set i (some w))) h):=
 PS.imp (K8 hN hi hx ha hs (.inl hf)) fun D σ H Z=>Z.g fun ρ Z=>Z.g fun h Z=>Z.g fun ι Z=>Z.g fun at' p=>⟨ρ,h,ι,at',(fB at' p).mono fun y H1 Z=>Z.g fun w Z=>Z.g fun h1 Z=>Z.g fun ι1 Z=>Z.g fun at1 Z=>Z.g fun e1 Z=>Z.g fun r1 p1=>p1.next (at1.set r1 i)⟩
theorem LN{ta tb:Tw.Env->Tw.Hp->Tw.R Tw.Fl}(hc:PT X c (tT (zx X E) dc))(ha:dU X sa (cz (zx X E) ta))(hb:dU X sb (cz (zx X E) tb)):
  PS X (.If c sa sb pos) (cz (zx X E) fun ρ h=>(dc ρ h).bind fun x h=>match Tw.truth h x with
   |some true=>ta ρ h
   |some false=>tb ρ h
   |none=>.bad):=by
 refine PS.imp (NP hc ha hb) fun D σ H Z=>Z.g fun ρ Z=>Z.g fun h Z=>Z.g fun ι Z=>Z.g fun at' p=>⟨ρ,h,ι,at',?_⟩;simp only[dT];dsimp only at p;cases e0:dc ρ h with
 |bad=>rw[e0] at p;exact p.elim
 |ax=>rw[e0] at p;exact p
 |ok w h1=>
  simp only[e0,Tw.R.aw] at p⊢;cases e:Tw.truth h1 w with
  |none=>rw[e] at p;exact p.elim
  |some k=>
   rw[e] at p;intro ι' H' k' e1 r1 q;cases q;cases k with
   |true=>rw[if_pos rfl];exact⟨ρ,h1,ι',at'.later e1 r1,bx.later p e1⟩
   |false=>rw[if_neg (by decide)];exact⟨ρ,h1,ι',at'.later e1 r1,bx.later p e1⟩
theorem wD:dU X [] (cz (zx X E) fun ρ h=>.ok (.next ρ) h):=dU.imp zk fun D σ H Z=>Z.g fun ρ Z=>Z.g fun h Z=>Z.g fun ι Z=>Z.g fun at' p=>p.next at'
theorem yf{st:Stmt}{rest:List Stmt}{t u:Tw.Env->Tw.Hp->Tw.R Tw.Fl}(h1:PS X st (cz (zx X E) t))(h2:dU X rest (cz (zx X E) u)):
  dU X (st::rest) (cz (zx X E) fun ρ h=>(t ρ h).bind fun f h=>match f with
   |.next ρ=>u ρ h
   |f=>.ok f h):=by
 refine dU.imp (q8 h1 h2) fun D σ H Z=>Z.g fun ρ Z=>Z.g fun h Z=>Z.g fun ι Z=>Z.g fun at' p=>⟨ρ,h,ι,at',?_⟩;dsimp only at p;cases e:t ρ h with
 |bad=>rw[e] at p;exact p.elim
 |ax=>rw[e] at p;exact p
 |ok f h1=>
  simp only[e,Tw.R.aw] at p;cases f with
  |next ρ1=>exact fun ι' H' σ' e1 a1=>⟨ρ1,h1,ι',a1,bx.later p e1⟩
  |ret w=>exact p
  |brk ρ1=>exact p
  |cont ρ1=>exact p
theorem set_dict(hu:X.A.units+1<cLine):nP X (fun o i v H Q=>∃a H',o=.ref a/\tN H a i v H'/\Q H'):=by intro pins s σ H o i v ov iv u Q I ro ri rv ⟨a,H',eo,g,q⟩;subst eo;cases ro;exact B3 hu I g ri rv fun s4 I4=>⟨H',I4,q⟩
theorem nP.or(h1:nP X t)(h2:nP X t'):nP X (fun o i v H Q=>t o i v H Q\/t' o i v H Q):=by
 intro pins s σ H o i v ov iv u Q I ro ri rv q;rcases q with q|q
 .exact h1 pins s σ H o i v ov iv u Q I ro ri rv q
 .exact h2 pins s σ H o i v ov iv u Q I ro ri rv q
def Nw:AE:=fun o i v H Q=>F8 o i v H Q\/∃a H',o=.ref a/\tN H a i v H'/\Q H'
theorem xw{ι:Nat->Addr}{h:Tw.Hp}{H:L2.Hp}{wo wk wv:Tw.W}{o k v:V}{ρ:Tw.Env}{σ:L2.St}{D:Ends}
  (a:At (zx X E) ι h H ρ σ) (ro:RW X.K ι h.length H wo o) (rk:RW X.K ι h.length H wk k) (rv:RW X.K ι h.length H wv v) (p:bx (zx X E) ι h H ((Tw.kE wo wk wv h).bind fun _ h=>.ok (.next ρ) h) D):
  Nw o k v H fun H'=>D.nx σ H':=by
 cases ro with
 | @ref i hi=>
  cases ei:h[i]? with
  |none=>simp only[Tw.kE,ei] at p;exact p.elim
  |some ob=>
   cases ob with
   |lst ws=>
    obtain⟨xs,q1,q2⟩:=a.hr.lst ei;cases rk with
    |int n=>
     simp only[Tw.kE,ei] at p;cases e2:Tw.iz ws.length n with
     |none=>rw[e2] at p;exact p.elim
     |some j=>
      rw[e2] at p;refine .inl ⟨_,xs,n,j,rfl,rfl,q1,by rw[<-q2.length,<-C1];exact e2,?_⟩;obtain⟨hr',ex⟩:=a.hr.put (o:=.lst (xs.set j v)) (u:=.lst (ws.set j wv)) ei rfl rfl (fun _ z=>nomatch z) fun H' kp z=>⟨xs.set j v,z,(q2.set rv j).keep kp⟩;exact p ι _ σ ex (a.later ex hr')
    |_=>simp only[Tw.kE,ei] at p;exact p.elim
   |aK kvs=>
    obtain⟨xs,q1,q2⟩:=a.hr.aK ei;have p:bx (zx X E) ι h H ((if Tw.isKey wk=true/\kvs.length<Tw.SZ then (.ok () (h.set i (.aK (Tw.dput wk wv kvs))):Tw.R Unit) else .bad).bind fun _ h=>.ok (.next ρ) h) D:=by simp only[Tw.kE,ei] at p;cases wk<;>exact p
    by_cases c:Tw.isKey wk=true/\kvs.length<Tw.SZ
    .rw[if_pos c] at p;obtain⟨q,rfl⟩:=iW rk c.1;refine .inr ⟨_,_,rfl,tN.k q1 (by rw[<-q2.length,fj];exact c.2),?_⟩;obtain⟨hr',ex⟩:=a.hr.put (o:=.dK (putK xs q v)) (u:=.aK (Tw.dput wk wv kvs)) ei rfl rfl (fun _ z=>nomatch z) fun H' kp z=>⟨_,z,((q2.put rk rv).keep kp)⟩;exact p ι _ σ ex (a.later ex hr')
    .rw[if_neg c] at p;exact p.elim
   |bI ws=>simp only[Tw.kE,ei] at p;cases wk<;>exact p.elim
   |ins _ _=>simp only[Tw.kE,ei] at p;cases wk<;>exact p.elim
   |ax _ _=>simp only[Tw.kE,ei] at p;cases wk<;>exact p.elim
 |_=>exact p.elim
end
section
variable {X:Cx}{E:XK}{a b c e o k:Expr}{pos pos':Pos}{da db dc dv:Tw.Env->Tw.Hp->Tw.R Tw.W}
theorem Cw(v x y:Expr)(p:Pos)(l:Nat)(env:Env):swapsWithSole [.Subscript x y p] v l env=pure false:=by cases v<;>rfl
theorem AX(v x y:Expr)(p:Pos)(env:Env):swappedStores [.Subscript x y p] v env=pure none:=by cases v<;>rfl
theorem Nv(hu:X.A.units+1<cLine)(hv:PE X a (tE (zx X E) dv))(ho:PE X o (tE (zx X E) da))(hk:PE X k (tE (zx X E) db))
  (has:∀v,assign (.Subscript o k pos') X.env v=(do
   let ov <-holding [v] (eval o X.env)
   let iv <-holding [v,ov] (eval k X.env)
   standAt pos'
   holding [v,ov,iv] (setItem ov iv v)
   release [v,ov,iv] [])):
  PS X (.Assign [.Subscript o k pos'] a pos) (cz (zx X E) fun ρ h=>(dv ρ h).bind fun v h=>(da ρ h).bind fun x h=>(db ρ h).bind fun y h=>(Tw.kE x y v h).bind fun _ h=>.ok (.next ρ) h):=by
 refine PS.imp (BD hv (J4 ho hk (nP.or set_list (set_dict hu)) has) (Cw _ _ _ _ _ _) (AX _ _ _ _ _)) fun D σ H Z=>Z.g fun ρ Z=>Z.g fun h Z=>Z.g fun ι Z=>Z.g fun at' p=>?_;refine⟨ρ,h,ι,at',(fB at' p).mono fun v H1 Z=>Z.g fun wv Z=>Z.g fun h1 Z=>Z.g fun ι1 Z=>Z.g fun at1 Z=>Z.g fun e1 Z=>Z.g fun r1 p1=>⟨ρ,h1,ι1,at1,(fB at1 p1).mono fun x H2 Z=>Z.g fun wo Z=>Z.g fun h2 Z=>Z.g fun ι2 Z=>Z.g fun at2 Z=>Z.g fun e2 Z=>Z.g fun r2 p2=>⟨ρ,h2,ι2,at2,(fB at2 p2).mono fun y H3 Z=>Z.g fun wk Z=>Z.g fun h3 Z=>Z.g fun ι3 Z=>Z.g fun at3 Z=>Z.g fun e3 Z=>Z.g fun r3 p3=>?_⟩⟩⟩;exact xw at3 (r2.keep (e3.keeps at2.hr)) r3 ((r1.keep (e2.keeps at1.hr)).keep (e3.keeps at2.hr)) p3
theorem PI.or(h1:PI X tg iter w)(h2:PI X tg iter w'):PI X tg iter (fun σ H R=>w σ H R\/w' σ H R):=by
 intro pins s σ H R I q;rcases q with q|q
 .exact h1 pins s σ H R I q
 .exact h2 pins s σ H R I q
def zF(K:Zk)(t:Tw.Tg)(g:TG):Prop:=∀(ι:Nat->Addr)(h:Tw.Hp)(H:L2.Hp)(ρ ρ1:Tw.Env)(σ:L2.St)(w:Tw.W)(x:V)(Q:L2.St->L2.Hp->Prop),At K ι h H ρ σ->RW K.K ι h.length H w x->Tw.iZ t w ρ=some ρ1->
 (∀σ1,At K ι h H ρ1 σ1->Q σ1 H)->g x σ H Q
theorem I8(K:Zk)(i:Nat):zF K (.var i) (fI i):=fun ι h H ρ ρ1 σ w x Q a r e q=>by
 cases e;exact q _ (a.set r i)
theorem BC(K:Zk)(i j:Nat):zF K (.two i j) (zH K.K 2 (mS (fI i) (mS (fI j) Ak))):=fun ι h H ρ ρ1 σ w x Q a r e q=>by
 cases r with
 | @tup ad xs ws ea ra=>
  cases ra with
  |nil=>cases e
  |cons r1 ra=>
   cases ra with
   |nil=>cases e
   |cons r2 ra=>
    cases ra with
    |nil=>
     cases e;exact⟨ad,_,rfl,TupAt.sq ea,rfl,_,_,rfl,_,_,rfl,rfl,q _ ((a.set r1 i).set r2 j)⟩
    |cons r3 ra=>cases e
 |_=>cases e
theorem tV{K:Zk}{ι:Nat->Addr}{h:Tw.Hp}{H:L2.Hp}{m:Tw.R Tw.Fl}{go:Tw.Env->Tw.Hp->Tw.R Tw.Fl}{D:Ends}{N:L2.St->L2.Hp->Prop}
  (p:bx K ι h H (m.bind fun f h=>match f with
   |.next σ=>go σ h
   |.cont σ=>go σ h
   |.brk σ=>.ok (.next σ) h
   |.ret w=>.ok (.ret w) h) D)
  (hN:∀ρ h1 ι1 H1 σ1,Ext ι h H ι1 h1 H1->At K ι1 h1 H1 ρ σ1->bx K ι1 h1 H1 (go ρ h1) D->N σ1 H1):bx K ι h H m {D with nx:=N,ct:=N,bk:=D.nx}:=by
 cases m with
 |bad=>exact p
 |ax=>exact p
 |ok f h1=>
  cases f with
  |next ρ=>exact fun ι' H' σ' e a=>hN ρ h1 ι' H' σ' e a (bx.later p e)
  |cont ρ=>exact fun ι' H' σ' e a=>hN ρ h1 ι' H' σ' e a (bx.later p e)
  |brk ρ=>exact p
  |ret w=>exact p
theorem zd{α:Type}{ws:List α}{i:Nat}{w:α}(e:ws[i]?=some w):ws.drop i=w::ws.drop (i+1):=by obtain⟨hi,e⟩:=dE.mp e;rw[Aq hi,e]
end
def mq(T:Bool)(h:Heap)(it a:Addr)(k:Nat):Prop:=match T with
 |true=>h.IsTupleIter it a k
 |false=>h.IsListIter it a k
def n6(T:Bool)(h:Heap)(a:Addr)(xs:Array Value):Prop:=match T with
 |true=>h.IsTuple a xs
 |false=>h.IsList a xs
theorem mq.at(x:mq T h it a k)(e:∀o,h.get? it=some o->h'.get? it=some o):mq T h' it a k:=by
 cases T with
 |true=>exact Heap.IsTupleIter.at x e
 |false=>exact Heap.IsListIter.at x e
theorem n6.at(x:n6 T h a xs)(e:∀o,h.get? a=some o->h'.get? a=some o):n6 T h' a xs:=by
 cases T with
 |true=>exact Heap.IsTuple.at x e
 |false=>exact Heap.IsList.at x e
theorem mq.there(x:mq T h it a k):∃o,h.get? it=some o/\∀v,o.data≠.cell v:=by
 cases T with
 |true=>obtain⟨o,e,_,d⟩:=x;exact⟨o,e,fun v z=>by rw[d] at z;cases z⟩
 |false=>obtain⟨o,e,_,d⟩:=x;exact⟨o,e,fun v z=>by rw[d] at z;cases z⟩
section
variable {prog:Program}{w:World}{A:Around}{E:aH}{s:Shared}{it t:Addr}{i:Nat}{xs:Array Value}
theorem Eh{Q:aH}(hit:s.heap.IsTupleIter it t i)(ht:s.heap.IsTuple t xs)(hx:xs[i]?=some x)(hQ:∀h',h'.IsTupleIter it t (i+1)->Heap.SameBut it s.heap h'->Q x {s with heap:=h'}):
  wpAny (model prog w) A (Builtin.SmallTypes.nextOf (.ref it)) Q E s:=by
 have tI:=hit.typeIs;obtain⟨oI,gI,cI,dI⟩:=hit;obtain⟨oT,gT,cT,nT,dT⟩:=ht;rw[Builtin.SmallTypes.nextOf];apply af;refine rC (name:=Str.ofString "__next__") tI sY ?_;refine pd sY tI Dz ?_ (Ed _);show wpAny _ _ (field (.ref it) 0 >>= _) _ _ _;refine af (fD gI dI (x:=Value.ref t) rfl ?_);show wpAny _ _ (ite ((Value.ref t== Value.none)=true) _ _) _ _ _;refine (if_neg eC:ite ((Value.ref t== Value.none)=true) _ _=_)▸?_;show wpAny _ _ (field (.ref it) 1 >>= _) _ _ _;refine af (fD gI dI (x:=Value.int i 0) rfl ?_);show wpAny _ _ (seqItems? (.ref t) >>= _) _ _ _;refine af (vd gT dT ?_);simp only[hx,A7];refine af (pe gI dI (by simp) (aj ⟨x,rfl,?_⟩));refine aj (hQ _ ⟨_,lF _ gI (vc (sH dI _)),(Obj.cls_mapFields ..).trans cI,?_⟩ (Heap.SameBut.update ..));rw[sH dI];simp[rawInt]
theorem Ee{Q:aH}(hh:A.handled=none)(hit:s.heap.IsTupleIter it t i)(ht:s.heap.IsTuple t xs)(hx:xs[i]?=none)
  (hE:∀h' e,Heap.ExtBut it s.heap h'->(∃o,h'.get? e=some o/\o.cls=.type "StopIteration")->E (.ref e) {s with heap:=h'}):wpAny (model prog w) A (Builtin.SmallTypes.nextOf (.ref it)) Q E s:=by
 have tI:=hit.typeIs;obtain⟨oI,gI,cI,dI⟩:=hit;obtain⟨oT,gT,cT,nT,dT⟩:=ht;rw[Builtin.SmallTypes.nextOf];apply af;refine rC (name:=Str.ofString "__next__") tI sY ?_;refine pd sY tI Dz ?_ (Ed _);show wpAny _ _ (field (.ref it) 0 >>= _) _ _ _;refine af (fD gI dI (x:=Value.ref t) rfl ?_);show wpAny _ _ (ite ((Value.ref t== Value.none)=true) _ _) _ _ _;refine (if_neg eC:ite ((Value.ref t== Value.none)=true) _ _=_)▸?_;show wpAny _ _ (field (.ref it) 1 >>= _) _ _ _;refine af (fD gI dI (x:=Value.int i 0) rfl ?_);show wpAny _ _ (seqItems? (.ref t) >>= _) _ _ _;refine af (vd gT dT ?_);simp only[hx,A7];refine af (sF (af (pe gI dI (by simp) ?_)));show wpAny _ _ (newExc (.type "StopIteration") [] >>= raiseNew) _ _ _;apply af;rw[newExc,newTuple];apply af;refine ij ?_ (by size_fits);refine af (m:=firstArgMember _ _) (wpAny_of_eq (a:=Value.none) (by simp only[firstArgMember];rfl) ?_);refine ij ?_ (by size_fits);rw[raiseNew];refine af (wpAny_handled ?_);rw[show A.in1.handled=none from hh];refine af (aj (wpAny_throw (hE _ _ ?_ ⟨_,cY _ rfl,rfl⟩)));exact ((Heap.SameBut.update ..).extBut.push _).push _
theorem IS{Q:aH}(hit:mq T s.heap it t i)(ht:n6 T s.heap t xs)(hx:xs[i]?=some x)(hQ:∀h',mq T h' it t (i+1)->Heap.SameBut it s.heap h'->Q x {s with heap:=h'}):
  wpAny (model prog w) A (Builtin.SmallTypes.nextOf (.ref it)) Q E s:=by
 cases T with
 |true=>exact Eh hit ht hx hQ
 |false=>exact wpAny_nextOf_list_item hit ht hx hQ
theorem BN{Q:aH}(hh:A.handled=none)(hit:mq T s.heap it t i)(ht:n6 T s.heap t xs)(hx:xs[i]?=none)
  (hE:∀h' e,Heap.ExtBut it s.heap h'->(∃o,h'.get? e=some o/\o.cls=.type "StopIteration")->E (.ref e) {s with heap:=h'}):wpAny (model prog w) A (Builtin.SmallTypes.nextOf (.ref it)) Q E s:=by
 cases T with
 |true=>exact Ee hh hit ht hx hE
 |false=>exact wpAny_nextOf_list_end hh hit ht hx hE
end
section
variable {prog:Program}{w:World}{A:Around}{E:aH}{s:Shared}{z TI TO i1 i2 l1 l2:Addr}{k:Nat}{xs ys:Array Value}{T1 T2:Bool}
end
noncomputable def yn(T:Bool)(a:Addr):Obj:={cls:=.type (match T with|true=> "tuple_iterator" | false=> "list_iterator"),data:=.fields #[.ref a,.int 0 0]}
section
variable {prog:Program}{w:World}{A:Around}{E:aH}{s:Shared}{l1 l2:Addr}{xs ys:Array Value}{T1 T2:Bool}
theorem LO(T:Bool)(h:Heap)(a:Addr):mq T (h.push (yn T a)) h.objs.size a 0:=by
 cases T with
 |true=>exact⟨_,cY _ rfl,rfl,rfl⟩
 |false=>exact⟨_,cY _ rfl,rfl,rfl⟩
end
section
variable {X:Cx}{E:XK}{pins:aJ}{σ:L2.St}{H:L2.Hp}{s:Shared}{h':Heap}{fp:List Addr}
theorem sV(I:Inv X pins σ H s)(hf:∀b∈fp,eh X pins H b)(k:∀b o,b∉fp->s.heap.get? b=some o->h'.get? b=some o):Inv X pins σ H {s with heap:=h',toks:=t'}:=by
 have nf:∀b u,H b=some u->b∉fp:=fun b u e z=>by rw[(hf b z).1] at e;cases e
 have u:Un (bF X.stack) fp H H s.heap h':=
  ⟨fun b o e _ _ h2=>k b o h2 e,fun b o e _ _ h2=>⟨o.slots,k b o h2 e⟩,fun _ _ _ n _=>n,fun b o e h2=>⟨o,k b o h2 e⟩,fun _ _ q=>q,fun _ _ _ q=>q,fun _ ps q=>⟨#[],by rw[q];simp⟩⟩
 have ao:cR X.prog X.w H h':=fun b v e=>(I.ao b v e).fq (fun c w hc q=>k c w (by
  rcases hc with z|z
  .rw[z];exact nf _ _ e
  .exact nf _ _ z) q) (fun _ q=>q) fun _ _ q=>q
 exact I.call (g':=s.gens) (d':=s.drawn) (t':=t') u ao I.bare fun b hb=>⟨(hf b hb).2.2.2.1,(hf b hb).2.1,(hf b hb).2.2.2.2.1,(hf b hb).2.2.2.2.2⟩
theorem HF(I:Inv X pins σ H s)(hf:∀b∈fp,eh X pins H b)(k:∀b o,b∉fp->s.heap.get? b=some o->h'.get? b=some o)(ha:s.heap.objs.size<=a)(new:bM X.prog X.w (upd H a (.tup xs)) h' a (.tup xs)):
  Inv X pins σ (upd H a (.tup xs)) {s with heap:=h',toks:=t'}:=by
 have hn:H a=none:=I.ao.fresh ha;have nf:∀b u,H b=some u->b∉fp:=fun b u e z=>by rw[(hf b z).1] at e;cases e
 have u:Un (bF X.stack) fp H (upd H a (.tup xs)) s.heap h':=
  ⟨fun b o e _ _ h2=>k b o h2 e,fun b o e _ _ h2=>⟨o.slots,k b o h2 e⟩,fun b o e n _=>by rw[aq (bT (cM (aY e) ha))];exact n,fun b o e h2=>⟨o,k b o h2 e⟩,
   fun b ys q=>by rw[aq (bW q hn)];exact q,fun b o v q=>by rw[aq (bW q hn)];exact q,fun b ps q=>⟨#[],by rw[aq (bW q hn),q];simp⟩⟩
 have ao:cR X.prog X.w (upd H a (.tup xs)) h':=fun b v e=>by
  by_cases z:b=a
  .subst z;rw[aB] at e;cases e;exact new
  .rw[aq z] at e;refine (I.ao b v e).fq (fun c w hc q=>k c w ?_ q) (fun c q=>by rw[aq (bW q hn)];exact q) fun c ys q=>by rw[aq (bW q hn)];exact q
   rcases hc with z|z
   .rw[z];exact nf _ _ e
   .exact nf _ _ z
 exact I.call (g':=s.gens) (d':=s.drawn) (t':=t') u ao I.bare fun b hb=>⟨(hf b hb).2.2.2.1,(hf b hb).2.1,(hf b hb).2.2.2.2.1,(hf b hb).2.2.2.2.2⟩
end
def qp(T:Bool)(K:W.Frag)(H:L2.Hp)(a:Addr)(xs:List V):Prop:=match T with
 |true=>df K H a xs
 |false=>bB K H a xs
theorem qp.ob(I:Inv X pins σ H s)(q:qp T X.K H a xs):∃its,Vals xs its/\n6 T s.heap a its.toArray:=by
 cases T with
 |true=>obtain⟨its,rv,p,hz⟩:=I.tuple q;exact⟨its,rv,show s.heap.IsTuple a its.toArray from p⟩
 |false=>obtain⟨its,rv,p,hz⟩:=I.list q;exact⟨its,rv,p.isList⟩
theorem qp.inj(I:Inv X pins σ H s)(q:qp T X.K H a xs)(q':qp T X.K H a ys):xs=ys:=by
 cases T with
 |true=>exact I.uC q q'
 |false=>exact I.rh q q'
end TwS
namespace TwS
open PySem L2 PyProof.Rows
open AutoSeq1 (wpAny_loadPart')
theorem Hf(T:Bool)(hh:A.handled=none)(it l:Addr)(hne:l≠it)(xs:Array Value):
  Draws prog w A it [it,l] xs.size (fun i v=>xs[i]?=some v) (fun i h=>mq T h it l i/\n6 T h l xs) where
 live:=fun _ _ st=>let ⟨o,ho,_⟩:=st.1.there;⟨o,ho⟩
 frame:=fun _ _ _ st hk=>⟨st.1.at fun o e=>hk it (by simp) o e,st.2.at fun o e=>hk l (by simp) o e⟩
 item:=fun i s Q E hi st hQ=>by
  refine IS st.1 st.2 (x:=xs[i]) (by simp[hi]) fun h' q1 q2=>?_;exact hQ _ h' s.toks (by simp[hi]) ⟨q1,st.2.at fun o e=>q2.extBut l o hne e⟩ q2
 done:=fun s Q E st hE=>BN hh st.1 st.2 (by simp) hE
theorem GP(T:Bool)(hh:A.handled=none)(it l:Addr)(xs:Array Value)(k:Nat)(hk:xs[k]?=none):
  Draws prog w A it [it,l] k (fun _ _=>False) (fun i h=>i=k/\mq T h it l k/\n6 T h l xs) where
 live:=fun _ _ st=>let ⟨o,ho,_⟩:=st.2.1.there;⟨o,ho⟩
 frame:=fun _ _ _ st hk=>⟨st.1,st.2.1.at fun o e=>hk it (by simp) o e,st.2.2.at fun o e=>hk l (by simp) o e⟩
 item:=fun i s Q E hi st hQ=>absurd st.1 (bT hi)
 done:=fun s Q E st hE=>BN hh st.2.1 st.2.2 hk hE
theorem DM(T:Bool)(l:Addr)(xs:Array Value):
  Meets (Builtin.«enumerate.__new__» ⟨[.type "enumerate",.ref l],[]⟩) (fun _ R s=>n6 T s.heap l xs/\
   R (.ok (.ret (.ref (s.heap.push (yn T l)).objs.size))) {s with heap:=(s.heap.push (yn T l)).push {cls:=.type "enumerate",data:=.fields #[.none,.bool false,.ref s.heap.objs.size,rawInt 0,.none,.none]}}):=
 .of_wp fun prog w A R s h=>by
  obtain⟨hp,g,d,tk,os⟩:=s;obtain⟨b1,h⟩:=h;have su:=sub_enumerate;cases T with
  |true=>
   have p1:Heap.IsTuple (Shared.heap ⟨hp,g,d,tk,os⟩) l xs:=b1;obtain⟨o,ho,_⟩:=id b1
   wp_walk using pR ho
   refine wpAny_stack_any fun st=>aj ?_;split
   .rename_i c _ _ _ _ _;cases (c== Value.type "enumerate")<;>(wp_walk using pR ho,vn p1;exact⟨_,rfl,h⟩)
   .wp_walk using pR ho,vn p1
    exact⟨_,rfl,h⟩
  |false=>
   have p1:Heap.IsList (Shared.heap ⟨hp,g,d,tk,os⟩) l xs:=b1;obtain⟨o,ho,_⟩:=id b1
   wp_walk using pR ho
   refine wpAny_stack_any fun st=>aj ?_;split
   .rename_i c _ _ _ _ _;cases (c== Value.type "enumerate")<;>(wp_walk using pR ho,Aw p1;exact⟨_,rfl,h⟩)
   .wp_walk using pR ho,Aw p1
    exact⟨_,rfl,h⟩
section
variable {prog:Program}{w:World}{A:Around}{E:aH}{s:Shared}{l:Addr}{xs:Array Value}{T:Bool}
theorem LG{Q:aH}(b:n6 T s.heap l xs)
  (h:∀h',IsEnum h' (s.heap.objs.size+1) s.heap.objs.size 0 .none->mq T h' s.heap.objs.size l 0->(∀c o,s.heap.get? c=some o->h'.get? c=some o)->Q (.ref (s.heap.objs.size+1)) {s with heap:=h'}):
  wpAny (model prog w) A (call (.type "enumerate") [.ref l]) Q E s:=by
 refine callType_new F.called_enumerate (by decide) (F.typeCall_enumerate_1 _) (F.newCall_enumerate_1 _) (fun obj=>F.args_object_init_2 obj _) F.entry_enumerate_new (DM T l xs) ⟨b,?_⟩;have n1:(s.heap.push (yn T l)).objs.size=s.heap.objs.size+1:=mL ..;have g1:((s.heap.push (yn T l)).push {cls:=.type "enumerate",data:=.fields #[.none,.bool false,.ref s.heap.objs.size,rawInt 0,.none,.none]}).get? (s.heap.push (yn T l)).objs.size=some _:=cY _ rfl;show _/\_;rw[n1] at g1⊢;exact⟨⟨_,g1,rfl⟩,h _ g1 ((LO T s.heap l).at fun o=>bj _) fun c o e=>bj _ (bj _ e)⟩
end
def Gi(K:W.Frag)(T:Bool)(a:Addr):It:=
 ⟨fun i H=>∃xs x,qp T K H a xs/\xs[i]?=some x,
  fun i H v H'=>∃t x,v=.ref t/\H t=none/\H'=upd H t (.tup [.int i,x])/\∀xs,qp T K H a xs->xs[i]?=some x,
  fun i H=>∃xs,qp T K H a xs/\xs.length<=i⟩
theorem De{P:Program}{w:World}{K:W.Frag}{es:List Expr}{n:Nat}{p:Pos}{T:Bool}{e it a:Addr}(ne:e≠it)(nae:a≠e)(nai:a≠it):
  Turn P w K (.Tuple es n p) (Gi K T a) [e,it] e (fun i h=>(∃old,IsEnum h e it i old)/\mq T h it a i) where
 mem:=by simp
 obj:=fun i h Z c hc=>by
  obtain⟨⟨old,he⟩,h1⟩:=Z;simp only[cX,xG,or_false] at hc;rcases hc with rfl|rfl
  .exact⟨_,he,fun v q=>nomatch q⟩
  .exact h1.there
 keep:=fun i h h' Z k=>by
  obtain⟨⟨old,he⟩,h1⟩:=Z;exact⟨⟨old,k _ (by simp) _ he⟩,h1.at fun o=>k _ (by simp) o⟩
 item:=by
  intro X hP hw hK hc i pins s σ H E I hf Z hg;subst hP hw hK;obtain⟨xs,x,q1,ex⟩:=hg;obtain⟨⟨old,he⟩,h1⟩:=Z;obtain⟨us,r1,b1⟩:=q1.ob I;obtain⟨u,hu,ru⟩:=r1.get ex;have hlt:i<us.toArray.size:=by simpa using (dE.mp hu).1
  refine wpAny_pyNext_enum_itemD (Hf T (A:=X.A.in1) (show X.A.in1.handled=none from I.ok.hd hc) it a nai us.toArray) he ⟨h1,b1⟩ hlt ne (by simp[ne,nae.symm]) fun y h' tk hy ho hs' ht hsz hk=>⟨_,rfl,?_⟩;have ey:y=u:=by have hy:us.toArray[i]?=some y:=hy;simp only[List.getElem?_toArray] at hy;rw[hu] at hy;exact (eE hy).symm
  subst ey;refine wpAny_letOwnedTupleGo_enum ho fun g' eg sg=>?_;have lt:∀{c o},s.heap.get? c=some o->c≠s.heap.objs.size:=fun e=>bT (aY e);have kg:∀c o,c∉ [e,it]->s.heap.get? c=some o->g'.get? c=some o:=fun c o hc e1=>by
   simp only[cX,xG,or_false,not_or] at hc;exact sg.extBut c o hc.1 (hk c o hc.1 hc.2 e1)
  have tg:g'.get? s.heap.objs.size=some {cls:=.type "tuple",data:=.seq #[.int i tk,y]}:=sg.extBut _ _ (lt he).symm ht;have I':Inv X pins σ (upd H s.heap.objs.size (.tup [.int i,x])) {s with heap:=g',toks:=tk+1}:=HF I hf kg (aA _) ⟨by simp[eO],[.int i tk,y],.cons ⟨tk,rfl⟩ (.cons ru .nil),_,tg,rfl,_,rfl⟩;refine⟨.ref s.heap.objs.size,_,I',rfl,⟨_,x,rfl,I.ao.fresh (aA _),rfl,fun xs' p1=>?_⟩,⟨⟨y,eg⟩,hs'.1.at fun o=>sg.extBut _ o ne.symm⟩,fun c hc=>?_⟩
  .rw[qp.inj I p1 q1];exact ex
  .have f:=hf c hc;have:∃o,s.heap.get? c=some o:=by
    simp only[cX,xG,or_false] at hc;rcases hc with rfl|rfl
    .exact⟨_,he⟩
    .obtain⟨o,e1,_⟩:=h1.there;exact⟨o,e1⟩
   obtain⟨o,e1⟩:=this;rw[aq (lt e1)];exact f.1
 done:=by
  intro X hP hw hK hc i pins s σ H E I hf Z hg;subst hP hw hK;obtain⟨xs,q1,hend⟩:=hg;obtain⟨⟨old,he⟩,h1⟩:=Z;obtain⟨us,r1,b1⟩:=q1.ob I;have l1:=r1.length;refine wpAny_pyNext_enum_endD (GP T (A:=X.A.in1) (show X.A.in1.handled=none from I.ok.hd hc) it a us.toArray i (by simp;omega)) he ⟨rfl,h1,b1⟩ fun h' kh=>⟨rfl,?_⟩;exact sV (t':=s.toks) I hf fun c o hc e1=>by
   simp only[cX,xG,or_false,not_or] at hc;exact kh c o hc.2 e1
 self:=fun _ _ _ _ _ Z h=>let ⟨⟨_,he⟩,_⟩:=Z;wpAny_pyIter_enum he h
section
variable {X:Cx}{E:XK}{a:Expr}{p pos p1:Pos}{es:List Expr}{n:Nat}
theorem Ng{T:Bool}{s:Shared}{c:Addr}{xs:Array Value}(q:n6 T s.heap c xs):c<s.heap.objs.size:=by
 cases T with
 |true=>obtain⟨o,e,_⟩:=q;exact aY e
 |false=>obtain⟨o,e,_⟩:=q;exact aY e
theorem yt(T:Bool){ta:TA}(hg:Gl X "enumerate")(hm:X.mg "enumerate" = none)(ha:PA X [a] ta)(hs:starEach [a] X.env=[(false,eval a X.env)]):
  PI X (.Tuple es n p1) (.Call (.Name "enumerate" p) [a] [] pos) (fun σ H R=>ta σ H fun vs H1=>∃c,vs=[.ref c]/\(∃xs,qp T X.K H1 c xs)/\R (Gi X.K T c) H1):=by
 intro pins s σ H R I h;refine Call_ (j3 I hg hm PyProof.Rows.boot_enumerate (pF (az (ha pos pins s σ H _ I h) fun us s1 ⟨vs,H1,I1,r1,c,e,⟨xs,q1⟩,q⟩=>?_) (by rw[hs];rfl) (by rfl)) (by decide) (by decide));subst e;obtain⟨u,rfl,ru⟩:=vals1 r1;cases ru;obtain⟨as,_,b1⟩:=q1.ob I1;refine LG b1 fun h' he hi k=>?_;refine wpAny_pyIter_enum he ?_;have I2:Inv X pins σ H1 {s1 with heap:=h',toks:=s1.toks}:=I1.kept (t':=s1.toks) k;have lt:=Ng (s:=s1) b1;refine⟨_,_,_,_,H1,rfl,I2,De (T:=T) (nV (tL _)) (bT (Am lt)) (bT lt),⟨⟨_,he⟩,hi⟩,fun c' hc'=>?_,q⟩;have le:s1.heap.objs.size<=c':=by
  simp only[cX,xG,or_false] at hc';rcases hc' with rfl|rfl
  .exact Nat.le_add_right _ _
  .exact aA _
 exact I1.oP le (I1.ao.fresh le)
end
end TwS
namespace TwS
open PySem L2 PyProof.Rows
def Je(K:W.Frag)(a:Addr)(n:Nat):It:=
 ⟨fun i H=>∃xs x,i<n/\bB K H a xs/\xs[n-1-i]?=some x,fun i H x H'=>H'=H/\∀xs,bB K H a xs->xs[n-1-i]?=some x,fun i _=>n<=i⟩
theorem wN{P:Program}{w:World}{K:W.Frag}{tg:Expr}(a it:Addr)(n:Nat):Turn P w K tg (Je K a n) [it] it (fun i h=>i<=n/\h.IsRevIter it a ((n:Int)-1-i)) where
 mem:=by simp
 obj:=fun i h Z c hc=>by
  have e:c=it:=by simpa using hc
  subst e;obtain⟨_,o,e,c,d⟩:=Z;exact⟨o,e,fun v q=>by rw[d] at q;cases q⟩
 keep:=fun i h h' Z k=>⟨Z.1,Z.2.at fun o e=>k it (by simp) o e⟩
 item:=by
  intro X hP hw hK hc i pins s σ H E I hf Z hg;subst hP hw hK;obtain⟨xs,x,hi,hq,hx⟩:=hg;obtain⟨us,rv,pl,hz⟩:=I.list hq;obtain⟨u,hu,ru⟩:=rv.get hx;obtain⟨_,hit⟩:=Z;have e1:(n:Int)-1-(i:Int)=((n-1-i:Nat):Int):=by omega
  rw[e1] at hit;refine wpAny_pyNext_rev_item hit pl.isList (x:=u) (by simpa using hu) fun h' hit' hs'=>⟨u,rfl,?_⟩;have e2:((n-1-i:Nat):Int)-1=(n:Int)-1-((i+1:Nat):Int):=by omega
  rw[e2] at hit';obtain⟨o,ho,hc',hd⟩:=id hit';refine sC (n:= "list_reverseiterator") ho hc' hd (by decide) ?_;have I':Inv X pins σ H {s with heap:=h',toks:=s.toks}:=sV I hf fun c o hc e=>hs'.extBut c o (fun z=>hc (by simp[z])) e;refine⟨x,H,I',ru,⟨rfl,fun xs' q=>?_⟩,⟨hi,hit'⟩,fun c hc=>(hf c hc).1⟩;rw[I.rh q hq];exact hx
 done:=by
  intro X hP hw hK hc i pins s σ H E I hf Z hg;subst hP hw hK;have hg:n<=i:=hg;obtain⟨hle,hit⟩:=Z;have e1:(n:Int)-1-(i:Int)= -1:=by omega
  rw[e1] at hit;refine wpAny_pyNext_rev_end (I.ok.hd hc) hit fun h' kh=>⟨rfl,?_⟩;exact sV (t':=s.toks) I hf fun c o hc e=>kh c o (fun z=>hc (by simp[z])) e
 self:=fun _ _ _ _ _ Z h=>wpAny_pyIter_revIter Z.2 h
section
variable {X:Cx}{a:Expr}{p pos:Pos}{tg:Expr}
theorem vS:bootBuiltins "reversed" = some (.type "reversed"):=by decide+kernel
theorem L7{ta:TA}(hg:Gl X "reversed")(hm:X.mg "reversed" = none)(ha:PA X [a] ta)(hs:starEach [a] X.env=[(false,eval a X.env)]):
  PI X tg (.Call (.Name "reversed" p) [a] [] pos) (fun σ H R=>ta σ H fun vs H1=>∃c xs,vs=[.ref c]/\bB X.K H1 c xs/\R (Je X.K c xs.length) H1):=by
 intro pins s σ H R I h;refine Call_ (j3 I hg hm vS (pF (az (ha pos pins s σ H _ I h) fun us s1 Z=>Z.g fun vs Z=>Z.g fun H1 Z=>Z.g fun I1 Z=>Z.g fun r1 Z=>Z.g fun c Z=>Z.g fun xs Z=>Z.g fun e Z=>Z.g fun q1 q=>?_) (by rw[hs];rfl) (by rfl)) (by decide) (by decide));subst e;obtain⟨u,rfl,ru⟩:=vals1 r1;cases ru;obtain⟨as,rv,pl,hz⟩:=I1.list q1;refine call_reversed_list pl.isList ?_;have hit:Heap.IsRevIter (s1.heap.push (revObj c ((as.toArray.size:Int)-1))) s1.heap.objs.size c ((as.toArray.size:Int)-1):=⟨_,cY _ rfl,rfl,rfl⟩;refine wpAny_pyIter_revIter hit ?_;have I2:Inv X pins σ H1 {s1 with heap:=s1.heap.push (revObj c ((as.toArray.size:Int)-1)),toks:=s1.toks}:=I1.kept (t':=s1.toks) fun b o e=>bj _ e;have el:as.toArray.size=xs.length:=by rw[bX];exact rv.length.symm
 refine⟨_,_,_,_,H1,rfl,I2,wN c _ xs.length,⟨jS _,by rw[show (xs.length:Int)-1-((0:Nat):Int)=(as.toArray.size:Int)-1 by rw[el];simp];exact hit⟩,fun c' hc'=>?_,q⟩;have le:c'=s1.heap.objs.size:=by simpa using hc'
 subst le;exact I1.oP (aA _) (I1.ao.fresh (aA _))
end
theorem n5{α β:Type}{M:Model}{A:Around}{v:α}{Q:α->Shared->Prop}{E:aH}{s:Shared}{t:Sem β}{Q':β->Shared->Prop}{E':aH}(h:wpAny M A (pure v) Q E s)(k:Q v s->wpAny M A t Q' E' s):wpAny M A t Q' E' s:=
 fun Γ p hΓ=>k (h Γ p hΓ) Γ p hΓ
theorem E8:typeLookup (.type "enumerate") "__len__" = pure none:=by rw[vh,vf];kernel_rfl
theorem Cj:typeLookup (.type "enumerate") "__length_hint__" = pure none:=by rw[vh,vf];kernel_rfl
theorem D5:typeLookup (.type "list_reverseiterator") "__len__" = pure none:=by rw[vh,vf];kernel_rfl
theorem Ho:typeLookup (.type "list_reverseiterator") "__length_hint__" = pure (some (.builtin "list_reverseiterator.__length_hint__")):=by rw[vh,vf];kernel_rfl
section
variable {prog:Program}{w:World}{A:Around}{s:Shared}{R:Result->Shared->Prop}{E:aH}
variable {I:Addr}
theorem AL{Q:Bool->Shared->Prop}(t:s.TypeIs (.ref I) "enumerate")(h:Q true s):wpAny (model prog w) A (Builtin.List.listLengthHint (.ref I)) Q E s:=by unfold Builtin.List.listLengthHint;refine af (pS t E8 ?_);show wpAny _ A (specialOf (Value.ref I) (Str.ofString "__length_hint__") >>= _) _ _ _;exact af (pS t Cj (aj h))
theorem zB{Q:Bool->Shared->Prop}(t:s.TypeIs (.ref I) "list_reverseiterator")(h:Q false s):wpAny (model prog w) A (Builtin.List.listLengthHint (.ref I)) Q E s:=by
 unfold Builtin.List.listLengthHint;refine af (pS t D5 ?_);show wpAny _ A (specialOf (Value.ref I) (Str.ofString "__length_hint__") >>= _) _ _ _;refine af (pS t Ho ?_);generalize hid:("list_reverseiterator.__length_hint__" : String)=id0
 wp_delta
 rw[show splitId id0=some ("list_reverseiterator", "__length_hint__") from by subst hid;decide+kernel];subst hid;refine af (wpAny_isInstance (b:=true) t (by rw[isSubtype_type];kernel_rfl) ?_);exact aj h
theorem Ey{K:Unit->Sem Fin}{Q:Fin->Shared->Prop}(hS:s.heap.get? S=some {cls:=.type "list",data:=.seq #[] c0})
  (h:∀h' c1,(∀b o,b≠S->s.heap.get? b=some o->h'.get? b=some o)->h'.get? S=some {cls:=.type "list",data:=.seq #[] c1}->wpAny (model prog w) A (K ()) Q E {s with heap:=h'}):
  wpAny (model prog w) A (Builtin.List.listTouch (.ref S) >>= K) Q E s:=by
 refine af ?_;show wpAny _ A (updateSeq S (·.push .none) >>= fun _=>updateSeq S (·.pop)) _ _ _;refine af (vw hS rfl ?_);have g2:=lF (Obj.mapSeq (·.push Value.none)) hS rfl;refine vw (hz:=by seq_fits) g2 rfl ?_;have g3:=lF (Obj.mapSeq (·.pop)) g2 rfl;exact h _ _ (fun b o hb e=>(gG _ _ (aX hb)).trans ((gG _ _ (aX hb)).trans e)) g3
theorem Im(hU:U= "enumerate" \/U= "list_reverseiterator")(hT:s.TypeIs (.ref I) U)(hself:∀(Q:aH) E,Q (.ref I) s->wpAny (model prog w) A.in1 (pyIter (.ref I)) Q E s)(S:Addr)(c0:Nat)(nSI:S≠I)
  (hS:s.heap.get? S=some {cls:=.type "list",data:=.seq #[] c0})
  (hR:∀h' c,(∀b o,b≠S->s.heap.get? b=some o->h'.get? b=some o)->h'.get? S=some {cls:=.type "list",data:=.seq #[] c}->codeAny (model prog w) A (.builtin "list.extend.loop" ⟨[.ref S,.ref I,.none],[]⟩) R {s with heap:=h'}):
  wpAny (model prog w) A.in1 (Builtin.List.listExtendWith (.ref S) (.ref I) .none)
   (fun fin s'=>match fin with | .done f=>R (.ok f) s' | .again c'=>c'.quiet=true/\codeAny (model prog w) A c' R s') (fun e s'=>R (.error e) s') s:=by
 have same:Builtin.List.listSameRef (.ref S) (.ref I)=false:=by simp[Builtin.List.listSameRef,nSI]
 unfold Builtin.List.listExtendWith;refine af (wpAny_typeOf hT ?_);rcases hU with rfl|rfl
 .rw[if_neg (by rw[same];decide)];refine af (hself _ _ (af (fF (AL hT ?_))));rw[if_pos (by rfl)];exact af (sF (Ey hS fun h' c1 k hS'=>aj ⟨plainId_quiet wa _,hR h' c1 k hS'⟩))
 .rw[if_neg (by rw[same];decide)];refine af (hself _ _ (af (fF (zB hT ?_))));rw[if_neg (by decide)];exact aj ⟨plainId_quiet wa _,hR s.heap c0 (fun _ _ _ e=>e) hS⟩
end
section
variable {prog:Program}{w:World}{A:Around}{s:Shared}{E:aH}{I:Addr}
theorem D2{Q:aH}(hU:U= "enumerate" \/U= "list_reverseiterator")(hT:∃o,s.heap.get? I=some o/\o.cls=.type U)
  (hself:∀(A:Around)(h':Heap)(Q:aH) E,(∀b o,s.heap.get? b=some o->h'.get? b=some o)->Q (.ref I) {s with heap:=h'}->wpAny (model prog w) A (pyIter (.ref I)) Q E {s with heap:=h'})
  (hQ:∀h' c,(∀b o,s.heap.get? b=some o->h'.get? b=some o)->h'.get? s.heap.objs.size=some {cls:=.type "list",data:=.seq #[] c}->
   codeAny (model prog w) A.in1 (.builtin "list.extend.loop" ⟨[.ref s.heap.objs.size,.ref I,.none],[]⟩) (fun r s2=>r=.ok (.ret .none)/\Q (.ref s.heap.objs.size) s2) {s with heap:=h'}):
  wpAny (model prog w) A (call (.type "list") [.ref I]) Q E s:=by
 obtain⟨oI,gI,cI⟩:=hT;have nI:s.heap.objs.size≠I:=nV (aY gI);refine callType_codes (Q₁:=fun obj s1=>obj=.ref s.heap.objs.size/\s1={s with heap:=s.heap.push {cls:=.type "list",data:=.seq #[]}}) F.called_list (F.typeCall_list_1 _) F.entry_list_init
  (code_list_new _ ⟨rfl,rfl⟩) fun obj s1 h1=>?_
 obtain⟨rfl,rfl⟩:=h1;have gS:(s.heap.push {cls:=.type "list",data:=.seq #[]}).get? s.heap.objs.size=some {cls:=.type "list",data:=.seq #[]}:=cY _ rfl;refine⟨⟨_,gS,rfl⟩,F.args_list_init_2 _ _,?_⟩;generalize hg:s.heap.push {cls:=.type "list",data:=.seq #[]}=g at gS;have kg:∀b o,s.heap.get? b=some o->g.get? b=some o:=fun b o e=>by rw[<-hg];exact bj _ e
 show wpAny _ A.in1.in1 (do let old <-Builtin.List.listItems (.ref s.heap.objs.size);Builtin.List.listUpdate (.ref s.heap.objs.size) (fun _=>#[]);letGo old.toList.reverse;Builtin.List.listExtendWith (.ref s.heap.objs.size) (.ref I) .none) _ _ _;refine af ?_;unfold Builtin.List.listItems;refine af (vd gS rfl (aj ?_));show wpAny _ A.in1.in1 (updateSeq s.heap.objs.size (fun _=>#[]) >>= fun _=>letGo (#[]:Array Value).toList.reverse >>= fun _=>Builtin.List.listExtendWith (.ref s.heap.objs.size) (.ref I) .none) _ _ _;refine af (vw gS rfl ?_);have g2:=lF (Obj.mapSeq (fun _=>(#[]:Array Value))) gS rfl;have lt:∀{b o},s.heap.get? b=some o->b≠s.heap.objs.size:=fun e=>bT (aY e);have k2:∀b o,s.heap.get? b=some o->(g.update s.heap.objs.size (Obj.mapSeq (fun _=>(#[]:Array Value)))).get? b=some o:=fun b o e=>(gG _ _ (aX (lt e))).trans (kg b o e);refine af (wpAny_letGo ?_);refine Im (A:=A.in1) hU ⟨oI,k2 _ _ gI,cI⟩ (fun Q E q=>hself _ _ Q E k2 q) _ _ nI g2 fun h' c k hS=>lh (hQ h' c (fun b o e=>k b o (lt e) (k2 b o e)) hS) fun r s2 hr=>?_;obtain⟨rfl,q⟩:=hr;exact⟨rfl,q⟩
end
def dn(X:Cx):Cx:={X with A:=X.A.in1}
theorem Inv.J6(I:L2.Inv X pins σ H s):L2.Inv (dn X) pins σ H s:=
 ⟨⟨I.ok.mod,I.ok.kind,I.ok.glob,I.ok.blt,I.ok.above,I.ok.inj,I.ok.has,I.ok.si,I.ok.hd,I.ok.frames,I.ok.uK,I.ok.yV,I.ok.bs,I.ok.mr,I.ok.mX,I.ok.nW,I.ok.gH,I.ok.oy⟩,I.os,I.bare,I.base,I.loc,I.cell,I.free,I.eD,I.pin,I.ao,I.len⟩
theorem Inv.out(ok:X.Ok)(I:L2.Inv (dn X) pins σ H s):L2.Inv X pins σ H s:=
 ⟨ok,I.os,I.bare,I.base,I.loc,I.cell,I.free,I.eD,I.pin,I.ao,I.len⟩
section
variable {X:Cx}{pins:aJ}{σ:L2.St}
theorem EC{y:Str}{p:Pos}{J:It}{fp:List Addr}{it S:Addr}{tn:Nat->Heap->Prop}(T:Turn X.prog X.w X.K (.Name y p) J fp it tn)(hc:X.calm=true)(W:Nat->Nat->List V->L2.Hp->Prop)(Q:L2.Hp->Prop)
  (hV:∀i m ys H,W i m ys H->H S=some (.lst ys)->(J.stop i H/\Q H)\/(J.go i H/\ys.length<sizeLine/\∃m',m=m'+1/\∀x H',J.zg i H x H'->H' S=some (.lst ys)/\W (i+1) m' (ys++[x]) (upd H' S (.lst (ys++[x]))))):
  ∀(m i:Nat)(ys:List V)(H:L2.Hp)(s:Shared),L2.Inv (dn X) pins σ H s->tn i s.heap->(∀b∈fp,eh (dn X) pins H b)->H S=some (.lst ys)->W i m ys H->
   codeAny (model X.prog X.w) X.A (.builtin "list.extend.loop" ⟨[.ref S,.ref it,.none],[]⟩) (fun r s2=>r=.ok (.ret .none)/\∃H',L2.Inv (dn X) pins σ H' s2/\Q H') s:=by
 intro m
 induction m with
 |zero=>
  intro i ys H s I Z hf hS v;rcases hV i 0 ys H v hS with ⟨st,q⟩|⟨_,_,m',e,_⟩
  .refine codeAny_builtin F.entry_extend_loop ?_;rw[Around.under_plainId wa _];unfold Builtin.«list.extend.loop»;refine af (az (T.done (dn X) rfl rfl rfl hc i pins s σ H _ I hf Z st) fun r s1 Y=>Y.g fun er I1=>?_);subst er;exact aj ⟨rfl,H,I1,q⟩
  .cases e
 |succ m ih=>
  intro i ys H s I Z hf hS v;refine codeAny_builtin F.entry_extend_loop ?_;rw[Around.under_plainId wa _];unfold Builtin.«list.extend.loop»;rcases hV i (m+1) ys H v hS with ⟨st,q⟩|⟨go,hz,m',e,hy⟩
  .refine af (az (T.done (dn X) rfl rfl rfl hc i pins s σ H _ I hf Z st) fun r s1 Y=>Y.g fun er I1=>?_);subst er;exact aj ⟨rfl,H,I1,q⟩
  .cases e;refine af (az (T.item (dn X) rfl rfl rfl hc i pins s σ H _ I hf Z go) fun r s1 Y=>Y.g fun u Y=>Y.g fun er hl=>?_);subst er;have hl:wpAny (model X.prog X.w) (dn X).A (pure ()) _ _ s1:=hl;refine n5 (v:=()) hl fun Y=>Y.g fun x Y=>Y.g fun H' Y=>Y.g fun I1 Y=>Y.g fun rx Y=>Y.g fun yl Y=>Y.g fun Z1 fz=>?_;obtain⟨hS',v'⟩:=hy x H' yl;obtain⟨Y,its,n,r,hl',e⟩:=I1.sZ hS';show wpAny _ _ (updateSeq S (·.push u) >>= _) _ _ _;have hz2:its.toArray.size<=sizeLine:=by rw[bX,<-hl'];exact Y
   have hz':(its.toArray.push u).size<=sizeLine+1:=by rw[Array.size_push];omega
   refine af (vw e rfl (hz:=hz2) (_hz':=hz') ?_);have I2:L2.Inv (dn X) pins σ (upd H' S (.lst (ys++[x]))) {s1 with heap:=s1.heap.update S (Obj.mapSeq (·.push u)),toks:=s1.toks}:=
    I1.DV (its':=its++[u]) hS' e (by simp) (r.append (.cons rx .nil)) (by rw[iU,DB];omega)
   have nS:∀b∈fp,b≠S:=fun b hb z=>by rw[z] at hb;have:=fz S hb;rw[hS'] at this;cases this
   refine aj ⟨plainId_quiet wa _,ih (i+1) _ _ _ I2 (T.keep _ _ _ Z1 fun b hb o eo=>(gG _ _ (aX (nS b hb))).trans eo) (fun b hb=>?_) aB v'⟩;exact⟨by rw[aq (nS b hb)];exact fz b hb,(hf b hb).2⟩
theorem HL{tn:Nat->Heap->Prop}(hU:U= "enumerate" \/U= "list_reverseiterator")(I:L2.Inv X pins σ H s)(T:Turn X.prog X.w X.K (.Name y p) J fp it tn)(hc:X.calm=true)
  (hT:∃o,s.heap.get? it=some o/\o.cls=.type U) (Z:tn 0 s.heap) (hf:∀b∈fp,eh X pins H b)
  (hV:∀S,H S=none->∃(W:Nat->Nat->List V->L2.Hp->Prop) (m:Nat),W 0 m [] (upd H S (.lst []))/\∀i m ys H,W i m ys H->H S=some (.lst ys)->(J.stop i H/\QQ (.ref S) H)\/(J.go i H/\ys.length<sizeLine/\∃m',m=m'+1/\∀x H',J.zg i H x H'->H' S=some (.lst ys)/\W (i+1) m' (ys++[x]) (upd H' S (.lst (ys++[x]))))):
  wpAny (model X.prog X.w) X.A (call (.type "list") [.ref it]) (EP X pins σ QQ) X.xe s:=by
 have hS:H s.heap.objs.size=none:=I.ao.fresh (aA _);obtain⟨W,m,v0,hv⟩:=hV _ hS;have lt:∀b∈fp,b≠s.heap.objs.size:=fun b hb=>by
  obtain⟨o,e,_⟩:=T.obj _ _ Z b hb;exact bT (aY e)
 refine D2 hU hT (fun A h' Q E k q=>T.self A 0 {s with heap:=h'} Q E (T.keep _ _ _ Z fun b _ o e=>k b o e) q) fun h' c k gS=>?_;have I1:L2.Inv X pins σ (upd H s.heap.objs.size (.lst [])) {s with heap:=h',toks:=s.toks}:=I.laid k (aA _) ⟨jS _,[],c,.nil,gS⟩;have f1:∀b∈fp,eh (dn (dn X)) pins (upd H s.heap.objs.size (.lst [])) b:=fun b hb=>⟨by rw[aq (lt b hb)];exact (hf b hb).1,(hf b hb).2⟩;refine lh (EC (X:=dn X) (S:=s.heap.objs.size) T hc W (QQ (.ref s.heap.objs.size)) hv m 0 [] _ _ (Inv.J6 (Inv.J6 I1)) (T.keep _ _ _ Z fun b _ o e=>k b o e) f1 aB v0) fun r s2 Y=>Y.g fun er Y=>Y.g fun H' Y=>Y.g fun I2 q=>⟨er,.ref s.heap.objs.size,H',Inv.out I.ok (Inv.out (Inv.J6 I).ok I2),rfl,q⟩
end
section
variable {prog:Program}{w:World}{A:Around}{E:aH}{s:Shared}{e it a:Addr}{i:Nat}{xs:Array Value}{T:Bool}
end
section
variable {X:Cx}{E:XK}{a b:Expr}{p pos p1 pos2:Pos}{es:List Expr}{n:Nat}{da db:Tw.Env->Tw.Hp->Tw.R Tw.W}
end
section
variable {K:Zk}{ι ι1:Nat->Addr}{h h1:Tw.Hp}{H H1:L2.Hp}{ρ:Tw.Env}{σ:L2.St}{a:Addr}
def eP(ι:Nat->Addr)(h:Tw.Hp)(a:Addr):Prop:=∀(i:Nat)(o:Tw.O),h[i]?=some o->eR o=true->ι i≠a
theorem eP.later(al:eP ι h a)(e:Ext ι h H ι1 h1 H1)(ha:H a≠none):eP ι1 h1 a:=fun i o ei m z=>by
 by_cases hi:i<h.length
 .obtain⟨o',eo⟩:∃o',h[i]?=some o':=⟨_,iM hi⟩;rw[e.same i hi] at z;exact al i o' eo (by rw[<-e.fz i o' o eo ei];exact m) z
 .exact ha (by rw[<-z];exact e.new i (kG.mp hi) (jL ei))
theorem HR.other{u o:HO}(r:HR K ι h H)(al:eP ι h a)(ha:H a=some u)(n1:∀xs,u≠.tup xs)(n2:∀o v,u≠.bI o v)(n3:∀gs,u≠.xd gs:=by intro _ z;cases z)(n4:∀φ,u≠.ext φ:=by intro _ z;cases z):HR K ι h (upd H a o):=by
 have kp:Keeps ι h.length H ι h.length (upd H a o):=⟨aA _,fun _ _=>rfl,fun b xs e=>by
  rw[aq (fun z=>by rw[z,ha] at e;cases e;exact n1 _ rfl)];exact e⟩
 refine⟨fun i v q=>?_,r.inj,fun e z=>let ⟨C,dx,q⟩:=r.hx e z;⟨C,dx,by rw[aq (fun z=>by rw[z,ha] at q;cases q;exact n4 _ rfl)];exact q⟩⟩;by_cases m:eR v=true
 .exact (r.obj i v q).keep kp fun w e hw z=>by
   rw[aq]
   .exact z
   .rcases hw with rfl|⟨gs,rfl⟩
    .exact al i v q m
    .intro y;rw[y,ha] at z;cases z;exact n3 _ rfl
 .cases v with
  |bI ws=>
   obtain⟨xs,sq,rr⟩:=r.obj i _ q;rcases sq with ⟨o',sq⟩|sq
   .refine⟨xs,.inl ⟨o',?_⟩,rr.keep kp⟩;rw[aq (fun z=>by rw[z,ha] at sq;cases sq;exact n2 _ _ rfl)];exact sq
   .exact⟨xs,.inr sq,rr.keep kp⟩
  |ax c fs=>
   obtain⟨C,dx,gs,q0,q1,q2,q3⟩:=r.obj i _ q;refine⟨C,dx,gs,q0,?_,?_,q3.keep kp⟩
   .rw[aq (fun z=>by rw[z,ha] at q1;cases q1;exact n4 _ rfl)];exact q1
   .exact XD.keep q2 fun b v ⟨_,hv⟩ q=>by
     subst hv;rw[aq (fun z=>by rw[z,ha] at q;cases q;exact n3 _ rfl)];exact q
  |_=>exact absurd rfl m
theorem Ext.other{u o:HO}(e:Ext ι h H ι1 h1 H1)(ha:H a=none)(ha1:H1 a=some u):Ext ι h H ι1 h1 (upd H1 a o):=
 ⟨e.len,e.same,fun b v q n=>by rw[aq (bW q ha)];exact e.fr b v q n,e.new,fun b q=>e.zf b (pM b q),e.fz⟩
theorem HR.adopt{u:Tw.O}{o:HO}(r:HR K ι h H)(al:eP ι h a)(ha:H a=some o)(m:eR u=true)(ro:∀ι' n',Keeps ι h.length H ι' n' H->RO K ι' n' H a u):HR K (eI ι h.length a) (h++[u]) H:=by
 have hl:(h++[u]).length=h.length+1:=by simp
 have kp:Keeps ι h.length H (eI ι h.length a) (h++[u]).length H:=⟨by omega,fun i hi=>cV hi,fun _ _ e=>e⟩;have two:∀{i:Nat}{v:Tw.O},(h++[u])[i]?=some v->(i<h.length/\h[i]?=some v)\/(i=h.length/\v=u):=fun {i v} e=>by
  have hi:=jL e;by_cases z:i<h.length
  .rw[g9 z] at e;exact .inl ⟨z,e⟩
  .have z':i=h.length:=by omega
   subst z';simp at e;exact .inr ⟨rfl,e.symm⟩
 refine⟨fun i v q=>?_,fun i j v w q1 q2 m1 m2 z=>?_,r.hx⟩
 .rcases two q with ⟨hi,q⟩|⟨rfl,rfl⟩
  .rw[cV hi];exact (r.obj i v q).keep kp fun _ _ _ e=>e
  .rw[cG];exact ro _ _ kp
 .rcases two q1 with ⟨hi,p1⟩|⟨ei,ev⟩<;>rcases two q2 with ⟨hj,p2⟩|⟨ej,ew⟩
  .rw[cV hi,cV hj] at z;exact r.inj i j v w p1 p2 m1 m2 z
  .rw[cV hi,ej,cG] at z;exact absurd z (al i v p1 m1)
  .rw[ei,cG,cV hj] at z;exact absurd z.symm (al j w p2 m2)
  .rw[ei,ej]
theorem Ext.adopt{u:Tw.O}(e:Ext ι h H ι1 h1 H1)(ha:H a=none):Ext ι h H (eI ι1 h1.length a) (h1++[u]) H1:=by
 have hl:(h1++[u]).length=h1.length+1:=by simp
 refine⟨by have:=e.len;omega,fun i hi=>(cV (cM hi e.len)).trans (e.same i hi),e.fr,fun i g1 g2=>?_,e.zf,fun i o v q1 q2=>?_⟩
 .by_cases hi:i<h1.length
  .rw[cV hi];exact e.new i g1 hi
  .have:i=h1.length:=by omega
   subst this;rw[cG];exact ha
 .have hi:=cM (jL q1) e.len;rw[g9 hi] at q2;exact e.fz i o v q1 q2
end
noncomputable def nextOf(src:Tw.Src)(i:Nat)(h:Tw.Hp):Option (Option Tw.W):=match src with
 |.fix ws=>some ws[i]?
 |.at a _=>(Tw.bD h a).map fun ys=>ys[i]?
 |.rv a n=>if i<n then (match Tw.bD h a with|none=>none|some ys=>(ys[n-1-i]?).map some) else some none
 |.ea a _=>(Tw.bD h a).map fun ys=>(ys[i]?).map fun x=>.tup [.int i,x]
def gn(K:W.Frag)(J:It)(src:Tw.Src)(ι:Nat->Addr)(q:Nat)(H:L2.Hp):Prop:=
 (∃ad xs ws,J=Jx K ad/\src=.fix ws/\TupAt K H ad xs/\aT K ι q H ws xs)\/(∃lo n,J=FY lo n/\src=.fix (Tw.upTo lo n))\/(∃i n b,J=IQ K b/\b=ι i/\src=.at i n/\i<q)\/
 False\/
 (∃ad xs ws,J=Gi K true ad/\src=.fix (Tw.eT 0 ws)/\TupAt K H ad xs/\aT K ι q H ws xs)\/
 (∃i n b,J=Je K b n/\b=ι i/\src=.rv i n/\i<q)\/(∃i n b,J=Gi K false b/\b=ι i/\src=.ea i n/\i<q)
theorem gn.later{K:W.Frag}{J:It}{src:Tw.Src}{ι ι1:Nat->Addr}{q q1:Nat}{H H1:L2.Hp}(f:gn K J src ι q H)(k:Keeps ι q H ι1 q1 H1):gn K J src ι1 q1 H1:=by
 rcases f with ⟨ad,xs,ws,e1,e2,e3,r⟩|f|⟨i,n,b,e1,e2,e3,hi⟩|f4|⟨ad,xs,ws,e1,e2,e3,r⟩|⟨i,n,b,e1,e2,e3,hi⟩|⟨i,n,b,e1,e2,e3,hi⟩
 .exact .inl ⟨ad,xs,ws,e1,e2,k.uX e3,r.keep k⟩
 .exact .inr (.inl f)
 .exact .inr (.inr (.inl ⟨i,n,b,e1,e2.trans (k.same i hi).symm,e3,cM hi k.le⟩))
 .exact f4.elim
 .exact .inr (.inr (.inr (.inr (.inl ⟨ad,xs,ws,e1,e2,k.uX e3,r.keep k⟩))))
 .exact .inr (.inr (.inr (.inr (.inr (.inl ⟨i,n,b,e1,e2.trans (k.same i hi).symm,e3,cM hi k.le⟩)))))
 .exact .inr (.inr (.inr (.inr (.inr (.inr ⟨i,n,b,e1,e2.trans (k.same i hi).symm,e3,cM hi k.le⟩)))))
theorem oM:∀(ws:List Tw.W)(k:Int)(i:Nat),(Tw.eT k ws)[i]?=(ws[i]?).map fun x=>.tup [.int (k+i),x]
 |[],_,_=>by simp[Tw.eT]
 |w::ws,k,0=>by simp[Tw.eT]
 |w::ws,k,i+1=>by
  simp only[Tw.eT,qS];rw[oM ws (k+1) i,show k+1+(i:Int)=k+((i+1:Nat):Int) by push_cast;omega]
theorem sO:∀(n:Nat)(lo:Int)(i:Nat),(Tw.upTo lo n)[i]?=if i<n then some (.int (lo+i)) else none
 |0,_,_=>by simp[Tw.upTo]
 |n+1,lo,0=>by simp[Tw.upTo]
 |n+1,lo,i+1=>by
  simp only[Tw.upTo,qS];rw[sO n (lo+1) i];by_cases h:i<n
  .rw[if_pos h,if_pos (by omega)]
   congr 2
   push_cast;omega
  .rw[if_neg h,if_neg (by omega)]
theorem jP{K:Zk}{J:It}{src:Tw.Src}{ι:Nat->Addr}{h:Tw.Hp}{H:L2.Hp}(r:HR K ι h H)(f:gn K.K J src ι h.length H)(i:Nat):
  nextOf src i h=none\/(J.stop i H/\nextOf src i h=some none)\/
   ∃w,nextOf src i h=some (some w)/\J.go i H/\∀x H',J.zg i H x H'->HR K ι h H'/\Ext ι h H ι h H'/\RW K.K ι h.length H' w x:=by
 have fq:∀{w x},RW K.K ι h.length H w x->HR K ι h H/\Ext ι h H ι h H/\RW K.K ι h.length H w x:=fun q=>⟨r,Ext.refl _ _ _,q⟩;rcases f with ⟨ad,xs,ws,rfl,rfl,e3,rr⟩|⟨lo,n,rfl,rfl⟩|⟨j,n,b,rfl,rfl,rfl,hi⟩|f4|⟨ad,xs,ws,rfl,rfl,e3,rr⟩|⟨j,n,b,rfl,rfl,rfl,hi⟩|⟨j,n,b,rfl,rfl,rfl,hi⟩
 .cases hw:ws[i]? with
  |none=>exact .inr (.inl ⟨⟨xs,e3.sq,by rw[<-rr.length];exact tP.mp hw⟩,by simp[nextOf,hw]⟩)
  |some w=>
   obtain⟨v,hv,rv⟩:=rr.get hw;refine .inr (.inr ⟨w,by simp[nextOf,hw],⟨xs,v,e3.sq,hv⟩,fun x H' Z=>Z.g fun eH hx=>?_⟩);have:=hx xs e3.sq;rw[hv] at this;cases this;subst eH;exact fq rv
 .by_cases hi:i<n
  .refine .inr (.inr ⟨.int (lo+i),by simp[nextOf,sO,hi],hi,fun x H' Z=>Z.g fun eH hx=>?_⟩);subst eH hx;exact fq (.int _)
  .exact .inr (.inl ⟨kG.mp hi,by simp[nextOf,sO,hi]⟩)
 .cases e:Tw.bD h j with
  |none=>exact .inl (by simp[nextOf,e])
  |some ws=>
   obtain⟨xs,sq,rr⟩:=r.at e;cases hw:ws[i]? with
   |none=>exact .inr (.inl ⟨⟨xs,sq,by rw[<-rr.length];exact tP.mp hw⟩,by simp[nextOf,e,hw]⟩)
   |some w=>
    obtain⟨v,hv,rv⟩:=rr.get hw;refine .inr (.inr ⟨w,by simp[nextOf,e,hw],⟨xs,v,sq,hv⟩,fun x H' Z=>Z.g fun eH hx=>?_⟩);have:=hx xs sq;rw[hv] at this;cases this;subst eH;exact fq rv
 .exact f4.elim
 .cases hw:ws[i]? with
  |none=>exact .inr (.inl ⟨⟨xs,e3.sq,by rw[<-rr.length];exact tP.mp hw⟩,by show some (Tw.eT 0 ws)[i]?=_;rw[oM,hw];rfl⟩)
  |some w=>
   obtain⟨v,hv,rv⟩:=rr.get hw;refine .inr (.inr ⟨.tup [.int i,w],by show some (Tw.eT 0 ws)[i]?=_;rw[oM,hw];simp,⟨xs,v,e3.sq,hv⟩,fun x H' hx=>?_⟩);obtain⟨tt,x',rfl,fresh,rfl,hxy⟩:=hx;have g1:=hxy xs e3.sq;rw[hv] at g1;cases g1;obtain⟨r4,x4⟩:=r.grow (o:=.tup [.int i,v]) fresh;exact⟨r4,x4,.tup (.inl aB) (.cons (.int _) (.cons (rv.keep (x4.keeps r)) .nil))⟩
 .by_cases hin:i<n
  .cases e:Tw.bD h j with
   |none=>exact .inl (by simp[nextOf,e,hin])
   |some ws=>
    obtain⟨xs,sq,rr⟩:=r.at e;cases hw:ws[n-1-i]? with
    |none=>exact .inl (by simp[nextOf,e,hin,hw])
    |some w=>
     obtain⟨v,hv,rv⟩:=rr.get hw;refine .inr (.inr ⟨w,by simp[nextOf,e,hin,hw],⟨xs,v,hin,sq,hv⟩,fun x H' Z=>Z.g fun eH hx=>?_⟩);have:=hx xs sq;rw[hv] at this;cases this;subst eH;exact fq rv
  .exact .inr (.inl ⟨kG.mp hin,by simp[nextOf,hin]⟩)
 .cases e:Tw.bD h j with
  |none=>exact .inl (by simp[nextOf,e])
  |some ws=>
   obtain⟨xs,sq,rr⟩:=r.at e;cases hw:ws[i]? with
   |none=>exact .inr (.inl ⟨⟨xs,sq,by rw[<-rr.length];exact tP.mp hw⟩,by simp[nextOf,e,hw]⟩)
   |some w=>
    obtain⟨v,hv,rv⟩:=rr.get hw;refine .inr (.inr ⟨.tup [.int i,w],by simp[nextOf,e,hw],⟨xs,v,sq,hv⟩,fun x H' hx=>?_⟩);obtain⟨tt,x',rfl,fresh,rfl,hxy⟩:=hx;have g1:=hxy xs sq;rw[hv] at g1;cases g1;obtain⟨r4,x4⟩:=r.grow (o:=.tup [.int i,v]) fresh;exact⟨r4,x4,.tup (.inl aB) (.cons (.int _) (.cons (rv.keep (x4.keeps r)) .nil))⟩
def cnt(src:Tw.Src)(i m:Nat):Prop:=match src with
 |.fix ws=>m=ws.length-i
 |.rv _ n=>m=n-i
 |_=>True
noncomputable def ku:Tw.Src->Nat
 |.fix ws=>ws.length
 |.at _ n=>n
 |.rv _ n=>n
 |.ea _ n=>n
theorem uA(src:Tw.Src):cnt src 0 (ku src):=by cases src<;>simp[cnt,ku]
theorem xu{src:Tw.Src}{i m:Nat}(h:cnt src i (m+1)):cnt src (i+1) m:=by cases src<;>simp only[cnt] at h⊢<;>first|trivial|omega
def wk(src:Tw.Src)(k:Tw.W->List Tw.W->Tw.Hp->Tw.R (List Tw.W))(i m:Nat)(acc:List Tw.W)(h:Tw.Hp):Tw.R (List Tw.W):=match src with
 |.fix ws=>Tw.eG k (ws.drop i) acc h
 |.at a _=>Tw.cP a k m i acc h
 |.rv _ _=>.bad
 |.ea a _=>Tw.dP a k m i acc h
theorem Eu(src:Tw.Src)(k:Tw.W->List Tw.W->Tw.Hp->Tw.R (List Tw.W))(h:Tw.Hp):Tw.walk src k h=wk src k 0 (ku src) [] h:=by cases src<;>rfl
theorem Ii{src:Tw.Src}{k:Tw.W->List Tw.W->Tw.Hp->Tw.R (List Tw.W)}{i m:Nat}{acc:List Tw.W}{h:Tw.Hp}(hm:cnt src i m):
  wk src k i m acc h=.bad\/(nextOf src i h=some none/\wk src k i m acc h=.ok acc h)\/∃w m',nextOf src i h=some (some w)/\m=m'+1/\wk src k i m acc h=(k w acc h).bind fun acc h=>wk src k (i+1) m' acc h:=by
 cases src with
 |fix ws=>
  have hm:m=ws.length-i:=hm;cases hw:ws[i]? with
  |none=>
   have hl:=tP.mp hw;refine .inr (.inl ⟨by simp[nextOf,hw],?_⟩);show Tw.eG k (ws.drop i) acc h=_;rw[List.drop_eq_nil_of_le hl];rfl
  |some w=>
   have hl:=(dE.mp hw).1;refine .inr (.inr ⟨w,ws.length-(i+1),by simp[nextOf,hw],by omega,?_⟩);show Tw.eG k (ws.drop i) acc h=_;rw[zd hw];rfl
 | «at» a n=>
  cases e:Tw.bD h a with
  |none=>refine .inl ?_;show Tw.cP a k m i acc h=_;unfold Tw.cP;rw[e]
  |some ws=>
   cases hw:ws[i]? with
   |none=>refine .inr (.inl ⟨by simp[nextOf,e,hw],?_⟩);show Tw.cP a k m i acc h=_;unfold Tw.cP;simp only[e,hw]
   |some w=>
    cases m with
    |zero=>refine .inl ?_;show Tw.cP a k 0 i acc h=_;unfold Tw.cP;simp only[e,hw]
    |succ m=>
     refine .inr (.inr ⟨w,m,by simp[nextOf,e,hw],rfl,?_⟩);show Tw.cP a k (m+1) i acc h=_
     conv=>lhs;unfold Tw.cP
     simp only[e,hw];rfl
 |rv a n=>exact .inl rfl
 |ea a n=>
  cases e:Tw.bD h a with
  |none=>refine .inl ?_;show Tw.dP a k m i acc h=_;unfold Tw.dP;rw[e]
  |some ws=>
   cases hw:ws[i]? with
   |none=>refine .inr (.inl ⟨by simp[nextOf,e,hw],?_⟩);show Tw.dP a k m i acc h=_;unfold Tw.dP;simp only[e,hw]
   |some w=>
    cases m with
    |zero=>refine .inl ?_;show Tw.dP a k 0 i acc h=_;unfold Tw.dP;simp only[e,hw]
    |succ m=>
     refine .inr (.inr ⟨.tup [.int i,w],m,by simp[nextOf,e,hw],rfl,?_⟩);show Tw.dP a k (m+1) i acc h=_
     conv=>lhs;unfold Tw.dP
     simp only[e,hw];rfl
theorem G2{K:Zk}{J:It}{src:Tw.Src}{ι:Nat->Addr}{h:Tw.Hp}{H:L2.Hp}(r:HR K ι h H)(f:gn K.K J src ι h.length H)(k:Tw.W->List Tw.W->Tw.Hp->Tw.R (List Tw.W))(i m:Nat)(acc:List Tw.W)(hm:cnt src i m):
  wk src k i m acc h=.bad\/(J.stop i H/\wk src k i m acc h=.ok acc h)\/
   ∃w m',m=m'+1/\J.go i H/\(∀x H',J.zg i H x H'->HR K ι h H'/\Ext ι h H ι h H'/\RW K.K ι h.length H' w x)/\cnt src (i+1) m'/\wk src k i m acc h=(k w acc h).bind fun acc h=>wk src k (i+1) m' acc h:=by
 rcases Ii (k:=k) (acc:=acc) (h:=h) hm with e|⟨e1,e2⟩|⟨w,m',e1,e2,e3⟩
 .exact .inl e
 .rcases jP r f i with q|⟨st,q⟩|⟨w,q,_⟩
  .rw[e1] at q;cases q
  .exact .inr (.inl ⟨st,e2⟩)
  .rw[e1] at q;cases q
 .rcases jP r f i with q|⟨st,q⟩|⟨w',q,go,hy⟩
  .rw[e1] at q;cases q
  .rw[e1] at q;cases q
  .rw[e1] at q;cases q;exact .inr (.inr ⟨w,m',e2,go,hy,xu (by rw[<-e2];exact hm),e3⟩)
noncomputable def dH(env:Env):List (Str×NameKind)->List (Str×Addr)->List (Str×Addr)
 |[],cs=>cs
 |(n,k)::r,cs=>dH env r (if k== .free then (n,(env.cells.lookup n).getD 0)::cs else cs)
theorem AA{scope:Scope}{env:Env}(h:∀y∈scope.names,y.2=.free->∃c,env.cells.lookup y.1=some c):closureFor scope env=pure (dH env scope.names []):=by
 have key:∀(names:List (Str×NameKind))(cs:List (Str×Addr)),(∀y∈names,y.2=.free->∃c,env.cells.lookup y.1=some c)->
   (forIn (m:=Sem) names cs fun x r=>match x with
    |(name,kind)=>if (kind== NameKind.free)=true then do let c <-cellOf env name;pure (ForInStep.yield ((name,c)::r)) else pure (ForInStep.yield r))=pure (dH env names cs):=by
  intro names
  induction names with
  |nil=>intro cs _;rfl
  |cons y r ih=>
   intro cs h;obtain⟨n,k⟩:=y;have ih:=fun cs=>ih cs fun z hz=>h z (di _ hz);rw[List.forIn_cons];by_cases hk:k=.free
   .subst hk;obtain⟨c,hc⟩:=h (n,.free) gF rfl;have e:cellOf env n=pure c:=by unfold cellOf;rw[hc]
    have t:dH env ((n,NameKind.free)::r) cs=dH env r ((n,c)::cs):=by rw[dH,hc];rfl
    rw[t,<-ih];dsimp only;rw[e];rfl
   .have hb:(k== NameKind.free)=false:=by simpa using hk
    have t:dH env ((n,k)::r) cs=dH env r cs:=by rw[dH,hb];rfl
    rw[t,<-ih];dsimp only;rw[hb];rfl
 unfold closureFor;have k2:=key scope.names [] h;exact (gU (fun m:Sem (List (Str×Addr))=>m >>= fun cs=>pure cs) k2).trans rfl
theorem uk{env:Env}:∀{names:List (Str×NameKind)}{cs:List (Str×Addr)}{y:Str}{c:Addr},(dH env names cs).lookup y=some c->
  cs.lookup y=some c\/((y,NameKind.free)∈names/\(env.cells.lookup y).getD 0=c)
 |[],cs,y,c,e=>.inl e
 |(n,k)::r,cs,y,c,e=>by
  rw[dH] at e;rcases uk e with e|⟨h1,h2⟩
  .by_cases hk:k=.free
   .subst hk;rw[if_pos (by rfl),eS] at e;by_cases hy:(y== n)=true
    .rw[hy] at e;have:y=n:=by simpa using hy
     subst this;cases e;exact .inr ⟨gF,rfl⟩
    .rw[yA] at hy;rw[hy] at e;exact .inl e
   .rw[if_neg (by simpa using hk)] at e;exact .inl e
  .exact .inr ⟨di _ h1,h2⟩
theorem qv{env:Env}:∀{names:List (Str×NameKind)}{cs:List (Str×Addr)}{y:Str},((y,NameKind.free)∈names\/∃c,cs.lookup y=some c)->∃c,(dH env names cs).lookup y=some c
 |[],cs,y,h=>by
  rcases h with h|h
  .cases h
  .exact h
 |(n,k)::r,cs,y,h=>by
  rw[dH];refine qv ?_;rcases h with h|⟨c,h⟩
  .rcases cX.mp h with h|h
   .cases h;refine .inr ⟨(env.cells.lookup n).getD 0,?_⟩;rw[if_pos (by rfl),eS];simp
   .exact .inl h
  .refine .inr ?_;by_cases hk:(k== NameKind.free)=true
   .rw[if_pos hk,eS];by_cases hy:(y== n)=true
    .rw[hy];exact⟨_,rfl⟩
    .rw[yA] at hy;rw[hy];exact⟨c,h⟩
   .rw[if_neg hk];exact⟨c,h⟩
noncomputable def bH(N:List Str)(x:List Str):List Str:=(N.map fun y=>if y∈x then ("" : Str) else y)++x
structure fU(N:List Str)(outer:Scope)(x:List Str)(sc:Scope):Prop where
 kind:sc.kind=.function
 Sr:outer.kind=.function
 vT:∀y∈sc.names,y.2≠.cell
 locs:∀y∈sc.names,y.2=.local->sc.names.lookup y.1=some .local
 la:∀y∈x,sc.names.lookup y=some .local
 only:∀y k,sc.names.lookup y=some k->k=.local->y∈N->y∈x
 free:∀y∈sc.names,y.2=.free->outer.names.lookup y.1=some .cell\/outer.names.lookup y.1=some .free
 Kx:sc.names.lookup ("" : Str)=none
def bf(X:Cx)(scope:Scope)(C:Addr)(x:List Str)(s:Shared)(H:L2.Hp)(pins:aJ)(fp:List Addr):Cx:=
 {X with N:=bH X.N x,aQ:=s,lJ:=H,env:=compEnvC scope (dH X.env scope.names []) C X.env,outer:=X.stack,stack:=X.stack,ex:=fp,fn:=fun _=>false,pn:=X.pn++pins,xe:=fun _ _=>False}
theorem lookup_mem{l:List (Str×NameKind)}{y:Str}{k:NameKind}(h:l.lookup y=some k):(y,k)∈l:=jN h
theorem ir{env:Env}{y:Str}{k:NameKind}:∀{names:List (Str×NameKind)},(names.map fun (n,k)=>if (k== NameKind.free&&env.scope.kind== .function&&env.kindOf n== some .cell) then (n,NameKind.cell) else (n,k)).lookup y=some k->
  ∃k',names.lookup y=some k'/\(k=k'\/(k=.cell/\k'=.free))
 |[],h=>by simp at h
 |(n,j)::r,h=>by
  rw[aR,eS] at h;by_cases hc:(j== NameKind.free&&env.scope.kind== .function&&env.kindOf n== some .cell)=true
  .rw[if_pos hc] at h;by_cases hy:(y== n)=true
   .simp only[hy] at h;cases h;refine⟨j,by rw[eS,hy],.inr ⟨rfl,?_⟩⟩;simp only[av,ji] at hc;exact hc.1.1
   .rw[yA] at hy;simp only[hy] at h;obtain⟨k',h1,h2⟩:=ir h;exact⟨k',by rw[eS,hy];exact h1,h2⟩
  .rw[if_neg hc] at h;by_cases hy:(y== n)=true
   .simp only[hy] at h;cases h;exact⟨_,by rw[eS,hy],.inl rfl⟩
   .rw[yA] at hy;simp only[hy] at h;obtain⟨k',h1,h2⟩:=ir h;exact⟨k',by rw[eS,hy];exact h1,h2⟩
section
variable {X:Cx}{E:XK}{pins:aJ}{σ:L2.St}{H:L2.Hp}{s:Shared}{scope:Scope}{x:List Str}
theorem zw(I:Inv X pins σ H s)(cs:fU X.N X.env.scope x scope):∀y∈scope.names,y.2=.free->∃c,X.env.cells.lookup y.1=some c:=fun y hy hf=>by
 rcases cs.free y hy hf with h|h
 .exact I.ok.has y.1 (.inl h)
 .exact I.ok.has y.1 (.inr h)
theorem fP(I:Inv X pins σ H s)(cs:fU X.N X.env.scope x scope)(e:(dH X.env scope.names []).lookup y=some c):X.env.cells.lookup y=some c:=by
 rcases uk e with e|⟨h1,h2⟩
 .simp at e
 .obtain⟨c',hc⟩:=zw I cs _ h1 rfl;dsimp only at hc;rw[hc] at h2⊢;cases h2;rfl
theorem Df{h':Heap}{t':Nat}(I:Inv X pins σ H s)(cs:fU X.N X.env.scope x scope){fp:List Addr}(hf:∀b∈fp,eh X pins H b)(hlt:∀b∈fp,b<s.heap.objs.size)
  (ns:h'.Ns s.heap.objs.size fun _=>none) (kp:∀b o,s.heap.get? b=some o->h'.get? b=some o):
  Inv (bf X scope s.heap.objs.size x s H pins fp) [] (σ++List.replicate x.length none) H {s with heap:=h',toks:=t'} where
 ok:={
  mod:=I.ok.mod
  kind:=cs.kind
  glob:=I.ok.glob
  blt:=I.ok.blt
  above:=aA _
  inj:=fun y z c h1 h2=>I.ok.inj y z c (fP I cs h1) (fP I cs h2)
  has:=fun y hy=>by
   have hy:(relabel scope X.env).names.lookup y=some .cell\/(relabel scope X.env).names.lookup y=some .free:=hy;refine qv (.inl ?_);have fr:∀k,(k=.cell\/k=.free)->(relabel scope X.env).names.lookup y=some k->(y,NameKind.free)∈scope.names:=fun k hk e=>by
    obtain⟨k',e',h⟩:=ir (env:=X.env) e;have m:=lookup_mem e';rcases h with h|⟨_,h⟩
    .subst h;rcases hk with hk|hk
     .exact absurd hk (cs.vT _ m)
     .rw[<-hk];exact m
    .rw[<-h];exact m
   rcases hy with hy|hy
   .exact fr _ (.inl rfl) hy
   .exact fr _ (.inr rfl) hy
  si:=fun y c h=>nomatch h
  hd:=I.ok.hd
  frames:=I.ok.frames
  uK:=.inl rfl
  yV:=fun b hb=>⟨bT (hlt b hb),fun y c e=>(hf b hb).2.2.2.2.1 y c (fP I cs e)⟩
  bs:=I.bs
  mr:=cL I.ok.mr I.sz
  mX:=fun b o e z=>by
   rcases (hf b z).2.2.2.1 with w|w
   .exact I.ok.mX b o e w
   .exact absurd (cM (aY e) (cL I.ok.mr w)) (tD _)
  nW:=fun b hb z=>by
   rcases cX.mp (I.lV b z) with w|w
   .exact (hf b hb).2.1 w
   .exact (hf b hb).2.2.1 w
  gH:=I.stack
  oy:=I.jW}
 os:=rfl
 bare:=I.bare
 base:=Un.kept kp
 loc:=by
  refine⟨_,ns,fun i y v e1 e2 e3=>?_⟩;have hl:i<σ.length:=by
   rcases xJ i σ.length with z|z
   .exact z
   .rw[qX z,Fg] at e2;split at e2<;>cases e2
  rw[g9 hl] at e2;have hN:i<X.N.length:=by rw[<-I.len];exact hl
  have e1:(bH X.N x)[i]?=some y:=e1;unfold bH at e1;rw[g9 (by simpa using hN),mZ,iM hN] at e1;have e1:(if X.N[i]∈x then ("" : Str) else X.N[i])=y:=by simpa using e1
  have hv:∃k,(relabel scope X.env).names.lookup y=some k:=by
   rcases e3 with e3|e3|e3
   .exact⟨_,e3⟩
   .exact⟨_,e3⟩
   .exact⟨_,e3⟩
  obtain⟨k,hk⟩:=hv;obtain⟨k',hk',hkk⟩:=ir (env:=X.env) hk;by_cases hx:X.N[i]∈x
  .rw[if_pos hx] at e1;rw[<-e1,cs.Kx] at hk';cases hk'
  .rw[if_neg hx] at e1;have yN:y∈X.N:=by rw[<-e1];exact tB _
   have hfree:k'=.free/\(k=.cell\/k=.free):=by
    have hne:k'≠.local:=fun z=>hx (by rw[e1];exact cs.only y k' hk' z yN);have hnc:k'≠.cell:=fun z=>cs.vT _ (lookup_mem hk') z;rcases e3 with e3|e3|e3
    .have e3:(relabel scope X.env).names.lookup y=some .local:=e3;rw[hk] at e3;cases e3;rcases hkk with z|⟨z,_⟩
     .exact absurd z.symm hne
     .cases z
    .have e3:(relabel scope X.env).names.lookup y=some .cell:=e3;rw[hk] at e3;cases e3;rcases hkk with z|⟨_,z⟩
     .exact absurd z.symm hnc
     .exact⟨z,.inl rfl⟩
    .have e3:(relabel scope X.env).names.lookup y=some .free:=e3;rw[hk] at e3;cases e3;rcases hkk with z|⟨z,_⟩
     .exact⟨z.symm,.inr rfl⟩
     .cases z
   have m:=lookup_mem hk';rw[hfree.1] at m;have pW:jH X.env.scope y:=by
    rcases cs.free _ m rfl with z|z
    .exact .inr (.inl z)
    .exact .inr (.inr z)
   obtain⟨mm,hns,hl⟩:=I.loc;obtain⟨u,ru,lk⟩:=hl i y v (by rw[iM hN,e1]) e2 pW;refine⟨u,ru,.inr ⟨?_,?_⟩⟩
   .rcases hfree.2 with z|z
    .exact .inl (by rw[<-z];exact hk)
    .exact .inr (by rw[<-z];exact hk)
   .rcases lk with ⟨z,_⟩|⟨_,c,ec,hc⟩
    .exfalso;have z:X.env.scope.names.lookup y=some .local:=z;rcases cs.free _ m rfl with w|w
     .have w:X.env.scope.names.lookup y=some .cell:=w;rw[z] at w;cases w
     .have w:X.env.scope.names.lookup y=some .free:=w;rw[z] at w;cases w
    .obtain⟨c',ec'⟩:=qv (env:=X.env) (names:=scope.names) (cs:=[]) (y:=y) (.inl m);have:=fP I cs ec';rw[ec] at this;cases this;refine⟨c,ec',?_⟩;obtain⟨o,ho,hd⟩:=hc;exact⟨o,kp _ _ ho,hd⟩
 cell:=fun y c e=>by
  obtain⟨v,o,ho,hd⟩:=I.cell y c (fP I cs e);exact⟨v,o,kp _ _ ho,hd⟩
 free:=I.ao.fresh (aA _)
 eD:=fun y c e=>I.eD y c (fP I cs e)
 pin:=fun p hp=>by
  have hp:p∈(X.pn++pins)++[]:=hp;rw[hJ] at hp;obtain⟨h1,h2,h3,h4,h5⟩:=I.pin p hp;refine⟨kp _ _ h1,h2,bT (aY h1),fun z=>?_,h5⟩;rcases cX.mp (I.lV p.1 z) with w|w
  .exact h3 w
  .exact h4 w
 ao:=I.ao.kept kp
 len:=by show (σ++List.replicate x.length none).length=(bH X.N x).length;unfold bH;simp[I.len]
end
abbrev tI(K:Zk)(d:Tw.Env->Tw.Hp->Tw.R Tw.Src):TI:=tG K (fun K ι n H src J=>gn K J src ι n H) d
section
variable {X:Cx}{E:XK}{a b:Expr}{pos:Pos}{da db:Tw.Env->Tw.Hp->Tw.R Tw.W}
theorem PI.imp{tg iter:Expr}{w w':TI}(p:PI X tg iter w)(f:∀σ H R,w' σ H R->w σ H R):PI X tg iter w':=fun pins s σ H R I q=>p pins s σ H R I (f σ H R q)
theorem M0{tg:Expr}(ha:PE X a (tE (zx X E) da)):PI X tg a (tI (zx X E) fun ρ h=>(da ρ h).bind fun x h=>Tw.R.of (Tw.src h x) h):=by
 refine PI.imp (PI.or (Hx ha) (Jc ha)) fun σ H R ⟨ρ,h,ι,at',p⟩=>?_;dsimp only at p;cases e0:da ρ h with
 |bad=>rw[e0] at p;exact p.elim
 |ax=>rw[e0] at p;refine .inr ⟨ρ,h,ι,at',?_⟩;rw[e0];exact p
 |ok w h1=>
  rw[e0] at p;simp only[Tw.R.aw] at p;cases w with
  |tup ws=>
   refine .inr ⟨ρ,h,ι,at',?_⟩;rw[e0];intro ι1 H1 x e1 r1 rx;cases rx with
   | @tup ad xs _ ea ra=>exact⟨ad,rfl,⟨xs,TupAt.sq ea⟩,p ι1 H1 _ e1 r1 (.inl ⟨ad,xs,ws,rfl,rfl,ea,ra⟩)⟩
  |ref i=>
   cases e2:Tw.bD h1 i with
   |none=>
    have:Tw.src h1 (.ref i)=none:=by
     unfold Tw.bD at e2;simp only[Tw.src];split at e2
     .cases e2
     .cases e2
     .rfl
    rw[this] at p;exact p.elim
   |some ws0=>
    have:Tw.src h1 (.ref i)=some (.at i ws0.length):=by
     unfold Tw.bD at e2;simp only[Tw.src];split at e2
     .cases e2;rfl
     .cases e2;rfl
     .cases e2
    rw[this] at p;refine .inl ⟨ρ,h,ι,at',?_⟩;rw[e0];intro ι1 H1 x e1 r1 rx;cases rx with
    |ref hi=>
     obtain⟨xs0,sq0,_⟩:=r1.at e2;exact⟨_,rfl,⟨xs0,sq0⟩,p ι1 H1 _ e1 r1 (.inr (.inr (.inl ⟨i,_,_,rfl,rfl,rfl,hi⟩)))⟩
  |_=>exact p.elim
theorem NB{tg:Expr}{p1 pos2:Pos}(hgl:Gl X "range")(hm:X.mg "range" = none)(ha:PE X a (tE (zx X E) da))(hst:starEach [a] X.env=[(false,eval a X.env)]):
  PI X tg (.Call (.Name "range" p1) [a] [] pos2) (tI (zx X E) fun ρ h=>(da ρ h).bind fun x h=>match x with
   |.int j=>if Tw.c8 j then .ok (.fix (Tw.upTo 0 j.toNat)) h else .bad
   |_=>.bad):=by
 refine PI.imp (B9 hgl hm (cE ha dD hst) hst) fun σ H R ⟨ρ,h,ι,at',p⟩=>?_;refine⟨ρ,h,ι,at',(step at' p).mono fun x H1 ⟨w,h1,ι1,at1,e1,r1,p1⟩=>?_⟩;cases r1 with
 |int j=>
  dsimp only at p1;by_cases c:Tw.c8 j=true
  .rw[if_pos c] at p1;simp only[Tw.c8,av,aI] at c;exact⟨j,rfl,c.1,c.2,ah.self (a:=Tw.Src.fix (Tw.upTo 0 j.toNat)) p1 at1.hr (.inr (.inl ⟨0,j.toNat,rfl,rfl⟩))⟩
  .rw[if_neg c] at p1;exact p1.elim
 |_=>exact p1.elim
end
theorem ua{k:Tw.W->List Tw.W->Tw.Hp->Tw.R (List Tw.W)}(hk:∀w acc h acc' h',k w acc h=.ok acc' h'->acc.length<=acc'.length):
  ∀(ws acc:List Tw.W)(h:Tw.Hp)(acc':List Tw.W)(h':Tw.Hp),Tw.eG k ws acc h=.ok acc' h'->acc.length<=acc'.length
 |[],acc,h,acc',h',e=>by cases e;exact aA _
 |w::ws,acc,h,acc',h',e=>by
  rw[Tw.eG] at e;cases e1:k w acc h with
  |bad=>rw[e1] at e;cases e
  |ax=>rw[e1] at e;cases e
  |ok acc1 h1=>
   rw[e1] at e;exact cL (hk _ _ _ _ _ e1) (ua hk ws acc1 h1 acc' h' e)
theorem Dr{a:Nat}{k:Tw.W->List Tw.W->Tw.Hp->Tw.R (List Tw.W)}(hk:∀w acc h acc' h',k w acc h=.ok acc' h'->acc.length<=acc'.length):
  ∀(m i:Nat)(acc:List Tw.W)(h:Tw.Hp)(acc':List Tw.W)(h':Tw.Hp),Tw.cP a k m i acc h=.ok acc' h'->acc.length<=acc'.length:=by
 intro m
 induction m with
 |zero=>
  intro i acc h acc' h' e;unfold Tw.cP at e;split at e
  .cases e
  .split at e
   .cases e;exact aA _
   .cases e
 |succ m ih=>
  intro i acc h acc' h' e;unfold Tw.cP at e;split at e
  .cases e
  .split at e
   .cases e;exact aA _
   .next w _=>
    dsimp only at e;cases e1:k w acc h with
    |bad=>rw[e1] at e;cases e
    |ax=>rw[e1] at e;cases e
    |ok acc1 h1=>
     rw[e1] at e;exact cL (hk _ _ _ _ _ e1) (ih (i+1) acc1 h1 acc' h' e)
theorem CM{a:Nat}{k:Tw.W->List Tw.W->Tw.Hp->Tw.R (List Tw.W)}(hk:∀w acc h acc' h',k w acc h=.ok acc' h'->acc.length<=acc'.length):
  ∀(m i:Nat)(acc:List Tw.W)(h:Tw.Hp)(acc':List Tw.W)(h':Tw.Hp),Tw.dP a k m i acc h=.ok acc' h'->acc.length<=acc'.length:=by
 intro m
 induction m with
 |zero=>
  intro i acc h acc' h' e;unfold Tw.dP at e;split at e
  .cases e
  .split at e
   .cases e;exact aA _
   .cases e
 |succ m ih=>
  intro i acc h acc' h' e;unfold Tw.dP at e;split at e
  .cases e
  .split at e
   .cases e;exact aA _
   .next w _=>
    dsimp only at e;cases e1:k (.tup [.int i,w]) acc h with
    |bad=>rw[e1] at e;cases e
    |ax=>rw[e1] at e;cases e
    |ok acc1 h1=>
     rw[e1] at e;exact cL (hk _ _ _ _ _ e1) (ih (i+1) acc1 h1 acc' h' e)
theorem Ke{src:Tw.Src}{k:Tw.W->List Tw.W->Tw.Hp->Tw.R (List Tw.W)}(hk:∀w acc h acc' h',k w acc h=.ok acc' h'->acc.length<=acc'.length){i m:Nat}{acc acc':List Tw.W}{h h':Tw.Hp}
  (e:wk src k i m acc h=.ok acc' h'):acc.length<=acc'.length:=by
 cases src with
 |fix ws=>exact ua hk _ _ _ _ _ e
 | «at» a n=>exact Dr hk _ _ _ _ _ _ e
 |rv a n=>cases e
 |ea a n=>exact CM hk _ _ _ _ _ _ e
noncomputable def cD(un:Tw.W->Option (List Tw.W))(c:Tw.Env->Tw.Hp->Tw.R (Option Tw.W))(elt:Tw.Env->Tw.Hp->Tw.R Tw.W)(σ:Tw.Env)(x:Tw.W)(acc:List Tw.W)(h:Tw.Hp):Tw.R (List Tw.W):=match un x with
 |none=>.bad
 |some ws=>(c (σ++ws.map some) h).gv.bind fun t h=>match Tw.mh h t with
  |none=>.bad
  |some true=>(elt (σ++ws.map some) h).gv.bind fun y h=>.ok (acc++[y]) h
  |some false=>.ok acc h
def Bw(w:Tw.W):Option (List Tw.W):=some [w]
noncomputable def nG:Tw.W->Option (List Tw.W)
 |.tup [u,v]=>some [u,v]
 |_=>none
theorem tS(elt:Tw.Env->Tw.Hp->Tw.R Tw.W)(σ:Tw.Env):Tw.gN elt σ=cD nG (fun _ h=>.ok none h) elt σ:=by
 funext x acc h;unfold Tw.gN cD
 match x with
 |.tup [u,v]=>rfl
 |.tup []=>rfl
 |.tup [_]=>rfl
 |.tup (_::_::_::_)=>rfl
 |.ak=>rfl
 |.bl _=>rfl
 |.int _=>rfl
 |.str _=>rfl
 |.ref _=>rfl
 |.lst _=>rfl
theorem CY{un:Tw.W->Option (List Tw.W)}{dc:Tw.Env->Tw.Hp->Tw.R (Option Tw.W)}{de:Tw.Env->Tw.Hp->Tw.R Tw.W}{ρ:Tw.Env}(w:Tw.W)(acc:List Tw.W)(h:Tw.Hp)(acc':List Tw.W)(h':Tw.Hp)(e:cD un dc de ρ w acc h=.ok acc' h'):acc.length<=acc'.length:=by
 unfold cD at e;cases e0:un w with
 |none=>rw[e0] at e;cases e
 |some ws=>
  rw[e0] at e;dsimp only at e;cases e1:dc (ρ++ws.map some) h with
  |bad=>rw[e1] at e;cases e
  |ax=>rw[e1] at e;cases e
  |ok t h1=>
   rw[e1] at e;simp only[Tw.R.lS,Tw.R.aw] at e;split at e
   .cases e
   .cases e2:de (ρ++ws.map some) h1 with
    |bad=>rw[e2] at e;cases e
    |ax=>rw[e2] at e;cases e
    |ok y h2=>rw[e2] at e;cases e;simp
   .cases e;exact aA _
theorem ug{k:Tw.W->List Tw.W->Tw.Hp->Tw.R (List Tw.W)}(hk:∀w acc h a h',k w acc h≠.ax a h'):∀(ws acc:List Tw.W)(h:Tw.Hp)(a:Nat)(h':Tw.Hp),Tw.eG k ws acc h≠.ax a h'
 |[],acc,h,a,h',e=>by cases e
 |w::ws,acc,h,a,h',e=>by
  rw[Tw.eG] at e;cases e1:k w acc h with
  |bad=>rw[e1] at e;cases e
  |ax b g=>exact hk _ _ _ _ _ e1
  |ok acc1 h1=>rw[e1] at e;exact ug hk ws acc1 h1 a h' e
theorem Bv{a:Nat}{k:Tw.W->List Tw.W->Tw.Hp->Tw.R (List Tw.W)}(hk:∀w acc h a h',k w acc h≠.ax a h'):∀(m i:Nat)(acc:List Tw.W)(h:Tw.Hp)(b:Nat)(h':Tw.Hp),Tw.cP a k m i acc h≠.ax b h':=by
 intro m
 induction m with
 |zero=>
  intro i acc h b h' e;unfold Tw.cP at e;split at e
  .cases e
  .split at e<;>cases e
 |succ m ih=>
  intro i acc h b h' e;unfold Tw.cP at e;split at e
  .cases e
  .split at e
   .cases e
   .next w _=>
    dsimp only at e;cases e1:k w acc h with
    |bad=>rw[e1] at e;cases e
    |ax c g=>exact hk _ _ _ _ _ e1
    |ok acc1 h1=>rw[e1] at e;exact ih (i+1) acc1 h1 b h' e
theorem CW{a:Nat}{k:Tw.W->List Tw.W->Tw.Hp->Tw.R (List Tw.W)}(hk:∀w acc h a h',k w acc h≠.ax a h'):∀(m i:Nat)(acc:List Tw.W)(h:Tw.Hp)(b:Nat)(h':Tw.Hp),Tw.dP a k m i acc h≠.ax b h':=by
 intro m
 induction m with
 |zero=>
  intro i acc h b h' e;unfold Tw.dP at e;split at e
  .cases e
  .split at e<;>cases e
 |succ m ih=>
  intro i acc h b h' e;unfold Tw.dP at e;split at e
  .cases e
  .split at e
   .cases e
   .next w _=>
    dsimp only at e;cases e1:k (.tup [.int i,w]) acc h with
    |bad=>rw[e1] at e;cases e
    |ax c g=>exact hk _ _ _ _ _ e1
    |ok acc1 h1=>rw[e1] at e;exact ih (i+1) acc1 h1 b h' e
theorem ot{un:Tw.W->Option (List Tw.W)}{dc:Tw.Env->Tw.Hp->Tw.R (Option Tw.W)}{de:Tw.Env->Tw.Hp->Tw.R Tw.W}{ρ:Tw.Env}(w:Tw.W)(acc:List Tw.W)(h:Tw.Hp)(a:Nat)(h':Tw.Hp):cD un dc de ρ w acc h≠.ax a h':=by
 intro e;unfold cD at e;split at e
 .cases e
 .next ws _=>
  cases e1:dc (ρ++ws.map some) h with
  |bad=>rw[e1] at e;cases e
  |ax=>rw[e1] at e;cases e
  |ok t h1=>
   rw[e1] at e;simp only[Tw.R.lS,Tw.R.aw] at e;split at e
   .cases e
   .cases e2:de (ρ++ws.map some) h1<;>rw[e2] at e<;>cases e
   .cases e
theorem Lv{src:Tw.Src}{un:Tw.W->Option (List Tw.W)}{dc:Tw.Env->Tw.Hp->Tw.R (Option Tw.W)}{de:Tw.Env->Tw.Hp->Tw.R Tw.W}{ρ:Tw.Env}{i m:Nat}{acc:List Tw.W}{h h':Tw.Hp}{a:Nat}:wk src (cD un dc de ρ) i m acc h≠.ax a h':=by
 cases src with
 |fix ws=>exact ug ot _ _ _ _ _
 | «at» b n=>exact Bv ot _ _ _ _ _ _
 |rv b n=>exact fun e=>nomatch e
 |ea b n=>exact CW ot _ _ _ _ _ _
theorem At.NT{K:Zk}{ι:Nat->Addr}{h:Tw.Hp}{H:L2.Hp}{ρ:Tw.Env}{σ:L2.St}{ws:List Tw.W}{vs:List V}(a:At K ι h H ρ σ)(r:aT K.K ι h.length H ws vs):At K ι h H (ρ++ws.map some) (σ++vs.map some) where
 hr:=a.hr
 len:=by simp[a.len,r.length]
 st:=fun i u e=>by
  rcases xJ i ρ.length with hi|hi
  .rw[g9 hi] at e;rw[g9 (by rw[a.len];exact hi)];exact a.st i u e
  .rw[qX hi,mZ] at e;rw[qX (by rw[a.len];exact hi),a.len,mZ];cases q:ws[i-ρ.length]? with
   |none=>rw[q] at e;cases e
   |some w=>
    rw[q] at e;cases e;obtain⟨v,hv,rv⟩:=r.get q;exact⟨v,by rw[hv];rfl,rv⟩
theorem HR.ex{K:W.Frag}{mg:Str->Option Value}{E E':XK}{ι:Nat->Addr}{h:Tw.Hp}{H:L2.Hp}(r:HR ⟨K,mg,E,hv⟩ ι h H):HR ⟨K,mg,E',hv⟩ ι h H:=⟨fun i o e=>by
 have q:=r.obj i o e;cases o<;>exact q,r.inj,r.hx⟩
theorem At.ex{K:W.Frag}{mg:Str->Option Value}{E E':XK}{ι:Nat->Addr}{h:Tw.Hp}{H:L2.Hp}{ρ:Tw.Env}{σ:L2.St}(a:At ⟨K,mg,E,hv⟩ ι h H ρ σ):At ⟨K,mg,E',hv⟩ ι h H ρ σ:=⟨a.hr.ex,a.len,a.st⟩
def lZ(K:Zk)(n k:Nat)(g:TG)(un:Tw.W->Option (List Tw.W)):Prop:=∀(ι:Nat->Addr)(h:Tw.Hp)(H:L2.Hp)(σ os:L2.St)(w:Tw.W)(v:V)(ws:List Tw.W)(Q:L2.St->L2.Hp->Prop),
 σ.length=n->os.length=k->RW K.K ι h.length H w v->un w=some ws->(∀vs,aT K.K ι h.length H ws vs->vs.length=k->Q (σ++vs.map some) H)->g v (σ++os) H Q
theorem xA(K:Zk)(n:Nat):lZ K n 1 (fI n) Bw:=fun ι h H σ os w v ws Q h1 h2 r e q=>by
 cases e
 match os,h2 with
 |[o],_=>
  show Q _ H;rw[<-h1,Ax _ _ (aA _)];simpa using q [v] (.cons r .nil) rfl
theorem wb(K:Zk)(n:Nat):lZ K n 2 (zH K.K 2 (mS (fI n) (mS (fI (n+1)) Ak))) nG:=fun ι h H σ os w v ws Q h1 h2 r e q=>by
 cases r with
 | @tup ad xs us ea ra=>
  cases ra with
  |nil=>cases e
  |cons r1 ra=>
   cases ra with
   |nil=>cases e
   |cons r2 ra=>
    cases ra with
    |nil=>
     cases e
     match os,h2 with
     |[o1,o2],_=>
      refine⟨ad,_,rfl,ea.sq,rfl,_,_,rfl,_,_,rfl,rfl,?_⟩;rw[<-h1,Ax _ _ (aA _),Ax _ _ (i6 _)];simpa using q _ (.cons r1 (.cons r2 .nil)) rfl
    |cons r3 ra=>cases e
 |_=>cases e
section
variable {X:Cx}{E:XK}{pins:aJ}{σ σ':L2.St}{H Hc:L2.Hp}{s s1:Shared}{scope:Scope}{x:List Str}{fp:List Addr}
theorem ux(I:Inv X pins σ H s)(hf:∀b∈fp,eh X pins H b)(J:Inv (bf X scope s.heap.objs.size x s H pins fp) [] σ' Hc s1)(hs:Heap.SameBut s.heap.objs.size s1.heap h'):Inv X pins σ Hc {s1 with heap:=h'}:=by
 have ne:∀b o,s.heap.get? b=some o->b≠s.heap.objs.size:=fun b o e=>bT (aY e);have to':∀b o,b≠s.heap.objs.size->s1.heap.get? b=some o->h'.get? b=some o:=fun b o n e=>hs.extBut b o n e;have B:=J.base;have hC:Hc s.heap.objs.size=none:=J.free;have u:Un (bF X.stack) fp H Hc s.heap h':=by
  refine⟨fun b o e n h1 h2=>to' b o (ne b o e) (B.keep b o e n h1 h2),fun b o e n h1 h2=>?_,B.free,fun b o e h2=>?_,B.fO,B.ft,B.fR⟩
  .obtain⟨sl,q⟩:=B.slot b o e n h1 h2;exact⟨sl,to' b _ (ne b o e) q⟩
  .obtain⟨o',q⟩:=B.there b o e h2;exact⟨o',to' b o' (ne b o e) q⟩
 have ao:cR X.prog X.w Hc h':=fun b v e=>by
  refine (J.ao b v e).fq (fun c w hc q=>to' c w ?_ q) (fun _ q=>q) fun _ _ q=>q;rcases hc with z|z
  .rw[z];intro z';rw[z',hC] at e;cases e
  .intro z';rw[z',hC] at z;cases z
 have os:s1.os=s.os:=J.os;obtain⟨hh,g,d,t,os'⟩:=s1;cases os;have fin:=L2.Inv.call (s:=s) (h':=h') (g':=g) (d':=d) (t':=t) (ch:=fp) I u ao J.bare fun b hb=>⟨(hf b hb).2.2.2.1,(hf b hb).2.1,(hf b hb).2.2.2.2.1,(hf b hb).2.2.2.2.2⟩;exact fin
end
def rP(X:Cx)(scope:Scope)(x:List Str)(ifs:List Expr)(dc:Tw.Env->Tw.Hp->Tw.R (Option Tw.W)):Prop:=
 (ifs=[]/\∀ρ h,dc ρ h=.ok none h)\/∃c d,ifs=[c]/\(∀ρ h,dc ρ h=(d ρ h).bind fun w h=>.ok (some w) h)/\∀C s H pins fp,PT (bf X scope C x s H pins fp) c (tT (zx X E0) d)
section
variable {X:Cx}{E:XK}{elt iter tg:Expr}{x:List Str}{pos:Pos}{g:TG}{un:Tw.W->Option (List Tw.W)}{ifs:List Expr}{scope:Scope}{dit:Tw.Env->Tw.Hp->Tw.R Tw.Src}{dc:Tw.Env->Tw.Hp->Tw.R (Option Tw.W)}{de:Tw.Env->Tw.Hp->Tw.R Tw.W}
theorem FK(I:Inv X pins σ H3 s3)(cs:fU X.N X.env.scope x scope)(f3:∀b∈fp,eh X pins H3 b)(lt3:∀b∈fp,b<s3.heap.objs.size)(fz:∀b∈fp,Hc b=none):
  ∀b∈fp,eh (bf X scope s3.heap.objs.size x s3 H3 pins fp) [] Hc b:=fun b hb=>by
 obtain⟨_,f1,f2,_,f4,f5⟩:=f3 b hb;refine⟨fz b hb,bT (lt3 b hb),fun z=>?_,.inl hb,fun y c e=>f4 y c (fP I cs e),fun p hp=>?_⟩
 .rcases cX.mp (I.lV b z) with w|w
  .exact f1 w
  .exact f2 w
 .have hp:p∈(X.pn++pins)++[]:=hp;rw[hJ] at hp;exact f5 p hp
theorem xl{K K':Zk}{α β γ δ:Type}{R:Rl α β}{R':Rl γ δ}{ι ι0:Nat->Addr}{h h0:Tw.Hp}{H H0:L2.Hp}{m:Tw.R α}{k:α->Tw.Hp->Tw.R γ}{Q:δ->L2.Hp->Prop}(p:ah K R' ι0 h0 H0 (m.gv.bind k) Q):
  ah K' R ι h H m (fun b H'=>∃a h' ι',m=.ok a h'/\Ext ι h H ι' h' H'/\HR K' ι' h' H'/\R K'.K ι' h'.length H' a b):=by
 cases m with
 |ok w h1=>exact fun ι' H' b e r q=>⟨w,h1,ι',rfl,e,r,q⟩
 |ax=>exact p.elim
 |bad=>exact p
theorem kl{K:Zk}{α β γ δ:Type}{R':Rl γ δ}{ι0:Nat->Addr}{h0:Tw.Hp}{H0:L2.Hp}{m:Tw.R α}{f:α->Tw.Hp->Tw.R β}{g:β->Tw.Hp->Tw.R γ}{Q:δ->L2.Hp->Prop}(p:ah K R' ι0 h0 H0 ((m.bind f).bind g) Q):ah K R' ι0 h0 H0 (m.bind fun a h=>(f a h).bind g) Q:=by cases m<;>exact p
theorem AH{R:Result->Shared->Prop}(I:Nat->Shared->Prop)
  (turn:∀n s,I n s->wpAny (model prog w) A (pyNext it) (fun r s1=>match r with
   |none=>R (.ok .next) s1
   |some v=>wpAny (model prog w) A (letOwnedTupleGo target it v) (fun _ sg=>wpAny (model prog w) A (assign target env v) (fun _ s2=>
     wpAny (model prog w) A (forIn ifs true fun c r=>if r=true then do let ok <-isTrue c env (eval c env);pure (ForInStep.yield ok) else pure (ForInStep.yield r)) (fun ok s3=>
      if ok=true then wpAny (model prog w) A (eval elt env) (fun x s4=>
       wpAny (model prog w) A (call (.builtin "list.append") [acc,x]) (fun _ s5=>∃m,m<n/\I m s5) (fun _ _=>False) s4) (fun _ _=>False) s3
      else ∃m,m<n/\I m s3) (fun _ _=>False) s2) (fun _ _=>False) sg) (fun _ _=>False) s1) (fun _ _=>False) s)
  (n:Nat) (h:I n s):codeAny (model prog w) A (.compLoop (.ListComp elt [⟨target,iter,ifs,0⟩] scope pos) 0 it acc env) R s:=by
 have no:∀{α:Type}{t:Sem α}{Q1:α->Shared->Prop}{E1:aH}{s0:Shared},wpAny (model prog w) A t Q1 (fun _ _=>False) s0->wpAny (model prog w) A t Q1 E1 s0:=fun h=>eX h (fun _ _ q=>q) fun _ _ f=>f.elim;refine codeAny_loop rfl I (fun n s hI=>?_) n h;show wpAny _ A ((compTurn (.ListComp elt [⟨target,iter,ifs,0⟩] scope pos) 0 it acc env).onRaise (fun x=>do noteFrame x env;theTreesLotGoes x)) _ _ s;refine wpAny_noted ?_;rw[compTurn_list];refine af (mD (af (az (no (turn n s hI)) fun r s1 h1=>?_)));cases r with
 |none=>exact aj h1
 |some v=>
  refine af (az (no h1) fun _ sg hg=>af (az (no hg) fun _ s2 h2=>af (az (no h2) fun ok s3 h3=>?_)));cases ok with
  |false=>exact aj ⟨rfl,h3⟩
  |true=>exact af (af (az (no h3) fun x s4 h4=>af (az (no h4) fun _ s5 h5=>aj (aj ⟨rfl,h5⟩))))
theorem Keeps.trans{ι ι1 ι2:Nat->Addr}(a:Keeps ι n H ι1 n1 H1)(b:Keeps ι1 n1 H1 ι2 n2 H2):Keeps ι n H ι2 n2 H2:=
 ⟨cL a.le b.le,fun i hi=>(b.same i (cM hi a.le)).trans (a.same i hi),fun c xs e=>b.tup c xs (a.tup c xs e)⟩
theorem Ag{pins:aJ}{s3:Shared}{H2 H3:L2.Hp}{fp:List Addr}{σ:L2.St}{ρ:Tw.Env}{ι1:Nat->Addr}{h1:Tw.Hp}{D it:Addr}{tn:Nat->Heap->Prop}{J:It}{src:Tw.Src}{Q:VK}{h4:Heap}{t4:Nat}
  (hc:X.calm=true) (cs:fU X.N X.env.scope x scope) (hpg:∀C s H pins fp,PG (bf X scope C x s H pins fp) tg g) (hbd:lZ (zx X E) X.N.length x.length g un) (hel:∀C s H pins fp,PE (bf X scope C x s H pins fp) elt (tE (zx X E0) de)) (hts:rP X scope x ifs dc)
  (I3:Inv X pins σ H3 s3) (hD:H3 D=some (.lst [])) (fresh:H2 D=none) (x3:Ext ι1 h1 H2 ι1 h1 H3) (at3:At (zx X E) ι1 h1 H3 ρ σ) (kx:eP ι1 h1 D) (fd3:gn X.K J src ι1 h1.length H3)
  (p1:ah (zx X E) RE ι1 h1 H2 ((wk src (cD un dc de ρ) 0 (ku src) [] h1).bind Tw.dC) Q) (T:Turn X.prog X.w X.K tg J fp it tn) (st3:tn 0 s3.heap) (f3:∀b∈fp,eh X pins H3 b) (lt3:∀b∈fp,b<s3.heap.objs.size)
  (ns:h4.Ns s3.heap.objs.size fun _=>none) (kp:∀b o,s3.heap.get? b=some o->h4.get? b=some o)
  {RR:Result->Shared->Prop} (hR:∀s1 Hc σ',Inv (bf X scope s3.heap.objs.size x s3 H3 pins fp) [] σ' Hc s1->Q (.ref D) Hc->RR (.ok .next) s1):
  codeAny (model X.prog X.w) X.A (.compStart (.ListComp elt [⟨tg,iter,ifs,0⟩] scope pos) 0 (.ref it) (.ref D) (compEnvC scope (dH X.env scope.names []) s3.heap.objs.size X.env))
   RR {s3 with heap:=h4,toks:=t4}:=by
 have I4:Inv (bf X scope s3.heap.objs.size x s3 H3 pins fp) [] (σ++List.replicate x.length none) H3 {s3 with heap:=h4,toks:=t4}:=Df I3 cs f3 lt3 ns kp;have st4:tn 0 h4:=T.keep 0 _ _ st3 fun b _ o e=>kp b o e;have loop:codeAny (model X.prog X.w) X.A (.compLoop (.ListComp elt [⟨tg,iter,ifs,0⟩] scope pos) 0 (.ref it) (.ref D) (compEnvC scope (dH X.env scope.names []) s3.heap.objs.size X.env))
   RR {s3 with heap:=h4,toks:=t4}:=by
  refine AH (fun n s'=>∃i acc ys hh ι' Hc o,Inv (bf X scope s3.heap.objs.size x s3 H3 pins fp) [] (σ++o) Hc s'/\o.length=x.length/\tn i s'.heap/\(∀b∈fp,Hc b=none)/\Hc D=some (.lst ys)/\eP ι' hh D/\
   At (zx X E) ι' hh Hc ρ σ/\Ext ι1 h1 H2 ι' hh Hc/\aT X.K ι' hh.length Hc acc ys/\gn X.K J src ι' hh.length Hc/\cnt src i n/\
   ah (zx X E) RE ι1 h1 H2 ((wk src (cD un dc de ρ) i n acc hh).bind Tw.dC) Q) ?_ (ku src)
   ⟨0,[],[],h1,ι1,H3,_,I4,by simp,st4,fun b hb=>(f3 b hb).1,hD,kx,at3,x3,.nil,fd3,uA src,p1⟩
  rintro n s' ⟨i,acc,ys,hh,ι',Hc0,o,J1,lo,tn1,fz,hDc0,uM,at50,ex0,rr0,fd0,hm,pp⟩
  have fpo:=FK (Hc:=Hc0) I3 cs f3 lt3 fz;rcases G2 at50.hr fd0 (cD un dc de ρ) i n acc hm with bad|⟨stop,e⟩|⟨w,m,em,go,hy,hm',e⟩
  .rw[bad] at pp;exact pp.elim
  . -- the end
   refine az (T.done (bf X scope s3.heap.objs.size x s3 H3 pins fp) rfl rfl rfl hc i [] s' _ Hc0 _ J1 fpo tn1 stop) fun r s1 Z=>Z.g fun er J2=>?_;subst er;rw[e] at pp;refine hR s1 Hc0 _ J2 ?_;have pp:ah (zx X E) RE ι1 h1 H2 (if acc.length<=Tw.SZ then Tw.new (.lst acc) hh else .bad) Q:=pp;by_cases c:acc.length<=Tw.SZ
   .rw[if_pos c] at pp;have hr':=at50.hr.adopt (u:=.lst acc) uM hDc0 rfl fun ι'' n'' k=>⟨ys,hDc0,rr0.keep k⟩;have z:RW X.K (eI ι' hh.length D) (hh++[Tw.O.lst acc]).length Hc0 (.ref hh.length) (.ref (eI ι' hh.length D hh.length)):=.ref (by simp);rw[cG] at z;exact pp _ _ _ (ex0.adopt fresh) hr' z
   .rw[if_neg c] at pp;exact pp.elim
  . -- a turn
   subst em;refine az (T.item (bf X scope s3.heap.objs.size x s3 H3 pins fp) rfl rfl rfl hc i [] s' _ Hc0 _ J1 fpo tn1 go) fun r s1 Z=>Z.g fun u Z=>Z.g fun er hl=>?_;subst er;refine az hl fun _ s1 Z=>Z.g fun v Z=>Z.g fun Hc Z=>Z.g fun J2 Z=>Z.g fun rv Z=>Z.g fun yl Z=>Z.g fun tn2 fz2=>?_;obtain⟨ry,xy,rw'⟩:=hy v Hc yl;have ky:=xy.keeps at50.hr;have hDc:Hc D=some (.lst ys):=xy.fr D _ hDc0 uM;have al:eP ι' hh D:=uM;have at5:At (zx X E) ι' hh Hc ρ σ:=at50.later xy ry;have ex:=ex0.trans xy;have rr:=rr0.keep ky;have fd:=fd0.later ky;have fpo:=FK (Hc:=Hc) I3 cs f3 lt3 fz2;have J3:=J2.pinned fpo (T.obj _ _ tn2);rw[e] at pp;have pp:=kl pp;have pp':=pp;obtain⟨ws,eu⟩:∃ws,un w=some ws:=by
    cases eu:un w with
    |none=>rw[show cD un dc de ρ w acc hh=.bad by unfold cD;rw[eu]] at pp';exact pp'.elim
    |some ws=>exact⟨ws,rfl⟩
   have q0:cD un dc de ρ w acc hh=((dc (ρ++ws.map some) hh).gv.bind fun t h=>match Tw.mh h t with
     |none=>.bad
     |some true=>(de (ρ++ws.map some) h).gv.bind fun y h=>.ok (acc++[y]) h
     |some false=>.ok acc h):=by
    unfold cD;rw[eu]<;>rfl
   rw[q0] at pp';refine eX (hpg _ _ _ _ _ _ s1 _ Hc v u (fun σ2 H2'=>∃vs,aT X.K ι' hh.length Hc ws vs/\vs.length=x.length/\σ2=σ++vs.map some/\H2'=Hc) J3 rv (hbd ι' hh Hc σ o w v ws _ I3.len lo rw' eu fun vs q1 q2=>⟨vs,q1,q2,rfl,rfl⟩)) (fun _ sa Z=>Z.g fun σ2 Z=>Z.g fun Ha Z=>Z.g fun Ja Z=>Z.g fun vs Z=>Z.g fun rws Z=>Z.g fun lvs Z=>Z.g fun e1 e2=>?_) fun _ _ f=>f.elim;subst e1 e2;have at6:At (zx X E) ι' hh Ha (ρ++ws.map some) (σ++vs.map some):=at5.NT rws;have back:∀{Hb:L2.Hp}{sb:Shared}{acc':List Tw.W}{ys':List V}{hb:Tw.Hp}{ι2:Nat->Addr},Inv (bf X scope s3.heap.objs.size x s3 H3 pins fp) ([]++jr fp s1.heap) (σ++vs.map some) Hb sb->Hb D=some (.lst ys')->eP ι2 hb D->
     HR (zx X E) ι2 hb Hb->Ext ι1 h1 H2 ι2 hb Hb->Keeps ι' hh.length Ha ι2 hb.length Hb->aT X.K ι2 hb.length Hb acc' ys'->ah (zx X E) RE ι1 h1 H2 ((wk src (cD un dc de ρ) (i+1) m acc' hb).bind Tw.dC) Q->
     ∃k,k<m+1/\∃i acc ys hh ι' Hc o,Inv (bf X scope s3.heap.objs.size x s3 H3 pins fp) [] (σ++o) Hc sb/\o.length=x.length/\tn i sb.heap/\(∀b∈fp,Hc b=none)/\Hc D=some (.lst ys)/\eP ι' hh D/\
      At (zx X E) ι' hh Hc ρ σ/\Ext ι1 h1 H2 ι' hh Hc/\aT X.K ι' hh.length Hc acc ys/\gn X.K J src ι' hh.length Hc/\cnt src i k/\
      ah (zx X E) RE ι1 h1 H2 ((wk src (cD un dc de ρ) i k acc hh).bind Tw.dC) Q:=fun {Hb sb acc' ys' hb ι2} Jb hDb alb rb exb kb rrb pb=>by
    refine⟨m,tL _,i+1,acc',ys',hb,ι2,Hb,vs.map some,Jb.fN,by rw[gC];exact lvs,T.keep _ _ _ tn2 fun b hb o e=>(Jb.pin (b,o) (iA _ (iA _ (gf hb e)))).1,fun b hb=>?_,hDb,alb,⟨rb,at5.len,fun j u q=>?_⟩,exb,rrb,fd.later kb,hm',pb⟩
    .obtain⟨o,e,d⟩:=T.obj _ _ tn2 b hb;exact (Jb.pin (b,o) (iA _ (iA _ (gf hb e)))).2.1
    .obtain⟨v',q1,q2⟩:=at5.st j u q;exact⟨v',q1,q2.keep kb⟩
   have elem:∀{Hb:L2.Hp}{sb:Shared}{hb:Tw.Hp}{ι2:Nat->Addr},Inv (bf X scope s3.heap.objs.size x s3 H3 pins fp) ([]++jr fp s1.heap) (σ++vs.map some) Hb sb->Ext ι' hh Ha ι2 hb Hb->HR (zx X E) ι2 hb Hb->
     ah (zx X E) RE ι1 h1 H2 (((de (ρ++ws.map some) hb).gv.bind fun y h=>(.ok (acc++[y]) h:Tw.R (List Tw.W))).bind fun acc h=>(wk src (cD un dc de ρ) (i+1) m acc h).bind Tw.dC) Q->
     wpAny (model X.prog X.w) X.A (eval elt (compEnvC scope (dH X.env scope.names []) s3.heap.objs.size X.env)) (fun xq s₄=>
      wpAny (model X.prog X.w) X.A (call (.builtin "list.append") [.ref D,xq]) (fun _ s₅=>∃k,k<m+1/\∃i acc ys hh ι' Hc o,Inv (bf X scope s3.heap.objs.size x s3 H3 pins fp) [] (σ++o) Hc s₅/\o.length=x.length/\tn i s₅.heap/\(∀b∈fp,Hc b=none)/\Hc D=some (.lst ys)/\eP ι' hh D/\
      At (zx X E) ι' hh Hc ρ σ/\Ext ι1 h1 H2 ι' hh Hc/\aT X.K ι' hh.length Hc acc ys/\gn X.K J src ι' hh.length Hc/\cnt src i k/\
      ah (zx X E) RE ι1 h1 H2 ((wk src (cD un dc de ρ) i k acc hh).bind Tw.dC) Q) (fun _ _=>False) s₄) (fun _ _=>False) sb:=fun {Hb sb hb ι2} Jb eb rb pb=>by
    have atb:At (zx X E) ι2 hb Hb (ρ++ws.map some) (σ++vs.map some):=at6.later eb rb;have pb':=kl pb;refine az (hel _ _ _ _ _ _ sb _ Hb _ Jb ⟨_,hb,ι2,atb.ex,xl pb'⟩) fun xv s4 Z=>Z.g fun y Z=>Z.g fun Hd Z=>Z.g fun Jd Z=>Z.g fun ry Z=>Z.g fun yw Z=>Z.g fun hd Z=>Z.g fun ι3 Z=>Z.g fun ed Z=>Z.g fun exd Z=>Z.g fun rd rwd=>?_;have rd:HR (zx X E) ι3 hd Hd:=rd.ex;rw[ed] at pb';have pb':ah (zx X E) RE ι1 h1 H2 ((wk src (cD un dc de ρ) (i+1) m (acc++[yw]) hd).bind Tw.dC) Q:=pb';have e3:Ext ι' hh Ha ι3 hd Hd:=eb.trans exd;have hDd:Hd D=some (.lst ys):=e3.fr D _ hDc al;have ald:eP ι3 hd D:=al.later e3 (by rw[hDc];exact fun z=>nomatch z);have hlen:acc.length+1<=Tw.SZ:=by
     cases q:wk src (cD un dc de ρ) (i+1) m (acc++[yw]) hd with
     |bad=>rw[q] at pb';exact pb'.elim
     |ax=>exact absurd q Lv
     |ok acc' h'=>
      rw[q] at pb';have pb':ah (zx X E) RE ι1 h1 H2 (if acc'.length<=Tw.SZ then Tw.new (.lst acc') h' else .bad) Q:=pb';by_cases c:acc'.length<=Tw.SZ
      .have:=Ke CY q;rw[iU,DB] at this;omega
      .rw[if_neg c] at pb';exact pb'.elim
    have kd:Keeps ι3 hd.length Hd ι3 hd.length (upd Hd D (.lst (ys++[y]))):=⟨aA _,fun _ _=>rfl,fun b xs e=>by
     rw[aq (fun z=>by rw[z,hDd] at e;cases e)];exact e⟩
    refine az (uz (X:=bf X scope s3.heap.objs.size x s3 H3 pins fp) _ s4 _ Hd (.ref D) [y] (.ref D) [xv] (fun _ Hn=>Hn=upd Hd D (.lst (ys++[y]))) Jd rfl (.cons ry .nil) ⟨D,ys,y,rfl,rfl,hDd,?_,rfl⟩) fun _ s5 Z=>Z.g fun _ Z=>Z.g fun Hn Z=>Z.g fun Jn Z=>Z.g fun _ eHn=>?_
    .rw[<-rr.length,fj];omega
    .subst eHn;have kk:Keeps ι' hh.length Ha ι3 hd.length (upd Hd D (.lst (ys++[y]))):=(e3.keeps at5.hr).trans kd;exact back Jn aB ald (rd.other ald hDd (fun _ z=>nomatch z) fun _ _ z=>nomatch z) ((ex.trans e3).other fresh hDd) kk ((rr.keep kk).append (.cons (rwd.keep kd) .nil)) pb'
   rcases hts with ⟨rfl,hd0⟩|⟨c,d,rfl,hd1,hpt⟩
   .refine wpAny_tests_nil ?_;rw[if_pos rfl];refine elem Ja (Ext.refl _ _ _) at5.hr ?_;rw[hd0] at pp';exact pp'
   .refine wpAny_tests_one ?_;rw[hd1] at pp';have pt:ah (zx X E) RE ι1 h1 H2 ((dT d (ρ++ws.map some) hh).gv.bind fun b h=>((match b with
      |true=>(de (ρ++ws.map some) h).gv.bind fun y h=>(.ok (acc++[y]) h:Tw.R (List Tw.W))
      |false=>.ok acc h).bind fun acc h=>(wk src (cD un dc de ρ) (i+1) m acc h).bind Tw.dC)) Q:=by
     cases q:d (ρ++ws.map some) hh with
     |bad=>rw[q] at pp';exact pp'.elim
     |ax=>rw[q] at pp';exact pp'.elim
     |ok u hu=>
      rw[q] at pp';simp only[dT,q,Tw.R.aw,Tw.R.lS,Tw.mh] at pp'⊢;cases q2:Tw.truth hu u with
      |none=>rw[q2] at pp';exact pp'.elim
      |some b=>
       rw[q2] at pp';cases b<;>exact pp'
    refine az (hpt _ _ _ _ _ _ sa _ Ha _ Ja ⟨_,hh,ι',at6.ex,xl pt⟩) fun bb s4 Z=>Z.g fun Hd Z=>Z.g fun Jd Z=>Z.g fun b Z=>Z.g fun hd Z=>Z.g fun ι3 Z=>Z.g fun ed Z=>Z.g fun exd Z=>Z.g fun rd eb=>?_;have rd:HR (zx X E) ι3 hd Hd:=rd.ex;rw[ed] at pt;have eb:b=bb:=eb;subst eb;cases b with
    |true=>
     rw[if_pos rfl];exact elem Jd exd rd pt
    |false=>
     rw[if_neg (by decide)];exact back Jd (exd.fr D _ hDc al) (al.later exd (by rw[hDc];exact fun z=>nomatch z)) rd (ex.trans exd) (exd.keeps at5.hr) (rr.keep (exd.keeps at5.hr)) pt
 exact codeAny_compStart_list loop (T.self _ 0 _ _ _ st4 loop)
end
section
variable {X:Cx}{E:XK}{elt iter tg:Expr}{x:List Str}{pos:Pos}{g:TG}{un:Tw.W->Option (List Tw.W)}{ifs:List Expr}{scope:Scope}{dit:Tw.Env->Tw.Hp->Tw.R Tw.Src}{dc:Tw.Env->Tw.Hp->Tw.R (Option Tw.W)}{de:Tw.Env->Tw.Hp->Tw.R Tw.W}
def nC(un:Tw.W->Option (List Tw.W))(dit:Tw.Env->Tw.Hp->Tw.R Tw.Src)(dc:Tw.Env->Tw.Hp->Tw.R (Option Tw.W))(de:Tw.Env->Tw.Hp->Tw.R Tw.W):Tw.Env->Tw.Hp->Tw.R Tw.W:=
 fun ρ h=>(dit ρ h).bind fun s h=>(Tw.walk s (cD un dc de ρ) h).bind Tw.dC
theorem zz{use:Option (Value->Sem Unit)}{QQ:aH}(I:Inv X pins σ H s)
  (hc:X.calm=true) (cs:fU X.N X.env.scope x scope) (hpg:∀C s H pins fp,PG (bf X scope C x s H pins fp) tg g) (hbd:lZ (zx X E) X.N.length x.length g un) (hi:PI X tg iter (tI (zx X E) dit)) (hs:∀v,foldedSetIterable iter X.env v=pure v)
  (hel:∀C s H pins fp,PE (bf X scope C x s H pins fp) elt (tE (zx X E0) de)) (hts:rP X scope x ifs dc) (q:tE (zx X E) (nC un dit dc de) σ H Q)
  (hR:∀s3 H3 fp D,Inv X pins σ H3 s3->(∀b∈fp,eh X pins H3 b)->∀s1 Hc σ',Inv (bf X scope s3.heap.objs.size x s3 H3 pins fp) [] σ' Hc s1->Q (.ref D) Hc->compPost (model X.prog X.w) X.A X.xe use QQ (.ref D) s3.heap.objs.size (.ok .next) s1):
  wpAny (model X.prog X.w) X.A (comprehension (.ListComp elt [⟨tg,iter,ifs,0⟩] scope pos) scope X.env (firstIterPos [⟨tg,iter,ifs,0⟩] pos) (newList []) false (eval iter X.env) use) QQ X.xe s:=by
 obtain⟨ρ,h,ι,at',p⟩:=q;refine wpAny_comprehension_free rfl hs (AA (zw I cs)) cs.kind cs.locs (az (hi pins s σ H (fun J H'=>∃src h1 ι1,At (zx X E) ι1 h1 H' ρ σ/\Ext ι h H ι1 h1 H'/\gn X.K J src ι1 h1.length H'/\ah (zx X E) RE ι1 h1 H' ((Tw.walk src (cD un dc de ρ) h1).bind Tw.dC) Q) I ⟨ρ,h,ι,at',?_⟩) fun xv s1 h1=>az h1 fun it s2 h2=>?_)
 .exact step at' p
 .obtain⟨it',fp,tn,J,H2,rfl,I2,T,tn0,fpo,src,h1',ι1,at1,e1,fd,p1⟩:=h2;have hf:H2 s2.heap.objs.size=none:=I2.ao.fresh (aA _);have I3:Inv X pins σ (upd H2 s2.heap.objs.size (.lst [])) {s2 with heap:=s2.heap.push {cls:=.type "list",data:=.seq #[]},toks:=s2.toks}:=
   I2.laid (fun b u e=>bj _ e) (aA _) ⟨jS _,[],0,.nil,cY _ rfl⟩
  have lt2:∀b∈fp,b<s2.heap.objs.size:=fun b hb=>by
   obtain⟨o,e,_⟩:=T.obj _ _ tn0 b hb;exact aY e
  have f3:∀b∈fp,eh X pins (upd H2 s2.heap.objs.size (.lst [])) b:=fun b hb=>by
   obtain⟨g0,g1⟩:=fpo b hb;exact⟨by rw[aq (bT (lt2 b hb))];exact g0,g1⟩
  refine ij (wpAny_newFunctionEnv cs.vT (by intro y hy;simp at hy) (fun h₁ hns₁ hsb₁=>?_) cs.kind);dsimp only at hns₁ hsb₁⊢;obtain⟨r3,x3⟩:=at1.hr.grow (o:=.lst []) hf;have al:eP ι1 h1' s2.heap.objs.size:=fun i o ei m z=>by
   obtain⟨u,q,_,_⟩:=at1.hr.there ei m;rw[z,hf] at q;cases q
  rw[Eu] at p1;have sz:(s2.heap.push {cls:=.type "list",data:=.seq ([]:List Value).toArray}).objs.size=s2.heap.objs.size+1:=mL _ _;exact Ag (h4:=h₁) hc cs hpg hbd hel hts I3 aB hf x3 (at1.later x3 r3) al (fd.later (x3.keeps at1.hr)) p1 T (T.keep 0 _ _ tn0 fun b _ o e=>bj _ e) f3 (fun b hb=>by
    show b<(s2.heap.push _).objs.size;rw[sz];exact Am (lt2 b hb)) hns₁
   (fun b o e=>hsb₁.extBut b o (bT (aY e)) (bj _ e)) (hR _ _ fp _ I3 f3)
theorem CS(hc:X.calm=true)(cs:fU X.N X.env.scope x scope)(hpg:∀C s H pins fp,PG (bf X scope C x s H pins fp) tg g)(hbd:lZ (zx X E) X.N.length x.length g un)(hi:PI X tg iter (tI (zx X E) dit))(hs:∀v,foldedSetIterable iter X.env v=pure v)
  (hel:∀C s H pins fp,PE (bf X scope C x s H pins fp) elt (tE (zx X E0) de)) (hts:rP X scope x ifs dc):
  PE X (.ListComp elt [⟨tg,iter,ifs,0⟩] scope pos) (tE (zx X E) (nC un dit dc de)):=by
 intro pins s σ H Q I q;rw[eval_ListComp];refine zz (use:=none) I hc cs hpg hbd hi hs hel hts q fun s3 H3 fp D I3 f3 s1 Hc σ' J q=>?_;obtain⟨mm,hns2,_⟩:=J.loc;exact⟨mm,hns2,fun h' hs'=>⟨.ref D,Hc,ux I3 f3 J hs',rfl,q⟩⟩
theorem BU(hc:X.calm=true)(cs:fU X.N X.env.scope x scope)(hpg:∀C s H pins fp,PG (bf X scope C x s H pins fp) tg g)(hbd:lZ (zx X E) X.N.length x.length g un)(hi:PI X tg iter (tI (zx X E) dit))(hs:∀v,foldedSetIterable iter X.env v=pure v)
  (hel:∀C s H pins fp,PE (bf X scope C x s H pins fp) elt (tE (zx X E0) de)) (hts:rP X scope x ifs dc) (hN:X.N.Nodup) (hy:X.N[i]?=some y) (hl:X.env.scope.names.lookup y=some .local)
  (hsw:swapsWith (.ListComp elt [⟨tg,iter,ifs,0⟩] scope pos) (some (.Name y py)) spos.line X.env=pure true):
  PS X (.Assign [.Name y py] (.ListComp elt [⟨tg,iter,ifs,0⟩] scope pos) spos) (cz (zx X E) fun ρ h=>(nC un dit dc de ρ h).bind fun w h=>.ok (.next (ρ.set i (some w))) h):=by
 intro pins s σ H D I ⟨ρ,h,ι,at',p⟩;rw[exec_Assign_Name_used _ _ _ _ hsw];refine af (mD (af ?_));show wpAny _ _ (do let _ <-comprehension (.ListComp elt [⟨tg,iter,ifs,0⟩] scope pos) scope X.env (firstIterPos [⟨tg,iter,ifs,0⟩] pos) (newList []) false (eval iter X.env) (some (assign (.Name y py) X.env))) _ _ s;refine af (az (zz (use:=some (assign (.Name y py) X.env)) (QQ:=fun _ s'=>SP X pins D .next s') (Q:=fun v H1=>D.nx (σ.set i (some v)) H1) I hc cs hpg hbd hi hs hel hts ⟨ρ,h,ι,at',(fB at' p).mono fun v H1 Z=>Z.g6 fun w h1 ι1 at1 e1 r1 p1=>p1.next (at1.set r1 i)⟩ fun s3 H3 fp A I3 f3 s1 Hc σ' J q=>?_) fun _ s' hq=>aj (aj hq));have I1:Inv X pins σ Hc s1:=ux I3 f3 J (Heap.SameBut.refl _ _);have hC:eh X pins Hc s3.heap.objs.size:=I3.oP (aA _) J.free;obtain⟨mm,⟨o,es,ep,ho,hr⟩,_⟩:=J.loc;have I2:Inv X (pins++jr [s3.heap.objs.size] s1.heap) σ Hc s1:=I1.pinned (fun b hb=>by
   rw[tK] at hb;subst hb;exact hC) fun b hb=>by
  rw[tK] at hb;subst hb;exact⟨o,ho,fun v z=>by rw[hr.1] at z;cases z⟩
 refine az ((lY (i:=i) (pos:=py) hN hy (.inl hl) (.inr hl):PG X (.Name y py) (fI i)) _ s1 σ Hc (.ref A) (.ref A) (fun σ2 H2=>σ2=σ.set i (some (.ref A))/\H2=Hc) I2 rfl ⟨rfl,rfl⟩) fun _ s2 Z=>Z.g4 fun σ2 H2 J2 e1 e2=>?_;subst e1 e2;have ho2:s2.heap.get? s3.heap.objs.size=some o:=(J2.pin (_,o) (iA _ (iA _ (gf (tK.mpr rfl) ho)))).1;refine⟨mm,⟨o,es,ep,ho2,hr⟩,fun h' hs'=>?_⟩;have J3:=J2.fN;have nm:∀{b:Addr},b∉ [s3.heap.objs.size]->b≠s3.heap.objs.size:=fun hb z=>hb (tK.mpr z);have hf2:H2 s3.heap.objs.size=none:=hC.1;have u:Un (bF X.stack) [s3.heap.objs.size] H2 H2 s2.heap h':=
  ⟨fun b o e _ _ h2=>hs'.extBut b o (nm h2) e,fun b o e _ _ h2=>⟨o.slots,hs'.extBut b o (nm h2) e⟩,fun b o _ n _=>n,fun b o e h2=>⟨o,hs'.extBut b o (nm h2) e⟩,fun _ _ q=>q,fun _ _ _ q=>q,fun _ ps q=>⟨#[],by rw[q];simp⟩⟩
 have ao:cR X.prog X.w H2 h':=fun b v e=>by
  refine (J3.ao b v e).fq (fun c w hc q=>hs'.extBut c w ?_ q) (fun _ q=>q) fun _ _ q=>q;rcases hc with z|z
  .rw[z];intro z';rw[z',hf2] at e;cases e
  .intro z';rw[z',hf2] at z;cases z
 have fin:=J3.call (h':=h') (g':=s2.gens) (d':=s2.drawn) (t':=s2.toks) (ch:=[s3.heap.objs.size]) u ao J3.bare fun b hb=>by
  rw[tK] at hb;subst hb;exact⟨hC.2.2.2.1,hC.2.1,hC.2.2.2.2.1,hC.2.2.2.2.2⟩
 exact⟨_,_,fin,q⟩
end
abbrev DE:=Tw.Env->Tw.Hp->Tw.R Tw.W
noncomputable def fc:List (DE×DE)->Tw.Env->Tw.Hp->Tw.R (List Tw.W)
 |[],_,h=>.ok [] h
 |(dk,dv)::r,ρ,h=>(dk ρ h).bind fun x h=>(dv ρ h).bind fun y h=>(fc r ρ h).bind fun xs h=>.ok (x::y::xs) h
inductive PV(K:W.Frag)(ι:Nat->Addr)(n:Nat)(H:L2.Hp):List Tw.W->List (V×V)->Prop
 |nil:PV K ι n H [] []
 |cons {k w:Tw.W}{x y:V}{ws:List Tw.W}{ps:List (V×V)}:RW K ι n H k x->RW K ι n H w y->PV K ι n H ws ps->PV K ι n H (k::w::ws) ((x,y)::ps)
theorem Dq{K:W.Frag}{ι:Nat->Addr}{n:Nat}{H:L2.Hp}:∀{ws:List Tw.W}{ps:List (V×V)},PV K ι n H ws ps->∀{acc kvs:List (Tw.W×Tw.W)}{xs:List (Key×V)},Tw.jM ws acc=some kvs->RD K ι n H acc xs->
  ∃l:List (Key×V),ps=l.map (fun kv=>(kV kv.1,kv.2))/\RD K ι n H kvs (iL xs l)
 |_,_,.nil,acc,kvs,xs,e,r=>by cases e;exact⟨[],rfl,r⟩
 |_,_,.cons (k:=k) (w:=w) (x:=x) (y:=y) a b t,acc,kvs,xs,e,r=>by
  rw[Tw.jM] at e;by_cases c:Tw.isKey k=true
  .rw[if_pos c] at e;obtain⟨q,rfl⟩:=iW a c;obtain⟨l,e1,r1⟩:=Dq t e (r.put a b);exact⟨(q,y)::l,by rw[e1];rfl,r1⟩
  .rw[if_neg c] at e;cases e
section
variable {K:Zk}
theorem uG{α β γ δ:Type}{R:Rl α β}{R':Rl γ δ}{ι ι0:Nat->Addr}{h h0:Tw.Hp}{H H0:L2.Hp}{m:Tw.R α}{k:α->Tw.Hp->Tw.R γ}{Q:δ->L2.Hp->Prop}(e0:Ext ι0 h0 H0 ι h H)(p:ah K R' ι0 h0 H0 (m.bind k) Q):
  ah K R ι h H m (fun b H'=>∃a h' ι',m=.ok a h'/\Ext ι h H ι' h' H'/\HR K ι' h' H'/\R K.K ι' h'.length H' a b):=by
 cases m with
 |ok w h1=>exact fun ι' H' b e r q=>⟨w,h1,ι',rfl,e,r,q⟩
 |ax a h'=>exact fun ι' H' e r=>p ι' H' (e0.trans e) r
 |bad=>exact p
theorem sk{σ:L2.St}{ρ:Tw.Env}{γ δ:Type}{R':Rl γ δ}{ι0:Nat->Addr}{h0:Tw.Hp}{H0:L2.Hp}{Q0:δ->L2.Hp->Prop}:
  ∀(prs:List (DE×DE)){ι:Nat->Addr}{h:Tw.Hp}{H:L2.Hp}{k:List Tw.W->Tw.Hp->Tw.R γ}(Qf:List (V×V)->L2.Hp->Prop),At K ι h H ρ σ->Ext ι0 h0 H0 ι h H->ah K R' ι0 h0 H0 ((fc prs ρ h).bind k) Q0->
   (∀ws h2 ι2 H2 ps,fc prs ρ h=.ok ws h2->Ext ι h H ι2 h2 H2->HR K ι2 h2 H2->PV K.K ι2 h2.length H2 ws ps->Qf ps H2)->rX (prs.map fun p=>(tE K p.1,tE K p.2)) σ H Qf
 |[],ι,h,H,k,Qf,a,_,_,f=>f [] h ι H [] rfl (Ext.refl _ _ _) a.hr .nil
 |(dk,dv)::r,ι,h,H,k,Qf,a,e0,p,f=>by
  rw[fc] at p;have p:=kl p;refine⟨ρ,h,ι,a,(uG e0 p).mono fun x H1 Z=>Z.g6 fun w h1 ι1 e1 x1 r1 rw1=>?_⟩;rw[e1] at p;have p:=kl p;refine⟨ρ,h1,ι1,a.later x1 r1,(uG (e0.trans x1) p).mono fun y H2 Z=>Z.g6 fun u h2 ι2 e2 x2 r2 rw2=>?_⟩;rw[e2] at p;have p:=kl p;refine sk r _ ((a.later x1 r1).later x2 r2) ((e0.trans x1).trans x2) p fun ws h3 ι3 H3 ps e3 x3 r3 pv=>?_;refine f (w::u::ws) h3 ι3 H3 _ ?_ ((x1.trans x2).trans x3) r3 (.cons ((rw1.keep (x2.keeps r1)).keep (x3.keeps r2)) (rw2.keep (x3.keeps r2)) pv);rw[fc,e1];simp only[Tw.R.aw];rw[e2];simp only[Tw.R.aw];rw[e3];rfl
end
def ET(prs:List (DE×DE)):DE:=fun ρ h=>(fc prs ρ h).bind fun xs h=>match Tw.jM xs [] with
 |some kvs=>Tw.new (.aK kvs) h
 |none=>.bad
theorem MK{X:Cx}{E:XK}{pos:Pos}{keys:List (Option Expr)}{values:List Expr}{prs:List (DE×DE)}(h:yh X pos keys values (prs.map fun p=>(tE (zx X E) p.1,tE (zx X E) p.2)))(hall:keys.all (·.isSome)=true)(hl:keys.length=values.length)(h0:keys≠ [])
  (h15:keys.length<=15) (hn:prs.length=keys.length):PE X (.Dict keys values pos) (tE (zx X E) (ET prs)):=by
 refine PE.imp (GL h hall hl h0 h15) fun σ H Q Z=>Z.g fun ρ Z=>Z.g fun hh Z=>Z.g fun ι Z=>Z.g fun at' p=>fun a ha=>?_;obtain⟨r0,x0⟩:=at'.hr.grow (o:=.dK []) ha;have at0:=at'.later x0 r0;have al:eP ι hh a:=fun i o ei m z=>by
  obtain⟨u,q,_,_⟩:=at'.hr.there ei m;rw[z,ha] at q;cases q
 refine sk prs _ at0 x0 p fun ws h2 ι2 H2 ps e2 x2 r2 pv=>?_;have ea:H2 a=some (.dK []):=x2.fr a _ aB al;refine⟨ea,?_⟩;have p:ah (zx X E) RE ι hh H ((fc prs ρ hh).bind fun xs h=>match Tw.jM xs [] with
  |some kvs=>Tw.new (.aK kvs) h
  |none=>.bad) Q:=p
 rw[e2] at p;have p:ah (zx X E) RE ι hh H (match Tw.jM ws [] with
  |some kvs=>Tw.new (.aK kvs) h2
  |none=>.bad) Q:=p
 cases em:Tw.jM ws [] with
 |none=>rw[em] at p;exact p.elim
 |some kvs=>
  rw[em] at p;obtain⟨l,el,rd⟩:=Dq pv em .nil;have av:eP ι2 h2 a:=al.later x2 (by rw[aB];exact fun z=>nomatch z);have hr1:HR (zx X E) ι2 h2 (upd H2 a (.dK (iL [] l))):=r2.other av ea (fun _ z=>nomatch z) fun _ _ z=>nomatch z;have kp:Keeps ι2 h2.length H2 ι2 h2.length (upd H2 a (.dK (iL [] l))):=⟨aA _,fun _ _=>rfl,fun b xs e=>by
   rw[aq (fun z=>by rw[z,ea] at e;cases e)];exact e⟩
  have hr2:=hr1.adopt (u:=.aK kvs) av aB rfl fun ι'' n'' k=>⟨_,aB,(rd.keep kp).keep k⟩;have lenp:∀{ws:List Tw.W}{ps:List (V×V)},PV X.K ι2 h2.length H2 ws ps->ws.length=2 * ps.length:=by
   intro ws ps pv
   induction pv with
   |nil=>rfl
   |cons _ _ _ ih=>simp only[cQ,ih];omega
  have lend:∀(prs:List (DE×DE))(h:Tw.Hp)(ws:List Tw.W)(h2:Tw.Hp),fc prs ρ h=.ok ws h2->ws.length=2 * prs.length:=by
   intro prs
   induction prs with
   |nil=>intro h ws h2 e;cases e;rfl
   |cons x r ih=>
    intro h ws h2 e;rw[fc] at e;cases e1:x.1 ρ h with
    |ok w1 g1=>
     rw[e1] at e;simp only[Tw.R.aw] at e;cases e2:x.2 ρ g1 with
     |ok w2 g2=>
      rw[e2] at e;simp only[Tw.R.aw] at e;cases e3:fc r ρ g2 with
      |ok w3 g3=>
       rw[e3] at e;cases e;have:=ih g2 w3 _ e3;simp only[cQ,this];omega
      |_=>rw[e3] at e;cases e
     |_=>rw[e2] at e;cases e
    |_=>rw[e1] at e;cases e
  have hlen:l.length<=15:=by have h1:=lenp pv;have h2:=lend prs _ _ _ e2;rw[el,gC] at h1;omega
  refine⟨l,el,hlen,?_⟩;have z:RW X.K (eI ι2 h2.length a) (h2++[Tw.O.aK kvs]).length (upd H2 a (.dK (iL [] l))) (.ref h2.length) (.ref (eI ι2 h2.length a h2.length)):=.ref (by simp);rw[cG] at z;exact p _ _ _ (((x0.trans x2).other ha ea).adopt ha) hr2 z
def tk(src:Tw.Src)(t:Tw.Tg)(k:Tw.Env->Tw.Hp->Tw.R Tw.Fl)(i m:Nat)(ρ:Tw.Env)(h:Tw.Hp):Tw.R Tw.Fl:=match src with
 |.fix ws=>Tw.bh t k (ws.drop i) ρ h
 |.at a _=>Tw.cH a t k m i ρ h
 |.rv a _=>Tw.dQ a t k m ρ h
 |.ea a _=>Tw.fT a t k m i ρ h
theorem DC(src:Tw.Src)(t:Tw.Tg)(k:Tw.Env->Tw.Hp->Tw.R Tw.Fl)(ρ:Tw.Env)(h:Tw.Hp):Tw.turns src t k ρ h=tk src t k 0 (ku src) ρ h:=by cases src<;>rfl
theorem GQ{src:Tw.Src}{t:Tw.Tg}{k:Tw.Env->Tw.Hp->Tw.R Tw.Fl}{i m:Nat}{ρ:Tw.Env}{h:Tw.Hp}(hm:cnt src i m):
  tk src t k i m ρ h=.bad\/(nextOf src i h=some none/\tk src t k i m ρ h=.ok (.next ρ) h)\/∃w m',nextOf src i h=some (some w)/\m=m'+1/\tk src t k i m ρ h=Tw.turn t k w ρ h fun ρ h=>tk src t k (i+1) m' ρ h:=by
 cases src with
 |fix ws=>
  have hm:m=ws.length-i:=hm;cases hw:ws[i]? with
  |none=>
   have hl:=tP.mp hw;refine .inr (.inl ⟨by simp[nextOf,hw],?_⟩);show Tw.bh t k (ws.drop i) ρ h=_;rw[List.drop_eq_nil_of_le hl];rfl
  |some w=>
   have hl:=(dE.mp hw).1;refine .inr (.inr ⟨w,ws.length-(i+1),by simp[nextOf,hw],by omega,?_⟩);show Tw.bh t k (ws.drop i) ρ h=_;rw[zd hw];rfl
 | «at» a n=>
  cases e:Tw.bD h a with
  |none=>refine .inl ?_;show Tw.cH a t k m i ρ h=_;unfold Tw.cH;rw[e]
  |some ws=>
   cases hw:ws[i]? with
   |none=>refine .inr (.inl ⟨by simp[nextOf,e,hw],?_⟩);show Tw.cH a t k m i ρ h=_;unfold Tw.cH;simp only[e,hw]
   |some w=>
    cases m with
    |zero=>refine .inl ?_;show Tw.cH a t k 0 i ρ h=_;unfold Tw.cH;simp only[e,hw]
    |succ m=>
     refine .inr (.inr ⟨w,m,by simp[nextOf,e,hw],rfl,?_⟩);show Tw.cH a t k (m+1) i ρ h=_
     conv=>lhs;unfold Tw.cH
     simp only[e,hw];rfl
 |rv a n=>
  have hm:m=n-i:=hm;cases m with
  |zero=>exact .inr (.inl ⟨by simp[nextOf];omega,rfl⟩)
  |succ m=>
   have hi:i<n:=by omega
   have em:n-1-i=m:=by omega
   cases e:Tw.bD h a with
   |none=>refine .inl ?_;show Tw.dQ a t k (m+1) ρ h=_;unfold Tw.dQ;rw[e]
   |some ws=>
    cases hw:ws[m]? with
    |none=>refine .inl ?_;show Tw.dQ a t k (m+1) ρ h=_;unfold Tw.dQ;simp only[e,hw]
    |some w=>
     refine .inr (.inr ⟨w,m,by simp[nextOf,e,hi,em,hw],rfl,?_⟩);show Tw.dQ a t k (m+1) ρ h=_
     conv=>lhs;unfold Tw.dQ
     simp only[e,hw];rfl
 |ea a n=>
  cases e:Tw.bD h a with
  |none=>refine .inl ?_;show Tw.fT a t k m i ρ h=_;unfold Tw.fT;rw[e]
  |some ws=>
   cases hw:ws[i]? with
   |none=>refine .inr (.inl ⟨by simp[nextOf,e,hw],?_⟩);show Tw.fT a t k m i ρ h=_;unfold Tw.fT;simp only[e,hw]
   |some w=>
    cases m with
    |zero=>refine .inl ?_;show Tw.fT a t k 0 i ρ h=_;unfold Tw.fT;simp only[e,hw]
    |succ m=>
     refine .inr (.inr ⟨.tup [.int i,w],m,by simp[nextOf,e,hw],rfl,?_⟩);show Tw.fT a t k (m+1) i ρ h=_
     conv=>lhs;unfold Tw.fT
     simp only[e,hw];rfl
theorem BZ{X:Cx}{E:XK}{tg iter:Expr}{body:List Stmt}{pos:Pos}{g:TG}{t:Tw.Tg}{dit:Tw.Env->Tw.Hp->Tw.R Tw.Src}{tb:Tw.Env->Tw.Hp->Tw.R Tw.Fl}(hp:PassesOwn (model X.prog X.w) X.A X.env X.xe)(hc:X.calm=true)(hi:PI X tg iter (tI (zx X E) dit))(hg:PG X tg g)(ht:zF (zx X E) t g)
  (hb:dU X body (cz (zx X E) tb)) (hs:∀x,foldedSetIterable iter X.env x=pure x):
  PS X (.For tg iter body [] pos) (cz (zx X E) fun ρ h=>(dit ρ h).bind fun s h=>Tw.turns s t tb ρ h):=by
 refine PS.imp (Kl hp hc hi hg hb hs) fun D σ H Z=>Z.g fun ρ Z=>Z.g fun h Z=>Z.g fun ι Z=>Z.g fun at' p=>⟨ρ,h,ι,at',(fB at' p).mono fun J H1 Z=>Z.g fun src Z=>Z.g fun h1 Z=>Z.g fun ι1 Z=>Z.g fun at1 Z=>Z.g fun e1 Z=>Z.g fun fd p1=>?_⟩;rw[DC] at p1;refine⟨fun i m σ' H'=>∃ρ h ι,At (zx X E) ι h H' ρ σ'/\gn X.K J src ι h.length H'/\cnt src i m/\bx (zx X E) ι h H' (tk src t tb i m ρ h) D,⟨ku src,ρ,h1,ι1,at1,fd,uA src,p1⟩,?_⟩
 rintro i m σ2 H2 ⟨ρ2,h2,ι2,at2,fd2,hm,p2⟩
 rcases GQ (t:=t) (k:=tb) (ρ:=ρ2) (h:=h2) hm with e|⟨e1,e⟩|⟨w,m',e1,rfl,e⟩
 .rw[e] at p2;exact p2.elim
 .rw[e] at p2;rcases jP at2.hr fd2 i with q|⟨st,q⟩|⟨w,q,_⟩
  .rw[e1] at q;cases q
  .exact .inl ⟨st,p2.next at2⟩
  .rw[e1] at q;cases q
 .rw[e,Tw.turn] at p2;rcases jP at2.hr fd2 i with q|⟨st,q⟩|⟨w',q,go,hy⟩
  .rw[e1] at q;cases q
  .rw[e1] at q;cases q
  .rw[e1] at q;cases q;refine .inr ⟨go,fun σ' H'=>∃ρ h ι,At (zx X E) ι h H' ρ σ'/\gn X.K J src ι h.length H'/\cnt src (i+1) m'/\bx (zx X E) ι h H' (tk src t tb (i+1) m' ρ h) D,fun σ' H' q=>⟨m',tL _,q⟩,fun x H' hx=>?_⟩;obtain⟨ry,xy,rv⟩:=hy x H' hx;have aty:=at2.later xy ry;cases es:Tw.iZ t w ρ2 with
   |none=>rw[es] at p2;exact p2.elim
   |some ρ3=>
    rw[es] at p2;dsimp only at p2;exact ht ι2 h2 _ ρ2 ρ3 σ2 w x _ aty rv es fun σ3 at3=>⟨ρ3,h2,ι2,at3,tV (bx.later p2 xy) fun ρ4 h4 ι4 H4 σ4 e4 at4 p4=>⟨ρ4,h4,ι4,at4,fd2.later ((xy.trans e4).keeps at2.hr),xu hm,p4⟩⟩
section
variable {X:Cx}{E:XK}{a b:Expr}{p pos p1:Pos}{es:List Expr}{n:Nat}{da db:Tw.Env->Tw.Hp->Tw.R Tw.W}
theorem Ky(hgl:Gl X "enumerate")(hm:X.mg "enumerate" = none)(ha:PE X a (tE (zx X E) da))(hst:starEach [a] X.env=[(false,eval a X.env)]):
  PI X (.Tuple es n p1) (.Call (.Name "enumerate" p) [a] [] pos) (tI (zx X E) fun ρ h=>(da ρ h).bind fun x h=>match x with
   |.tup xs=>.ok (.fix (Tw.eT 0 xs)) h
   |.ref a=>match h[a]? with
    |some (.lst xs)=>.ok (.ea a xs.length) h
    |_=>.bad
   |_=>.bad):=by
 refine PI.imp (PI.or (yt true hgl hm (cE ha dD hst) hst) (yt false hgl hm (cE ha dD hst) hst)) fun σ H R Z=>Z.g fun ρ Z=>Z.g fun h Z=>Z.g fun ι Z=>Z.g fun at' p=>?_;dsimp only at p;cases e0:da ρ h with
 |bad=>rw[e0] at p;exact p.elim
 |ax=>rw[e0] at p;refine .inr ⟨ρ,h,ι,at',?_⟩;rw[e0];exact p
 |ok w h1=>
  rw[e0] at p;simp only[Tw.R.aw] at p;cases w with
  |tup ws=>
   refine .inl ⟨ρ,h,ι,at',?_⟩;rw[e0];intro ι1 H1 x e1 r1 rx;cases rx with
   | @tup ad xs _ ea ra=>exact⟨ad,rfl,⟨xs,ea.sq⟩,p ι1 H1 _ e1 r1 (.inr (.inr (.inr (.inr (.inl ⟨ad,xs,ws,rfl,rfl,ea,ra⟩)))))⟩
  |ref i=>
   dsimp only at p;cases ei:h1[i]? with
   |none=>rw[ei] at p;exact p.elim
   |some o=>
    rw[ei] at p;cases o with
    |lst ws=>
     refine .inr ⟨ρ,h,ι,at',?_⟩;rw[e0];intro ι1 H1 x e1 r1 rx;cases rx with
     |ref hi=>
      obtain⟨xs,q1,q2⟩:=r1.lst ei;exact⟨_,rfl,⟨xs,bB.of q1⟩,p ι1 H1 _ e1 r1 (.inr (.inr (.inr (.inr (.inr (.inr ⟨i,_,_,rfl,rfl,rfl,hi⟩))))))⟩
    |_=>exact p.elim
  |_=>exact p.elim
theorem NV{tg:Expr}(hgl:Gl X "reversed")(hm:X.mg "reversed" = none)(ha:PE X a (tE (zx X E) da))(hst:starEach [a] X.env=[(false,eval a X.env)]):
  PI X tg (.Call (.Name "reversed" p) [a] [] pos) (tI (zx X E) fun ρ h=>(da ρ h).bind fun x h=>match x with
   |.ref a=>match h[a]? with
    |some (.lst xs)=>.ok (.rv a xs.length) h
    |_=>.bad
   |_=>.bad):=by
 refine PI.imp (L7 hgl hm (cE ha dD hst) hst) fun σ H R Z=>Z.g fun ρ Z=>Z.g fun h Z=>Z.g fun ι Z=>Z.g fun at' p=>?_;refine⟨ρ,h,ι,at',(step at' p).mono fun x H1 Z=>Z.g fun w Z=>Z.g fun h1 Z=>Z.g fun ι1 Z=>Z.g fun at1 Z=>Z.g fun e1 Z=>Z.g fun r1 p1=>?_⟩;cases r1 with
 | @ref i hi=>
  dsimp only at p1;cases ei:h1[i]? with
  |none=>rw[ei] at p1;exact p1.elim
  |some o=>
   rw[ei] at p1;cases o with
   |lst ws=>
    obtain⟨xs,q1,q2⟩:=at1.hr.lst ei;refine⟨_,xs,rfl,bB.of q1,?_⟩;rw[<-q2.length];exact ah.self (a:=Tw.Src.rv i ws.length) p1 at1.hr (.inr (.inr (.inr (.inr (.inr (.inl ⟨i,_,_,rfl,rfl,rfl,hi⟩))))))
   |_=>exact p1.elim
 |_=>exact p1.elim
end
noncomputable def aE:Expr->Bool
 |.Name .. => true | .Constant .. => true | .Tuple .. => true | .List .. => true | .Dict .. => true | .BinOp .. => true | .Compare .. => true | .BoolOp .. => true
 |.UnaryOp .. => true | .IfExp .. => true | .Subscript .. => true | .Call .. => true | .Attribute .. => true | .ListComp .. => true
 |_=>false
noncomputable def rQ:Expr->Bool
 |.ListComp .. => true
 |_=>false
noncomputable def jX:Expr->Bool
 |.Call (.Name _ _) [] [] _=>false
 |_=>true
noncomputable def GG:Expr->Bool
 |.UnaryOp .Not _ _=>false | .BoolOp .. => false | .IfExp .. => false | .Compare .. => false
 |_=>true
section
variable {a b:Expr}{es:List Expr}{env:Env}
theorem bA(h:aE a=true):starEach (a::es) env=(false,eval a env)::starEach es env:=by cases a<;>first|rfl|cases h
theorem xm(h:aE b=true):sP b:=by cases b<;>first|(intro _ _;rfl)|cases h
theorem yd(o:CmpOp)(h:aE b=true):behindInMarks o b=false:=by cases b<;>first|rfl|cases h
theorem dz(h:aE b=true):∀x,foldedSetIterable b env x=pure x:=by cases b<;>first|(intro _;rfl)|cases h
theorem gL(h:aE a=true)(hn:rQ a=false):swapsWith a t l env=pure false:=by cases a<;>first|rfl|exact absurd (show false=true from h) eC|exact absurd (show false=true from hn) eC|exact absurd (show true=false from hn) (by decide)
theorem mV(h:aE a=true)(hn:jX a=true):attributeBase a m env (eval a env)=eval a env:=by
 cases a with
 |Call f as ks p=>
  cases f with
  |Name x q=>
   cases as with
   |nil=>
    cases ks with
    |nil=>cases hn
    |cons _ _=>rfl
   |cons _ _=>rfl
  |_=>rfl
 |_=>first|rfl|cases h
theorem CV(h:aE a=true)(hn:GG a=true)(whole:Sem Value):isTrue a env whole=(do let v <-whole;standAt a.pos;holding [v] (truthy v)):=by
 cases a with
 |UnaryOp o x p=>
  cases o with
  |Not=>cases hn
  |_=>rfl
 |_=>first|rfl|exact absurd (show false=true from h) eC|exact absurd (show false=true from hn) eC|exact absurd (show true=false from hn) (by decide)
end
noncomputable abbrev Sc:=List (Str×NameKind)
def xN(sc:Sc)(x:Str):Bool:=match sc.lookup x with
 |some .local=>true|some .cell=>true|some .free=>true
 |_=>false
def iS(sc:Sc)(x:Str):Bool:=match sc.lookup x with
 |some .local=>true|some .cell=>true
 |_=>false
def FL(sc:Sc)(x:Str):Bool:=match sc.lookup x with
 |some .cell=>true|some .free=>true
 |_=>false
def jG(sc:Sc)(x:Str):Bool:=match sc.lookup x with
 |some .globalImplicit=>true
 |_=>false
structure cK(sc:Sc)(N:List Str)(X:Cx):Prop where
 n:X.N=N
 kind:X.env.scope.kind=.function
 pW:∀x,xN sc x=true->jH X.env.scope x
 gl:∀x,jG sc x=true->Gl X x
 cf:∀x,FL sc x=true->X.env.scope.names.lookup x=some .cell\/X.env.scope.names.lookup x=some .free
theorem ml{scope:Scope}{env:Env}{y:Str}{k:NameKind}:∀{names:List (Str×NameKind)},names.lookup y=some k->
  (names.map fun (n,k)=>if (k== NameKind.free&&env.scope.kind== .function&&env.kindOf n== some .cell) then (n,NameKind.cell) else (n,k)).lookup y=some k\/
  (k=.free/\(names.map fun (n,k)=>if (k== NameKind.free&&env.scope.kind== .function&&env.kindOf n== some .cell) then (n,NameKind.cell) else (n,k)).lookup y=some .cell)
 |[],h=>by simp at h
 |(n,j)::r,h=>by
  rw[eS] at h;by_cases hy:(y== n)=true
  .simp only[hy] at h;cases h;rw[aR];dsimp only;by_cases hc:(k== NameKind.free&&env.scope.kind== .function&&env.kindOf n== some .cell)=true
   .refine .inr ⟨?_,?_⟩
    .simp only[av,ji] at hc;exact hc.1.1
    .rw[if_pos hc,eS];simp only[hy]
   .refine .inl ?_;rw[if_neg hc,eS];simp only[hy]
  .rw[yA] at hy;simp only[hy] at h;rw[aR];dsimp only;have ih:=ml (scope:=scope) (env:=env) h;by_cases hc:(j== NameKind.free&&env.scope.kind== .function&&env.kindOf n== some .cell)=true
   .rw[if_pos hc,eS];simp only[hy];exact ih
   .rw[if_neg hc,eS];simp only[hy];exact ih
theorem j5{scope:Scope}{env:Env}{y:Str}{k:NameKind}(h:scope.names.lookup y=some k):(relabel scope env).names.lookup y=some k\/(k=.free/\(relabel scope env).names.lookup y=some .cell):=
 ml (scope:=scope) h
theorem cK.comp(hk:scope.kind=.function):
  cK scope.names (bH X.N x) (bf X scope C x s H pins fp) where
 n:=rfl
 kind:=hk
 pW:=fun y hy=>by
  show jH (relabel scope X.env) y;unfold xN at hy;cases e:scope.names.lookup y with
  |none=>rw[e] at hy;cases hy
  |some k=>
   rcases j5 (env:=X.env) e with q|⟨_,q⟩
   .rw[e] at hy;cases k with
    | «local» => exact .inl q
    |cell=>exact .inr (.inl q)
    |free=>exact .inr (.inr q)
    |_=>cases hy
   .exact .inr (.inl q)
 gl:=fun y hy=>by
  show (relabel scope X.env).names.lookup y=some .globalImplicit;unfold jG at hy;cases e:scope.names.lookup y with
  |none=>rw[e] at hy;cases hy
  |some k=>
   rw[e] at hy;cases k with
   |globalImplicit=>
    rcases j5 (env:=X.env) e with q|⟨q,_⟩
    .exact q
    .cases q
   |_=>cases hy
 cf:=fun y hy=>by
  show (relabel scope X.env).names.lookup y=some .cell\/(relabel scope X.env).names.lookup y=some .free;unfold FL at hy;cases e:scope.names.lookup y with
  |none=>rw[e] at hy;cases hy
  |some k=>
   rw[e] at hy;rcases j5 (env:=X.env) e with q|⟨_,q⟩
   .cases k with
    |cell=>exact .inl q
    |free=>exact .inr q
    |_=>cases hy
   .exact .inl q
noncomputable def w5(N:List Str)(sc:Sc)(x:List Str)(scope:Scope):Bool:=
 decide (scope.kind=.function)&&scope.names.all (fun y=>(match y.2 with
  |.cell=>false
  |.local=>(match scope.names.lookup y.1 with|some .local=>true|_=>false)&&(x.contains y.1 || !(N.contains y.1))
  |.free=>FL sc y.1
  |_=>true)&&!(y.1== ("" : Str)))&&x.all (fun y=>match scope.names.lookup y with|some .local=>true|_=>false)
theorem sj(S:cK sc N X)(h:w5 N sc x scope=true):fU X.N X.env.scope x scope:=by
 unfold w5 at h;simp only[av,aI,lP] at h;obtain⟨⟨h1,h2⟩,h3⟩:=h;have la:∀y∈x,scope.names.lookup y=some .local:=fun y hy=>by
  have h3:=h3 y hy;cases e:scope.names.lookup y with
  |none=>rw[e] at h3;cases h3
  |some k=>rw[e] at h3;cases k<;>first|rfl|cases h3
 refine⟨h1,S.kind,fun y hy z=>?_,fun y hy z=>?_,la,fun y k e z hN=>?_,fun y hy z=>?_,?_⟩
 .obtain⟨q,_⟩:=h2 y hy;rw[z] at q;cases q
 .obtain⟨q,_⟩:=h2 y hy;rw[z] at q;simp only[av] at q;cases e:scope.names.lookup y.1 with
  |none=>rw[e] at q;cases q.1
  |some k=>rw[e] at q;cases k<;>first|rfl|cases q.1
 .subst z;obtain⟨q,_⟩:=h2 (y,.local) (jN e);simp only[av,Bool.or_eq_true,kN] at q;rcases q.2 with q|q
  .rw[Ae] at q;simpa using q
  .rw[S.n] at hN;rw[Ae] at q;exact absurd hN (by simpa using q)
 .obtain⟨q,_⟩:=h2 y hy;rw[z] at q;exact S.cf _ q
 .cases e:scope.names.lookup ("" : Str) with
  |none=>rfl
  |some k=>
   obtain⟨_,q⟩:=h2 ("",k) (jN e);simp at q
theorem str_inj{x y:Tw.S}:((⟨x.toArray⟩:Str)=⟨y.toArray⟩)↔x=y:=by
 constructor
 .intro h;have:=gU (fun s:Str=>s.cps.toList) h;simpa using this
 .intro h;rw[h]
section
variable {K:W.Frag}{ι:Nat->Addr}{n:Nat}{H:L2.Hp}
theorem str_beq(x y:Tw.S):((⟨x.toArray⟩:Str)== ⟨y.toArray⟩)=(x== y):=by
 by_cases h:x=y
 .subst h;simp
 .rw[ik.mpr h];exact ik.mpr fun z=>h (str_inj.mp z)
theorem RF.look{x:Tw.S}:∀{fs:List (Tw.S×Tw.W)}{gs:List (Str×V)},RF K ι n H fs gs->(fs.lookup x=none/\gs.lookup ⟨x.toArray⟩=none)\/∃w v,fs.lookup x=some w/\gs.lookup ⟨x.toArray⟩=some v/\RW K ι n H w v
 |_,_,.nil=>.inl ⟨rfl,rfl⟩
 |_,_,.cons (x:=y) (w:=w) (v:=v) a r=>by
  rw[eS,eS,str_beq];cases e:x== y with
  |true=>exact .inr ⟨w,v,rfl,rfl,a⟩
  |false=>exact RF.look r
theorem RF.put{x:Tw.S}{w:Tw.W}{v:V}(a:RW K ι n H w v):∀{fs:List (Tw.S×Tw.W)}{gs:List (Str×V)},RF K ι n H fs gs->RF K ι n H (Tw.mH x w fs) (dA ⟨x.toArray⟩ v gs)
 |_,_,.nil=>.cons a .nil
 |_,_,.cons (x:=y) b r=>by
  unfold Tw.mH L2.dA;by_cases e:y=x
  .subst e;rw[if_pos rfl,if_pos rfl];exact .cons a r
  .rw[if_neg e,if_neg (fun z=>e (str_inj.mp z))];exact .cons b (RF.put a r)
end
theorem eU{env:Env}:∀{ys:List Expr},ys.all aE=true->starEach ys env=ys.map fun y=>(false,eval y env)
 |[],_=>rfl
 |y::r,h=>by
  rw[eQ,av] at h;rw[bA h.1,eU h.2,aR]
section
variable {X:Cx}{E:XK}{a b c o e f:Expr}{pos apos cpos pos':Pos}{da db dc dv:Tw.Env->Tw.Hp->Tw.R Tw.W}
theorem HR.ins{K:Zk}{ι:Nat->Addr}{h:Tw.Hp}{H:L2.Hp}(r:HR K ι h H){i:Nat}{c:Tw.S}{fs:List (Tw.S×Tw.W)}(e:h[i]?=some (.ins c fs)):
  ∃C dx gs,(K.mg ⟨c.toArray⟩=some (.ref C)/\GoodC K.K C)/\H (ι i)=some (.ins C dx gs)/\RF K.K ι h.length H fs gs:=r.obj i _ e
theorem NF{x:Tw.S}(hx:(⟨x.toArray⟩:Str)∈y7)(hb:attributeBase a ⟨x.toArray⟩ X.env (eval a X.env)=eval a X.env)(ha:PE X a (tE (zx X E) da)):
  PE X (.Attribute a ⟨x.toArray⟩ pos) (tE (zx X E) fun ρ h=>(da ρ h).bind fun w h=>Tw.R.of (Tw.field w x h) h):=by
 refine PE.imp (IE ha hb) fun σ H Q ⟨ρ,h,ι,at',p⟩=>⟨ρ,h,ι,at',(step at' p).mono fun v H1 ⟨w,h1,ι1,at1,e1,r1,p1⟩=>?_⟩;cases r1 with
 | @ref i hi=>
  cases ei:h1[i]? with
  |none=>simp only[Tw.field,ei] at p1;exact p1.elim
  |some ob=>
   cases ob with
   |ins c fs=>
    simp only[Tw.field,ei] at p1;obtain⟨C,dx,gs,⟨_,gc⟩,q1,q2⟩:=at1.hr.ins ei;rcases q2.look (x:=x) with ⟨z,_⟩|⟨u,v,z1,z2,z3⟩
    .rw[z] at p1;exact p1.elim
    .rw[z1] at p1;exact⟨_,C,dx,gs,v,rfl,q1,gc.cls,gc.no _ hx,z2,ah.self (a:=u) p1 at1.hr z3⟩
   |_=>simp only[Tw.field,ei] at p1;exact p1.elim
 |_=>exact p1.elim
theorem Kq{x:Tw.S}(hx:(⟨x.toArray⟩:Str)∈y7)(hv:PE X b (tE (zx X E) dv))(ho:PE X o (tE (zx X E) da))(hs:swapsWith b (some (.Attribute o ⟨x.toArray⟩ pos')) pos.line X.env=pure false):
  PS X (.Assign [.Attribute o ⟨x.toArray⟩ pos'] b pos) (cz (zx X E) fun ρ h=>(dv ρ h).bind fun v h=>(da ρ h).bind fun w h=>(Tw.putField w x v h).bind fun _ h=>.ok (.next ρ) h):=by
 refine PS.imp (JZ ho hv hs) fun D σ H ⟨ρ,h,ι,at',p⟩=>⟨ρ,h,ι,at',(fB at' p).mono fun y H1 ⟨wy,h1,ι1,at1,e1,r1,p1⟩=>⟨ρ,h1,ι1,at1,(fB at1 p1).mono fun z H2 ⟨w,h2,ι2,at2,e2,r2,p2⟩=>?_⟩⟩;cases r2 with
 | @ref i hi=>
  cases ei:h2[i]? with
  |none=>simp only[Tw.putField,ei] at p2;exact p2.elim
  |some ob=>
   cases ob with
   |ins c fs=>
    simp only[Tw.putField,ei] at p2;obtain⟨C,dx,gs,⟨mc,gc⟩,q1,q2⟩:=at2.hr.ins ei;by_cases cc:fs.length<1000
    .rw[if_pos cc] at p2;refine⟨_,C,dx,gs,rfl,q1,gc.cls,gc.no _ hx,by rw[<-q2.length];exact cc,?_⟩;have ry:=r1.keep (e2.keeps at1.hr);obtain⟨hr',ex⟩:=at2.hr.put (o:=.ins C dx (dA ⟨x.toArray⟩ y gs)) (u:=.ins c (Tw.mH x wy fs)) ei rfl rfl (fun _ z=>nomatch z) fun H' kp z=>⟨C,dx,_,⟨mc,gc⟩,z,((q2.keep kp).put (ry.keep kp))⟩;exact p2 ι2 _ σ ex (at2.later ex hr')
    .rw[if_neg cc] at p2;exact p2.elim
   |_=>simp only[Tw.putField,ei] at p2;exact p2.elim
 |_=>exact p2.elim
theorem yT{C:Addr}{cn:Tw.S}{F:List Tw.W->Tw.Hp->Tw.R Tw.W}(hm:X.mg ⟨cn.toArray⟩=some (.ref C))(gc:GoodC X.K C){ι1:Nat->Addr}{h1:Tw.Hp}{H1:L2.Hp}{ws:List Tw.W}{vs:List V}{Q:VK}(r:HR (zx X E) ι1 h1 H1)(rs:aT X.K ι1 h1.length H1 ws vs)
  (p:ah (zx X E) RE ι1 h1 H1 ((F (.ref h1.length::ws) (h1++[.ins cn []])).bind fun r h'=>match r with
   |.ak=>.ok (.ref h1.length) h'
   |_=>.bad) Q) (x dx:Addr) (hx:H1 x=none) (hdx:H1 dx=none) (ne:dx≠x):
  eW X.K X.mg X.A.handled F (.ref x::(vs++[])) (upd (upd H1 dx (.own x)) x (.ins C dx [])) (fun v H2=>v=.ak/\Q (.ref x) H2) E:=by
 obtain⟨r2,x2⟩:=r.grow (o:=.own x) hdx;have hx2:upd H1 dx (.own x) x=none:=by rw[aq ne.symm];exact hx
 obtain⟨r3,x3⟩:=r2.new (o:=.ins C dx []) (u:=.ins cn []) hx2 rfl fun ι' n' H' kp z=>⟨C,dx,[],⟨hm,gc⟩,z,.nil⟩;have x23:=x2.trans x3;have p':=ah.later p x23;refine⟨.ref h1.length::ws,_,_,r3,.cons ?_ (by rw[hJ];exact rs.keep (x23.keeps r)),?_⟩
 .have z:RW X.K (eI ι1 h1.length x) (h1++[Tw.O.ins cn []]).length (upd (upd H1 dx (.own x)) x (.ins C dx [])) (.ref h1.length) (.ref (eI ι1 h1.length x h1.length)):=.ref (by simp);rw[cG] at z;exact z
 .cases e:F (.ref h1.length::ws) (h1++[.ins cn []]) with
  |bad=>rw[e] at p';exact p'.elim
  |ax a h'=>rw[e] at p';exact p'
  |ok u h2=>
   rw[e] at p';simp only[Tw.R.aw] at p';cases u with
   |ak=>
    intro ι4 H4 b e4 r4 rb;cases rb;refine⟨rfl,?_⟩;have hl:h1.length<(h1++[Tw.O.ins cn []]).length:=by simp
    have z:RW X.K ι4 h2.length H4 (.ref h1.length) (.ref (ι4 h1.length)):=.ref (cM hl e4.len);rw[e4.same _ hl,cG] at z;exact p' ι4 H4 _ e4 r4 z
   |_=>exact p'.elim
theorem QI{CX:eL}{k n:Nat}{C g:Addr}{fd:FuncData}{ps:List Str}{F:List Tw.W->Tw.Hp->Tw.R Tw.W}{cn:Tw.S}{p:Pos}{es:List Expr}{ds:Tw.Env->Tw.Hp->Tw.R (List Tw.W)}(M:Mk X.K C g)(gc:GoodC X.K C)
  (G:bV X.A.handled X.prog X.w X.K X.mg X.base CX k g fd ps (eW X.K X.mg X.A.handled F)) (hx:Passes CX X E) (hr:bK X.A.handled (k+1) X.A) (hg:Gl X ⟨cn.toArray⟩) (hm:X.mg ⟨cn.toArray⟩=some (.ref C)) (hb:Binds X.K fd ps [])
  (hs:PA X es (tA (zx X E) n ds)) (hd:((⟨cn.toArray⟩:Str)== ("__debug__" : Str))=false) (hpl:es.all aE=true):
  PE X (.Call (.Name ⟨cn.toArray⟩ p) es [] pos) (tE (zx X E) fun ρ h=>(ds ρ h).bind fun xs h=>(F (.ref h.length::xs) (h++[.ins cn []])).bind fun r h'=>match r with
   |.ak=>.ok (.ref h.length) h'
   |_=>.bad):=by
 cases es with
 |nil=>
  intro pins s σ H Q I ⟨ρ,h,ι,at',p⟩;have z:=hs ⟨0,0,0,0⟩ pins s σ H (fun vs H1=>∀x dx,H1 x=none->H1 dx=none->dx≠x->eW X.K X.mg X.A.handled F (.ref x::(vs++[])) (upd (upd H1 dx (.own x)) x (.ins C dx [])) (fun v H2=>v=.ak/\Q (.ref x) H2) E) I
   ⟨ρ,h,ι,at',(step at' p).mono fun xs H1 ⟨ws,h1,ι1,at1,e1,r1,p1⟩ x dx q1 q2 q3=>yT hm gc at1.hr r1.1 p1 x dx q1 q2 q3⟩
  refine mP (fZ I hg hm ?_ hd);refine W.callWith_K0 I.cJ M.kp ?_;have z:wpAny (model X.prog X.w) X.A (pure []) _ _ s:=z;refine n5 (v:=[]) z fun⟨vs,H1,I1,r1,q⟩=>?_;cases r1;exact xM (us:=[]) M G hr hb .nil hx I1 .nil q
 |cons e es=>
  refine PE.imp (Hz (dvs:=[]) (ds:=[]) (E:=E) M G hr hg hm hb .nil hx hs hd (bA (by rw[eQ,av] at hpl;exact hpl.1)) ?_) fun σ H Q ⟨ρ,h,ι,at',p⟩=>⟨ρ,h,ι,at',(step at' p).mono fun xs H1 ⟨ws,h1,ι1,at1,e1,r1,p1⟩ x dx q1 q2 q3=>yT hm gc at1.hr r1.1 p1 x dx q1 q2 q3⟩;rw[eU (by rw[eQ,av] at hpl;exact hpl.2)];simp[backTo]
theorem og{m:Str}{es:List Expr}{env:Env}(hb:attributeBase o m env (eval o env)=eval o env)
  (hf:methodCallForm (es.length+([]:List Keyword).length) (backTo pos (starEach es env)) (backToKw pos (keywordEach [] env))=true) (hl:(apos.endLine== pos.line)=true):
  eval (.Call (.Attribute o m apos) es [] pos) env=(do
   let ov <-eval o env
   standAt apos.atName
   let (f,first) <-holding [ov] (getMethod ov m (do return (<-importBound o env).getD true))
   callWith pos f first (backTo pos (starEach es env)) (backToKw pos (keywordEach [] env))):=by
 rw[arm_eval_Call,hb];unfold methodCall calleeOf methodCallPos;rw[hf,hl];rfl
theorem M6{CX:eL}{k n:Nat}{C g:Addr}{fd:FuncData}{ps:List Str}{F:List Tw.W->Tw.Hp->Tw.R Tw.W}{cn m:Tw.S}{es:List Expr}{ds:Tw.Env->Tw.Hp->Tw.R (List Tw.W)}(hme:Meth X.K C ⟨m.toArray⟩ g)
  (G:bV X.A.handled X.prog X.w X.K X.mg X.base CX k g fd ps (eW X.K X.mg X.A.handled F)) (hx:Passes CX X E) (hr:bK X.A.handled k X.A) (hm:X.mg ⟨cn.toArray⟩=some (.ref C)) (gc:GoodC X.K C) (hb:Binds X.K fd ps [])
  (ho:PE X o (tE (zx X E) da)) (hs:PA X es (tA (zx X E) n ds)) (me:Me X o ⟨m.toArray⟩ apos es cpos) (hpl:es.all aE=true):
  PE X (.Call (.Attribute o ⟨m.toArray⟩ apos) es [] cpos) (tE (zx X E) fun ρ h=>(da ρ h).bind fun x h=>if Tw.gR x cn m h then (ds ρ h).bind fun xs h=>F (x::xs) h else .bad):=by
 have fin:∀σ H Q,tE (zx X E) (fun ρ h=>(da ρ h).bind fun x h=>if Tw.gR x cn m h then (ds ρ h).bind fun xs h=>F (x::xs) h else .bad) σ H Q->Bp C ⟨m.toArray⟩ (eW X.K X.mg X.A.handled F) [] E (tE (zx X E) da) (tA (zx X E) n ds) σ H Q:=fun σ H Q ⟨ρ,h,ι,at',p⟩=>by
  refine⟨ρ,h,ι,at',(step at' p).mono fun x H1 ⟨w,h1,ι1,at1,e1,r1,p1⟩=>?_⟩;obtain⟨c1,pp⟩:=ah.ite p1;clear p1;cases r1 with
  | @ref i hi=>
   cases ei:h1[i]? with
   |none=>simp[Tw.gR,ei] at c1
   |some ob=>
    cases ob with
    |ins c' fs=>
     simp only[Tw.gR,ei,av,aI] at c1;obtain⟨rfl,c2⟩:=c1;obtain⟨C',dx,gs,⟨mc,gc'⟩,q1,q2⟩:=at1.hr.ins ei;have ec:C'=C:=by have mc:X.mg ⟨c'.toArray⟩=some (.ref C'):=mc;rw[hm] at mc;cases mc;rfl
     subst ec;refine⟨_,dx,gs,rfl,q1,?_,ρ,h1,ι1,at1,(step at1 pp).mono fun xs H2 ⟨ws,h2,ι2,at2,e2,r2,p2⟩=>?_⟩
     .rcases q2.look (x:=m) with ⟨_,z⟩|⟨u,v,z,_⟩
      .exact z
      .rw[z] at c2;cases c2
     .rw[hJ];exact⟨_,h2,ι2,at2.hr,.cons ((RW.ref hi).keep (e2.keeps at1.hr)) r2.1,p2⟩
    |_=>simp[Tw.gR,ei] at c1
  |_=>cases c1
 have ht:=og (apos:=apos) (pos:=cpos) me.base me.wt me.line;cases es with
 |nil=>
  intro pins s σ H Q I h;have q:=fin σ H Q h;refine vg (az (ho pins s σ H _ I q) fun u s1 ⟨x,H1,I1,rx,a,dx,fs,ex,ea,l,q⟩=>?_) ht;subst ex;obtain rfl:u=Value.ref a:=rx;refine mG I1 ea gc.cls hme l ?_;have z:wpAny (model X.prog X.w) X.A (pure []) _ _ s1:=hs ⟨0,0,0,0⟩ pins s1 σ H1 _ I1 q;refine n5 (v:=[]) z fun⟨vs,H2,I2,r2,q2⟩=>?_;cases r2;exact W.callWith_K0 (first:=[.ref a]) I2.cJ hme.kp (oS (us:=[.ref a]) (vs:=[.ref a]) G hr hb .nil hx I2 (.cons rfl .nil) q2)
 |cons e es=>
  refine PE.imp (GY (dvs:=[]) (ds:=[]) (E:=E) ho gc.cls hme G hr hb .nil hx hs (bA (by rw[eQ,av] at hpl;exact hpl.1)) ?_ ht) fin;rw[eU (by rw[eQ,av] at hpl;exact hpl.2)];simp[backTo]
end
noncomputable abbrev ay{α:Type}{p:α->Bool}{x:Option α}(e:x.any p=true):∃a,x=some a/\p a=true:=W.any_some e
theorem br{α:Type}{l:List α}(h:l.isEmpty=true):l=[]:=List.isEmpty_iff.mp h
theorem oz{α:Type}{l:List α}(h:l.isEmpty=false):∃x r,l=x::r:=by
 cases l with
 |nil=>cases h
 |cons x r=>exact⟨x,r,rfl⟩
theorem dv{c:Prop}[Decidable c]{α:Type}{f:c->Option α}{r:α}(h:(if h:c then f h else none)=some r):∃hc,f hc=some r:=by
 by_cases hc:c
 .rw[dif_pos hc] at h;exact⟨hc,h⟩
 .rw[dif_neg hc] at h;cases h
noncomputable def yX(e:Expr)(h:e.ctorIdx=23):Option (Str):=Expr.Name.elim (motive_1:=fun _=>Option (Str)) e h fun x p=>some x
def bu(e:Expr):Option (Str):=if h:e.ctorIdx=23 then yX e h else none
theorem aL{e:Expr}{r:Str}(h:bu e=some r):∃p,e=.Name r p:=
 let ⟨c,h⟩:=dv h
 Expr.Name.elim (motive_1:=fun e=>∀c,yX e c=some r->∃p,e=.Name r p) e c (fun x p _ h=>by cases h;exact⟨p,rfl⟩) c h
noncomputable def v5(e:Expr)(h:e.ctorIdx=19):Option (Const):=Expr.Constant.elim (motive_1:=fun _=>Option (Const)) e h fun x k p=>some x
def mj(e:Expr):Option (Const):=if h:e.ctorIdx=19 then v5 e h else none
theorem lI{e:Expr}{r:Const}(h:mj e=some r):∃k p,e=.Constant r k p:=
 let ⟨c,h⟩:=dv h
 Expr.Constant.elim (motive_1:=fun e=>∀c,v5 e c=some r->∃k p,e=.Constant r k p) e c (fun x k p _ h=>by cases h;exact⟨k,p,rfl⟩) c h
noncomputable def C6(e:Expr)(h:e.ctorIdx=25):Option (List Expr):=Expr.Tuple.elim (motive_1:=fun _=>Option (List Expr)) e h fun x k p=>some x
def sx(e:Expr):Option (List Expr):=if h:e.ctorIdx=25 then C6 e h else none
theorem jq{e:Expr}{r:List Expr}(h:sx e=some r):∃k p,e=.Tuple r k p:=
 let ⟨c,h⟩:=dv h
 Expr.Tuple.elim (motive_1:=fun e=>∀c,C6 e c=some r->∃k p,e=.Tuple r k p) e c (fun x k p _ h=>by cases h;exact⟨k,p,rfl⟩) c h
noncomputable def BG(e:Expr)(h:e.ctorIdx=24):Option (List Expr):=Expr.List.elim (motive_1:=fun _=>Option (List Expr)) e h fun x p=>some x
def FC(e:Expr):Option (List Expr):=if h:e.ctorIdx=24 then BG e h else none
theorem Cn{e:Expr}{r:List Expr}(h:FC e=some r):∃p,e=.List r p:=
 let ⟨c,h⟩:=dv h
 Expr.List.elim (motive_1:=fun e=>∀c,BG e c=some r->∃p,e=.List r p) e c (fun x p _ h=>by cases h;exact⟨p,rfl⟩) c h
noncomputable def yo(e:Expr)(h:e.ctorIdx=6):Option (List (Option Expr)×List Expr):=Expr.Dict.elim (motive_1:=fun _=>Option (List (Option Expr)×List Expr)) e h fun ks vs p=>some (ks,vs)
def CH(e:Expr):Option (List (Option Expr)×List Expr):=if h:e.ctorIdx=6 then yo e h else none
theorem Bb{e:Expr}{r:List (Option Expr)×List Expr}(h:CH e=some r):∃p,e=.Dict r.1 r.2 p:=
 let ⟨c,h⟩:=dv h
 Expr.Dict.elim (motive_1:=fun e=>∀c,yo e c=some r->∃p,e=.Dict r.1 r.2 p) e c (fun ks vs p _ h=>by cases h;exact⟨p,rfl⟩) c h
noncomputable def B2(e:Expr)(h:e.ctorIdx=2):Option (Expr×Operator×Expr):=Expr.BinOp.elim (motive_1:=fun _=>Option (Expr×Operator×Expr)) e h fun x o y p=>some (x,o,y)
def Gm(e:Expr):Option (Expr×Operator×Expr):=if h:e.ctorIdx=2 then B2 e h else none
theorem Bu{e:Expr}{r:Expr×Operator×Expr}(h:Gm e=some r):∃p,e=.BinOp r.1 r.2.1 r.2.2 p:=
 let ⟨c,h⟩:=dv h
 Expr.BinOp.elim (motive_1:=fun e=>∀c,B2 e c=some r->∃p,e=.BinOp r.1 r.2.1 r.2.2 p) e c (fun x o y p _ h=>by cases h;exact⟨p,rfl⟩) c h
noncomputable def CP(e:Expr)(h:e.ctorIdx=15):Option (Expr×List CmpOp×List Expr):=Expr.Compare.elim (motive_1:=fun _=>Option (Expr×List CmpOp×List Expr)) e h fun x os ys p=>some (x,os,ys)
def zG(e:Expr):Option (Expr×List CmpOp×List Expr):=if h:e.ctorIdx=15 then CP e h else none
theorem uL{e:Expr}{r:Expr×List CmpOp×List Expr}(h:zG e=some r):∃p,e=.Compare r.1 r.2.1 r.2.2 p:=
 let ⟨c,h⟩:=dv h
 Expr.Compare.elim (motive_1:=fun e=>∀c,CP e c=some r->∃p,e=.Compare r.1 r.2.1 r.2.2 p) e c (fun x os ys p _ h=>by cases h;exact⟨p,rfl⟩) c h
noncomputable def yF(e:Expr)(h:e.ctorIdx=0):Option (BoolOp×List Expr×Pos):=Expr.BoolOp.elim (motive_1:=fun _=>Option (BoolOp×List Expr×Pos)) e h fun o xs p=>some (o,xs,p)
def vy(e:Expr):Option (BoolOp×List Expr×Pos):=if h:e.ctorIdx=0 then yF e h else none
theorem r9{e:Expr}{r:BoolOp×List Expr×Pos}(h:vy e=some r):e=.BoolOp r.1 r.2.1 r.2.2:=
 let ⟨c,h⟩:=dv h
 Expr.BoolOp.elim (motive_1:=fun e=>∀c,yF e c=some r->e=.BoolOp r.1 r.2.1 r.2.2) e c (fun o xs p _ h=>by cases h;exact rfl) c h
noncomputable def FX(e:Expr)(h:e.ctorIdx=3):Option (UnaryOp×Expr):=Expr.UnaryOp.elim (motive_1:=fun _=>Option (UnaryOp×Expr)) e h fun o x p=>some (o,x)
def IG(e:Expr):Option (UnaryOp×Expr):=if h:e.ctorIdx=3 then FX e h else none
theorem D9{e:Expr}{r:UnaryOp×Expr}(h:IG e=some r):∃p,e=.UnaryOp r.1 r.2 p:=
 let ⟨c,h⟩:=dv h
 Expr.UnaryOp.elim (motive_1:=fun e=>∀c,FX e c=some r->∃p,e=.UnaryOp r.1 r.2 p) e c (fun o x p _ h=>by cases h;exact⟨p,rfl⟩) c h
noncomputable def F9(e:Expr)(h:e.ctorIdx=5):Option (Expr×Expr×Expr):=Expr.IfExp.elim (motive_1:=fun _=>Option (Expr×Expr×Expr)) e h fun z x y p=>some (z,x,y)
def Lw(e:Expr):Option (Expr×Expr×Expr):=if h:e.ctorIdx=5 then F9 e h else none
theorem EM{e:Expr}{r:Expr×Expr×Expr}(h:Lw e=some r):∃p,e=.IfExp r.1 r.2.1 r.2.2 p:=
 let ⟨c,h⟩:=dv h
 Expr.IfExp.elim (motive_1:=fun e=>∀c,F9 e c=some r->∃p,e=.IfExp r.1 r.2.1 r.2.2 p) e c (fun z x y p _ h=>by cases h;exact⟨p,rfl⟩) c h
noncomputable def Du(e:Expr)(h:e.ctorIdx=21):Option (Expr×Expr):=Expr.Subscript.elim (motive_1:=fun _=>Option (Expr×Expr)) e h fun x y p=>some (x,y)
def mQ(e:Expr):Option (Expr×Expr):=if h:e.ctorIdx=21 then Du e h else none
theorem kW{e:Expr}{r:Expr×Expr}(h:mQ e=some r):∃p,e=.Subscript r.1 r.2 p:=
 let ⟨c,h⟩:=dv h
 Expr.Subscript.elim (motive_1:=fun e=>∀c,Du e c=some r->∃p,e=.Subscript r.1 r.2 p) e c (fun x y p _ h=>by cases h;exact⟨p,rfl⟩) c h
noncomputable def C2(e:Expr)(h:e.ctorIdx=26):Option (Option Expr×Option Expr×Option Expr):=Expr.Slice.elim (motive_1:=fun _=>Option (Option Expr×Option Expr×Option Expr)) e h fun l u s p=>some (l,u,s)
def FD(e:Expr):Option (Option Expr×Option Expr×Option Expr):=if h:e.ctorIdx=26 then C2 e h else none
theorem BW{e:Expr}{r:Option Expr×Option Expr×Option Expr}(h:FD e=some r):∃p,e=.Slice r.1 r.2.1 r.2.2 p:=
 let ⟨c,h⟩:=dv h
 Expr.Slice.elim (motive_1:=fun e=>∀c,C2 e c=some r->∃p,e=.Slice r.1 r.2.1 r.2.2 p) e c (fun l u s p _ h=>by cases h;exact⟨p,rfl⟩) c h
noncomputable def ym(e:Expr)(h:e.ctorIdx=16):Option (Expr×List Expr×List Keyword×Pos):=Expr.Call.elim (motive_1:=fun _=>Option (Expr×List Expr×List Keyword×Pos)) e h fun f as ks p=>some (f,as,ks,p)
def rS(e:Expr):Option (Expr×List Expr×List Keyword×Pos):=if h:e.ctorIdx=16 then ym e h else none
theorem mY{e:Expr}{r:Expr×List Expr×List Keyword×Pos}(h:rS e=some r):e=.Call r.1 r.2.1 r.2.2.1 r.2.2.2:=
 let ⟨c,h⟩:=dv h
 Expr.Call.elim (motive_1:=fun e=>∀c,ym e c=some r->e=.Call r.1 r.2.1 r.2.2.1 r.2.2.2) e c (fun f as ks p _ h=>by cases h;exact rfl) c h
noncomputable def zj(e:Expr)(h:e.ctorIdx=20):Option (Expr×Str×Pos):=Expr.Attribute.elim (motive_1:=fun _=>Option (Expr×Str×Pos)) e h fun v x p=>some (v,x,p)
def j0(e:Expr):Option (Expr×Str×Pos):=if h:e.ctorIdx=20 then zj e h else none
theorem iE{e:Expr}{r:Expr×Str×Pos}(h:j0 e=some r):e=.Attribute r.1 r.2.1 r.2.2:=
 let ⟨c,h⟩:=dv h
 Expr.Attribute.elim (motive_1:=fun e=>∀c,zj e c=some r->e=.Attribute r.1 r.2.1 r.2.2) e c (fun v x p _ h=>by cases h;exact rfl) c h
noncomputable def yz(e:Expr)(h:e.ctorIdx=8):Option (Expr×List Comprehension×Scope×Pos):=Expr.ListComp.elim (motive_1:=fun _=>Option (Expr×List Comprehension×Scope×Pos)) e h fun y g scope p=>some (y,g,scope,p)
def rT(e:Expr):Option (Expr×List Comprehension×Scope×Pos):=if h:e.ctorIdx=8 then yz e h else none
theorem jU{e:Expr}{r:Expr×List Comprehension×Scope×Pos}(h:rT e=some r):e=.ListComp r.1 r.2.1 r.2.2.1 r.2.2.2:=
 let ⟨c,h⟩:=dv h
 Expr.ListComp.elim (motive_1:=fun e=>∀c,yz e c=some r->e=.ListComp r.1 r.2.1 r.2.2.1 r.2.2.2) e c (fun y g scope p _ h=>by cases h;exact rfl) c h
noncomputable def vo:BoolOp->Bool
 |.And=>true
 |.Or=>false
noncomputable def GF:UnaryOp->Bool
 |.Not=>true
 |_=>false
theorem Ct{o:UnaryOp}(h:GF o=true):o=.Not:=by cases o<;>first|rfl|cases h
def dW{α:Type}:List α->Option α
 |[x]=>some x
 |_=>none
theorem bY{α:Type}{l:List α}{x:α}(h:dW l=some x):l=[x]:=by rcases l with _|⟨a,_|⟨b,r⟩⟩<;>first|(cases h;rfl)|cases h
def xI{α:Type}:List α->Option (α×α)
 |[x,y]=>some (x,y)
 |_=>none
theorem j9{α:Type}{l:List α}{r:α×α}(h:xI l=some r):l=[r.1,r.2]:=by rcases l with _|⟨a,_|⟨b,_|⟨c,q⟩⟩⟩<;>first|(cases h;rfl)|cases h
def k7{α:Type}:List α->Option (α×List α)
 |x::r=>some (x,r)
 |[]=>none
theorem cU{α:Type}{l:List α}{r:α×List α}(h:k7 l=some r):l=r.1::r.2:=by cases l<;>first|(cases h;rfl)|cases h
def mB(e:Expr):Option (Str×List Expr):=(rS e).bind fun r=>if r.2.2.1.isEmpty then (bu r.1).map fun x=>(x,r.2.1) else none
theorem fL{e:Expr}{r:Str×List Expr}(h:mB e=some r):∃p q,e=.Call (.Name r.1 p) r.2 [] q:=by
 obtain⟨⟨f,as,ks,q⟩,e1,e2⟩:=dJ.mp h;have z:=mY e1;dsimp only at e2 z;cases ks with
 |cons _ _=>cases e2
 |nil=>
  obtain⟨x,e3,rfl⟩:=je.mp e2;obtain⟨p,rfl⟩:=aL e3;exact⟨p,q,z⟩
def vQ(e:Expr):Option (Expr×Str×Pos×List Expr×Pos):=(rS e).bind fun r=>if r.2.2.1.isEmpty then (j0 r.1).map fun a=>(a.1,a.2.1,a.2.2,r.2.1,r.2.2.2) else none
theorem gZ{e:Expr}{r:Expr×Str×Pos×List Expr×Pos}(h:vQ e=some r):e=.Call (.Attribute r.1 r.2.1 r.2.2.1) r.2.2.2.1 [] r.2.2.2.2:=by
 obtain⟨⟨f,as,ks,q⟩,e1,e2⟩:=dJ.mp h;have z:=mY e1;dsimp only at e2 z;cases ks with
 |cons _ _=>cases e2
 |nil=>
  obtain⟨a,e3,rfl⟩:=je.mp e2;rw[iE e3] at z;exact z
noncomputable def u1(g:List Comprehension):Option (Expr×Expr×List Expr):=(dW g).bind fun c=>match c with
 |⟨t,it,ifs,n⟩=>if n=0 then some (t,it,ifs) else none
theorem kS{g:List Comprehension}{r:Expr×Expr×List Expr}(h:u1 g=some r):g=[⟨r.1,r.2.1,r.2.2,0⟩]:=by
 obtain⟨⟨t,it,ifs,n⟩,e1,e2⟩:=dJ.mp h;rw[bY e1];dsimp only at e2;by_cases c:n=0
 .rw[if_pos c] at e2;cases e2;rw[c]
 .rw[if_neg c] at e2;cases e2
noncomputable def CN(e:Stmt)(h:e.ctorIdx=24):Option (Expr):=Stmt.Expr.elim (motive_2:=fun _=>Option (Expr)) e h fun x p=>some x
def uY(e:Stmt):Option (Expr):=if h:e.ctorIdx=24 then CN e h else none
theorem oB{e:Stmt}{r:Expr}(h:uY e=some r):∃p,e=.Expr r p:=
 let ⟨c,h⟩:=dv h
 Stmt.Expr.elim (motive_2:=fun e=>∀c,CN e c=some r->∃p,e=.Expr r p) e c (fun x p _ h=>by cases h;exact⟨p,rfl⟩) c h
noncomputable def GB(e:Stmt)(h:e.ctorIdx=3):Option (Option Expr):=Stmt.Return.elim (motive_2:=fun _=>Option (Option Expr)) e h fun x p=>some x
def qY(e:Stmt):Option (Option Expr):=if h:e.ctorIdx=3 then GB e h else none
theorem i8{e:Stmt}{r:Option Expr}(h:qY e=some r):∃p,e=.Return r p:=
 let ⟨c,h⟩:=dv h
 Stmt.Return.elim (motive_2:=fun e=>∀c,GB e c=some r->∃p,e=.Return r p) e c (fun x p _ h=>by cases h;exact⟨p,rfl⟩) c h
noncomputable def F0(e:Stmt)(h:e.ctorIdx=5):Option (List Expr×Expr×Pos):=Stmt.Assign.elim (motive_2:=fun _=>Option (List Expr×Expr×Pos)) e h fun ts v p=>some (ts,v,p)
def zV(e:Stmt):Option (List Expr×Expr×Pos):=if h:e.ctorIdx=5 then F0 e h else none
theorem qZ{e:Stmt}{r:List Expr×Expr×Pos}(h:zV e=some r):e=.Assign r.1 r.2.1 r.2.2:=
 let ⟨c,h⟩:=dv h
 Stmt.Assign.elim (motive_2:=fun e=>∀c,F0 e c=some r->e=.Assign r.1 r.2.1 r.2.2) e c (fun ts v p _ h=>by cases h;exact rfl) c h
noncomputable def L5(e:Stmt)(h:e.ctorIdx=12):Option (Expr×List Stmt×List Stmt):=Stmt.If.elim (motive_2:=fun _=>Option (Expr×List Stmt×List Stmt)) e h fun x ys zs p=>some (x,ys,zs)
def K3(e:Stmt):Option (Expr×List Stmt×List Stmt):=if h:e.ctorIdx=12 then L5 e h else none
theorem yZ{e:Stmt}{r:Expr×List Stmt×List Stmt}(h:K3 e=some r):∃p,e=.If r.1 r.2.1 r.2.2 p:=
 let ⟨c,h⟩:=dv h
 Stmt.If.elim (motive_2:=fun e=>∀c,L5 e c=some r->∃p,e=.If r.1 r.2.1 r.2.2 p) e c (fun x ys zs p _ h=>by cases h;exact⟨p,rfl⟩) c h
noncomputable def FF(e:Stmt)(h:e.ctorIdx=9):Option (Expr×Expr×List Stmt×List Stmt):=Stmt.For.elim (motive_2:=fun _=>Option (Expr×Expr×List Stmt×List Stmt)) e h fun t i ys zs p=>some (t,i,ys,zs)
def Fc(e:Stmt):Option (Expr×Expr×List Stmt×List Stmt):=if h:e.ctorIdx=9 then FF e h else none
theorem vN{e:Stmt}{r:Expr×Expr×List Stmt×List Stmt}(h:Fc e=some r):∃p,e=.For r.1 r.2.1 r.2.2.1 r.2.2.2 p:=
 let ⟨c,h⟩:=dv h
 Stmt.For.elim (motive_2:=fun e=>∀c,FF e c=some r->∃p,e=.For r.1 r.2.1 r.2.2.1 r.2.2.2 p) e c (fun t i ys zs p _ h=>by cases h;exact⟨p,rfl⟩) c h
noncomputable def Cs(e:Stmt)(h:e.ctorIdx=25):Option (Unit):=Stmt.Pass.elim (motive_2:=fun _=>Option (Unit)) e h fun p=>some ()
def Ga(e:Stmt):Option (Unit):=if h:e.ctorIdx=25 then Cs e h else none
theorem C9{e:Stmt}{r:Unit}(h:Ga e=some r):∃p,e=.Pass p:=
 let ⟨c,h⟩:=dv h
 Stmt.Pass.elim (motive_2:=fun e=>∀c,Cs e c=some r->∃p,e=.Pass p) e c (fun p _ h=>by cases h;exact⟨p,rfl⟩) c h
noncomputable def Gb(e:Stmt)(h:e.ctorIdx=26):Option (Unit):=Stmt.Break.elim (motive_2:=fun _=>Option (Unit)) e h fun p=>some ()
def LU(e:Stmt):Option (Unit):=if h:e.ctorIdx=26 then Gb e h else none
theorem Er{e:Stmt}{r:Unit}(h:LU e=some r):∃p,e=.Break p:=
 let ⟨c,h⟩:=dv h
 Stmt.Break.elim (motive_2:=fun e=>∀c,Gb e c=some r->∃p,e=.Break p) e c (fun p _ h=>by cases h;exact⟨p,rfl⟩) c h
noncomputable def CF(e:Stmt)(h:e.ctorIdx=27):Option (Unit):=Stmt.Continue.elim (motive_2:=fun _=>Option (Unit)) e h fun p=>some ()
def Gv(e:Stmt):Option (Unit):=if h:e.ctorIdx=27 then CF e h else none
theorem CA{e:Stmt}{r:Unit}(h:Gv e=some r):∃p,e=.Continue p:=
 let ⟨c,h⟩:=dv h
 Stmt.Continue.elim (motive_2:=fun e=>∀c,CF e c=some r->∃p,e=.Continue p) e c (fun p _ h=>by cases h;exact⟨p,rfl⟩) c h
noncomputable def FW(e:Stmt)(h:e.ctorIdx=7):Option (Expr×Operator×Expr):=Stmt.AugAssign.elim (motive_2:=fun _=>Option (Expr×Operator×Expr)) e h fun t o v p=>some (t,o,v)
def K6(e:Stmt):Option (Expr×Operator×Expr):=if h:e.ctorIdx=7 then FW e h else none
theorem DI{e:Stmt}{r:Expr×Operator×Expr}(h:K6 e=some r):∃p,e=.AugAssign r.1 r.2.1 r.2.2 p:=
 let ⟨c,h⟩:=dv h
 Stmt.AugAssign.elim (motive_2:=fun e=>∀c,FW e c=some r->∃p,e=.AugAssign r.1 r.2.1 r.2.2 p) e c (fun t o v p _ h=>by cases h;exact⟨p,rfl⟩) c h
noncomputable def FG(e:Stmt)(h:e.ctorIdx=11):Option (Expr×List Stmt×List Stmt):=Stmt.While.elim (motive_2:=fun _=>Option (Expr×List Stmt×List Stmt)) e h fun x ys zs p=>some (x,ys,zs)
def Kg(e:Stmt):Option (Expr×List Stmt×List Stmt):=if h:e.ctorIdx=11 then FG e h else none
theorem E2{e:Stmt}{r:Expr×List Stmt×List Stmt}(h:Kg e=some r):∃p,e=.While r.1 r.2.1 r.2.2 p:=
 let ⟨c,h⟩:=dv h
 Stmt.While.elim (motive_2:=fun e=>∀c,FG e c=some r->∃p,e=.While r.1 r.2.1 r.2.2 p) e c (fun x ys zs p _ h=>by cases h;exact⟨p,rfl⟩) c h
noncomputable def yj(e:Stmt)(h:e.ctorIdx=16):Option (Option Expr×Option Expr):=Stmt.Raise.elim (motive_2:=fun _=>Option (Option Expr×Option Expr)) e h fun x c p=>some (x,c)
def BV(e:Stmt):Option (Option Expr×Option Expr):=if h:e.ctorIdx=16 then yj e h else none
theorem AR{e:Stmt}{r:Option Expr×Option Expr}(h:BV e=some r):∃p,e=.Raise r.1 r.2 p:=
 let ⟨c,h⟩:=dv h
 Stmt.Raise.elim (motive_2:=fun e=>∀c,yj e c=some r->∃p,e=.Raise r.1 r.2 p) e c (fun x c p _ h=>by cases h;exact⟨p,rfl⟩) c h
noncomputable def FP(e:Stmt)(h:e.ctorIdx=17):Option (List Stmt×List ExceptHandler×List Stmt×List Stmt):=Stmt.Try.elim (motive_2:=fun _=>Option (List Stmt×List ExceptHandler×List Stmt×List Stmt)) e h fun b hs o f p=>some (b,hs,o,f)
def IJ(e:Stmt):Option (List Stmt×List ExceptHandler×List Stmt×List Stmt):=if h:e.ctorIdx=17 then FP e h else none
theorem DJ{e:Stmt}{r:List Stmt×List ExceptHandler×List Stmt×List Stmt}(h:IJ e=some r):∃p,e=.Try r.1 r.2.1 r.2.2.1 r.2.2.2 p:=
 let ⟨c,h⟩:=dv h
 Stmt.Try.elim (motive_2:=fun e=>∀c,FP e c=some r->∃p,e=.Try r.1 r.2.1 r.2.2.1 r.2.2.2 p) e c (fun b hs o f p _ h=>by cases h;exact⟨p,rfl⟩) c h
theorem vC:∀{gs:List (Str×V)},f∉gs.map (·.1)->dA f v gs=gs++[(f,v)]
 |[],_=>rfl
 |(k,x)::r,h=>by
  have h1:¬ k=f:=fun z=>h (by simp[z]);have h2:f∉r.map (·.1):=fun z=>h (by simp[z]);unfold dA;rw[if_neg h1,vC h2];rfl
def B1(K:W.Frag):Nat->List Str->TS
 |_,[]=>zW
 |j,p::ps=>DL (tX K j p) (B1 K (j+1) ps)
theorem wV{K:W.Frag}{C e dx:Addr}{D:Ends}{σ:L2.St}(c:XC K C)(h0:σ[0]?=some (some (.ref e))):∀(ps:List Str)(us:List V)(j:Nat)(gs:List (Str×V))(H:L2.Hp),us.length=ps.length->(∀i u,us[i]?=some u->σ[j+i]?=some (some u))->(∀p∈ps,bo K C p)->ps.Nodup->
  (∀p∈ps,p∉gs.map (·.1))->gs.length+ps.length<=1000->H e=some (gy C (some dx) e)->H dx=some (.xd gs)->dx≠e->D.nx σ (upd H dx (.xd (gs++ps.zip us)))->B1 K j ps D σ H
 |[],us,j,gs,H,hl,hs,hn,nd,ng,hz,he,hd,ne,q=>by
  show D.nx σ H;have:upd H dx (.xd (gs++([]:List Str).zip us))=H:=by
   funext b;unfold upd;by_cases z:b=dx
   .subst z;simp[hd]
   .simp[z]
  rw[this] at q;exact q
 |p::ps,[],j,gs,H,hl,_,_,_,_,_,_,_,_,_=>by cases hl
 |p::ps,u::us,j,gs,H,hl,hs,hn,nd,ng,hz,he,hd,ne,q=>by
  have np:=ng p (by simp);have nd':=mJ.mp nd;refine⟨e,u,C,h0,by simpa using hs 0 u rfl,c,hn p (by simp),.inr ⟨dx,gs,he,hd,by simp at hz;omega,?_⟩⟩;rw[vC np];refine wV c h0 ps us (j+1) (gs++[(p,u)]) _ (by simpa using hl) (fun i v hv=>by rw[show j+1+i=j+(i+1) by omega];exact hs (i+1) v (by simpa using hv)) (fun p' hp=>hn p' (by simp[hp])) nd'.2 (fun p' hp=>?_) (by simp at hz⊢;omega) (by rw[aq (aX ne)];exact he) aB ne ?_
  .have:=ng p' (by simp[hp]);simp only[List.map_append,n9,aR,gD,tK]
   rintro (z|z)
   .exact this z
   .subst z;exact nd'.1 hp
  .rw[yp];simpa using q
def mx(K:W.Frag)(fs:List Str):Sp:=fun vs H Q _=>∃e C us,vs=.ref e::us/\us.length=fs.length/\XC K C/\(∀f∈fs,bo K C f)/\H e=some (gy C none e)/\∀dx,H dx=none->dx≠e->Q .ak (upd (upd H dx (.xd (fs.zip us))) e (gy C (some dx) e))
theorem mx.len{K:W.Frag}{sf:Str}{fs:List Str}:∀vs H Q E,mx K fs vs H Q E->vs.length=(sf::fs).length:=fun vs H Q E Z=>Z.g fun e Z=>Z.g fun C Z=>Z.g fun us Z=>Z.g fun h1 Z=>Z.g fun h2 _=>by subst h1;simp[h2]
noncomputable def okN(x:Str):Bool:=!(x== ("__debug__" : Str))&&!(x== ("__classdict__" : Str))
def Jq(s:Stmt):Option (Str×Str×Str):=(zV s).bind fun r=>(dW r.1).bind fun t=>(j0 t).bind fun q=>(bu q.1).bind fun a=>(bu r.2.1).map fun y=>(a,q.2.1,y)
theorem EX(h:Jq s=some r):∃p1 p2 p3 p4,s=.Assign [.Attribute (.Name r.1 p1) r.2.1 p2] (.Name r.2.2 p3) p4:=by obtain⟨⟨ts,v,p4⟩,e1,h⟩:=dJ.mp h;obtain⟨t,e2,h⟩:=dJ.mp h;obtain⟨⟨w,f,p2⟩,e3,h⟩:=dJ.mp h;obtain⟨a,e4,h⟩:=dJ.mp h;obtain⟨y,e5,rfl⟩:=je.mp h;obtain⟨p1,z1⟩:=aL e4;obtain⟨p3,z2⟩:=aL e5;have z3:=iE e3;have z4:=bY e2;have z5:=qZ e1;dsimp only at z1 z2 z3 z4 z5⊢;exact⟨p1,p2,p3,p4,by rw[z5,z4,z3,z1,z2]⟩
def pH(sf:Str):List Str->List Stmt->Bool
 |[],ss=>ss.isEmpty
 |p::ps,ss=>(k7 ss).any fun r=>(Jq r.1).any fun q=>decide (q.1=sf)&&decide (q.2.1=p)&&decide (q.2.2=p)&&okN p&&pH sf ps r.2
theorem okN.d(h:okN x=true):(x== ("__debug__" : Str))=false/\(x== ("__classdict__" : Str))=false:=by unfold okN at h;simpa using h
section
variable {X:Cx}
theorem xC(h0:X.N[0]?=some sf)(v0:jH X.env.scope sf)(o0:okN sf=true):∀(ps:List Str)(ss:List Stmt)(j:Nat),pH sf ps ss=true->(∀i p,ps[i]?=some p->X.N[j+i]?=some p)->(∀p∈ps,jH X.env.scope p)->dU X ss (B1 X.K j ps)
 |[],ss,j,h,_,_=>by
  unfold pH at h;rw[br h];exact zk
 |p::ps,ss,j,h,hN,hv=>by
  unfold pH at h;replace h:=ay h;obtain⟨⟨s,r⟩,e1,h⟩:=h;obtain rfl:=cU e1;replace h:=ay h;obtain⟨⟨a,f,y⟩,e2,h⟩:=h;obtain⟨p1,p2,p3,p4,z⟩:=EX e2;dsimp only at z h⊢;simp only[av,aI] at h;obtain⟨⟨⟨⟨rfl,rfl⟩,rfl⟩,ho⟩,hr⟩:=h;rw[z];exact q8 (Qq h0 v0 (by simpa using hN 0 _ rfl) (hv _ (by simp)) (okN.d o0).1 (okN.d o0).2 (okN.d ho).1 (okN.d ho).2) (xC h0 v0 o0 ps r (j+1) hr (fun i q hq=>by rw[show j+1+i=j+(i+1) by omega];exact hN (i+1) q (by simpa using hq)) fun q hq=>hv q (by simp[hq]))
structure lT(K:W.Frag)(R f:Addr):Prop where
 ga:W.specialIn K (.ref R) "__getattribute__" = some (some (.builtin "type.__getattribute__"))
 rd:W.readsIn K R (.type "type")=true
 at_:W.findCls K (.ref R) (.type "type") "__init__" = some (.val (.ref f))
 kp:W.keepIn K (.ref f)=true
theorem Ih(B:lT X.K R f)(F:kK X.prog X.w X.K X.mg X.base CX k f fd ps sp)(hr:qx k X.A)(hg:Gl X x)(hm:X.mg x=some (.ref R))(hb:Binds X.K fd ps [])(hx:Passes CX X E)(ha:PA X (e::es) t)
  (hdb:(x== ("__debug__" : Str))=false) (hst:starEach (e::es) X.env=(false,eval e X.env)::starEach es X.env) (hpl:(backTo pos (starEach es X.env)).any (·.1)=false)
  (ht:eval (.Call (.Attribute (.Name x p) "__init__" apos) (e::es) [] pos) X.env=(do
   let ov <-eval (.Name x p) X.env
   standAt apos.atName
   let (f,first) <-holding [ov] (getMethod ov "__init__" pl)
   callWith pos f first (backTo pos (starEach (e::es) X.env)) (backToKw pos (keywordEach [] X.env)))):
  PE X (.Call (.Attribute (.Name x p) "__init__" apos) (e::es) [] pos) (AG sp [] E t):=by
 intro pins s σ H Q I h;refine vg (pl:=pl) (fZ I hg hm (W.method_cls I.cJ B.ga (W.cls_value I.cJ B.rd B.at_ rfl ?_)) hdb) ht;have I1:=I.tok (s.toks+1);refine lg (first:=[]) (h₀:=X.base) I.ok.mod.qh B.kp (az (ha pos pins _ σ H _ I1 h) fun us s2 Z=>Z.g4 fun vs H2 I2 r q2=>⟨I2.cJ,?_⟩) hst hpl;exact oS (us:=us) (vs:=vs) F hr hb .nil hx I2 r q2
end
def xQ(d:Stmt)(N:List Str):Bool:=match N with
 |sf::p::ps=>decide ((ai d).kind=.function)&&!(ai d).isCoroutine&&!(ai d).isGenerator&&decide N.Nodup&&N.all (fun x=>decide ((ai d).names.lookup x=some .local))&&(ai d).names.all (fun y=>decide (y.2≠.free))&&N.all okN&&decide (ps.length<=100)&&pH sf (p::ps) (bR d)
 |_=>false
section
variable {P:Program}{w:World}{K:W.Frag}{mg:Str->Option Value}{base:Heap}
theorem fV{N:List Str}{vs:List V}{i:Nat}{v:V}(h:vs[i]?=some v):(start N vs)[i]?=some (some v):=by unfold L2.start;have hi:i<vs.length:=(dE.mp h).1;rw[g9 (by simpa using hi),mZ,h];rfl
theorem vV{k:Nat}{x qual:Str}{st:Stmt}{f:Addr}{fd:FuncData}{sf p:Str}{ps:List Str}(F:rK K x qual st f fd)(h:xQ st (sf::p::ps)=true):kK P w K mg base (cO P w) (k+1) f fd (sf::p::ps) (mx K (p::ps)):=by
 unfold xQ at h;simp only[av,aI,kN,lP] at h;obtain⟨⟨⟨⟨⟨⟨⟨⟨h1,h2⟩,h3⟩,h4⟩,h5⟩,h6⟩,h7⟩,hz⟩,h8⟩:=h;have S:jY (sf::p::ps) (sf::p::ps) (ai st):=⟨h1,h2,h3,h4,Fu,fun y hy=>.inl (h5 y hy),h6⟩;obtain⟨oc,od,kV,doc,pm,an,cdv,ct,osl,rfl,lk,hcd⟩:=F.ex;refine Aj lk hcd S mx.len fun A outer s H vs Q E hr Z=>Z.g6 fun e C us e1 e2 c Z=>Z.g fun n Z=>Z.g fun he q=>⟨B1 K 1 (p::ps),?_,?_⟩
 .exact xC (X:=Ep (cO P w) P w K mg base (sf::p::ps) qual (ai st) f cdv A outer s H E) rfl (.inl (h5 sf (by simp))) (h7 sf (by simp)) (p::ps) _ 1 h8 (fun i q hq=>by rw[show 1+i=i+1 by omega];exact hq) fun q hq=>.inl (h5 q (di _ hq))
 .subst e1;cases us with
  |nil=>cases e2
  |cons u us=>
   have nd:=mJ.mp (mJ.mp h4).2;refine⟨e,u,C,fV rfl,fV rfl,c,n p (by simp),.inl ⟨he,fun dx z1 z2=>?_⟩⟩;refine wV (dx:=dx) c (fV rfl) ps us 2 [(p,u)] _ (by simpa using e2) (fun i v hv=>fV (by rw[show 2+i=i+2 by omega];simpa using hv)) (fun p' hp=>n p' (by simp[hp])) nd.2 (fun p' hp=>?_) (by simp;omega) aB (by rw[aq z2,aB]) z2 ?_
   .simp;intro z;subst z;exact nd.1 hp
   .have:=q dx z1 z2;rw[Cu z2];simpa using this
def Ld(s:Stmt):Option (Str×Str×Pos×Str×Str×Pos):=(uY s).bind fun e=>(vQ e).bind fun q=>(bu q.1).bind fun a=>(xI q.2.2.2.1).bind fun z=>(bu z.1).bind fun b=>(bu z.2).map fun c=>(a,q.2.1,q.2.2.1,b,c,q.2.2.2.2)
theorem EV(h:Ld s=some r):∃p1 p2 p3 p4,s=.Expr (.Call (.Attribute (.Name r.1 p1) r.2.1 r.2.2.1) [.Name r.2.2.2.1 p2,.Name r.2.2.2.2.1 p3] [] r.2.2.2.2.2) p4:=by obtain⟨e,e1,h⟩:=dJ.mp h;obtain⟨⟨v,m,ap,as,cp⟩,e2,h⟩:=dJ.mp h;obtain⟨a,e3,h⟩:=dJ.mp h;obtain⟨⟨x,y⟩,e4,h⟩:=dJ.mp h;obtain⟨b,e5,h⟩:=dJ.mp h;obtain⟨c,e6,rfl⟩:=je.mp h;obtain⟨p4,z1⟩:=oB e1;have z2:=gZ e2;obtain⟨p1,z3⟩:=aL e3;have z4:=j9 e4;obtain⟨p2,z5⟩:=aL e5;obtain⟨p3,z6⟩:=aL e6;dsimp only at z1 z2 z3 z4 z5 z6⊢;exact⟨p1,p2,p3,p4,by rw[z1,z2,z3,z4,z5,z6]⟩
def Bo(r:Str)(d:Stmt)(N:List Str):Bool:=match N with
 |sf::p::ps=>decide ((ai d).kind=.function)&&!(ai d).isCoroutine&&!(ai d).isGenerator&&decide N.Nodup&&N.all (fun x=>decide ((ai d).names.lookup x=some .local))&&(ai d).names.all (fun y=>decide (y.2≠.free))&&N.all okN&&decide (ps.length<=100)&&decide ((ai d).names.lookup r=some .globalImplicit)&&okN r&&
  ((k7 (bR d)).any fun t=>(Ld t.1).any fun q=>decide (q.1=r)&&decide (q.2.1=("__init__" : Str))&&decide (q.2.2.2.1=sf)&&decide (q.2.2.2.2.1=p)&&(q.2.2.1.endLine== q.2.2.2.2.2.line)&&pH sf ps t.2)
 |_=>false
theorem Fm{k:Nat}{x qual r:Str}{st:Stmt}{f g R:Addr}{fd fb:FuncData}{sf p sb pb:Str}{ps:List Str}(F:rK K x qual st f fd)(h:Bo r st (sf::p::ps)=true)(hm:mg r=some (.ref R))(B:lT K R g)(G:kK P w K mg base (cO P w) k g fb [sb,pb] (mx K [p]))(hb:Binds K fb [sb,pb] []):
  kK P w K mg base (cO P w) (k+1) f fd (sf::p::ps) (mx K (p::ps)):=by
 unfold Bo at h;simp only[av,aI,kN,lP] at h;obtain⟨⟨⟨⟨⟨⟨⟨⟨⟨⟨h1,h2⟩,h3⟩,h4⟩,h5⟩,h6⟩,h7⟩,hz⟩,hg⟩,hr0⟩,h8⟩:=h;have S:jY (sf::p::ps) (sf::p::ps) (ai st):=⟨h1,h2,h3,h4,Fu,fun y hy=>.inl (h5 y hy),h6⟩;obtain⟨oc,od,kV,doc,pm,an,cdv,ct,osl,rfl,lk,hcd⟩:=F.ex
 .replace h8:=ay h8;obtain⟨⟨s0,rest⟩,g1,h8⟩:=h8;replace h8:=ay h8;obtain⟨⟨a,m,ap,b,c,cp⟩,g2,h8⟩:=h8;obtain⟨p1,p2,p3,ep,g3⟩:=EV g2;have hbody:=cU g1;dsimp only at g3 hbody h8;rw[g3] at hbody;simp only[av,aI] at h8;obtain⟨⟨⟨⟨⟨rfl,rfl⟩,rfl⟩,rfl⟩,hl⟩,h9⟩:=h8;refine Aj lk hcd S mx.len fun A outer s H vs Q E hr Z=>Z.g6 fun e C us e1 e2 c' Z=>Z.g fun n Z=>Z.g fun he q=>⟨DL (Gj (AG (mx K [c]) [] E (nq (xE 0) (nq (xE 1) xP)))) (B1 K 2 ps),?_,?_⟩
  .rw[hbody];have v0:jH (ai st) b:=.inl (h5 b (by simp));have v1:jH (ai st) c:=.inl (h5 c (by simp));have ha:PA (Ep (cO P w) P w K mg base (b::c::ps) qual (ai st) f cdv A outer s H E) [.Name b p2,.Name c p3] (nq (xE 0) (nq (xE 1) xP)):=
    cE (lR rfl v0 (okN.d (h7 b (by simp))).1 (okN.d (h7 b (by simp))).2) (cE (lR rfl v1 (okN.d (h7 c (by simp))).1 (okN.d (h7 c (by simp))).2) dD rfl) rfl
   refine q8 (yD (Ih B G hr hg hm hb (Gs rfl rfl rfl rfl) ha (okN.d hr0).1 rfl rfl (og (apos:=ap) (pos:=cp) rfl rfl hl)) rfl) (xC (X:=Ep (cO P w) P w K mg base (b::c::ps) qual (ai st) f cdv A outer s H E) rfl v0 (h7 b (by simp)) ps _ 2 h9 (fun i q hq=>by rw[show 2+i=i+2 by omega];exact hq) fun q hq=>.inl (h5 q (di _ (di _ hq))))
  .subst e1;cases us with
   |nil=>cases e2
   |cons u us=>
    have nd:=mJ.mp (mJ.mp h4).2;refine⟨.ref e,fV rfl,u,fV rfl,e,C,[u],rfl,rfl,c',fun f hf=>n f (by simp at hf;simp[hf]),he,fun dx z1 z2=>?_⟩;refine wV (dx:=dx) c' (fV rfl) ps us 2 [(c,u)] _ (by simpa using e2) (fun i v hv=>fV (by rw[show 2+i=i+2 by omega];simpa using hv)) (fun p' hp=>n p' (by simp[hp])) nd.2 (fun p' hp=>?_) (by simp;omega) aB (by rw[aq z2,aB];rfl) z2 ?_
    .simp;intro z;subst z;exact nd.1 hp
    .have:=q dx z1 z2;rw[Cu z2];simpa using this
end
section
variable {prog:Program}{w:World}{A:Around}{R:Result->Shared->Prop}{E:aH}{h:Heap}{g:Array GenState}{d:Drawn}{t:Nat}{os:OsState}{M:Model}
variable {nm q:Str}{C N:Addr}{bs bm:List Value}{hdct:Bool}{sn:List Str}{sub:List Value}{ab:Bool}{col:Option Bool}{dd:Option Addr}{k0 k1 k2 k3 k5:Option Value}{Bn newId inN:String}{bmN:List Value}
structure jc(C:Addr)(bm:List Value)(Bn:String):Prop where
 b:(Value.ref C::bm).contains (.type Bn)=true
 e:(Value.ref C::bm).contains (.type "BaseException")=true
 a:(Value.ref C::bm).contains (.type "AttributeError")=false
 n:(Value.ref C::bm).contains (.type "NameError")=false
theorem yP{rest:List Value}{Q:Unit->Shared->Prop}(F:ExcBaseFacts Bn newId inN bmN)(m:jc C bm Bn)(hC:h.get? C=some (excClassObj nm q C N bs bm hdct sn sub ab col dd k0 k1 k2 k3 k5 newId))(hq:Q () ⟨h,g,d,t,os⟩):
  wpAny M A (checkBuiltinCall newId ⟨.ref C::rest,[]⟩) Q E ⟨h,g,d,t,os⟩:=by
 have z:=F.noStar;have c:=m.b;simp only[checkBuiltinCall,F.newKind,F.newSplit,F.newRow];repeat (first|refine gW hC ?_|(refine pK hC ?_;rw[c])|refine wpAny_staticBase_exc hC ?_|refine Af hC ?_|simp only[bne_self_eq_false,II,kX]|wp_step)
 exact hq
noncomputable abbrev fu(us:List Value):Obj:={cls:=.type "tuple",data:=.seq us.toArray}
noncomputable abbrev dF(C t:Addr):Obj:={cls:=.ref C,data:=.fields #[.ref t,.none,.none,.none,.bool false,.none]}
theorem Gy{rest:List Value}(F:ExcBaseFacts Bn newId inN bmN)(m:jc C bm Bn)(hC:h.get? C=some (excClassObj nm q C N bs bm hdct sn sub ab col dd k0 k1 k2 k3 k5 newId))
  (hq:R (.ok (.ret (.ref (h.objs.size+1)))) ⟨(h.push (fu rest)).push (dF C h.objs.size),g,d,t,os⟩) (hr:rest.length<=sizeLine):codeAny (model prog w) A (.builtin newId ⟨.ref C::rest,[]⟩) R ⟨h,g,d,t,os⟩:=by
 have z:=F.ends;have cb:=m.b;have ca:=m.a;have cn:=m.n;refine codeAny_builtinAt F.entry ?_;unfold Builtin.«BaseException.__new__»;refine PySem.wpAt_bind ?_;show PySem.wpAt _ _ _ (stack >>= _) _ _ _;refine PySem.wpAt_bind (PySem.wpAt_stack fun p below=>PySem.wpAt_of_wpAny ?_)
 wp_walk
 refine PySem.wpAt_of_wpAny ?_;rw[F.owner];repeat (first|with_reducible refine wpAny_madeHere_exc F.canon hC ?_|with_reducible refine gW hC ?_|(with_reducible refine pK hC ?_;first|rw[cb]|rw[ca]|rw[cn])|wp_step)
 show R _ _;rw[mL];exact hq
theorem Mj{K:W.Frag}{rest:List Value}{f:Addr}{Q:Fin->Shared->Prop}(X:K.In h)(F:ExcBaseFacts Bn newId inN bmN)(m:jc C bm Bn)(hC:h.get? C=some (excClassObj nm q C N bs bm hdct sn sub ab col dd k0 k1 k2 k3 k5 newId))
  (hi:W.findIn K (.ref C) "__init__" = some (some (.ref f))) (hf:W.isFn K (.ref f)=true) (hr:rest.length<=sizeLine)
  (hq:wpAny (model prog w) A (call (.ref f) (.ref (h.objs.size+1)::rest)) (fun r s'=>r=.none/\Q (.done (.ret (.ref (h.objs.size+1)))) s') E ⟨(h.push (fu rest)).push (dF C h.objs.size),g,d,t,os⟩):
  wpAny (model prog w) A (Builtin.«type.__call__» ⟨.ref C::rest,[]⟩) Q E ⟨h,g,d,t,os⟩:=by
 repeat (first|with_reducible refine gW hC ?_|with_reducible refine Af hC ?_|wp_step)
 refine codeAny_call_builtin_code (zZ _ F.quiet) (yP F m hC ?_);refine Gy F m hC ?_ hr;show wpAny _ _ _ _ _ _;have kp:∀b o,h.get? b=some o->((h.push (fu rest)).push (dF C h.objs.size)).get? b=some o:=fun b o e=>bj _ (bj _ e);have hC1:=kp _ _ hC;have X1:K.In ((h.push (fu rest)).push (dF C h.objs.size)):=X.keeps kp;have he:((h.push (fu rest)).push (dF C h.objs.size)).get? (h.objs.size+1)=some (dF C h.objs.size):=by
  have:=cY (h.push (fu rest)) (o:=dF C h.objs.size) rfl
  rwa [mL] at this
 have cC:(Value.ref C::bm).contains (.ref C)=true:=by simp
 unfold isInstance;repeat (first|with_reducible refine gW he ?_|(with_reducible refine pK hC1 ?_;rw[cC])|wp_step)
 show wpAny _ _ (typeLookup (.ref C) _) _ _ _;refine (pz X1 hi).at ?_;refine fF (af ((W.bind_fn X1 _ (ji.mp hf)).at ?_));refine af (eX hq (fun r s' z=>?_) fun _ _ x=>x);obtain⟨rfl,z⟩:=z
 wp_walk
 exact z
theorem x_call{K:W.Frag}{rest:List Value}{f:Addr}{Q:aH}(X:K.In h)(F:ExcBaseFacts Bn newId inN bmN)(m:jc C bm Bn)(hC:h.get? C=some (excClassObj nm q C N bs bm hdct sn sub ab col dd k0 k1 k2 k3 k5 newId))
  (hi:W.findIn K (.ref C) "__init__" = some (some (.ref f))) (hf:W.isFn K (.ref f)=true) (hr:rest.length<=sizeLine)
  (hq:wpAny (model prog w) (A.under (.builtin "type.__call__" ⟨.ref C::rest,[]⟩)) (call (.ref f) (.ref (h.objs.size+1)::rest)) (fun r s'=>r=.none/\Q (.ref (h.objs.size+1)) s') E ⟨(h.push (fu rest)).push (dF C h.objs.size),g,d,t,os⟩):
  wpAny (model prog w) A (call (.ref C) rest) Q E ⟨h,g,d,t,os⟩:=by
 have f1:=tc_lookup;have f2:=tc_bind (.ref C);have hT:(⟨h,g,d,t,os⟩:Shared).TypeIs (.ref C) "type" := ⟨_,hC,rfl⟩;refine k8 (codeAny_of_tree ?_);show wpAny _ _ (callAny (.ref C) _) _ _ _;repeat (any_goals (first|assumption|with_reducible refine gW hC ?_|wp_step))
 refine⟨rfl,?_⟩;exact codeAny_call_builtin_at (zZ _ (by decide+kernel)) entry_typeCall (wpAny_check_type_call_sub hC (Mj X F m hC hi hf hr hq))
theorem KA{e:Addr}{oe:Obj}{rest:List Value}{Q:Unit->Shared->Prop}(F:ExcBaseFacts Bn newId inN bmN)(m:jc C bm Bn)(hC:h.get? C=some (excClassObj nm q C N bs bm hdct sn sub ab col dd k0 k1 k2 k3 k5 newId))(he:h.get? e=some oe)(hcls:oe.cls=.ref C)(hq:Q () ⟨h,g,d,t,os⟩):
  wpAny M A (checkBuiltinCall inN ⟨.ref e::rest,[]⟩) Q E ⟨h,g,d,t,os⟩:=by
 have cb:=m.b;have z:=F.noStar;simp only[checkBuiltinCall,F.initKind,F.initSplit,F.initRow];repeat (first|(with_reducible refine gW he ?_;rw[hcls])|with_reducible refine gW hC ?_|(with_reducible refine pK hC ?_;rw[cb])|wp_step)
 refine wpAny_onRaise ?_;rw[show ∀(a b:String)(n:Nat),Bind.check ⟨.positional, "*",Bn,.self,[⟨"args",.varPos,false⟩]⟩ a b n (List.map (fun x=>x.fst) ({pos:=Value.ref e::rest}:Args).kw)=pure () from fun a b n=>check_star_args _ _ _ _ _ _];exact aj hq
theorem HI{K:W.Frag}{rest:List Value}{Q:Fin->Shared->Prop}(X:K.In h)(F:ExcBaseFacts Bn newId inN bmN)(m:jc C bm Bn)(hC:h.get? C=some (excClassObj nm q C N bs bm hdct sn sub ab col dd k0 k1 k2 k3 k5 newId))
  (hi:W.findIn K (.ref C) "__init__" = some (some (.builtin inN))) (hr:rest.length<=sizeLine)
  (hq:∀h',(∀b o,h.get? b=some o->h'.get? b=some o)->(∃t,h'.get? (h.objs.size+1)=some (dF C t))->Q (.done (.ret (.ref (h.objs.size+1)))) ⟨h',g,d,t,os⟩):
  wpAny (model prog w) A (Builtin.«type.__call__» ⟨.ref C::rest,[]⟩) Q E ⟨h,g,d,t,os⟩:=by
 repeat (first|with_reducible refine gW hC ?_|with_reducible refine Af hC ?_|wp_step)
 refine codeAny_call_builtin_code (zZ _ F.quiet) (yP F m hC ?_);refine Gy F m hC ?_ hr;show wpAny _ _ _ _ _ _;have kp:∀b o,h.get? b=some o->((h.push (fu rest)).push (dF C h.objs.size)).get? b=some o:=fun b o e=>bj _ (bj _ e);have hC1:=kp _ _ hC;have X1:K.In ((h.push (fu rest)).push (dF C h.objs.size)):=X.keeps kp;have he:((h.push (fu rest)).push (dF C h.objs.size)).get? (h.objs.size+1)=some (dF C h.objs.size):=by
  have:=cY (h.push (fu rest)) (o:=dF C h.objs.size) rfl
  rwa [mL] at this
 have cC:(Value.ref C::bm).contains (.ref C)=true:=by simp
 unfold isInstance;repeat (first|with_reducible refine gW he ?_|(with_reducible refine pK hC1 ?_;rw[cC])|wp_step)
 show wpAny _ _ (typeLookup (.ref C) _) _ _ _;refine (pz X1 hi).at ?_;refine fF (af (wpAny_of_eq (F.init.bind _) ?_));refine af (k8 (AV F.init.plain F.initEntry (KA F m hC1 he rfl ?_)))
 wp_walk
 refine hq _ (fun b o hb=>?_) ⟨h.objs.size+2,?_⟩
 .rw[gG _ _ (nV (Am (aY hb)))];exact bj _ (kp _ _ hb)
 .rw[lF _ (bj _ he) rfl];simp only[mL];rfl
theorem GS{K:W.Frag}{rest:List Value}{Q:aH}(X:K.In h)(F:ExcBaseFacts Bn newId inN bmN)(m:jc C bm Bn)(hC:h.get? C=some (excClassObj nm q C N bs bm hdct sn sub ab col dd k0 k1 k2 k3 k5 newId))
  (hi:W.findIn K (.ref C) "__init__" = some (some (.builtin inN))) (hr:rest.length<=sizeLine)
  (hq:∀h',(∀b o,h.get? b=some o->h'.get? b=some o)->(∃t,h'.get? (h.objs.size+1)=some (dF C t))->Q (.ref (h.objs.size+1)) ⟨h',g,d,t,os⟩):
  wpAny (model prog w) A (call (.ref C) rest) Q E ⟨h,g,d,t,os⟩:=by
 have f1:=tc_lookup;have f2:=tc_bind (.ref C);have hT:(⟨h,g,d,t,os⟩:Shared).TypeIs (.ref C) "type" := ⟨_,hC,rfl⟩;refine k8 (codeAny_of_tree ?_);show wpAny _ _ (callAny (.ref C) _) _ _ _;repeat (any_goals (first|assumption|with_reducible refine gW hC ?_|wp_step))
 refine⟨rfl,?_⟩;exact codeAny_call_builtin_at (zZ _ (by decide+kernel)) entry_typeCall (wpAny_check_type_call_sub hC (HI X F m hC hi hr hq))
theorem Bz{env:Env}{s:Shared}{x:Sem Value}{Q:Flow->Shared->Prop}(m:jc C bm Bn)(hh:A.handled=none)
  (h:wpAny M A x (fun v s1=>∃e oe vs,v=.ref e/\s1.heap.get? C=some (excClassObj nm q C N bs bm hdct sn sub ab col dd k0 k1 k2 k3 k5 newId)/\s1.heap.get? e=some oe/\oe.cls=.ref C/\oe.data=.fields vs/\vs[1]?=some .none/\E (.ref e) s1) E s):wpAny M A (raiseStmt env (some x) none) Q E s:=by
 have cB:=m.e;unfold raiseStmt;refine af (eX h (fun v s1 z=>?_) fun _ _ x=>x);obtain⟨e,⟨oc,od,oda,osl⟩,vs,rfl,hC,he,hc,hd,h1,hE⟩:=z;simp only at hc hd;subst hc hd;obtain⟨hp,g,d,tk,os⟩:=s1;repeat (first|with_reducible refine gW he ?_|with_reducible refine gW hC ?_|(with_reducible refine pK hC ?_;rw[cB])|wp_step)
 rw[h1];refine aj ?_;rw[if_neg (by decide)];exact aj (wpAny_raiseNew_none hh hE)
end
structure vR(K:W.Frag)(C f:Addr):Prop where
 obj:∃(nm q:Str) (N:Addr) (bs bm:List Value) (hdct:Bool) (sn:List Str) (sub:List Value) (ab:Bool) (col:Option Bool) (dd:Option Addr) (k0 k1 k2 k3 k5:Option Value),
  K.lookup C=some (excClassObj nm q C N bs bm hdct sn sub ab col dd k0 k1 k2 k3 k5 "ValueError.__new__")/\jc C bm "ValueError"
 init:W.findIn K (.ref C) "__init__" = some (some (.ref f))
 fn:W.isFn K (.ref f)=true
 kp:W.keepIn K (.ref C)=true
structure wg(K:W.Frag)(C:Addr):Prop where
 obj:∃(nm q:Str) (N:Addr) (bs bm:List Value) (hdct:Bool) (sn:List Str) (sub:List Value) (ab:Bool) (col:Option Bool) (dd:Option Addr) (k0 k1 k2 k3 k5:Option Value),
  K.lookup C=some (excClassObj nm q C N bs bm hdct sn sub ab col dd k0 k1 k2 k3 k5 "ValueError.__new__")/\jc C bm "ValueError"
 init:W.findIn K (.ref C) "__init__" = some (some (.builtin "ValueError.__init__"))
 kp:W.keepIn K (.ref C)=true
section
variable {X:Cx}{pins:aJ}{σ:L2.St}{H:L2.Hp}{s:Shared}{C f:Addr}{E:XK}
theorem M7{k:Nat}{fd:FuncData}{ps fs:List Str}{us:List Value}{vs:List V}{Q:aH}(M:vR X.K C f)(c:XC X.K C)(n:∀g∈fs,bo X.K C g)(F:kK X.prog X.w X.K X.mg X.base (cO X.prog X.w) k f fd ps (mx X.K fs))(hr:qx (k+1) X.A)(hb:Binds X.K fd ps [])(I:Inv X pins σ H s)(r:Vals vs us)(hl:vs.length=fs.length)(hz:vs.length<=1000)
  (h:∀e dx s' oe ws,H e=none->H dx=none->dx≠e->Fly0 X.prog X.w (bF X.stack) H s e C (some dx) (upd (upd H dx (.xd (fs.zip vs))) e (gK C (some dx) e)) s'->s'.heap.get? e=some oe->oe.cls=.ref C->oe.data=.fields ws->ws[1]?=some .none->Q (.ref e) s'):
  wpAny (model X.prog X.w) X.A (call (.ref C) us) Q X.xe s:=by
 obtain⟨nm,q,N,bs,bm,hdct,sn,sub,ab,col,dd,k0,k1,k2,k3,k5,lk,mo⟩:=M.obj;obtain⟨hp,g,d,t,os⟩:=s;have hus:us.length=fs.length:=r.length.symm.trans hl;have kp:∀b o,hp.get? b=some o->((hp.push (fu us)).push (dF C hp.objs.size)).get? b=some o:=fun b o e=>bj _ (bj _ e);have he:((hp.push (fu us)).push (dF C hp.objs.size)).get? (hp.objs.size+1)=some (dF C hp.objs.size):=by
  have:=cY (hp.push (fu us)) (o:=dF C hp.objs.size) rfl
  rwa [mL] at this
 have hf:H (hp.objs.size+1)=none:=I.ao.fresh (i6 _);have ok:bM X.prog X.w (upd H (hp.objs.size+1) (gy C none (hp.objs.size+1))) ((hp.push (fu us)).push (dF C hp.objs.size)) (hp.objs.size+1) (gy C none (hp.objs.size+1)):=gy.ok he rfl rfl rfl rfl rfl;have I2:Inv X pins σ (upd H (hp.objs.size+1) (gy C none (hp.objs.size+1))) ⟨(hp.push (fu us)).push (dF C hp.objs.size),g,d,t,os⟩:=I.laid (a:=hp.objs.size+1) (o:=gy C none (hp.objs.size+1)) (h':=(hp.push (fu us)).push (dF C hp.objs.size)) (t':=t) kp (i6 _) ok;have Bw:Un (bF X.stack) [] H (upd H (hp.objs.size+1) (gy C none (hp.objs.size+1))) hp ((hp.push (fu us)).push (dF C hp.objs.size)):=Un.laid kp (i6 _) hf;refine x_call I.cJ PySem.F.excBase_ValueError mo (I.cJ _ _ lk) M.init M.fn (by rw[hus,<-hl,eO];omega) ?_;have r2:Vals (V.ref (hp.objs.size+1)::vs) (Value.ref (hp.objs.size+1)::us):=.cons rfl r;have hq:mx X.K fs (V.ref (hp.objs.size+1)::vs) (upd H (hp.objs.size+1) (gy C none (hp.objs.size+1))) (fun v H3=>v=.ak/\∃dx,H dx=none/\dx≠hp.objs.size+1/\H3=upd (upd H dx (.xd (fs.zip vs))) (hp.objs.size+1) (gy C (some dx) (hp.objs.size+1))) E0:=
  ⟨_,C,vs,rfl,hl,c,n,aB,fun dx z1 z2=>⟨rfl,dx,by rw[aq z2] at z1;exact z1,z2,D0 z2⟩⟩
 have hln:(Value.ref (hp.objs.size+1)::us++[]).length=ps.length:=by have e:=r2.length;rw[F.len _ _ _ _ hq] at e;rw[hJ];exact e.symm
 refine k8 (lh (F.run _ X.stack _ _ ⟨Value.ref (hp.objs.size+1)::us,[]⟩ (Value.ref (hp.objs.size+1)::us) _ _ E0 (hr.make C us []) (I2.AQ.make C us []) (by have:=hb _ (Value.ref (hp.objs.size+1)::us) I2.cJ hln;rwa [hJ] at this) r2 hq) fun rr s' hq'=>?_);cases rr with
 |error e=>exact (cO.never _ _ _ _ _ hq').elim
 |ok fl=>
  cases fl with
  |next=>exact False.elim hq'
  |brk=>exact False.elim hq'
  |cont=>exact False.elim hq'
  |ret u=>
   obtain⟨v,H3,os3,bare3,un3,hok3,rv,ev,dx,z1,z2,e3⟩:=hq';subst ev;refine⟨rv,?_⟩;have t3:H3 (hp.objs.size+1)=some (gy C (some dx) (hp.objs.size+1)):=by rw[e3,aB]
   obtain⟨⟨oe,ws,a1,a2,a3,a4,a5,a6⟩,_,_⟩:=hok3 _ _ t3;have h4:upd (upd H dx (.xd (fs.zip vs))) (hp.objs.size+1) (gK C (some dx) (hp.objs.size+1))=upd H3 (hp.objs.size+1) (gK C (some dx) (hp.objs.size+1)):=by rw[e3,yp]
   have un:=Bw.trans un3;have nx:∀b u,H3 b=some u->(∀φ,u≠.ext φ)->b≠hp.objs.size+1:=fun b u q n z=>by rw[z,t3] at q;cases q;exact n _ rfl
   refine h _ dx s' oe ws hf z1 z2 ⟨os3,bare3,?_,?_,aB,D6 (i6 _)⟩ a1 a2 a4 a5
   .rw[h4];refine⟨un.keep,un.slot,fun b o q n hx=>?_,un.there,fun b xs q=>?_,fun b o u q=>?_,fun b ps q=>?_⟩
    .rw[aq (bT (Am (aY q)))];exact un.free b o q n hx
    .have:=un.fO b xs q;rw[aq (nx b _ this fun _ z=>nomatch z)];exact this
    .have:=un.ft b o u q;rw[aq (nx b _ this fun _ z=>nomatch z)];exact this
    .obtain⟨m,this⟩:=un.fR b ps q;exact⟨m,by rw[aq (nx b _ this fun _ z=>nomatch z)];exact this⟩
   .rw[h4];intro a o q;by_cases z:a=hp.objs.size+1
    .subst z;rw[aB] at q;cases q;exact⟨⟨oe,ws,a1,a2,a3,a4,a6⟩,⟨oe,a1⟩,fun h1 h2 ⟨o,vs,a,b⟩ k=>⟨o,vs,k o a,b⟩⟩
    .rw[aq z] at q;refine (hok3 a o q).fq (fun b u _ r=>r) (fun b hb=>?_) fun b xs hb=>?_
     .rw[aq (nx b _ hb fun _ z=>nomatch z)];exact hb
     .rw[aq (nx b _ hb fun _ z=>nomatch z)];exact hb
def Lo(C:Addr)(fs:List Str)(E:XK)(t:TA):TS:=fun _ σ H=>t σ H fun vs H1=>vs.length=fs.length/\∀e dx,H1 e=none->H1 dx=none->dx≠e->E (.ref e) none (upd (upd H1 dx (.xd (fs.zip vs))) e (gK C (some dx) e))
theorem D4{k:Nat}{fd:FuncData}{ps fs:List Str}{x:Str}{np cpos pos:Pos}{e:Expr}{es:List Expr}{t:TA}(hx:X.ex=[])(hs:X.stack=X.env::X.outer)(hfm:X.env.frame=some X.env.locals)(hxe:X.xe=nB X E)
  (M:vR X.K C f) (c:XC X.K C) (n:∀g∈fs,bo X.K C g) (hz:fs.length<=1000) (F:kK X.prog X.w X.K X.mg X.base (cO X.prog X.w) k f fd ps (mx X.K fs)) (hr:qx (k+1) X.A) (hg:Gl X x) (hm:X.mg x=some (.ref C)) (hb:Binds X.K fd ps [])
  (ha:PA X (e::es) t) (hdb:(x== ("__debug__" : Str))=false) (hst:starEach (e::es) X.env=(false,eval e X.env)::starEach es X.env) (hpl:(backTo cpos (starEach es X.env)).any (·.1)=false):
  PS X (.Raise (some (.Call (.Name x np) (e::es) [] cpos)) none pos) (Lo C fs E t):=by
 intro pins s σ H D I h;obtain⟨nm,q,N,bs,bm,hdct,sn,sub,ab,col,dd,k0,k1,k2,k3,k5,lk,mo⟩:=id M.obj;have key:wpAny (model X.prog X.w) X.A (eval (.Call (.Name x np) (e::es) [] cpos) X.env) (fun v s1=>∃e oe vs,v=.ref e/\s1.heap.get? C=some (excClassObj nm q C N bs bm hdct sn sub ab col dd k0 k1 k2 k3 k5 "ValueError.__new__")/\s1.heap.get? e=some oe/\oe.cls=.ref C/\oe.data=.fields vs/\vs[1]?=some .none/\X.xe (.ref e) s1) X.xe s:=by refine mP (fZ I hg hm ?_ hdb);refine lg (h₀:=X.base) I.ok.mod.qh M.kp (az (ha cpos pins s σ H _ I h) fun us s1 ⟨vs,H1,I1,r,q1,q2⟩=>⟨I1.cJ,?_⟩) hst hpl;refine M7 M c n F hr hb I1 r q1 (by omega) fun ea dx s2 oe ws z1 z2 z3 F2 a1 a2 a3 a4=>⟨ea,oe,ws,rfl,?_,a1,a2,a3,a4,Dd hx hs hfm hxe I1 F2 a1 a3 a4 (q2 ea dx z1 z2 z3)⟩;exact (F2.inv I1).cJ _ _ lk
 rw[arm_exec_Raise];exact af (mD (Bz mo hr.hd (af (eX key (fun v s1 z=>af (mD (aj z))) fun _ _ z=>z))))
theorem JS{us:List Value}{Q:aH}(M:wg X.K C)(I:Inv X pins σ H s)(hz:us.length<=1000)
  (h:∀e s' oe ws,H e=none->Fly0 X.prog X.w (bF X.stack) H s e C none (upd H e (gK C none e)) s'->s'.heap.get? e=some oe->oe.cls=.ref C->oe.data=.fields ws->ws[1]?=some .none->Q (.ref e) s'):
  wpAny (model X.prog X.w) X.A (call (.ref C) us) Q X.xe s:=by
 obtain⟨nm,q,N,bs,bm,hdct,sn,sub,ab,col,dd,k0,k1,k2,k3,k5,lk,mo⟩:=M.obj;obtain⟨hp,g,d,t,os⟩:=s;refine GS I.cJ PySem.F.excBase_ValueError mo (I.cJ _ _ lk) M.init (by rw[eO];omega) fun h' kp ⟨t',he⟩=>?_;have hf:H (hp.objs.size+1)=none:=I.ao.fresh (i6 _);have ok:bM X.prog X.w (upd H (hp.objs.size+1) (gK C none (hp.objs.size+1))) h' (hp.objs.size+1) (gK C none (hp.objs.size+1)):=⟨⟨_,_,he,rfl,rfl,rfl,rfl⟩,⟨_,he⟩,fun h1 h2 ⟨o,vs,a,b⟩ k=>⟨o,vs,k o a,b⟩⟩;have I2:Inv X pins σ (upd H (hp.objs.size+1) (gK C none (hp.objs.size+1))) ⟨h',g,d,t,os⟩:=I.laid (a:=hp.objs.size+1) (o:=gK C none (hp.objs.size+1)) (h':=h') (t':=t) kp (i6 _) ok;exact h _ _ _ _ hf ⟨rfl,I2.bare,Un.laid kp (i6 _) hf,I2.ao,aB,D6 (i6 _)⟩ he rfl rfl rfl
def G7(C:Addr)(E:XK)(t:TA):TS:=fun _ σ H=>t σ H fun vs H1=>vs.length<=1000/\∀e,H1 e=none->E (.ref e) none (upd H1 e (gK C none e))
theorem BP{x:Str}{np cpos pos:Pos}{e:Expr}{es:List Expr}{t:TA}(hx:X.ex=[])(hs:X.stack=X.env::X.outer)(hfm:X.env.frame=some X.env.locals)(hxe:X.xe=nB X E)
  (M:wg X.K C) (cal:X.calm=true) (hg:Gl X x) (hm:X.mg x=some (.ref C))
  (ha:PA X (e::es) t) (hdb:(x== ("__debug__" : Str))=false) (hst:starEach (e::es) X.env=(false,eval e X.env)::starEach es X.env) (hpl:(backTo cpos (starEach es X.env)).any (·.1)=false):
  PS X (.Raise (some (.Call (.Name x np) (e::es) [] cpos)) none pos) (G7 C E t):=by
 intro pins s σ H D I h;obtain⟨nm,q,N,bs,bm,hdct,sn,sub,ab,col,dd,k0,k1,k2,k3,k5,lk,mo⟩:=id M.obj;have key:wpAny (model X.prog X.w) X.A (eval (.Call (.Name x np) (e::es) [] cpos) X.env) (fun v s1=>∃e oe vs,v=.ref e/\s1.heap.get? C=some (excClassObj nm q C N bs bm hdct sn sub ab col dd k0 k1 k2 k3 k5 "ValueError.__new__")/\s1.heap.get? e=some oe/\oe.cls=.ref C/\oe.data=.fields vs/\vs[1]?=some .none/\X.xe (.ref e) s1) X.xe s:=by refine mP (fZ I hg hm ?_ hdb);refine lg (h₀:=X.base) I.ok.mod.qh M.kp (az (ha cpos pins s σ H _ I h) fun us s1 ⟨vs,H1,I1,r,q1,q2⟩=>⟨I1.cJ,?_⟩) hst hpl;refine JS M I1 (by rw[gE,<-r.length];exact q1) fun ea s2 oe ws z1 F2 a1 a2 a3 a4=>⟨ea,oe,ws,rfl,?_,a1,a2,a3,a4,Dd hx hs hfm hxe I1 F2 a1 a3 a4 (q2 ea z1)⟩;exact (F2.inv I1).cJ _ _ lk
 rw[arm_exec_Raise];exact af (mD (Bz mo (I.ok.hd cal) (af (eX key (fun v s1 z=>af (mD (aj z))) fun _ _ z=>z))))
end
noncomputable abbrev hX(X:Cx)(v:Value):Cx:={X with A:=X.A.mark (some v),calm:=false,xe:=fun _ _=>False}
section
variable {X:Cx}{pins:aJ}{σ:L2.St}{H:L2.Hp}{s:Shared}
theorem Inv.mark(I:Inv X pins σ H s)(v:Value):Inv (hX X v) pins σ H s:=
 ⟨⟨I.ok.mod,I.ok.kind,I.ok.glob,I.ok.blt,I.ok.above,I.ok.inj,I.ok.has,I.ok.si,fun z=>(nomatch z),I.ok.frames,I.ok.uK,I.ok.yV,I.ok.bs,I.ok.mr,I.ok.mX,I.ok.nW,I.ok.gH,I.ok.oy⟩,I.os,I.bare,I.base,I.loc,I.cell,I.free,I.eD,I.pin,I.ao,I.len⟩
theorem Inv.unmark{v:Value}(I:Inv (hX X v) pins σ H s)(hd:X.calm=true->X.A.handled=none):Inv X pins σ H s:=
 ⟨⟨I.ok.mod,I.ok.kind,I.ok.glob,I.ok.blt,I.ok.above,I.ok.inj,I.ok.has,I.ok.si,hd,I.ok.frames,I.ok.uK,I.ok.yV,I.ok.bs,I.ok.mr,I.ok.mX,I.ok.nW,I.ok.gH,I.ok.oy⟩,I.os,I.bare,I.base,I.loc,I.cell,I.free,I.eD,I.pin,I.ao,I.len⟩
def Sb(K:W.Frag)(j:Nat)(f:Str):TE:=fun σ H Q=>∃e C dx gs v,σ[j]?=some (some (.ref e))/\XC K C/\bo K C f/\H e=some (gK C (some dx) e)/\H dx=some (.xd gs)/\gs.lookup f=some v/\Q v H
theorem MP{y f:Str}{p1 p2:Pos}{j:Nat}(hj:X.N[j]?=some y)(vj:jH X.env.scope y)(oj:okN y=true):PE X (.Attribute (.Name y p1) f p2) (Sb X.K j f):=by intro pins s σ H Q I ⟨e,C,dx,gs,v,q0,c,n,he,hd,hl,q⟩;refine yK rfl (az (lR hj vj (okN.d oj).1 (okN.d oj).2 pins s σ H (fun x' H1=>x'=.ref e/\H1=H) I ⟨_,q0,rfl,rfl⟩) fun ov s1 ⟨x',H1,I1,rx,e1,e2⟩=>?_);subst e1 e2;obtain rfl:ov=Value.ref e:=rx;obtain⟨⟨o,vs,a1,a2,a3,a4,_⟩,_,_⟩:=I1.ao e _ he;obtain⟨mA,n1,r1⟩:=I1.ao dx _ hd;obtain⟨od,ho,lk⟩:=uy n1;obtain⟨u,hu,ru⟩:=dY.some_of (v:=v) (o:=mA f) (by rw[<-hl];exact r1 f);exact MV I1.cJ ⟨a1,a2,by unfold W.notCls;rw[a4],by rw[a3];exact ho⟩ c n (by rw[lk,hu]) (ui ru) ⟨v,_,I1.tok _,ru,q⟩
def Jw(e:Expr):Option (Str×Str):=(j0 e).bind fun q=>(bu q.1).map fun a=>(a,q.2.1)
theorem Ea{e:Expr}{r:Str×Str}(h:Jw e=some r):∃p1 p2,e=.Attribute (.Name r.1 p1) r.2 p2:=by obtain⟨⟨v,g,p2⟩,e1,h⟩:=dJ.mp h;obtain⟨a,e2,rfl⟩:=je.mp h;obtain⟨p1,z⟩:=aL e2;have z1:=iE e1;dsimp only at z z1⊢;exact⟨p1,p2,by rw[z1,z]⟩
theorem lj{n:Str}{j:Nat}{pos:Pos}{M:Model}{A:Around}{E:aH}{Q:Unit->Shared->Prop}(I:Inv X pins σ H s)(hN:X.N.Nodup)(hj:X.N[j]?=some n)(hl:X.env.scope.names.lookup n=some .local)
  (h:∀s',Inv X pins (σ.set j none) H s'->Q () s'):wpAny M A (do bindName X.env n .none;unbindBehindTheSuite X.env n pos) Q E s:=by
 have hp:(X.env.scope.kind== .class || (X.env.scope.kind== .module&&X.env.locals != X.env.globals))=false:=by rw[I.ok.kind];rfl
 have hk:X.env.kindOf n=some .local:=hl;refine af (wpAny_bindName (iR (v:=.ak) I hN hj (.inl hl) rfl (fun s1 I1=>?_) (.inr hl)));obtain⟨m,hn,lo⟩:=I1.loc;have jl:j<σ.length:=by rw[I.len];exact (dE.mp hj).1
 have hm:∃u,m n=some u:=by
  obtain⟨u,_,l⟩:=lo j n .ak hj (by rw[iu jl]) (.inl hl);rcases l with ⟨_,z⟩|⟨z,_⟩
  .exact⟨u,z⟩
  .rw[hk] at z;rcases z with z|z<;>cases z
 obtain⟨u,hm⟩:=hm;unfold unbindBehindTheSuite;refine wpAny_onRaise ?_;unfold unbindName;refine af (wpAny_point (af ?_));unfold deleteName;simp only[hk,hp];rw[if_neg (by decide)];refine af (wpAny_nsDel_keeps hn fun h2 v hn2 hs=>?_);rw[hm];simp only[Option.isSome_some,Bool.not_true,II,kX,gY];refine aj (wpAny_point (h _ ?_));have above:=I1.ok.above;have ne:∀b o,X.aQ.heap.get? b=some o->b≠X.env.locals:=fun b o e=>bT (cM (aY e) above);have qu:∀y c,X.env.cells.lookup y=some c->c≠X.env.locals:=fun y c e z=>by
  obtain⟨w',oc,hoc,hcd⟩:=I1.cell y c e;obtain⟨ol,es,ep,hol,hld,_⟩:=hn;rw[z,hol] at hoc;cases hoc;rw[hld] at hcd;cases hcd
 refine⟨I1.ok,I1.os,I1.bare,⟨fun b o e n hb hx=>(hs.2 b (ne b o e)).trans (I1.base.keep b o e n hb hx),fun b o e n hb hx=>?_,I1.base.free,fun b o e hx=>?_,I1.base.fO,I1.base.ft,I1.base.fR⟩,⟨_,hn2,fun i y v' e1 e2 e3=>?_⟩,fun y c e=>?_,I1.free,I1.eD,fun p hp=>?_,fun a o q=>?_,by simpa using I.len⟩
 .obtain⟨sl,q⟩:=I1.base.slot b o e n hb hx;exact⟨sl,(hs.2 b (ne b o e)).trans q⟩
 .obtain⟨o',q⟩:=I1.base.there b o e hx;exact⟨o',(hs.2 b (ne b o e)).trans q⟩
 .by_cases z:i=j
  .subst z;rw[iu jl] at e2;cases e2
  .rw[iy (aX z)] at e2;have ny:y≠n:=fun w=>z (by subst w;exact rj hN e1 hj);obtain⟨u',r',l⟩:=lo i y v' e1 (by rw[iy (aX z)];exact e2) e3;refine⟨u',r',?_⟩;rcases l with ⟨k1,k2⟩|⟨k1,c,k2,k3⟩
   .exact .inl ⟨k1,by show (if y=n then v else m y)=some u';rw[if_neg ny];exact k2⟩
   .exact .inr ⟨k1,c,k2,k3.sameBut hs (qu y c k2)⟩
 .obtain⟨w',z⟩:=I1.cell y c e;exact⟨w',z.sameBut hs (qu y c e)⟩
 .obtain⟨e,n1,n2,n3,d⟩:=I1.pin p hp;exact⟨(hs.2 p.1 n2).trans e,n1,n2,n3,d⟩
 .have nt:∀b u,H b=some u->b≠X.env.locals:=fun b u e z=>by rw[z,I1.free] at e;cases e
  refine (I1.ao a o q).fq (fun b u hb r=>(hs.2 b ?_).trans r) (fun _ q=>q) fun _ _ q=>q;rcases hb with rfl|hb
  .exact nt b o q
  .exact nt b _ hb
theorem Ez{CX:eL}{k:Nat}{f C:Addr}{fd:FuncData}{ps:List Str}{sp:Sp}{E:XK}{m:Str}{pos apos:Pos}{e o:Expr}{es:List Expr}{ta:TE}{t:TA}{pl:Sem Bool}{Q:VK}{xe:aH}(I:Inv X pins σ H s)(he:PE X.qe o ta)(c:qf X.K C)(hm:Meth X.K C m f)
  (F:bV hv X.prog X.w X.K X.mg X.base CX k f fd ps sp) (hr:bK hv k X.A) (hb:Binds X.K fd ps []) (ha:PA X.qe (e::es) t) (hst:starEach (e::es) X.env=(false,eval e X.env)::starEach es X.env) (hpl:(backTo pos (starEach es X.env)).any (·.1)=false)
  (ht:eval (.Call (.Attribute o m apos) (e::es) [] pos) X.env=(do
   let ov <-eval o X.env
   standAt apos.atName
   let (f,first) <-holding [ov] (getMethod ov m pl)
   callWith pos f first (backTo pos (starEach (e::es) X.env)) (backToKw pos (keywordEach [] X.env))))
  (hx:∀H1 s1 ex s',Inv X pins σ H1 s1->CX X.stack H1 s1 E ex s'->xe ex s') (h:Bp C m sp [] E ta t σ H Q):
  wpAny (model X.prog X.w) X.A (eval (.Call (.Attribute o m apos) (e::es) [] pos) X.env) (EP X pins σ Q) xe s:=by
 refine vg (pl:=pl) (eX (he pins s σ H _ (I.kf _) h) (fun u s1 ⟨x,H1,I1,rx,a,dx,fs,ex,ea,l,q⟩=>?_) fun _ _ z=>False.elim z) ht;subst ex;obtain rfl:u=Value.ref a:=rx;have J1:Inv X pins σ H1 s1:=I1.j6;refine mG J1 ea c hm l ?_;refine lg (first:=[.ref a]) (h₀:=X.base) I.ok.mod.qh hm.kp (eX (ha pos pins s1 σ H1 _ I1 q) (fun us s2 ⟨vs,H2,I2,r,q2⟩=>⟨(I2.j6:Inv X pins σ H2 s2).cJ,?_⟩) fun _ _ z=>False.elim z) hst hpl;have J2:Inv X pins σ H2 s2:=I2.j6;dsimp only at q2;rw[hJ] at q2;have r2:Vals (V.ref a::vs) (Value.ref a::us):=.cons rfl r;have hl:(Value.ref a::us++[]).length=ps.length:=by rw[hJ,<-r2.length];exact F.len _ _ _ _ q2
 refine k8 (lh (F.run X.A X.stack s2 H2 ⟨Value.ref a::us,[]⟩ (Value.ref a::us) (V.ref a::vs) Q E hr J2.AQ (by have:=hb s2 (Value.ref a::us) J2.cJ hl;rwa [hJ] at this) r2 q2) fun r s' hq=>?_);cases r with
 |error e=>exact hx H2 s2 e s' J2 hq
 |ok fl=>
  cases fl with
  |ret u=>exact J2.after hq
  |next=>exact False.elim hq
  |brk=>exact False.elim hq
  |cont=>exact False.elim hq
theorem HY{ea C:Addr}{dx:Option Addr}{H':L2.Hp}{s':Shared}{Q:Shared->Prop}(I:Inv X pins σ H s)(hs:X.stack=X.env::X.outer)(hfm:X.env.frame=some X.env.locals)(F:gB X.prog X.w (bF X.stack) H s ea C dx .none H' s'){E:aH}(k:∀s3,gB X.prog X.w (bF X.stack) H s ea C dx .none H' s3->Q s3):
  wpAny (model X.prog X.w) X.A (noteFrame (.ref ea) X.env) (fun _ s2=>wpAny (model X.prog X.w) X.A (setFlight (.ref ea) none) (fun _ s3=>Q s3) E s2) E s':=by
 have J:=F.toFly0.inv I;have fr:=J.jW;have st:=J.stack;have fm:=J.ok.frames;rw[hs] at fr st fm F;refine F.note (base:=X.base) fm st hfm fr fun s2 F2=>F2.land fr fun s3 F3=>k s3 ?_;rw[hs];exact F3
theorem gB.cls{ea C:Addr}{dx:Option Addr}{H':L2.Hp}{s':Shared}{fl:Value}(F:gB X.prog X.w (bF X.stack) H s ea C dx fl H' s'):W.Looks (model X.prog X.w) s'.heap (typeOf (.ref ea)) (.ref C):=by obtain⟨⟨o,ws,b1,b2,_⟩,_,_⟩:=F.ao ea _ F.tr;exact b2▸(W.Looks.ld b1).andThen .now
section
variable {ea C Mx:Addr}{dx:Option Addr}{H':L2.Hp}{s':Shared}{x n:Str}{p hp:Pos}{j:Nat}{rest:List ExceptHandler}{Q:Flow->Shared->Prop}
theorem Hl{nm:Option Str}{suite:List Stmt}(I:Inv X pins σ H s)(F:gB X.prog X.w (bF X.stack) H s ea C dx .none H' s')(hg:Gl X x)(hm:X.mg x=some (.ref Mx))(hdb:(x== ("__debug__" : Str))=false)(hxm:W.exmOne X.K (.ref C) (.ref Mx)=some false)
  (k:wpAny (model X.prog X.w) X.A (handleBy (.ref ea) X.env rest) Q X.xe s'):wpAny (model X.prog X.w) X.A (handleBy (.ref ea) X.env (.ExceptHandler (some (.Name x p)) nm suite hp::rest)) Q X.xe s':=by
 have I3:=F.toFly0.inv I;refine wpAny_handleBy_cons (codeAny_handlers_test (fZ (X:=hX X (.ref ea)) (Inv.mark I3 _) hg hm ?_ hdb)) (by intro q;cases q);exact (W.exm_one I3.cJ F.cls hxm).here k
theorem LQ{b₀:Stmt}{suite:List Stmt}{t:TS}(I:Inv X pins σ H s)(F:gB X.prog X.w (bF X.stack) H s ea C dx .none H' s')
  (hg:Gl X x) (hm:X.mg x=some (.ref Mx)) (hdb:(x== ("__debug__" : Str))=false) (hxm:W.exmOne X.K (.ref C) (.ref Mx)=some true) (hN:X.N.Nodup) (hj:X.N[j]?=some n) (hl:X.env.scope.names.lookup n=some .local)
  (hb:dU (hX X (.ref ea)) (b₀::suite) t) (D:Ends) (ht:t D (σ.set j (some (.ref ea))) H') (hD:∀f s2,SP X pins D f s2->wpAny (model X.prog X.w) X.A (do bindName X.env n .none;unbindBehindTheSuite X.env n hp) (fun _ s3=>Q f s3) X.xe s2):
  wpAny (model X.prog X.w) X.A (handleBy (.ref ea) X.env (.ExceptHandler (some (.Name x p)) (some n) (b₀::suite) hp::rest)) Q X.xe s':=by
 have I3:=F.toFly0.inv I;have fr0:=I3.jW;refine wpAny_handleBy_cons (codeAny_handlers_test (fZ (X:=hX X (.ref ea)) (Inv.mark I3 _) hg hm ?_ hdb)) (by intro q;cases q);refine (W.exm_one I3.cJ F.cls hxm).here ?_;refine codeAny_handlers_suite_as (F.land fr0 fun s4 F4=>?_);have I4:=F4.toFly0.inv I;refine iR (X:=hX X (.ref ea)) (v:=.ref ea) (Inv.mark I4 _) hN hj (.inl hl) rfl (fun s5 I5=>?_) (.inr hl);refine eX (hb pins s5 _ H' D I5 ht) (fun f s6 z=>hD f s6 ?_) fun _ _ z=>False.elim z;cases f with
 |next=>obtain⟨σ',H'',J,q⟩:=z;exact⟨σ',H'',Inv.unmark J I.ok.hd,q⟩
 |brk=>obtain⟨σ',H'',J,q⟩:=z;exact⟨σ',H'',Inv.unmark J I.ok.hd,q⟩
 |cont=>obtain⟨σ',H'',J,q⟩:=z;exact⟨σ',H'',Inv.unmark J I.ok.hd,q⟩
 |ret u=>obtain⟨v,σ',H'',J,r,q⟩:=z;exact⟨v,σ',H'',Inv.unmark J I.ok.hd,r,q⟩
end
end
abbrev IsT(h:Heap)(a:Addr)(D:List (Str×Addr)):Prop:=KTD.TabOf (fun d v=>v=.ref d) h a D
section
variable {prog:Program}{w:World}{A:Around}{E:aH}{s:Shared}{a:Addr}{D:List (Str×Addr)}{k:Str}{tk:Tok}
theorem IsT.ty(T:IsT s.heap a D):s.TypeIs (.ref a) "dict" := let ⟨_,o,_,_,ho,hc,_⟩:=T;⟨o,ho,hc.1⟩
theorem vz{Q:Option Value->Shared->Prop}(T:IsT s.heap a D)(h:Q ((KTD.datumAt k D).map Value.ref) {s with toks:=s.toks+1}):wpAny (model prog w) A (dictGet a (.str k tk)) Q E s:=by
 obtain⟨_,o,es,ep,ho,hc,hd,hr⟩:=T;unfold dictGet
 try with_reducible refine fF ?_
 refine af (wpAny_pyHash_str (af (KTD.kt_dictFind_strs (s:={s with toks:=s.toks+1}) ho hd (by obtain⟨l⟩:=es;simpa using hr.exact) ?_)));have q:Q (findBy (fun k v=>v.isStr k) es k) {s with toks:=s.toks+1}:=by
  rw[show findBy (fun k v=>v.isStr k) es k=(es.toList.find? fun e=>e.key.isStr k).map (·.val) by obtain⟨l⟩:=es;simp[findBy]];cases z:KTD.datumAt k D with
  |some d=>
   obtain⟨v,hv,rfl⟩:=hr.find_some z;rw[hv];rw[z] at h;exact h
  |none=>rw[hr.find_none z];rw[z] at h;exact h
 rw[findBy_of_findIdx?] at q;cases i:es.findIdx? fun e=>e.key.isStr k with
 |none=>rw[i] at q;exact aj q
 |some i'=>rw[i] at q;exact af (wpAny_dictEntries (s:={s with toks:=s.toks+1}) ho hd (aj q))
theorem D3{Q:aH}{d:Addr}(T:IsT s.heap a D)(hk:KTD.datumAt k D=some d)(h:Q (.ref d) {s with toks:=s.toks+1}):wpAny (model prog w) A (getItem (.ref a) (.str k tk)) Q E s:=by
 unfold getItem
 try with_reducible refine fF ?_
 refine af (wpAny_sequenceKey T.ty (by decide) ?_);refine af (rC (name:=Str.ofString "__getitem__") T.ty Al (pd Al T.ty entry_dict_getitem ?_ (args_dict_getitem _ _)));show wpAny _ _ (dictGet a (.str k tk) >>= _) _ _ s;refine af (vz T ?_);rw[hk];exact aj ⟨_,rfl,aj h⟩
theorem KI{Q:aH}(T:IsT s.heap a D)(h:Q (.bool (KTD.inKeys k D)) {s with toks:=s.toks+1}):wpAny (model prog w) A (compareOp .In (.str k tk) (.ref a)) Q E s:=by
 show wpAny _ _ (do return .bool (<-contains (.ref a) (.str k tk))) Q E s;refine af ?_;unfold contains
 try with_reducible refine fF ?_
 refine af (pS T.ty AK.lookup ?_);show wpAny _ _ (if (some (Value.builtin "dict.__contains__")== some Value.none)=true then _ else _) _ E s;rw[if_neg (by rw[beq_builtin_none];exact eC)];refine af (wpAny_callSpecialUnlessNone?_slot (name:=Str.ofString "__contains__") T.ty AK (pd AK T.ty entry_dict_contains ?_ (args_dict_contains _ _)));show wpAny _ _ (dictGet a (.str k tk) >>= _) _ _ s;refine af (vz T ?_);cases z:KTD.datumAt k D with
 |some d=>
  rw[show KTD.inKeys k D=true by rw[<-KTD.isSome_datumAt,z];rfl] at h;show wpAny _ _ (ret (.bool true)) _ _ _;exact aj ⟨_,rfl,pO (aj h)⟩
 |none=>
  rw[show KTD.inKeys k D=false by rw[<-KTD.isSome_datumAt,z];rfl] at h;show wpAny _ _ (Builtin.Dict.pendingKey? a (.str k tk) >>= _) _ _ _;exact af (wpAny_pendingKey_other T.1 (aj ⟨_,rfl,pO (aj h)⟩))
end
def nz(K:W.Frag)(a:Addr)(D:List (Str×Addr)):Prop:=∀h:Heap,K.In h->IsT h a D
section
variable {X:Cx}{E:XK}{a b c e y:Expr}{pos p1 p2:Pos}{da db dk:Tw.Env->Tw.Hp->Tw.R Tw.W}{t:Addr}{D:List (Str×Addr)}
theorem Ki(T:nz X.K t D):nZ X (fun x y H Q=>∃s d,x=.ref t/\y=.str s/\KTD.datumAt s D=some d/\Q (.ref d) H):=by intro value slice pins s σ H x y v u Q I rx ry ⟨z,d,ex,ey,hk,q⟩ hs;subst ex ey;cases rx;obtain⟨tk,rfl⟩:=(show ∃t,u=Value.str z t from ry);have T':=T s.heap I.cJ;exact tail_any (ops:=[.str z tk,.ref t]) T'.ty Al.lookup (D3 T' hk ⟨.ref d,H,I.tok _,rfl,q⟩) hs
theorem xt(T:nz X.K t D):cN X (compareOp .In) (fun x y H Q=>∃s,x=.str s/\y=.ref t/\Q (.bl (KTD.inKeys s D)) H):=by intro pins s σ H x y v u Q I rx ry ⟨z,ex,ey,q⟩;subst ex ey;cases ry;obtain⟨tk,rfl⟩:=(show ∃t,v=Value.str z t from rx);exact KI (T s.heap I.cJ) ⟨.bl _,H,I.tok _,rfl,q⟩
theorem Jg{CX:eL}{n:Nat}{G:Str}{g:List (Tw.S×Nat)}{C:Tw.Or}{e:Expr}{es:List Expr}{ds:Tw.Env->Tw.Hp->Tw.R (List Tw.W)}(hg:Gl X G)(hm:X.mg G=some (.ref t))(hd:(G== ("__debug__" : Str))=false)(T:nz X.K t D)
  (own:∀s f,g.lookup s=some f->∃ga k fd ps,KTD.datumAt ⟨s.toArray⟩ D=some ga/\bV X.A.handled X.prog X.w X.K X.mg X.base CX k ga fd ps (eW X.K X.mg X.A.handled (C f))/\bK X.A.handled k X.A/\W.keepIn X.K (.ref ga)=true/\Binds X.K fd ps [])
  (hx:Passes CX X E) (hy:PE X y (tE (zx X E) dk)) (hpy:aE y=true) (hs:PA X (e::es) (tA (zx X E) n ds)) (hpl:(e::es).all aE=true):
  PE X (.Call (.Subscript (.Name G p1) y p2) (e::es) [] pos) (tE (zx X E) fun ρ h=>(dk ρ h).bind fun x h=>match Tw.pick g x with
   |some f=>(ds ρ h).bind fun xs h=>C f xs h
   |none=>.bad):=by
 have hf:PE X (.Subscript (.Name G p1) y p2) _:=Gh (Ki T) (tu (v:=.ref t) hg hm rfl hd) hy (xm hpy);have hst:starEach (e::es) X.env=(false,eval e X.env)::starEach es X.env:=bA (by rw[eQ,av] at hpl;exact hpl.1);intro pins s σ H Q I ⟨ρ,h,ι,at',p⟩;refine Call_ (az (hf pins s σ H (fun v H1=>∃f ga k fd ps w h1 ι1,v=.ref ga/\bV X.A.handled X.prog X.w X.K X.mg X.base CX k ga fd ps (eW X.K X.mg X.A.handled (C f))/\bK X.A.handled k X.A/\W.keepIn X.K (.ref ga)=true/\Binds X.K fd ps []/\
   At (zx X E) ι1 h1 H1 ρ σ/\ah (zx X E) RE ι1 h1 H1 ((ds ρ h1).bind fun xs h=>C f xs h) Q/\w=f) I ⟨ρ,h,ι,at',(step at' p).mono fun x H1 ⟨w,h1,ι1,at1,e1,r1,p1⟩=>?_⟩) fun fv s1 ⟨v,H1,I1,rv,f,ga,k,fd,ps,w,h1,ι1,ev,G',hr,hk,hb,at1,p1,_⟩=>?_)
 .cases r1 with
  |str z hz=>
   cases ef:Tw.pick g (.str z) with
   |none=>rw[ef] at p1;exact p1.elim
   |some f=>
    rw[ef] at p1;obtain⟨ga,k,fd,ps,z1,z2,z3,z4,z5⟩:=own z f ef;exact⟨_,ga,rfl,rfl,z1,f,ga,k,fd,ps,f,h1,ι1,rfl,z2,z3,z4,z5,at1,p1,rfl⟩
  |_=>exact p1.elim
 .subst ev;cases rv;refine lg (h₀:=X.base) I.ok.mod.qh hk (az (hs pos pins s1 σ H1 _ I1 ⟨ρ,h1,ι1,at1,step at1 p1⟩) fun us s2 ⟨vs,H2,I2,r2,ws,h2,ι2,at2,e2,rr,p2⟩=>⟨I2.cJ,?_⟩) hst ?_
  .exact oS (ds:=[]) (dvs:=[]) G' hr hb .nil hx I2 r2 (by rw[hJ];exact⟨ws,h2,ι2,at2.hr,rr.1,p2⟩)
  .rw[eU (by rw[eQ,av] at hpl;exact hpl.2)];simp[backTo]
theorem N0{G:Str}{g:List Tw.S}(hg:Gl X G)(hm:X.mg G=some (.ref t))(hd:(G== ("__debug__" : Str))=false)(T:nz X.K t D)(hk:∀s:Tw.S,KTD.inKeys ⟨s.toArray⟩ D=g.contains s)(hy:PE X y (tE (zx X E) dk)):
  PE X (.Compare y [.In] [.Name G p1] pos) (tE (zx X E) fun ρ h=>(dk ρ h).bind fun x h=>match x with
   |.str s=>.ok (.bl (g.contains s)) h
   |_=>.bad)/\PT X (.Compare y [.In] [.Name G p1] pos) (tT (zx X E) fun ρ h=>(dk ρ h).bind fun x h=>match x with
   |.str s=>.ok (.bl (g.contains s)) h
   |_=>.bad):=by
 have fin:∀σ H Q,tE (zx X E) (fun ρ h=>(dk ρ h).bind fun x h=>match x with
   |.str s=>.ok (.bl (g.contains s)) h
   |_=>.bad) σ H Q->zt (fun x y H Q=>∃s,x=.str s/\y=.ref t/\Q (.bl (KTD.inKeys s D)) H) (tE (zx X E) dk) (tC (.ref t)) σ H Q:=fun σ H Q ⟨ρ,h,ι,at',p⟩=>by
  refine⟨ρ,h,ι,at',(step at' p).mono fun x H1 ⟨w,h1,ι1,at1,e1,r1,p1⟩=>?_⟩;cases r1 with
  |str z hz=>exact⟨_,rfl,rfl,by rw[hk];exact ah.self (a:=Tw.W.bl (g.contains z)) p1 at1.hr (.bl _)⟩
  |_=>exact p1.elim
 have hG:PE X (.Name G p1) (tC (.ref t)):=tu (v:=.ref t) hg hm rfl hd;refine⟨PE.imp (zc (xt T) hy hG rfl) fin,?_⟩;refine PT.imp (zr (xt T) hy hG rfl) fun σ H Q ⟨ρ,h,ι,at',p⟩=>?_;simp only[dT,bind_assoc] at p;refine⟨ρ,h,ι,at',(step at' p).mono fun x H1 ⟨w,h1,ι1,at1,e1,r1,p1⟩=>?_⟩;cases r1 with
 |str z hz=>exact⟨_,rfl,rfl,_,rfl,by rw[hk];exact ah.self (a:=g.contains z) p1 at1.hr rfl⟩
 |_=>exact p1.elim
theorem aT.rev{K:W.Frag}{ι:Nat->Addr}{n:Nat}{H:L2.Hp}:∀{ws:List Tw.W}{vs:List V},aT K ι n H ws vs->aT K ι n H ws.reverse vs.reverse
 |_,_,.nil=>.nil
 |_,_,.cons a r=>by
  rw[vB,vB];exact (aT.rev r).append (.cons a .nil)
def FR(m:Tw.Mt)(da:Tw.Env->Tw.Hp->Tw.R Tw.W):Tw.Env->Tw.Hp->Tw.R Tw.W:=fun ρ h=>(da ρ h).bind fun x h=>if Tw.qT m x h then Tw.method m x [] h else .bad
theorem zi{m:Tw.Mt}(hm:m=.rev\/m=.pop\/m=.index){w:Tw.W}{h:Tw.Hp}(e:Tw.qT m w h=true):∃i ws,w=.ref i/\h[i]?=some (.lst ws):=by
 have e:Tw.qT .append w h=true:=by rcases hm with rfl|rfl|rfl<;>cases w<;>exact e
 exact C4 e
theorem ML{o:Expr}{apos cpos:Pos}(hb:attributeBase o "reverse" X.env (eval o X.env)=eval o X.env)(hl:(apos.endLine== cpos.line)=true)(ho:PE X o (tE (zx X E) da)):
  PE X (.Call (.Attribute o "reverse" apos) [] [] cpos) (tE (zx X E) (FR .rev da)):=by
 refine PE.imp (IW AW PySem.F.slot_list_reverse PySem.F.type_list_reverse zX ho hb hl) fun σ H Q ⟨ρ,h,ι,at',p⟩=>?_;unfold FR at p;refine⟨ρ,h,ι,at',(step at' p).mono fun x H1 ⟨w,h1,ι1,at1,e1,r1,p1⟩=>?_⟩;obtain⟨c1,pp⟩:=ah.ite p1;clear p1;obtain⟨i,ws,rfl,ei⟩:=zi (.inl rfl) c1;cases r1;obtain⟨xs,q1,q2⟩:=at1.hr.lst ei;refine⟨.inl ⟨rfl,xs,bB.of q1⟩,_,xs,rfl,rfl,q1,?_⟩
 .simp only[Tw.method,ei] at pp;obtain⟨hr',ex⟩:=at1.hr.put (o:=.lst xs.reverse) (u:=.lst ws.reverse) ei rfl rfl (fun _ z=>nomatch z) fun H' kp z=>⟨_,z,(q2.rev).keep kp⟩;exact pp ι1 _ .ak ex hr' .ak
def Ju:V->List V->L2.Hp->VK->Prop:=fun x vs H Q=>∃(l:Addr) (xs:List V) (k:Key) (j:Nat),x=.ref l/\vs=[kV k]/\H l=some (.lst xs)/\(∀y∈xs,∃z,y=kV z)/\xs[j]?=some (kV k)/\(∀m,m<j->xs[m]?≠some (kV k))/\Q (.int j) H
theorem wU{A:Around}{s:Shared}{z k:Key}{y u:Value}(hy:RelV (kV z) y)(hu:RelV (kV k) u):SeqAt.EqAt A s y u (iN k y)/\iN k y=decide (z=k):=by
 cases z with
 |inl i=>
  obtain⟨t,rfl⟩:=(show ∃t,y=Value.int i t from hy);cases k with
  |inl j=>obtain⟨t',rfl⟩:=(show ∃t,u=Value.int j t from hu);exact⟨SeqAt.EqAt.int_int i t j t',by rw[vL];rfl⟩
  |inr x=>obtain⟨t',rfl⟩:=(show ∃t,u=Value.str x t from hu);exact⟨A1 i t x t',by rw[vA];rfl⟩
 |inr x=>
  obtain⟨t,rfl⟩:=(show ∃t,y=Value.str x t from hy);cases k with
  |inl j=>obtain⟨t',rfl⟩:=(show ∃t,u=Value.int j t from hu);exact⟨zP x t j t',by rw[vZ];rfl⟩
  |inr x'=>
   obtain⟨t',rfl⟩:=(show ∃t,u=Value.str x' t from hu);have e:iN (.inr x') (.str x t)=(x== x'):=rfl;exact⟨by rw[e];exact SeqAt.EqAt.str_str x t x' t',by rw[e,wW];by_cases z:x=x'<;>simp[z]⟩
theorem Em:Lc X "list.index" Ju:=by
 intro pins s σ H x vs v us Q I rx rv ⟨l,xs,k,j,ex,ev,hH,hall,hj,hno,q⟩;subst ex ev;cases rx;obtain⟨u,rfl,ru⟩:=rv.one;obtain⟨Z,its,n,r,hl,e⟩:=I.sZ hH;have alS:∀{i:Nat}{y:Value},its[i]?=some y->∃z,RelV (kV z) y/\xs[i]?=some (kV z):=fun {i y} hy=>by
  have hi:i<xs.length:=by rw[hl];exact (dE.mp hy).1
  obtain⟨z,hz⟩:=hall _ (tB hi);have hx:xs[i]?=some (kV z):=by rw[iM hi,hz]
  obtain⟨u',hu,ru'⟩:=r.get hx;rw[hy] at hu;cases hu;exact⟨z,ru',hx⟩
 have hjl:j<its.toArray.size:=by rw[bX,<-hl];exact (dE.mp hj).1
 have size:xs.length<=16777216:=by rw[<-sizeLine_eq];exact Z
 refine pP F.slot_list_index ⟨_,e,rfl⟩ F.entry_list_index (F.args_list_index_2 _ _) (SeqAt.list_indexAt l its.toArray n none #[] u (iN k) j hjl (by have:j<xs.length:=(dE.mp hj).1;omega) ?_ ?_) ⟨e,?_,?_⟩
 .obtain⟨z,e1,e2⟩:=alS (i:=j) (y:=its.toArray[j]) (by simp);rw[hj] at e2;rw[(wU (A:=X.A) (s:=s) e1 ru).2];exact jb (C5 (eE e2)).symm
 .intro m hm hlt;obtain⟨z,e1,e2⟩:=alS (i:=m) (y:=its.toArray[m]) (by simp);rw[(wU (A:=X.A) (s:=s) e1 ru).2];exact bU fun q=>hno m hlt (by rw[e2,q])
 .intro y hy;obtain⟨i,hi,rfl⟩:=List.getElem_of_mem (by simpa using hy);obtain⟨z,e1,e2⟩:=alS (i:=i) (y:=its[i]) (by simp);exact (wU e1 ru).1
 .exact⟨.int j,H,I.tok _,⟨_,rfl⟩,q⟩
theorem xr{K:W.Frag}{ι:Nat->Addr}{n:Nat}{H:L2.Hp}{u:Tw.W}{k:Key}(b:RW K ι n H u (kV k)):∀{ys:List Tw.W}{zs:List V}{j:Nat},aT K ι n H ys zs->ys.all Tw.isKey=true->Tw.ip u ys=some j->zs[j]?=some (kV k)/\(∀m,m<j->zs[m]?≠some (kV k))
 |_,_,j,.nil,_,h=>by simp[Tw.ip] at h
 |y::ys,z::zs,j,.cons a r,ha,h=>by
  rw[eQ,av] at ha;obtain⟨q,rfl⟩:=iW a ha.1;unfold Tw.ip at h;rw[vJ a b] at h;by_cases c:q=k
  .subst c;simp at h;subst h;exact⟨rfl,fun m hm=>absurd hm (Nat.not_lt_zero _)⟩
  .rw[bU c] at h;simp only[II,kX] at h;obtain⟨j',h1,rfl⟩:=je.mp h;obtain⟨q1,q2⟩:=xr b r ha.2 h1;refine⟨by simpa using q1,fun m hm=>?_⟩;cases m with
   |zero=>exact fun e=>c (C5 (eE e))
   |succ m=>simpa using q2 m (by omega)
theorem xn{K:W.Frag}{ι:Nat->Addr}{n:Nat}{H:L2.Hp}:∀{ys:List Tw.W}{zs:List V},aT K ι n H ys zs->ys.all Tw.isKey=true->∀v∈zs,∃q,v=kV q
 |_,_,.nil,_=>fun v hv=>by simp at hv
 |y::ys,z::zs,.cons a r,h=>fun v hv=>by
  rw[eQ,av] at h;rcases cX.mp hv with rfl|hv
  .exact iW a h.1
  .exact xn r h.2 v hv
theorem HA{o e:Expr}{apos cpos:Pos}(me:Me X o "index" apos [e] cpos)(hst:starEach [e] X.env=[(false,eval e X.env)])(ho:PE X o (tE (zx X E) da))(he:PE X e (tE (zx X E) db)):
  PE X (.Call (.Attribute o "index" apos) [e] [] cpos) (tE (zx X E) (yJ .index da db)):=by
 refine PE.imp (Bj AW PySem.F.slot_list_index PySem.F.type_list_index Em ho (cE he dD hst) me.base me.wt me.line hst rfl) fun σ H Q ⟨ρ,h,ι,at',p⟩=>?_;unfold yJ at p;refine⟨ρ,h,ι,at',(step at' p).mono fun x H1 ⟨w,h1,ι1,at1,e1,r1,p1⟩=>?_⟩;obtain⟨c1,pp⟩:=ah.ite p1;clear p1;obtain⟨i,ws,rfl,ei⟩:=zi (.inr (.inr rfl)) c1;cases r1 with
 |ref hi=>
  obtain⟨xs,q1,q2⟩:=at1.hr.lst ei;refine⟨.inl ⟨rfl,xs,bB.of q1⟩,ρ,h1,ι1,at1,(step at1 pp).mono fun y H2 ⟨u,h2,ι2,at2,e2,r2,p2⟩=>?_⟩;have same:ι2 i=ι1 i:=e2.same i hi;cases ej:h2[i]? with
  |none=>simp only[Tw.method,ej] at p2;exact p2.elim
  |some oj=>
   cases oj with
   |lst ys=>
    simp only[Tw.method,ej] at p2;obtain⟨zs,z1,z2⟩:=at2.hr.lst ej;by_cases c:(Tw.isKey u&&ys.all Tw.isKey)=true
    .rw[if_pos c] at p2;simp only[av] at c;obtain⟨k,rfl⟩:=iW r2 c.1;cases eo:Tw.ip u ys with
     |none=>rw[eo] at p2;exact p2.elim
     |some j=>
      rw[eo] at p2;obtain⟨g1,g2⟩:=xr r2 z2 c.2 eo;rw[same] at z1;exact⟨_,zs,k,j,rfl,rfl,z1,xn z2 c.2,g1,g2,ah.self (a:=Tw.W.int j) p2 at2.hr (.int _)⟩
    .rw[if_neg c] at p2;exact p2.elim
   |_=>simp only[Tw.method,ej] at p2;exact p2.elim
end
section
variable {X:Cx}{E:XK}{a b c e:Expr}{pos pos' p1 p2 pos2:Pos}{da db dc:Tw.Env->Tw.Hp->Tw.R Tw.W}
noncomputable def isCall:Expr->Bool
 |.Call .. => true
 |_=>false
theorem BI{x y:Expr}{k:Nat}{p:Pos}{l:Nat}{env:Env}(h:isCall a=true):swapsWithSole [.Tuple [x,y] k p] a l env=pure false:=by cases a<;>first|rfl|cases h
theorem xX{x y:Expr}{k:Nat}{p:Pos}{env:Env}(h:isCall a=true):swappedStores [.Tuple [x,y] k p] a env=pure none:=by cases a<;>first|rfl|cases h
theorem LL{x y:Expr}{k:Nat}{p:Pos}{g:TG}{i j:Nat}(hg:PG X (.Tuple [x,y] k p) g)(ht:zF (zx X E) (.two i j) g)(ha:PE X a (tE (zx X E) da))(hc:isCall a=true):
  PS X (.Assign [.Tuple [x,y] k p] a pos) (cz (zx X E) fun ρ h=>(da ρ h).bind fun x h=>match x with
   |.tup [u,v]=>.ok (.next ((ρ.set i (some u)).set j (some v))) h
   |_=>.bad):=by
 refine PS.imp (BD ha hg (BI hc) (xX hc)) fun D σ H ⟨ρ,h,ι,at',p⟩=>⟨ρ,h,ι,at',(fB at' p).mono fun x H1 ⟨w,h1,ι1,at1,e1,r1,p1⟩=>?_⟩;split at p1
 .next u v=>exact ht ι1 h1 H1 ρ _ σ (.tup [u,v]) x _ at1 r1 rfl fun σ1 at2=>p1.next at2
 .exact p1.elim
theorem Np{i:Nat}{x:Str}(hN:X.N.Nodup)(hi:X.N[i]?=some x)(hx:Loc X.env.scope x)(hf:X.fn x=true)(ha:PE X a (tE (zx X E) da)):
  PS X (.AugAssign (.Name x pos') .Add a pos) (cz (zx X E) fun ρ h=>match ρ[i]? with
   |some (some (.int n))=>(da ρ h).bind fun y h=>match y with
    |.int b=>Tw.R.of ((Tw.binI .add n b).map fun c=>.next (ρ.set i (some (.int c)))) h
    |_=>.bad
   |_=>.bad):=by
 refine PS.imp (JG hN hi hx ha LX (.inl hf)) fun D σ H ⟨ρ,h,ι,at',p⟩=>?_;dsimp only at p;split at p
 .next n en=>
  obtain⟨v,hv,rv⟩:=at'.st i _ en;cases rv;refine⟨_,hv,ρ,h,ι,at',(fB at' p).mono fun y H1 ⟨w,h1,ι1,at1,e1,r1,p1⟩=>?_⟩;cases r1 with
  |int b=>exact⟨n,b,rfl,rfl,p1.next (at1.set (.int _) i)⟩
  |_=>exact p1.elim
 .exact p.elim
theorem MQ{body:List Stmt}{tb:Tw.Env->Tw.Hp->Tw.R Tw.Fl}{n:Nat}(hp:PassesOwn (model X.prog X.w) X.A X.env X.xe)(hc:PT X c (tT (zx X E) dc))(hb:dU X body (cz (zx X E) tb)):
  PS X (.While c body [] pos) (cz (zx X E) fun ρ h=>Tw.kT dc tb n ρ h):=by
 refine PS.imp (E4 hp hc hb) fun D σ H ⟨ρ,h,ι,at',p⟩=>?_;refine⟨fun m σ H=>∃ρ h ι,At (zx X E) ι h H ρ σ/\bx (zx X E) ι h H (Tw.kT dc tb m ρ h) D,⟨n,ρ,h,ι,at',p⟩,?_⟩
 rintro m σ2 H2 ⟨ρ2,h2,ι2,at2,p2⟩
 cases m with
 |zero=>exact p2.elim
 |succ m=>
  unfold Tw.kT at p2;refine⟨ρ2,h2,ι2,at2,?_⟩;simp only[dT];cases e0:dc ρ2 h2 with
  |bad=>rw[e0] at p2;exact p2.elim
  |ax=>rw[e0] at p2;exact p2
  |ok w h3=>
   simp only[e0,Tw.R.aw] at p2⊢;cases et:Tw.truth h3 w with
   |none=>rw[et] at p2;exact p2.elim
   |some k=>
    rw[et] at p2;intro ι3 H3 k' e3 r3 q;cases q;have at3:=at2.later e3 r3;cases k with
    |false=>rw[if_neg (by decide)];exact (bx.later p2 e3).next at3
    |true=>
     rw[if_pos rfl];refine⟨fun σ H=>∃ρ h ι,At (zx X E) ι h H ρ σ/\bx (zx X E) ι h H (Tw.kT dc tb m ρ h) D,fun σ' H' q=>⟨m,tL _,q⟩,ρ2,h3,ι3,at3,?_⟩;exact tV (go:=Tw.kT dc tb m) (bx.later p2 e3) fun ρ4 h4 ι4 H4 σ4 e4 at4 p4=>⟨ρ4,h4,ι4,at4,p4⟩
theorem HE(hcm:X.calm=true)(hgl:Gl X "list")(hml:X.mg "list" = none)(hgr:Gl X "reversed")(hmr:X.mg "reversed" = none)(ha:PE X a (tE (zx X E) da))(hpa:aE a=true):
  PE X (.Call (.Name "list" p1) [.Call (.Name "reversed" p2) [a] [] pos2] [] pos) (tE (zx X E) fun ρ h=>(da ρ h).bind fun x h=>Tw.builtin .listR x h):=by
 have hst:starEach [a] X.env=[(false,eval a X.env)]:=bA hpa;have hst2:starEach [Expr.Call (.Name "reversed" p2) [a] [] pos2] X.env=[(false,eval (.Call (.Name "reversed" p2) [a] [] pos2) X.env)]:=rfl;intro pins s σ H Q I ⟨ρ,h,ι,at',p⟩;refine Call_ (j3 I hgl hml PyProof.Rows.boot_list (pF ?_ rfl rfl) (by decide) (by decide));show wpAny _ _ (spliced ((false,eval (.Call (.Name "reversed" p2) [a] [] pos2) X.env):: [])) _ _ s;refine Mf ?_;refine Call_ (j3 I hgr hmr vS (pF (az (cE ha dD hst pos2 pins s σ H (fun vs H1=>∃x w h1 ι1,vs=[x]/\At (zx X E) ι1 h1 H1 ρ σ/\RW X.K ι1 h1.length H1 w x/\ah (zx X E) RE ι1 h1 H1 (Tw.builtin .listR w h1) Q) I ⟨ρ,h,ι,at',(step at' p).mono fun x H1 ⟨w,h1,ι1,at1,e1,r1,p1⟩=>⟨x,w,h1,ι1,rfl,at1,r1,p1⟩⟩) fun us s1 ⟨vs,H1,I1,rr,x,w,h1,ι1,ev,at1,r1,p1⟩=>?_) (by rw[hst];rfl) (by rfl)) (by decide) (by decide));subst ev;obtain⟨u,rfl,ru⟩:=vals1 rr;cases r1 with
 | @ref i hi=>
  cases ru;cases ei:h1[i]? with
  |none=>simp only[Tw.builtin,ei] at p1;exact p1.elim
  |some ob=>
   cases ob with
   |lst ws=>
    simp only[Tw.builtin,ei] at p1;obtain⟨xs,q1,q2⟩:=at1.hr.lst ei;obtain⟨as,rv,pl,hz⟩:=I1.list (bB.of q1);refine call_reversed_list pl.isList (Calls.spliced_nil ?_);have el:as.toArray.size=xs.length:=by rw[bX];exact rv.length.symm
    have hit:Heap.IsRevIter (s1.heap.push (revObj (ι1 i) ((as.toArray.size:Int)-1))) s1.heap.objs.size (ι1 i) ((as.toArray.size:Int)-1):=⟨_,cY _ rfl,rfl,rfl⟩;have I2:L2.Inv X pins σ H1 {s1 with heap:=s1.heap.push (revObj (ι1 i) ((as.toArray.size:Int)-1)),toks:=s1.toks}:=I1.kept (t':=s1.toks) fun b o e=>bj _ e;refine HL (y:= "") (p:=pos) (.inr rfl) I2 (wN (ι1 i) _ xs.length) hcm ⟨_,hit.choose_spec.1,hit.choose_spec.2.1⟩ ⟨jS _,by rw[show (xs.length:Int)-1-((0:Nat):Int)=(as.toArray.size:Int)-1 by rw[el];simp];exact hit⟩ (fun c' hc'=>?_) fun S hS=>?_
    .have le:c'=s1.heap.objs.size:=by simpa using hc'
     subst le;exact I1.oP (aA _) (I1.ao.fresh (aA _))
    .have nS:ι1 i≠S:=fun z=>by rw[z,hS] at q1;cases q1
     refine⟨fun k m ys H=>m=xs.length-k/\k<=xs.length/\ys=xs.reverse.take k/\H=upd H1 S (.lst ys),xs.length,⟨by simp,jS _,by simp,rfl⟩,?_⟩
     rintro k m ys H4 ⟨rfl,hk,rfl,rfl⟩ _
     have sq:bB X.K (upd H1 S (.lst (xs.reverse.take k))) (ι1 i) xs:=bB.of (by rw[aq nS];exact q1);by_cases c:k<xs.length
     .have hx:xs[xs.length-1-k]?=some xs[xs.length-1-k]:=iM (by omega);refine .inr ⟨⟨xs,_,c,sq,hx⟩,?_,xs.length-(k+1),by omega,fun x H' ⟨eH,hy⟩=>?_⟩
      .rw[sU,wJ];have:=hz;omega
      .subst eH;have hy:=hy xs sq;refine⟨aB,rfl,by omega,?_,?_⟩
       .rw[List.take_add_one,List.getElem?_reverse c,hy];rfl
       .funext z;by_cases Z:z=S
        .subst Z;rw[aB,aB]
        .rw[aq Z,aq Z,aq Z]
     .have ek:k=xs.length:=by omega
      subst ek;refine .inl ⟨aA _,?_⟩;rw[Fo (by rw[wJ];exact aA _)];exact p1.lst at1.hr q2.rev S hS
   |_=>simp only[Tw.builtin,ei] at p1;exact p1.elim
 |_=>exact p1.elim
end
end TwS
namespace TwS
open PySem L2 PyProof.Rows Builtin Builtin.ObjectAttr
abbrev str(x:Tw.S):Str:=⟨x.toArray⟩
structure XT(K:W.Frag)(C:Addr):Prop where
 ha:W.findIn K (.ref C) "__class__" = some (some (.builtin "object.__class__"))
 hn:W.specialIn K (.builtin "object.__class__") "__get__" = some (some (.builtin "getset_descriptor.__get__"))
 ht:W.takesIn K (.builtin "object.__class__")=some true
section
variable {prog:Program}{w:World}{A:Around}{E:aH}{s:Shared}{K:W.Frag}{x C:Addr}{ox:Obj}
end
section
variable {X:Cx}{pins:aJ}{σ:L2.St}{H:L2.Hp}{s:Shared}
end
theorem Et{n:Nat}(h:n<=100):n<=sizeLine:=by rw[eO];omega
end TwS
namespace TwS
open PySem L2 PyProof.Rows
section
variable {X:Cx}{E:XK}
theorem N1{i:Nat}{x:Tw.S}{ds:List Tw.S}{y:Str}{p1 p2:Pos}(hj:X.N[i]?=some y)(vj:jH X.env.scope y)(oj:okN y=true)(hx:∀d∈ds,∃C,X.mg (str d)=some (.ref C)/\XC X.K C/\bo X.K C (str x)):
  PE X (.Attribute (.Name y p1) (str x) p2) (tE (zx X E) fun ρ h=>(match ρ[i]? with|some (some w)=>Tw.R.ok w h|_=>.bad).bind fun w h=>Tw.R.of (Tw.kF w x ds h) h):=by
 refine PE.imp (MP hj vj oj) fun σ H Q ⟨ρ,h,ι,at',p⟩=>?_;dsimp only at p;cases e:ρ[i]? with
 |none=>rw[e] at p;exact p.elim
 |some ow=>
  cases ow with
  |none=>rw[e] at p;exact p.elim
  |some w=>
   simp only[e,Tw.R.aw] at p;obtain⟨v,s1,rv⟩:=at'.st i w e;cases rv with
   | @ref a ha=>
    cases ea:h[a]? with
    |none=>simp only[Tw.kF,ea] at p;exact p.elim
    |some ob=>
     cases ob with
     |ax c fs=>
      simp only[Tw.kF,ea] at p;by_cases cd:ds.contains c=true
      .rw[if_pos cd] at p;obtain⟨C,m,xc,na⟩:=hx c (Bh.mp cd);obtain⟨C0,dx,gs,m0,t0,d0,rf⟩:=at'.hr.obj a _ ea;have em:C0=C:=by
        have m0:X.mg (str c)=some (.ref C0):=m0;rw[m] at m0;cases m0;rfl
       subst em;rcases rf.look (x:=x) with ⟨z,_⟩|⟨wp,vp,z1,z2,z3⟩
       .rw[z] at p;exact p.elim
       .rw[z1] at p;cases dx with
        |none=>obtain rfl:gs=[]:=d0;cases z2
        |some d=>exact⟨ι a,C0,d,gs,vp,s1,xc,na,t0,d0,z2,ah.self (a:=wp) p at'.hr z3⟩
      .rw[if_neg cd] at p;exact p.elim
     |_=>simp only[Tw.kF,ea] at p;exact p.elim
   |_=>exact p.elim
end
section
variable {X:Cx}{E:XK}
end
inductive Fk where
 |fn (x:Str)
 |me (c m:Tw.S)
 deriving DecidableEq
structure Cfg where
 fns:List Fk
 tabs:List (Str×List (Tw.S×Nat)):=[]
 keys:List (Str×List Tw.S):=[]
 cons:List (Str×Tw.W):=[]
 bQ:List (Tw.S×List Tw.S):=[]
 hd:Bool:=false
 eB:List (Tw.S×List Tw.S):=[]
 jx:List (List Tw.S×List Tw.S):=[]
 qs:List Nat:=[]
mutual
noncomputable def same:Tw.W->Tw.W->Bool
 |.ak,.ak=>true
 |.bl a,.bl b=>decide (a=b)
 |.int a,.int b=>decide (a=b)
 |.str a,.str b=>decide (a=b)
 |.tup xs,.tup ys=>pj xs ys
 |_,_=>false
noncomputable def pj:List Tw.W->List Tw.W->Bool
 |[],[]=>true
 |x::xs,y::ys=>same x y&&pj xs ys
 |_,_=>false
end
mutual
theorem ze:∀(x y:Tw.W),same x y=true->x=y
 |.ak,y,h=>by cases y<;>first|rfl|(simp[same] at h)
 |.bl a,y,h=>by cases y<;>simp[same] at h;rw[h]
 |.int a,y,h=>by cases y<;>simp[same] at h;rw[h]
 |.str a,y,h=>by cases y<;>simp[same] at h;rw[h]
 |.tup xs,y,h=>by
  cases y with
  |tup ys=>rw[same] at h;rw[vF xs ys h]
  |_=>simp[same] at h
 |.ref a,y,h=>by cases y<;>simp[same] at h
 |.lst a,y,h=>by cases y<;>simp[same] at h
theorem vF:∀(xs ys:List Tw.W),pj xs ys=true->xs=ys
 |[],[],_=>rfl
 |[],_::_,h=>by simp[pj] at h
 |_::_,[],h=>by simp[pj] at h
 |x::xs,y::ys,h=>by
  rw[pj,av] at h;rw[ze x y h.1,vF xs ys h.2]
end
def DX(cf:Cfg)(x:Str)(w:Tw.W):Bool:=match cf.cons.lookup x with
 |some u=>same u w
 |none=>false
def gQ:Tw.S:=[95,95,105,110,105,116,95,95]
noncomputable def O2:Tw.Op->Operator
 |.add=>.Add | .sub=>.Sub | .mul=>.Mult | .fdiv=>.FloorDiv | .mod=>.Mod | .pow=>.Pow
noncomputable def FT:Tw.Cp->CmpOp
 |.eq=>.Eq | .ne=>.NotEq | .lt=>.Lt | .le=>.LtE | .gt=>.Gt | .ge=>.GtE | .isin=>.In | .notin=>.NotIn | .isN=>.Is | .notN=>.IsNot
noncomputable def DO:Tw.W->Const->Bool
 |.ak,.none=>true
 |.bl b,.bool c=>b== c
 |.int i,.int j=>decide (i=j)
 |.str x,.str y=>decide (y.cps.toList=x)&&x.all (fun c=>decide (c<0x110000))
 |_,_=>false
noncomputable def bN:Tw.B->Str
 |.len=> "len" | .list=> "list" | .tuple=> "tuple" | .dict=> "dict" | .int=> "int" | .listE=> "" | .listR=> "" | .dictP=> "dict" | .listS=> "list"
noncomputable def OH:Tw.B->Bool
 |.len | .list | .tuple=>true
 |_=>false
noncomputable def mN:Tw.Mt->Str
 |.append=> "append" | .get=> "get" | .join=> "join" | .index=> "index" | .pop=> "pop" | .rev=> "reverse"
noncomputable def N4:Tw.Cp->Bool
 |.eq | .ne | .lt | .isin | .notin | .isN | .notN=>true
 |_=>false
noncomputable def wt:Tw.Mt->Nat->Bool
 |.append,1=>true | .join,1=>true | .index,1=>true | .rev,0=>true
 |_,_=>false
noncomputable def KO:Expr->Bool
 |.IfExp .. => false
 |_=>true
def dZ(e:Expr):Bool:=aE e&&KO e
def pY(x:Str):Bool:=!(x== ("__debug__" : Str))
theorem gM{x:Str}(h:pY x=true):(x== ("__debug__" : Str))=false:=by unfold pY at h;simpa using h
mutual
noncomputable def aM(cf:Cfg)(sc:Sc)(N:List Str):Tw.E->Expr->Bool
 |.var i,e=>(bu e).any fun x=>decide (N[i]?=some x)&&xN sc x&&pY x&&!(x== ("__classdict__" : Str))
 |.cst w,e=>(mj e).any (fun c=>DO w c) || (bu e).any fun x=>jG sc x&&pY x&&DX cf x w
 |.tup es,e=>(sx e).any fun xs=>fC cf sc N es xs&&decide (xs.length<=1000)
 |.lst es,e=>(FC e).any fun xs=>fC cf sc N es xs&&decide (xs.length<=1000)
 |.aK es,e=>(CH e).any fun r=>xh cf sc N es r.1 r.2&&decide (r.1.length<=15)
 |.bin op a b,e=>(Gm e).any fun r=>decide (r.2.1=O2 op)&&aM cf sc N a r.1&&aM cf sc N b r.2.2
 |.cmp op a b,e=>(zG e).any fun r=>N4 op&&decide (r.2.1=[FT op])&&(dW r.2.2).any fun y=>aE y&&aM cf sc N a r.1&&aM cf sc N b y
 |.and a b,e=>(vy e).any fun r=>vo r.1&&(k7 r.2.1).any fun q=>(k7 q.2).any fun s=>dZ q.1&&aM cf sc N a q.1&&(if s.2.isEmpty then dZ s.1&&aM cf sc N b s.1 else aM cf sc N b (.BoolOp .And (s.1::s.2) r.2.2))
 |.or a b,e=>(vy e).any fun r=>!(vo r.1)&&(k7 r.2.1).any fun q=>(k7 q.2).any fun s=>dZ q.1&&aM cf sc N a q.1&&(if s.2.isEmpty then dZ s.1&&aM cf sc N b s.1 else aM cf sc N b (.BoolOp .Or (s.1::s.2) r.2.2))
 |.not a,e=>(IG e).any fun r=>GF r.1&&dZ r.2&&aM cf sc N a r.2
 |.ite c a b,e=>(Lw e).any fun r=>dZ r.1&&aM cf sc N c r.1&&aM cf sc N a r.2.1&&aM cf sc N b r.2.2
 |.idx a b,e=>(mQ e).any fun r=>aE r.2&&aM cf sc N a r.1&&aM cf sc N b r.2
 |.sl a lo hi,e=>(mQ e).any fun r=>(FD r.2).any fun s=>s.2.2.isNone&&aM cf sc N a r.1&&zT cf sc N lo s.1&&zT cf sc N hi s.2.1
 |.call f es,e=>(mB e).any fun r=>decide (cf.fns[f]?=some (.fn r.1))&&jG sc r.1&&pY r.1&&!(r.2.isEmpty)&&fC cf sc N es r.2&&(!cf.hd || cf.qs.contains f)
 |.blt b a,e=>!cf.hd&&(mB e).any fun r=>(dW r.2).any fun y=>match b with
  |.listR=>(mB y).any fun q=>(dW q.2).any fun z=>decide (r.1=("list" : Str))&&decide (q.1=("reversed" : Str))&&jG sc r.1&&jG sc q.1&&aE z&&aM cf sc N a z
  |.listE=>false
  |b=>OH b&&decide (r.1=bN b)&&jG sc r.1&&aE y&&aM cf sc N a y
 |.nM m o es,e=>(vQ e).any fun r=>decide (r.2.1=mN m)&&wt m r.2.2.2.1.length&&(r.2.2.1.endLine== r.2.2.2.2.line)&&aE r.1&&jX r.1&&aM cf sc N o r.1&&fC cf sc N es r.2.2.2.1
 |.wu a t,_=>false
 |.comp el it c,e=>!cf.hd&&(rT e).any fun r=>(u1 r.2.1).any fun g=>(bu g.1).any fun x=>w5 N sc [x] r.2.2.1&&decide (bH N [x]).Nodup&&aE g.2.1&&vP cf sc N false it g.2.1&&aM cf r.2.2.1.names (bH N [x]) el r.1&&
   (match c with
    |.none=>g.2.2.isEmpty
    |.some d=>(dW g.2.2).any fun z=>dZ z&&aM cf r.2.2.1.names (bH N [x]) d z)
 |.jj el it,e=>!cf.hd&&(rT e).any fun r=>(u1 r.2.1).any fun g=>g.2.2.isEmpty&&(sx g.1).any fun ts=>(xI ts).any fun q=>(bu q.1).any fun x=>(bu q.2).any fun z=>w5 N sc [x,z] r.2.2.1&&decide (bH N [x,z]).Nodup&&aE g.2.1&&vP cf sc N true it g.2.1&&aM cf r.2.2.1.names (bH N [x,z]) el r.1
 |.bad,_=>true
 |.fld a x,e=>(j0 e).any fun r=>decide (r.2.1=⟨x.toArray⟩)&&y7.contains r.2.1&&aE r.1&&jX r.1&&aM cf sc N a r.1
 |.mk c f es,e=>!cf.hd&&(mB e).any fun r=>decide (r.1=⟨c.toArray⟩)&&decide (cf.fns[f]?=some (.me c gQ))&&jG sc r.1&&pY r.1&&fC cf sc N es r.2
 |.own o c m f es,e=>!cf.hd&&(vQ e).any fun r=>decide (r.2.1=⟨m.toArray⟩)&&decide (cf.fns[f]?=some (.me c m))&&decide (m≠gQ)&&(r.2.2.1.endLine== r.2.2.2.2.line)&&decide (r.2.2.2.1.length<20)&&aE r.1&&jX r.1&&aM cf sc N o r.1&&fC cf sc N es r.2.2.2.1
 |.qN g k es,e=>!cf.hd&&(rS e).any fun r=>r.2.2.1.isEmpty&&!(r.2.1.isEmpty)&&(mQ r.1).any fun s=>(bu s.1).any fun x=>decide (cf.tabs.lookup x=some g)&&jG sc x&&pY x&&aE s.2&&aM cf sc N k s.2&&fC cf sc N es r.2.1
 |.zu k g,e=>(zG e).any fun r=>decide (r.2.1=[.In])&&(dW r.2.2).any fun y=>(bu y).any fun x=>decide (cf.keys.lookup x=some g)&&jG sc x&&pY x&&aM cf sc N k r.1
 |.la _ _ _ _,_=>false
 |.uJ a x ds,e=>match a with
  |.var i=>(Jw e).any fun r=>decide (N[i]?=some r.1)&&xN sc r.1&&okN r.1&&decide (r.2=str x)&&ds.all fun d=>(cf.bQ.lookup d).any fun fs=>fs.contains x
  |_=>false
noncomputable def fC(cf:Cfg)(sc:Sc)(N:List Str):Tw.Es->List Expr->Bool
 |.nil,xs=>xs.isEmpty
 |.cons e es,xs=>(k7 xs).any fun r=>aE r.1&&aM cf sc N e r.1&&fC cf sc N es r.2
noncomputable def xh(cf:Cfg)(sc:Sc)(N:List Str):Tw.Es->List (Option Expr)->List Expr->Bool
 |.nil,ks,vs=>ks.isEmpty&&vs.isEmpty
 |.cons k es,ks,vs=>match es with
  |.cons v r=>(k7 ks).any fun p=>(k7 vs).any fun q=>p.1.any fun x=>aM cf sc N k x&&aM cf sc N v q.1&&xh cf sc N r p.2 q.2
  |.nil=>false
noncomputable def zT(cf:Cfg)(sc:Sc)(N:List Str):Tw.Eo->Option Expr->Bool
 |.none,o=>o.isNone
 |.some e,o=>o.any fun x=>aM cf sc N e x
noncomputable def vP(cf:Cfg)(sc:Sc)(N:List Str)(tp:Bool):Tw.It->Expr->Bool
 |.seq a,e=>aM cf sc N a e
 |.hZ a,e=>(mB e).any fun r=>(dW r.2).any fun y=>decide (r.1=("range" : Str))&&jG sc r.1&&aE y&&aM cf sc N a y
 |.Bm a b,_=>false
 |.zip a b,_=>false
 |.enum a,e=>(mB e).any fun r=>(dW r.2).any fun y=>tp&&decide (r.1=("enumerate" : Str))&&jG sc r.1&&aE y&&aM cf sc N a y
 |.rev a,e=>(mB e).any fun r=>(dW r.2).any fun y=>decide (r.1=("reversed" : Str))&&jG sc r.1&&aE y&&aM cf sc N a y
end
noncomputable def dr:List Str:=["len", "list", "tuple", "dict", "int", "str", "bool", "isinstance", "range", "zip", "enumerate", "reversed"]
structure v7(K:W.Frag)(mg:Str->Option Value)(cf:Cfg):Prop where
 exc:∀c fs,cf.bQ.lookup c=some fs->∃C,mg (str c)=some (.ref C)/\XC K C/\XT K C/\∀g∈fs,bo K C (str g)
 eB:∀n cs,(n,cs)∈cf.eB->∃D,mg (str n)=some (.ref D)/\∀c fs C,cf.bQ.lookup c=some fs->mg (str c)=some (.ref C)->W.exmOne K (.ref C) (.ref D)=some (cs.contains c)
 jx:∀ns cs,(ns,cs)∈cf.jx->(∃n D,ns=[n]/\mg (str n)=some (.ref D)/\∀c fs C,cf.bQ.lookup c=some fs->mg (str c)=some (.ref C)->W.kitOne K (.ref C) (.ref D)=some (cs.contains c))\/
  (ns.map str=[("ValueError" : Str)]/\mg "ValueError" = none/\∀c fs C,cf.bQ.lookup c=some fs->mg (str c)=some (.ref C)->W.kitOne K (.ref C) (.type "ValueError")=some (cs.contains c))\/
  ∃as:List Addr,2<=ns.length/\(ns.map fun n=>mg (str n))=(as.map fun a=>some (Value.ref a))/\∀c fs C,cf.bQ.lookup c=some fs->mg (str c)=some (.ref C)->W.kitAny K (.ref C) (as.map Value.ref)=some (cs.contains c)
structure eM(cf:Cfg)(C:Tw.Or)(CX:eL)(E:XK)(X:Cx):Prop where
 calm:cf.hd=false->X.calm=true
 units:X.A.units+100<cLine
 own:∀f x,cf.fns[f]?=some (.fn x)->(cf.hd=true->f∈cf.qs)->∃k g fd ps,bV X.A.handled X.prog X.w X.K X.mg X.base CX k g fd ps (eW X.K X.mg X.A.handled (C f))/\bK X.A.handled k X.A/\X.mg x=some (.ref g)/\W.keepIn X.K (.ref g)=true/\Binds X.K fd ps []
 sN:∀f x,cf.fns[f]?=some (.fn x)->f∈cf.qs->∀e,∃k g fd ps,bV (some (.ref e)) X.prog X.w X.K X.mg X.base CX k g fd ps (eW X.K X.mg (some (.ref e)) (C f))/\(∀B:Around,B.handled=some (.ref e)->B.depth=X.A.depth->B.units=X.A.units->bK (some (.ref e)) k B)/\X.mg x=some (.ref g)/\W.keepIn X.K (.ref g)=true/\Binds X.K fd ps []
 me:∀f c m,cf.hd=false->cf.fns[f]?=some (.me c m)->∃k g fd ps A,bV X.A.handled X.prog X.w X.K X.mg X.base CX k g fd ps (eW X.K X.mg X.A.handled (C f))/\bK X.A.handled (k+1) X.A/\X.mg ⟨c.toArray⟩=some (.ref A)/\GoodC X.K A/\(m=gQ->Mk X.K A g)/\(m≠gQ->Meth X.K A ⟨m.toArray⟩ g)/\Binds X.K fd ps []
 tab:∀x g,cf.tabs.lookup x=some g->∃t D,X.mg x=some (.ref t)/\nz X.K t D/\(∀s f,g.lookup s=some f->∃y ga,cf.fns[f]?=some (.fn y)/\X.mg y=some (.ref ga)/\KTD.datumAt (⟨s.toArray⟩:Str) D=some ga)
 key:∀x g,cf.keys.lookup x=some g->∃t D,X.mg x=some (.ref t)/\nz X.K t D/\∀s:Tw.S,KTD.inKeys (⟨s.toArray⟩:Str) D=g.contains s
 con:∀x w,cf.cons.lookup x=some w->∃v u,X.mg x=some u/\RelV v u/\∀ι n H,RW X.K ι n H w v
 blt:∀x∈dr,X.mg x=none
 xf:v7 X.K X.mg cf
 pass:Passes CX X E
 never:∀outer H s e s',¬ CX outer H s E0 e s'
theorem eM.comp{cf:Cfg}{C:Tw.Or}{CX:eL}{E:XK}{X:Cx}(r:eM cf C CX E X){scope:Scope}{c:Addr}{x:List Str}{s:Shared}{H:L2.Hp}{pins:aJ}{fp:List Addr}:eM cf C CX E0 (bf X scope c x s H pins fp):=
 ⟨r.calm,r.units,r.own,r.sN,r.me,r.tab,r.key,r.con,r.blt,r.xf,fun _ _ _ _ _ _ _ h=>(r.never _ _ _ _ _ h).elim,r.never⟩
theorem eM.qe{cf:Cfg}{C:Tw.Or}{CX:eL}{E:XK}{X:Cx}(r:eM cf C CX E X):eM cf C CX E0 X.qe:=
 ⟨r.calm,r.units,r.own,r.sN,r.me,r.tab,r.key,r.con,r.blt,r.xf,fun _ _ _ _ _ _ _ h=>(r.never _ _ _ _ _ h).elim,r.never⟩
noncomputable abbrev yL(cf:Cfg):Cfg:={cf with tabs:=[],keys:=[],hd:=true}
theorem eM.hd{cf:Cfg}{C:Tw.Or}{CX:eL}{E:XK}{X:Cx}(r:eM cf C CX E X)(a:Addr):eM (yL cf) C CX E0 (hX X (.ref a)):=
 ⟨fun z=>(nomatch z),r.units,fun f x e q=>by
  obtain⟨k,g,fd,ps,z1,z2,z3⟩:=r.sN f x e (q rfl) a;exact⟨k,g,fd,ps,z1,z2 _ rfl rfl rfl,z3⟩,r.sN,fun f c m e=>(nomatch e),fun x g e=>(nomatch e),fun x g e=>(nomatch e),r.con,r.blt,⟨r.xf.exc,r.xf.eB,r.xf.jx⟩,fun _ _ _ _ _ _ _ h=>(r.never _ _ _ _ _ h).elim,r.never⟩
section
variable {X:Cx}{pins:aJ}{σ:L2.St}
end
section
variable {X:Cx}{E:XK}
end
section
variable {cf:Cfg}{C:Tw.Or}{CX:eL}{E:XK}
def SE(C:Tw.Or)(E:XK)(X:Cx)(t:Tw.E)(e:Expr):Prop:=PE X e (tE (zx X E) (Tw.ag C t))/\(dZ e=true->PT X e (tT (zx X E) (Tw.ag C t)))
theorem B7{e:Expr}(h:dZ e=true):aE e=true:=by unfold dZ at h;rw[av] at h;exact h.1
theorem SE.val{X:Cx}{t:Tw.E}{e:Expr}(h:PE X e (tE (zx X E) (Tw.ag C t)))(hv:GG e=true):SE C E X t e:=⟨h,fun hp=>Ib h (CV (B7 hp) hv)⟩
theorem BE{X:Cx}{w:Tw.W}{c:Const}{k:Nat}{p:Pos}(h:DO w c=true):SE C E X (.cst w) (.Constant c k p):=by
 refine SE.val ?_ rfl;rw[show Tw.ag C (.cst w)=fun _ h=>.ok w h from by funext ρ h;rw[Tw.ic]];cases w with
 |ak=>cases c<;>first|exact sv JM fun _ _ _=>.ak|exact absurd (show false=true from h) eC
 |bl b=>
  cases c with
  |bool b'=>
   have h:(b== b')=true:=h;rw[ji] at h;subst h;exact sv Nn fun _ _ _=>.bl _
  |_=>exact absurd (show false=true from h) eC
 |int i=>
  cases c with
  |int j=>
   have h:decide (i=j)=true:=h;rw[aI] at h;subst h;exact sv JQ fun _ _ _=>.int _
  |_=>exact absurd (show false=true from h) eC
 |str x=>
  cases c with
  |str y=>
   have h:(decide (y.cps.toList=x)&&x.all (fun c=>decide (c<0x110000)))=true:=h;simp only[av,aI,lP] at h;obtain⟨rfl,h2⟩:=h;obtain⟨y⟩:=y;exact sv BA fun ι n H=>by
    have:=RW.str (K:=X.K) (ι:=ι) (n:=n) (H:=H) y.toList h2;simpa using this
  |_=>exact absurd (show false=true from h) eC
 |_=>exact absurd (show false=true from h) eC
theorem Lg{X:Cx}(R:eM cf C CX E X){w:Tw.W}{x:Str}{p:Pos}(hg:Gl X x)(hd:(x== ("__debug__" : Str))=false)(h:DX cf x w=true):SE C E X (.cst w) (.Name x p):=by
 unfold DX at h;cases e:cf.cons.lookup x with
 |none=>rw[e] at h;exact absurd h eC
 |some u=>
  rw[e] at h;have e2:=ze u w h;subst e2;obtain⟨v,val,hm,rv,rw'⟩:=R.con x u e;refine SE.val ?_ rfl;rw[show Tw.ag C (.cst u)=fun _ h=>.ok u h from by funext ρ h;rw[Tw.ic]];exact sv (tu hg hm rv hd) rw'
theorem PT.bool{X:Cx}{op:BoolOp}{xs:List Expr}{p:Pos}{t:TT}(h:PT X (.BoolOp op xs p) t):PW X (.BoolOp op xs p) t:=fun _=>h
theorem no{P:Prop}(h:false=true):P:=absurd h eC
theorem K0{X:Cx}(R:eM cf C CX E X){op:Tw.Cp}{a b:Tw.E}{x y:Expr}{p:Pos}(ha:SE C E X a x)(hb:SE C E X b y)(hp:aE y=true)(hc:N4 op=true):SE C E X (.cmp op a b) (.Compare x [FT op] [y] p):=by
 have hu:X.A.units+1<cLine:=by have:=R.units;omega
 have key:∀{r:R2},cN X (compareOp (FT op)) r->(∀(ι:Nat->Addr)(h:Tw.Hp)(H:L2.Hp)(w u:Tw.W)(x y:V)(k:Bool)(Q:VK),HR (zx X E) ι h H->RW X.K ι h.length H w x->RW X.K ι h.length H u y->Tw.cmp op w u h=some k->Q (.bl k) H->r x y H Q)->SE C E X (.cmp op a b) (.Compare x [FT op] [y] p):=fun {r} ho hr=>by
  have z:=IV (pos:=p) (op:=op) ho hr ha.1 hb.1 (yd _ hp);have e:Tw.ag C (.cmp op a b)=fun ρ h=>(Tw.ag C a ρ h).bind fun x h=>(Tw.ag C b ρ h).bind fun y h=>Tw.R.of ((Tw.cmp op x y h).map .bl) h:=by funext ρ h;rw[Tw.Ik]
  unfold SE;rw[e];exact⟨z.1,fun _=>z.2⟩
 cases op with
 |eq=>exact key (KL (E:=E) R.units) QW
 |ne=>exact key (Mi (E:=E) R.units) Q8
 |lt=>exact key M8 (NR fun w u h=>by cases w<;>cases u<;>rfl)
 |le=>exact no hc
 |gt=>exact no hc
 |ge=>exact no hc
 |isin=>exact key (J9 hu) Qs
 |notin=>exact key (Cd hu) HX
 |isN=>exact key LR NL
 |notN=>exact key Hq KP
theorem L8{X:Cx}{op:Tw.Op}{a b:Tw.E}{x y:Expr}{p:Pos}(ha:SE C E X a x)(hb:SE C E X b y):SE C E X (.bin op a b) (.BinOp x (O2 op) y p):=by
 refine SE.val ?_ rfl;rw[show Tw.ag C (.bin op a b)=fun ρ h=>(Tw.ag C a ρ h).bind fun x h=>(Tw.ag C b ρ h).bind fun y h=>Tw.bin op x y h from by funext ρ h;rw[Tw.HK]];cases op with
 |add=>exact NA ha.1 hb.1
 |sub=>exact Ny ha.1 hb.1
 |mul=>exact M1 ha.1 hb.1
 |fdiv=>exact Ll ha.1 hb.1
 |mod=>exact MZ ha.1 hb.1
 |pow=>exact Nh ha.1 hb.1
theorem B6{X:Cx}{a b:Tw.E}{x y:Expr}{r:List Expr}{p:Pos}(ha:SE C E X a x)(hx:dZ x=true)(hb:PE X (.BoolOp .And (y::r) p) (tE (zx X E) (Tw.ag C b)))(hw:PW X (.BoolOp .And (y::r) p) (tT (zx X E) (Tw.ag C b))):
  SE C E X (.and a b) (.BoolOp .And (x::y::r) p):=by
 have e:Tw.ag C (.and a b)=AZ (Tw.ag C a) (Tw.ag C b):=by funext ρ h;rw[Tw.GK];rfl
 unfold SE;rw[e];exact⟨NK ha.1 hb,fun _=>(w_and (ha.2 hx) hw).pt⟩
theorem FN{X:Cx}{a b:Tw.E}{x y:Expr}{r:List Expr}{p:Pos}(ha:SE C E X a x)(hx:dZ x=true)(hb:PE X (.BoolOp .Or (y::r) p) (tE (zx X E) (Tw.ag C b)))(hw:PW X (.BoolOp .Or (y::r) p) (tT (zx X E) (Tw.ag C b))):
  SE C E X (.or a b) (.BoolOp .Or (x::y::r) p):=by
 have e:Tw.ag C (.or a b)=F6 (Tw.ag C a) (Tw.ag C b):=by funext ρ h;rw[Tw.LH];rfl
 unfold SE;rw[e];exact⟨Q4 ha.1 hb,fun _=>(w_or (ha.2 hx) hw).pt⟩
theorem KS{X:Cx}{a:Tw.E}{x:Expr}{p:Pos}(ha:SE C E X a x)(hx:dZ x=true):SE C E X (.not a) (.UnaryOp .Not x p):=by
 have e:Tw.ag C (.not a)=fun ρ h=>(Tw.ag C a ρ h).bind fun x h=>Tw.R.of ((Tw.truth h x).map fun b=>.bl (!b)) h:=by funext ρ h;rw[Tw.ID]
 unfold SE;rw[e];have z:=NC (pos:=p) ha.1 (ha.2 hx);exact⟨z.1,fun _=>z.2⟩
theorem IT{X:Cx}(R:eM cf C CX E X)(cal:X.calm=true){b:Tw.B}{a:Tw.E}{y:Expr}{p pos:Pos}(hb:OH b=true)(hb1:b≠.listE)(hb2:b≠.listR)(hg:Gl X (bN b))(ha:SE C E X a y)(hy:aE y=true):SE C E X (.blt b a) (.Call (.Name (bN b) p) [y] [] pos):=by
 refine SE.val ?_ rfl;rw[show Tw.ag C (.blt b a)=fun ρ h=>(Tw.ag C a ρ h).bind fun x h=>Tw.builtin b x h from by funext ρ h;rw[Tw.Ip]];have hst:starEach [y] X.env=(false,eval y X.env)::starEach [] X.env:=bA hy;cases b with
 |len=>exact zD (Fj Dg hg (R.blt _ (by simp[dr,bN])) PySem.boot_len (cE ha.1 dD hst) (by decide) (by decide) hst rfl) Kk
 |list=>exact zD (uo (Aa cal) hg (R.blt _ (by simp[dr,bN])) PyProof.Rows.boot_list (cE ha.1 dD hst) (by decide) (by decide) hst rfl) GO
 |tuple=>exact zD (uo Cz hg (R.blt _ (by simp[dr,bN])) PyProof.Rows.boot_tuple (cE ha.1 dD hst) (by decide) (by decide) hst rfl) EB
 |dict=>cases hb
 |int=>cases hb
 |dictP=>cases hb
 |listS=>cases hb
 |listE=>exact absurd rfl hb1
 |listR=>exact absurd rfl hb2
theorem Bf{X:Cx}{v:Expr}{x:Str}{ap cp:Pos}{ys:List Expr}(hv:aE v=true)(hn:jX v=true)(hl:(ap.endLine== cp.line)=true)(hst:starEach ys X.env=ys.map fun y=>(false,eval y X.env))(hy:ys.length<20):Me X v x ap ys cp:=by refine⟨mV hv hn,?_,hl⟩;rw[hst];simp only[backTo,mC,av];refine⟨⟨by simp,rfl⟩,?_⟩;rw[aI];show ys.length+0+0<30;omega
end
section
variable {cf:Cfg}{C:Tw.Or}{CX:eL}{E:XK}
def qP(C:Tw.Or):Tw.Es->List (DE×DE)
 |.nil=>[]
 |.cons k es=>match es with
  |.cons v r=>(Tw.ag C k,Tw.ag C v)::qP C r
  |.nil=>[]
theorem yk{X:Cx}{a:Tw.E}{x:Expr}{p:Pos}(ha:SE C E X a x)(hx:dZ x=true)(op:BoolOp):PE X (.BoolOp op [x] p) (tE (zx X E) (Tw.ag C a))/\PW X (.BoolOp op [x] p) (tT (zx X E) (Tw.ag C a)):=by
 refine⟨IF ha.1,?_⟩;cases op with
 |And=>exact Ia (ha.2 hx)
 |Or=>exact IU (ha.2 hx)
theorem qJ(N:List Str)(x:List Str)(i:Nat):(bH N x)[N.length+i]?=x[i]?:=by unfold bH;rw[qX (by simp)];simp
theorem wc{X:Cx}{scope:Scope}{x:Str}{px:Pos}(hnd:(bH X.N [x]).Nodup)(cs:fU X.N X.env.scope [x] scope):∀C s H pins fp,PG (bf X scope C [x] s H pins fp) (.Name x px) (fI X.N.length):=fun C s H pins fp=>
 lY hnd (show (bH X.N [x])[X.N.length]?=some x by have:=qJ X.N [x] 0;simpa using this) (.inl (pG (cs.la x (by simp)))) (.inr (pG (cs.la x (by simp))))
theorem xH{X:Cx}{scope:Scope}{x y:Str}{px py pt:Pos}{k:Nat}(hc:X.calm=true)(hnd:(bH X.N [x,y]).Nodup)(cs:fU X.N X.env.scope [x,y] scope):
  ∀C s H pins fp,PG (bf X scope C [x,y] s H pins fp) (.Tuple [.Name x px,.Name y py] k pt) (zH X.K 2 (mS (fI X.N.length) (mS (fI (X.N.length+1)) Ak))):=fun C s H pins fp=>
 xk hc (i9 (lY hnd (show (bH X.N [x,y])[X.N.length]?=some x by have:=qJ X.N [x,y] 0;simpa using this) (.inl (pG (cs.la x (by simp)))) (.inr (pG (cs.la x (by simp)))))
  (i9 (lY hnd (show (bH X.N [x,y])[X.N.length+1]?=some y by have:=qJ X.N [x,y] 1;simpa using this) (.inl (pG (cs.la y (by simp)))) (.inr (pG (cs.la y (by simp))))) tm))
theorem BX{o:BoolOp}(h:vo o=true):o=.And:=by cases o<;>first|rfl|cases h
theorem ER{o:BoolOp}(h:vo o=false):o=.Or:=by cases o<;>first|rfl|cases h
theorem cn{sc:Sc}{N:List Str}{ys:List Expr}(h:fC cf sc N .nil ys=true):ys=[]:=by exact br h
theorem cc{sc:Sc}{N:List Str}{t:Tw.E}{ts:Tw.Es}{ys:List Expr}(h:fC cf sc N (.cons t ts) ys=true):∃y r,ys=y::r/\aE y=true/\aM cf sc N t y=true/\fC cf sc N ts r=true:=by replace h:=ay h;obtain⟨⟨x,r⟩,e1,h⟩:=h;simp only[av] at h;exact⟨x,r,cU e1,h.1.1,h.1.2,h.2⟩
theorem PJ(m:Tw.Mt)(o:Tw.E):Tw.ag C (.nM m o .nil)=FR m (Tw.ag C o):=by
 funext ρ h;rw[Tw.yq];unfold FR
 congr 1
theorem Q2(m:Tw.Mt)(o e1:Tw.E):Tw.ag C (.nM m o (.cons e1 .nil))=yJ m (Tw.ag C o) (Tw.ag C e1):=by
 funext ρ h;rw[Tw.yq];unfold yJ
 congr 1
 funext x h
 congr 1
 rw[Tw.dR];cases Tw.ag C e1 ρ h with
 |ok a h=>simp
 |_=>rfl
theorem yG{sc:Sc}{N:List Str}{el:Tw.E}{it:Tw.It}{c:Tw.Eo}{e:Expr}(h:aM cf sc N (.comp el it c) e=true):(!cf.hd)=true/\((rT e).any fun r=>(u1 r.2.1).any fun g=>(bu g.1).any fun x=>w5 N sc [x] r.2.2.1&&decide (bH N [x]).Nodup&&aE g.2.1&&vP cf sc N false it g.2.1&&aM cf r.2.2.1.names (bH N [x]) el r.1&&
   (match c with
    |.none=>g.2.2.isEmpty
    |.some d=>(dW g.2.2).any fun z=>dZ z&&aM cf r.2.2.1.names (bH N [x]) d z))=true:=by
 cases c<;>exact kx.mp h
mutual
theorem aO:∀(t:Tw.E){E:XK}{sc:Sc}{N:List Str}{X:Cx}{e:Expr},eM cf C CX E X->cK sc N X->aM cf sc N t e=true->SE C E X t e
 |.var i,E,sc,N,X,e,R,S,h=>by
  replace h:=ay h;obtain⟨x,e1,h⟩:=h;obtain⟨p,rfl⟩:=aL e1;simp only[av,aI,kN] at h;refine SE.val ?_ rfl;exact NI (by rw[S.n];exact h.1.1.1) (S.pW x h.1.1.2) (gM h.1.2) h.2
 |.cst w,E,sc,N,X,e,R,S,h=>by
  replace h:=(Bool.or_eq_true _ _).mp h;rcases h with h|h
  .replace h:=ay h;obtain⟨c,e1,h⟩:=h;obtain⟨k,p,rfl⟩:=lI e1;exact BE h
  .replace h:=ay h;obtain⟨x,e1,h⟩:=h;obtain⟨p,rfl⟩:=aL e1;simp only[av] at h;exact Lg R (S.gl _ h.1.1) (gM h.1.2) h.2
 |.tup es,E,sc,N,X,e,R,S,h=>by
  replace h:=ay h;obtain⟨xs,e1,h⟩:=h;obtain⟨k,p,rfl⟩:=jq e1;simp only[av,aI] at h;obtain⟨_,z⟩:=jK es R S h.1;refine SE.val ?_ rfl;exact NU z (by rw[eO];omega)
 |.lst es,E,sc,N,X,e,R,S,h=>by
  replace h:=ay h;obtain⟨xs,e1,h⟩:=h;obtain⟨p,rfl⟩:=Cn e1;simp only[av,aI] at h;obtain⟨_,z⟩:=jK es R S h.1;refine SE.val ?_ rfl;exact M3 z (by rw[eO];omega)
 |.aK es,E,sc,N,X,e,R,S,h=>by
  replace h:=ay h;obtain⟨⟨ks,vs⟩,e1,h⟩:=h;obtain⟨p,rfl⟩:=Bb e1;dsimp only at h⊢;simp only[av,aI] at h;obtain⟨z1,z2,z3,z4,z5⟩:=Ku es (pos:=p) R S h.1;refine SE.val ?_ rfl;have e:Tw.ag C (.aK es)=ET (qP C es):=by funext ρ h;rw[Tw.GZ];unfold ET;rw[z5]<;>rfl
  rw[e];by_cases c:ks=[]
  .subst c;have hv:vs=[]:=List.length_eq_zero_iff.mp z3.symm;subst hv;have hp:qP C es=[]:=List.length_eq_zero_iff.mp z4;rw[hp];exact Kf
  .exact MK z1 z2 z3 c h.2 z4
 |.bin op a b,E,sc,N,X,e,R,S,h=>by
  replace h:=ay h;obtain⟨⟨x,o,y⟩,e1,h⟩:=h;obtain⟨p,rfl⟩:=Bu e1;simp only[av,aI] at h;obtain⟨⟨rfl,h1⟩,h2⟩:=h;exact L8 (aO a R S h1) (aO b R S h2)
 |.cmp op a b,E,sc,N,X,e,R,S,h=>by
  replace h:=ay h;obtain⟨⟨x,os,ys⟩,e1,h⟩:=h;obtain⟨p,rfl⟩:=uL e1;simp only[av,aI] at h;obtain⟨⟨hc,rfl⟩,h⟩:=h;replace h:=ay h;obtain⟨y,e2,h⟩:=h;obtain rfl:=bY e2;simp only[av] at h;exact K0 R (aO a R S h.1.2) (aO b R S h.2) h.1.1 hc
 |.and a b,E,sc,N,X,e,R,S,h=>by
  replace h:=ay h;obtain⟨⟨o,xs,p⟩,e1,h⟩:=h;obtain rfl:=r9 e1;simp only[av] at h;obtain⟨h0,h⟩:=h;obtain rfl:=BX h0;replace h:=ay h;obtain⟨⟨x,r⟩,e2,h⟩:=h;obtain rfl:=cU e2;replace h:=ay h;obtain⟨⟨y,r⟩,e3,h⟩:=h;obtain rfl:=cU e3;simp only[av] at h;obtain⟨⟨h0,h1⟩,h2⟩:=h;cases c:r.isEmpty with
  |true=>
   obtain rfl:=br c;have h2:(dZ y&&aM cf sc N b y)=true:=h2;rw[av] at h2;have z:=yk (p:=p) (aO b R S h2.2) h2.1 .And;exact B6 (aO a R S h1) h0 z.1 z.2
  |false=>
   rw[c,if_neg (by decide)] at h2;have z:=aO b R S h2;exact B6 (aO a R S h1) h0 z.1 (PT.bool (z.2 rfl))
 |.or a b,E,sc,N,X,e,R,S,h=>by
  replace h:=ay h;obtain⟨⟨o,xs,p⟩,e1,h⟩:=h;obtain rfl:=r9 e1;simp only[av,kN] at h;obtain⟨h0,h⟩:=h;obtain rfl:=ER h0;replace h:=ay h;obtain⟨⟨x,r⟩,e2,h⟩:=h;obtain rfl:=cU e2;replace h:=ay h;obtain⟨⟨y,r⟩,e3,h⟩:=h;obtain rfl:=cU e3;simp only[av] at h;obtain⟨⟨h0,h1⟩,h2⟩:=h;cases c:r.isEmpty with
  |true=>
   obtain rfl:=br c;have h2:(dZ y&&aM cf sc N b y)=true:=h2;rw[av] at h2;have z:=yk (p:=p) (aO b R S h2.2) h2.1 .Or;exact FN (aO a R S h1) h0 z.1 z.2
  |false=>
   rw[c,if_neg (by decide)] at h2;have z:=aO b R S h2;exact FN (aO a R S h1) h0 z.1 (PT.bool (z.2 rfl))
 |.not a,E,sc,N,X,e,R,S,h=>by
  replace h:=ay h;obtain⟨⟨o,x⟩,e1,h⟩:=h;obtain⟨p,rfl⟩:=D9 e1;simp only[av] at h;obtain⟨⟨h0,h1⟩,h2⟩:=h;obtain rfl:=Ct h0;exact KS (aO a R S h2) h1
 |.ite c a b,E,sc,N,X,e,R,S,h=>by
  replace h:=ay h;obtain⟨⟨z,x,y⟩,e1,h⟩:=h;obtain⟨p,rfl⟩:=EM e1;simp only[av] at h;obtain⟨⟨⟨h0,h1⟩,h2⟩,h3⟩:=h;refine⟨?_,fun z=>?_⟩
  .rw[show Tw.ag C (.ite c a b)=fun ρ h=>(Tw.ag C c ρ h).bind fun x h=>match Tw.truth h x with
    |some true=>Tw.ag C a ρ h
    |some false=>Tw.ag C b ρ h
    |none=>.bad from by funext ρ h;rw[Tw.G0]<;>rfl]
   exact Nt ((aO c R S h1).2 h0) (aO a R S h2).1 (aO b R S h3).1
  .simp[dZ,KO] at z
 |.idx a b,E,sc,N,X,e,R,S,h=>by
  replace h:=ay h;obtain⟨⟨x,y⟩,e1,h⟩:=h;obtain⟨p,rfl⟩:=kW e1;simp only[av] at h;refine SE.val ?_ rfl;exact MX (by have:=R.units;omega) (aO a R S h.1.2).1 (aO b R S h.2).1 (xm h.1.1)
 |.sl a lo hi,E,sc,N,X,e,R,S,h=>by
  replace h:=ay h;obtain⟨⟨x,y⟩,e1,h⟩:=h;obtain⟨p,rfl⟩:=kW e1;replace h:=ay h;obtain⟨⟨l,u,s⟩,e2,h⟩:=h;obtain⟨p2,rfl⟩:=BW e2;simp only[av,pf] at h;obtain⟨⟨⟨rfl,h1⟩,h2⟩,h3⟩:=h;refine SE.val ?_ rfl;exact GI (aO a R S h1).1 (Ge lo R S h2) (Ge hi R S h3)
 |.call f es,E,sc,N,X,e,R,S,h=>by
  replace h:=ay h;obtain⟨⟨x,as⟩,e1,h⟩:=h;obtain⟨p,pos,rfl⟩:=fL e1;simp only[av,aI,kN] at h;obtain⟨⟨⟨⟨⟨h0,h1⟩,h2⟩,hn⟩,h3⟩,hq⟩:=h;obtain⟨y,ys,rfl⟩:=oz hn;obtain⟨hp,z⟩:=jK es R S h3;obtain⟨k,g,fd,ps,G,hr,hm,hk,hb⟩:=R.own f x h0 fun z=>by rw[z] at hq;simpa using hq
  refine SE.val ?_ rfl;have hp':aE y=true/\ys.all aE=true:=by rw[eQ,av] at hp;exact hp
  refine s_call G R.pass hr (S.gl x h1) hm hk hb z (gM h2) (bA hp'.1) ?_;rw[eU hp'.2];simp[backTo]
 |.blt b a,E,sc,N,X,e,R,S,h=>by
  replace h:=kx.mp h;obtain⟨hd,h⟩:=h;have cal:=R.calm (by simpa using hd);replace h:=ay h;obtain⟨⟨x,as⟩,e1,h⟩:=h;obtain⟨p,pos,rfl⟩:=fL e1;replace h:=ay h;obtain⟨y,e2,h⟩:=h;obtain rfl:=bY e2;split at h
  .replace h:=ay h;obtain⟨⟨r,bs⟩,e3,h⟩:=h;obtain⟨p2,pos2,rfl⟩:=fL e3;replace h:=ay h;obtain⟨z,e4,h⟩:=h;obtain rfl:=bY e4;simp only[av,aI] at h;obtain⟨⟨⟨⟨⟨rfl,rfl⟩,h1⟩,h2⟩,h3⟩,h4⟩:=h;refine SE.val ?_ rfl;exact HE cal (S.gl _ h1) (R.blt _ (by simp[dr])) (S.gl _ h2) (R.blt _ (by simp[dr])) (aO a R S h4).1 h3
  .exact no h
  .next n1 n2=>
   simp only[av,aI] at h;obtain⟨⟨⟨⟨hb,rfl⟩,h2⟩,h3⟩,h4⟩:=h;exact IT R cal hb n2 n1 (S.gl _ h2) (aO a R S h4) h3
 |.nM m o es,E,sc,N,X,e,R,S,h=>by
  replace h:=ay h;obtain⟨⟨v,x,ap,ys,cp⟩,e1,h⟩:=h;obtain rfl:=gZ e1;simp only[av,aI] at h;obtain⟨⟨⟨⟨⟨⟨rfl,h1⟩,h2⟩,h3⟩,h4⟩,h5⟩,h6⟩:=h;have ho:=(aO o R S h5).1;have hu:X.A.units+1<cLine:=by have:=R.units;omega
  refine SE.val ?_ rfl;cases es with
  |nil=>
   obtain rfl:=cn h6;rw[PJ];cases m with
   |rev=>exact ML (mV h3 h4) h2 ho
   |_=>exact no h1
  |cons t1 es=>
   obtain⟨y,r,rfl,p1,q1,q2⟩:=cc h6;cases es with
   |nil=>
    obtain rfl:=cn q2;have hst:starEach [y] X.env=[(false,eval y X.env)]:=bA p1;have he:=(aO t1 R S q1).1;have me:Me X v (mN m) ap [y] cp:=Bf h3 h4 h2 (by rw[hst];rfl) (by simp);rw[Q2];cases m with
    |append=>exact D7 me hst ho he
    |join=>exact LY me hst ho he
    |index=>exact HA me hst ho he
    |_=>exact no h1
   |cons t2 es=>
    obtain⟨y2,r,rfl,p2,q4,q3⟩:=cc q2;cases es with
    |nil=>
     obtain rfl:=cn q3;cases m<;>exact no h1
    |cons e3 es=>
     obtain⟨y3,r,rfl,_⟩:=cc q3;cases m<;>exact no h1
 |.wu a t,E,sc,N,X,e,R,S,h=>by
  exact no h
 |.comp el it c,E,sc,N,X,e,R,S,h=>by
  replace h:=yG h;obtain⟨hd,h⟩:=h;have cal:=R.calm (by simpa using hd);replace h:=ay h;obtain⟨⟨y,gs,scope,pos⟩,e1,h⟩:=h;obtain rfl:=jU e1;replace h:=ay h;obtain⟨⟨tg,iter,ifs⟩,e2,h⟩:=h;obtain rfl:=kS e2;replace h:=ay h;obtain⟨x,e3,h⟩:=h;obtain⟨px,rfl⟩:=aL e3;simp only[av,aI] at h;obtain⟨⟨⟨⟨⟨h0,h1⟩,h2⟩,h3⟩,h4⟩,h5⟩:=h;have cs:=sj S h0;have hk:scope.kind=.function:=cs.kind;have hnd:(bH X.N [x]).Nodup:=by rw[S.n];exact h1
  have sees:∀{Cc:Addr}{s:Shared}{H:L2.Hp}{pins:aJ}{fp:List Addr},cK scope.names (bH N [x]) (bf X scope Cc [x] s H pins fp):=fun {Cc s H pins fp}=>by
   have z:=cK.comp (X:=X) (scope:=scope) (C:=Cc) (x:=[x]) (s:=s) (H:=H) (pins:=pins) (fp:=fp) hk;rw[S.n] at z;exact z
  refine SE.val ?_ rfl;have hev:Tw.ag C (.comp el it c)=nC Bw (Tw.dN C it) (Tw.fw C c) (Tw.ag C el):=by funext ρ h;rw[Tw.fM];rfl
  rw[hev];refine CS cal cs (wc hnd cs) (xA _ _) (sM it R S h3 (fun z=>nomatch z)) (dz h2) (fun Cc s H pins fp=>(aO el R.comp sees h4).1) ?_;cases c with
  |none=>
   obtain rfl:=br (show ifs.isEmpty=true from h5);exact .inl ⟨rfl,fun ρ h=>by rw[Tw.oJ]⟩
  |some d=>
   replace h5:=ay h5;obtain⟨z,e4,h5⟩:=h5;obtain rfl:=bY (show dW ifs=some z from e4);rw[av] at h5;exact .inr ⟨z,Tw.ag C d,rfl,fun ρ h=>by rw[Tw.ub],fun Cc s H pins fp=>(aO d R.comp sees h5.2).2 h5.1⟩
 |.jj el it,E,sc,N,X,e,R,S,h=>by
  replace h:=kx.mp h;obtain⟨hd,h⟩:=h;have cal:=R.calm (by simpa using hd);replace h:=ay h;obtain⟨⟨y,gs,scope,pos⟩,e1,h⟩:=h;obtain rfl:=jU e1;replace h:=ay h;obtain⟨⟨tg,iter,ifs⟩,e2,h⟩:=h;obtain rfl:=kS e2;rw[av] at h;obtain⟨hi,h⟩:=h;obtain rfl:=br (show ifs.isEmpty=true from hi);replace h:=ay h;obtain⟨ts,e3,h⟩:=h;obtain⟨kt,pt,rfl⟩:=jq e3;replace h:=ay h;obtain⟨⟨n1,n2⟩,e4,h⟩:=h;obtain rfl:=j9 e4;replace h:=ay h;obtain⟨x,e5,h⟩:=h;obtain⟨px,rfl⟩:=aL e5;replace h:=ay h;obtain⟨x2,e6,h⟩:=h;obtain⟨px2,rfl⟩:=aL e6;simp only[av,aI] at h;obtain⟨⟨⟨⟨h0,h1⟩,h2⟩,h3⟩,h4⟩:=h;have cs:=sj S h0;have hk:scope.kind=.function:=cs.kind;have hnd:(bH X.N [x,x2]).Nodup:=by rw[S.n];exact h1
  have sees:∀{Cc:Addr}{s:Shared}{H:L2.Hp}{pins:aJ}{fp:List Addr},cK scope.names (bH N [x,x2]) (bf X scope Cc [x,x2] s H pins fp):=fun {Cc s H pins fp}=>by
   have z:=cK.comp (X:=X) (scope:=scope) (C:=Cc) (x:=[x,x2]) (s:=s) (H:=H) (pins:=pins) (fp:=fp) hk;rw[S.n] at z;exact z
  refine SE.val ?_ rfl;have hev:Tw.ag C (.jj el it)=nC nG (Tw.dN C it) (fun _ h=>.ok none h) (Tw.ag C el):=by
   funext ρ h;rw[Tw.jy];unfold nC
   congr 1
   funext s h;rw[tS]
  rw[hev];exact CS cal cs (xH cal hnd cs) (wb _ _) (sM it R S h3 (fun _=>⟨_,_,_,rfl⟩)) (dz h2) (fun Cc s H pins fp=>(aO el R.comp sees h4).1) (.inl ⟨rfl,fun _ _=>rfl⟩)
 |.bad,E,sc,N,X,e,R,S,h=>by
  refine⟨?_,fun _=>?_⟩
  .rw[show Tw.ag C .bad=fun _ _=>.bad from by funext ρ h;rw[Tw.sX]];exact fun pins s σ H Q I ⟨ρ,h,ι,at',p⟩=>p.elim
  .rw[show Tw.ag C .bad=fun _ _=>.bad from by funext ρ h;rw[Tw.sX]];exact fun pins s σ H Q I ⟨ρ,h,ι,at',p⟩=>p.elim
 |.fld a x,E,sc,N,X,e,R,S,h=>by
  replace h:=ay h;obtain⟨⟨v,y,p⟩,e1,h⟩:=h;obtain rfl:=iE e1;simp only[av,aI] at h;obtain⟨⟨⟨⟨rfl,h1⟩,h2⟩,h3⟩,h4⟩:=h;refine SE.val ?_ rfl;exact NF (by rw[Ae] at h1;simpa using h1) (mV h2 h3) (aO a R S h4).1
 |.mk c f es,E,sc,N,X,e,R,S,h=>by
  replace h:=kx.mp h;obtain⟨hd,h⟩:=h;replace h:=ay h;obtain⟨⟨x,ys⟩,e1,h⟩:=h;obtain⟨p,pos,rfl⟩:=fL e1;simp only[av,aI] at h;obtain⟨⟨⟨⟨rfl,h0⟩,h1⟩,h2⟩,h3⟩:=h;obtain⟨hp,z⟩:=jK es R S h3;obtain⟨k,g,fd,ps,A,G,hr,hm,gc,hmk,_,hb⟩:=R.me f c gQ (by simpa using hd) h0;refine SE.val ?_ rfl;rw[show Tw.ag C (.mk c f es)=fun ρ h=>(Tw.bS C es ρ h).bind fun xs h=>(C f (.ref h.length::xs) (h++[.ins c []])).bind fun r h'=>match r with
   |.ak=>.ok (.ref h.length) h'
   |_=>.bad from by funext ρ h;rw[Tw.Li]<;>rfl]
  exact QI (hmk rfl) gc G R.pass hr (S.gl _ h1) hm hb z (gM h2) hp
 |.own o c m f es,E,sc,N,X,e,R,S,h=>by
  replace h:=kx.mp h;obtain⟨hd,h⟩:=h;replace h:=ay h;obtain⟨⟨v,x,ap,ys,cp⟩,e1,h⟩:=h;obtain rfl:=gZ e1;simp only[av,aI] at h;obtain⟨⟨⟨⟨⟨⟨⟨⟨rfl,h0⟩,h1⟩,h2⟩,h3⟩,h4⟩,h5⟩,h6⟩,h7⟩:=h;obtain⟨hp,z⟩:=jK es R S h7;obtain⟨k,g,fd,ps,A,G,hr,hm,gc,_,hme,hb⟩:=R.me f c m (by simpa using hd) h0;refine SE.val ?_ rfl;exact M6 (hme h1) G R.pass (hr.mono (i6 k)) hm gc hb (aO o R S h6).1 z (Bf h4 h5 h2 (eU hp) h3) hp
 |.qN g k es,E,sc,N,X,e,R,S,h=>by
  replace h:=kx.mp h;obtain⟨hd,h⟩:=h;replace h:=ay h;obtain⟨⟨fn,as,ks,pos⟩,e1,h⟩:=h;obtain rfl:=mY e1;simp only[av,kN] at h;obtain⟨⟨hk0,hn⟩,h⟩:=h;obtain rfl:=br (show ks.isEmpty=true from hk0);obtain⟨z,zs,rfl⟩:=oz (show as.isEmpty=false from hn);replace h:=ay h;obtain⟨⟨s1,y⟩,e2,h⟩:=h;obtain⟨p2,rfl⟩:=kW (show mQ fn=some (s1,y) from e2);replace h:=ay h;obtain⟨x,e3,h⟩:=h;obtain⟨p1,rfl⟩:=aL (show bu s1=some x from e3);simp only[av,aI] at h;obtain⟨⟨⟨⟨⟨h0,h1⟩,h2⟩,h3⟩,h4⟩,h5⟩:=h;obtain⟨hp,Z⟩:=jK es R S h5;obtain⟨t,D,hm,T,hg⟩:=R.tab x g h0;refine SE.val ?_ rfl;rw[show Tw.ag C (.qN g k es)=fun ρ h=>(Tw.ag C k ρ h).bind fun x h=>match Tw.pick g x with
   |some f=>(Tw.bS C es ρ h).bind fun xs h=>C f xs h
   |none=>.bad from by funext ρ h;rw[Tw.xK]<;>rfl]
  refine Jg (S.gl x h1) hm (gM h2) T (fun s f e=>?_) R.pass (aO k R S h4).1 h3 Z hp;obtain⟨yy,ga,q1,q2,q3⟩:=hg s f e;obtain⟨k',g2,fd,ps,G,hr,hm',hk',hb⟩:=R.own f yy q1 fun z=>by rw[z] at hd;cases hd
  have eg:g2=ga:=by rw[hm'] at q2;exact Value.ref.inj (eE q2)
  subst eg;exact⟨g2,k',fd,ps,q3,G,hr,hk',hb⟩
 |.la a ns ds cs,E,sc,N,X,e,R,S,h=>no h
 |.uJ a x ds,E,sc,N,X,e,R,S,h=>by
  cases a with
  |var i=>
   replace h:=ay h;obtain⟨⟨y,f⟩,e1,h⟩:=h;obtain⟨p1,p2,rfl⟩:=Ea e1;simp only[av,aI,lP] at h;obtain⟨⟨⟨⟨h1,h2⟩,h3⟩,rfl⟩,h5⟩:=h;refine SE.val ?_ rfl;rw[show Tw.ag C (.uJ (.var i) x ds)=fun ρ h=>(match ρ[i]? with|some (some w)=>Tw.R.ok w h|_=>.bad).bind fun w h=>Tw.R.of (Tw.kF w x ds h) h from by funext ρ h;rw[Tw.G9,Tw.iV]<;>rfl];refine N1 (by rw[S.n];exact h1) (S.pW _ h2) h3 fun d hd=>?_;obtain⟨fs,ef,hx⟩:=ay (h5 d hd);obtain⟨Cx,m,xc,_,na⟩:=R.xf.exc d fs ef;exact⟨Cx,m,xc,na x (by simpa using hx)⟩
  |_=>exact no h
 |.zu k g,E,sc,N,X,e,R,S,h=>by
  replace h:=ay h;obtain⟨⟨y,os,ys⟩,e1,h⟩:=h;obtain⟨pos,rfl⟩:=uL e1;simp only[av,aI] at h;obtain⟨rfl,h⟩:=h;replace h:=ay h;obtain⟨z,e2,h⟩:=h;obtain rfl:=bY e2;replace h:=ay h;obtain⟨x,e3,h⟩:=h;obtain⟨p,rfl⟩:=aL e3;simp only[av,aI] at h;obtain⟨⟨⟨h0,h1⟩,h2⟩,h3⟩:=h;obtain⟨t,D,hm,T,hk⟩:=R.key x g h0;have z:=N0 (p1:=p) (pos:=pos) (g:=g) (S.gl x h1) hm (gM h2) T hk (aO k R S h3).1;have hev:Tw.ag C (.zu k g)=fun ρ h=>(Tw.ag C k ρ h).bind fun x h=>match x with
   |.str s=>.ok (.bl (g.contains s)) h
   |_=>.bad:=by funext ρ h;rw[Tw.tq]<;>rfl
  unfold SE;rw[hev];exact⟨z.1,fun _=>z.2⟩
theorem jK:∀(ts:Tw.Es){E:XK}{sc:Sc}{N:List Str}{X:Cx}{es:List Expr},eM cf C CX E X->cK sc N X->fC cf sc N ts es=true->es.all aE=true/\PA X es (tA (zx X E) es.length (Tw.bS C ts))
 |.nil,E,sc,N,X,es,R,S,h=>by
  obtain rfl:=br h;refine⟨rfl,?_⟩;rw[show Tw.bS C .nil=fun _ h=>.ok [] h from by funext ρ h;rw[Tw.fW]];exact NO
 |.cons t ts,E,sc,N,X,es,R,S,h=>by
  replace h:=ay h;obtain⟨⟨x,r⟩,e1,h⟩:=h;obtain rfl:=cU e1;simp only[av] at h;obtain⟨⟨h0,h1⟩,h2⟩:=h;obtain⟨z1,z2⟩:=jK ts R S h2;refine⟨by rw[eQ,h0,z1];rfl,?_⟩;exact Km (aO t R S h1).1 z2 (bA h0)
theorem Ku:∀(ts:Tw.Es){E:XK}{sc:Sc}{N:List Str}{X:Cx}{ks:List (Option Expr)}{vs:List Expr}{pos:Pos},eM cf C CX E X->cK sc N X->xh cf sc N ts ks vs=true->
  yh X pos ks vs ((qP C ts).map fun p=>(tE (zx X E) p.1,tE (zx X E) p.2))/\ks.all (·.isSome)=true/\ks.length=vs.length/\(qP C ts).length=ks.length/\fc (qP C ts)=Tw.bS C ts
 |.nil,E,sc,N,X,ks,vs,pos,R,S,h=>by
  rw[xh.eq_def] at h;dsimp only at h;rw[av] at h;obtain rfl:=br h.1;obtain rfl:=br h.2;refine⟨HZ,rfl,rfl,rfl,?_⟩;funext ρ h;rw[Tw.fW];rfl
 |.cons t ts,E,sc,N,X,ks,vs,pos,R,S,h=>by
  rw[xh.eq_def] at h;dsimp only at h;cases ts with
  |nil=>exact no h
  |cons v r=>
   dsimp only at h;replace h:=ay h;obtain⟨⟨k0,ks⟩,e1,h⟩:=h;obtain rfl:=cU e1;replace h:=ay h;obtain⟨⟨y,vs⟩,e2,h⟩:=h;obtain rfl:=cU e2;replace h:=ay h;obtain⟨x,e3,h⟩:=h;dsimp only at e3;subst e3;simp only[av] at h;obtain⟨⟨h0,h1⟩,h2⟩:=h;obtain⟨z1,z2,z3,z4,z5⟩:=Ku r (pos:=pos) R S h2;refine⟨Eg (aO t R S h0).1 (aO v R S h1).1 z1,by rw[eQ,z2];rfl,by rw[cQ,cQ,z3],by rw[cQ,<-z4];rfl,?_⟩;funext ρ h;rw[Tw.dR];show (Tw.ag C t ρ h).bind (fun x h=>(Tw.ag C v ρ h).bind fun y h=>(fc (qP C r) ρ h).bind fun xs h=>.ok (x::y::xs) h)=_;rw[z5]
   congr 1
   funext x h;rw[Tw.dR,bind_assoc]
   congr 1
   funext y h;rw[bind_assoc];rfl
theorem Ge:∀(t:Tw.Eo){E:XK}{sc:Sc}{N:List Str}{X:Cx}{o:Option Expr},eM cf C CX E X->cK sc N X->zT cf sc N t o=true->PO X o (B8 (zx X E) (Tw.fw C t))
 |.none,E,sc,N,X,o,R,S,h=>by
  obtain rfl:=pf.mp h;rw[show Tw.fw C .none=fun _ h=>.ok none h from by funext ρ h;rw[Tw.oJ]];exact DR
 |.some t,E,sc,N,X,o,R,S,h=>by
  replace h:=ay h;obtain⟨x,rfl,h⟩:=h;exact Dy (aO t R S h).1
theorem sM:∀(t:Tw.It){E:XK}{sc:Sc}{N:List Str}{X:Cx}{tp:Bool}{tg e:Expr},eM cf C CX E X->cK sc N X->vP cf sc N tp t e=true->(tp=true->∃es n p,tg=.Tuple es n p)->PI X tg e (tI (zx X E) (Tw.dN C t))
 |.seq a,E,sc,N,X,tp,tg,e,R,S,h,ht=>by
  exact M0 (aO a R S h).1
 |.hZ a,E,sc,N,X,tp,tg,e,R,S,h,ht=>by
  replace h:=ay h;obtain⟨⟨x,as⟩,e1,h⟩:=h;obtain⟨p,pos,rfl⟩:=fL e1;replace h:=ay h;obtain⟨y,e2,h⟩:=h;obtain rfl:=bY e2;simp only[av,aI] at h;obtain⟨⟨⟨rfl,h1⟩,h2⟩,h3⟩:=h;rw[show Tw.dN C (.hZ a)=fun ρ h=>(Tw.ag C a ρ h).bind fun x h=>match x with
   |.int j=>if Tw.c8 j then .ok (.fix (Tw.upTo 0 j.toNat)) h else .bad
   |_=>.bad from by funext ρ h;rw[Tw.qK]<;>rfl]
  exact NB (S.gl _ h1) (R.blt _ (by simp[dr])) (aO a R S h3).1 (bA h2)
 |.Bm a b,E,sc,N,X,tp,tg,e,R,S,h,ht=>by
  exact no h
 |.zip a b,E,sc,N,X,tp,tg,e,R,S,h,ht=>by
  exact no h
 |.enum a,E,sc,N,X,tp,tg,e,R,S,h,ht=>by
  replace h:=ay h;obtain⟨⟨x,as⟩,e1,h⟩:=h;obtain⟨p,pos,rfl⟩:=fL e1;replace h:=ay h;obtain⟨y,e2,h⟩:=h;obtain rfl:=bY e2;simp only[av,aI] at h;obtain⟨⟨⟨⟨h0,rfl⟩,h1⟩,h2⟩,h3⟩:=h;obtain⟨es,n,p,rfl⟩:=ht h0;rw[show Tw.dN C (.enum a)=fun ρ h=>(Tw.ag C a ρ h).bind fun x h=>match x with
   |.tup xs=>.ok (.fix (Tw.eT 0 xs)) h
   |.ref a=>match h[a]? with
    |some (.lst xs)=>.ok (.ea a xs.length) h
    |_=>.bad
   |_=>.bad from by funext ρ h;rw[Tw.Cq]<;>rfl]
  exact Ky (S.gl _ h1) (R.blt _ (by simp[dr])) (aO a R S h3).1 (bA h2)
 |.rev a,E,sc,N,X,tp,tg,e,R,S,h,ht=>by
  replace h:=ay h;obtain⟨⟨x,as⟩,e1,h⟩:=h;obtain⟨p,pos,rfl⟩:=fL e1;replace h:=ay h;obtain⟨y,e2,h⟩:=h;obtain rfl:=bY e2;simp only[av,aI] at h;obtain⟨⟨⟨rfl,h1⟩,h2⟩,h3⟩:=h;rw[show Tw.dN C (.rev a)=fun ρ h=>(Tw.ag C a ρ h).bind fun x h=>match x with
   |.ref a=>match h[a]? with
    |some (.lst xs)=>.ok (.rv a xs.length) h
    |_=>.bad
   |_=>.bad from by funext ρ h;rw[Tw.DD]<;>rfl]
  exact NV (S.gl _ h1) (R.blt _ (by simp[dr])) (aO a R S h3).1 (bA h2)
end
end
def FH(X:Cx)(c:Tw.S)(fs:List Tw.S):Prop:=∃C,X.mg (str c)=some (.ref C)/\((fs=[]/\wg X.K C)\/∃f k fd ps,fs≠ []/\vR X.K C f/\XC X.K C/\(∀g∈fs.map str,bo X.K C g)/\fs.length<=1000/\
 kK X.prog X.w X.K X.mg X.base (cO X.prog X.w) k f fd ps (mx X.K (fs.map str))/\qx (k+1) X.A/\Binds X.K fd ps [])
theorem RF.zip{K:W.Frag}{ι:Nat->Addr}{n:Nat}{H:L2.Hp}:∀{xs:List Tw.S}{ws:List Tw.W}{vs:List V},aT K ι n H ws vs->ws.length=xs.length->RF K ι n H (xs.zip ws) ((xs.map str).zip vs)
 |[],_,_,.nil,_=>.nil
 |x::xs,_,_,.cons a r,h=>.cons a (RF.zip r (by simpa using h))
 |[],_,_,.cons _ _,h=>by cases h
 |_::_,_,_,.nil,h=>by cases h
section
variable {X:Cx}{E:XK}
theorem G3{ds:Tw.Env->Tw.Hp->Tw.R (List Tw.W)}(hx:X.ex=[])(hs:X.stack=X.env::X.outer)(hfm:X.env.frame=some X.env.locals)(hxe:X.xe=nB X E)(ok:FH X c xs)(ne:xs≠ [])(hg:Gl X (str c))
  (ha:PA X (e::es) (tA (zx X E) n ds)) (hdb:(str c== ("__debug__" : Str))=false) (hst:starEach (e::es) X.env=(false,eval e X.env)::starEach es X.env) (hpl:(backTo cpos (starEach es X.env)).any (·.1)=false):
  PS X (.Raise (some (.Call (.Name (str c) np) (e::es) [] cpos)) none pos) (cz (zx X E) fun ρ h=>(ds ρ h).bind fun ws h=>Tw.iT c xs ws h):=by
 obtain⟨C,hm,⟨z,_⟩|⟨f,k,fd,ps,_,M,xc,na,hz,F,hr,hb⟩⟩:=ok
 .exact absurd z ne
 refine PS.imp (D4 hx hs hfm hxe M xc na (by simpa using hz) F hr hg hm hb ha hdb hst hpl) fun D σ H ⟨ρ,h,ι,at',p⟩=>⟨ρ,h,ι,at',(fB at' p).mono fun vs H1 ⟨ws,h1,ι1,at1,e1,r1,p1⟩=>?_⟩;unfold Tw.iT at p1;by_cases c1:ws.length=xs.length
 .rw[if_pos c1] at p1;refine⟨by rw[<-r1.1.length,c1];simp,fun ea dx z1 z2 z3=>?_⟩;obtain⟨r2,e2⟩:=at1.hr.grow (o:=.xd ((xs.map str).zip vs)) z2;have z1':upd H1 dx (.xd ((xs.map str).zip vs)) ea=none:=by rw[aq (aX z3)];exact z1
  obtain⟨r3,e3⟩:=r2.DF (u:=.ax c (xs.zip ws)) (o:=gK C (some dx) ea) z1' fun ι' n' H' kp fr eq=>⟨C,some dx,(xs.map str).zip vs,hm,eq,fr _ _ aB,((RF.zip r1.1 c1).keep (e2.keeps at1.hr)).keep kp⟩;have:=p1 _ _ (e2.trans e3) r3;rw[cG] at this;exact this
 .rw[if_neg c1] at p1;exact p1.elim
theorem ES(hx:X.ex=[])(hs:X.stack=X.env::X.outer)(hfm:X.env.frame=some X.env.locals)(hxe:X.xe=nB X E)(cal:X.calm=true)(hm:X.mg (str c)=some (.ref C))(M:wg X.K C)(hg:Gl X (str c))(hdb:(str c== ("__debug__" : Str))=false):
  PS X (.Raise (some (.Call (.Name (str c) np) [.Constant (.str y) k p] [] cpos)) none pos) (cz (zx X E) fun _ h=>Tw.iT c [] [] h):=by
 refine PS.imp (BP (t:=nq (tC (.str y)) xP) hx hs hfm hxe M cal hg hm (cE BA dD rfl) hdb rfl rfl) fun D σ H ⟨ρ,h,ι,at',p⟩=>⟨by simp,fun ea z1=>?_⟩;obtain⟨r3,e3⟩:=at'.hr.DF (u:=.ax c []) (o:=gK C none ea) z1 fun ι' n' H' kp fr eq=>⟨C,none,[],hm,eq,rfl,.nil⟩;have:=p _ _ e3 r3;rw[cG] at this;exact this
theorem At.Fq{K:Zk}{ι:Nat->Addr}{h:Tw.Hp}{H:L2.Hp}{ρ:Tw.Env}{σ:L2.St}(a:At K ι h H ρ σ)(j:Nat)(x:Option V):At K ι h H (ρ.set j none) (σ.set j x) where
 hr:=a.hr
 len:=by rw[w8,w8];exact a.len
 st:=fun i u e=>by
  by_cases z:j=i
  .subst z;have hi:j<ρ.length:=by
    have:=(dE.mp e).1;simpa using this
   rw[iu hi] at e;cases e
  .rw[iy z] at e;obtain⟨v',h1,h2⟩:=a.st i u e;exact⟨v',by rw[iy z];exact h1,h2⟩
end
def vi(cf:Cfg)(sc:Sc)(N:List Str)(o:Tw.E)(c m:Tw.S)(f:Nat)(es:Tw.Es)(e:Expr):Bool:=(vQ e).any fun q=>!(q.2.2.2.1.isEmpty)&&decide (q.2.1=str m)&&decide (cf.fns[f]?=some (.me c m))&&decide (m≠gQ)&&(q.2.2.1.endLine== q.2.2.2.2.line)&&decide (q.2.2.2.1.length<20)&&aE q.1&&jX q.1&&aM cf sc N o q.1&&fC cf sc N es q.2.2.2.1
def A2(cf:Cfg)(sc:Sc)(N:List Str)(t:Tw.Tb)(s:Stmt):Bool:=match t with
 |.call o c m f es u=>(match u with
  |none=>(uY s).any fun e=>vi cf sc N o c m f es e
  |some z=>(qY s).any fun r=>r.any fun e=>(sx e).any fun xs=>(xI xs).any fun q=>vi cf sc N o c m f es q.1&&(mj q.2).any fun k=>DO z k)
 |.ret e=>(qY s).any fun r=>r.any fun x=>aM cf sc N e x
 |.lH i o c m f es=>(zV s).any fun r=>(dW r.1).any fun t=>(bu t).any fun y=>decide (N[i]?=some y)&&decide (sc.lookup y=some .local)&&vi cf sc N o c m f es r.2.1
noncomputable def rB:Tw.Tb->Bool
 |.lH .. => false
 |_=>true
noncomputable def kA(cf:Cfg)(sc:Sc)(N:List Str):List Tw.Tb->List Stmt->Bool
 |[],ss=>ss.isEmpty
 |t::ts,ss=>(k7 ss).any fun r=>A2 cf sc N t r.1&&kA cf sc N ts r.2&&(rB t || ts.isEmpty)
def GC(cf:Cfg)(sc:Sc)(N:List Str)(t:Tw.Hs)(s:Stmt):Bool:=match t with
 |.ret e=>(qY s).any fun r=>r.any fun x=>aM cf sc N e x
 |.Bd c e=>(K3 s).any fun r=>dZ r.1&&aM cf sc N c r.1&&r.2.2.isEmpty&&(dW r.2.1).any fun t=>(qY t).any fun r=>r.any fun x=>aM cf sc N e x
noncomputable def pJ(cf:Cfg)(sc:Sc)(N:List Str):List Tw.Hs->List Stmt->Bool
 |[],ss=>ss.isEmpty
 |t::ts,ss=>(k7 ss).any fun r=>GC cf sc N t r.1&&pJ cf sc N ts r.2
noncomputable def El:ExceptHandler->Option (Str×Str×List Stmt)
 |.ExceptHandler (some t) (some n) b _=>(bu t).map fun x=>(x,n,b)
 |_=>none
theorem E5{l:ExceptHandler}{r:Str×Str×List Stmt}(h:El l=some r):∃p q,l=.ExceptHandler (some (.Name r.1 p)) (some r.2.1) r.2.2 q:=by
 obtain⟨t,n,b,q⟩:=l;cases t with
 |none=>cases h
 |some t=>
  cases n with
  |none=>cases h
  |some n=>
   obtain⟨x,e1,rfl⟩:=je.mp h;obtain⟨p,rfl⟩:=aL e1;exact⟨p,q,rfl⟩
noncomputable def mW(cf:Cfg)(sc:Sc)(N:List Str):List Tw.Hd->List ExceptHandler->Bool
 |[],l=>l.isEmpty
 |t::ts,l=>(k7 l).any fun r=>(El r.1).any fun h=>decide (h.1=str t.1)&&decide ((t.1,t.2.1)∈cf.eB)&&t.2.1.all (fun c=>(cf.bQ.lookup c).isSome)&&jG sc h.1&&pY h.1&&decide (N[t.2.2.1]?=some h.2.1)&&decide (sc.lookup h.2.1=some .local)&&!(t.2.2.2.isEmpty)&&pJ (yL cf) sc N t.2.2.2 h.2.2&&mW cf sc N ts r.2
section
variable {cf:Cfg}{C:Tw.Or}{CX:eL}{E:XK}{sc:Sc}{N:List Str}{X:Cx}
theorem Nk(R:eM cf C CX E X)(S:cK sc N X){t:Tw.Hs}{s:Stmt}(h:GC cf sc N t s=true):PS X s (cz (zx X E) fun ρ h=>Tw.KQ C ρ h t):=by
 cases t with
 |ret e=>
  replace h:=ay h;obtain⟨o,e1,h⟩:=h;obtain⟨p,rfl⟩:=i8 e1;replace h:=ay h;obtain⟨x,rfl,h⟩:=h;exact Ap (aO e R S h).1
 |Bd c e=>
  replace h:=ay h;obtain⟨⟨x,ys,zs⟩,e1,h⟩:=h;obtain⟨p,rfl⟩:=yZ e1;simp only[av] at h;obtain⟨⟨⟨h1,h2⟩,h3⟩,h⟩:=h;obtain rfl:=br (show zs.isEmpty=true from h3);replace h:=ay h;obtain⟨t,e2,h⟩:=h;obtain rfl:=bY (show dW ys=some t from e2);replace h:=ay h;obtain⟨o,e3,h⟩:=h;obtain⟨p2,rfl⟩:=i8 e3;replace h:=ay h;obtain⟨y,rfl,h⟩:=h;exact LN ((aO c R S h2).2 h1) (Ie (Ap (aO e R S h).1)) wD
theorem F7(R:eM cf C CX E X)(S:cK sc N X):∀(ts:List Tw.Hs){ss:List Stmt},pJ cf sc N ts ss=true->dU X ss (cz (zx X E) (Tw.qH C ts))
 |[],ss,h=>by
  rw[pJ] at h;obtain rfl:=br h;exact wD
 |t::ts,ss,h=>by
  rw[pJ] at h;replace h:=ay h;obtain⟨⟨s,r⟩,e1,h⟩:=h;obtain rfl:=cU e1;rw[av] at h;exact yf (Nk R S h.1) (F7 R S ts h.2)
abbrev XB(X:Cx)(pins:aJ)(σ:L2.St)(EE:XK):aH:=fun ex s'=>∃H1 s1,Inv X pins σ H1 s1/\cO X.prog X.w X.stack H1 s1 EE ex s'
variable {pins:aJ}{σ:L2.St}{H:L2.Hp}{s:Shared}{EE:XK}
theorem AF(R:eM cf C (cO X.prog X.w) E X)(S:cK sc N X){o:Tw.E}{c m:Tw.S}{f:Nat}{es:Tw.Es}{e:Expr}(hdf:cf.hd=false)(hc:vi cf sc N o c m f es e=true)(I:Inv X pins σ H s){Q:VK}(h:tE ⟨X.K,X.mg,EE,X.A.handled⟩ (Tw.nY C o c m f es) σ H Q):
  wpAny (model X.prog X.w) X.A (eval e X.env) (EP X pins σ Q) (XB X pins σ EE) s:=by
 replace hc:=ay hc;obtain⟨⟨v,a,ap,as,cp⟩,e4,hc⟩:=hc;obtain rfl:=gZ e4;simp only[av,aI,kN] at hc;obtain⟨⟨⟨⟨⟨⟨⟨⟨⟨hy,rfl⟩,g1⟩,g2⟩,g3⟩,g4⟩,g5⟩,g6⟩,g7⟩,g8⟩:=hc;obtain⟨y,ys,rfl⟩:=oz hy;obtain⟨k,g,fd,ps,A,G,hr,hm,gc,_,hme,hb⟩:=R.me f c m hdf g1;have S0:cK sc N X.qe:=⟨S.n,S.kind,S.pW,S.gl,S.cf⟩;obtain⟨hp,z⟩:=jK es R.qe S0 g8;have me:=Bf (X:=X) (x:=str m) g5 g6 g3 (eU hp) g4;have ht:=og (apos:=ap) (pos:=cp) me.base me.wt me.line;have hp2:=hp;rw[eQ,av] at hp2;refine Ez (E:=EE) I (aO o R.qe S0 g7).1 gc.cls (hme g2) G (hr.mono (i6 k)) hb z (bA hp2.1) (by rw[eU hp2.2];simp[backTo]) ht (fun H1 s1 ex s2 J z=>⟨H1,s1,J,z⟩) ?_;obtain⟨ρ,h,ι,at',p⟩:=h;unfold Tw.nY at p;refine⟨ρ,h,ι,at'.ex,?_⟩;cases e0:Tw.ag C o ρ h with
 |bad=>rw[e0] at p;exact p.elim
 |ax=>rw[e0] at p;exact p.elim
 |ok w h1=>
  simp only[e0,Tw.R.lS,Tw.R.aw] at p;cases c1:Tw.gR w c m h1 with
  |false=>rw[c1,if_neg (by decide)] at p;exact p.elim
  |true=>
   rw[c1,if_pos rfl] at p;intro ι1 H1 v1 ex1 r1 q1;have at1:At ⟨X.K,X.mg,EE,X.A.handled⟩ ι1 h1 H1 ρ σ:=at'.later ex1 (HR.ex (E':=EE) r1);cases q1 with
   | @ref i hi=>
    cases ei:h1[i]? with
    |none=>simp[Tw.gR,ei] at c1
    |some ob=>
     cases ob with
     |ins c' gs=>
      simp only[Tw.gR,ei,av,aI] at c1;obtain⟨rfl,c2⟩:=c1;obtain⟨C',dx,gs',⟨mc,gc'⟩,q1,q2⟩:=at1.hr.ins ei;have ec:C'=A:=by have mc:X.mg (str c')=some (.ref C'):=mc;rw[hm] at mc;cases mc;rfl
      subst ec;refine⟨_,dx,gs',rfl,q1,?_,ρ,h1,ι1,at1.ex,?_⟩
      .rcases q2.look (x:=m) with ⟨_,z⟩|⟨u,v,z,_⟩
       .exact z
       .rw[z] at c2;cases c2
      .cases e1:Tw.bS C es ρ h1 with
       |bad=>rw[e1] at p;exact p.elim
       |ax=>rw[e1] at p;exact p.elim
       |ok ws h2=>
        simp only[e1,Tw.R.lS,Tw.R.aw] at p;intro ι2 H2 vs ex2 r2 q2';rw[hJ];exact⟨.ref i::ws,h2,ι2,HR.ex (E':=EE) r2,.cons ((RW.ref hi).keep (ex2.keeps at1.hr)) q2'.1,ah.later p (ex1.trans ex2)⟩
     |_=>simp[Tw.gR,ei] at c1
   |_=>cases c1
theorem Jl{es:List Expr}{k:Nat}{tp:Pos}{Q:VK}{xe:aH}(h:wpAny (model X.prog X.w) X.A (spliced (backTo tp (starEach es X.env))) (AP X pins σ fun xs H1=>xs.length<=sizeLine/\∀p,H1 p=none->Q (.ref p) (upd H1 p (.tup xs))) xe s):
  wpAny (model X.prog X.w) X.A (eval (.Tuple es k tp) X.env) (EP X pins σ Q) xe s:=by
 refine wpAny_Tuple_spliced (az h fun us s1 ⟨xs,H1,I1,r,z,q⟩=>⟨by rw[<-r.length];exact z,?_⟩);have hf:H1 s1.heap.objs.size=none:=I1.ao.fresh (aA _);refine⟨.ref s1.heap.objs.size,upd H1 s1.heap.objs.size (.tup xs),I1.laid (t':=s1.toks) (fun b u e=>bj _ e) (aA _) ?_,rfl,q _ hf⟩;exact⟨z,us,r,⟨_,cY _ rfl,rfl,_,rfl⟩⟩
def kZ(K:Zk)(ι:Nat->Addr)(h:Tw.Hp)(H:L2.Hp)(ρ:Tw.Env)(σ:L2.St)(m:Tw.R Tw.Fl)(nx:L2.Hp->Prop)(rt:VK):Prop:=match m with
 |.ok (.next _) h'=>∀ι' H',Ext ι h H ι' h' H'->At K ι' h' H' ρ σ->nx H'
 |.ok (.ret w) h'=>∀ι' H' v,Ext ι h H ι' h' H'->HR K ι' h' H'->RW K.K ι' h'.length H' w v->rt v H'
 |.ax a h'=>∀ι' H',Ext ι h H ι' h' H'->HR K ι' h' H'->K.ex (.ref (ι' a)) none H'
 |_=>False
def Sg(X:Cx)(pins:aJ)(σ:L2.St)(nx:L2.Hp->Prop)(rt:VK)(f:Flow)(s':Shared):Prop:=match f with
 |.next=>∃H',Inv X pins σ H' s'/\nx H'
 |.ret u=>∃v H',Inv X pins σ H' s'/\RelV v u/\rt v H'
 |_=>False
theorem kZ.later{K:Zk}{ι ι1:Nat->Addr}{h h1:Tw.Hp}{H H1:L2.Hp}{ρ:Tw.Env}{σ:L2.St}{m:Tw.R Tw.Fl}{nx:L2.Hp->Prop}{rt:VK}(p:kZ K ι h H ρ σ m nx rt)(e:Ext ι h H ι1 h1 H1):kZ K ι1 h1 H1 ρ σ m nx rt:=by
 cases m with
 |ok f h'=>
  cases f with
  |next _=>exact fun ι' H' e'=>p ι' H' (e.trans e')
  |ret w=>exact fun ι' H' v e'=>p ι' H' v (e.trans e')
  |_=>exact p
 |ax a h'=>exact fun ι' H' e' r=>p ι' H' (e.trans e') r
 |bad=>exact p
theorem FI{K:Zk}{α β:Type}{Rr:Rl α β}{ι:Nat->Addr}{h:Tw.Hp}{H:L2.Hp}{ρ:Tw.Env}{σ:L2.St}{m:Tw.R α}{k:α->Tw.Hp->Tw.R Tw.Fl}{nx:L2.Hp->Prop}{rt:VK}(a:At K ι h H ρ σ)(p:kZ K ι h H ρ σ (m.bind k) nx rt):
  ah K Rr ι h H m (fun x H1=>∃w h1 ι1,At K ι1 h1 H1 ρ σ/\Ext ι h H ι1 h1 H1/\Rr K.K ι1 h1.length H1 w x/\kZ K ι1 h1 H1 ρ σ (k w h1) nx rt):=by
 cases m with
 |ok w h1=>exact fun ι' H' b e r q=>⟨w,h1,ι',a.later e r,e,q,kZ.later p e⟩
 |ax=>exact p
 |bad=>exact p
variable {ρ:Tw.Env}{h:Tw.Hp}{ι:Nat->Addr}{nx:L2.Hp->Prop}{rt:VK}
theorem NY(R:eM cf C (cO X.prog X.w) E X)(S:cK sc N X)(hdf:cf.hd=false){t:Tw.Tb}{st:Stmt}(ns:rB t=true)(hc:A2 cf sc N t st=true)(I:Inv X pins σ H s)(at':At ⟨X.K,X.mg,EE,X.A.handled⟩ ι h H ρ σ)(p:kZ ⟨X.K,X.mg,EE,X.A.handled⟩ ι h H ρ σ (Tw.lG C ρ h t) nx rt):
  wpAny (model X.prog X.w) X.A (exec st X.env) (Sg X pins σ nx rt) (XB X pins σ EE) s:=by
 have S0:cK sc N X.qe:=⟨S.n,S.kind,S.pW,S.gl,S.cf⟩;cases t with
 |call o c m f es u=>
  cases u with
  |none=>
   replace hc:=ay hc;obtain⟨e,e1,hc⟩:=hc;obtain⟨ep,rfl⟩:=oB e1;have sw:swapsWith e none ep.line X.env=pure false:=by replace hc:=ay hc;obtain⟨q,e4,_⟩:=hc;obtain rfl:=gZ e4;exact gL rfl rfl
   refine wpAny_Expr_any (az (AF R S hdf hc I (Q:=fun _ H1=>nx H1) ⟨ρ,h,ι,at',(FI at' p).mono fun x H1 ⟨w,h1,ι1,at1,e1,r1,p1⟩=>?_⟩) fun v s1 ⟨x,H1,I1,r1,q1⟩=>⟨H1,I1,q1⟩) I.quiet sw;exact p1 ι1 H1 (Ext.refl _ _ _) at1
  |some z=>
   replace hc:=ay hc;obtain⟨r,e1,hc⟩:=hc;obtain⟨rp,rfl⟩:=i8 e1;replace hc:=ay hc;obtain⟨e,rfl,hc⟩:=hc;replace hc:=ay hc;obtain⟨xs,e2,hc⟩:=hc;obtain⟨kt,tp,rfl⟩:=jq e2;replace hc:=ay hc;obtain⟨⟨e,y⟩,e3,hc⟩:=hc;obtain rfl:=j9 e3;rw[av] at hc;obtain⟨hc,hk⟩:=hc;replace hk:=ay hk;obtain⟨k,e4,hk⟩:=hk;obtain⟨kk,kp,rfl⟩:=lI (show mj y=some k from e4);have hp:aE e=true:=by replace hc:=ay hc;obtain⟨q,e4,_⟩:=hc;obtain rfl:=gZ e4;rfl
   refine Bc (az (Jl (Q:=rt) ?_) fun v s1 ⟨x,H1,I1,r1,q1⟩=>⟨x,H1,I1,r1,q1⟩);rw[bA hp];show wpAny _ _ (spliced ((false,eval e X.env)::backTo tp (starEach [.Constant k kk kp] X.env))) _ _ s;refine Mf (az (AF R S hdf hc I (Q:=fun x H1=>∃w h1 ι1,At ⟨X.K,X.mg,EE,X.A.handled⟩ ι1 h1 H1 ρ σ/\RW X.K ι1 h1.length H1 w x/\kZ ⟨X.K,X.mg,EE,X.A.handled⟩ ι1 h1 H1 ρ σ (.ok (.ret (.tup [w,z])) h1) nx rt) ⟨ρ,h,ι,at',(FI at' p).mono fun x H1 ⟨w,h1,ι1,at1,e1,r1,p1⟩=>⟨w,h1,ι1,at1,r1,p1⟩⟩) fun u s1 ⟨x,H1,I1,r1,w,h1,ι1,at1,rw1,p1⟩=>?_);refine eX ((cE (BE (C:=C) (E:=E0) (X:=X.qe) hk).1 dD rfl) tp pins s1 σ H1 (fun xs H2=>∃y ι2,xs=[y]/\Ext ι1 h1 H1 ι2 h1 H2/\HR ⟨X.K,X.mg,EE,X.A.handled⟩ ι2 h1 H2/\RW X.K ι2 h1.length H2 z y) (I1.kf _) ⟨ρ,h1,ι1,at1.ex,?_⟩) (fun us s2 ⟨xs,H2,I2,r2,y,ι2,ey,ex2,hr2,ry⟩=>?_) fun _ _ z=>False.elim z
   .rw[Tw.ic];exact fun ι' H' b e r w=>⟨b,ι',rfl,e,HR.ex r,w⟩
   .subst ey;refine⟨[x,y],H2,I2.j6,.cons r1 r2,Et (by simp),fun p hp=>?_⟩;obtain⟨r4,e4⟩:=hr2.grow (o:=.tup [x,y]) hp;exact p1 ι2 _ _ (ex2.trans e4) r4 (.tup (.inl aB) (.cons ((rw1.keep (ex2.keeps at1.hr)).keep (e4.keeps hr2)) (.cons (ry.keep (e4.keeps hr2)) .nil)))
 |ret e=>
  replace hc:=ay hc;obtain⟨o,e1,hc⟩:=hc;obtain⟨rp,rfl⟩:=i8 e1;replace hc:=ay hc;obtain⟨x,rfl,hc⟩:=hc;refine Bc (eX ((aO e R.qe S0 hc).1 pins s σ H rt (I.kf _) ⟨ρ,h,ι,at'.ex,?_⟩) (fun v s1 ⟨x,H1,I1,r1,q1⟩=>⟨x,H1,I1.j6,r1,q1⟩) fun _ _ z=>False.elim z);dsimp only[Tw.lG] at p;cases e0:Tw.ag C e ρ h with
  |bad=>rw[e0] at p;exact p.elim
  |ax=>rw[e0] at p;exact p.elim
  |ok w h1=>
   rw[e0] at p;exact fun ι' H' v ex r rw=>p ι' H' v ex (HR.ex (E':=EE) r) rw
 |lH i o c m f es=>cases ns
def nE(K:Zk)(ι:Nat->Addr)(h:Tw.Hp)(H:L2.Hp)(m:Tw.R Tw.Fl)(nx:L2.St->L2.Hp->Prop)(rt:VK):Prop:=match m with
 |.ok (.next ρ') h'=>∀ι' H' σ',Ext ι h H ι' h' H'->At K ι' h' H' ρ' σ'->nx σ' H'
 |.ok (.ret w) h'=>∀ι' H' v,Ext ι h H ι' h' H'->HR K ι' h' H'->RW K.K ι' h'.length H' w v->rt v H'
 |.ax a h'=>∀ι' H',Ext ι h H ι' h' H'->HR K ι' h' H'->K.ex (.ref (ι' a)) none H'
 |_=>False
def Pc(X:Cx)(pins:aJ)(nx:L2.St->L2.Hp->Prop)(rt:VK)(σ:L2.St)(f:Flow)(s':Shared):Prop:=match f with
 |.next=>∃σ' H',Inv X pins σ' H' s'/\nx σ' H'
 |.ret u=>∃v H',Inv X pins σ H' s'/\RelV v u/\rt v H'
 |_=>False
theorem nE.later{K:Zk}{ι ι1:Nat->Addr}{h h1:Tw.Hp}{H H1:L2.Hp}{m:Tw.R Tw.Fl}{nx:L2.St->L2.Hp->Prop}{rt:VK}(p:nE K ι h H m nx rt)(e:Ext ι h H ι1 h1 H1):nE K ι1 h1 H1 m nx rt:=by
 cases m with
 |ok f h'=>
  cases f with
  |next _=>exact fun ι' H' σ' e'=>p ι' H' σ' (e.trans e')
  |ret w=>exact fun ι' H' v e'=>p ι' H' v (e.trans e')
  |_=>exact p
 |ax a h'=>exact fun ι' H' e' r=>p ι' H' (e.trans e') r
 |bad=>exact p
theorem yc{t:Tw.Tb}(ns:rB t=true){ρ':Tw.Env}{h h1:Tw.Hp}(e:Tw.lG C ρ h t=.ok (.next ρ') h1):ρ'=ρ:=by
 cases t with
 |call o c m f es u=>
  rw[Tw.lG] at e;cases e1:Tw.nY C o c m f es ρ h with
  |bad=>rw[e1] at e;cases e
  |ax=>rw[e1] at e;cases e
  |ok v h2=>
   rw[e1] at e;cases u with
   |none=>cases e;rfl
   |some z=>cases e
 |ret x=>
  rw[Tw.lG] at e;cases e1:Tw.ag C x ρ h with
  |bad=>rw[e1] at e;cases e
  |ax=>rw[e1] at e;cases e
  |ok v h2=>rw[e1] at e;cases e
 |lH i o c m f es=>cases ns
variable {nu:L2.St->L2.Hp->Prop}
theorem HD(R:eM cf C (cO X.prog X.w) E X)(S:cK sc N X)(same:X.env.scope.names=sc)(nd:N.Nodup)(hdf:cf.hd=false){i:Nat}{o:Tw.E}{c m:Tw.S}{f:Nat}{es:Tw.Es}{st:Stmt}(hc:A2 cf sc N (.lH i o c m f es) st=true)(I:Inv X pins σ H s)(at':At ⟨X.K,X.mg,EE,X.A.handled⟩ ι h H ρ σ)(p:nE ⟨X.K,X.mg,EE,X.A.handled⟩ ι h H (Tw.lG C ρ h (.lH i o c m f es)) nu rt):
  wpAny (model X.prog X.w) X.A (exec st X.env) (Pc X pins nu rt σ) (XB X pins σ EE) s:=by
 replace hc:=ay hc;obtain⟨⟨ts,v,ap⟩,e1,hc⟩:=hc;have z1:=qZ e1;dsimp only at z1;replace hc:=ay hc;obtain⟨t,e2,hc⟩:=hc;obtain rfl:=bY (show dW ts=some t from e2);replace hc:=ay hc;obtain⟨y,e3,hc⟩:=hc;obtain⟨py,rfl⟩:=aL e3;subst z1;simp only[av,aI] at hc;obtain⟨⟨h1,h2⟩,h3⟩:=hc;have sw:swapsWith v (some (.Name y py)) ap.line X.env=pure false:=by have h3:=h3;replace h3:=ay h3;obtain⟨q,e4,_⟩:=h3;obtain rfl:=gZ e4;exact gL rfl rfl
 have hl:X.env.scope.names.lookup y=some .local:=by rw[same];exact h2
 refine wpAny_Assign_Name (az (AF R S hdf h3 I (Q:=fun x H1=>nu (σ.set i (some x)) H1) ⟨ρ,h,ι,at',?_⟩) fun v s1 ⟨x,H1,I1,r1,q1⟩=>?_) sw
 .rw[Tw.lG] at p;cases e0:Tw.nY C o c m f es ρ h with
  |bad=>rw[e0] at p;exact p.elim
  |ax a h1=>rw[e0] at p;exact p
  |ok w h1=>
   rw[e0] at p;exact fun ι' H' b e r q=>p ι' H' _ e ((at'.later e r).set q i)
 .exact iR I1 (by rw[S.n];exact nd) (by rw[S.n];exact h1) (.inl hl) r1 (fun s2 I2=>⟨_,H1,I2,q1⟩) (.inr hl)
theorem C3(R:eM cf C (cO X.prog X.w) E X)(S:cK sc N X)(same:X.env.scope.names=sc)(nd:N.Nodup)(hdf:cf.hd=false):∀(ts:List Tw.Tb){ss:List Stmt}{H:L2.Hp}{s:Shared}{h:Tw.Hp}{ι:Nat->Addr},kA cf sc N ts ss=true->Inv X pins σ H s->At ⟨X.K,X.mg,EE,X.A.handled⟩ ι h H ρ σ->nE ⟨X.K,X.mg,EE,X.A.handled⟩ ι h H (Tw.jJ C ρ ts h) nu rt->
  wpAny (model X.prog X.w) X.A (execs ss X.env) (Pc X pins nu rt σ) (XB X pins σ EE) s
 |[],ss,H,s,h,ι,hc,I,at',p=>by
  rw[kA] at hc;obtain rfl:=br hc;exact k6 ⟨σ,H,I,p ι H σ (Ext.refl _ _ _) at'⟩
 |t::ts,ss,H,s,h,ι,hc,I,at',p=>by
  rw[kA] at hc;replace hc:=ay hc;obtain⟨⟨s0,r⟩,e1,hc⟩:=hc;obtain rfl:=cU e1;simp only[av] at hc;obtain⟨⟨hc1,hc2⟩,hc3⟩:=hc;rw[Tw.jJ] at p;cases hn:rB t with
  |false=>
   rw[hn,Bool.false_or] at hc3;obtain rfl:=br hc3;rw[kA] at hc2;obtain rfl:=br (show r.isEmpty=true from hc2);cases t with
   |lH i o c m f es=>
    refine vv (az (HD (nu:=nu) (rt:=rt) R S same nd hdf hc1 I at' ?_) fun f s1 z=>?_)
    .cases e0:Tw.lG C ρ h (.lH i o c m f es) with
     |bad=>rw[e0] at p;exact p.elim
     |ax a h1=>rw[e0] at p;exact p
     |ok fl h1=>rw[e0] at p;cases fl<;>exact p
    .cases f with
     |next=>exact k6 z
     |ret u=>exact z
     |brk=>exact z.elim
     |cont=>exact z.elim
   |_=>cases hn
  |true=>
   refine vv (az (NY (nx:=fun H'=>∃h1 ι',At ⟨X.K,X.mg,EE,X.A.handled⟩ ι' h1 H' ρ σ/\nE ⟨X.K,X.mg,EE,X.A.handled⟩ ι' h1 H' (Tw.jJ C ρ ts h1) nu rt) (rt:=rt) R S hdf hn hc1 I at' ?_) fun f s1 z=>?_)
   .cases e0:Tw.lG C ρ h t with
    |bad=>rw[e0] at p;exact p.elim
    |ax a h1=>rw[e0] at p;exact p
    |ok f h1=>
     rw[e0] at p;cases f with
     |next ρ'=>
      obtain rfl:=yc hn e0;refine fun ι' H' e a=>⟨h1,ι',a,nE.later ?_ e⟩;cases ts<;>exact p
     |ret w=>exact p
     |brk _=>exact p.elim
     |cont _=>exact p.elim
   .cases f with
    |next=>obtain⟨H',I',h1,ι',a,q⟩:=z;exact C3 R S same nd hdf ts hc2 I' a q
    |ret u=>exact z
    |brk=>exact z.elim
    |cont=>exact z.elim
theorem HR.hv{K:W.Frag}{mg:Str->Option Value}{E E':XK}{u u':Option Value}{ι:Nat->Addr}{h:Tw.Hp}{H:L2.Hp}(r:HR ⟨K,mg,E,u⟩ ι h H)(hx:∀e,u'=some (.ref e)->∃C dx,H e=some (gK C dx e)):HR ⟨K,mg,E',u'⟩ ι h H:=⟨fun i o e=>by
 have q:=r.obj i o e;cases o<;>exact q,r.inj,hx⟩
theorem At.hv{K:W.Frag}{mg:Str->Option Value}{E E':XK}{u u':Option Value}{ι:Nat->Addr}{h:Tw.Hp}{H:L2.Hp}{ρ:Tw.Env}{σ:L2.St}(a:At ⟨K,mg,E,u⟩ ι h H ρ σ)(hx:∀e,u'=some (.ref e)->∃C dx,H e=some (gK C dx e)):At ⟨K,mg,E',u'⟩ ι h H ρ σ:=⟨a.hr.hv hx,a.len,a.st⟩
theorem zo{c:Tw.S}{r:Nat×List Tw.Hs}:∀{hs:List Tw.Hd}{l:List ExceptHandler},mW cf sc N hs l=true->Tw.m6 c hs=some r->∃fs,cf.bQ.lookup c=some fs
 |[],_,_,e=>nomatch e
 |(n,cs,j,act)::hs,l,h,e=>by
  rw[mW] at h;replace h:=ay h;obtain⟨⟨x,r'⟩,e1,h⟩:=h;replace h:=ay h;obtain⟨y,e2,h⟩:=h;simp only[av,aI,lP] at h;rw[Tw.m6] at e;by_cases hc:cs.contains c=true
  .exact rF.mp (h.1.1.1.1.1.1.1.2 c (Bh.mp hc))
  .rw[if_neg hc] at e;exact zo h.2 e
theorem yB(R:eM cf C CX E X)(S:cK sc N X)(same:X.env.scope.names=sc)(nd:N.Nodup)(h0:X.A.handled=none){ea Ce:Addr}{dx:Option Addr}{H':L2.Hp}{s':Shared}{c:Tw.S}{fs:List Tw.S}{a j:Nat}{act:List Tw.Hs}{ι3:Nat->Addr}{h3:Tw.Hp}{D:Ends}(I:Inv X pins σ H s)(F:gB X.prog X.w (bF X.stack) H s ea Ce dx .none H' s')(ef:cf.bQ.lookup c=some fs)(hm:X.mg (str c)=some (.ref Ce))
  (ia:ι3 a=ea) (al:a<h3.length) (at3:At (zx X E) ι3 h3 H' ρ σ) (p:bx (zx X E) ι3 h3 H' ((Tw.qH C act (ρ.set j (some (.ref a))) h3).gv.bind fun fl h=>.ok (Tw.OS j fl) h) D):
  ∀{hs:List Tw.Hd}{l:List ExceptHandler},mW cf sc N hs l=true->Tw.m6 c hs=some (j,act)->wpAny (model X.prog X.w) X.A (handleBy (.ref ea) X.env l) (SP X pins D) X.xe s'
 |[],_,_,e=>nomatch e
 |(n,cs,j',act')::hs,l,h,e=>by
  rw[mW] at h;replace h:=ay h;obtain⟨⟨x,r'⟩,e1,h⟩:=h;obtain rfl:=cU e1;replace h:=ay h;obtain⟨⟨y,hn,suite⟩,e2,h⟩:=h;obtain⟨py,ph,rfl⟩:=E5 (show El x=some (y,hn,suite) from e2);simp only[av,aI,kN] at h;obtain⟨⟨⟨⟨⟨⟨⟨⟨⟨rfl,h2⟩,h3'⟩,h4⟩,h5⟩,h6⟩,h7⟩,h8⟩,h9⟩,h10⟩:=h;obtain⟨Mx,mm,ex⟩:=R.xf.eB n cs h2;have exm:=ex c fs Ce ef hm;rw[Tw.m6] at e;by_cases hc:cs.contains c=true
  .rw[if_pos hc] at e;cases e;rw[hc] at exm;have hN:X.N.Nodup:=by rw[S.n];exact nd
   have hj:X.N[j]?=some hn:=by rw[S.n];exact h6
   have hl:X.env.scope.names.lookup hn=some .local:=by rw[same];exact h7
   have jl:j<σ.length:=by rw[I.len];exact (dE.mp hj).1
   have hsu:dU (hX X (.ref ea)) suite (cz (zx (hX X (.ref ea)) E0) (Tw.qH C act)):=F7 (R.hd ea) ⟨S.n,S.kind,S.pW,S.gl,S.cf⟩ act h9;have no0:∀{H:L2.Hp} e,X.A.handled=some (.ref e)->∃C dx,H e=some (gK C dx e):=fun e z=>by rw[h0] at z;cases z
   cases suite with
   |nil=>
    obtain⟨b,bs,rfl⟩:=oz h8;rw[pJ] at h9;exact no h9
   |cons b₀ bs=>
    refine LQ (t:=cz ⟨X.K,X.mg,E0,some (.ref ea)⟩ (Tw.qH C act)) I F (S.gl _ h4) mm (gM h5) exm hN hj hl hsu {nx:=fun σ2 H2=>D.nx (σ2.set j none) H2,rt:=D.rt,bk:=fun σ2 H2=>D.bk (σ2.set j none) H2,ct:=fun σ2 H2=>D.ct (σ2.set j none) H2} ⟨ρ.set j (some (.ref a)),h3,ι3,?_,?_⟩ fun f s3 z=>?_
    .have:=(At.hv (E':=E0) (u':=some (.ref ea)) at3 fun e z=>by cases z;exact⟨Ce,dx,F.tr⟩).set (w:=.ref a) (v:=.ref (ι3 a)) (.ref al) j;rw[ia] at this;exact this
    .cases e0:Tw.qH C act (ρ.set j (some (.ref a))) h3 with
     |bad=>rw[e0] at p;exact p.elim
     |ax=>rw[e0] at p;exact p.elim
     |ok fl h4=>
      rw[e0] at p;cases fl with
      |next ρ'=>exact fun ι' H'' σ' ex a=>p ι' H'' (σ'.set j none) ex (At.Fq (At.hv a no0) j none)
      |brk ρ'=>exact fun ι' H'' σ' ex a=>p ι' H'' (σ'.set j none) ex (At.Fq (At.hv a no0) j none)
      |cont ρ'=>exact fun ι' H'' σ' ex a=>p ι' H'' (σ'.set j none) ex (At.Fq (At.hv a no0) j none)
      |ret w=>exact fun ι' H'' v ex r rw=>p ι' H'' v ex (r.hv no0) rw
    .cases f with
     |next=>obtain⟨σ',H'',K1,q⟩:=z;exact lj K1 hN hj hl fun s4 K2=>⟨_,H'',K2,q⟩
     |brk=>obtain⟨σ',H'',K1,q⟩:=z;exact lj K1 hN hj hl fun s4 K2=>⟨_,H'',K2,q⟩
     |cont=>obtain⟨σ',H'',K1,q⟩:=z;exact lj K1 hN hj hl fun s4 K2=>⟨_,H'',K2,q⟩
     |ret u=>obtain⟨v,σ',H'',K1,r,q⟩:=z;exact lj K1 hN hj hl fun s4 K2=>⟨v,_,H'',K2,r,q⟩
  .rw[if_neg hc] at e;rw[yA] at hc;rw[hc] at exm;exact Hl I F (S.gl _ h4) mm (gM h5) exm (yB R S same nd h0 I F ef hm ia al at3 p h10 e)
theorem Jk(R:eM cf C (cO X.prog X.w) E X)(S:cK sc N X)(same:X.env.scope.names=sc)(nd:N.Nodup)(hdf:cf.hd=false)(hs:X.stack=X.env::X.outer)(hfm:X.env.frame=some X.env.locals){b:List Tw.Tb}{eB:List Tw.Hd}{bd:List Stmt}{l:List ExceptHandler}{pos:Pos}(hb:kA cf sc N b bd=true)(hh:mW cf sc N eB l=true)(ne:l≠ []):
  PS X (.Try bd l [] [] pos) (cz (zx X E) fun ρ h=>Tw.lX eB C ρ (Tw.jJ C ρ b h)):=by
 intro pins s σ H D I ⟨ρ,h,ι,at',p⟩;dsimp only at p;obtain⟨l0,lr,rfl⟩:∃l0 lr,l=l0::lr:=by
  cases l with
  |nil=>exact absurd rfl ne
  |cons x r=>exact⟨x,r,rfl⟩
 let EE:XK:=fun v _ H'=>∃a h3 ι3,Tw.jJ C ρ b h=.ax a h3/\v=.ref (ι3 a)/\Ext ι h H ι3 h3 H'/\HR (zx X E) ι3 h3 H'
 refine wpAny_Try_except (eX (C3 (EE:=EE) (nu:=fun σ' H'=>D.nx σ' H') (rt:=D.rt) R S same nd hdf b hb I at'.ex ?_) (fun f s1 z=>?_) fun ex s2 z=>?_)
 .cases e0:Tw.jJ C ρ b h with
  |bad=>rw[e0] at p;exact p.elim
  |ax a h3=>exact fun ι' H' ex r=>⟨a,h3,ι',e0,rfl,ex,HR.ex (E':=E) r⟩
  |ok f h1=>
   rw[e0] at p;cases f with
   |next ρ'=>exact fun ι' H' σ' ex a=>p ι' H' σ' ex a.ex
   |ret w=>exact fun ι' H' v ex r rw=>p ι' H' v ex (HR.ex (E':=E) r) rw
   |brk _=>exact p.elim
   |cont _=>exact p.elim
 .cases f with
  |next=>obtain⟨σ',H',I',q⟩:=z;exact k6 ⟨σ',H',I',q⟩
  |ret u=>obtain⟨v,H',I',r,q⟩:=z;exact⟨v,σ,H',I',r,q⟩
  |brk=>exact z.elim
  |cont=>exact z.elim
 .obtain⟨H1,s1,J,ea,Ce,dx,H',rfl,Fl,a,h3,ι3,eF,ev,ex3,r3⟩:=z;rw[eF] at p;simp only[Tw.lX] at p;cases ea':h3[a]? with
  |none=>rw[ea'] at p;exact p.elim
  |some ob=>
   rw[ea'] at p;cases ob with
   |ax c gs=>
    dsimp only at p;cases ep:Tw.m6 c eB with
    |none=>rw[ep] at p;exact p.elim
    |some r=>
     obtain⟨j,act⟩:=r;rw[ep] at p;dsimp only at p;obtain⟨fs,ef⟩:=zo hh ep;obtain⟨C0,dx0,gs',m0,t0,d0,rf⟩:=r3.obj a _ ea';have ev:ι3 a=ea:=(Value.ref.inj ev).symm;have ei:Ce=C0:=by obtain⟨⟨o1,v1,b1,b2,b3,_⟩,_,_⟩:=Fl.ao _ _ Fl.tr;obtain⟨⟨o2,v2,c1,c2,c3,_⟩,_,_⟩:=Fl.ao _ _ t0;rw[ev,b1] at c1;cases c1;rw[b2] at c2;cases c2;rfl
     subst ei;exact HY J hs hfm Fl fun s3 F3=>yB R S same nd (J.ok.hd (R.calm hdf)) J F3 ef m0 ev (jL ea') (at'.later ex3 r3) (bx.later p ex3) hh ep
   |_=>exact p.elim
end
theorem uV:entryFor table "proto.unchain" = some Builtin.«proto.unchain» := entryFor_of_tree (by kernel_rfl)
def L6(A:Around)(h:Heap):Prop:=A.handled=none\/∃e o vs,A.handled=some (.ref e)/\h.get? e=some o/\o.data=.fields vs/\vs[2]?=some .none
section
variable {prog:Program}{w:World}{A:Around}{E:aH}{s:Shared}
theorem Av{α:Type}{x e:Addr}{ox oe:Obj}{vx ve:Array Value}{Q:α->Shared->Prop}(hh:A.handled=some (.ref e))(ne:e≠x)(hx:s.heap.get? x=some ox)(dx:ox.data=.fields vx)(hz:2<vx.size)(he:s.heap.get? e=some oe)(de:oe.data=.fields ve)(c:ve[2]?=some .none)
  (h:E (.ref x) {s with heap:=s.heap.update x (Obj.mapFields (·.setIfInBounds 2 (.ref e)))}):wpAny (model prog w) A (raiseNew (.ref x):Sem α) Q E s:=by
 unfold raiseNew;refine af (wpAny_handled ?_);rw[hh];dsimp only;rw[if_pos (show (Value.ref e != Value.ref x)=true by simpa using ne)];refine af (fF (wpAny_runValue (codeAny_builtin uV ?_)));unfold Builtin.«proto.unchain»;refine af (fD he de c ?_);rw[if_pos (by rfl)];refine af (aj (aj ?_));show wpAny _ _ (updateField x 2 (.ref e) >>= _) _ _ s;refine af ?_;unfold updateField;refine af (wpAny_load hx ?_);rw[dx];dsimp only;rw[if_pos hz];exact wpAny_update hx (wpAny_throw h)
theorem EN{it t:Addr}{i:Nat}{items}{Q:Option Value->Shared->Prop}(hh:L6 A s.heap)(nit:A.handled≠some (.ref it))
  (hit:s.heap.IsTupleIter it t i) (ht:s.heap.IsTuple t items) (hx:items[i]?=none)
  (hQ:∀h',Heap.ExtBut it s.heap h'->Q none {s with heap:=h'}):wpAny (model prog w) A (pyNext (.ref it)) Q E s:=by
 rcases hh with hh|⟨e,oe,ve,hh,he,de,c⟩
 .exact wpAny_pyNext_tuple_end hh hit ht hx hQ
 have ne:e≠it:=fun z=>nit (by rw[hh,z]);obtain⟨o,ho,hc,hd⟩:=id hit;obtain⟨ol,hol,_,nl,hdl⟩:=ht;unfold pyNext;refine af (wpAny_attempt (rC (name:=Str.ofString "__next__") hit.typeIs sY
  (pd sY hit.typeIs Dz ?_ (Ed _))))
 show wpAny _ _ (field (.ref it) 0 >>= _) _ _ s;refine af (fD ho hd (x:=.ref t) rfl ?_);show wpAny _ _ (if (Value.ref t== Value.none)=true then _ else _) _ _ s;rw[if_neg (show ¬ ((Value.ref t== Value.none)=true) from eC)];show wpAny _ _ (field (.ref it) 1 >>= _) _ _ s;refine af (fD ho hd (x:=.int i 0) rfl ?_);show wpAny _ _ (seqItems? (.ref t) >>= _) _ _ s;refine af (vd hol hdl ?_);simp only[A7,hx];refine af (sF (af (pe ho hd (by simp) ?_)));show wpAny _ _ (newExc (.type "StopIteration") [] >>= _) _ _ _;refine af ?_;simp only[newExc,newTuple];refine af (ij ?_ (by size_fits));refine af (m:=firstArgMember _ _) (wpAny_of_eq (a:=Value.none) (by first|rfl|(simp only[firstArgMember];rfl)) ?_);refine ij ?_ (by size_fits);have kp:∀b o,b≠it->s.heap.get? b=some o->((s.heap.update it (Obj.mapFields (·.setIfInBounds 0 Value.none))).push {cls:=.type "tuple",data:=.seq #[]}).get? b=some o:=fun b o nb q=>bj _ ((gG _ _ (aX nb)).trans q);refine Av (A:=A.in1) (oe:=oe) (ve:=ve) hh (bT (aY (kp e oe ne he))) (cY _ rfl) rfl (by simp;omega) ?_ de c ?_
 .exact bj _ (kp e oe ne he)
 refine af (wpAny_isInstance (T:= "StopIteration") (b:=true) ⟨_,lF _ (cY _ rfl) rfl,rfl⟩ isSubtype_stop ?_);refine aj (hQ _ fun b o hb q=>?_);exact (gG _ _ (nV (aY (kp b o hb q)))).trans (bj _ (kp b o hb q))
end
def MO(K:W.Frag)(ok:L2.Hp->Prop)(te:TE)(g:TG)(tb:TS):TS:=fun D σ H=>te σ H fun v H1=>∃a xs,v=.ref a/\∃W:Nat->L2.St->L2.Hp->Prop,W 0 σ H1/\∀i σ H,W i σ H->df K H a xs/\
 ((xs.length<=i/\ok H/\D.nx σ H)\/∃y,xs[i]?=some y/\g y σ H fun σ2 H2=>tb {D with nx:=W (i+1),ct:=W (i+1),bk:=D.nx} σ2 H2)
section
variable {X:Cx}
theorem Iy{tg iter:Expr}{body:List Stmt}{te:TE}{g:TG}{tb:TS}{pos:Pos}{ok:L2.Hp->Prop}(hp:PassesOwn (model X.prog X.w) X.A X.env X.xe)(ao:∀pins σ H s,Inv X pins σ H s->ok H->L6 X.A s.heap/\∀it,H it=none->X.A.handled≠some (.ref it))(he:PE X iter te)(hg:PG X tg g)(hb:dU X body tb)
  (hs:∀x,foldedSetIterable iter X.env x=pure x):PS X (.For tg iter body [] pos) (MO X.K ok te g tb):=by
 intro pins s σ H D I h;refine wpAny_For (az (he pins s σ H _ I h) fun v s1 ⟨x,H1,I1,r1,a,xs,ev,W,w0,turn⟩=>?_) hs;subst ev;cases r1;obtain⟨its0,rv0,p0,_⟩:=I1.tuple (turn 0 σ H1 w0).1;refine vn (show s1.heap.IsTuple a its0.toArray from p0) ?_;have f0:eh X pins H1 s1.heap.objs.size:=I1.oP (aA _) (I1.ao.fresh (aA _));have T:=rR (P:=X.prog) (w:=X.w) (K:=X.K) (tg:=tg) a s1.heap.objs.size;have stat:∀{H':L2.Hp},H' s1.heap.objs.size=none->eh X pins H' s1.heap.objs.size:=fun hn=>⟨hn,f0.2⟩;refine codeAny_forLoop_any (fun n s'=>∃i σ' H',Inv X pins σ' H' s'/\s'.heap.IsTupleIter s1.heap.objs.size a i/\H' s1.heap.objs.size=none/\W i σ' H'/\n=xs.length-i) ?_ (xs.length-0) ⟨0,σ,H1,I1.kept (t':=s1.toks) fun b o e=>bj _ e,⟨_,cY _ rfl,rfl,rfl⟩,f0.1,w0,rfl⟩
 rintro n s3 ⟨i,σ3,H3,I3,st3,fr3,w3,en⟩
 obtain⟨sq,t⟩:=turn i σ3 H3 w3;obtain⟨its,rv,p,hz⟩:=I3.tuple sq;have hl:=rv.length;obtain⟨g0,g1,g2,g3,g4,g5⟩:=stat fr3;rcases t with ⟨stop,k,qn⟩|⟨y,hy,step⟩
 .obtain⟨qt,nit⟩:=ao pins σ3 H3 s3 I3 k;refine gP hp (EN qt (nit _ fr3) st3 (show s3.heap.IsTuple a its.toArray from p) (by simp;omega) fun h' eb=>?_);exact k6 ⟨σ3,H3,I3.turned (t':=s3.toks) (fun b o hb e=>eb b o hb e) g0 g1 g3 g4 g5,qn⟩
 .obtain⟨u,hu,ru⟩:=rv.get hy;refine gP hp (wpAny_pyNext_tuple_item st3 (show s3.heap.IsTuple a its.toArray from p) (x:=u) (by simpa using hu) fun h' st' sb=>?_);have I4:Inv X pins σ3 H3 {s3 with heap:=h'}:=I3.turned (t':=s3.toks) (fun b o hb e=>(sb.2 b hb).trans e) g0 g1 g3 g4 g5;obtain⟨o,e,c,d⟩:=id st';refine gP hp (sC (s:={s3 with heap:=h'}) e c d (by decide) ?_);have I5':=I4.pinned (fp:=[s1.heap.objs.size]) (fun b hb=>by
   have eb:b=s1.heap.objs.size:=by simpa using hb
   rw[eb];exact stat fr3) (fun b hb=>T.obj (i+1) h' st' b hb)
  refine gP hp (az (hg _ _ σ3 H3 y u _ I5' ru step) fun _ s6 ⟨σ6,H6,I6,q6⟩=>?_);refine gP hp (az (hb _ s6 σ6 H6 _ I6 q6) fun f s7 q7=>?_);have again:∀{σ7:L2.St}{H7:L2.Hp},Inv X (pins++jr [s1.heap.objs.size] h') σ7 H7 s7->W (i+1) σ7 H7->∃m,m<n/\∃i σ' H',Inv X pins σ' H' s7/\s7.heap.IsTupleIter s1.heap.objs.size a i/\H' s1.heap.objs.size=none/\W i σ' H'/\m=xs.length-i:=fun {σ7 H7} I7 n7=>by
   have lt:i<xs.length:=(dE.mp hy).1;have pn:=I7.pin (s1.heap.objs.size,o) (iA _ (iA _ (gf (by simp) e)));exact⟨xs.length-(i+1),by omega,i+1,σ7,H7,I7.fN,⟨o,pn.1,c,d⟩,pn.2.1,n7,rfl⟩
  cases f with
  |next=>obtain⟨σ7,H7,I7,n7⟩:=q7;exact again I7 n7
  |cont=>obtain⟨σ7,H7,I7,n7⟩:=q7;exact again I7 n7
  |brk=>obtain⟨σ7,H7,I7,q7⟩:=q7;exact⟨σ7,H7,I7.fN,q7⟩
  |ret v=>obtain⟨x7,σ7,H7,I7,r7,q7⟩:=q7;exact⟨x7,σ7,H7,I7.fN,r7,q7⟩
end
def Eb(X:Cx):Prop:=X.A.handled=none\/∃e,X.A.handled=some (.ref e)
section
variable {X:Cx}{E:XK}
theorem NQ(hv:Eb X){pins:aJ}{σ:L2.St}{H:L2.Hp}{s:Shared}(I:Inv X pins σ H s)(k:∀e,X.A.handled=some (.ref e)->∃C dx,H e=some (gK C dx e)):L6 X.A s.heap/\∀it,H it=none->X.A.handled≠some (.ref it):=by
 refine⟨?_,fun it hn z=>?_⟩
 .rcases hv with hv|⟨e,hv⟩
  .exact .inl hv
  .obtain⟨C,dx,q⟩:=k e hv;obtain⟨⟨o,vs,a1,a2,a3,a4,a5⟩,_,_⟩:=I.ao e _ q;exact .inr ⟨e,o,vs,hv,a1,a4,a5⟩
 .obtain⟨C,dx,q⟩:=k it z;rw[hn] at q;cases q
theorem Lm{i:Nat}{x:Str}{px pos:Pos}{iter:Expr}{body:List Stmt}{de:Tw.Env->Tw.Hp->Tw.R Tw.W}{db:Tw.Env->Tw.Hp->Tw.R Tw.Fl}(hp:PassesOwn (model X.prog X.w) X.A X.env X.xe)(hv:Eb X)(he:PE X iter (tE (zx X E) de))(hg:PG X (.Name x px) (fI i))(hb:dU X body (cz (zx X E) db))(hs:∀x,foldedSetIterable iter X.env x=pure x):
  PS X (.For (.Name x px) iter body [] pos) (cz (zx X E) fun ρ h=>(de ρ h).bind fun w h=>match w with
   |.tup xs=>Tw.bh (.var i) db xs ρ h
   |_=>.bad):=by
 refine PS.imp (Iy (ok:=fun H=>∀e,X.A.handled=some (.ref e)->∃C dx,H e=some (gK C dx e)) hp (fun pins σ H s I k=>NQ hv I k) he hg hb hs) fun D σ H ⟨ρ,h,ι,at',p⟩=>⟨ρ,h,ι,at',(fB at' p).mono fun v H1 ⟨w,h1,ι1,at1,e1,r1,p1⟩=>?_⟩;cases r1 with
 | @tup a xs ws t rs=>
  dsimp only at p1;refine⟨a,xs,rfl,fun j σ' H'=>∃ρ h ι us,At (zx X E) ι h H' ρ σ'/\TupAt X.K H' a xs/\aT X.K ι h.length H' us (xs.drop j)/\bx (zx X E) ι h H' (Tw.bh (.var i) db us ρ h) D,⟨ρ,h1,ι1,ws,at1,t,by simpa using rs,p1⟩,?_⟩
  rintro j σ2 H2 ⟨ρ2,h2,ι2,us,at2,t2,rs2,p2⟩
  refine⟨t2.sq,?_⟩;cases us with
  |nil=>
   have l:=rs2.length;simp only[ka,vX] at l;exact .inl ⟨by omega,at2.hr.hx,bx.next p2 at2⟩
  |cons u us=>
   have l:=rs2.length;simp only[cQ,vX] at l;have lt:j<xs.length:=by omega
   have d:xs.drop j=xs[j]::xs.drop (j+1):=Aq lt;rw[d] at rs2;cases rs2 with
   |cons ru rr=>
    refine .inr ⟨xs[j],iM lt,?_⟩;rw[Tw.bh,Tw.turn,Tw.iZ] at p2;dsimp only at p2;show cz (zx X E) db _ (σ2.set i (some xs[j])) H2;refine⟨ρ2.set i (some u),h2,ι2,at2.set ru i,?_⟩;have kp:∀{ι':Nat->Addr}{h':Tw.Hp}{H':L2.Hp}{σ':L2.St}{ρ':Tw.Env},Ext ι2 h2 H2 ι' h' H'->At (zx X E) ι' h' H' ρ' σ'->bx (zx X E) ι2 h2 H2 (Tw.bh (.var i) db us ρ' h') D->∃ρ h ι us,At (zx X E) ι h H' ρ σ'/\TupAt X.K H' a xs/\aT X.K ι h.length H' us (xs.drop (j+1))/\bx (zx X E) ι h H' (Tw.bh (.var i) db us ρ h) D:=fun e a' q=>⟨_,_,_,us,a',(e.keeps at2.hr).uX t2,rr.keep (e.keeps at2.hr),bx.later q e⟩;cases e0:db (ρ2.set i (some u)) h2 with
    |bad=>rw[e0] at p2;exact p2.elim
    |ax=>rw[e0] at p2;exact p2
    |ok fl h3=>
     rw[e0] at p2;cases fl with
     |next ρ'=>exact fun ι' H' σ' e a'=>kp e a' p2
     |cont ρ'=>exact fun ι' H' σ' e a'=>kp e a' p2
     |brk ρ'=>exact p2
     |ret w=>exact p2
 |_=>exact p1.elim
end
def vH(e:Expr):Option (Str×Str):=(sx e).bind fun ts=>(xI ts).bind fun q=>(bu q.1).bind fun x=>(bu q.2).map fun y=>(x,y)
theorem xp{e:Expr}{r:Str×Str}(h:vH e=some r):∃p1 p2 k p,e=.Tuple [.Name r.1 p1,.Name r.2 p2] k p:=by obtain⟨ts,e1,h⟩:=dJ.mp h;obtain⟨⟨a,b⟩,e2,h⟩:=dJ.mp h;obtain⟨x,e3,h⟩:=dJ.mp h;obtain⟨y,e4,rfl⟩:=je.mp h;obtain⟨k,p,z1⟩:=jq e1;have z2:=j9 e2;obtain⟨p1,z3⟩:=aL e3;obtain⟨p2,z4⟩:=aL e4;dsimp only at z1 z2 z3 z4⊢;exact⟨p1,p2,k,p,by rw[z1,z2,z3,z4]⟩
def xB(s:Stmt):Option (Expr×Expr):=(zV s).bind fun r=>(dW r.1).map fun t=>(t,r.2.1)
theorem mK{s:Stmt}{r:Expr×Expr}(h:xB s=some r):∃p,s=.Assign [r.1] r.2 p:=by obtain⟨⟨ts,v,p⟩,e1,h⟩:=dJ.mp h;obtain⟨t,e2,rfl⟩:=je.mp h;have z1:=qZ e1;have z2:=bY e2;dsimp only at z1 z2⊢;exact⟨p,by rw[z1,z2]⟩
def Ow(sc:Sc)(N:List Str)(t:Tw.Tg)(tg:Expr):Bool:=match t with
 |.var i=>(bu tg).any fun x=>decide (N[i]?=some x)&&iS sc x
 |.two i j=>(vH tg).any fun r=>decide (N[i]?=some r.1)&&iS sc r.1&&decide (N[j]?=some r.2)&&iS sc r.2
noncomputable def Qw:Const->Bool
 |.str _=>true
 |_=>false
noncomputable def QE:Tw.Es->Bool
 |.nil=>true
 |_=>false
def isTup(e:Expr):Bool:=decide (e.ctorIdx=25)
mutual
noncomputable def J8(cf:Cfg)(sc:Sc)(N:List Str):Tw.St->Stmt->Bool
 |.expr e,s=>(uY s).any fun x=>aE x&&!(rQ x)&&aM cf sc N e x
 |.ret e,s=>(qY s).any fun o=>o.any fun x=>aM cf sc N e x
 |.Ai,s=>(qY s).any fun o=>o.isNone
 |.set i e,s=>(xB s).any fun r=>(bu r.1).any fun y=>decide (N[i]?=some y)&&iS sc y&&aE r.2&&aM cf sc N e r.2
 |.put o k e,s=>(xB s).any fun r=>(mQ r.1).any fun q=>aE q.2&&aM cf sc N o q.1&&aM cf sc N k q.2&&aM cf sc N e r.2
 |.iff c a b,s=>(K3 s).any fun r=>dZ r.1&&aM cf sc N c r.1&&k9 cf sc N a r.2.1&&k9 cf sc N b r.2.2
 |.for t it b,s=>!cf.hd&&(Fc s).any fun r=>r.2.2.2.isEmpty&&aE r.2.1&&vP cf sc N (isTup r.1) it r.2.1&&k9 cf sc N b r.2.2.1&&Ow sc N t r.1
 |.pass,s=>(Ga s).isSome
 |.brk,s=>(LU s).isSome
 |.cont,s=>(Gv s).isSome
 |.bad,_=>true
 |.iF i j e,s=>!cf.hd&&(xB s).any fun r=>(vH r.1).any fun q=>decide (N[i]?=some q.1)&&iS sc q.1&&decide (N[j]?=some q.2)&&iS sc q.2&&isCall r.2&&aM cf sc N e r.2
 |.lC o x e,s=>(xB s).any fun r=>(j0 r.1).any fun q=>decide (q.2.1=⟨x.toArray⟩)&&y7.contains q.2.1&&aE r.2&&!(rQ r.2)&&aM cf sc N o q.1&&aM cf sc N e r.2
 |.aug i op e,s=>(K6 s).any fun r=>(bu r.1).any fun x=>decide (op=.add)&&decide (r.2.1=.Add)&&decide (N[i]?=some x)&&iS sc x&&aM cf sc N e r.2.2
 |.tw i x b,s=>(Fc s).any fun r=>r.2.2.2.isEmpty&&aE r.2.1&&aM cf sc N x r.2.1&&k9 cf sc N b r.2.2.1&&Ow sc N (.var i) r.1
 |.BF c b,s=>(Kg s).any fun r=>r.2.2.isEmpty&&dZ r.1&&aM cf sc N c r.1&&k9 cf sc N b r.2.1
 |.raise c xs es,s=>!cf.hd&&(BV s).any fun r=>r.2.isNone&&r.1.any fun e=>(mB e).any fun q=>!(q.2.isEmpty)&&decide (q.1=str c)&&decide (cf.bQ.lookup c=some xs)&&jG sc q.1&&pY q.1&&(if xs.isEmpty then QE es&&(dW q.2).any fun y=>(mj y).any Qw else fC cf sc N es q.2)
 |.wz b hs,s=>!cf.hd&&(IJ s).any fun r=>r.2.2.1.isEmpty&&r.2.2.2.isEmpty&&!(r.2.1.isEmpty)&&kA cf sc N b r.1&&mW cf sc N hs r.2.1
noncomputable def k9(cf:Cfg)(sc:Sc)(N:List Str):List Tw.St->List Stmt->Bool
 |[],ss=>ss.isEmpty
 |t::ts,ss=>(k7 ss).any fun r=>J8 cf sc N t r.1&&k9 cf sc N ts r.2
end
structure oV(cf:Cfg)(C:Tw.Or)(CX:eL)(E:XK)(sc:Sc)(N:List Str)(X:Cx):Prop where
 dB:eM cf C CX E X
 sees:cK sc N X
 same:X.env.scope.names=sc
 nd:N.Nodup
 fn:∀x,X.fn x=true
 pass:PassesOwn (model X.prog X.w) X.A X.env X.xe
 block:X.env.blockKind=.function
 ex:X.ex=[]
 st:X.stack=X.env::X.outer
 fm:X.env.frame=some X.env.locals
 xe:X.xe=nB X E
 cx:CX=cO X.prog X.w
 err:cf.hd=false->∀c fs,cf.bQ.lookup c=some fs->FH X c fs
 hv:Eb X
theorem Gf{a b:Bool}(h:(a&&b)=true):a=true/\b=true:=kx.mp h
theorem yS{b:Bool}(h:(!b)=true):b=false:=by simpa using h
section
variable {cf:Cfg}{C:Tw.Or}{CX:eL}{E:XK}{sc:Sc}{N:List Str}{X:Cx}
theorem oV.loc(R:oV cf C CX E sc N X){x:Str}(h:iS sc x=true):Loc X.env.scope x:=by
 unfold iS at h;rw[<-R.same] at h;cases e:X.env.scope.names.lookup x with
 |none=>rw[e] at h;exact no h
 |some k=>
  rw[e] at h;cases k with
  | «local» => exact .inl e
  |cell=>exact .inr e
  |_=>exact no h
theorem oV.zb(R:oV cf C CX E sc N X){i:Nat}{x:Str}{p:Pos}(h1:N[i]?=some x)(h2:iS sc x=true):PG X (.Name x p) (fI i):=
 lY (by rw[R.sees.n];exact R.nd) (by rw[R.sees.n];exact h1) (R.loc h2) (.inl (R.fn x))
theorem Be{o k:Expr}{pos':Pos}{env:Env}(hk:aE k=true)(v:Value):assign (.Subscript o k pos') env v=(do
   let ov <-holding [v] (eval o env)
   let iv <-holding [v,ov] (eval k env)
   standAt pos'
   holding [v,ov,iv] (setItem ov iv v)
   release [v,ov,iv] []):=by
 cases k<;>first|rfl|exact absurd (show false=true from hk) eC
theorem Lx(R:oV cf C CX E sc N X){i:Nat}{e:Tw.E}{y:Str}{py p:Pos}{x:Expr}(h1:N[i]?=some y)(h2:iS sc y=true)(h3:aE x=true)(h4:aM cf sc N e x=true):
  PS X (.Assign [.Name y py] x p) (cz (zx X E) fun ρ h=>(Tw.ag C e ρ h).bind fun w h=>.ok (.next (ρ.set i (some w))) h):=by
 have plain:swapsWith x (some (.Name y py)) p.line X.env=pure false->PS X (.Assign [.Name y py] x p) (cz (zx X E) fun ρ h=>(Tw.ag C e ρ h).bind fun w h=>.ok (.next (ρ.set i (some w))) h):=fun hs=>
  N3 (by rw[R.sees.n];exact R.nd) (by rw[R.sees.n];exact h1) (R.loc h2) (aO e R.dB R.sees h4).1 hs (R.fn y)
 by_cases hc:rQ x=true
 .cases x with
  |ListComp elt gens scope pos=>
   have hsw:swapsWith (.ListComp elt gens scope pos) (some (.Name y py)) p.line X.env=pure (X.env.blockKind== .function&&X.env.kindOf y== some .local&&py.line== pos.line&&!(scope.names.any fun (n,k)=>n== y&&(k== .local || k== .cell))):=rfl;cases hb:(X.env.blockKind== .function&&X.env.kindOf y== some .local&&py.line== pos.line&&!(scope.names.any fun (n,k)=>n== y&&(k== .local || k== .cell))) with
   |false=>rw[hb] at hsw;exact plain hsw
   |true=>
    rw[hb] at hsw;have hl:X.env.scope.names.lookup y=some .local:=by simp only[av,ji] at hb;exact hb.1.1.2
    cases e with
    |comp el it c=>
     replace h4:=yG h4;have hdf:=yS h4.1;replace h4:=h4.2
     .replace h4:=ay h4;obtain⟨⟨yy,gs,scope,pos⟩,e1,h4⟩:=h4;cases jU e1;replace h4:=ay h4;obtain⟨⟨tg,iter,ifs⟩,e2,h4⟩:=h4;obtain rfl:=kS e2;replace h4:=ay h4;obtain⟨xx,e3,h4⟩:=h4;obtain⟨px,rfl⟩:=aL e3;simp only[av,aI] at h4;obtain⟨⟨⟨⟨⟨h0,h1'⟩,h2'⟩,h3'⟩,h4⟩,h5⟩:=h4;have S:=R.sees;have cs:=sj S h0;have hk:scope.kind=.function:=cs.kind;have hnd:(bH X.N [xx]).Nodup:=by rw[S.n];exact h1'
      have sees:∀{Cc:Addr}{s:Shared}{H:L2.Hp}{pins:aJ}{fp:List Addr},cK scope.names (bH N [xx]) (bf X scope Cc [xx] s H pins fp):=fun {Cc s H pins fp}=>by
       have z:=cK.comp (X:=X) (scope:=scope) (C:=Cc) (x:=[xx]) (s:=s) (H:=H) (pins:=pins) (fp:=fp) hk;rw[S.n] at z;exact z
      have hev:Tw.ag C (.comp el it c)=nC Bw (Tw.dN C it) (Tw.fw C c) (Tw.ag C el):=by funext ρ h;rw[Tw.fM];rfl
      rw[hev];refine BU (R.dB.calm hdf) cs (wc hnd cs) (xA _ _) (sM it R.dB S h3' (fun z=>nomatch z)) (dz h2') (fun Cc s H pins fp=>(aO el R.dB.comp sees h4).1) ?_ (by rw[S.n];exact R.nd) (by rw[S.n];exact h1) hl hsw;cases c with
      |none=>
       obtain rfl:=br (show ifs.isEmpty=true from h5);exact .inl ⟨rfl,fun ρ h=>by rw[Tw.oJ]⟩
      |some d=>
       replace h5:=ay h5;obtain⟨z,e4,h5⟩:=h5;obtain rfl:=bY (show dW ifs=some z from e4);rw[av] at h5;exact .inr ⟨z,Tw.ag C d,rfl,fun ρ h=>by rw[Tw.ub],fun Cc s H pins fp=>(aO d R.dB.comp sees h5.2).2 h5.1⟩
    |jj el it=>
     replace h4:=kx.mp h4;have hdf:=yS h4.1;replace h4:=h4.2
     .replace h4:=ay h4;obtain⟨⟨yy,gs,scope,pos⟩,e1,h4⟩:=h4;cases jU e1;replace h4:=ay h4;obtain⟨⟨tg,iter,ifs⟩,e2,h4⟩:=h4;obtain rfl:=kS e2;rw[av] at h4;obtain⟨hi,h4⟩:=h4;obtain rfl:=br (show ifs.isEmpty=true from hi);replace h4:=ay h4;obtain⟨ts,e3,h4⟩:=h4;obtain⟨kt,pt,rfl⟩:=jq e3;replace h4:=ay h4;obtain⟨⟨n1,n2⟩,e4,h4⟩:=h4;obtain rfl:=j9 e4;replace h4:=ay h4;obtain⟨xx,e5,h4⟩:=h4;obtain⟨px,rfl⟩:=aL e5;replace h4:=ay h4;obtain⟨x2,e6,h4⟩:=h4;obtain⟨px2,rfl⟩:=aL e6;simp only[av,aI] at h4;obtain⟨⟨⟨⟨h0,h1'⟩,h2'⟩,h3'⟩,h4⟩:=h4;have S:=R.sees;have cs:=sj S h0;have hk:scope.kind=.function:=cs.kind;have hnd:(bH X.N [xx,x2]).Nodup:=by rw[S.n];exact h1'
      have sees:∀{Cc:Addr}{s:Shared}{H:L2.Hp}{pins:aJ}{fp:List Addr},cK scope.names (bH N [xx,x2]) (bf X scope Cc [xx,x2] s H pins fp):=fun {Cc s H pins fp}=>by
       have z:=cK.comp (X:=X) (scope:=scope) (C:=Cc) (x:=[xx,x2]) (s:=s) (H:=H) (pins:=pins) (fp:=fp) hk;rw[S.n] at z;exact z
      have hev:Tw.ag C (.jj el it)=nC nG (Tw.dN C it) (fun _ h=>.ok none h) (Tw.ag C el):=by
       funext ρ h;rw[Tw.jy];unfold nC
       congr 1
       funext s h;rw[tS]
      rw[hev];exact BU (R.dB.calm hdf) cs (xH (R.dB.calm hdf) hnd cs) (wb _ _) (sM it R.dB S h3' (fun _=>⟨_,_,_,rfl⟩)) (dz h2') (fun Cc s H pins fp=>(aO el R.dB.comp sees h4).1) (.inl ⟨rfl,fun _ _=>rfl⟩) (by rw[S.n];exact R.nd) (by rw[S.n];exact h1) hl hsw
    |bad=>
     refine fun pins s σ H D I ⟨ρ,h,ι,at',p⟩=>?_;simp only[Tw.sX] at p;exact p.elim
    |la a ns ds cs=>exact no h4
    |uJ a x ds=>cases a<;>exact no h4
    |_=>first|exact no h4|exact no (kx.mp h4).2
  |_=>exact no hc
 .exact plain (gL h3 (by simpa using hc))
mutual
theorem Qo(R:oV cf C CX E sc N X):∀(t:Tw.St){s:Stmt},J8 cf sc N t s=true->PS X s (cz (zx X E) (Tw.dq C t))
 |.expr e,s,h=>by
  replace h:=ay h;obtain⟨x,e1,h⟩:=h;obtain⟨p,rfl⟩:=oB e1;simp only[av,kN] at h;exact Jf (aO e R.dB R.sees h.2).1 (gL h.1.1 h.1.2)
 |.ret e,s,h=>by
  replace h:=ay h;obtain⟨o,e1,h⟩:=h;obtain⟨p,rfl⟩:=i8 e1;replace h:=ay h;obtain⟨x,rfl,h⟩:=h;exact Ap (aO e R.dB R.sees h).1
 |.Ai,s,h=>by
  replace h:=ay h;obtain⟨o,e1,h⟩:=h;obtain⟨p,rfl⟩:=i8 e1;obtain rfl:=pf.mp h;exact Jm
 |.set i e,s,h=>by
  replace h:=ay h;obtain⟨⟨t,v⟩,e1,h⟩:=h;obtain⟨p,rfl⟩:=mK e1;replace h:=ay h;obtain⟨y,e2,h⟩:=h;obtain⟨py,rfl⟩:=aL (show bu t=some y from e2);simp only[av,aI] at h;exact Lx R h.1.1.1 h.1.1.2 h.1.2 h.2
 |.put o k e,s,h=>by
  replace h:=ay h;obtain⟨⟨t,v⟩,e1,h⟩:=h;obtain⟨p,rfl⟩:=mK e1;replace h:=ay h;obtain⟨⟨x,y⟩,e2,h⟩:=h;obtain⟨p2,rfl⟩:=kW (show mQ t=some (x,y) from e2);simp only[av] at h;exact Nv (by have:=R.dB.units;omega) (aO e R.dB R.sees h.2).1 (aO o R.dB R.sees h.1.1.2).1 (aO k R.dB R.sees h.1.2).1 (Be h.1.1.1)
 |.iff c a b,s,h=>by
  replace h:=ay h;obtain⟨⟨x,ys,zs⟩,e1,h⟩:=h;obtain⟨p,rfl⟩:=yZ e1;simp only[av] at h;rw[show Tw.dq C (.iff c a b)=fun ρ h=>(Tw.ag C c ρ h).bind fun x h=>match Tw.truth h x with
   |some true=>Tw.au C a ρ h
   |some false=>Tw.au C b ρ h
   |none=>.bad from by funext ρ h;rw[Tw.ig]<;>rfl]
  exact LN ((aO c R.dB R.sees h.1.1.2).2 h.1.1.1) (kQ R a h.1.2) (kQ R b h.2)
 |.for t it b,s,h=>by
  replace h:=Gf h;obtain⟨hdf,h⟩:=h;replace hdf:=yS hdf;replace h:=ay h;obtain⟨⟨tg,iter,ys,zs⟩,e1,h⟩:=h;obtain⟨p,rfl⟩:=vN e1;simp only[av] at h;obtain⟨⟨⟨⟨hz,h0⟩,h1⟩,h2⟩,h3⟩:=h;obtain rfl:=br (show zs.isEmpty=true from hz);cases t with
  |var i=>
   replace h3:=ay h3;obtain⟨x,e2,h3⟩:=h3;obtain⟨px,rfl⟩:=aL (show bu tg=some x from e2);simp only[av,aI] at h3;exact BZ R.pass (R.dB.calm hdf) (sM it R.dB R.sees h1 (fun z=>nomatch z)) (R.zb h3.1 h3.2) (I8 _ _) (kQ R b h2) (dz h0)
  |two i j=>
   replace h3:=ay h3;obtain⟨⟨x,y⟩,e2,h3⟩:=h3;obtain⟨p1,p2,kt,pt,rfl⟩:=xp (show vH tg=some (x,y) from e2);simp only[av,aI] at h3;exact BZ R.pass (R.dB.calm hdf) (sM it R.dB R.sees h1 (fun _=>⟨_,_,_,rfl⟩)) (xk (R.dB.calm hdf) (i9 (R.zb h3.1.1.1 h3.1.1.2) (i9 (R.zb h3.1.2 h3.2) tm))) (BC _ _ _) (kQ R b h2) (dz h0)
 |.pass,s,h=>by
  obtain⟨_,e1⟩:=rF.mp h;obtain⟨p,rfl⟩:=C9 e1;exact Jj
 |.brk,s,h=>by
  obtain⟨_,e1⟩:=rF.mp h;obtain⟨p,rfl⟩:=Er e1;exact NJ
 |.cont,s,h=>by
  obtain⟨_,e1⟩:=rF.mp h;obtain⟨p,rfl⟩:=CA e1;exact IX
 |.bad,s,h=>by
  exact fun pins s σ H D I ⟨ρ,h,ι,at',p⟩=>p.elim
 |.iF i j e,s,h=>by
  replace h:=Gf h;obtain⟨hdf,h⟩:=h;replace hdf:=yS hdf;replace h:=ay h;obtain⟨⟨t,v⟩,e1,h⟩:=h;obtain⟨p,rfl⟩:=mK e1;replace h:=ay h;obtain⟨⟨x,y⟩,e2,h⟩:=h;obtain⟨p1,p2,kt,pt,rfl⟩:=xp (show vH t=some (x,y) from e2);simp only[av,aI] at h;obtain⟨⟨⟨⟨⟨h1,h2⟩,h3⟩,h4⟩,h5⟩,h6⟩:=h;rw[show Tw.dq C (.iF i j e)=fun ρ h=>(Tw.ag C e ρ h).bind fun x h=>match x with
   |.tup [u,v]=>.ok (.next ((ρ.set i (some u)).set j (some v))) h
   |_=>.bad from by funext ρ h;rw[Tw.qG]<;>rfl]
  exact LL (xk (R.dB.calm hdf) (i9 (R.zb h1 h2) (i9 (R.zb h3 h4) tm))) (BC _ _ _) (aO e R.dB R.sees h6).1 h5
 |.lC o x e,s,h=>by
  replace h:=ay h;obtain⟨⟨t,z⟩,e1,h⟩:=h;obtain⟨p,rfl⟩:=mK e1;replace h:=ay h;obtain⟨⟨v,y,p2⟩,e2,h⟩:=h;obtain rfl:=iE (show j0 t=some (v,y,p2) from e2);simp only[av,aI,kN] at h;obtain⟨⟨⟨⟨⟨rfl,h1⟩,h2⟩,h3⟩,h4⟩,h5⟩:=h;exact Kq (by rw[Ae] at h1;simpa using h1) (aO e R.dB R.sees h5).1 (aO o R.dB R.sees h4).1 (gL h2 h3)
 |.aug i op e,s,h=>by
  replace h:=ay h;obtain⟨⟨t,o,z⟩,e1,h⟩:=h;obtain⟨p,rfl⟩:=DI e1;replace h:=ay h;obtain⟨x,e2,h⟩:=h;obtain⟨p2,rfl⟩:=aL (show bu t=some x from e2);simp only[av,aI] at h;obtain⟨⟨⟨⟨rfl,rfl⟩,h1⟩,h2⟩,h3⟩:=h;rw[show Tw.dq C (.aug i .add e)=fun ρ h=>match ρ[i]? with
   |some (some (.int n))=>(Tw.ag C e ρ h).bind fun y h=>match y with
    |.int b=>Tw.R.of ((Tw.binI .add n b).map fun c=>.next (ρ.set i (some (.int c)))) h
    |_=>.bad
   |_=>.bad from by funext ρ h;rw[Tw.Iu]<;>rfl]
  exact Np (by rw[R.sees.n];exact R.nd) (by rw[R.sees.n];exact h1) (R.loc h2) (R.fn _) (aO e R.dB R.sees h3).1
 |.tw i x b,s,h=>by
  replace h:=ay h;obtain⟨⟨tg,iter,ys,zs⟩,e1,h⟩:=h;obtain⟨p,rfl⟩:=vN e1;simp only[av] at h;obtain⟨⟨⟨⟨hz,h0⟩,h1⟩,h2⟩,h3⟩:=h;obtain rfl:=br (show zs.isEmpty=true from hz);replace h3:=ay h3;obtain⟨y,e2,h3⟩:=h3;obtain⟨px,rfl⟩:=aL (show bu tg=some y from e2);simp only[av,aI] at h3;rw[show Tw.dq C (.tw i x b)=fun ρ h=>(Tw.ag C x ρ h).bind fun w h=>match w with
   |.tup xs=>Tw.bh (.var i) (Tw.au C b) xs ρ h
   |_=>.bad from by funext ρ h;rw[Tw.vU]<;>rfl]
  exact Lm R.pass R.hv (aO x R.dB R.sees h1).1 (R.zb h3.1 h3.2) (kQ R b h2) (dz h0)
 |.BF c b,s,h=>by
  replace h:=ay h;obtain⟨⟨x,ys,zs⟩,e1,h⟩:=h;obtain⟨p,rfl⟩:=E2 e1;simp only[av] at h;obtain⟨⟨⟨hz,h0⟩,h1⟩,h2⟩:=h;obtain rfl:=br (show zs.isEmpty=true from hz);exact MQ R.pass ((aO c R.dB R.sees h1).2 h0) (kQ R b h2)
 |.raise c xs es,s,h=>by
  replace h:=Gf h;obtain⟨hdf,h⟩:=h;replace hdf:=yS hdf;replace h:=ay h;obtain⟨⟨o,cs⟩,e1,h⟩:=h;obtain⟨p,rfl⟩:=AR e1;rw[av] at h;obtain⟨hn,h⟩:=h;obtain rfl:=pf.mp (show cs.isNone=true from hn);replace h:=ay h;obtain⟨e,z,h⟩:=h;obtain rfl:o=some e:=z;replace h:=ay h;obtain⟨⟨x,ys⟩,e3,h⟩:=h;obtain⟨np,cp,rfl⟩:=fL e3;simp only[av,aI,kN] at h;obtain⟨⟨⟨⟨⟨hy,rfl⟩,h1⟩,h2⟩,h3⟩,h4⟩:=h;by_cases xe:xs.isEmpty=true
  .rw[if_pos xe,av] at h4;obtain rfl:=br xe;obtain⟨h4,h5⟩:=h4;cases es with
   |cons _ _=>exact no h4
   |nil=>
    replace h5:=ay h5;obtain⟨y,e5,h5⟩:=h5;obtain rfl:=bY (show dW ys=some y from e5);replace h5:=ay h5;obtain⟨k,e6,h5⟩:=h5;obtain⟨kk,kp,rfl⟩:=lI e6;cases k with
    |str z=>
     obtain⟨Ce,hm,⟨_,M⟩|⟨f,k,fd,ps,z0,_⟩⟩:=R.err hdf c [] h1
     .show PS X _ (cz (zx X E) fun _ h=>Tw.iT c [] [] h);exact ES R.ex R.st R.fm R.xe (R.dB.calm hdf) hm M (R.sees.gl _ h2) (gM h3)
     .exact absurd rfl z0
    |_=>exact no h5
  .rw[if_neg xe] at h4;obtain⟨y,ys,rfl⟩:=oz hy;obtain⟨hp,z⟩:=jK es R.dB R.sees h4;rw[eQ,av] at hp;exact G3 R.ex R.st R.fm R.xe (R.err hdf c xs h1) (fun z=>xe (by rw[z];rfl)) (R.sees.gl _ h2) z (gM h3) (bA hp.1) (by rw[eU hp.2];simp[backTo])
 |.wz b hs,s,h=>by
  replace h:=Gf h;obtain⟨hdf,h⟩:=h;replace hdf:=yS hdf;replace h:=ay h;obtain⟨⟨bd,l,oe,fb⟩,e1,h⟩:=h;obtain⟨p,rfl⟩:=DJ e1;simp only[av,kN] at h;obtain⟨⟨⟨⟨w1,w2⟩,w3⟩,h1⟩,h2⟩:=h;obtain rfl:=br (show oe.isEmpty=true from w1);obtain rfl:=br (show fb.isEmpty=true from w2);have cx:=R.cx;subst cx;exact Jk R.dB R.sees R.same R.nd hdf R.st R.fm h1 h2 (fun z=>by rw[show l=[] from z] at w3;cases w3)
theorem kQ(R:oV cf C CX E sc N X):∀(ts:List Tw.St){ss:List Stmt},k9 cf sc N ts ss=true->dU X ss (cz (zx X E) (Tw.au C ts))
 |[],ss,h=>by
  obtain rfl:=br h;exact wD
 |t::ts,ss,h=>by
  replace h:=ay h;obtain⟨⟨s,r⟩,e1,h⟩:=h;obtain rfl:=cU e1;simp only[av] at h;rw[show Tw.au C (t::ts)=fun ρ h=>(Tw.dq C t ρ h).bind fun f h=>match f with
   |.next ρ=>Tw.au C ts ρ h
   |f=>.ok f h from by funext ρ h;rw[Tw.bg]<;>rfl]
  exact yf (Qo R t h.1) (kQ R ts h.2)
end
end
structure bL where
 key:Fk
 name:Str
 qual:Str
 st:Stmt
 N:List Str
 ps:List Str
def tQ(cf:Cfg)(d:bL)(fn:Tw.Fn):Bool:=
 decide ((ai d.st).kind=.function)&&!(ai d.st).isCoroutine&&!(ai d.st).isGenerator&&decide d.N.Nodup&&decide (d.N.take d.ps.length=d.ps)&&
 d.ps.all (iS (ai d.st).names)&&(ai d.st).names.all (fun y=>decide (y.2≠.free))&&decide (fn.ps=d.ps.length)&&decide (fn.ns=d.N.length)&&k9 cf (ai d.st).names d.N fn.body (bR d.st)
noncomputable def u3(K:W.Frag)(mg:Str->Option Value)(g:Addr):Fk->Prop
 |.fn x=>mg x=some (.ref g)
 |.me c m=>∃A,mg ⟨c.toArray⟩=some (.ref A)/\GoodC K A/\(m=gQ->Mk K A g)/\(m≠gQ->Meth K A ⟨m.toArray⟩ g)
structure jI(K:W.Frag)(mg:Str->Option Value)(d:bL)(g:Addr)(fd:FuncData):Prop where
 F:rK K d.name d.qual d.st g fd
 m:u3 K mg g d.key
 b:∀us:List Value,us.length=d.ps.length->bindArgs fd ⟨us,[]⟩=pure (d.ps.zip us)
def TabAt(K:W.Frag)(mg:Str->Option Value)(fns:List Fk)(x:Str)(g:List (Tw.S×Nat)):Prop:=
 ∃t D,mg x=some (.ref t)/\nz K t D/\(∀s f,g.lookup s=some f->∃y ga,fns[f]?=some (.fn y)/\mg y=some (.ref ga)/\KTD.datumAt (⟨s.toArray⟩:Str) D=some ga)
def ou(K:W.Frag)(mg:Str->Option Value)(x:Str)(g:List Tw.S):Prop:=∃t D,mg x=some (.ref t)/\nz K t D/\∀s:Tw.S,KTD.inKeys (⟨s.toArray⟩:Str) D=g.contains s
def rV(K:W.Frag)(mg:Str->Option Value)(x:Str)(w:Tw.W):Prop:=∃v u,mg x=some u/\RelV v u/\∀ι n H,RW K ι n H w v
structure kR(K:W.Frag)(mg:Str->Option Value)(c:Tw.S)(fs:List Tw.S):Prop where
 ex:∃C,mg (str c)=some (.ref C)/\((fs=[]/\wg K C)\/∃f fd sf x qual st,fs≠ []/\vR K C f/\XC K C/\(∀g∈fs.map str,bo K C g)/\rK K x qual st f fd/\Binds K fd (sf::fs.map str) []/\fs.length<=100/\
  (xQ st (sf::fs.map str)=true\/∃r R g gd gx gq gs sb p ps,fs.map str=p::ps/\Bo r st (sf::fs.map str)=true/\mg r=some (.ref R)/\lT K R g/\rK K gx gq gs g gd/\xQ gs [sb,p]=true/\Binds K gd [sb,p] []))
theorem kR.ok{P:Program}{w:World}{K:W.Frag}{mg:Str->Option Value}{base:Heap}{c:Tw.S}{fs:List Tw.S}(E:kR K mg c fs):∃C,mg (str c)=some (.ref C)/\((fs=[]/\wg K C)\/∃f fd ps,fs≠ []/\vR K C f/\XC K C/\(∀g∈fs.map str,bo K C g)/\fs.length<=1000/\
  kK P w K mg base (cO P w) 2 f fd ps (mx K (fs.map str))/\Binds K fd ps []):=by
 obtain⟨C,h1,h|⟨f,fd,sf,x,qual,st,h0,h2,h3,h4,F,hb,hl,h⟩⟩:=E.ex
 .exact⟨C,h1,.inl h⟩
 refine⟨C,h1,.inr ⟨f,fd,sf::fs.map str,h0,h2,h3,h4,by omega,?_,hb⟩⟩;rcases h with h|⟨r,R,g,gd,gx,gq,gs,sb,p,ps,e,hB,hm,B,G,gA,gb⟩
 .cases e:fs.map str with
  |nil=>rw[e] at h;cases h
  |cons p ps=>rw[e] at h;exact vV F h
 .rw[e] at hB⊢;exact Fm F hB hm B (vV (k:=0) G gA) gb
section
variable {P:Program}{w:World}{K:W.Frag}{mg:Str->Option Value}{base:Heap}{cf:Cfg}{C:Tw.Or}
theorem rK.R6{x qual:Str}{st:Stmt}{f:Addr}{fd:FuncData}{N ps:List Str}{k:Nat}{sp:Sp}(F:rK K x qual st f fd)(S:jY N ps (ai st))(len:∀vs H Q E,sp vs H Q E->vs.length=ps.length)
  {hv:Option Value} (hb:∀(cdv:Value)(A:Around)(outer:List Env)(s:Shared)(H:L2.Hp)(vs:List V)(Q:VK)(E:XK),bK hv k (A.deeper (envOfC qual (ai st) s.heap.objs.size f cdv))->sp vs H Q E->
   ∃t,dU (k4 hv (cO P w) P w K mg base N qual (ai st) f cdv A outer s H E) (bR st) t/\t {nx:=fun _ H'=>Q .ak H',rt:=Q} (start N vs) H):bV hv P w K mg base (cO P w) (k+1) f fd ps sp:=by
 obtain⟨oc,od,kV,doc,pm,an,cdv,ct,osl,rfl,lk,hcd⟩:=F.ex;exact Aj lk hcd S len fun A outer s H vs Q E hr hsp=>hb cdv A outer s H vs Q E hr hsp
theorem DK{K:Zk}{ι:Nat->Addr}{h:Tw.Hp}{H:L2.Hp}{ws:List Tw.W}{vs:List V}{N:List Str}(r:HR K ι h H)(rw':aT K.K ι h.length H ws vs)(hl:vs.length<=N.length):
  At K ι h H (ws.map some++List.replicate (N.length-ws.length) none) (start N vs):=by
 refine⟨r,?_,fun i w e=>?_⟩
 .unfold L2.start;simp only[iU,gC,List.length_replicate,rw'.length]
 .have hi:i<ws.length:=by
   by_cases hi:i<ws.length
   .exact hi
   .rw[qX (by simpa using hi),Fg] at e;split at e<;>cases e
  rw[g9 (by simpa using hi),mZ] at e;cases e1:ws[i]? with
  |none=>rw[e1] at e;cases e
  |some u=>
   rw[e1] at e;cases e;obtain⟨v,g1,g2⟩:=rw'.get e1;refine⟨v,?_,g2⟩;unfold L2.start;rw[g9 (by rw[gC,<-rw'.length];exact hi),mZ,g1];rfl
theorem Gn{k:Nat}{d:bL}{fn:Tw.Fn}{g:Addr}{fd:FuncData}(D:jI K mg d g fd)(h:tQ cf d fn=true)(hb:∀x∈dr,mg x=none)
  {hv:Option Value} (hh:hv=none\/∃e,hv=some (.ref e)) (hc:cf.hd=false->hv=none)
  (own:∀f kk,cf.fns[f]?=some kk->(cf.hd=true->f∈cf.qs)->∃g fd ps,bV hv P w K mg base (cO P w) k g fd ps (eW K mg hv (C f))/\u3 K mg g kk/\W.keepIn K (.ref g)=true/\Binds K fd ps [])
  (sN:∀f kk,cf.fns[f]?=some kk->f∈cf.qs->∀e,∃g fd ps,bV (some (.ref e)) P w K mg base (cO P w) k g fd ps (eW K mg (some (.ref e)) (C f))/\u3 K mg g kk/\W.keepIn K (.ref g)=true/\Binds K fd ps [])
  (tab:∀x g,cf.tabs.lookup x=some g->TabAt K mg cf.fns x g) (key:∀x g,cf.keys.lookup x=some g->ou K mg x g) (con:∀x w,cf.cons.lookup x=some w->rV K mg x w) (err:∀c fs,cf.bQ.lookup c=some fs->kR K mg c fs) (xf:v7 K mg cf) (hk2:2<=k):
  bV hv P w K mg base (cO P w) (k+2) g fd d.ps (eW K mg hv (Tw.bq C fn)):=by
 unfold tQ at h;simp only[av,aI,kN,lP] at h;obtain⟨⟨⟨⟨⟨⟨⟨⟨⟨h1,h2⟩,h3⟩,h4⟩,h5⟩,h6⟩,h7⟩,h8⟩,h9⟩,h10⟩:=h;have S:jY d.N d.ps (ai d.st):=⟨h1,h2,h3,h4,h5,fun x hx=>by
  have z:=h6 x hx;unfold iS at z;cases e:(ai d.st).names.lookup x with
  |none=>rw[e] at z;exact no z
  |some k=>
   rw[e] at z;cases k with
   | «local» => exact .inl rfl
   |cell=>exact .inr rfl
   |_=>exact no z,h7⟩
 have hpl:d.ps.length<=d.N.length:=by have:=gU List.length h5;rw[sU] at this;omega
 have len:∀vs H Q E,eW K mg hv (Tw.bq C fn) vs H Q E->vs.length=d.ps.length:=fun vs H Q E ⟨ws,h,ι,hr,rr,p⟩=>by
  unfold Tw.bq at p;by_cases c:ws.length=fn.ps
  .rw[<-rr.length,c,h8]
  .rw[if_neg c] at p;exact p.elim
 refine rK.R6 D.F S len fun cdv A outer s H vs Q E hr hsp=>?_;have hd:A.handled=hv:=hr.hd;subst hd;refine⟨cz ⟨K,mg,E,A.handled⟩ (Tw.au C fn.body),?_,?_⟩
 .have R:oV cf C (cO P w) E (ai d.st).names d.N (k4 A.handled (cO P w) P w K mg base d.N d.qual (ai d.st) g cdv A outer s H E):=by
   refine⟨⟨fun z=>pf.mpr (hc z),?_,fun f x e q=>?_,fun f x e q a=>?_,fun f c m z e=>?_,tab,key,con,hb,xf,Gs rfl rfl rfl rfl,cO.never⟩,⟨rfl,h1,fun x hx=>?_,fun x hx=>?_,fun x hx=>?_⟩,rfl,h4,fun _=>rfl,PassesOwn.leaving,?_,rfl,rfl,rfl,rfl,rfl,fun hf c fs e=>?_,hh⟩
   .have:=hr.un;show (A.deeper (envOfC d.qual (ai d.st) s.heap.objs.size g cdv)).units+100<cLine;omega
   .obtain⟨g',fd',ps',z1,z2,z3,z4⟩:=own f (.fn x) e q;exact⟨k,g',fd',ps',z1,hr.mono (i6 k),z2,z3,z4⟩
   .obtain⟨g',fd',ps',z1,z2,z3,z4⟩:=sN f (.fn x) e q a;exact⟨k,g',fd',ps',z1,fun B b1 b2 b3=>⟨b1,by have:=hr.dp;rw[b2];show (A.deeper (envOfC d.qual (ai d.st) s.heap.objs.size g cdv)).depth+3 * k+5<_;omega,by have:=hr.un;rw[b3];show (A.deeper (envOfC d.qual (ai d.st) s.heap.objs.size g cdv)).units+16 * k+200<_;omega⟩,z2,z3,z4⟩
   .obtain⟨g',fd',ps',z1,⟨A',y1,y2,y3,y4⟩,z3,z4⟩:=own f (.me c m) e (fun q=>by rw[z] at q;cases q);exact⟨k,g',fd',ps',A',z1,hr,y1,y2,y3,y4,z4⟩
   .show jH (ai d.st) x;unfold xN at hx;cases e:(ai d.st).names.lookup x with
    |none=>rw[e] at hx;exact no hx
    |some k=>
     rw[e] at hx;cases k with
     | «local» => exact .inl e
     |cell=>exact .inr (.inl e)
     |free=>exact .inr (.inr e)
     |_=>exact no hx
   .show (ai d.st).names.lookup x=some .globalImplicit;unfold jG at hx;cases e:(ai d.st).names.lookup x with
    |none=>rw[e] at hx;exact no hx
    |some k=>
     rw[e] at hx;cases k with
     |globalImplicit=>rfl
     |_=>exact no hx
   .show (ai d.st).names.lookup x=some .cell\/(ai d.st).names.lookup x=some .free;unfold FL at hx;cases e:(ai d.st).names.lookup x with
    |none=>rw[e] at hx;exact no hx
    |some k=>
     rw[e] at hx;cases k with
     |cell=>exact .inl rfl
     |free=>exact .inr rfl
     |_=>exact no hx
   .show Env.blockKind (envOfC d.qual (ai d.st) s.heap.objs.size g cdv)=.function;unfold Env.blockKind;have hk:(envOfC d.qual (ai d.st) s.heap.objs.size g cdv).scope.kind=.function:=h1;rw[hk];exact ite_self _
   .obtain⟨C',e1,h|⟨f,fd',ps',e0,e2,e3,e4,e5,e6,e7⟩⟩:=(err c fs e).ok (P:=P) (w:=w) (base:=base)
    .exact⟨C',e1,.inl h⟩
    .have h0:=hc hf;exact⟨C',e1,.inr ⟨f,2,fd',ps',e0,e2,e3,e4,e5,e6,h0▸hr.mono (by omega),e7⟩⟩
  exact kQ R fn.body h10
 .obtain⟨ws,h,ι,hr',rr,p⟩:=hsp;unfold Tw.bq at p;by_cases c:ws.length=fn.ps
  .rw[if_pos c] at p;refine⟨_,h,ι,DK (K:=⟨K,mg,E,A.handled⟩) (N:=d.N) hr' rr (by rw[<-rr.length,c,h8];exact hpl),?_⟩;rw[show d.N.length-ws.length=fn.ns-fn.ps by rw[h9,c]];cases e:Tw.au C fn.body (ws.map some++List.replicate (fn.ns-fn.ps) none) h with
   |bad=>rw[e] at p;exact p.elim
   |ax=>rw[e] at p;exact p
   |ok fl h'=>
    rw[e] at p;cases fl with
    |next ρ=>exact fun ι' H' σ' ex a=>p ι' H' .ak ex a.hr .ak
    |ret u=>exact p
    |brk ρ=>exact p.elim
    |cont ρ=>exact p.elim
  .rw[if_neg c] at p;exact p.elim
def kC(cf:Cfg):List bL->List Tw.Fn->Bool
 |[],[]=>true
 |d::ds,f::fs=>tQ cf d f&&kC cf ds fs
 |_,_=>false
theorem t9{cf:Cfg}:∀{ds:List bL}{fs:List Tw.Fn},kC cf ds fs=true->∀{i:Nat}{d:bL},ds[i]?=some d->∃f,fs[i]?=some f/\tQ cf d f=true
 |[],[],_,i,d,e=>by simp at e
 |[],_::_,h,_,_,_=>by exact no h
 |_::_,[],h,_,_,_=>by exact no h
 |a::ds,f::fs,h,0,d,e=>by
  rw[kC,av] at h;simp at e;subst e;exact⟨f,rfl,h.1⟩
 |a::ds,f::fs,h,i+1,d,e=>by
  rw[kC,av] at h;obtain⟨f',z1,z2⟩:=t9 h.2 (i:=i) (d:=d) (by simpa using e);exact⟨f',by simpa using z1,z2⟩
noncomputable def Ba(cf:Cfg)(Ds:List bL)(T:List Tw.Fn)(qs:List Nat):Bool:=qs.all fun i=>(Ds[i]?).any fun d=>(T[i]?).any fun f=>tQ cf d f
theorem HP{Ds:List bL}{T:List Tw.Fn}{tabs:List (Str×List (Tw.S×Nat))}{keys:List (Str×List Tw.S)}{cons:List (Str×Tw.W)}{bQ eB:List (Tw.S×List Tw.S)}{jx:List (List Tw.S×List Tw.S)}{qs:List Nat}(h:kC ⟨Ds.map (·.key),tabs,keys,cons,bQ,false,eB,jx,qs⟩ Ds T=true)(hq:Ba (yL ⟨Ds.map (·.key),tabs,keys,cons,bQ,false,eB,jx,qs⟩) Ds T qs=true)(hD:∀d∈Ds,∃g fd,jI K mg d g fd)(hb:∀x∈dr,mg x=none)
  (hT:∀x g,tabs.lookup x=some g->TabAt K mg (Ds.map (·.key)) x g) (hK:∀x g,keys.lookup x=some g->ou K mg x g) (hC:∀x w,cons.lookup x=some w->rV K mg x w) (hE:∀c fs,bQ.lookup c=some fs->kR K mg c fs) (hX:v7 K mg ⟨Ds.map (·.key),tabs,keys,cons,bQ,false,eB,jx,qs⟩):
  ∀(k i:Nat)(d:bL),Ds[i]?=some d->∀g fd,jI K mg d g fd->kK P w K mg base (cO P w) (2 * k+4) g fd d.ps (eW K mg none (Tw.run T k i))/\(i∈qs->∀e,bV (some (.ref e)) P w K mg base (cO P w) (2 * k+4) g fd d.ps (eW K mg (some (.ref e)) (Tw.run T k i))):=by
 intro k
 induction k with
 |zero=>
  intro i d e g fd D;have bad:∀hv vs H Q E,¬ eW K mg hv (Tw.run T 0 i) vs H Q E:=fun hv vs H Q E ⟨ws,h,ι,hr,rr,p⟩=>p.elim;exact⟨⟨fun vs H Q E q=>(bad _ vs H Q E q).elim,fun A outer s H args us vs Q E _ _ _ _ q=>(bad _ vs H Q E q).elim⟩,fun _ _=>⟨fun vs H Q E q=>(bad _ vs H Q E q).elim,fun A outer s H args us vs Q E _ _ _ _ q=>(bad _ vs H Q E q).elim⟩⟩
 |succ k ih=>
  intro i d e g fd D;obtain⟨f,z1,z2⟩:=t9 h e;have er:Tw.run T (k+1) i=Tw.bq (Tw.run T k) f:=by funext xs hh;show (match T[i]? with|some fn=>Tw.bq (Tw.run T k) fn xs hh|none=>.bad)=_;rw[z1]
  have at':∀{j:Nat}{x:Fk},(Ds.map (·.key))[j]?=some x->∃d' g' fd',Ds[j]?=some d'/\d'.key=x/\jI K mg d' g' fd':=fun {j x} ex=>by
   rw[mZ] at ex;cases ed:Ds[j]? with
   |none=>rw[ed] at ex;cases ex
   |some d'=>
    rw[ed] at ex;cases ex;obtain⟨g',fd',D'⟩:=hD d' (wd ed);exact⟨d',g',fd',rfl,rfl,D'⟩
  rw[er,show 2 * (k+1)+4=(2 * k+4)+2 by omega];have oq:∀(j:Nat)(x:Fk),(Ds.map (·.key))[j]?=some x->j∈qs->∀a,∃g fd ps,bV (some (.ref a)) P w K mg base (cO P w) (2 * k+4) g fd ps (eW K mg (some (.ref a)) (Tw.run T k j))/\u3 K mg g x/\W.keepIn K (.ref g)=true/\Binds K fd ps []:=fun j x ex q a=>by
   obtain⟨d',g',fd',ed,rfl,D'⟩:=at' ex;exact⟨g',fd',d'.ps,(ih j d' ed g' fd' D').2 q a,D'.m,D'.F.kp,.all D'.b⟩
  refine⟨Gn D z2 hb (.inl rfl) (fun _=>rfl) (fun j x ex _=>?_) oq hT hK hC hE hX (by omega),fun hi a=>?_⟩
  .obtain⟨d',g',fd',ed,rfl,D'⟩:=at' ex;exact⟨g',fd',d'.ps,(ih j d' ed g' fd' D').1,D'.m,D'.F.kp,.all D'.b⟩
  .have zq:=lP.mp hq i hi;rw[e,z1] at zq;have zq:tQ (yL ⟨Ds.map (·.key),tabs,keys,cons,bQ,false,eB,jx,qs⟩) d f=true:=zq;exact Gn D zq hb (.inr ⟨a,rfl⟩) (fun z=>nomatch z) (fun j x ex q=>oq j x ex (q rfl) a) oq (fun x g z=>nomatch z) (fun x g z=>nomatch z) hC hE ⟨hX.exc,hX.eB,hX.jx⟩ (by omega)
end
end TwS
namespace TwS
open PySem PySem.W PyProof.Rows
noncomputable def pB(bt:String->Option Builtin)(p:Program)(w:World)(low:Nat)(nt:Option Value):Nat->SharedT->Thread->Option SharedT
 |0,_,_=>none
 |n+1,s,t=>match through t with
  |true=>some s
  |false=>match stepOk low nt t with
   |false=>none
   |true=>match stepT (denote bt) p w s t with
    |some (s',t')=>pB bt p w low nt n s' t'
    |none=>none
theorem zQ{bt:String->Option Builtin}:∀{n:Nat}{s r:SharedT}{t:Thread},pB bt p w low nt n s t=some r->topRun bt p w low nt n s.abs t=some r.abs:=by
 intro n
 induction n with
 |zero=>intro s r t h;cases h
 |succ n ih=>
  intro s r t h;rw[pB] at h;rw[topRun];cases a:through t with
  |true=>rw[a] at h;cases h;rfl
  |false=>
   rw[a] at h;cases b:stepOk low nt t with
   |false=>rw[b] at h;cases h
   |true=>
    rw[b] at h;cases c:stepT (denote bt) p w s t with
    |none=>rw[c] at h;cases h
    |some q=>
     obtain⟨s',t'⟩:=q;rw[c] at h;rw[stepT_spec c];exact ih h
noncomputable def grow:List Obj->BT->Nat->Option (BT×Nat)
 |[],t,n=>some (t,n)
 |o::l,t,n=>match ((t.ins n o).get n).isSome with
  |true=>grow l (t.ins n o) (n+1)
  |false=>none
theorem wH:∀{l:List Obj}{t t':BT}{n n':Nat}{xs:List Obj},(absHeap t n life).objs.toList=xs->grow l t n=some (t',n')->absHeap t' n' life=⟨(xs++l).toArray,life⟩
 |[],t,t',n,n',xs,e,h=>by
  cases h;subst e;show Heap.mk _ _=Heap.mk _ _;simp[absHeap]
 |o::l,t,t',n,n',xs,e,h=>by
  rw[grow] at h;cases c:((t.ins n o).get n).isSome with
  |false=>rw[c] at h;cases h
  |true=>
   rw[c] at h;have z:=wH (life:=life) (xs:=xs++[o]) (by rw[absHeap_ins (life:=life) c];exact (Array.toList_push (xs:=(absHeap t n life).objs) (x:=o)).trans (by rw[e])) h;rw[z,om];rfl
def u4{α:Type}(p:Program)(N:Nat)(F:Shared->α)(w:World):Option α:=(fencedOpening treeTable p w N).bind fun aQ=>match aQ.heap.isNs mainGlobals&&aQ.gens.size== 0 with
 |false=>none
 |true=>(grow aQ.heap.objs.toList .nil 0).bind fun T=>(pB treeTable p w aQ.heap.objs.size (aQ.heap.nsMap mainGlobals "__annotations__") N ⟨T.1,T.2,aQ.heap.life,aQ.gens,aQ.drawn,aQ.toks,aQ.os⟩ (topStub p)).bind fun s₁=>
  match staticsOk (importedModules p.main.body) aQ.heap s₁.abs.heap&&namesBound p s₁.abs.heap&&gensDone s₁.abs&&laidKept aQ.heap s₁.abs.heap with
   |true=>some (F s₁.abs)
   |false=>none
theorem yC{α:Type}{p:Program}{N:Nat}{F:Shared->α}{w:World}{r:α}(h:u4 p N F w=some r):(openEnds treeTable p w N).map F=some r:=by
 unfold u4 at h;unfold openEnds;cases a:fencedOpening treeTable p w N with
 |none=>rw[a] at h;cases h
 |some aQ=>
  rw[a] at h;simp only[u5] at h⊢;unfold topFrom;cases b:(aQ.heap.isNs mainGlobals&&aQ.gens.size== 0) with
  |false=>rw[b] at h;cases h
  |true=>
   rw[b] at h;dsimp only at h⊢;cases c:grow aQ.heap.objs.toList .nil 0 with
   |none=>rw[c] at h;cases h
   |some T=>
    rw[c] at h;simp only[u5] at h;obtain⟨s₁,e1,e2⟩:=dJ.mp h;have z:=wH (life:=aQ.heap.life) (xs:=[]) (by rfl) c;have e3:=zQ e1;have ea:(⟨T.1,T.2,aQ.heap.life,aQ.gens,aQ.drawn,aQ.toks,aQ.os⟩:SharedT).abs=aQ:=by show Shared.mk _ _ _ _ _=_;rw[z];simp
    rw[ea] at e3;rw[e3];simp only[u5];cases d:(staticsOk (importedModules p.main.body) aQ.heap s₁.abs.heap&&namesBound p s₁.abs.heap&&gensDone s₁.abs&&laidKept aQ.heap s₁.abs.heap) with
    |false=>rw[d] at e2;cases e2
    |true=>rw[d] at e2;cases e2;rfl
end TwS
namespace TwS
open PySem L2 PyProof.Rows
theorem bG{K:W.Frag}{h:Heap}{mg:Str->Option Value}{x:Str}{st:Stmt}{N ps:List Str}{f:Addr}{od an:Option Addr}{sl:Array (Option Value)}{oc kV dc pm cd ct:Value}(X:K.In h)(G:h.Ns mainGlobals mg)(l:K.lookup f=some ⟨oc,od,.func (W.fnOf x x (cS st) (bR st) (ai st) .none kV dc pm an cd ct),sl⟩)(b:∀(kV doc pm:Value)(an:Option Addr)(cdv ct:Value)(us:List Value),us.length=ps.length->bindArgs (W.fnOf x x (cS st) (bR st) (ai st) .none kV doc pm an cdv ct) ⟨us,[]⟩=pure (ps.zip us))(a:W.nsIn K mainGlobals x=some (some (.ref f)):=by kernel_rfl)(c:W.codeIn K cd x=true:=by kernel_rfl)(k:W.keepIn K (.ref f)=true:=by kernel_rfl):
  ∃g fd,jI K mg ⟨.fn x,x,x,st,N,ps⟩ g fd:=
 have F:=oO (st:=st) l c k
 ⟨f,_,F,fG X G a,fun us hl=>b _ _ _ _ _ _ us hl⟩
theorem RS{P:List Value->Prop}(h:P []):∀us:List Value,us.length=0->P us:=fun us hl=>by cases us with|nil=>exact h|cons _ _=>cases hl
theorem oW{P:List Value->Prop}(h:∀a0,P [a0]):∀us:List Value,us.length=1->P us:=fun us hl=>by cases us with|nil=>cases hl|cons a r=>exact RS (P:=fun r=>P (a::r)) (h a) r (rg hl)
theorem qi{P:List Value->Prop}(h:∀a0 a1,P [a0,a1]):∀us:List Value,us.length=2->P us:=fun us hl=>by cases us with|nil=>cases hl|cons a r=>exact oW (P:=fun r=>P (a::r)) (fun b0=>h a b0) r (rg hl)
theorem nF{P:List Value->Prop}(h:∀a0 a1 a2,P [a0,a1,a2]):∀us:List Value,us.length=3->P us:=fun us hl=>by cases us with|nil=>cases hl|cons a r=>exact qi (P:=fun r=>P (a::r)) (fun b0 b1=>h a b0 b1) r (rg hl)
theorem qr{P:List Value->Prop}(h:∀a0 a1 a2 a3,P [a0,a1,a2,a3]):∀us:List Value,us.length=4->P us:=fun us hl=>by cases us with|nil=>cases hl|cons a r=>exact nF (P:=fun r=>P (a::r)) (fun b0 b1 b2=>h a b0 b1 b2) r (rg hl)
theorem OD{P:List Value->Prop}(h:∀a0 a1 a2 a3 a4,P [a0,a1,a2,a3,a4]):∀us:List Value,us.length=5->P us:=fun us hl=>by cases us with|nil=>cases hl|cons a r=>exact qr (P:=fun r=>P (a::r)) (fun b0 b1 b2 b3=>h a b0 b1 b2 b3) r (rg hl)
theorem RJ{P:List Value->Prop}(h:∀a0 a1 a2 a3 a4 a5,P [a0,a1,a2,a3,a4,a5]):∀us:List Value,us.length=6->P us:=fun us hl=>by cases us with|nil=>cases hl|cons a r=>exact OD (P:=fun r=>P (a::r)) (fun b0 b1 b2 b3 b4=>h a b0 b1 b2 b3 b4) r (rg hl)
theorem Ss{P:List Value->Prop}(h:∀a0 a1 a2 a3 a4 a5 a6,P [a0,a1,a2,a3,a4,a5,a6]):∀us:List Value,us.length=7->P us:=fun us hl=>by cases us with|nil=>cases hl|cons a r=>exact RJ (P:=fun r=>P (a::r)) (fun b0 b1 b2 b3 b4 b5=>h a b0 b1 b2 b3 b4 b5) r (rg hl)
theorem q9{β:Type}{P:Str->β->Prop}:∀x g,([]:List (Str×β)).lookup x=some g->P x g:=fun _ _ e=>nomatch e
theorem ib{β:Type}{P:Str->β->Prop}{y:Str}{b:β}{r:List (Str×β)}(h:P y b)(k:∀x g,r.lookup x=some g->P x g):∀x g,((y,b)::r).lookup x=some g->P x g:=by
 intro x g e;rw[eS] at e;cases c:x== y with
 |true=>rw[c] at e;cases e;rw[show x=y by simpa using c];exact h
 |false=>rw[c] at e;exact k x g e
def clsAt(s:Stmt)(j:Nat):Stmt:=match s with
 |.ClassDef _ _ _ b _ _ _ _ _ _ _=>b.getD j (.Pass ⟨0,0,0,0⟩)
 |s=>s
theorem yO{K:W.Frag}{C:Addr}(g1:W.plainGet K C Str.empty=true:=by kernel_rfl)(g2:W.hasDictIn K C=true:=by kernel_rfl)(g3:W.plainOver K C=true:=by kernel_rfl)(g4:W.findIn K (.ref C) "__setattr__" = some (some (.builtin "object.__setattr__")):=by kernel_rfl)(a0:W.findIn K (.ref C) "shelf" = some none:=by kernel_rfl)(a1:W.findIn K (.ref C) "free" = some none:=by kernel_rfl)(a2:W.findIn K (.ref C) "needs" = some none:=by kernel_rfl)(a3:W.findIn K (.ref C) "bound" = some none:=by kernel_rfl)(a4:W.findIn K (.ref C) "definitions" = some none:=by kernel_rfl)(a5:W.findIn K (.ref C) "numbers" = some none:=by kernel_rfl)(a6:W.findIn K (.ref C) "kind" = some none:=by kernel_rfl)(a7:W.findIn K (.ref C) "core" = some none:=by kernel_rfl)(a8:W.findIn K (.ref C) "whole_kind" = some none:=by kernel_rfl)(a9:W.findIn K (.ref C) "part" = some none:=by kernel_rfl)(a10:W.findIn K (.ref C) "around" = some none:=by kernel_rfl):GoodC K C:=by refine⟨⟨g1,g2,g3,g4⟩,?_⟩;unfold y7;simp only[Bg];exact⟨a0,a1,a2,a3,a4,a5,a6,a7,a8,a9,a10,fun _ h=>nomatch h⟩
theorem yE{K:W.Frag}{h:Heap}{mg:Str->Option Value}{cn:Tw.S}{qual:Str}{st:Stmt}{N ps:List Str}{C f:Addr}{od an:Option Addr}{sl:Array (Option Value)}{oc kV dc pm cd ct:Value}(X:K.In h)(G:h.Ns mainGlobals mg)(l:K.lookup f=some ⟨oc,od,.func (W.fnOf "__init__" qual (cS st) (bR st) (ai st) .none kV dc pm an cd ct),sl⟩)(g:GoodC K C)(b:∀(kV doc pm:Value)(an:Option Addr)(cdv ct:Value)(us:List Value),us.length=ps.length->bindArgs (W.fnOf "__init__" qual (cS st) (bR st) (ai st) .none kV doc pm an cdv ct) ⟨us,[]⟩=pure (ps.zip us))(a:W.nsIn K mainGlobals ⟨cn.toArray⟩=some (some (.ref C)):=by kernel_rfl)(m2:W.findIn K (.ref C) "__init__" = some (some (.ref f)):=by kernel_rfl)(c:W.codeIn K cd qual=true:=by kernel_rfl)(k:W.keepIn K (.ref f)=true:=by kernel_rfl)(m1:W.makesIn K C=true:=by kernel_rfl)(m3:W.isFn K (.ref f)=true:=by kernel_rfl)(m4:W.keepIn K (.ref C)=true:=by kernel_rfl):
  ∃g fd,jI K mg ⟨.me cn gQ, "__init__",qual,st,N,ps⟩ g fd:=
 have F:=oO (st:=st) l c k
 ⟨f,_,F,⟨C,fG X G a,g,fun _=>⟨m1,m2,m3,m4⟩,fun z=>absurd rfl z⟩,fun us hl=>b _ _ _ _ _ _ us hl⟩
theorem nA{K:W.Frag}{h:Heap}{mg:Str->Option Value}{cn mn:Tw.S}{name qual:Str}{st:Stmt}{N ps:List Str}{C f:Addr}{od an:Option Addr}{sl:Array (Option Value)}{oc kV dc pm cd ct:Value}(X:K.In h)(G:h.Ns mainGlobals mg)(l:K.lookup f=some ⟨oc,od,.func (W.fnOf name qual (cS st) (bR st) (ai st) .none kV dc pm an cd ct),sl⟩)(g:GoodC K C)(b:∀(kV doc pm:Value)(an:Option Addr)(cdv ct:Value)(us:List Value),us.length=ps.length->bindArgs (W.fnOf name qual (cS st) (bR st) (ai st) .none kV doc pm an cdv ct) ⟨us,[]⟩=pure (ps.zip us))(a:W.nsIn K mainGlobals ⟨cn.toArray⟩=some (some (.ref C)):=by kernel_rfl)(m2:W.findIn K (.ref C) ⟨mn.toArray⟩=some (some (.ref f)):=by kernel_rfl)(c:W.codeIn K cd qual=true:=by kernel_rfl)(k:W.keepIn K (.ref f)=true:=by kernel_rfl)(m3:W.isFn K (.ref f)=true:=by kernel_rfl)(ni:mn≠gQ:=by decide):
  ∃g fd,jI K mg ⟨.me cn mn,name,qual,st,N,ps⟩ g fd:=
 have F:=oO (st:=st) l c k
 ⟨f,_,F,⟨C,fG X G a,g,fun z=>absurd z ni,fun _=>⟨m2,m3,k⟩⟩,fun us hl=>b _ _ _ _ _ _ us hl⟩
inductive mF(K:W.Frag):List DictEntry->List (Tw.S×Str)->Prop
 |nil:mF K [] []
 |cons {hash:Int}{tk:Tok}{a:Addr}{s:Tw.S}{y:Str}{es:List DictEntry}{l:List (Tw.S×Str)}:W.nsIn K mainGlobals y=some (some (.ref a))->mF K es l->mF K (⟨hash,.str ⟨s.toArray⟩ tk,.ref a⟩::es) ((s,y)::l)
noncomputable def rn(es:List DictEntry):List (Str×Addr):=es.map fun e=>(match e.key with | .str x _=>x|_=> "",match e.val with | .ref a=>a|_=>0)
theorem Hu{K:W.Frag}{es:List DictEntry}{l:List (Tw.S×Str)}(h:mF K es l):KTD.Rows (fun d v=>v=Value.ref d) es (rn es):=by
 induction h with
 |nil=>exact .nil
 |cons _ _ ih=>exact .cons rfl rfl ih
theorem x8{K:W.Frag}{h:Heap}{mg:Str->Option Value}(X:K.In h)(G:h.Ns mainGlobals mg){es:List DictEntry}{l:List (Tw.S×Str)}(r:mF K es l):∀{s:Tw.S}{y:Str},l.lookup s=some y->∃ga,mg y=some (.ref ga)/\KTD.datumAt (⟨s.toArray⟩:Str) (rn es)=some ga:=by
 induction r with
 |nil=>intro s y e;simp at e
 | @cons hash tk a s' y' es l h1 _ ih=>
  intro s y el;rw[eS] at el;show ∃ga,mg y=some (.ref ga)/\(if decide ((⟨s.toArray⟩:Str)=⟨s'.toArray⟩)=true then some a else KTD.datumAt (⟨s.toArray⟩:Str) (rn es))=some ga;by_cases c:s=s'
  .subst c;simp only[beq_self_eq_true] at el;cases el;exact⟨a,fG X G h1,by simp⟩
  .rw[ik.mpr c] at el;obtain⟨ga,q1,q2⟩:=ih el;exact⟨ga,q1,by rw[if_neg (by simpa using fun z=>c (str_inj.mp z))];exact q2⟩
theorem Dk{K:W.Frag}{es:List DictEntry}{l:List (Tw.S×Str)}(r:mF K es l)(s:Tw.S):KTD.inKeys (⟨s.toArray⟩:Str) (rn es)=(l.map (·.1)).contains s:=by
 induction r with
 |nil=>rfl
 | @cons hash tk a s' y' es l h1 _ ih=>
  show (decide ((⟨s.toArray⟩:Str)=⟨s'.toArray⟩) || KTD.inKeys (⟨s.toArray⟩:Str) (rn es))=_;rw[ih,aR,List.contains_cons]
  congr 1
  by_cases c:s=s'
  .subst c;simp
  .rw[ik.mpr c];simpa using fun z=>c (str_inj.mp z)
noncomputable def I0(fns:List Fk)(g:List (Tw.S×Nat))(l:List (Tw.S×Str)):Bool:=g.all fun p=>match l.lookup p.1 with
 |some y=>decide (fns[p.2]?=some (.fn y))
 |none=>false
theorem qz{β:Type}{s:Tw.S}{f:β}:∀{g:List (Tw.S×β)},g.lookup s=some f->(s,f)∈g
 |[],e=>by simp at e
 |(a,b)::g,e=>by
  rw[eS] at e;cases c:s== a with
  |true=>
   rw[c] at e;cases e;have:s=a:=by simpa using c
   subst this;exact gF
  |false=>rw[c] at e;exact di _ (qz e)
theorem DZ{fns:List Fk}{g:List (Tw.S×Nat)}{l:List (Tw.S×Str)}(h:I0 fns g l=true){s:Tw.S}{f:Nat}(e:g.lookup s=some f):∃y,l.lookup s=some y/\fns[f]?=some (.fn y):=by
 have m:=qz e;have z:=(lP.mp h) _ m;dsimp only at z;cases q:l.lookup s with
 |none=>rw[q] at z;exact no z
 |some y=>rw[q] at z;exact⟨y,rfl,by simpa using z⟩
theorem CT{K:W.Frag}{h:Heap}{mg:Str->Option Value}{x:Str}{t:Addr}{od:Option Addr}{es:Array DictEntry}{ep:Nat}{sl:Array (Option Value)}{fns:List Fk}{g:List (Tw.S×Nat)}{ks:List Tw.S}(l:List (Tw.S×Str))(X:K.In h)(G:h.Ns mainGlobals mg)
  (a:W.nsIn K mainGlobals x=some (some (.ref t))) (lk:K.lookup t=some ⟨.type "dict",od,.dict es ep,sl⟩) (ex:(⟨.type "dict",od,.dict es ep,sl⟩:Obj).ExactDict) (hs:(t== sysModules)=false) (r:mF K es.toList l) (n:I0 fns g l=true) (nk:ks=l.map (·.1)):TabAt K mg fns x g/\ou K mg x ks:=by
 have T:nz K t (rn es.toList):=fun h' X'=>⟨hs,_,es,ep,X' _ _ lk,ex,rfl,Hu r⟩;refine⟨⟨t,rn es.toList,fG X G a,T,fun s f e=>?_⟩,t,_,fG X G a,T,fun s=>by rw[Dk r,nk]⟩;obtain⟨y,q1,q2⟩:=DZ n e;obtain⟨ga,q3,q4⟩:=x8 X G r q1;exact⟨y,ga,q2,q3,q4⟩
theorem Cm{K:W.Frag}{h:Heap}{mg:Str->Option Value}{x:Str}{t:Addr}{od:Option Addr}{z:Tw.S}{tk:Tok}{n:Nat}{sl:Array (Option Value)}(X:K.In h)(G:h.Ns mainGlobals mg)
  (a:W.nsIn K mainGlobals x=some (some (.ref t))) (lk:K.lookup t=some ⟨.type "tuple",od,.seq #[.str ⟨z.toArray⟩ tk] n,sl⟩) (hz:z.all (fun c=>decide (c<0x110000))=true):rV K mg x (.tup [.str z]):=by
 refine⟨.ref t,.ref t,fG X G a,rfl,fun ι n' H=>.tup (xs:=[.str ⟨z.toArray⟩]) (.inr ⟨_,_,n,lk,rfl,rfl,by show 1<=sizeLine;rw[eO];decide,.cons ⟨tk,rfl⟩ .nil⟩) (.cons (.str z ?_) .nil)⟩;intro c hc;have:=(lP.mp hz) c hc;simpa using this
theorem LJ{K:W.Frag}{h:Heap}{mg:Str->Option Value}(X:K.In h)(G:h.Ns mainGlobals mg)(z0:W.nsIn K mainGlobals "len" = some none:=by kernel_rfl)(z1:W.nsIn K mainGlobals "list" = some none:=by kernel_rfl)(z2:W.nsIn K mainGlobals "tuple" = some none:=by kernel_rfl)(z3:W.nsIn K mainGlobals "dict" = some none:=by kernel_rfl)(z4:W.nsIn K mainGlobals "int" = some none:=by kernel_rfl)(z5:W.nsIn K mainGlobals "str" = some none:=by kernel_rfl)(z6:W.nsIn K mainGlobals "bool" = some none:=by kernel_rfl)(z7:W.nsIn K mainGlobals "isinstance" = some none:=by kernel_rfl)(z8:W.nsIn K mainGlobals "range" = some none:=by kernel_rfl)(z9:W.nsIn K mainGlobals "zip" = some none:=by kernel_rfl)(z10:W.nsIn K mainGlobals "enumerate" = some none:=by kernel_rfl)(z11:W.nsIn K mainGlobals "reversed" = some none:=by kernel_rfl):∀x∈dr,mg x=none:=by unfold dr;simp only[Bg];exact⟨gX X G z0,gX X G z1,gX X G z2,gX X G z3,gX X G z4,gX X G z5,gX X G z6,gX X G z7,gX X G z8,gX X G z9,gX X G z10,gX X G z11,fun _ h=>nomatch h⟩
theorem Lf{K:W.Frag}{h:Heap}{mg:Str->Option Value}{c:Tw.S}{fs:List Tw.S}{C f R g:Addr}{sf sb r qual gq p:Str}{ps:List Str}{st gs:Stmt}{od an od' an':Option Addr}{sl sl':Array (Option Value)}{oc kV dc pm cd ct oc' kV' dc' pm' cd' ct':Value}(X:K.In h)(G:h.Ns mainGlobals mg)(M:vR K C f)(xc:XC K C)(na:∀g∈fs.map str,bo K C g)(l:K.lookup f=some ⟨oc,od,.func (W.fnOf "__init__" qual (cS st) (bR st) (ai st) .none kV dc pm an cd ct),sl⟩)(b1:∀(kV doc pm:Value)(an:Option Addr)(cdv ct:Value)(us:List Value),us.length=(sf::fs.map str).length->bindArgs (W.fnOf "__init__" qual (cS st) (bR st) (ai st) .none kV doc pm an cdv ct) ⟨us,[]⟩=pure ((sf::fs.map str).zip us))(hl:fs.length<=100)(ef:fs.map str=p::ps)(cB:Bo r st (sf::fs.map str)=true)(B:lT K R g)(l':K.lookup g=some ⟨oc',od',.func (W.fnOf "__init__" gq (cS gs) (bR gs) (ai gs) .none kV' dc' pm' an' cd' ct'),sl'⟩)(cA:xQ gs [sb,p]=true)(b2:∀(kV doc pm:Value)(an:Option Addr)(cdv ct:Value)(us:List Value),us.length=2->bindArgs (W.fnOf "__init__" gq (cS gs) (bR gs) (ai gs) .none kV doc pm an cdv ct) ⟨us,[]⟩=pure ([sb,p].zip us))(a:W.nsIn K mainGlobals (str c)=some (some (.ref C)):=by kernel_rfl)(c1:W.codeIn K cd qual=true:=by kernel_rfl)(k1:W.keepIn K (.ref f)=true:=by kernel_rfl)(ar:W.nsIn K mainGlobals r=some (some (.ref R)):=by kernel_rfl)(c2:W.codeIn K cd' gq=true:=by kernel_rfl):kR K mg c fs:=
 ⟨C,fG X G a,.inr ⟨f,_,sf,_,qual,st,(fun z=>by rw[z] at ef;cases ef),M,xc,na,oO (st:=st) l c1 k1,.all (b1 _ _ _ _ _ _),hl,.inr ⟨r,R,g,_,_,gq,gs,sb,p,ps,ef,cB,fG X G ar,B,oO (st:=gs) l' c2 B.kp,cA,.all (b2 _ _ _ _ _ _)⟩⟩⟩
theorem Ra{K:W.Frag}{h:Heap}{mg:Str->Option Value}{c:Tw.S}{C:Addr}(X:K.In h)(G:h.Ns mainGlobals mg)(M:wg K C)(a:W.nsIn K mainGlobals (str c)=some (some (.ref C)):=by kernel_rfl):kR K mg c []:=⟨C,fG X G a,.inl ⟨rfl,M⟩⟩
theorem K4{K:W.Frag}{h:Heap}{mg:Str->Option Value}{c:Tw.S}{fs:List Tw.S}{C:Addr}(X:K.In h)(G:h.Ns mainGlobals mg)(xc:XC K C)(na:∀g∈fs.map str,bo K C g)(t1:W.findIn K (.ref C) "__class__" = some (some (.builtin "object.__class__")):=by kernel_rfl)(t2:W.specialIn K (.builtin "object.__class__") "__get__" = some (some (.builtin "getset_descriptor.__get__")):=by kernel_rfl)(t3:W.takesIn K (.builtin "object.__class__")=some true:=by kernel_rfl)(a:W.nsIn K mainGlobals (str c)=some (some (.ref C)):=by kernel_rfl):∃C,mg (str c)=some (.ref C)/\XC K C/\XT K C/\∀g∈fs,bo K C (str g):=
 ⟨C,fG X G a,xc,⟨t1,t2,t3⟩,fun g hg=>na _ (jF.mpr ⟨g,hg,rfl⟩)⟩
theorem NS{K:W.Frag}{R f:Addr}(ga:W.specialIn K (.ref R) "__getattribute__" = some (some (.builtin "type.__getattribute__")):=by kernel_rfl)(rd:W.readsIn K R (.type "type")=true:=by kernel_rfl)(at_:W.findCls K (.ref R) (.type "type") "__init__" = some (.val (.ref f)):=by kernel_rfl)(kp:W.keepIn K (.ref f)=true:=by kernel_rfl):lT K R f:=⟨ga,rd,at_,kp⟩
theorem yR{α β:Type}{P:α->β->Prop}:∀x y,(x,y)∈([]:List (α×β))->P x y:=fun _ _ e=>nomatch e
theorem mem_cons{α β:Type}{P:α->β->Prop}{a:α}{b:β}{r:List (α×β)}(h:P a b)(k:∀x y,(x,y)∈r->P x y):∀x y,(x,y)∈(a,b)::r->P x y:=fun x y e=>by
 rcases cX.mp e with e|e
 .cases e;exact h
 .exact k x y e
theorem each{K:W.Frag}{h:Heap}{mg:Str->Option Value}{bQ:List (Tw.S×List Tw.S)}{es:List (Tw.S×Addr)}(X:K.In h)(G:h.Ns mainGlobals mg)(ee:bQ.map (·.1)=es.map (·.1))(en:(es.map fun p=>W.nsIn K mainGlobals (str p.1))=es.map fun p=>some (some (Value.ref p.2)))
  {P:Addr->Option Bool}{cs:List Tw.S} (k:(es.map fun p=>P p.2)=es.map fun p=>some (cs.contains p.1)):∀c fs C,bQ.lookup c=some fs->mg (str c)=some (.ref C)->P C=some (cs.contains c):=by
 intro c fs C e m;have hc:c∈es.map (·.1):=by rw[<-ee];exact jF.mpr ⟨(c,fs),qz e,rfl⟩
 obtain⟨⟨c',A⟩,hm,rfl⟩:=jF.mp hc;have:=fG X G (List.map_inj_left.mp en _ hm);rw[m] at this;cases this;exact List.map_inj_left.mp k _ hm
theorem Jp{K:W.Frag}{h:Heap}{mg:Str->Option Value}(X:K.In h)(G:h.Ns mainGlobals mg):∀{ns:List Tw.S}{as:List Addr},(ns.map fun n=>W.nsIn K mainGlobals (str n))=(as.map fun a=>some (some (Value.ref a)))->(ns.map fun n=>mg (str n))=(as.map fun a=>some (Value.ref a))
 |[],[],_=>rfl
 |[],_::_,e=>nomatch e
 |_::_,[],e=>nomatch e
 |n::ns,a::as,e=>by
  simp only[aR,List.cons.injEq] at e;rw[aR,aR,fG X G e.1,Jp X G e.2]
theorem xo{P:Tw.S->List Tw.S->Prop}:∀c fs,([]:List (Tw.S×List Tw.S)).lookup c=some fs->P c fs:=fun _ _ e=>nomatch e
theorem uq{P:Tw.S->List Tw.S->Prop}{y:Tw.S}{b:List Tw.S}{r:List (Tw.S×List Tw.S)}(h:P y b)(k:∀c fs,r.lookup c=some fs->P c fs):∀c fs,((y,b)::r).lookup c=some fs->P c fs:=by
 intro x g e;rw[eS] at e;cases c:x== y with
 |true=>rw[c] at e;cases e;rw[show x=y by simpa using c];exact h
 |false=>rw[c] at e;exact k x g e
theorem wj{K:W.Frag}{ι:Nat->Addr}{n:Nat}{H:L2.Hp}:∀ns:List Int,aT K ι n H (ns.map Tw.W.int) (ns.map V.int)
 |[]=>.nil
 |i::r=>.cons (.int i) (wj r)
theorem Ew{T:List Tw.Fn}{Ds:List bL}{tabs:List (Str×List (Tw.S×Nat))}{keys:List (Str×List Tw.S)}{cons:List (Str×Tw.W)}{bQ eB:List (Tw.S×List Tw.S)}{jx:List (List Tw.S×List Tw.S)}{qs:List Nat}{i k:Nat}{st:Stmt}{N:List Str}{l:W.OpenLaw}{q:Program}{loose:List Str}{XP:(Str->Option Value)->Heap->Prop}{YP:World->Heap->Prop}{d:DefRec}{K:Params->W.Frag}{x:Str}
  (hc:kC ⟨Ds.map (·.key),tabs,keys,cons,bQ,false,eB,jx,qs⟩ Ds T=true) (hq:Ba (yL ⟨Ds.map (·.key),tabs,keys,cons,bQ,false,eB,jx,qs⟩) Ds T qs=true) (hi:Ds[i]?=some ⟨.fn "law", "law", "law",st,N,[x]⟩) (hn:l.most=some 63) (hdf:d.params.defaults=[])
  (hY:∀(w:World)(h:Heap),YP w h->(K w.params).In h) (hd:d.name= "law")
  (F:∀(w:World)(mg:Str->Option Value)(h:Heap),(K w.params).In h->h.Ns mainGlobals mg->(∀d∈Ds,∃g fd,jI (K w.params) mg d g fd)/\(∀x∈dr,mg x=none)/\(∀x g,tabs.lookup x=some g->TabAt (K w.params) mg (Ds.map (·.key)) x g)/\(∀x g,keys.lookup x=some g->ou (K w.params) mg x g)/\(∀x w',cons.lookup x=some w'->rV (K w.params) mg x w')/\(∀c fs,bQ.lookup c=some fs->kR (K w.params) mg c fs)/\v7 (K w.params) mg ⟨Ds.map (·.key),tabs,keys,cons,bQ,false,eB,jx,qs⟩)
  (hr:qx (2 * k+4) callerA) (law:∀ns:List Int,ns.length<=63->∃h',Tw.run T k i [.ref 0] [.bI (ns.map .int)]=.ok (.bl true) h'):
  W.WalkO q loose XP YP l.row.toRowW d [] (fun f vs=>PySem.call f vs):=by
 refine L2.HW (n:=63) (k:=2 * k+4) (x:=x) (K:=K) (CX:=fun w=>cO l.prog w) (sp:=fun w vs H Q E=>∃(ns:List Int) (a:Addr),ns.length<=63/\vs=[.ref a]/\tW (K w.params) H a (ns.map V.int)/\∀H',Q (.bl true) H') hn (by decide) hdf hr hY (fun w mg fa h KX G hmg=>?_) (fun w H a ns hl hO hS=>?_) fun w H s e s' z=>cO.never _ _ _ _ _ z
 .obtain⟨hD,hb,hT,hK,hC,hE,hX⟩:=F w mg h KX G;obtain⟨g,fd,D⟩:=hD _ (wd hi);rw[hd] at hmg;have dm:mg "law" = some (.ref g):=D.m;have e:Value.ref fa=Value.ref g:=eE (hmg.symm.trans dm);cases e;refine⟨fd,fun s u=>?_,fun base _ _=>(HP hc hq hD hb hT hK hC hE hX k i _ hi _ fd D).1.imp fun vs H Q E ⟨ns,a,hl,ev,sq,q⟩=>?_⟩
  .exact .of_eq (D.b [u] rfl)
  .subst ev;obtain⟨h',e⟩:=law ns hl;refine⟨[.ref 0],[.bI (ns.map .int)],fun _=>a,⟨fun j o ej=>?_,fun j j' o u ej ej' m=>?_,fun e z=>nomatch z⟩,.cons (.ref (by simp)) .nil,?_⟩
   .cases j with
    |zero=>simp at ej;subst ej;exact⟨_,sq,wj ns⟩
    |succ j=>simp at ej
   .cases j with
    |zero=>simp at ej;subst ej;cases m
    |succ j=>simp at ej
   .rw[e];intro ι' H' b _ _ r;cases r;exact q H'
 .refine⟨ns,a,hl,rfl,?_,fun _=>rfl⟩;rcases hS with (h|h)|h
  .rcases hO a with z|⟨o,xs,z⟩
   .rw[h] at z;cases z
   .rw[h] at z;cases z
  .exact .inl h
  .exact .inr h
end TwS
namespace Tw
theorem aP{h:Hp}{a:Nat}{o:O}(x:List O)(e:h[a]?=some o):(h++x)[a]?=some o:=by
 have:a<h.length:=by
  rcases xJ a h.length with q|q
  .exact q
  .rw[DY q] at e;cases e
 rw[g9 this];exact e
theorem iX{h:Hp}{a:Nat}{o:O}(e:h[a]?=some o):a<h.length:=by
 rcases xJ a h.length with q|q
 .exact q
 .rw[DY q] at e;cases e
@[simp] theorem cy(h:Hp)(o:O):(h++[o])[h.length]?=some o:=by simp
theorem i5{h:Hp}{a b:Nat}{o u:O}(n:a≠b)(e:h[b]?=some u):(h.set a o)[b]?=some u:=by rw[iy n];exact e
theorem fg{h:Hp}{a:Nat}{o u:O}(e:h[a]?=some u):(h.set a o)[a]?=some o:=by rw[iu (iX e)]
structure Ext(p:Nat)(h h':Hp):Prop where
 len:h.length<=h'.length
 keep:∀q o,h[q]?=some o->q≠p->h'[q]?=some o
theorem Ext.refl(p:Nat)(h:Hp):Ext p h h:=⟨aA _,fun _ _ e _=>e⟩
theorem Ext.trans{p:Nat}{h h1 h2:Hp}(a:Ext p h h1)(b:Ext p h1 h2):Ext p h h2:=
 ⟨cL a.len b.len,fun q o e n=>b.keep q o (a.keep q o e n) n⟩
theorem Ext.app(p:Nat)(h:Hp)(x:List O):Ext p h (h++x):=⟨by simp,fun _ _ e _=>aP x e⟩
theorem Ext.set(p:Nat)(h:Hp)(o:O):Ext p h (h.set p o):=⟨by simp,fun _ _ e n=>i5 (aX n) e⟩
section
variable {C:Or}{σ σ':Env}{h h' h2:Hp}{s:St}{r a b:List St}{c:E}{w:W}{i:Nat}{z:R Fl}
theorem cF(e:dq C s σ h=.ok (.next σ') h')(k:au C r σ' h'=z):au C (s::r) σ h=z:=by rw[bg,e];exact k
theorem JV(e:dq C s σ h=.ok (.ret w) h'):au C (s::r) σ h=.ok (.ret w) h':=by rw[bg,e];rfl
theorem aG(e:ag C c σ h=.ok w h')(k:au C r (σ.set i (some w)) h'=z):au C (.set i c::r) σ h=z:=by rw[bg,yr,e];exact k
theorem aF(e:ag C c σ h=.ok w h'):au C (.ret c::r) σ h=.ok (.ret w) h':=by rw[bg,pT,e];rfl
theorem aU(e:ag C c σ h=.ok (.bl false) h')(k:au C r σ h'=z):au C (.iff c a []::r) σ h=z:=by rw[bg,ig,e];show (au C [] σ h').bind _=_;rw[c7];exact k
theorem cw(e:ag C c σ h=.ok (.bl true) h')(k:au C a σ h'=.ok (.ret w) h2):au C (.iff c a b::r) σ h=.ok (.ret w) h2:=by rw[bg,ig,e];show (au C a σ h').bind _=_;rw[k];rfl
theorem u9{h3:Hp}(e:ag C c σ h=.ok (.bl true) h')(k1:au C a σ h'=.ok (.next σ') h3)(k:au C r σ' h3=z):au C (.iff c a b::r) σ h=z:=by rw[bg,ig,e];show (au C a σ h').bind _=_;rw[k1];exact k
theorem i0{j:Nat}{u v:W}(e:ag C c σ h=.ok (.tup [u,v]) h')(k:au C r ((σ.set i (some u)).set j (some v)) h'=z):au C (.iF i j c::r) σ h=z:=by rw[bg,qG,e];exact k
theorem bJ{f:Fn}{xs:List W}(σ:Env)(l:xs.length=f.ps)(eσ:xs.map some++List.replicate (f.ns-f.ps) none=σ)(e:au C f.body σ h=.ok (.ret w) h'):bq C f xs h=.ok w h':=by unfold bq;rw[if_pos l,eσ,e];rfl
theorem rM{f:Fn}{xs:List W}(σ:Env)(l:xs.length=f.ps)(eσ:xs.map some++List.replicate (f.ns-f.ps) none=σ)(e:au C f.body σ h=.ok (.next σ') h'):bq C f xs h=.ok .ak h':=by unfold bq;rw[if_pos l,eσ,e];rfl
theorem sy{f:Fn}{xs:List W}(l:xs.length=f.ps)(e:au C f.body (xs.map some++List.replicate (f.ns-f.ps) none) h=.ok (.ret w) h'):bq C f xs h=.ok w h':=by unfold bq;rw[if_pos l,e];rfl
end
theorem vG(h:Hp)(n:Nat):∀ns:List Int,gu h n (ns.map W.int)=some (ns.map W.int)
 |[]=>by simp[gu]
 |x::r=>by simp[gu,rd,vG h n r]
theorem wI(h:Hp)(n:Nat):∀ns:List S,gu h n (ns.map W.str)=some (ns.map W.str)
 |[]=>by simp[gu]
 |x::r=>by simp[gu,rd,wI h n r]
structure Gen(p:Nat)(h:Hp):Prop where
 ex:∃(a c:Int) (l:Nat) (ns:List Int),h[p]?=some (.lst [.int a,.ref l,.int c])/\h[l]?=some (.lst (ns.map W.int))/\l<p
theorem Gen.ext{p:Nat}{h:Hp}(g:Gen p h)(x:List O):Gen p (h++x):=by obtain⟨a,c,l,ns,e1,e2,e3⟩:=g.ex;exact⟨a,c,l,ns,aP x e1,aP x e2,e3⟩
noncomputable def xi:Fn:=⟨2,3,[
 .set 2 (.ite (.cmp .ne (.idx (.var 0) (.cst (.int 1))) (.lst .nil)) (.idx (.idx (.var 0) (.cst (.int 1))) (.bin .mod (.idx (.var 0) (.cst (.int 2))) (.blt .len (.idx (.var 0) (.cst (.int 1)))))) (.cst (.int 0))),
 .put (.var 0) (.cst (.int 0)) (.bin .mod (.bin .add (.bin .add (.bin .mul (.idx (.var 0) (.cst (.int 0))) (.cst (.int 48271))) (.bin .mul (.var 2) (.cst (.int 69621)))) (.cst (.int 11))) (.cst (.int 2147483647))),
 .put (.var 0) (.cst (.int 2)) (.bin .add (.idx (.var 0) (.cst (.int 2))) (.cst (.int 1))),
 .ret (.bin .mod (.bin .fdiv (.idx (.var 0) (.cst (.int 0))) (.cst (.int 7))) (.var 1))]⟩
theorem i4{α:Type}(xs:List α)(i:Nat)(h:i<xs.length):cg xs (i:Int)=some xs[i]:=by
 have e1:(0:Int)<=(i:Int):=by omega
 have e2:(i:Int)<(xs.length:Int):=by omega
 simp[cg,iz,e1,e2,iM h]
theorem zp{α:Type}(xs:List α)(c:Int)(h:0<xs.length):∃x,x∈xs/\cg xs (c % (xs.length:Int))=some x:=by
 have e1:0<=c % (xs.length:Int):=Int.emod_nonneg _ (by omega);have e2:c % (xs.length:Int)<(xs.length:Int):=Int.emod_lt_of_pos _ (by omega);have e3:(c % (xs.length:Int)).toNat<xs.length:=by omega
 refine⟨xs[(c % (xs.length:Int)).toNat],tB _,?_⟩;have:=i4 xs _ e3;rw[show (((c % (xs.length:Int)).toNat:Nat):Int)=c % (xs.length:Int) by omega] at this;exact this
@[simp] theorem FE{α:Type}(x:α)(xs:List α):cg (x::xs) 0=some x:=by
 have:((0:Nat):Int)<((xs.length:Int)+1):=by omega
 simp[cg,iz]
@[simp] theorem NG{α:Type}(x y:α)(xs:List α):cg (x::y::xs) 1=some y:=by have:=i4 (x::y::xs) 1 (by simp);simpa using this
@[simp] theorem Nf{α:Type}(x y z:α)(xs:List α):cg (x::y::z::xs) 2=some z:=by have:=i4 (x::y::z::xs) 2 (by simp);simpa using this
@[simp] theorem Rf:iz 3 0=some 0:=rfl
@[simp] theorem Rb:iz 3 2=some 2:=rfl
@[simp] theorem Qj:small 48271=true:=by decide
@[simp] theorem Pt:small 69621=true:=by decide
theorem IB{C:Or}{p:Nat}{h:Hp}(g:Gen p h){m:Int}(hm:0<m):
  ∃v h',bq C xi [.ref p,.int m] h=.ok (.int v) h'/\0<=v/\v<m/\Ext p h h'/\Gen p h':=by
 obtain⟨a,c,l,ns,e1,e2,e3⟩:=g.ex;have f1:=aP [O.lst []] e1;have f2:=aP [O.lst []] e2;have key:∃x:Int,ag C (.ite (.cmp .ne (.idx (.var 0) (.cst (.int 1))) (.lst .nil)) (.idx (.idx (.var 0) (.cst (.int 1))) (.bin .mod (.idx (.var 0) (.cst (.int 2))) (.blt .len (.idx (.var 0) (.cst (.int 1)))))) (.cst (.int 0)))
   [some (.ref p),some (.int m),none] h=.ok (.int x) (h++[O.lst []]):=by
  cases ns with
  |nil=>
   refine⟨0,?_⟩;simp[e1,f2,bz,bE]
  |cons n r=>
   obtain⟨x,hx,ex⟩:=zp ((n::r).map W.int) c (by simp);obtain⟨y,_,rfl⟩:=jF.mp hx;refine⟨y,?_⟩;have pos:(0:Int)<(r.length:Int)+1:=by omega
   have t:=vG (h++[O.lst []]) 59 r;simp only[aR] at e2 f2 ex;simp only[cQ,gC] at ex;push_cast at ex;simp[e1,f1,f2,t,pos,ex,bz,bE]
 obtain⟨x,ex⟩:=key;have g1:=fg (o:=O.lst [.int ((a * 48271+x * 69621+11) % 2147483647),.ref l,.int c]) f1;have g2:=fg (o:=O.lst [.int ((a * 48271+x * 69621+11) % 2147483647),.ref l,.int (c+1)]) g1;have g3:=i5 (o:=O.lst [.int ((a * 48271+x * 69621+11) % 2147483647),.ref l,.int c]) (nV e3) f2;have g4:=i5 (o:=O.lst [.int ((a * 48271+x * 69621+11) % 2147483647),.ref l,.int (c+1)]) (nV e3) g3;refine⟨(((a * 48271+x * 69621+11) % 2147483647) / 7) % m,(((h++[O.lst []]).set p (.lst [.int ((a * 48271+x * 69621+11) % 2147483647),.ref l,.int c]))).set p (.lst [.int ((a * 48271+x * 69621+11) % 2147483647),.ref l,.int (c+1)]),?_,Int.emod_nonneg _ (by omega),Int.emod_lt_of_pos _ hm,?_,?_⟩
 .exact bJ [some (.ref p),some (.int m),none] rfl rfl (aG ex (cF (σ':=[some (.ref p),some (.int m),some (.int x)]) (h':=(h++[O.lst []]).set p (.lst [.int ((a * 48271+x * 69621+11) % 2147483647),.ref l,.int c])) (by simp[f1]) (cF (σ':=[some (.ref p),some (.int m),some (.int x)]) (by simp[g1, -List.set_set];rfl) (aF (by simp[g2,hm, -List.set_set])))))
 .exact ((Ext.app p h _).trans (Ext.set p _ _)).trans (Ext.set p _ _)
 .exact⟨_,_,_,_,g2,g4,e3⟩
inductive Kd where
 |num|tru|row (k:Kd)|pair (a b:Kd)|work (a b:Kd)|any (x:S)|gap (n:Int)
 deriving DecidableEq
abbrev bZ:S:=[110,117,109,98,101,114]
abbrev fe:S:=[116,114,117,116,104]
abbrev fo:S:=[114,111,119]
abbrev dS:S:=[112,97,105,114]
abbrev fY:S:=[119,111,114,107]
abbrev oX:S:=[97,110,121]
abbrev QR:S:=[103,97,112]
noncomputable def Kd.ae:Kd->W
 |.num=>.tup [.str bZ]
 |.tru=>.tup [.str fe]
 |.row k=>.tup [.str fo,k.ae]
 |.pair a b=>.tup [.str dS,a.ae,b.ae]
 |.work a b=>.tup [.str fY,a.ae,b.ae]
 |.any x=>.tup [.str oX,.str x]
 |.gap n=>.tup [.str QR,.int n]
noncomputable def Kd.depth:Kd->Nat
 |.row k=>k.depth+1
 |.pair a b=>max a.depth b.depth+1
 |.work a b=>max a.depth b.depth+1
 |_=>0
def Kd.over(l:List S):Kd->Prop
 |.row k=>k.over l
 |.pair a b=>a.over l/\b.over l
 |.work a b=>a.over l/\b.over l
 |.any x=>x∈l
 |.gap _=>False
 |_=>True
theorem Kd.rd(h:Hp):∀(k:Kd)(n:Nat),k.depth+1<=n->Tw.rd h n k.ae=some k.ae
 |.num,n+1,_=>by simp[Kd.ae]
 |.tru,n+1,_=>by simp[Kd.ae]
 |.any x,n+1,_=>by simp[Kd.ae]
 |.gap x,n+1,_=>by simp[Kd.ae]
 |.row k,n+1,e=>by
  have:=Kd.rd h k n (by simp[Kd.depth] at e;omega);simp[Kd.ae,this]
 |.pair a b,n+1,e=>by
  have h1:=Kd.rd h a n (by simp[Kd.depth] at e;omega);have h2:=Kd.rd h b n (by simp[Kd.depth] at e;omega);simp[Kd.ae,h1,h2]
 |.work a b,n+1,e=>by
  have h1:=Kd.rd h a n (by simp[Kd.depth] at e;omega);have h2:=Kd.rd h b n (by simp[Kd.depth] at e;omega);simp[Kd.ae,h1,h2]
theorem Kd.bw:∀a b:Kd,Tw.bw a.ae b.ae=decide (a=b):=by
 intro a
 induction a with
 |num=>intro b;cases b<;>simp[Kd.ae]
 |tru=>intro b;cases b<;>simp[Kd.ae]
 |any x=>intro b;cases b<;>simp[Kd.ae,pZ]
 |gap x=>intro b;cases b<;>simp[Kd.ae,pZ]
 |row k ih=>intro b;cases b<;>simp[Kd.ae,ih]
 |pair a b iha ihb=>intro c;cases c<;>simp[Kd.ae,iha,ihb]
 |work a b iha ihb=>intro c;cases c<;>simp[Kd.ae,iha,ihb]
theorem Kd.bE(h:Hp)(k:Kd):Tw.bE h k.ae=none:=by cases k<;>simp[Kd.ae,Tw.bE]
theorem Kd.bz(h:Hp)(a b:Kd)(ha:a.depth<=50)(hb:b.depth<=50):Tw.bz h a.ae b.ae=some (decide (a=b)):=by simp[Tw.bz,Kd.bE,Kd.rd h a 60 (by omega),Kd.rd h b 60 (by omega),Kd.bw]
theorem run_eq{T:List Fn}{f:Nat}{fn:Fn}(e:T[f]?=some fn)(k:Nat)(xs:List W)(h:Hp):run T (k+1) f xs h=bq (run T k) fn xs h:=by simp[run,e]
def e8(nx self:Nat):Fn:=⟨3,5,[
 .set 3 (.call nx (.cons (.var 0) (.cons (.cst (.int 8)) .nil))),
 .iff (.and (.cmp .ne (.var 2) (.lst .nil)) (.cmp .eq (.var 3) (.cst (.int 7)))) [.ret (.tup (.cons (.cst (.str [97,110,121])) (.cons (.idx (.var 2) (.call nx (.cons (.var 0) (.cons (.blt .len (.var 2)) .nil)))) .nil)))] [],
 .iff (.or (.cmp .eq (.var 1) (.cst (.int 0))) (.cmp .lt (.var 3) (.cst (.int 3)))) [.ret (.idx (.lst (.cons (.tup (.cons (.cst (.str [110,117,109,98,101,114])) .nil)) (.cons (.tup (.cons (.cst (.str [116,114,117,116,104])) .nil)) .nil))) (.call nx (.cons (.var 0) (.cons (.cst (.int 2)) .nil))))] [],
 .set 4 (.call self (.cons (.var 0) (.cons (.bin .sub (.var 1) (.cst (.int 1))) (.cons (.var 2) .nil)))),
 .iff (.cmp .lt (.var 3) (.cst (.int 5))) [.ret (.tup (.cons (.cst (.str [114,111,119])) (.cons (.var 4) .nil)))] [],
 .ret (.tup (.cons (.idx (.lst (.cons (.cst (.str [112,97,105,114])) (.cons (.cst (.str [119,111,114,107])) .nil))) (.bin .fdiv (.call nx (.cons (.var 0) (.cons (.cst (.int 3)) .nil))) (.cst (.int 2)))) (.cons (.var 4) (.cons (.call self (.cons (.var 0) (.cons (.bin .sub (.var 1) (.cst (.int 1))) (.cons (.var 2) .nil)))) .nil))))]⟩
theorem rO{α:Type}(xs:List α)(i:Int)(h0:0<=i)(h:i<(xs.length:Int)):∃x,x∈xs/\cg xs i=some x:=by
 have e3:i.toNat<xs.length:=by omega
 refine⟨xs[i.toNat],tB _,?_⟩;have:=i4 xs _ e3;rw[show ((i.toNat:Nat):Int)=i by omega] at this;exact this
def Draws(p:Nat)(h:Hp)(r:R W)(P:W->Prop):Prop:=∃w h',r=.ok w h'/\P w/\Ext p h h'/\Gen p h'
theorem ne_nil{h:Hp}{q:Nat}{names:List S}(e:h[q]?=some (.lst (names.map W.str))):
  bz (h++[O.lst []]) (.ref q) (.ref h.length)=some (decide (names=[])):=by
 have e2:=aP [O.lst []] e;cases names with
 |nil=>simp[bz,bE,e2]
 |cons x r=>
  have t:=wI (h++[O.lst []]) 59 r;simp only[aR] at e2;simp[bz,bE,e2,t]
structure Ft(p:Nat)(names:List S)(d:Nat)(h:Hp)(r:R W)(kd:Kd)(h':Hp):Prop where
 eq:r=.ok kd.ae h'
 deep:kd.depth<=d
 over:kd.over names
 ext:Ext p h h'
 gen:Gen p h'
abbrev Gg(C:Or)(nx p:Nat):Prop:=∀(m:Int)(h:Hp),Gen p h->0<m->∃v h',C nx [.ref p,.int m] h=.ok (.int v) h'/\0<=v/\v<m/\Ext p h h'/\Gen p h'
theorem t5{C:Or}{nx self p q:Nat}{names:List S}(iG:Gg C nx p)(hq:q≠p)(d:Nat)
  (ih:0<d->∀h,Gen p h->h[q]?=some (.lst (names.map W.str))->∃kd h',Ft p names (d-1) h (C self [.ref p,.int ((d:Int)-1),.ref q] h) kd h')
  (h:Hp) (g:Gen p h) (eq:h[q]?=some (.lst (names.map W.str))):∃kd h',Ft p names d h (bq C (e8 nx self) [.ref p,.int d,.ref q] h) kd h':=by
 obtain⟨w,h1,r1,a1,b1,x1,g1⟩:=iG 8 h g (by decide);have eq1:=x1.keep _ _ eq hq;have n1:=ne_nil eq1;have eq2:=aP [O.lst []] eq1;have g2:=g1.ext [O.lst []];have x2:=x1.trans (Ext.app p h1 [O.lst []]);have gz:∀(h:Hp),Gen p h->p≠h.length:=fun h g=>by
  obtain⟨_,_,_,_,e,_⟩:=g.ex;exact fun z=>absurd (iX e) (by rw[<-z];omega)
 have cA:∀b:Bool,decide (names=[])=!b->ag C (.and (.cmp .ne (.var 2) (.lst .nil)) (.cmp .eq (.var 3) (.cst (.int 7)))) [some (.ref p),some (.int d),some (.ref q),some (.int w),none] h1=.ok (.bl (b&&decide (w=7))) (h1++[O.lst []]):=by intro b hb;rw[hb] at n1;cases b<;>simp[n1]
 have e1:ag C (.call nx (.cons (.var 0) (.cons (.cst (.int 8)) .nil))) [some (.ref p),some (.int d),some (.ref q),none,none] h=.ok (.int w) h1:=by simp[r1]
 have st:∀{z:R Fl},au C ((e8 nx self).body.drop 1) [some (.ref p),some (.int d),some (.ref q),some (.int w),none] h1=z->au C (e8 nx self).body ([W.ref p,.int d,.ref q].map some++List.replicate ((e8 nx self).ns-(e8 nx self).ps) none) h=z:=fun k=>aG e1 k;by_cases c1:names≠ []/\w=7
 .obtain⟨c1,rfl⟩:=c1;obtain⟨v,h3,r3,a3,b3,x3,g3⟩:=iG names.length (h1++[O.lst []]) g2 (by
   have:=List.length_pos_iff.mpr c1;omega)
  obtain⟨x,hx,ex⟩:=rO (names.map W.str) v a3 (by simpa using b3);obtain⟨y,hy,rfl⟩:=jF.mp hx;have eq3:=x3.keep _ _ eq2 hq;refine⟨.any y,h3,sy rfl (st (cw (cA true (by simp[c1])) (aF ?_))),jS _,hy,x2.trans x3,g3⟩;simp[eq2,r3,eq3,ex,Kd.ae]
 .have no1:∀{z:R Fl},au C ((e8 nx self).body.drop 2) [some (.ref p),some (.int d),some (.ref q),some (.int w),none] (h1++[O.lst []])=z->au C ((e8 nx self).body.drop 1) [some (.ref p),some (.int d),some (.ref q),some (.int w),none] h1=z:=fun k=>by
   by_cases hn:names=[]
   .exact aU (cA false (by simp[hn])) k
   .have:¬ w=7:=fun z=>c1 ⟨hn,z⟩;have cc:=cA true (by simp[hn]);rw[bU this] at cc;exact aU cc k
  have cB:ag C (.or (.cmp .eq (.var 1) (.cst (.int 0))) (.cmp .lt (.var 3) (.cst (.int 3)))) [some (.ref p),some (.int d),some (.ref q),some (.int w),none] (h1++[O.lst []])=.ok (.bl (decide (d=0\/w<3))) (h1++[O.lst []]):=by by_cases hd:d=0<;>by_cases hw:w<3<;>simp[hd,hw]
  by_cases c2:d=0\/w<3
  .rw[jb c2] at cB;obtain⟨v,h3,r3,a3,b3,x3,g3⟩:=iG 2 ((h1++[O.lst []])++[.lst [.tup [.str bZ],.tup [.str fe]]]) (g2.ext _) (by decide);have el:=x3.keep _ _ (cy (h1++[O.lst []]) (.lst [.tup [.str bZ],.tup [.str fe]])) (aX (gz _ g2));have x4:=(x2.trans (Ext.app p _ [.lst [.tup [.str bZ],.tup [.str fe]]])).trans x3;have hv:v=0\/v=1:=by omega
   refine⟨if v=0 then .num else .tru,h3,sy rfl (st (no1 (cw cB (aF ?_)))),?_,?_,x4,g3⟩
   .generalize h1++[O.lst []]=hh at *;rcases hv with rfl|rfl
    .simp[r3,el,Kd.ae]
    .simp[r3,el,Kd.ae]
   .rcases hv with rfl|rfl<;>simp[Kd.depth]
   .rcases hv with rfl|rfl<;>simp[Kd.over]
  .rw[bU c2] at cB;have hd:0<d:=by omega
   obtain⟨k1,h3,i1⟩:=ih hd (h1++[O.lst []]) g2 eq2;have eq3:=i1.ext.keep _ _ eq2 hq;have e4:ag C (.call self (.cons (.var 0) (.cons (.bin .sub (.var 1) (.cst (.int 1))) (.cons (.var 2) .nil)))) [some (.ref p),some (.int d),some (.ref q),some (.int w),none] (h1++[O.lst []])=.ok k1.ae h3:=by have t1:=i1.eq;simp[t1]
   have st2:∀{z:R Fl},au C ((e8 nx self).body.drop 4) [some (.ref p),some (.int d),some (.ref q),some (.int w),some k1.ae] h3=z->au C (e8 nx self).body ([W.ref p,.int d,.ref q].map some++List.replicate ((e8 nx self).ns-(e8 nx self).ps) none) h=z:=fun k=>st (no1 (aU cB (aG e4 k)));have cC:ag C (.cmp .lt (.var 3) (.cst (.int 5))) [some (.ref p),some (.int d),some (.ref q),some (.int w),some k1.ae] h3=.ok (.bl (decide (w<5))) h3:=by simp
   by_cases c3:w<5
   .rw[jb c3] at cC;refine⟨.row k1,h3,sy rfl (st2 (cw cC (aF ?_))),?_,i1.over,x2.trans i1.ext,i1.gen⟩
    .simp[Kd.ae]
    .have:=i1.deep;simp[Kd.depth];omega
   .rw[bU c3] at cC;obtain⟨v,h5,r5,a5,b5,x5,g5⟩:=iG 3 (h3++[.lst [.str dS,.str fY]]) (i1.gen.ext _) (by decide);have el:=x5.keep _ _ (cy h3 (.lst [.str dS,.str fY])) (aX (gz _ i1.gen));have eq5:=x5.keep _ _ (aP [O.lst [.str dS,.str fY]] eq3) hq;obtain⟨k2,h6,i2⟩:=ih hd h5 g5 eq5;have hv:v / 2=0\/v / 2=1:=by omega
    refine⟨if v / 2=0 then .pair k1 k2 else .work k1 k2,h6,sy rfl (st2 (aU cC (aF ?_))),?_,?_,(((x2.trans i1.ext).trans (Ext.app p _ _)).trans x5).trans i2.ext,i2.gen⟩
    .have t2:=i2.eq;rcases hv with hv|hv
     .simp[t2,r5,el,hv,Kd.ae]
     .simp[t2,r5,el,hv,Kd.ae]
    .have:=i1.deep;have:=i2.deep;rcases hv with hv|hv<;>simp[Kd.depth,hv]<;>omega
    .rcases hv with hv|hv<;>simp[Kd.over,hv]<;>exact⟨i1.over,i2.over⟩
theorem tJ{T:List Fn}{nx:Nat}(hn:T[nx]?=some xi)(k p:Nat):Gg (run T (k+1)) nx p:=fun m h g hm=>by
 rw[run_eq hn];exact IB g hm
theorem yi{T:List Fn}{nx self p q:Nat}{names:List S}(hn:T[nx]?=some xi)(hs:T[self]?=some (e8 nx self))(hq:q≠p):
  ∀(d k:Nat)(h:Hp),Gen p h->h[q]?=some (.lst (names.map W.str))->∃kd h',Ft p names d h (run T (d+k+2) self [.ref p,.int d,.ref q] h) kd h'
 |0,k,h,g,e=>by
  rw[show 0+k+2=(k+1)+1 by omega,run_eq hs];exact t5 (tJ hn k p) hq 0 (fun z=>absurd z (by omega)) h g e
 |d+1,k,h,g,e=>by
  rw[show d+1+k+2=(d+k+2)+1 by omega,run_eq hs];refine t5 (tJ hn (d+k+1) p) hq (d+1) (fun _ h g e=>?_) h g e;have:=yi hn hs hq d k h g e;simpa using this
noncomputable abbrev A9:S:=[97,98,99,100,101,102,103,104,105,106,107,108,109,110,111,112,113,114,115,116,117,118,119,120,121,122]
def CG(nx:Nat):Fn:=⟨1,2,[
 .set 1 (.cst (.str [97,98,99,100,101,102,103,104,105,106,107,108,109,110,111,112,113,114,115,116,117,118,119,120,121,122])),
 .ret (.nM .join (.cst (.str [])) (.cons (.comp (.idx (.var 1) (.call nx (.cons (.var 0) (.cons (.cst (.int 26)) .nil)))) (.hZ (.bin .add (.cst (.int 1)) (.call nx (.cons (.var 0) (.cons (.cst (.int 8)) .nil))))) .none) .nil))]⟩
theorem lx:∀(n:Nat)(lo:Int),(upTo lo n).length=n
 |0,_=>rfl
 |n+1,lo=>by simp[upTo,lx n]
theorem oF:∀ys:List Nat,texts (ys.map fun c=>W.str [c])=some (ys.map fun c=>[c])
 |[]=>by simp
 |c::r=>by simp[oF r]
theorem um:∀ys:List S,gj [] ys=ys.flatten
 |[]=>rfl
 |[x]=>by simp
 |x::y::r=>by simp[gj,um (y::r)]
theorem qm:∀ys:List Nat,(ys.map fun c=>[c]).flatten=ys
 |[]=>rfl
 |c::r=>by simp[qm r]
theorem Gen.md{p:Nat}{h:Hp}(g:Gen p h):p≠h.length:=by obtain⟨_,_,_,_,e,_⟩:=g.ex;exact fun z=>absurd (iX e) (by rw[<-z];omega)
theorem tR{p:Nat}{k:W->List W->Hp->R (List W)}
  (hk:∀x acc h,Gen p h->∃c h',k x acc h=.ok (acc++[W.str [c]]) h'/\Ext p h h'/\Gen p h'):
  ∀(l:List W)(acc:List W)(h:Hp),Gen p h->∃(ys:List Nat) (h':Hp),eG k l acc h=.ok (acc++ys.map fun c=>W.str [c]) h'/\ys.length=l.length/\Ext p h h'/\Gen p h'
 |[],acc,h,g=>⟨[],h,by simp,rfl,Ext.refl p h,g⟩
 |x::l,acc,h,g=>by
  obtain⟨c,h1,e1,x1,g1⟩:=hk x acc h g;obtain⟨ys,h2,e2,l2,x2,g2⟩:=tR hk l (acc++[W.str [c]]) h1 g1;exact⟨c::ys,h2,by simp[e1,e2],by simp[l2],x1.trans x2,g2⟩
theorem GN{C:Or}{nx p:Nat}(iG:Gg C nx p)(h:Hp)(g:Gen p h):
  ∃x h',bq C (CG nx) [.ref p] h=.ok (.str x) h'/\x.length<=8/\Ext p h h'/\Gen p h':=by
 obtain⟨v,h1,r1,a1,b1,x1,g1⟩:=iG 8 h g (by decide);obtain⟨ys,h2,e2,l2,x2,g2⟩:=tR (p:=p) (k:=fA (fw C .none) (ag C (.idx (.var 1) (.call nx (.cons (.var 0) (.cons (.cst (.int 26)) .nil))))) [some (W.ref p),some (W.str A9)]) (fun x acc h g=>by
  obtain⟨v,h1,r1,a1,b1,x1,g1⟩:=iG 26 h g (by decide);obtain⟨c,hc,ec⟩:=rO A9 v a1 b1;exact⟨c,h1,by simp[fA,r1,ec,SZ],x1,g1⟩) (upTo 0 (1+v).toNat) [] h1 g1
 rw[lx] at l2;have hr:c8 (1+v)=true:=by simp[c8];omega
 have ly:ys.length<=8:=by omega
 refine⟨ys,h2++[.lst (ys.map fun c=>W.str [c])],?_,ly,(x1.trans x2).trans (Ext.app _ _ _),g2.ext _⟩;have z1:ys.length<=SZ:=cL ly (by decide);have ei:dN C (.hZ (.bin .add (.cst (.int 1)) (.call nx (.cons (.var 0) (.cons (.cst (.int 8)) .nil))))) [some (W.ref p),some (W.str A9)] h=.ok (.fix (upTo 0 (1+v).toNat)) h1:=by simp[r1,hr]
 have ec:ag C (.comp (.idx (.var 1) (.call nx (.cons (.var 0) (.cons (.cst (.int 26)) .nil)))) (.hZ (.bin .add (.cst (.int 1)) (.call nx (.cons (.var 0) (.cons (.cst (.int 8)) .nil))))) .none) [some (W.ref p),some (W.str A9)] h=.ok (.ref h2.length) (h2++[.lst (ys.map fun c=>W.str [c])]):=by rw[fM,ei,R.aw];simp only[walk];rw[e2];simp[dC,z1]
 unfold bq CG;have z2:((ys.map fun c=>[c]).map (·.length)).sum=ys.length:=by
  clear ec ei e2 l2 z1 ly
  induction ys with
  |nil=>rfl
  |cons c r ih=>simp only[aR,List.sum_cons,ih,cQ,ka];omega
 simp only[mC] at z2;simp[ec,z1,z2,oF,um,qm]
theorem Cr{h:Hp}{q:Nat}{xs:List W}(e:h[q]?=some (.lst xs)):bE h (.ref q)=none:=by simp[bE,e]
theorem tO(x:S):∀l:List S,((l.map W.str).any fun z=>bw z (.str x))=decide (x∈l)
 |[]=>by simp
 |y::r=>by
  simp only[aR,lN,tO x r,lQ,cX];by_cases e:y=x<;>by_cases f:x∈r<;>simp[e,f]<;>simp_all [eq_comm]
theorem qU:∀l:List S,(l.map W.str).all flat=true
 |[]=>rfl
 |x::r=>by simp[qU r]
theorem nR{h:Hp}{q:Nat}{l:List S}(e:h[q]?=some (.lst (l.map W.str)))(x:S):isIn (.str x) (.ref q) h=some (decide (x∈l)):=by unfold isIn;rw[Cr e];have:=qU l;simp only[zM,items,e,tO,this];simp
theorem qO(x:S)(l:List S)(h:Hp):isIn (.str x) (.tup (l.map W.str)) h=some (decide (x∈l)):=by unfold isIn;have:=qU l;simp only[bE,zM,tO,this];simp
theorem sT(k:Kd):∃x r,k.ae=.tup (x::r):=by cases k<;>simp[Kd.ae]
structure aD(h h':Hp):Prop where
 len:h.length<=h'.length
 keep:∀(q:Nat)(o:O),h[q]?=some o->h'[q]?=some o
theorem aD.refl(h:Hp):aD h h:=⟨aA _,fun _ _ e=>e⟩
theorem aD.trans{h h1 h2:Hp}(a:aD h h1)(b:aD h1 h2):aD h h2:=⟨cL a.len b.len,fun q o e=>b.keep q o (a.keep q o e)⟩
theorem aD.app(h:Hp)(x:List O):aD h (h++x):=⟨by simp,fun _ _ e=>aP x e⟩
theorem aD.gen{p:Nat}{h h':Hp}(g:Gen p h)(x:aD h h'):Gen p h':=by obtain⟨a,c,l,ns,e1,e2,e3⟩:=g.ex;exact⟨a,c,l,ns,x.keep _ _ e1,x.keep _ _ e2,e3⟩
theorem aD.ext{h h':Hp}(g:aD h h')(p:Nat):Ext p h h':=⟨g.len,fun q o e _=>g.keep q o e⟩
mutual
noncomputable def W.pure:W->Bool
 |.tup xs=>bp xs
 |.ref _=>false
 |.lst _=>false
 |_=>true
noncomputable def bp:List W->Bool
 |[]=>true
 |x::xs=>x.pure&&bp xs
end
mutual
theorem yQ(h:Hp):∀(w:W)(n:Nat),w.pure=true->w.deep<=n->rd h n w=some w
 |.ak,n,_,_=>by simp
 |.bl _,n,_,_=>by simp
 |.int _,n,_,_=>by simp
 |.str _,n,_,_=>by simp
 |.ref _,n,p,_=>by simp[W.pure] at p
 |.lst _,n,p,_=>by simp[W.pure] at p
 |.tup xs,0,_,d=>by simp[W.deep] at d
 |.tup xs,n+1,p,d=>by
  simp only[W.pure] at p;simp only[W.deep] at d;simp[qV h xs n p (by omega)]
theorem qV(h:Hp):∀(xs:List W)(n:Nat),bp xs=true->aS xs<=n->gu h n xs=some xs
 |[],n,_,_=>by simp
 |x::xs,n,p,d=>by
  simp only[bp,av] at p;simp only[aS] at d;simp[yQ h x n p.1 (by omega),qV h xs n p.2 (by omega)]
end
mutual
theorem xj:∀(w:W),w.pure=true->bw w w=true
 |.ak,_=>by simp
 |.bl _,_=>by simp
 |.int _,_=>by simp
 |.str _,_=>by simp
 |.ref _,p=>by simp[W.pure] at p
 |.lst _,p=>by simp[W.pure] at p
 |.tup xs,p=>by
  simp only[W.pure] at p;simp[uB xs p]
theorem uB:∀(xs:List W),bp xs=true->n8 xs xs=true
 |[],_=>by simp
 |x::xs,p=>by
  simp only[bp,av] at p;simp[xj x p.1,uB xs p.2]
end
theorem Bk(h:Hp){w:W}(p:w.pure=true):bE h w=none:=by cases w<;>simp[bE]<;>simp[W.pure] at p
theorem xg(h:Hp){w:W}(p:w.pure=true)(d:w.deep<=60):bz h w w=some true:=by simp[bz,Bk h p,yQ h w 60 p d,xj w p]
theorem dX:∀k:Kd,k.ae.pure=true
 |.num=>rfl
 |.tru=>rfl
 |.any _=>rfl
 |.gap _=>rfl
 |.row k=>by simp[Kd.ae,W.pure,bp,dX k]
 |.pair a b=>by simp[Kd.ae,W.pure,bp,dX a,dX b]
 |.work a b=>by simp[Kd.ae,W.pure,bp,dX a,dX b]
theorem eA:∀k:Kd,k.ae.deep<=k.depth+1
 |.num=>by simp[Kd.ae,W.deep,aS]
 |.tru=>by simp[Kd.ae,W.deep,aS]
 |.any _=>by simp[Kd.ae,W.deep,aS]
 |.gap _=>by simp[Kd.ae,W.deep,aS]
 |.row k=>by have:=eA k;simp[Kd.ae,W.deep,aS,Kd.depth];omega
 |.pair a b=>by have:=eA a;have:=eA b;simp[Kd.ae,W.deep,aS,Kd.depth];omega
 |.work a b=>by have:=eA a;have:=eA b;simp[Kd.ae,W.deep,aS,Kd.depth];omega
theorem zm{h:Hp}{a:Nat}{ws:List W}(e:h[a]?=some (.lst ws))(p:bp ws=true)(d:aS ws<=59):
  bz (h++[O.lst []]) (.ref a) (.ref h.length)=some ws.isEmpty:=by
 have e2:=aP [O.lst []] e;simp only[bz,bE,e2,cy,rd,qV _ ws 59 p d];cases ws<;>simp
theorem CD(x y:S):pQ (.str x) (.str y)=decide (x=y):=by simp[pQ,pZ]
theorem sG{a:Nat}{t:Tg}{k:Env->Hp->R Fl}{xs:List W}(P:Nat->Env->Hp->Prop)(hl:∀i σ h,P i σ h->bD h a=some xs)
  (step:∀i σ h x,P i σ h->xs[i]?=some x->∃σ1,iZ t x σ=some σ1/\∃σ' h',k σ1 h=.ok (.next σ') h'/\P (i+1) σ' h'):
  ∀n i σ h,i+n=xs.length->P i σ h->∃σ' h',cH a t k n i σ h=.ok (.next σ') h'/\P xs.length σ' h':=by
 intro n
 induction n with
 |zero=>
  intro i σ h e p;have ei:i=xs.length:=by omega
  refine⟨σ,h,?_,ei▸p⟩;unfold cH;have:xs[i]?=none:=DY (by omega);simp only[hl i σ h p,this]
 |succ n ih=>
  intro i σ h e p;have hx:xs[i]?=some xs[i]:=iM (by omega);obtain⟨σ1,e1,σ2,h2,e2,p2⟩:=step i σ h _ p hx;obtain⟨σ3,h3,e3,p3⟩:=ih (i+1) σ2 h2 (by omega) p2;refine⟨σ3,h3,?_,p3⟩;unfold cH;simp only[hl i σ h p,hx,turn,e1,e2,R.aw,e3]
noncomputable def mf:Fn:=⟨1,1,[
 .iff (.cmp .isin (.idx (.var 0) (.cst (.int 0))) (.tup (.cons (.cst (.str [114,111,119])) (.cons (.cst (.str [112,97,105,114])) (.cons (.cst (.str [119,111,114,107])) .nil))))) [.ret (.sl (.var 0) (.some (.cst (.int 1))) .none)] [],
 .ret (.tup .nil)]⟩
noncomputable def bC:Kd->List Kd
 |.row k=>[k]
 |.pair a b=>[a,b]
 |.work a b=>[a,b]
 |_=>[]
theorem y8(C:Or)(h:Hp)(x:S)(r:List W)(b:Bool)(e:decide (x∈ [fo,dS,fY])=b):ag C (.cmp .isin (.idx (.var 0) (.cst (.int 0))) (.tup (.cons (.cst (.str [114,111,119])) (.cons (.cst (.str [112,97,105,114])) (.cons (.cst (.str [119,111,114,107])) .nil))))) [some (.tup (.str x::r))] h=.ok (.bl b) h:=by have t:=qO x [fo,dS,fY] h;rw[e] at t;simp only[aR,gD] at t;simp[t]
theorem Hm(C:Or)(h:Hp)(x:W)(r:List W)(l:r≠ []):ag C (.sl (.var 0) (.some (.cst (.int 1))) .none) [some (.tup (x::r))] h=.ok (.tup r) h:=by
 have:¬ (min 1 (r.length+1)=0):=by omega
 simp[cut,aV]
theorem j7(C:Or)(kd:Kd)(h:Hp):bq C mf [kd.ae] h=.ok (.tup ((bC kd).map Kd.ae)) h:=by
 have no:∀(x:S)(r:List W),decide (x∈ [fo,dS,fY])=false->bq C mf [.tup (.str x::r)] h=.ok (.tup []) h:=fun x r e=>bJ [some (.tup (.str x::r))] rfl rfl (aU (y8 C h x r _ e) (aF (by simp)));have yes:∀(x:S)(r:List W),decide (x∈ [fo,dS,fY])=true->r≠ []->bq C mf [.tup (.str x::r)] h=.ok (.tup r) h:=fun x r e l=>bJ [some (.tup (.str x::r))] rfl rfl (cw (y8 C h x r _ e) (aF (Hm C h _ r l)));cases kd with
 |num=>exact no _ _ (by decide)
 |tru=>exact no _ _ (by decide)
 |any x=>exact no _ _ (by decide)
 |gap n=>exact no _ _ (by decide)
 |row a=>exact yes _ _ (by decide) (by simp)
 |pair a b=>exact yes _ _ (by decide) (by simp)
 |work a b=>exact yes _ _ (by decide) (by simp)
def nc(l:List S)(x:S):List S:=if x∈l then l else l++[x]
noncomputable def Kd.put:Kd->List S->List S
 |.row k,l=>k.put l
 |.pair a b,l=>b.put (a.put l)
 |.work a b,l=>b.put (a.put l)
 |.any x,l=>nc l x
 |_,l=>l
def gw(l:List S):List (W×W):=l.map fun x=>(.str x,.bl true)
theorem CC(x:S):∀l:List S,dput (.str x) (.bl true) (gw l)=gw (nc l x)
 |[]=>by simp[gw,nc]
 |y::r=>by
  have ih:=CC x r;simp only[gw,aR,dput,CD] at ih⊢;by_cases e:y=x
  .subst e;simp[nc]
  .rw[if_neg (by simp[e]),ih];unfold nc;by_cases m:x∈r
   .simp[m]
   .have:x≠y:=fun z=>e z.symm;simp[m,this]
theorem Ex(l:List S)(x:S):(nc l x).length<=l.length+1:=by unfold nc;split<;>simp
theorem za:∀(kd:Kd)(l:List S),(kd.put l).length<=l.length+2 ^ kd.depth:=by
 intro kd
 induction kd with
 |any x=>intro l;have:=Ex l x;simpa [Kd.put,Kd.depth] using this
 |row a ih=>intro l;have:=ih l;simp only[Kd.put,Kd.depth,oo];omega
 |pair a b iha ihb=>
  intro l;have h1:=iha l;have h2:=ihb (a.put l);have c1:2 ^ a.depth<=2 ^ (max a.depth b.depth):=jA (by decide) (by omega);have c2:2 ^ b.depth<=2 ^ (max a.depth b.depth):=jA (by decide) (by omega);simp only[Kd.put,Kd.depth,oo];omega
 |work a b iha ihb=>
  intro l;have h1:=iha l;have h2:=ihb (a.put l);have c1:2 ^ a.depth<=2 ^ (max a.depth b.depth):=jA (by decide) (by omega);have c2:2 ^ b.depth<=2 ^ (max a.depth b.depth):=jA (by decide) (by omega);simp only[Kd.put,Kd.depth,oo];omega
 |_=>intro l;simp[Kd.put]
noncomputable def lW(self:Nat):List St:=[.expr (.call self (.cons (.var 2) (.cons (.var 1) .nil)))]
def Gz(pt self:Nat):Fn:=⟨2,3,[
 .iff (.cmp .eq (.idx (.var 0) (.cst (.int 0))) (.cst (.str [97,110,121]))) [.put (.var 1) (.idx (.var 0) (.cst (.int 1))) (.cst (.bl true))] [],
 .for (.var 2) (.seq (.call pt (.cons (.var 0) .nil))) (lW self)]⟩
theorem rm{h:Hp}{q:Nat}{o:O}(e:h[q]?=some o):h.set q o=h:=by
 apply EW;intro i;by_cases z:q=i
 .subst z;rw[iu (iX e),e]
 .rw[iy z]
theorem u7(C:Or)(h:Hp)(x:S)(r:List W)(o:Option W)(u:Option W)(b:Bool)(e:decide (x=oX)=b):ag C (.cmp .eq (.idx (.var 0) (.cst (.int 0))) (.cst (.str [97,110,121]))) [some (.tup (.str x::r)),o,u] h=.ok (.bl b) h:=by subst e;simp
theorem vm{C:Or}{pt self:Nat}{σ:Env}{h:Hp}{w:W}{ws:List W}(s0:σ[0]?=some (some w))(e:C pt [w] h=.ok (.tup ws) h):dq C (.for (.var 2) (.seq (.call pt (.cons (.var 0) .nil))) (lW self)) σ h=bh (.var 2) (au C (lW self)) ws σ h:=by rw[fh];simp[s0,e]
theorem Ao{C:Or}{self q:Nat}{h h':Hp}{x w:W}{o:Option W}(e:C self [x,.ref q] h=.ok .ak h'):au C (lW self) [some w,some (.ref q),some x] h=.ok (.next [some w,some (.ref q),some x]) h':=by simp[lW,e]
theorem xw{T:List Fn}{pt self q:Nat}(hp:T[pt]?=some mf)(hs:T[self]?=some (Gz pt self)):
  ∀(kd:Kd)(k:Nat)(h:Hp)(l:List S),kd.depth+2<=k->l.length+2 ^ kd.depth<=SZ->h[q]?=some (.aK (gw l))->run T k self [kd.ae,.ref q] h=.ok .ak (h.set q (.aK (gw (kd.put l)))):=by
 have none_:∀(kd:Kd)(x:S)(r:List W)(k:Nat)(h:Hp),kd.ae=.tup (.str x::r)->decide (x=oX)=false->bC kd=[]->run T (k+2) self [kd.ae,.ref q] h=.ok .ak h:=by intro kd x r k h e1 e2 e3;have p:=j7 (run T k) kd h;rw[<-run_eq hp,e3] at p;rw[run_eq hs];rw[e1] at p⊢;exact rM [some (.tup (.str x::r)),some (.ref q),none] rfl rfl (aU (u7 _ h x r _ _ _ e2) (cF (vm rfl p) rfl))
 have two:∀(kd:Kd)(x:S)(a b:Kd)(k:Nat)(h h1 h2:Hp),kd.ae=.tup [.str x,a.ae,b.ae]->decide (x=oX)=false->bC kd=[a,b]->run T (k+1) self [a.ae,.ref q] h=.ok .ak h1->run T (k+1) self [b.ae,.ref q] h1=.ok .ak h2->run T (k+2) self [kd.ae,.ref q] h=.ok .ak h2:=by intro kd x a b k h h1 h2 e1 e2 e3 ra rb;have p:=j7 (run T k) kd h;rw[<-run_eq hp,e3] at p;rw[run_eq hs];rw[e1] at p⊢;refine rM [some (.tup [.str x,a.ae,b.ae]),some (.ref q),none] rfl rfl (σ':=[some (.tup [.str x,a.ae,b.ae]),some (.ref q),some b.ae]) (aU (u7 _ h x _ _ _ _ e2) (cF (σ':=[some (.tup [.str x,a.ae,b.ae]),some (.ref q),some b.ae]) (h':=h2) ((vm rfl p).trans ?_) rfl));simp only[aR,gD,bh,turn,iZ,lE,lL,Ao (o:=none) ra,Ao (o:=none) rb,R.aw]
 intro kd
 induction kd with
 |num=>intro k h l hk hl e;obtain⟨k,rfl⟩:∃j,k=j+2:=⟨k-2,by omega⟩;rw[none_ .num _ _ k h rfl (by decide) rfl];simp[Kd.put,rm e]
 |tru=>intro k h l hk hl e;obtain⟨k,rfl⟩:∃j,k=j+2:=⟨k-2,by omega⟩;rw[none_ .tru _ _ k h rfl (by decide) rfl];simp[Kd.put,rm e]
 |gap n=>intro k h l hk hl e;obtain⟨k,rfl⟩:∃j,k=j+2:=⟨k-2,by omega⟩;rw[none_ (.gap n) _ _ k h rfl (by decide) rfl];simp[Kd.put,rm e]
 |any x=>
  intro k h l hk hl e;obtain⟨k,rfl⟩:∃j,k=j+2:=⟨k-2,by omega⟩;have p:=j7 (run T k) (.any x) (h.set q (.aK (gw (nc l x))));rw[<-run_eq hp] at p;rw[run_eq hs];have hl':(gw l).length<SZ:=by simp[gw,Kd.depth] at hl⊢;omega
  exact rM [some (.tup [.str oX,.str x]),some (.ref q),none] rfl rfl (u9 (u7 _ h oX _ _ _ _ (by decide)) (h3:=h.set q (.aK (gw (nc l x)))) (σ':=[some (.tup [.str oX,.str x]),some (.ref q),none]) (by simp[e,CC,hl']) (cF (vm rfl p) rfl))
 |row a iha=>
  intro k h l hk hl e;simp only[Kd.depth,oo] at hk hl;obtain⟨k,rfl⟩:∃j,k=j+2:=⟨k-2,by omega⟩;have p:=j7 (run T k) (.row a) h;rw[<-run_eq hp] at p;have h1:=iha (k+1) h l (by omega) (by omega) e;rw[run_eq hs];refine rM [some (.tup [.str fo,a.ae]),some (.ref q),none] rfl rfl (σ':=[some (.tup [.str fo,a.ae]),some (.ref q),some a.ae]) (aU (u7 _ h fo _ _ _ _ (by decide)) (cF (σ':=[some (.tup [.str fo,a.ae]),some (.ref q),some a.ae]) (h':=h.set q (.aK (gw (a.put l)))) ((vm rfl p).trans ?_) rfl));simp only[bC,aR,gD,bh,turn,iZ,lE,lL,Ao (o:=none) h1,R.aw]
 |pair a b iha ihb=>
  intro k h l hk hl e;have c1:2 ^ a.depth<=2 ^ (max a.depth b.depth):=jA (by decide) (by omega);have c2:2 ^ b.depth<=2 ^ (max a.depth b.depth):=jA (by decide) (by omega);simp only[Kd.depth,oo] at hk hl;obtain⟨k,rfl⟩:∃j,k=j+2:=⟨k-2,by omega⟩;have pl:=za a l;have z:=two (.pair a b) _ a b k h _ _ rfl (by decide) rfl (iha (k+1) h l (by omega) (by omega) e) (ihb (k+1) (h.set q (.aK (gw (a.put l)))) (a.put l) (by omega) (by omega) (fg e));rw[Ad] at z;exact z
 |work a b iha ihb=>
  intro k h l hk hl e;have c1:2 ^ a.depth<=2 ^ (max a.depth b.depth):=jA (by decide) (by omega);have c2:2 ^ b.depth<=2 ^ (max a.depth b.depth):=jA (by decide) (by omega);simp only[Kd.depth,oo] at hk hl;obtain⟨k,rfl⟩:∃j,k=j+2:=⟨k-2,by omega⟩;have pl:=za a l;have z:=two (.work a b) _ a b k h _ _ rfl (by decide) rfl (iha (k+1) h l (by omega) (by omega) e) (ihb (k+1) (h.set q (.aK (gw (a.put l)))) (a.put l) (by omega) (by omega) (fg e));rw[Ad] at z;exact z
def zh(pn:Nat):Fn:=⟨1,2,[
 .set 1 (.aK .nil),
 .expr (.call pn (.cons (.var 0) (.cons (.var 1) .nil))),
 .ret (.blt .list (.var 1))]⟩
theorem E7{T:List Fn}{pt pn self:Nat}(hp:T[pt]?=some mf)(hs:T[pn]?=some (Gz pt pn))(hn:T[self]?=some (zh pn))(kd:Kd)(k:Nat)(h:Hp)(hk:kd.depth+3<=k)(hl:2 ^ kd.depth<=SZ):
  run T k self [kd.ae] h=.ok (.ref (h.length+1)) (h++[.aK (gw (kd.put [])),.lst ((kd.put []).map W.str)]):=by
 obtain⟨k,rfl⟩:∃j,k=j+1:=⟨k-1,by omega⟩;have p:=xw (q:=h.length) hp hs kd k (h++[.aK (gw [])]) [] (by omega) (by simpa using hl) (by simp);simp only[gw,gD] at p;rw[run_eq hn];unfold bq zh;have e1:(h++[O.aK []]).set h.length (O.aK (gw (kd.put [])))=h++[O.aK (gw (kd.put []))]:=by rw[Ax _ _ (aA _)];simp
 simp only[gw] at e1;simp[p,e1,gw,mC,vO]
end Tw
namespace K10
open Tw
abbrev lU:Nat:=0
abbrev mU:Nat:=1
abbrev jm:Nat:=2
abbrev eY:Nat:=3
abbrev gm:Nat:=4
abbrev iO:Nat:=5
abbrev kM:Nat:=6
abbrev eN:Nat:=7
abbrev f9:Nat:=8
abbrev dG:Nat:=9
abbrev dy:Nat:=10
abbrev c9:Nat:=11
abbrev b8:Nat:=12
abbrev cZ:Nat:=13
abbrev jf:Nat:=14
abbrev eZ:Nat:=15
abbrev lb:Nat:=16
abbrev jO:Nat:=17
abbrev jw:Nat:=18
abbrev jh:Nat:=19
abbrev iI:Nat:=20
abbrev qw:Nat:=21
abbrev iq:Nat:=22
abbrev jz:Nat:=23
abbrev dO:Nat:=24
abbrev qR:Nat:=25
abbrev jC:Nat:=26
abbrev ko:Nat:=27
abbrev ff:Nat:=28
abbrev iK:Nat:=29
abbrev aW:Nat:=30
abbrev mO:Nat:=31
abbrev qW:Nat:=32
abbrev iY:Nat:=33
abbrev aZ:Nat:=34
abbrev dh:Nat:=35
abbrev iw:Nat:=36
abbrev FQ:Nat:=37
noncomputable def zA:Fn:=⟨1,1,[
 .iff (.cmp .isin (.idx (.var 0) (.cst (.int 0))) (.tup (.cons (.cst (.str [114,111,119])) (.cons (.cst (.str [112,97,105,114])) (.cons (.cst (.str [119,111,114,107])) .nil))))) [.ret (.sl (.var 0) (.some (.cst (.int 1))) .none)] [],
 .ret (.tup .nil)]⟩
noncomputable def rZ:Fn:=⟨1,2,[
 .set 1 (.aK .nil),
 .expr (.call jm (.cons (.var 0) (.cons (.var 1) .nil))),
 .ret (.blt .list (.var 1))]⟩
noncomputable def sS:List St:=[.expr (.call jm (.cons (.var 2) (.cons (.var 1) .nil)))]
def qc:Fn:=⟨2,3,[
 .iff (.cmp .eq (.idx (.var 0) (.cst (.int 0))) (.cst (.str [97,110,121]))) [.put (.var 1) (.idx (.var 0) (.cst (.int 1))) (.cst (.bl true))] [],
 .for (.var 2) (.seq (.call lU (.cons (.var 0) .nil))) sS]⟩
noncomputable def e9:List St:=[.set 3 (.call eY (.cons (.var 2) (.cons (.var 1) .nil))),.iff (.cmp .notN (.var 3) (.cst .ak)) [.ret (.var 3)] []]
def rA:Fn:=⟨2,4,[
 .iff (.cmp .eq (.idx (.var 0) (.cst (.int 0))) (.cst (.str [119,111,114,107]))) [.ret (.var 0)] [],
 .iff (.and (.cmp .eq (.idx (.var 0) (.cst (.int 0))) (.cst (.str [97,110,121]))) (.cmp .notin (.idx (.var 0) (.cst (.int 1))) (.var 1))) [.ret (.var 0)] [],
 .for (.var 2) (.seq (.call lU (.cons (.var 0) .nil))) e9,
 .ret (.cst .ak)]⟩
noncomputable def sD:Fn:=⟨2,2,[
 .iff (.cmp .isin (.idx (.var 0) (.cst (.int 0))) (.tup (.cons (.cst (.str [110,117,109,98,101,114])) (.cons (.cst (.str [116,114,117,116,104])) .nil)))) [.ret (.tup (.cons (.cst (.str [108,105,107,101])) (.cons (.var 0) .nil)))] [],
 .iff (.cmp .eq (.idx (.var 0) (.cst (.int 0))) (.cst (.str [114,111,119]))) [.ret (.tup (.cons (.cst (.str [108,105,107,101,114,111,119])) (.cons (.call gm (.cons (.idx (.var 0) (.cst (.int 1))) (.cons (.var 1) .nil))) .nil)))] [],
 .iff (.cmp .eq (.idx (.var 0) (.cst (.int 0))) (.cst (.str [112,97,105,114]))) [.ret (.tup (.cons (.cst (.str [108,105,107,101,112,97,105,114])) (.cons (.call gm (.cons (.idx (.var 0) (.cst (.int 1))) (.cons (.var 1) .nil))) (.cons (.call gm (.cons (.idx (.var 0) (.cst (.int 2))) (.cons (.var 1) .nil))) .nil))))] [],
 .ret (.idx (.var 1) (.idx (.var 0) (.cst (.int 1))))]⟩
noncomputable def kI:Fn:=⟨5,5,[
 .lC (.var 0) [115,104,101,108,102] (.var 1),
 .lC (.var 0) [102,114,101,101] (.var 2),
 .lC (.var 0) [110,101,101,100,115] (.var 3),
 .lC (.var 0) [98,111,117,110,100] (.var 4)]⟩
noncomputable def kz:Fn:=⟨3,3,[
 .ret (.mk [83,99,111,112,101] iO (.cons (.fld (.var 0) [115,104,101,108,102]) (.cons (.fld (.var 0) [102,114,101,101]) (.cons (.fld (.var 0) [110,101,101,100,115]) (.cons (.bin .add (.tup (.cons (.tup (.cons (.var 1) (.cons (.var 2) .nil))) .nil)) (.fld (.var 0) [98,111,117,110,100])) .nil)))))]⟩
noncomputable def fk:E:=(.var 2)
def hW:Fn:=⟨2,2,[
 .ret (.cmp .isin (.var 1) (.jj fk (.seq (.fld (.var 0) [98,111,117,110,100]))))]⟩
noncomputable def gJ:E:=(.var 3)
def ja:Fn:=⟨2,3,[
 .set 2 (.nM .index (.jj gJ (.seq (.fld (.var 0) [98,111,117,110,100]))) (.cons (.var 1) .nil)),
 .ret (.tup (.cons (.tup (.cons (.cst (.str [118,97,114])) (.cons (.var 2) .nil))) (.cons (.idx (.idx (.fld (.var 0) [98,111,117,110,100]) (.var 2)) (.cst (.int 1))) .nil)))]⟩
noncomputable def iQ:Fn:=⟨3,4,[
 .set 3 (.call eY (.cons (.var 1) (.cons (.fld (.var 0) [110,101,101,100,115]) .nil))),
 .iff (.cmp .notN (.var 3) (.cst .ak)) [.raise [78,111,82,117,108,101] [[112,108,97,99,101],[107,105,110,100]] (.cons (.var 2) (.cons (.var 3) .nil))] [],
 .ret (.call gm (.cons (.var 1) (.cons (.own (.var 0) [83,99,111,112,101] [108,105,107,101,110,101,115,115,101,115,95,103,105,118,101,110] dy .nil) .nil)))]⟩
noncomputable def jn:List St:=[.put (.var 1) (.var 3) (.tup (.cons (.cst (.str [118,97,114])) (.cons (.var 2) .nil))),.aug 2 .add (.cst (.int 1))]
def fJ:Fn:=⟨1,4,[
 .set 1 (.aK .nil),
 .set 2 (.blt .len (.fld (.var 0) [98,111,117,110,100])),
 .for (.var 3) (.rev (.fld (.var 0) [110,101,101,100,115])) jn,
 .ret (.var 1)]⟩
noncomputable def nU:Fn:=⟨3,3,[
 .ret (.qN [([110,117,109,98,101,114],jf),([121,101,115],eZ),([110,111],eZ),([116,111,108,100],lb),([98,111,116,104],jw),([108,105,107,101],jz)] (.idx (.var 0) (.cst (.int 0))) (.cons (.var 0) (.cons (.var 1) (.cons (.var 2) .nil))))]⟩
noncomputable def ll:Fn:=⟨4,4,[
 .iff (.zu (.idx (.var 0) (.cst (.int 0))) [[110,97,109,101],[102,117,110],[99,97,108,108],[98,111,116,104],[114,111,119,111,102],[97,104,101,97,100],[105,102],[108,101,116]]) [.ret (.qN [([110,97,109,101],dO),([102,117,110],jO),([99,97,108,108],dO),([98,111,116,104],jh),([114,111,119,111,102],iI),([97,104,101,97,100],iq)] (.idx (.var 0) (.cst (.int 0))) (.cons (.var 0) (.cons (.var 1) (.cons (.var 2) (.cons (.var 3) .nil)))))] [],
 .ret (.call cZ (.cons (.var 0) (.cons (.var 1) (.cons (.var 2) (.cons (.var 3) .nil)))))]⟩
noncomputable def nK:Fn:=⟨4,6,[
 .iF 4 5 (.call c9 (.cons (.var 0) (.cons (.var 2) (.cons (.var 3) .nil)))),
 .iff (.cmp .ne (.var 5) (.var 1)) [.bad] [],
 .ret (.var 4)]⟩
noncomputable def lO:Fn:=⟨3,3,[
 .ret (.tup (.cons (.var 0) (.cons (.cst (.tup [(.str [110,117,109,98,101,114])])) .nil)))]⟩
noncomputable def jR:Fn:=⟨3,3,[
 .ret (.tup (.cons (.var 0) (.cons (.cst (.tup [(.str [116,114,117,116,104])])) .nil)))]⟩
noncomputable def iD:List St:=[.iff (.cmp .notin (.var 3) (.fld (.var 2) [102,114,101,101])) [.bad] []]
def oa:Fn:=⟨3,4,[
 .for (.var 3) (.seq (.call mU (.cons (.idx (.var 0) (.cst (.int 2))) .nil))) iD,
 .ret (.tup (.cons (.call b8 (.cons (.idx (.var 0) (.cst (.int 1))) (.cons (.idx (.var 0) (.cst (.int 2))) (.cons (.bin .add (.var 1) (.tup (.cons (.cst (.int 0)) .nil))) (.cons (.var 2) .nil))))) (.cons (.idx (.var 0) (.cst (.int 2))) .nil)))]⟩
noncomputable def sA:Fn:=⟨4,5,[
 .iff (.cmp .ne (.idx (.var 1) (.cst (.int 0))) (.cst (.str [119,111,114,107]))) [.bad] [],
 .set 4 (.call b8 (.cons (.idx (.var 0) (.cst (.int 2))) (.cons (.idx (.var 1) (.cst (.int 2))) (.cons (.bin .add (.var 2) (.tup (.cons (.cst (.int 0)) .nil))) (.cons (.own (.var 3) [83,99,111,112,101] [98,105,110,100] kM (.cons (.idx (.var 0) (.cst (.int 1))) (.cons (.idx (.var 1) (.cst (.int 1))) .nil))) .nil))))),
 .ret (.tup (.cons (.cst (.str [102,117,110])) (.cons (.idx (.var 1) (.cst (.int 1))) (.cons (.var 4) .nil))))]⟩
noncomputable def uP:Fn:=⟨3,7,[
 .iF 3 4 (.call c9 (.cons (.idx (.var 0) (.cst (.int 1))) (.cons (.bin .add (.var 1) (.tup (.cons (.cst (.int 0)) .nil))) (.cons (.var 2) .nil)))),
 .iF 5 6 (.call c9 (.cons (.idx (.var 0) (.cst (.int 2))) (.cons (.bin .add (.var 1) (.tup (.cons (.cst (.int 1)) .nil))) (.cons (.var 2) .nil)))),
 .ret (.tup (.cons (.tup (.cons (.cst (.str [98,111,116,104])) (.cons (.var 3) (.cons (.var 5) .nil)))) (.cons (.tup (.cons (.cst (.str [112,97,105,114])) (.cons (.var 4) (.cons (.var 6) .nil)))) .nil)))]⟩
noncomputable def qo:Fn:=⟨4,6,[
 .iff (.cmp .ne (.idx (.var 1) (.cst (.int 0))) (.cst (.str [112,97,105,114]))) [.ret (.call cZ (.cons (.var 0) (.cons (.var 1) (.cons (.var 2) (.cons (.var 3) .nil)))))] [],
 .set 4 (.call b8 (.cons (.idx (.var 0) (.cst (.int 1))) (.cons (.idx (.var 1) (.cst (.int 1))) (.cons (.bin .add (.var 2) (.tup (.cons (.cst (.int 0)) .nil))) (.cons (.var 3) .nil))))),
 .set 5 (.call b8 (.cons (.idx (.var 0) (.cst (.int 2))) (.cons (.idx (.var 1) (.cst (.int 2))) (.cons (.bin .add (.var 2) (.tup (.cons (.cst (.int 1)) .nil))) (.cons (.var 3) .nil))))),
 .ret (.tup (.cons (.cst (.str [98,111,116,104])) (.cons (.var 4) (.cons (.var 5) .nil))))]⟩
noncomputable def fH:E:=(.call b8 (.cons (.var 6) (.cons (.idx (.var 1) (.cst (.int 1))) (.cons (.bin .add (.var 2) (.tup (.cons (.var 5) .nil))) (.cons (.var 3) .nil)))))
def kc:Fn:=⟨4,5,[
 .iff (.cmp .eq (.idx (.var 1) (.cst (.int 0))) (.cst (.str [114,111,119]))) [.set 4 (.jj fH (.enum (.idx (.var 0) (.cst (.int 1))))),.ret (.call qw (.cons (.var 4) (.cons (.idx (.var 1) (.cst (.int 1))) .nil)))] [],
 .iff (.cmp .eq (.blt .len (.idx (.var 0) (.cst (.int 1)))) (.cst (.int 0))) [.bad] [],
 .ret (.call cZ (.cons (.var 0) (.cons (.var 1) (.cons (.var 2) (.cons (.var 3) .nil)))))]⟩
noncomputable def jg:List St:=[.set 2 (.tup (.cons (.cst (.str [109,111,114,101])) (.cons (.var 3) (.cons (.var 2) .nil))))]
def qL:Fn:=⟨2,4,[
 .set 2 (.tup (.cons (.cst (.str [110,111,110,101])) (.cons (.var 1) .nil))),
 .for (.var 3) (.rev (.var 0)) jg,
 .ret (.var 2)]⟩
noncomputable def oC:Fn:=⟨4,6,[
 .iff (.cmp .ne (.idx (.var 1) (.cst (.int 0))) (.cst (.str [114,111,119]))) [.ret (.call cZ (.cons (.var 0) (.cons (.var 1) (.cons (.var 2) (.cons (.var 3) .nil)))))] [],
 .set 4 (.call b8 (.cons (.idx (.var 0) (.cst (.int 1))) (.cons (.idx (.var 1) (.cst (.int 1))) (.cons (.bin .add (.var 2) (.tup (.cons (.cst (.int 0)) .nil))) (.cons (.var 3) .nil))))),
 .set 5 (.call b8 (.cons (.idx (.var 0) (.cst (.int 2))) (.cons (.var 1) (.cons (.bin .add (.var 2) (.tup (.cons (.cst (.int 1)) .nil))) (.cons (.var 3) .nil))))),
 .ret (.tup (.cons (.cst (.str [109,111,114,101])) (.cons (.var 4) (.cons (.var 5) .nil))))]⟩
noncomputable def uf:Fn:=⟨3,6,[
 .iF 3 4 (.call c9 (.cons (.idx (.var 0) (.cst (.int 1))) (.cons (.bin .add (.var 1) (.tup (.cons (.cst (.int 0)) .nil))) (.cons (.var 2) .nil)))),
 .set 5 (.call b8 (.cons (.idx (.var 0) (.cst (.int 2))) (.cons (.var 4) (.cons (.bin .add (.var 1) (.tup (.cons (.cst (.int 1)) .nil))) (.cons (.var 2) .nil))))),
 .ret (.tup (.cons (.tup (.cons (.cst (.str [99,97,108,108])) (.cons (.tup (.cons (.cst (.str [99,97,108,108])) (.cons (.own (.var 2) [83,99,111,112,101] [108,105,107,101,110,101,115,115,95,111,102] dG (.cons (.var 4) (.cons (.var 1) .nil))) (.cons (.var 3) .nil)))) (.cons (.var 5) .nil)))) (.cons (.cst (.tup [(.str [116,114,117,116,104])])) .nil)))]⟩
noncomputable def nN:Fn:=⟨4,6,[
 .iF 4 5 (.call qR (.cons (.var 0) (.cons (.var 1) (.cons (.var 2) (.cons (.var 3) .nil))))),
 .iff (.cmp .ne (.var 5) (.var 1)) [.bad] [],
 .ret (.var 4)]⟩
noncomputable def lu:E:=(.cmp .eq (.idx (.var 5) (.cst (.int 0))) (.cst (.str [99,97,108,108])))
noncomputable def qk:List St:=[.expr (.nM .append (.var 4) (.cons (.tup (.cons (.idx (.var 5) (.cst (.int 2))) (.cons (.var 6) .nil))) .nil)),.set 5 (.idx (.var 5) (.cst (.int 1))),.set 6 (.bin .add (.var 6) (.tup (.cons (.cst (.int 0)) .nil)))]
def wG:Fn:=⟨4,9,[
 .set 4 (.lst .nil),
 .set 5 (.var 0),
 .set 6 (.var 2),
 .BF lu qk,
 .expr (.nM .rev (.var 4) .nil),
 .iff (.cmp .ne (.idx (.var 5) (.cst (.int 0))) (.cst (.str [110,97,109,101]))) [.iF 7 8 (.call c9 (.cons (.var 5) (.cons (.var 6) (.cons (.var 3) .nil))))] [.iff (.own (.var 3) [83,99,111,112,101] [105,115,95,98,111,117,110,100] eN (.cons (.idx (.var 5) (.cst (.int 1))) .nil)) [.iF 7 8 (.own (.var 3) [83,99,111,112,101] [118,97,114,95,111,102] f9 (.cons (.idx (.var 5) (.cst (.int 1))) .nil))] [.ret .bad]],
 .ret (.call jC (.cons (.var 7) (.cons (.var 8) (.cons (.var 4) (.cons (.var 3) .nil)))))]⟩
noncomputable def qy:List St:=[.iff (.cmp .ne (.idx (.var 1) (.cst (.int 0))) (.cst (.str [119,111,114,107]))) [.bad] [],.set 0 (.tup (.cons (.cst (.str [99,97,108,108])) (.cons (.var 0) (.cons (.call b8 (.cons (.var 4) (.cons (.idx (.var 1) (.cst (.int 1))) (.cons (.bin .add (.var 5) (.tup (.cons (.cst (.int 1)) .nil))) (.cons (.var 3) .nil))))) .nil)))),.set 1 (.idx (.var 1) (.cst (.int 2)))]
def jE:Fn:=⟨4,6,[
 .for (.two 4 5) (.seq (.var 2)) qy,
 .ret (.tup (.cons (.var 0) (.cons (.var 1) .nil)))]⟩
noncomputable def j8:Fn:=⟨1,1,[
 .lC (.var 0) [100,101,102,105,110,105,116,105,111,110,115] (.lst .nil),
 .lC (.var 0) [110,117,109,98,101,114,115] (.aK .nil)]⟩
noncomputable def jD:Fn:=⟨2,2,[
 .ret (.call c9 (.cons (.var 1) (.cons (.tup .nil) (.cons (.own (.var 0) [83,104,101,108,102] [111,117,116,115,105,100,101] iK .nil) .nil))))]⟩
noncomputable def iC:Fn:=⟨1,1,[
 .ret (.mk [83,99,111,112,101] iO (.cons (.var 0) (.cons (.lst .nil) (.cons (.lst .nil) (.cons (.tup .nil) .nil)))))]⟩
noncomputable def wO:Fn:=⟨2,3,[
 .set 2 (.ite (.cmp .ne (.idx (.var 0) (.cst (.int 1))) (.lst .nil)) (.idx (.idx (.var 0) (.cst (.int 1))) (.bin .mod (.idx (.var 0) (.cst (.int 2))) (.blt .len (.idx (.var 0) (.cst (.int 1)))))) (.cst (.int 0))),
 .put (.var 0) (.cst (.int 0)) (.bin .mod (.bin .add (.bin .add (.bin .mul (.idx (.var 0) (.cst (.int 0))) (.cst (.int 48271))) (.bin .mul (.var 2) (.cst (.int 69621)))) (.cst (.int 11))) (.cst (.int 2147483647))),
 .put (.var 0) (.cst (.int 2)) (.bin .add (.idx (.var 0) (.cst (.int 2))) (.cst (.int 1))),
 .ret (.bin .mod (.bin .fdiv (.idx (.var 0) (.cst (.int 0))) (.cst (.int 7))) (.var 1))]⟩
noncomputable def sJ:Fn:=⟨1,2,[
 .set 1 (.lst (.cons (.bin .sub (.call aW (.cons (.var 0) (.cons (.cst (.int 14)) .nil))) (.cst (.int 5))) (.cons (.bin .sub (.call aW (.cons (.var 0) (.cons (.cst (.int 2000)) .nil))) (.cst (.int 1000))) (.cons (.call aW (.cons (.var 0) (.cons (.cst (.int 4)) .nil))) .nil)))),
 .iff (.cmp .ne (.idx (.var 0) (.cst (.int 1))) (.lst .nil)) [.expr (.nM .append (.var 1) (.cons (.bin .sub (.bin .mod (.idx (.idx (.var 0) (.cst (.int 1))) (.bin .mod (.idx (.var 0) (.cst (.int 2))) (.blt .len (.idx (.var 0) (.cst (.int 1)))))) (.bin .pow (.cst (.int 10)) (.cst (.int 59)))) (.bin .pow (.cst (.int 10)) (.cst (.int 30)))) .nil))] [],
 .ret (.idx (.var 1) (.call aW (.cons (.var 0) (.cons (.blt .len (.var 1)) .nil))))]⟩
noncomputable def ya:E:=(.idx (.var 1) (.call aW (.cons (.var 0) (.cons (.cst (.int 26)) .nil))))
def wB:Fn:=⟨1,2,[
 .set 1 (.cst (.str [97,98,99,100,101,102,103,104,105,106,107,108,109,110,111,112,113,114,115,116,117,118,119,120,121,122])),
 .ret (.nM .join (.cst (.str [])) (.cons (.comp ya (.hZ (.bin .add (.cst (.int 1)) (.call aW (.cons (.var 0) (.cons (.cst (.int 8)) .nil))))) .none) .nil))]⟩
noncomputable def wm:Fn:=⟨3,5,[
 .set 3 (.call aW (.cons (.var 0) (.cons (.cst (.int 8)) .nil))),
 .iff (.and (.cmp .ne (.var 2) (.lst .nil)) (.cmp .eq (.var 3) (.cst (.int 7)))) [.ret (.tup (.cons (.cst (.str [97,110,121])) (.cons (.idx (.var 2) (.call aW (.cons (.var 0) (.cons (.blt .len (.var 2)) .nil)))) .nil)))] [],
 .iff (.or (.cmp .eq (.var 1) (.cst (.int 0))) (.cmp .lt (.var 3) (.cst (.int 3)))) [.ret (.idx (.lst (.cons (.tup (.cons (.cst (.str [110,117,109,98,101,114])) .nil)) (.cons (.tup (.cons (.cst (.str [116,114,117,116,104])) .nil)) .nil))) (.call aW (.cons (.var 0) (.cons (.cst (.int 2)) .nil))))] [],
 .set 4 (.call iY (.cons (.var 0) (.cons (.bin .sub (.var 1) (.cst (.int 1))) (.cons (.var 2) .nil)))),
 .iff (.cmp .lt (.var 3) (.cst (.int 5))) [.ret (.tup (.cons (.cst (.str [114,111,119])) (.cons (.var 4) .nil)))] [],
 .ret (.tup (.cons (.idx (.lst (.cons (.cst (.str [112,97,105,114])) (.cons (.cst (.str [119,111,114,107])) .nil))) (.bin .fdiv (.call aW (.cons (.var 0) (.cons (.cst (.int 3)) .nil))) (.cst (.int 2)))) (.cons (.var 4) (.cons (.call iY (.cons (.var 0) (.cons (.bin .sub (.var 1) (.cst (.int 1))) (.cons (.var 2) .nil)))) .nil))))]⟩
noncomputable def f6:E:=(.idx (.var 16) (.cst (.int 0)))
def bO:List St:=[.set 4 (.idx (.var 2) (.bin .sub (.bin .sub (.blt .len (.var 2)) (.cst (.int 1))) (.var 3))),.set 5 (.comp f6 (.seq (.sl (.var 2) (.some (.bin .sub (.blt .len (.var 2)) (.var 3))) .none)) .none),.iff (.and (.cmp .eq (.idx (.var 4) (.cst (.int 1))) (.var 1)) (.cmp .notin (.idx (.var 4) (.cst (.int 0))) (.var 5))) [.ret (.tup (.cons (.tup (.cons (.cst (.str [110,97,109,101])) (.cons (.idx (.var 4) (.cst (.int 0))) .nil))) (.cons (.tup (.cons (.cst (.str [118,97,114])) (.cons (.var 3) .nil))) .nil)))] []]
noncomputable def fX:E:=(.call aZ (.cons (.var 0) (.cons (.idx (.var 1) (.cst (.int 1))) (.cons (.var 2) .nil))))
noncomputable def gi:List St:=[.set 12 (.tup (.cons (.cst (.str [109,111,114,101])) (.cons (.idx (.var 13) (.cst (.int 1))) (.cons (.var 12) .nil))))]
noncomputable def gp:E:=(.idx (.var 16) (.cst (.int 0)))
def dg:Fn:=⟨3,16,[
 .iff (.cmp .eq (.call aW (.cons (.var 0) (.cons (.cst (.int 3)) .nil))) (.cst (.int 0))) [.for (.var 3) (.hZ (.blt .len (.var 2))) bO] [],
 .iff (.cmp .eq (.var 1) (.tup (.cons (.cst (.str [110,117,109,98,101,114])) .nil))) [.set 6 (.tup (.cons (.cst (.str [110,117,109,98,101,114])) (.cons (.call mO (.cons (.var 0) .nil)) .nil))),.ret (.tup (.cons (.var 6) (.cons (.var 6) .nil)))] [],
 .iff (.cmp .eq (.var 1) (.tup (.cons (.cst (.str [116,114,117,116,104])) .nil))) [.set 6 (.idx (.lst (.cons (.tup (.cons (.cst (.str [121,101,115])) .nil)) (.cons (.tup (.cons (.cst (.str [110,111])) .nil)) .nil))) (.call aW (.cons (.var 0) (.cons (.cst (.int 2)) .nil)))),.ret (.tup (.cons (.var 6) (.cons (.var 6) .nil)))] [],
 .iff (.cmp .eq (.idx (.var 1) (.cst (.int 0))) (.cst (.str [112,97,105,114]))) [.set 7 (.call aZ (.cons (.var 0) (.cons (.idx (.var 1) (.cst (.int 1))) (.cons (.var 2) .nil)))),.set 8 (.call aZ (.cons (.var 0) (.cons (.idx (.var 1) (.cst (.int 2))) (.cons (.var 2) .nil)))),.ret (.tup (.cons (.tup (.cons (.cst (.str [98,111,116,104])) (.cons (.idx (.var 7) (.cst (.int 0))) (.cons (.idx (.var 8) (.cst (.int 0))) .nil)))) (.cons (.tup (.cons (.cst (.str [98,111,116,104])) (.cons (.idx (.var 7) (.cst (.int 1))) (.cons (.idx (.var 8) (.cst (.int 1))) .nil)))) .nil)))] [],
 .iff (.cmp .eq (.idx (.var 1) (.cst (.int 0))) (.cst (.str [119,111,114,107]))) [.set 9 (.call qW (.cons (.var 0) .nil)),.iff (.and (.cmp .ne (.var 2) (.lst .nil)) (.cmp .eq (.call aW (.cons (.var 0) (.cons (.cst (.int 2)) .nil))) (.cst (.int 0)))) [.set 9 (.idx (.idx (.var 2) (.cst (.int 0))) (.cst (.int 0)))] [],.set 10 (.call aZ (.cons (.var 0) (.cons (.idx (.var 1) (.cst (.int 2))) (.cons (.bin .add (.var 2) (.lst (.cons (.tup (.cons (.var 9) (.cons (.idx (.var 1) (.cst (.int 1))) .nil))) .nil))) .nil)))),.ret (.tup (.cons (.tup (.cons (.cst (.str [102,117,110])) (.cons (.var 9) (.cons (.idx (.var 10) (.cst (.int 0))) .nil)))) (.cons (.tup (.cons (.cst (.str [102,117,110])) (.cons (.idx (.var 1) (.cst (.int 1))) (.cons (.idx (.var 10) (.cst (.int 1))) .nil)))) .nil)))] [],
 .set 11 (.comp fX (.hZ (.call aW (.cons (.var 0) (.cons (.cst (.int 4)) .nil)))) .none),
 .set 12 (.tup (.cons (.cst (.str [110,111,110,101])) (.cons (.idx (.var 1) (.cst (.int 1))) .nil))),
 .for (.var 13) (.seq (.blt .listR (.var 11))) gi,
 .set 14 (.tup (.cons (.cst (.str [114,111,119,111,102])) (.cons (.blt .tuple (.comp gp (.seq (.var 11)) .none)) .nil))),
 .iff (.cmp .eq (.call aW (.cons (.var 0) (.cons (.cst (.int 3)) .nil))) (.cst (.int 0))) [.set 15 (.call aZ (.cons (.var 0) (.cons (.idx (.var 1) (.cst (.int 1))) (.cons (.var 2) .nil)))),.ret (.tup (.cons (.tup (.cons (.cst (.str [97,104,101,97,100])) (.cons (.idx (.var 15) (.cst (.int 0))) (.cons (.var 14) .nil)))) (.cons (.tup (.cons (.cst (.str [109,111,114,101])) (.cons (.idx (.var 15) (.cst (.int 1))) (.cons (.var 12) .nil)))) .nil)))] [],
 .ret (.tup (.cons (.var 14) (.cons (.var 12) .nil)))]⟩
noncomputable def kO:List St:=[.set 1 (.bin .add (.var 1) (.call dh (.cons (.var 2) .nil)))]
def uE:Fn:=⟨1,3,[
 .iff (.cmp .eq (.idx (.var 0) (.cst (.int 0))) (.cst (.str [119,111,114,107]))) [.ret (.lst (.cons (.var 0) .nil))] [],
 .set 1 (.lst .nil),
 .tw 2 (.sl (.var 0) (.some (.cst (.int 1))) .none) kO,
 .ret (.var 1)]⟩
noncomputable def iJ:E:=(.call iw (.cons (.var 1) .nil))
def oK:Fn:=⟨1,1,[
 .iff (.cmp .isin (.idx (.var 0) (.cst (.int 0))) (.tup (.cons (.cst (.str [114,111,119])) (.cons (.cst (.str [112,97,105,114])) .nil)))) [.ret (.bin .add (.tup (.cons (.bin .add (.cst (.str [108,105,107,101])) (.idx (.var 0) (.cst (.int 0)))) .nil)) (.blt .tuple (.comp iJ (.seq (.sl (.var 0) (.some (.cst (.int 1))) .none)) .none)))] [],
 .ret (.tup (.cons (.cst (.str [108,105,107,101])) (.cons (.var 0) .nil)))]⟩
noncomputable def fQ:List St:=[.set 4 (.call iY (.cons (.var 1) (.cons (.cst (.int 3)) (.cons (.lst .nil) .nil)))),.set 5 (.call aZ (.cons (.var 1) (.cons (.var 4) (.cons (.lst .nil) .nil)))),.set 6 (.call aZ (.cons (.var 1) (.cons (.var 4) (.cons (.lst .nil) .nil)))),.set 7 (.tup (.cons (.cst (.str [98,111,116,104])) (.cons (.tup (.cons (.cst (.str [121,101,115])) .nil)) (.cons (.tup (.cons (.cst (.str [108,105,107,101])) (.cons (.tup (.cons (.cst (.str [116,111,108,100])) (.cons (.idx (.var 5) (.cst (.int 0))) (.cons (.var 4) .nil)))) (.cons (.idx (.var 6) (.cst (.int 0))) .nil)))) .nil)))),.set 8 (.cst .ak),.wz [.lH 8 (.var 2) [83,104,101,108,102] [119,114,105,116,101] ff (.cons (.var 7) .nil)] [([78,111,82,117,108,101],[[78,111,82,117,108,101]],9,[.Bd (.or (.cmp .eq (.call dh (.cons (.var 4) .nil)) (.lst .nil)) (.cmp .ne (.tup (.cons (.uJ (.var 9) [112,108,97,99,101] [[78,111,82,117,108,101]]) (.cons (.uJ (.var 9) [107,105,110,100] [[78,111,82,117,108,101]]) .nil))) (.tup (.cons (.tup (.cons (.cst (.int 1)) .nil)) (.cons (.idx (.call dh (.cons (.var 4) .nil)) (.cst (.int 0))) .nil))))) (.cst (.bl false))])],.iff (.and (.cmp .isN (.var 8) (.cst .ak)) (.cmp .eq (.call dh (.cons (.var 4) .nil)) (.lst .nil))) [.ret (.cst (.bl false))] [],.iff (.cmp .notN (.var 8) (.cst .ak)) [.iff (.cmp .ne (.call dh (.cons (.var 4) .nil)) (.lst .nil)) [.ret (.cst (.bl false))] [],.set 10 (.tup (.cons (.cst (.str [99,97,108,108])) (.cons (.tup (.cons (.cst (.str [99,97,108,108])) (.cons (.call iw (.cons (.var 4) .nil)) (.cons (.idx (.var 5) (.cst (.int 1))) .nil)))) (.cons (.idx (.var 6) (.cst (.int 1))) .nil)))),.iff (.cmp .ne (.var 8) (.tup (.cons (.tup (.cons (.cst (.str [98,111,116,104])) (.cons (.tup (.cons (.cst (.str [121,101,115])) .nil)) (.cons (.var 10) .nil)))) (.cons (.tup (.cons (.cst (.str [112,97,105,114])) (.cons (.tup (.cons (.cst (.str [116,114,117,116,104])) .nil)) (.cons (.tup (.cons (.cst (.str [116,114,117,116,104])) .nil)) .nil)))) .nil)))) [.ret (.cst (.bl false))] []] []]
def FV:Fn:=⟨1,11,[
 .set 1 (.lst (.cons (.cst (.int 71)) (.cons (.blt .list (.var 0)) (.cons (.cst (.int 0)) .nil)))),
 .set 2 (.mk [83,104,101,108,102] ko .nil),
 .for (.var 3) (.hZ (.cst (.int 3))) fQ,
 .ret (.cst (.bl true))]⟩
def T:List Fn:=[zA,rZ,qc,rA,sD,kI,kz,hW,ja,iQ,fJ,nU,ll,nK,lO,jR,oa,sA,uP,qo,kc,qL,oC,uf,nN,wG,jE,j8,jD,iC,wO,sJ,wB,wm,dg,uE,oK,FV]
theorem Hv:T[lU]?=some zA:=rfl
theorem MU:T[mU]?=some rZ:=rfl
theorem Ml:T[jm]?=some qc:=rfl
theorem rH:T[eY]?=some rA:=rfl
theorem jT:T[gm]?=some sD:=rfl
theorem vI:T[iO]?=some kI:=rfl
theorem w6:T[kM]?=some kz:=rfl
theorem qD:T[eN]?=some hW:=rfl
theorem tj:T[f9]?=some ja:=rfl
theorem iP:T[dG]?=some iQ:=rfl
theorem ki:T[dy]?=some fJ:=rfl
theorem Cv:T[c9]?=some nU:=rfl
theorem uj:T[b8]?=some ll:=rfl
theorem uT:T[cZ]?=some nK:=rfl
theorem xS:T[jf]?=some lO:=rfl
theorem rJ:T[eZ]?=some jR:=rfl
theorem Dt:T[lb]?=some oa:=rfl
theorem AJ:T[jO]?=some sA:=rfl
theorem uF:T[jw]?=some uP:=rfl
theorem xW:T[jh]?=some qo:=rfl
theorem wM:T[iI]?=some kc:=rfl
theorem EO:T[qw]?=some qL:=rfl
theorem wK:T[iq]?=some oC:=rfl
theorem tU:T[jz]?=some uf:=rfl
theorem uS:T[dO]?=some nN:=rfl
theorem Fi:T[qR]?=some wG:=rfl
theorem uU:T[jC]?=some jE:=rfl
theorem wC:T[ko]?=some j8:=rfl
theorem nJ:T[ff]?=some jD:=rfl
theorem sI:T[iK]?=some iC:=rfl
theorem Qy:T[aW]?=some wO:=rfl
theorem zE:T[mO]?=some sJ:=rfl
theorem DU:T[qW]?=some wB:=rfl
theorem Qe:T[iY]?=some wm:=rfl
theorem xY:T[aZ]?=some dg:=rfl
theorem uI:T[dh]?=some uE:=rfl
theorem iH:T[iw]?=some oK:=rfl
theorem Nu:T[FQ]?=some FV:=rfl
abbrev jt:S:=[83,99,111,112,101]
abbrev ju:S:=[115,104,101,108,102]
abbrev kP:S:=[102,114,101,101]
abbrev kJ:S:=[110,101,101,100,115]
abbrev kr:S:=[98,111,117,110,100]
abbrev gg:S:=[110,97,109,101]
abbrev nD:S:=[102,117,110]
abbrev gk:S:=[98,111,116,104]
abbrev jv:S:=[114,111,119,111,102]
abbrev v8:S:=[97,104,101,97,100]
abbrev u0:S:=[109,111,114,101]
abbrev sr:S:=[110,111,110,101]
abbrev lK:S:=[118,97,114]
abbrev j4:S:=[121,101,115]
abbrev uO:S:=[110,111]
abbrev gO:S:=[99,97,108,108]
abbrev An:S:=[116,111,108,100]
abbrev Cx:=List (S×Kd)
def bd(b:S×Kd):W:=.tup [.str b.1,b.2.ae]
structure eK(h:Hp)(q:Nat)(sh:W)(fr nd:Nat)(fs:List S)(Γ:Cx):Prop where
 o:h[q]?=some (.ins jt [(ju,sh),(kP,.ref fr),(kJ,.ref nd),(kr,.tup (Γ.map bd))])
 f:h[fr]?=some (.lst (fs.map W.str))
 n:h[nd]?=some (.lst [])
theorem eK.grow{h h':Hp}{q:Nat}{sh:W}{fr nd:Nat}{fs:List S}{Γ:Cx}(s:eK h q sh fr nd fs Γ)(g:aD h h'):eK h' q sh fr nd fs Γ:=⟨g.keep _ _ s.o,g.keep _ _ s.f,g.keep _ _ s.n⟩
theorem aN{f:Nat}{fn:Fn}(e:T[f]?=some fn)(k:Nat)(xs:List W)(h:Hp):run T (k+1) f xs h=bq (run T k) fn xs h:=run_eq e k xs h
theorem vM(k:Nat)(h:Hp)(sh a b c:W):run T (k+1) iO [.ref h.length,sh,a,b,c] (h++[.ins jt []])=.ok .ak (h++[.ins jt [(ju,sh),(kP,a),(kJ,b),(kr,c)]]):=by rw[aN vI];unfold bq kI;simp[mH]
theorem E3(k:Nat){h:Hp}{q:Nat}{sh:W}{fr nd:Nat}{fs:List S}{Γ:Cx}(s:eK h q sh fr nd fs Γ)(x:S)(a:Kd)(hl:Γ.length+1<=SZ):
  run T (k+2) kM [.ref q,.str x,a.ae] h=.ok (.ref h.length) (h++[.ins jt [(ju,sh),(kP,.ref fr),(kJ,.ref nd),(kr,.tup (((x,a)::Γ).map bd))]]):=by
 rw[aN w6];unfold bq kz;have hl':1+Γ.length<=SZ:=by omega
 have i:=vM k h sh (.ref fr) (.ref nd) (.tup (((x,a)::Γ).map bd));simp only[aR,bd] at i;simp[s.o,hl',i,List.lookup,bd]
theorem eK.bind{h:Hp}{q:Nat}{sh:W}{fr nd:Nat}{fs:List S}{Γ:Cx}(s:eK h q sh fr nd fs Γ)(x:S)(a:Kd):eK (h++[.ins jt [(ju,sh),(kP,.ref fr),(kJ,.ref nd),(kr,.tup (((x,a)::Γ).map bd))]]) h.length sh fr nd fs ((x,a)::Γ):=
 ⟨by simp,aP _ s.f,aP _ s.n⟩
theorem qM(elt:Env->Hp->R W)(σ:Env)(hk:∀(x:S)(a:Kd)(h:Hp),elt (σ++[some (.str x),some a.ae]) h=.ok (.str x) h):∀(Γ:Cx)(acc:List W)(h:Hp),eG (gN elt σ) (Γ.map bd) acc h=.ok (acc++Γ.map fun b=>W.str b.1) h
 |[],acc,h=>by simp
 |b::Γ,acc,h=>by
  have ih:=qM elt σ hk Γ (acc++[W.str b.1]) h;have e:gN elt σ (bd b) acc h=.ok (acc++[W.str b.1]) h:=by simp[bd,gN,hk]
  simp only[aR,eG,e,R.aw,ih];simp
theorem Ij(k:Nat){h:Hp}{q:Nat}{sh:W}{fr nd:Nat}{fs:List S}{Γ:Cx}(s:eK h q sh fr nd fs Γ)(x:S)(hl:Γ.length<=SZ):
  run T (k+1) eN [.ref q,.str x] h=.ok (.bl (decide (x∈Γ.map (·.1)))) (h++[.lst ((Γ.map (·.1)).map W.str)]):=by
 rw[aN qD];unfold bq hW;have w:=qM (ag (run T k) fk) [some (.ref q),some (.str x)] (fun y a h=>by simp[fk]) Γ [] h;have i:=nR (h:=h++[.lst ((Γ.map (·.1)).map W.str)]) (q:=h.length) (l:=Γ.map (·.1)) (by simp) x;simp only[mC,vO] at i;simp[s.o,List.lookup,jy,w,dC,hl,i,vO]
def gz(x:S):Cx->Option (Nat×Kd)
 |[]=>none
 |(y,a)::Γ=>if y=x then some (0,a) else (gz x Γ).map fun r=>(r.1+1,r.2)
theorem oH{x:S}{a:Kd}:∀{Γ:Cx}{n:Nat},gz x Γ=some (n,a)->ip (.str x) (Γ.map fun b=>W.str b.1)=some n/\Γ[n]?=some (x,a)/\x∈Γ.map (·.1)
 |[],n,e=>by simp[gz] at e
 |(y,b)::Γ,n,e=>by
  unfold gz at e;by_cases c:y=x
  .subst c;simp at e;obtain⟨rfl,rfl⟩:=e;simp[ip]
  .rw[if_neg c] at e;cases g:gz x Γ with
   |none=>rw[g] at e;simp at e
   |some r=>
    rw[g] at e;simp at e;obtain⟨rfl,rfl⟩:=e;obtain⟨h1,h2,h3⟩:=oH (Γ:=Γ) (n:=r.1) g;have c':¬ x=y:=fun z=>c z.symm;refine⟨by simp[ip,c,h1],by simpa using h2,?_⟩;rw[aR];exact di _ h3
theorem yU:∀Γ:Cx,(Γ.map fun b=>W.str b.1).all isKey=true
 |[]=>rfl
 |b::Γ=>by simp[isKey,yU Γ]
theorem HS(k:Nat){h:Hp}{q:Nat}{sh:W}{fr nd:Nat}{fs:List S}{Γ:Cx}(s:eK h q sh fr nd fs Γ){x:S}{n:Nat}{a:Kd}(e:gz x Γ=some (n,a))(hl:Γ.length<=SZ):
  run T (k+1) f9 [.ref q,.str x] h=.ok (.tup [.tup [.str lK,.int n],a.ae]) (h++[.lst ((Γ.map (·.1)).map W.str)]):=by
 obtain⟨h1,h2,h3⟩:=oH e;rw[aN tj];unfold bq ja;have w:=qM (ag (run T k) gJ) [some (.ref q),some (.str x),none] (fun y a h=>by simp[gJ]) Γ [] h;have o:=aP [O.lst ((Γ.map (·.1)).map W.str)] s.o;simp only[mC,vO] at o;have hn:n<Γ.length:=(dE.mp h2).1;have at1:cg (Γ.map bd) (n:Int)=some (bd (x,a)):=by rw[i4 _ n (by simpa using hn)];have:=(dE.mp h2).2;simp[this]
 have m:method .index (.ref h.length) [.str x] (h++[O.lst (Γ.map fun b=>W.str b.1)])=.ok (.int n) (h++[O.lst (Γ.map fun b=>W.str b.1)]):=by
  have c:(isKey (.str x)&&(Γ.map fun b=>W.str b.1).all isKey)=true:=by rw[yU];rfl
  unfold method;simp only[cy,c,gY,h1];rfl
 simp[-method,s.o,List.lookup,jy,w,dC,hl,vO,m,o,at1,bd]
def Goes(fs:List S)(Γ:Cx)(n:Nat)(f:W)(kd:Kd)(c:W):Prop:=
 ∀k,n<=k->∀(pl:List W)(q:Nat)(sh:W)(fr nd:Nat)(h:Hp),pl.length+n<=SZ->Γ.length+n<=SZ->eK h q sh fr nd fs Γ->∃h',run T k b8 [f,kd.ae,.tup pl,.ref q] h=.ok c h'/\aD h h'
def Comes(fs:List S)(Γ:Cx)(n:Nat)(f:W)(kd:Kd)(c:W):Prop:=
 ∀k,n<=k->∀(pl:List W)(q:Nat)(sh:W)(fr nd:Nat)(h:Hp),pl.length+n<=SZ->Γ.length+n<=SZ->eK h q sh fr nd fs Γ->∃h',run T k c9 [f,.tup pl,.ref q] h=.ok (.tup [c,kd.ae]) h'/\aD h h'
section
variable {fs:List S}{Γ:Cx}
theorem Goes.mono{n m:Nat}{f:W}{kd:Kd}{c:W}(g:Goes fs Γ n f kd c)(l:n<=m):Goes fs Γ m f kd c:=
 fun k hk pl q sh fr nd h hp hg s=>g k (by omega) pl q sh fr nd h (by omega) (by omega) s
theorem Comes.mono{n m:Nat}{f:W}{kd:Kd}{c:W}(g:Comes fs Γ n f kd c)(l:n<=m):Comes fs Γ m f kd c:=
 fun k hk pl q sh fr nd h hp hg s=>g k (by omega) pl q sh fr nd h (by omega) (by omega) s
noncomputable abbrev Gu:List (S×Nat):=[([110,117,109,98,101,114],jf),([121,101,115],eZ),([110,111],eZ),([116,111,108,100],lb),([98,111,116,104],jw),([108,105,107,101],jz)]
theorem up_eq(k:Nat){t:S}{g:Nat}(e:Gu.lookup t=some g)(r:List W)(a b:W)(h:Hp):run T (k+1) c9 [.tup (.str t::r),a,b] h=run T k g [.tup (.str t::r),a,b] h:=by rw[aN Cv];unfold bq nU;have e':pick Gu (.str t)=some g:=e;simp[-pick,e'];cases run T k g [W.tup (W.str t::r),a,b] h<;>simp
noncomputable abbrev mi:List S:=[[110,97,109,101],[102,117,110],[99,97,108,108],[98,111,116,104],[114,111,119,111,102],[97,104,101,97,100],[105,102],[108,101,116]]
noncomputable abbrev Gx:List (S×Nat):=[([110,97,109,101],dO),([102,117,110],jO),([99,97,108,108],dO),([98,111,116,104],jh),([114,111,119,111,102],iI),([97,104,101,97,100],iq)]
theorem down_eq(k:Nat){t:S}{g:Nat}(e:Gx.lookup t=some g)(m:t∈mi)(r:List W)(a b d:W)(h:Hp):run T (k+1) b8 [.tup (.str t::r),a,b,d] h=run T k g [.tup (.str t::r),a,b,d] h:=by rw[aN uj];unfold bq ll;have e':pick Gx (.str t)=some g:=e;have m':mi.contains t=true:=Bh.mpr m;simp only[cQ,ka,gY,bg,c7,ig,pT,tq,oZ,iV,ic,xK,dR,fW,aR,gD,jB,gE,List.replicate,xb,qS,R.aw,idx,FE,R.jZ,e',m',truth];cases run T k g [W.tup (W.str t::r),a,b,d] h<;>simp
theorem Iv(k:Nat){t:S}(m:t∉mi)(r:List W)(a b d:W)(h:Hp):run T (k+1) b8 [.tup (.str t::r),a,b,d] h=run T k cZ [.tup (.str t::r),a,b,d] h:=by
 rw[aN uj];unfold bq ll;have m':mi.contains t=false:=by
  cases z:mi.contains t with
  |false=>rfl
  |true=>exact absurd (Bh.mp z) m
 simp only[cQ,ka,gY,bg,c7,ig,pT,tq,oZ,iV,ic,nv,dR,fW,aR,gD,jB,gE,List.replicate,xb,qS,R.aw,idx,FE,R.jZ,m',truth];cases run T k cZ [W.tup (W.str t::r),a,b,d] h<;>simp
theorem DP{C:Or}{σ:Env}{h:Hp}{x y:S}{r:List W}{b:Bool}(s1:σ[1]?=some (some (.tup (.str x::r))))(e:(!decide (x=y))=b):ag C (.cmp .ne (.idx (.var 1) (.cst (.int 0))) (.cst (.str y))) σ h=.ok (.bl b) h:=by subst e;simp[s1]
theorem Ck(i:Int):Comes fs Γ 2 (.tup [.str bZ,.int i]) .num (.tup [.str bZ,.int i]):=by intro k hk pl q sh fr nd h hp hg s;obtain⟨j,rfl⟩:∃j,k=j+2:=⟨k-2,by omega⟩;refine⟨h,?_,aD.refl h⟩;rw[up_eq (j+1) (g:=jf) rfl,aN xS];unfold bq lO;simp[Kd.ae]
theorem oG:Comes fs Γ 2 (.tup [.str j4]) .tru (.tup [.str j4]):=by intro k hk pl q sh fr nd h hp hg s;obtain⟨j,rfl⟩:∃j,k=j+2:=⟨k-2,by omega⟩;refine⟨h,?_,aD.refl h⟩;rw[up_eq (j+1) (g:=eZ) rfl,aN rJ];unfold bq jR;simp[Kd.ae]
theorem EJ:Comes fs Γ 2 (.tup [.str uO]) .tru (.tup [.str uO]):=by intro k hk pl q sh fr nd h hp hg s;obtain⟨j,rfl⟩:∃j,k=j+2:=⟨k-2,by omega⟩;refine⟨h,?_,aD.refl h⟩;rw[up_eq (j+1) (g:=eZ) rfl,aN rJ];unfold bq jR;simp[Kd.ae]
theorem yY(h:Hp)(a:Kd)(ha:a.depth<=50):bz h a.ae a.ae=some true:=by rw[Kd.bz h a a ha ha];simp
theorem mR{n:Nat}{t:S}{r:List W}{kd:Kd}{c:W}(m:t∉mi)(hd:kd.depth<=50)(g:Comes fs Γ n (.tup (.str t::r)) kd c):Goes fs Γ (n+2) (.tup (.str t::r)) kd c:=by intro k hk pl q sh fr nd h hp hg s;obtain⟨j,rfl⟩:∃j,k=j+2:=⟨k-2,by omega⟩;obtain⟨h',e,x⟩:=g j (by omega) pl q sh fr nd h (by omega) (by omega) s;refine⟨h',?_,x⟩;rw[Iv (j+1) m,aN uT];have qq:=yY h' kd hd;exact bJ [some (.tup (.str t::r)),some (kd.ae),some (.tup pl),some (.ref q),none,none] rfl rfl (i0 (u:=c) (v:=kd.ae) (h':=h') (by simp[e]) (aU (h':=h') (by simp[qq]) (aF (by simp))))
theorem EF(i:Int):Goes fs Γ 4 (.tup [.str bZ,.int i]) .num (.tup [.str bZ,.int i]):=mR (by decide) (by decide) (Ck i)
theorem DS:Goes fs Γ 4 (.tup [.str j4]) .tru (.tup [.str j4]):=mR (by decide) (by decide) oG
theorem GX:Goes fs Γ 4 (.tup [.str uO]) .tru (.tup [.str uO]):=mR (by decide) (by decide) EJ
theorem Fp{n:Nat}{x:S}{a b:Kd}{f c:W}(h2:2<=n)(g:Goes fs ((x,a)::Γ) n f b c):Goes fs Γ (n+2) (.tup [.str nD,.str x,f]) (.work a b) (.tup [.str nD,a.ae,c]):=by
 intro k hk pl q sh fr nd h hp hg s;obtain⟨j,rfl⟩:∃j,k=j+4:=⟨k-4,by omega⟩;have b1:=E3 j s x a (by omega);obtain⟨h',e,y⟩:=g (j+2) (by omega) (pl++[.int 0]) h.length sh fr nd _ (by simp;omega) (by simp;omega) (s.bind x a);refine⟨h',?_,(aD.app h _).trans y⟩;have hp':pl.length+1<=SZ:=by omega
 simp only[aR] at e b1;rw[down_eq (j+3) (g:=jO) rfl (by decide),aN AJ];have so:=s.o;exact bJ [some (.tup [.str nD,.str x,f]),some ((Kd.work a b).ae),some (.tup pl),some (.ref q),none] rfl rfl (aU (DP (x:=fY) rfl rfl) (aG (w:=c) (h':=h') (by simp[Kd.ae,so,List.lookup,b1,e,hp']) (aF (by simp[Kd.ae]))))
theorem B0{n:Nat}{a b:Kd}{f1 c1 f2 c2:W}(g1:Goes fs Γ n f1 a c1)(g2:Goes fs Γ n f2 b c2):Goes fs Γ (n+2) (.tup [.str gk,f1,f2]) (.pair a b) (.tup [.str gk,c1,c2]):=by
 intro k hk pl q sh fr nd h hp hg s;obtain⟨j,rfl⟩:∃j,k=j+2:=⟨k-2,by omega⟩;obtain⟨h1,e1,y1⟩:=g1 j (by omega) (pl++[.int 0]) q sh fr nd h (by simp;omega) (by omega) s;obtain⟨h2,e2,y2⟩:=g2 j (by omega) (pl++[.int 1]) q sh fr nd h1 (by simp;omega) (by omega) (s.grow y1);refine⟨h2,?_,y1.trans y2⟩;have hp':pl.length+1<=SZ:=by omega
 rw[down_eq (j+1) (g:=jh) rfl (by decide),aN xW];exact bJ [some (.tup [.str gk,f1,f2]),some ((Kd.pair a b).ae),some (.tup pl),some (.ref q),none,none] rfl rfl (aU (DP (x:=dS) rfl rfl) (aG (w:=c1) (h':=h1) (by simp[Kd.ae,e1,hp']) (aG (w:=c2) (h':=h2) (by simp[Kd.ae,e2,hp']) (aF (by simp)))))
theorem Ah{n:Nat}{a:Kd}{f1 c1 f2 c2:W}(g1:Goes fs Γ n f1 a c1)(g2:Goes fs Γ n f2 (.row a) c2):Goes fs Γ (n+2) (.tup [.str v8,f1,f2]) (.row a) (.tup [.str u0,c1,c2]):=by
 intro k hk pl q sh fr nd h hp hg s;obtain⟨j,rfl⟩:∃j,k=j+2:=⟨k-2,by omega⟩;obtain⟨h1,e1,y1⟩:=g1 j (by omega) (pl++[.int 0]) q sh fr nd h (by simp;omega) (by omega) s;obtain⟨h2,e2,y2⟩:=g2 j (by omega) (pl++[.int 1]) q sh fr nd h1 (by simp;omega) (by omega) (s.grow y1);refine⟨h2,?_,y1.trans y2⟩;have hp':pl.length+1<=SZ:=by omega
 simp only[Kd.ae] at e2;rw[down_eq (j+1) (g:=iq) rfl (by decide),aN wK];exact bJ [some (.tup [.str v8,f1,f2]),some ((Kd.row a).ae),some (.tup pl),some (.ref q),none,none] rfl rfl (aU (DP (x:=fo) rfl rfl) (aG (w:=c1) (h':=h1) (by simp[Kd.ae,e1,hp']) (aG (w:=c2) (h':=h2) (by simp[Kd.ae,e2,hp']) (aF (by simp)))))
theorem Fb(c:Env->Hp->R W)(b:Env->Hp->R Fl)(n:Nat)(σ:Env)(h:Hp):kT c b (n+1) σ h=((c σ h).bind fun x h=>match truth h x with
  |some true=>(b σ h).bind fun f h=>match f with
   |.next σ=>kT c b n σ h
   |.cont σ=>kT c b n σ h
   |.brk σ=>.ok (.next σ) h
   |.ret w=>.ok (.ret w) h
  |some false=>.ok (.next σ) h
  |none=>.bad):=by rw[kT]<;>rfl
theorem NX{c:Env->Hp->R W}{b:Env->Hp->R Fl}{σ:Env}{h h':Hp}{n:Nat}(hn:0<n)(e:c σ h=.ok (.bl false) h'):kT c b n σ h=.ok (.next σ) h':=by obtain⟨m,rfl⟩:∃m,n=m+1:=⟨n-1,by omega⟩;rw[Fb,e];simp
theorem zJ{a:Nat}{t:Tg}{k:Env->Hp->R Fl}{σ:Env}{h:Hp}(e:h[a]?=some (.lst [])):cH a t k 0 0 σ h=.ok (.next σ) h:=by rw[cH];simp[bD,e]
theorem LI(k:Nat){h:Hp}{q:Nat}{sh:W}{fr nd:Nat}(s:eK h q sh fr nd fs Γ)(x:S)(hl:Γ.length<=SZ):
  ∃h',run T (k+1) eN [.ref q,.str x] h=.ok (.bl (decide (x∈Γ.map (·.1)))) h'/\aD h h':=⟨_,Ij k s x hl,aD.app _ _⟩
theorem JU(k:Nat){h:Hp}{q:Nat}{sh:W}{fr nd:Nat}(s:eK h q sh fr nd fs Γ){x:S}{n:Nat}{a:Kd}(e:gz x Γ=some (n,a))(hl:Γ.length<=SZ):
  ∃h',run T (k+1) f9 [.ref q,.str x] h=.ok (.tup [.tup [.str lK,.int n],a.ae]) h'/\aD h h':=⟨_,HS k s e hl,aD.app _ _⟩
theorem A4(j:Nat){x:S}{n:Nat}{a:Kd}(e:gz x Γ=some (n,a))(told:W)(pl:List W){q:Nat}{sh:W}{fr nd:Nat}{h:Hp}(hg:Γ.length<=SZ)(s:eK h q sh fr nd fs Γ):
  ∃h',run T (j+2) qR [.tup [.str gg,.str x],told,.tup pl,.ref q] h=.ok (.tup [.tup [.str lK,.int n],a.ae]) h'/\aD h h':=by
 obtain⟨_,_,m⟩:=oH e;have s1:eK (h++[O.lst []]) q sh fr nd fs Γ:=s.grow (aD.app h _);obtain⟨h2,i1,g2⟩:=LI j s1 x hg;have s2:=s1.grow g2;obtain⟨h3,v1,g3⟩:=JU j s2 e hg;have l3:h3[h.length]?=some (.lst []):=g3.keep _ _ (g2.keep _ _ (cy h _));have w:run T (j+1) jC [.tup [.str lK,.int n],a.ae,.ref h.length,.ref q] h3=.ok (.tup [.tup [.str lK,.int n],a.ae]) h3:=by rw[aN uU];unfold bq jE;simp[fh,l3,zJ l3]
 refine⟨h3,?_,(aD.app h _).trans (g2.trans g3)⟩;rw[aN Fi];have wh:=NX (n:=FU) (c:=ag (run T (j+1)) lu) (b:=au (run T (j+1)) qk) (σ:=[some (.tup [.str gg,.str x]),some told,some (.tup pl),some (.ref q),some (.ref h.length),some (.tup [.str gg,.str x]),some (.tup pl),none,none]) (h:=h++[O.lst []]) (h':=h++[O.lst []]) (by decide) (by simp[lu]);have mm:decide (x∈Γ.map (·.1))=true:=by simpa using m
 rw[mm] at i1;have so1:=s1.o;have so2:=s2.o;exact bJ [some (.tup [.str gg,.str x]),some told,some (.tup pl),some (.ref q),none,none,none,none,none] rfl rfl (aG (w:=.ref h.length) (h':=h++[O.lst []]) (by simp) (aG (w:=.tup [.str gg,.str x]) (h':=h++[O.lst []]) (by simp) (aG (w:=.tup pl) (h':=h++[O.lst []]) (by simp) (cF (by rw[Hh];exact wh) (cF (σ':=[some (.tup [.str gg,.str x]),some told,some (.tup pl),some (.ref q),some (.ref h.length),some (.tup [.str gg,.str x]),some (.tup pl),none,none]) (h':=h++[O.lst []]) (by simp) (cF (σ':=[some (.tup [.str gg,.str x]),some told,some (.tup pl),some (.ref q),some (.ref h.length),some (.tup [.str gg,.str x]),some (.tup pl),some (.tup [.str lK,.int n]),some a.ae]) (h':=h3) (by simp[so1,i1,so2,v1,List.lookup]) (aF (by simp[w]))))))))
theorem Dw{x:S}{n:Nat}{a:Kd}(hd:a.depth<=50)(e:gz x Γ=some (n,a)):Goes fs Γ 4 (.tup [.str gg,.str x]) a (.tup [.str lK,.int n]):=by intro k hk pl q sh fr nd h hp hg s;obtain⟨j,rfl⟩:∃j,k=j+4:=⟨k-4,by omega⟩;obtain⟨h',c,y⟩:=A4 j e a.ae pl (by omega) s;refine⟨h',?_,y⟩;rw[down_eq (j+3) (g:=dO) rfl (by decide),aN uS];have qq:=yY h' a hd;exact bJ [some (.tup [.str gg,.str x]),some (a.ae),some (.tup pl),some (.ref q),none,none] rfl rfl (i0 (u:=.tup [.str lK,.int n]) (v:=a.ae) (h':=h') (by simp[c]) (aU (h':=h') (by simp[qq]) (aF (by simp))))
theorem Ab{n:Nat}{a b:Kd}{f1 c1 f2 c2:W}(g1:Comes fs Γ n f1 a c1)(g2:Comes fs Γ n f2 b c2):Comes fs Γ (n+2) (.tup [.str gk,f1,f2]) (.pair a b) (.tup [.str gk,c1,c2]):=by
 intro k hk pl q sh fr nd h hp hg s;obtain⟨j,rfl⟩:∃j,k=j+2:=⟨k-2,by omega⟩;obtain⟨h1,e1,y1⟩:=g1 j (by omega) (pl++[.int 0]) q sh fr nd h (by simp;omega) (by omega) s;obtain⟨h2,e2,y2⟩:=g2 j (by omega) (pl++[.int 1]) q sh fr nd h1 (by simp;omega) (by omega) (s.grow y1);refine⟨h2,?_,y1.trans y2⟩;have hp':pl.length+1<=SZ:=by omega
 rw[up_eq (j+1) (g:=jw) rfl,aN uF];exact bJ [some (.tup [.str gk,f1,f2]),some (.tup pl),some (.ref q),none,none,none,none] rfl rfl (i0 (u:=c1) (v:=a.ae) (h':=h1) (by simp[e1,hp']) (i0 (u:=c2) (v:=b.ae) (h':=h2) (by simp[e2,hp']) (aF (by simp[Kd.ae]))))
end
def dM(kd:W):List W->W
 |[]=>.tup [.str sr,kd]
 |c::r=>.tup [.str u0,c,dM kd r]
theorem tZ(C:Or){a:Nat}{cs:List W}{h:Hp}(e:h[a]?=some (.lst cs))(kd:W):
  ∀(n:Nat)(o:Option W),n<=cs.length->∃o',dQ a (.var 3) (au C jg) n [some (.ref a),some kd,some (dM kd (cs.drop n)),o] h=.ok (.next [some (.ref a),some kd,some (dM kd cs),o']) h
 |0,o,_=>⟨o,by simp[dQ]⟩
 |n+1,o,l=>by
  have hn:n<cs.length:=by omega
  obtain⟨o',ih⟩:=tZ C e kd n (some cs[n]) (by omega);refine⟨o',?_⟩;have d:cs.drop n=cs[n]::cs.drop (n+1):=Aq hn;rw[d] at ih;simp only[dM] at ih;rw[dQ];simp[bD,e,hn,jg];simp[jg] at ih;exact ih
theorem Ig(k:Nat){a:Nat}{cs:List W}{h:Hp}(e:h[a]?=some (.lst cs))(kd:W):run T (k+1) qw [.ref a,kd] h=.ok (dM kd cs) h:=by obtain⟨o',t⟩:=tZ (run T k) e kd cs.length none (aA _);rw[List.drop_length] at t;simp only[dM] at t;rw[aN EO];unfold bq qL;simp[fh,e,t]
section
variable {fs:List S}{Γ:Cx}
inductive oA(P:W->W->Prop):List W->List W->Prop
 |nil:oA P [] []
 |cons {x y:W}{xs ys:List W}:P x y->oA P xs ys->oA P (x::xs) (y::ys)
theorem oA.length{P:W->W->Prop}{xs ys:List W}(a:oA P xs ys):xs.length=ys.length:=by
 induction a with
 |nil=>rfl
 |cons _ _ ih=>simp[ih]
theorem B5(j n:Nat)(hj:n<=j)(a:Kd)(F:W)(pl:List W)(q:Nat)(sh:W)(fr nd:Nat)(hp:pl.length+1+n<=SZ)(hg:Γ.length+n<=SZ){xs ys:List W}(g:oA (fun f c=>Goes fs Γ n f a c) xs ys):
  ∀(i:Int)(acc:List W)(h:Hp),eK h q sh fr nd fs Γ->∃h',eG (gN (ag (run T j) fH) [some F,some (Kd.row a).ae,some (.tup pl),some (.ref q),none]) (eT i xs) acc h=.ok (acc++ys) h'/\aD h h':=by
 induction g with
 |nil=>intro i acc h s;exact⟨h,by simp,aD.refl h⟩
 | @cons x y xs ys g1 _ ih=>
  intro i acc h s;obtain⟨h1,e1,y1⟩:=g1 j hj (pl++[.int i]) q sh fr nd h (by simp;omega) hg s;obtain⟨h2,e2,y2⟩:=ih (i+1) (acc++[y]) h1 (s.grow y1);refine⟨h2,?_,y1.trans y2⟩;have hp':pl.length+1<=SZ:=by omega
  have e:gN (ag (run T j) fH) [some F,some (Kd.row a).ae,some (.tup pl),some (.ref q),none] (.tup [.int i,x]) acc h=.ok (acc++[y]) h1:=by simp[gN,fH,Kd.ae,hp',e1]
  simp only[eT,eG,e,R.aw,e2];simp
theorem zN{n:Nat}{a:Kd}{xs ys:List W}(h1:1<=n)(hl:xs.length<=SZ)(g:oA (fun f c=>Goes fs Γ n f a c) xs ys):Goes fs Γ (n+2) (.tup [.str jv,.tup xs]) (.row a) (dM a.ae ys):=by
 intro k hk pl q sh fr nd h hp hg s;obtain⟨j,rfl⟩:∃j,k=j+3:=⟨k-3,by omega⟩;obtain⟨h1,e1,y1⟩:=B5 (j+1) n (by omega) a (.tup [.str jv,.tup xs]) pl q sh fr nd (by omega) (by omega) g 0 [] h s;have r:=Ig j (cy h1 (.lst ys)) a.ae;refine⟨_,?_,y1.trans (aD.app h1 [.lst ys])⟩;have l2:ys.length<=SZ:=by rw[<-g.length];exact hl
 rw[down_eq (j+2) (g:=iI) rfl (by decide),aN wM];unfold bq kc;simp only[Kd.ae] at e1;simp[Kd.ae,jy,e1,dC,l2,r]
theorem Az{t:Nat}(C:Or){a fr:Nat}{ns:List S}{h:Hp}(e:h[a]?=some (.lst (ns.map W.str)))(ef:h[fr]?=some (.lst (fs.map W.str)))(q:Nat){c:S}{o1 o2:W}{r:List (S×W)}(eq:h[q]?=some (.ins c ((ju,o1)::(kP,.ref fr)::r)))(sub:∀x∈ns,x∈fs)(A B:W):
  ∃o,cH a (.var 3) (au C iD) ns.length 0 [some A,some B,some (.ref q),none] h=.ok (.next [some A,some B,some (.ref q),o]) h:=by
 obtain⟨σ',h',t,o,p1,p2⟩:=sG (xs:=ns.map W.str) (a:=a) (t:=.var 3) (k:=au C iD) (fun _ σ h'=>∃o,σ=[some A,some B,some (.ref q),o]/\h'=h) (fun i σ h' ⟨_,_,z⟩=>by subst z;simp[bD,e])
  (fun i σ h' x ⟨o,z1,z2⟩ ex=>by
   subst z1;subst z2;have:x∈ns.map W.str:=wd ex;obtain⟨y,hy,rfl⟩:=jF.mp this;refine⟨_,rfl,[some A,some B,some (.ref q),some (.str y)],h',?_,_,rfl,rfl⟩;have i:=nR ef y;simp[iD,eq,List.lookup,i,sub y hy]) ns.length 0 [some A,some B,some (.ref q),none] h (by simp) ⟨none,rfl,rfl⟩
 subst p1;subst p2;exact⟨o,t⟩
theorem AY{n:Nat}{a:Kd}{f c:W}(g:Goes fs Γ n f a c)(hn:a.depth+3<=n)(hd:2 ^ a.depth<=SZ)(sub:∀x∈a.put [],x∈fs):Comes fs Γ (n+2) (.tup [.str An,f,a.ae]) a c:=by
 intro k hk pl q sh fr nd h hp hg s;obtain⟨j,rfl⟩:∃j,k=j+2:=⟨k-2,by omega⟩;have nm:=E7 (T:=T) (pt:=lU) (pn:=jm) (self:=mU) rfl rfl rfl a j h (by omega) hd;have y0:aD h (h++[.aK (gw (a.put [])),.lst ((a.put []).map W.str)]):=aD.app _ _;have s0:=s.grow y0;obtain⟨h1,e1,y1⟩:=g j (by omega) (pl++[.int 0]) q sh fr nd _ (by simp;omega) (by omega) s0;have l1:(h++[.aK (gw (a.put [])),.lst ((a.put []).map W.str)])[h.length+1]?=some (.lst ((a.put []).map W.str)):=by simp
 obtain⟨o,t⟩:=Az (t:=0) (run T j) l1 s0.f q (o2:=.ak) s0.o sub (.tup [.str An,f,a.ae]) (.tup pl);refine⟨h1,?_,y0.trans y1⟩;have hp':pl.length+1<=SZ:=by omega
 rw[up_eq (j+1) (g:=lb) rfl,aN Dt];unfold bq oa;simp only[bg,c7,fh,cQ,ka,gY,aR,gD,Nat.reduceSub,List.replicate,jB,gE,qI,nv,dR,fW,oZ,iV,ic,xb,qS,R.aw,idx,Nf,R.jZ,nm,src,l1,turns,gC,t];simp[e1,hp']
end
abbrev mz:S:=[83,104,101,108,102]
noncomputable abbrev uW:S:=[100,101,102,105,110,105,116,105,111,110,115]
abbrev vb:S:=[110,117,109,98,101,114,115]
def fK(h:Hp)(q d n:Nat):Prop:=h[q]?=some (.ins mz [(uW,.ref d),(vb,.ref n)])
theorem yI(k:Nat)(h:Hp)(q:Nat):run T (k+2) iK [.ref q] h=.ok (.ref (h.length+2)) (h++[.lst [],.lst [],.ins jt [(ju,.ref q),(kP,.ref h.length),(kJ,.ref (h.length+1)),(kr,.tup [])]]):=by have i:=vM k (h++[.lst [],.lst []]) (.ref q) (.ref h.length) (.ref (h.length+1)) (.tup []);rw[aN sI];unfold bq iC;simp only[iU,cQ,ka,om,jB,gE] at i;simp[i]
theorem NZ{n:Nat}{f:W}{a:Kd}{c:W}(g:Comes [] [] n f a c)(k:Nat)(hn:n+1<=k)(h3:3<=k)(hk:n<=SZ){h:Hp}{q d m:Nat}(s:fK h q d m):∃h',run T k ff [.ref q,f] h=.ok (.tup [c,a.ae]) h'/\aD h h':=by obtain⟨j,rfl⟩:∃j,k=j+3:=⟨k-3,by omega⟩;have o:=yI j h q;obtain⟨h1,e1,y1⟩:=g (j+2) (by omega) [] (h.length+2) (.ref q) h.length (h.length+1) (h++[.lst [],.lst [],.ins jt [(ju,.ref q),(kP,.ref h.length),(kJ,.ref (h.length+1)),(kr,.tup [])]]) (by simpa using hk) (by simpa using hk) ⟨by simp,by simp,by simp⟩;refine⟨h1,?_,(aD.app _ _).trans y1⟩;unfold fK at s;rw[aN nJ];unfold bq jD;simp[s,List.lookup,o,e1]
theorem BS(k:Nat)(h:Hp):run T (k+1) ko [.ref h.length] (h++[.ins mz []])=.ok .ak (h++[.ins mz [(uW,.ref (h.length+1)),(vb,.ref (h.length+2))],.lst [],.aK []]):=by rw[aN wC];unfold bq j8;simp[mH]
theorem iG(k p:Nat):Gg (run T (k+1)) aW p:=tJ (nx:=aW) rfl k p
theorem EK(k p:Nat)(h:Hp)(g:Gen p h):∃x h',run T (k+2) qW [.ref p] h=.ok (.str x) h'/\x.length<=8/\Ext p h h'/\Gen p h':=by rw[aN DU];exact GN (nx:=aW) (iG k p) h g
theorem t7:∀ns:List Int,bp (ns.map W.int)=true
 |[]=>rfl
 |x::r=>by simp[bp,W.pure,t7 r]
theorem uN:∀ns:List Int,aS (ns.map W.int)=0
 |[]=>rfl
 |x::r=>by simp[aS,W.deep,uN r]
theorem G5(k p:Nat)(h:Hp)(g:Gen p h):∃v h',run T (k+2) mO [.ref p] h=.ok (.int v) h'/\Ext p h h'/\Gen p h':=by
 obtain⟨v1,h1,r1,a1,b1,x1,g1⟩:=iG k p 14 h g (by decide);obtain⟨v2,h2,r2,a2,b2,x2,g2⟩:=iG k p 2000 h1 g1 (by decide);obtain⟨v3,h3,r3,a3,b3,x3,g3⟩:=iG k p 4 h2 g2 (by decide);have x123:=(x1.trans x2).trans x3;have g4:=g3.ext [O.lst [.int (v1-5),.int (v2-1000),.int v3]];have n4:=g3.md;obtain⟨a,c,l,ns,e1',e2',e3⟩:=g3.ex;have nl:l≠h3.length:=fun z=>absurd (iX e2') (by omega);have e1:=aP [O.lst [.int (v1-5),.int (v2-1000),.int v3]] e1';have e2:=aP [O.lst [.int (v1-5),.int (v2-1000),.int v3]] e2';have q:=zm e2 (t7 ns) (by rw[uN];omega);have f1:=aP [O.lst []] e1;have f2:=aP [O.lst []] e2;have g5:=g4.ext [O.lst []];have A5:=aP [O.lst []] (cy h3 (O.lst [.int (v1-5),.int (v2-1000),.int v3]));have x5:Ext p h ((h3++[O.lst [.int (v1-5),.int (v2-1000),.int v3]])++[O.lst []]):=(x123.trans (Ext.app p _ _)).trans (Ext.app p _ _);rw[aN zE];simp only[om,jB,gE] at q f1 f2 g5 A5 x5;simp only[iU,cQ,ka] at q;cases ns with
 |nil=>
  obtain⟨v6,h6,r6,a6,b6,x6,g6⟩:=iG k p 3 _ g5 (by decide);have A6:=x6.keep _ _ A5 (aX n4);obtain⟨y,hy,ey⟩:=rO [W.int (v1-5),.int (v2-1000),.int v3] v6 a6 (by simpa using b6);obtain⟨z,rfl⟩:∃z,y=.int z:=by simp at hy;rcases hy with rfl|rfl|rfl<;>exact⟨_,rfl⟩
  refine⟨z,h6,?_,x5.trans x6,g6⟩;simp only[gD,List.isEmpty_nil] at q;exact bJ [some (.ref p),none] rfl rfl (aG (w:=.ref h3.length) (h':=h3++[O.lst [.int (v1-5),.int (v2-1000),.int v3]]) (by simp[r1,r2,r3]) (aU (h':=h3++[O.lst [.int (v1-5),.int (v2-1000),.int v3],O.lst []]) (by simp[e1,q]) (aF (by simp[A5,r6,A6,ey]))))
 |cons n r=>
  obtain⟨w,hw,ew⟩:=zp ((n::r).map W.int) c (by simp);obtain⟨y,_,rfl⟩:=jF.mp hw;have pos:(0:Int)<(r.length:Int)+1:=by omega
  have B:Gen p ((h3++[O.lst [.int (v1-5),.int (v2-1000),.int v3],O.lst []]).set h3.length (O.lst [.int (v1-5),.int (v2-1000),.int v3,.int (y % 100000000000000000000000000000000000000000000000000000000000-1000000000000000000000000000000)])):=by refine⟨a,c,l,n::r,i5 (aX n4) f1,i5 (aX nl) f2,e3⟩
  obtain⟨v6,h6,r6,a6,b6,x6,g6⟩:=iG k p 4 _ B (by decide);have A6:=x6.keep _ _ (fg (o:=O.lst [.int (v1-5),.int (v2-1000),.int v3,.int (y % 100000000000000000000000000000000000000000000000000000000000-1000000000000000000000000000000)]) A5) (aX n4);obtain⟨u,hu,eu⟩:=rO [W.int (v1-5),.int (v2-1000),.int v3,.int (y % 100000000000000000000000000000000000000000000000000000000000-1000000000000000000000000000000)] v6 a6 (by simpa using b6);obtain⟨z,rfl⟩:∃z,u=.int z:=by simp at hu;rcases hu with rfl|rfl|rfl|rfl<;>exact⟨_,rfl⟩
  have xs:Ext p h3 ((h3++[O.lst [.int (v1-5),.int (v2-1000),.int v3],O.lst []]).set h3.length (O.lst [.int (v1-5),.int (v2-1000),.int v3,.int (y % 100000000000000000000000000000000000000000000000000000000000-1000000000000000000000000000000)])):=⟨by simp,fun q o e n=>i5 (fun z=>absurd (iX e) (by omega)) (aP _ e)⟩;refine⟨z,h6,?_,(x123.trans xs).trans x6,g6⟩;simp only[aR,List.isEmpty_cons] at q f2 ew;simp only[cQ,gC] at ew;push_cast at ew;simp at r6 A6;exact bJ [some (.ref p),none] rfl rfl (aG (w:=.ref h3.length) (h':=h3++[O.lst [.int (v1-5),.int (v2-1000),.int v3]]) (by simp[r1,r2,r3]) (u9 (h':=h3++[O.lst [.int (v1-5),.int (v2-1000),.int v3],O.lst []]) (σ':=[some (.ref p),some (.ref h3.length)]) (h3:=h3++[O.lst [.int (v1-5),.int (v2-1000),.int v3,.int (y % 100000000000000000000000000000000000000000000000000000000000-1000000000000000000000000000000)],O.lst []]) (by simp[e1,q]) (by simp[-binI,f1,f2,A5,pos,ew,SZ,binI.eq_def]) (aF (by simp[r6,A6,eu]))))
theorem CQ{x:S}{a:Kd}:∀{Γ:Cx}{i:Nat},Γ[i]?=some (x,a)->x∉(Γ.take i).map (·.1)->gz x Γ=some (i,a)
 |[],i,e,_=>by simp at e
 |(y,b)::Γ,0,e,_=>by simp at e;obtain⟨rfl,rfl⟩:=e;simp[gz]
 |(y,b)::Γ,i+1,e,n=>by
  simp only[List.take_succ_cons,aR,cX,not_or] at n;have ih:=CQ (Γ:=Γ) (i:=i) (by simpa using e) n.2;have c:¬ y=x:=fun z=>n.1 z.symm;simp[gz,c,ih]
theorem HC(b:S×Kd):(bd b).pure=true:=by simp[bd,W.pure,bp,dX]
theorem wR:∀Γ:Cx,bp (Γ.map bd)=true
 |[]=>rfl
 |b::r=>by simp[bp,HC,wR r]
theorem wq(n:Nat):∀Γ:Cx,(∀b∈Γ,b.2.depth<=n)->aS (Γ.map bd)<=n+2
 |[],_=>by simp[aS]
 |b::r,h=>by
  have h1:=eA b.2;have h2:=h b gF;have h3:=wq n r fun x hx=>h x (di _ hx);simp only[aR,aS,bd,W.deep];omega
theorem nX{a:Nat}{k:W->List W->Hp->R (List W)}{xs:List W}{h:Hp}(g:W->W)(e:bD h a=some xs)(hk:∀x∈xs,∀acc,k x acc h=.ok (acc++[g x]) h):
  ∀(n i:Nat)(acc:List W),i+n=xs.length->cP a k n i acc h=.ok (acc++(xs.drop i).map g) h
 |0,i,acc,l=>by
  have:i=xs.length:=by omega
  subst this;rw[cP];simp[e]
 |n+1,i,acc,l=>by
  have hi:i<xs.length:=by omega
  have ih:=nX g e hk n (i+1) (acc++[g xs[i]]) (by omega);have k1:=hk xs[i] (tB hi) acc;have d:xs.drop i=xs[i]::xs.drop (i+1):=Aq hi;rw[cP];simp only[e,iM hi,k1,R.aw,ih,d];simp only[aR,om,jB,gE]
noncomputable abbrev bc(p:Nat)(kd:W)(b:Nat)(o3 o4 o5:Option W):Env:=[some (.ref p),some kd,some (.ref b),o3,o4,o5,none,none,none,none,none,none,none,none,none,none]
inductive Found(p b:Nat)(Γ:Cx)(kd:Kd)(h:Hp):R Fl->Prop
 |yes {x:S}{n:Nat}{h':Hp}:gz x Γ=some (n,kd)->aD h h'->Found p b Γ kd h (.ok (.ret (.tup [.tup [.str gg,.str x],.tup [.str lK,.int n]])) h')
 |no {o3 o4 o5:Option W}{h':Hp}:aD h h'->Found p b Γ kd h (.ok (.next (bc p kd.ae b o3 o4 o5)) h')
theorem vE(C:Or)(p b:Nat){Γ:Cx}{kd:Kd}(hd:kd.depth<=50)(hg:∀b∈Γ,b.2.depth<=50)(hl:Γ.length<=SZ):
  ∀(m i:Nat)(o3 o4 o5:Option W)(h:Hp),i+m=Γ.length->h[b]?=some (.lst (Γ.reverse.map bd))->Found p b Γ kd h (bh (.var 3) (au C bO) (upTo i m) (bc p kd.ae b o3 o4 o5) h)
 |0,i,o3,o4,o5,h,_,_=>.no (aD.refl h)
 |m+1,i,o3,o4,o5,h,l,eb=>by
  have hi:i<Γ.length:=by omega
  have e1:Γ[i]?=some Γ[i]:=iM hi;have at1:cg (Γ.reverse.map bd) ((Γ.length:Int)-1-i)=some (bd Γ[i]):=by
   have:(Γ.length:Int)-1-i=((Γ.length-1-i:Nat):Int):=by omega
   rw[this,i4 _ _ (by simp;omega)];simp
   congr 2;omega
  have cu:cut (Γ.reverse.map bd) (some ((Γ.length:Int)-i)) none=((Γ.take i).reverse).map bd:=by
   have n1:¬ ((Γ.length:Int)-i<0):=by omega
   have n2:min ((Γ.length:Int)-i).toNat Γ.length=Γ.length-i:=by omega
   simp only[cut,aV,gC,wJ,n1,kX,n2];rw[Fo (by simp),<-List.map_drop,List.reverse_take]
  have h1:aD h (h++[O.lst (((Γ.take i).reverse).map bd)]):=aD.app _ _;have wk:=nX (a:=h.length) (k:=fA (fw C .none) (ag C f6) (bc p kd.ae b (some (.int i)) (some (bd Γ[i])) o5)) (xs:=((Γ.take i).reverse).map bd) (h:=h++[O.lst (((Γ.take i).reverse).map bd)]) (fun w=>match w with | .tup (x::_)=>x|_=>.ak) (by simp[bD]) (fun x hx acc=>by
   obtain⟨y,_,rfl⟩:=jF.mp hx;simp[fA,f6,bd]) i 0 [] (by simp;omega)
  have nmE:(((Γ.take i).reverse).map bd).map (fun w=>match w with | .tup (x::_)=>x|_=>W.ak)=(((Γ.take i).reverse).map (·.1)).map W.str:=by rw[mC,mC];rfl
  rw[List.drop_zero,nmE,gE] at wk;have ln:((((Γ.take i).reverse).map (·.1)).map W.str).length<=SZ:=by simp;omega
  have lD:(((Γ.take i).reverse).map bd).length=i:=by simp;omega
  have lB:(Γ.reverse.map bd).length=Γ.length:=by simp
  have inN:=nR (h:=(h++[O.lst (((Γ.take i).reverse).map bd)])++[O.lst ((((Γ.take i).reverse).map (·.1)).map W.str)]) (q:=h.length+1) (l:=((Γ.take i).reverse).map (·.1)) (by simp) Γ[i].1;have mN:(Γ[i].1∈((Γ.take i).reverse).map (·.1))↔(Γ[i].1∈(Γ.take i).map (·.1)):=by simp
  have kq:=fun h=>Kd.bz h Γ[i].2 kd (hg _ (tB hi)) hd;have eb':=aP [O.lst (((Γ.take i).reverse).map bd),O.lst ((((Γ.take i).reverse).map (·.1)).map W.str)] eb;generalize hN:(((Γ.take i).reverse).map (·.1)).map W.str=N at *;generalize hD:((Γ.take i).reverse).map bd=D at *;generalize hB:Γ.reverse.map bd=B at *;have body:au C bO (bc p kd.ae b (some (.int i)) o4 o5) h=if Γ[i].2=kd/\Γ[i].1∉(Γ.take i).map (·.1) then .ok (.ret (.tup [.tup [.str gg,.str Γ[i].1],.tup [.str lK,.int i]])) (h++[O.lst D,O.lst N]) else .ok (.next (bc p kd.ae b (some (.int i)) (some (bd Γ[i])) (some (.ref (h.length+1))))) (h++[O.lst D,O.lst N]):=by
   simp only[decide_eq_decide.mpr mN,om,jB,gE] at inN;have cnd:ag C (.and (.cmp .eq (.idx (.var 4) (.cst (.int 1))) (.var 1)) (.cmp .notin (.idx (.var 4) (.cst (.int 0))) (.var 5))) (bc p kd.ae b (some (.int i)) (some (bd Γ[i])) (some (.ref (h.length+1)))) (h++[O.lst D,O.lst N])=.ok (.bl (decide (Γ[i].2=kd)&&!decide (Γ[i].1∈(Γ.take i).map (·.1)))) (h++[O.lst D,O.lst N]):=by have kq:=kq (h++[O.lst D,O.lst N]);generalize decide (Γ[i].2=kd)=b1 at *;generalize decide (Γ[i].1∈(Γ.take i).map (·.1))=b2 at *;cases b1<;>simp[bd,kq,inN]
   have e4:ag C (.idx (.var 2) (.bin .sub (.bin .sub (.blt .len (.var 2)) (.cst (.int 1))) (.var 3))) (bc p kd.ae b (some (.int i)) o4 o5) h=.ok (bd Γ[i]) h:=by simp[eb,lB,at1]
   have e5:ag C (.comp f6 (.seq (.sl (.var 2) (.some (.bin .sub (.blt .len (.var 2)) (.var 3))) .none)) .none) (bc p kd.ae b (some (.int i)) (some (bd Γ[i])) o5) h=.ok (.ref (h.length+1)) (h++[O.lst D,O.lst N]):=by simp[fM,eb,lB,cu,lD,wk,dC,ln]
   by_cases c:Γ[i].2=kd/\Γ[i].1∉(Γ.take i).map (·.1)
   .rw[jb c.1,bU c.2] at cnd;rw[if_pos c];exact aG e4 (aG e5 (cw cnd (aF (by simp[bd]))))
   .have cf:(decide (Γ[i].2=kd)&&!decide (Γ[i].1∈(Γ.take i).map (·.1)))=false:=by
     rw[Bool.eq_false_iff];intro z;simp only[av,aI,kN,decide_eq_false_iff_not] at z;exact c z
    rw[cf] at cnd;rw[if_neg c];exact aG e4 (aG e5 (aU cnd (c7 _ _ _)))
  have cast:((i:Int)+1)=((i+1:Nat):Int):=by push_cast;rfl
  simp only[upTo,bh,turn,iZ,lE,lL];rw[body,cast];by_cases c:Γ[i].2=kd/\Γ[i].1∉(Γ.take i).map (·.1)
  .rw[if_pos c];refine .yes (CQ (x:=Γ[i].1) (a:=kd) ?_ c.2) (aD.app _ _);rw[e1,<-c.1]
  .rw[if_neg c];have:=vE C p b hd hg hl m (i+1) (some (.int i)) (some (bd Γ[i])) (some (.ref (h.length+1))) (h++[O.lst D,O.lst N]) (by omega) (by rw[hB];exact eb');simp only[R.aw];generalize bh (.var 3) (au C bO) (upTo ((i+1:Nat):Int) m) (bc p kd.ae b (some (.int i)) (some (bd Γ[i])) (some (.ref (h.length+1)))) (h++[O.lst D,O.lst N])=R at *;cases this with
   |yes f g=>exact .yes f ((aD.app _ _).trans g)
   |no g=>exact .no ((aD.app _ _).trans g)
structure fE(p:Nat)(Γ:Cx)(kd:Kd)(h:Hp)(r:R W)(f c:W)(h':Hp):Prop where
 eq:r=.ok (.tup [f,c]) h'
 m9:∀Δ:Cx,Goes [] (Γ++Δ) (4 * kd.depth+4) f kd c
 pure:c.pure=true
 deep:c.deep<=6 * kd.depth+2
 form:f.pure=true/\f.deep<=3 * kd.depth+1
 ext:Ext p h h'
 gen:Gen p h'
abbrev pr(z:W×W):W:=.tup [z.1,z.2]
theorem yH{P:W->W->Prop}:∀{ps:List (W×W)},(∀z∈ps,P z.1 z.2)->oA P (ps.map (·.1)) (ps.map (·.2))
 |[],_=>.nil
 |z::r,h=>.cons (h z gF) (yH fun y hy=>h y (di _ hy))
abbrev jd(r:W)(z:W×W):W:=.tup [.str u0,z.2,r]
theorem ur(kd:W):∀ps:List (W×W),ps.reverse.foldl jd (.tup [.str sr,kd])=dM kd (ps.map (·.2))
 |[]=>rfl
 |z::r=>by simp[dM,ur kd r]
theorem uu{kd:W}(hk:kd.pure=true):∀{ps:List (W×W)},(∀z∈ps,z.2.pure=true)->(dM kd (ps.map (·.2))).pure=true
 |[],_=>by simp[dM,W.pure,bp,hk]
 |z::r,h=>by
  have h1:=h z gF;have h2:=uu hk (ps:=r) fun y hy=>h y (di _ hy);simp[dM,W.pure,bp,h1,h2]
theorem uH{kd:W}{n:Nat}(hk:kd.deep+1<=n):∀{ps:List (W×W)},(∀z∈ps,z.2.deep<=n)->(dM kd (ps.map (·.2))).deep<=n+ps.length
 |[],_=>by simp[dM,W.deep,aS];omega
 |z::r,h=>by
  have h1:=h z gF;have h2:=uH hk (ps:=r) fun y hy=>h y (di _ hy);simp only[aR,dM,W.deep,aS,cQ];omega
theorem t8{C:Or}{p b:Nat}{Γ:Cx}{a:Kd}(hb:b≠p)(ih:∀h,Gen p h->h[b]?=some (.lst (Γ.reverse.map bd))->∃f c h',fE p Γ a h (C aZ [.ref p,a.ae,.ref b] h) f c h'){σ:Env}(s0:σ[0]?=some (some (.ref p)))(s1:σ[1]?=some (some (Kd.row a).ae))(s2:σ[2]?=some (some (.ref b))):
  ∀(l:List W)(acc:List W)(h:Hp),Gen p h->h[b]?=some (.lst (Γ.reverse.map bd))->∃(ps:List (W×W)) (h':Hp),eG (fA (fw C .none) (ag C fX) σ) l acc h=.ok (acc++ps.map pr) h'/\ps.length=l.length/\(∀z∈ps,(∀Δ:Cx,Goes [] (Γ++Δ) (4 * a.depth+4) z.1 a z.2)/\z.2.pure=true/\z.2.deep<=6 * a.depth+2/\z.1.pure=true/\z.1.deep<=3 * a.depth+1)/\Ext p h h'/\Gen p h'
 |[],acc,h,g,eb=>⟨[],h,by simp,rfl,by simp,Ext.refl p h,g⟩
 |x::l,acc,h,g,eb=>by
  obtain⟨f,c,h1,i⟩:=ih h g eb;obtain⟨ps,h2,e2,l2,q2,x2,g2⟩:=t8 hb ih s0 s1 s2 l (acc++[pr (f,c)]) h1 i.gen (i.ext.keep _ _ eb hb);refine⟨(f,c)::ps,h2,?_,by simp[l2],?_,i.ext.trans x2,g2⟩
  .have l0:0<σ.length:=(dE.mp s0).1;have l1:1<σ.length:=(dE.mp s1).1;have l2:2<σ.length:=(dE.mp s2).1;have t0:(σ++[some x])[0]?=some (some (.ref p)):=by rw[g9 l0,s0]
   have t1:(σ++[some x])[1]?=some (some (Kd.row a).ae):=by rw[g9 l1,s1]
   have t2:(σ++[some x])[2]?=some (some (.ref b)):=by rw[g9 l2,s2]
   have e:fA (fw C .none) (ag C fX) σ x acc h=.ok (acc++[pr (f,c)]) h1:=by simp only[Kd.ae] at t1;unfold fA;generalize σ++[some x]=ρ at *;simp[fX,t0,t1,t2,i.eq]
   simp only[eG,e,R.aw,e2];simp
  .intro z hz;rcases cX.mp hz with rfl|hz
   .exact⟨i.m9,i.pure,i.deep,i.form⟩
   .exact q2 z hz
theorem C8(C:Or){B:Nat}{ps:List (W×W)}{h:Hp}(e:h[B]?=some (.lst (ps.map pr).reverse))(σ:Env)(l:σ.length=16)(r0:W)(e12:σ[12]?=some (some r0)):
  ∃o,cH B (.var 13) (au C gi) ps.length 0 σ h=.ok (.next ((σ.set 12 (some (ps.reverse.foldl jd r0))).set 13 o)) h:=by
 obtain⟨σ',h',t,o,p1,p2⟩:=sG (xs:=(ps.map pr).reverse) (a:=B) (t:=.var 13) (k:=au C gi)
  (fun i σ' h'=>∃o,σ'=(σ.set 12 (some ((ps.reverse.take i).foldl jd r0))).set 13 o/\h'=h)
  (fun i σ h' ⟨_,_,z⟩=>by subst z;simp[bD,e])
  (fun i σ' h' x ⟨o,z1,z2⟩ ex=>by
   subst z2;rw[<-List.map_reverse,mZ] at ex;cases ez:ps.reverse[i]? with
   |none=>rw[ez] at ex;simp at ex
   |some z=>
    rw[ez] at ex;simp at ex;subst ex;have tk:ps.reverse.take (i+1)=ps.reverse.take i++[z]:=by rw[List.take_succ,ez];rfl
    refine⟨_,rfl,(σ.set 12 (some (jd ((ps.reverse.take i).foldl jd r0) z))).set 13 (some (pr z)),h',?_,some (pr z),?_,rfl⟩
    .subst z1;have a1:((σ.set 12 (some ((ps.reverse.take i).foldl jd r0))).set 13 (some (pr z)))[13]?=some (some (pr z)):=by
      rw[iu (by simp;omega)]
     have a2:((σ.set 12 (some ((ps.reverse.take i).foldl jd r0))).set 13 (some (pr z)))[12]?=some (some ((ps.reverse.take i).foldl jd r0)):=by rw[iy (by omega),iu (by omega)]
     have a3:((σ.set 12 (some ((ps.reverse.take i).foldl jd r0))).set 13 o).set 13 (some (pr z))=(σ.set 12 (some ((ps.reverse.take i).foldl jd r0))).set 13 (some (pr z)):=by rw[Ad]
     simp only[a3];simp only[gi,bg,c7,yr,Il,dR,fW,ic,oZ,iV,a1,a2,R.aw,idx,NG,R.jZ,pr]
     congr 2
     rw[List.set_comm _ _ (by omega),Ad]
    .rw[tk,List.foldl_append];rfl) ps.length 0 σ h (by simp) ⟨σ[13]?.getD none,by
    simp only[List.take_zero,List.foldl_nil];have x1:σ.set 12 (some r0)=σ:=by
     apply EW;intro i;by_cases z:12=i
     .subst z;rw[iu (by omega),e12]
     .rw[iy z]
    rw[x1];apply EW;intro i;by_cases z:13=i
    .subst z;rw[iu (by omega)];have:(13:Nat)<σ.length:=by omega
     rw[iM this];rfl
    .rw[iy z],rfl⟩
 subst p1;subst p2;refine⟨o,?_⟩;rw[t,show (List.map pr ps).reverse.length=ps.reverse.length by simp,Fu]
def eJ:List St:=dg.body.tail
def LW:List St:=match dg.body.drop 4 with
 |St.iff _ a _::_=>a
 |_=>[]
section
variable {k p b:Nat}{Γ:Cx}
theorem nO(h:Hp)(kd:Kd)(hd:kd.depth<=50):bz h kd.ae (.tup [.str bZ])=some (decide (kd=.num)):=Kd.bz h kd .num hd (by decide)
theorem rW(h:Hp)(kd:Kd)(hd:kd.depth<=50):bz h kd.ae (.tup [.str fe])=some (decide (kd=.tru)):=Kd.bz h kd .tru hd (by decide)
theorem ct{C:Or}{kd:Kd}{k2:W}{σ:Env}{h:Hp}{b:Bool}(s1:σ[1]?=some (some kd.ae)){es:Es}(e2:bS C es σ h=.ok [k2] h)(e:bz h kd.ae (.tup [k2])=some b):ag C (.cmp .eq (.var 1) (.tup es)) σ h=.ok (.bl b) h:=by simp[s1,e2,e]
theorem ch{C:Or}{σ:Env}{h:Hp}{x y:S}{r:List W}{b:Bool}(s1:σ[1]?=some (some (.tup (.str x::r))))(e:decide (x=y)=b):ag C (.cmp .eq (.idx (.var 1) (.cst (.int 0))) (.cst (.str y))) σ h=.ok (.bl b) h:=by subst e;simp[s1]
theorem rY{C:Or}{σ:Env}{h:Hp}{w:W}:bS C (.cons (.cst w) .nil) σ h=.ok [w] h:=by simp
theorem Ec(h:Hp)(g:Gen p h)(o3 o4 o5:Option W):∃f c h',au (run T (k+2)) eJ (bc p Kd.num.ae b o3 o4 o5) h=.ok (.ret (.tup [f,c])) h'/\fE p Γ .num h (.ok (.tup [f,c]) h') f c h':=by obtain⟨v,h1,r,x,g1⟩:=G5 k p h g;have e:=nO h .num (by decide);exact⟨.tup [.str bZ,.int v],.tup [.str bZ,.int v],h1,cw (ct rfl rY e) (aG (w:=.tup [.str bZ,.int v]) (h':=h1) (by simp[r]) (aF (by simp))),rfl,fun _=>EF v,rfl,by simp[W.deep,aS],⟨rfl,by simp[W.deep,aS]⟩,x,g1⟩
theorem Fh(h:Hp)(g:Gen p h)(o3 o4 o5:Option W):∃f c h',au (run T (k+2)) eJ (bc p Kd.tru.ae b o3 o4 o5) h=.ok (.ret (.tup [f,c])) h'/\fE p Γ .tru h (.ok (.tup [f,c]) h') f c h':=by
 have g0:=g.ext [O.lst [.tup [.str j4],.tup [.str uO]]];obtain⟨v,h1,r,a,b',x,g1⟩:=iG (k+1) p 2 _ g0 (by decide);have A:=x.keep _ _ (cy h (O.lst [.tup [.str j4],.tup [.str uO]])) (aX g.md);have e0:=nO h .tru (by decide);have e1:=rW h .tru (by decide);have v01:v=0\/v=1:=by omega
 have fin:∀w:W,cg [W.tup [.str j4],.tup [.str uO]] v=some w->au (run T (k+2)) eJ (bc p Kd.tru.ae b o3 o4 o5) h=.ok (.ret (.tup [w,w])) h1:=fun w ew=>
  aU (ct rfl rY e0) (cw (ct rfl rY e1) (aG (w:=w) (h':=h1) (by simp[r,A,ew]) (aF (by simp))))
 rcases v01 with rfl|rfl
 .exact⟨_,_,h1,fin (.tup [.str j4]) (by simp),rfl,fun _=>DS,rfl,by simp[W.deep,aS],⟨rfl,by simp[W.deep,aS]⟩,(Ext.app _ _ _).trans x,g1⟩
 .exact⟨_,_,h1,fin (.tup [.str uO]) (by simp),rfl,fun _=>GX,rfl,by simp[W.deep,aS],⟨rfl,by simp[W.deep,aS]⟩,(Ext.app _ _ _).trans x,g1⟩
theorem Dm{a c:Kd}(hb:b≠p)(hd:(Kd.pair a c).depth<=50)(h:Hp)(g:Gen p h)(eb:h[b]?=some (.lst (Γ.reverse.map bd)))
  (ih1:∀h,Gen p h->h[b]?=some (.lst (Γ.reverse.map bd))->∃f c h',fE p Γ a h (run T (k+2) aZ [.ref p,a.ae,.ref b] h) f c h')
  (ih2:∀h,Gen p h->h[b]?=some (.lst (Γ.reverse.map bd))->∃f c' h',fE p Γ c h (run T (k+2) aZ [.ref p,c.ae,.ref b] h) f c' h') (o3 o4 o5:Option W):
  ∃f c' h',au (run T (k+2)) eJ (bc p (Kd.pair a c).ae b o3 o4 o5) h=.ok (.ret (.tup [f,c'])) h'/\fE p Γ (.pair a c) h (.ok (.tup [f,c']) h') f c' h':=by
 obtain⟨f1,c1,h1,i1⟩:=ih1 h g eb;obtain⟨f2,c2,h2,i2⟩:=ih2 h1 i1.gen (i1.ext.keep _ _ eb hb);have e0:=nO h (.pair a c) hd;have e1:=rW h (.pair a c) hd;simp only[Kd.depth] at hd;simp only[reduceCtorEq,vq] at e0 e1;have j1:=i1.eq;have j2:=i2.eq;refine⟨.tup [.str gk,f1,f2],.tup [.str gk,c1,c2],h2,aU (ct rfl rY e0) (aU (ct rfl rY e1) (cw (ch (x:=dS) rfl rfl) (aG (w:=.tup [f1,c1]) (h':=h1) ?_ (aG (w:=.tup [f2,c2]) (h':=h2) ?_ (aF (by simp)))))),rfl,fun Δ=>(B0 (n:=4 * (max a.depth c.depth)+4) ((i1.m9 Δ).mono (by omega)) ((i2.m9 Δ).mono (by omega))).mono (by simp only[Kd.depth];omega),by simp[W.pure,bp,i1.pure,i2.pure],?_,⟨by simp[W.pure,bp,i1.form.1,i2.form.1],?_⟩,i1.ext.trans i2.ext,i2.gen⟩
 .simp[Kd.ae,j1]
 .simp[Kd.ae,j2]
 .have d1:=i1.deep;have d2:=i2.deep;simp only[W.deep,aS,Kd.depth];omega
 .have d1:=i1.form.2;have d2:=i2.form.2;simp only[W.deep,aS,Kd.depth];omega
theorem Dc{a c:Kd}(hb:b≠p)(hd:(Kd.work a c).depth<=50)(hg:∀b∈Γ,b.2.depth<=50)(hl:Γ.length+1<=SZ)(h:Hp)(g:Gen p h)(eb:h[b]?=some (.lst (Γ.reverse.map bd)))
  (ih:∀(x:S)(b':Nat)(h:Hp),b'≠p->Gen p h->h[b']?=some (.lst (((x,a)::Γ).reverse.map bd))->∃f c' h',fE p ((x,a)::Γ) c h (run T (k+2) aZ [.ref p,c.ae,.ref b'] h) f c' h') (o3 o4 o5:Option W):
  ∃f c' h',au (run T (k+2)) eJ (bc p (Kd.work a c).ae b o3 o4 o5) h=.ok (.ret (.tup [f,c'])) h'/\fE p Γ (.work a c) h (.ok (.tup [f,c']) h') f c' h':=by
 obtain⟨w,h1,r1,lw,x1,g1⟩:=EK k p h g;have eb1:=x1.keep _ _ eb hb;have g2:=g1.ext [O.lst []];have ne:=zm eb1 (wR _) (cL (wq 50 _ (fun z hz=>hg z (List.mem_reverse.mp hz))) (by omega));have eb2:=aP [O.lst []] eb1;have e0:=nO h (.work a c) hd;have e1:=rW h (.work a c) hd;have fin:∀(x:S)(h3:Hp),Ext p h h3->Gen p h3->h3[b]?=some (.lst (Γ.reverse.map bd))->∃f c' h',run T (k+2) aZ [.ref p,c.ae,.ref (h3.length+1)] (h3++[O.lst [.tup [.str x,a.ae]],O.lst (Γ.reverse.map bd++[.tup [.str x,a.ae]])])=.ok (.tup [f,c']) h'/\fE p Γ (.work a c) h (.ok (.tup [.tup [.str nD,.str x,f],.tup [.str nD,a.ae,c']]) h') (.tup [.str nD,.str x,f]) (.tup [.str nD,a.ae,c']) h'/\(h3++[O.lst [.tup [.str x,a.ae]]])[b]?=some (.lst (Γ.reverse.map bd)):=by
  intro x h3 x3 g3 eb3;have eb4:=aP [O.lst [bd (x,a)]] eb3;obtain⟨f,c',h',i⟩:=ih x (h3.length+1) ((h3++[O.lst [bd (x,a)]])++[O.lst (((x,a)::Γ).reverse.map bd)]) (fun z=>absurd g3.md (by obtain⟨_,_,_,_,e,_⟩:=g3.ex;have:=iX e;omega)) ((g3.ext _).ext _) (by simp);refine⟨f,c',h',?_,⟨rfl,fun Δ=>(Fp (by omega) (i.m9 Δ)).mono (by simp only[Kd.depth];omega),by simp[W.pure,bp,dX,i.pure],?_,⟨by simp[W.pure,bp,i.form.1],?_⟩,x3.trans (((Ext.app _ _ _).trans (Ext.app _ _ _)).trans i.ext),i.gen⟩,eb4⟩
  .have ie:=i.eq;simp only[vB,List.map_append,aR,gD,bd,om,jB,gE] at ie⊢;exact ie
  .have d1:=i.deep;have d2:=eA a;simp only[W.deep,aS,Kd.depth];omega
  .have d1:=i.form.2;simp only[W.deep,aS,Kd.depth];omega
 simp only[reduceCtorEq,vq] at e0 e1;have hd0:∀{w':W}{h':Hp},au (run T (k+2)) (LW.drop 1) ((bc p (Kd.work a c).ae b o3 o4 o5).set 9 (some (.str w))) h1=.ok (.ret w') h'->au (run T (k+2)) eJ (bc p (Kd.work a c).ae b o3 o4 o5) h=.ok (.ret w') h':=fun kk=>
  aU (ct (kd:=.work a c) rfl rY e0) (aU (ct (kd:=.work a c) rfl rY e1) (aU (ch (x:=fY) rfl rfl) (cw (ch (x:=fY) rfl rfl) (aG (w:=.str w) (h':=h1) (by simp[r1]) kk))))
 have tl:∀(x:S)(h3:Hp)(f c':W)(h':Hp),run T (k+2) aZ [.ref p,c.ae,.ref (h3.length+1)] (h3++[O.lst [.tup [.str x,a.ae]],O.lst (Γ.reverse.map bd++[.tup [.str x,a.ae]])])=.ok (.tup [f,c']) h'->(h3++[O.lst [.tup [.str x,a.ae]]])[b]?=some (.lst (Γ.reverse.map bd))->au (run T (k+2)) (LW.drop 2) ((bc p (Kd.work a c).ae b o3 o4 o5).set 9 (some (.str x))) h3=.ok (.ret (.tup [.tup [.str nD,.str x,f],.tup [.str nD,a.ae,c']])) h':=by
  intro x h3 f c' h' ie eb4;have lB:(Γ.reverse.map bd).length=Γ.length:=by simp
  generalize Γ.reverse.map bd=B at *;refine aG (w:=.tup [f,c']) (h':=h') ?_ (aF (by simp[Kd.ae]));simp[Kd.ae,eb4,lB,hl,ie]
 by_cases cΓ:Γ=[]
 .obtain⟨f,c',h',ie,il,eb4⟩:=fin w (h1++[O.lst []]) (x1.trans (Ext.app _ _ _)) g2 eb2;have emp:(Γ.reverse.map bd).isEmpty=true:=by simp[cΓ]
  rw[emp] at ne;refine⟨_,_,h',hd0 (aU (h':=h1++[O.lst []]) ?_ (tl w _ f c' h' ie eb4)),il⟩;simp[ne]
 .obtain⟨v,h3,r3,a3,b3,x3,g3⟩:=iG (k+1) p 2 _ g2 (by decide);have eb3:=x3.keep _ _ eb2 hb;have hpos:0<Γ.reverse.length:=by rw[wJ];exact List.length_pos_iff.mpr cΓ
  obtain⟨y,hy⟩:∃y:S×Kd,cg (Γ.reverse.map bd) 0=some (bd y):=by
   cases z:Γ.reverse with
   |nil=>rw[z] at hpos;simp at hpos
   |cons y R=>exact⟨y,by simp⟩
  have emp:(Γ.reverse.map bd).isEmpty=false:=by simp[cΓ]
  rw[emp] at ne;have F:=fun x=>fin x h3 ((x1.trans (Ext.app _ _ _)).trans x3) g3 eb3;have cA:ag (run T (k+2)) (.and (.cmp .ne (.var 2) (.lst .nil)) (.cmp .eq (.call aW (.cons (.var 0) (.cons (.cst (.int 2)) .nil))) (.cst (.int 0)))) ((bc p (Kd.work a c).ae b o3 o4 o5).set 9 (some (.str w))) h1=.ok (.bl (decide (v=0))) h3:=by simp[ne,r3]
  by_cases cv:v=0
  .rw[jb cv] at cA;obtain⟨f,c',h',ie,il,eb4⟩:=F y.1;refine⟨_,_,h',hd0 (u9 cA (σ':=(bc p (Kd.work a c).ae b o3 o4 o5).set 9 (some (.str y.1))) (h3:=h3) ?_ (tl y.1 h3 f c' h' ie eb4)),il⟩;generalize Γ.reverse.map bd=B at *;simp only[bd] at hy;simp[eb3,hy]
  .rw[bU cv] at cA;obtain⟨f,c',h',ie,il,eb4⟩:=F w;exact⟨_,_,h',hd0 (aU cA (tl w h3 f c' h' ie eb4)),il⟩
end
theorem JJ(C:Or)(σ:Env)(l:σ.length=16){A:Nat}{ps:List (W×W)}{h:Hp}(e:h[A]?=some (.lst (ps.map pr))):cP A (fA (fw C .none) (ag C gp) σ) ps.length 0 [] h=.ok (ps.map (·.1)) h:=by
 have:=nX (a:=A) (k:=fA (fw C .none) (ag C gp) σ) (xs:=ps.map pr) (h:=h) (fun w=>match w with | .tup (x::_)=>x|_=>.ak) (by simp[bD,e]) (fun x hx acc=>by
  obtain⟨z,_,rfl⟩:=jF.mp hx;have t:(σ++[some (pr z)])[16]?=some (some (pr z)):=by rw[qX (by omega),l];rfl
  unfold fA;generalize σ++[some (pr z)]=ρ at *;simp[gp,t]) ps.length 0 [] (by simp)
 rw[this,List.drop_zero,mC];rfl
theorem yM(Δ:Cx){x:S}{a:Kd}:∀{Γ:Cx}{n:Nat},gz x Γ=some (n,a)->gz x (Γ++Δ)=some (n,a)
 |[],n,e=>by simp[gz] at e
 |(y,b)::Γ,n,e=>by
  unfold gz at e;rw[jB];unfold gz;by_cases c:y=x
  .rw[if_pos c] at e⊢;exact e
  .rw[if_neg c] at e⊢;cases g:gz x Γ with
   |none=>rw[g] at e;simp at e
   |some r=>rw[g] at e;rw[yM Δ (Γ:=Γ) (n:=r.1) (a:=r.2) g];exact e
theorem qj{n:Nat}:∀{ps:List (W×W)},(∀z∈ps,z.1.pure=true/\z.1.deep<=n)->bp (ps.map (·.1))=true/\aS (ps.map (·.1))<=n
 |[],_=>⟨rfl,jS _⟩
 |z::r,h=>by
  obtain⟨h1,h2⟩:=h z gF;obtain⟨h3,h4⟩:=qj (ps:=r) fun y hy=>h y (di _ hy);exact⟨by simp[bp,h1,h3],by simp only[aR,aS];exact Nat.max_le.mpr ⟨h2,h4⟩⟩
section
variable {k p b:Nat}{Γ:Cx}
theorem DQ{a:Kd}(hb:b≠p)(hd:(Kd.row a).depth<=50)(h:Hp)(g:Gen p h)(eb:h[b]?=some (.lst (Γ.reverse.map bd)))
  (ih:∀h,Gen p h->h[b]?=some (.lst (Γ.reverse.map bd))->∃f c h',fE p Γ a h (run T (k+2) aZ [.ref p,a.ae,.ref b] h) f c h') (o3 o4 o5:Option W):
  ∃f c h',au (run T (k+2)) eJ (bc p (Kd.row a).ae b o3 o4 o5) h=.ok (.ret (.tup [f,c])) h'/\fE p Γ (.row a) h (.ok (.tup [f,c]) h') f c h':=by
 have e0:=nO h (.row a) hd;have e1:=rW h (.row a) hd;obtain⟨v,h1,r1,a1,b1,x1,g1⟩:=iG (k+1) p 4 h g (by decide);have eb1:=x1.keep _ _ eb hb;have hr:c8 v=true:=by simp[c8];omega
 obtain⟨ps,h2,w2,l2,q2,x2,g2⟩:=t8 hb ih (σ:=bc p (Kd.row a).ae b o3 o4 o5) rfl rfl rfl (upTo 0 v.toNat) [] h1 g1 eb1;rw[lx] at l2;have l4:ps.length<=4:=by omega
 have lz:ps.length<=SZ:=cL l4 (by decide);have A3:=aP [O.lst (ps.map pr).reverse] (cy h2 (O.lst (ps.map pr)));have B4:((h2++[O.lst (ps.map pr)])++[O.lst (ps.map pr).reverse])[h2.length+1]?=some (.lst (ps.map pr).reverse):=by simp
 obtain⟨o,cl⟩:=C8 (run T (k+2)) B4 [some (.ref p),some (Kd.row a).ae,some (.ref b),o3,o4,o5,none,none,none,none,none,some (.ref h2.length),some (.tup [.str sr,a.ae]),none,none,none] rfl (.tup [.str sr,a.ae]) rfl;rw[ur] at cl;have fi:=JJ (run T (k+2)) [some (.ref p),some (Kd.row a).ae,some (.ref b),o3,o4,o5,none,none,none,none,none,some (.ref h2.length),some (dM a.ae (ps.map (·.2))),o,none,none] rfl A3;have g5:=(((g2.ext [O.lst (ps.map pr)]).ext [O.lst (ps.map pr).reverse]).ext [O.lst (ps.map (·.1))]);have x5:Ext p h (((h2++[O.lst (ps.map pr)])++[O.lst (ps.map pr).reverse])++[O.lst (ps.map (·.1))]):=(((x1.trans x2).trans (Ext.app _ _ _)).trans (Ext.app _ _ _)).trans (Ext.app _ _ _);obtain⟨v6,h6,r6,a6,b6,x6,g6⟩:=iG (k+1) p 3 _ g5 (by decide);have eb6:=x6.keep _ _ (aP [O.lst (ps.map (·.1))] (aP [O.lst (ps.map pr).reverse] (aP [O.lst (ps.map pr)] (x2.keep _ _ eb1 hb)))) hb;have go:∀Δ:Cx,Goes [] (Γ++Δ) (4 * a.depth+6) (.tup [.str jv,.tup (ps.map (·.1))]) (.row a) (dM a.ae (ps.map (·.2))):=fun Δ=>zN (by omega) (by simpa using lz) (yH fun z hz=>(q2 z hz).1 Δ);have pu:=uu (dX a) fun z hz=>(q2 z hz).2.1;have dp:=uH (kd:=a.ae) (n:=6 * a.depth+2) (by have:=eA a;omega) fun z hz=>(q2 z hz).2.2.1;obtain⟨fp,fd⟩:=qj fun z hz=>(q2 z hz).2.2.2;simp only[reduceCtorEq,vq] at e0 e1;simp only[Kd.ae,bc,gE] at w2 cl fi;simp only[om,jB,gE] at r6 x5 x6 g5 fi cl A3 B4;have lm:(ps.map pr).length=ps.length:=by simp
 have lf:(ps.map (·.1)).length=ps.length:=by simp
 have hd0:∀{w':W}{h':Hp},au (run T (k+2)) (eJ.drop 8) [some (.ref p),some (Kd.row a).ae,some (.ref b),o3,o4,o5,none,none,none,none,none,some (.ref h2.length),some (dM a.ae (ps.map (·.2))),o,some (.tup [.str jv,.tup (ps.map (·.1))]),none] (h2++[O.lst (ps.map pr),O.lst (ps.map pr).reverse,O.lst (ps.map (·.1))])=.ok (.ret w') h'->au (run T (k+2)) eJ (bc p (Kd.row a).ae b o3 o4 o5) h=.ok (.ret w') h':=by
  intro w' h' kk;generalize ps.map pr=P at *;generalize ps.map (·.1)=F at *;refine aU (ct (kd:=.row a) rfl rY e0) (aU (ct (kd:=.row a) rfl rY e1) (aU (ch (x:=fo) rfl rfl) (aU (ch (x:=fo) rfl rfl) (aG (w:=.ref h2.length) (h':=h2++[O.lst P]) ?_ (aG (w:=.tup [.str sr,a.ae]) (h':=h2++[O.lst P]) ?_ (cF (σ':=[some (.ref p),some (Kd.row a).ae,some (.ref b),o3,o4,o5,none,none,none,none,none,some (.ref h2.length),some (dM a.ae (ps.map (·.2))),o,none,none]) (h':=h2++[O.lst P,O.lst P.reverse]) ?_ (aG (w:=.tup [.str jv,.tup F]) (h':=h2++[O.lst P,O.lst P.reverse,O.lst F]) ?_ kk)))))))
  .simp[Kd.ae,r1,hr,fM,w2,dC,lm,lz]
  .simp[Kd.ae]
  .simp[Kd.ae,fh,lm,cl]
  .simp[Kd.ae,fM,A3,lm,fi,dC,lf,lz]
 have c3:ag (run T (k+2)) (.cmp .eq (.call aW (.cons (.var 0) (.cons (.cst (.int 3)) .nil))) (.cst (.int 0))) [some (.ref p),some (Kd.row a).ae,some (.ref b),o3,o4,o5,none,none,none,none,none,some (.ref h2.length),some (dM a.ae (ps.map (·.2))),o,some (.tup [.str jv,.tup (ps.map (·.1))]),none] (h2++[O.lst (ps.map pr),O.lst (ps.map pr).reverse,O.lst (ps.map (·.1))])=.ok (.bl (decide (v6=0))) h6:=by simp[r6]
 by_cases c6:v6=0
 .rw[jb c6] at c3;obtain⟨f,c,h7,i⟩:=ih h6 g6 eb6;have ie:=i.eq;refine⟨_,_,h7,hd0 (cw c3 (aG (w:=.tup [f,c]) (h':=h7) (by simp[Kd.ae,ie]) (aF (w:=.tup [.tup [.str v8,f,.tup [.str jv,.tup (ps.map (·.1))]],.tup [.str u0,c,dM a.ae (ps.map (·.2))]]) (by simp)))),rfl,fun Δ=>(Ah (n:=4 * a.depth+6) ((i.m9 Δ).mono (by omega)) (go Δ)).mono (by simp only[Kd.depth];omega),by simp[W.pure,bp,i.pure,pu],?_,⟨by simp[W.pure,bp,i.form.1,fp],?_⟩,(x5.trans x6).trans i.ext,i.gen⟩
  .have d1:=i.deep;simp only[W.deep,aS,Kd.depth];omega
  .have d1:=i.form.2;simp only[W.deep,aS,Kd.depth];omega
 .rw[bU c6] at c3;exact⟨_,_,h6,hd0 (aU c3 (aF (w:=.tup [.tup [.str jv,.tup (ps.map (·.1))],dM a.ae (ps.map (·.2))]) (by simp))),rfl,fun Δ=>(go Δ).mono (by simp only[Kd.depth];omega),pu,by simp only[Kd.depth];omega,⟨by simp[W.pure,bp,fp],by simp only[W.deep,aS,Kd.depth];omega⟩,x5.trans x6,g6⟩
theorem GH{n:Nat}(h:n<=SZ):c8 (n:Int)=true:=by
 have:n<=16777216:=cL h (by unfold SZ;exact aA _);simp only[c8,av,aI];constructor
 .have:(0:Int)<=n:=Int.natCast_nonneg n;exact Int.le_trans (by decide) this
 .exact Int.lt_of_le_of_lt (Int.ofNat_le.mpr this) (by decide)
theorem Ln{C:Or}{e:E}{σ:Env}{h h1:Hp}{j:Int}(he:ag C e σ h=.ok (.int j) h1)(hr:c8 j=true):dN C (.hZ e) σ h=.ok (.fix (upTo 0 j.toNat)) h1:=by rw[qK,he];simp[hr]
theorem Hi{C:Or}{kd:W}{h h1:Hp}{B:List W}{Z:R Fl}(r1:C aW [.ref p,.int 3] h=.ok (.int 0) h1)(eb1:h1[b]?=some (.lst B))(hr:c8 (B.length:Int)=true)(hR:bh (.var 3) (au C bO) (upTo 0 B.length) (bc p kd b none none none) h1=Z):
  dq C (.iff (.cmp .eq (.call aW (.cons (.var 0) (.cons (.cst (.int 3)) .nil))) (.cst (.int 0))) [.for (.var 3) (.hZ (.blt .len (.var 2))) bO] []) (bc p kd b none none none) h=Z:=by
 have e1:ag C (.cmp .eq (.call aW (.cons (.var 0) (.cons (.cst (.int 3)) .nil))) (.cst (.int 0))) (bc p kd b none none none) h=.ok (.bl true) h1:=by simp[r1]
 have e2:ag C (.blt .len (.var 2)) (bc p kd b none none none) h1=.ok (.int B.length) h1:=by simp[eb1]
 have ei:=Ln e2 hr;rw[A7] at ei;rw[ig,e1];simp only[R.aw,truth];rw[bg,fh,ei];simp only[R.aw,turns,hR];cases Z with
 |ok fl h'=>cases fl<;>simp only[R.aw,c7]
 |ax=>rfl
 |bad=>rfl
theorem kH{kd:Kd}(hb:b≠p)(hd:kd.depth<=50)(hg:∀b∈Γ,b.2.depth<=50)(hl:Γ.length+1<=SZ)(h:Hp)(g:Gen p h)(eb:h[b]?=some (.lst (Γ.reverse.map bd)))
  (tl:∀(h:Hp)(o3 o4 o5:Option W),Gen p h->h[b]?=some (.lst (Γ.reverse.map bd))->∃f c h',au (run T (k+2)) eJ (bc p kd.ae b o3 o4 o5) h=.ok (.ret (.tup [f,c])) h'/\fE p Γ kd h (.ok (.tup [f,c]) h') f c h'):
  ∃f c h',fE p Γ kd h (run T (k+3) aZ [.ref p,kd.ae,.ref b] h) f c h':=by
 obtain⟨v,h1,r1,a1,b1,x1,g1⟩:=iG (k+1) p 3 h g (by decide);have eb1:=x1.keep _ _ eb hb;have bodyE:dg.body=.iff (.cmp .eq (.call aW (.cons (.var 0) (.cons (.cst (.int 3)) .nil))) (.cst (.int 0))) [.for (.var 3) (.hZ (.blt .len (.var 2))) bO] []::eJ:=rfl;have envE:([W.ref p,kd.ae,.ref b].map some++List.replicate (dg.ns-dg.ps) none)=bc p kd.ae b none none none:=rfl;have psE: [W.ref p,kd.ae,.ref b].length=dg.ps:=rfl;rw[aN xY];unfold bq;rw[if_pos psE,envE,bodyE];by_cases c:v=0
 .subst c;have lB:(Γ.reverse.map bd).length=Γ.length:=by simp
  have lp:=vE (run T (k+2)) p b hd hg (by omega) Γ.length 0 none none none h1 (by omega) eb1;have hr:=GH (n:=Γ.length) (by omega);generalize hB:Γ.reverse.map bd=B at eb1 lB;simp only[Int.ofNat_zero,Int.natCast_zero] at lp;generalize hR:bh (.var 3) (au (run T (k+2)) bO) (upTo 0 Γ.length) (bc p kd.ae b none none none) h1=R at lp;have st:=Hi (C:=run T (k+2)) r1 eb1 (by rw[lB];exact hr) (Z:=R) (by rw[lB];exact hR);rw[bg,st];cases lp with
  | @yes x n h' f gr=>
   refine⟨_,_,h',rfl,fun Δ=>(Dw hd (yM Δ f)).mono (by omega),rfl,by simp[W.deep,aS],⟨rfl,by simp[W.deep,aS]⟩,x1.trans (gr.ext p),gr.gen g1⟩
  | @no o3 o4 o5 h' gr=>
   obtain⟨f,c,h2,e2,i⟩:=tl h' o3 o4 o5 (gr.gen g1) (by rw[hB];exact gr.keep _ _ eb1);refine⟨f,c,h2,?_,i.m9,i.pure,i.deep,i.form,(x1.trans (gr.ext p)).trans i.ext,i.gen⟩;simp[e2]
 .obtain⟨f,c',h2,e2,i⟩:=tl h1 none none none g1 eb1;refine⟨f,c',h2,?_,i.m9,i.pure,i.deep,i.form,x1.trans i.ext,i.gen⟩;have st:dq (run T (k+2)) (.iff (.cmp .eq (.call aW (.cons (.var 0) (.cons (.cst (.int 3)) .nil))) (.cst (.int 0))) [.for (.var 3) (.hZ (.blt .len (.var 2))) bO] []) (bc p kd.ae b none none none) h=.ok (.next (bc p kd.ae b none none none)) h1:=by
   simp[r1,c]
  rw[bg,st];simp[e2]
theorem dep{x m g k:Nat}(h:x<=m)(hd:m+1<=40)(hk:m+1+3<=k+3)(hl:g+(m+1)+1<=SZ):x<=40/\x+3<=k+2/\g+x+1<=SZ/\(g+1)+x+1<=SZ/\g+1<=SZ/\m+1<=50/\x<=50:=by omega
theorem BM(p:Nat):∀(kd:Kd),kd.over []->kd.depth<=40->∀(k b:Nat)(Γ:Cx)(h:Hp),b≠p->(∀b∈Γ,b.2.depth<=50)->Γ.length+kd.depth+1<=SZ->Gen p h->h[b]?=some (.lst (Γ.reverse.map bd))->kd.depth+3<=k->∃f c h',fE p Γ kd h (run T k aZ [.ref p,kd.ae,.ref b] h) f c h':=by
 intro kd
 induction kd with
 |num=>
  intro _ _ k b Γ h hb hg hl g eb hk;obtain⟨k,rfl⟩:∃j,k=j+3:=⟨k-3,by omega⟩;exact kH hb (by decide) hg (by omega) h g eb fun h o3 o4 o5 g _=>Ec h g o3 o4 o5
 |tru=>
  intro _ _ k b Γ h hb hg hl g eb hk;obtain⟨k,rfl⟩:∃j,k=j+3:=⟨k-3,by omega⟩;exact kH hb (by decide) hg (by omega) h g eb fun h o3 o4 o5 g _=>Fh h g o3 o4 o5
 |any x=>intro ho;simp[Kd.over] at ho
 |gap n=>intro ho;simp[Kd.over] at ho
 |row a ih=>
  intro ho hd k b Γ h hb hg hl g eb hk;simp only[Kd.over] at ho;simp only[Kd.depth] at hd hk hl;obtain⟨k,rfl⟩:∃j,k=j+3:=⟨k-3,by omega⟩;obtain⟨q1,q2,q3,_,q5,q6,_⟩:=dep (aA _) hd hk hl;exact kH (kd:=.row a) hb q6 hg q5 h g eb fun h o3 o4 o5 g eb=>DQ hb q6 h g eb (fun h g eb=>ih ho q1 (k+2) b Γ h hb hg q3 g eb q2) o3 o4 o5
 |pair a c iha ihc=>
  intro ho hd k b Γ h hb hg hl g eb hk;simp only[Kd.over] at ho;simp only[Kd.depth] at hd hk hl;obtain⟨k,rfl⟩:∃j,k=j+3:=⟨k-3,by omega⟩;obtain⟨q1,q2,q3,_,q5,q6,_⟩:=dep (mM a.depth c.depth) hd hk hl;obtain⟨z1,z2,z3,_,_,_,_⟩:=dep (mI a.depth c.depth) hd hk hl;exact kH (kd:=.pair a c) hb q6 hg q5 h g eb fun h o3 o4 o5 g eb=>Dm hb q6 h g eb (fun h g eb=>iha ho.1 q1 (k+2) b Γ h hb hg q3 g eb q2) (fun h g eb=>ihc ho.2 z1 (k+2) b Γ h hb hg z3 g eb z2) o3 o4 o5
 |work a c iha ihc=>
  intro ho hd k b Γ h hb hg hl g eb hk;simp only[Kd.over] at ho;simp only[Kd.depth] at hd hk hl;obtain⟨k,rfl⟩:∃j,k=j+3:=⟨k-3,by omega⟩;obtain⟨_,_,_,_,q5,q6,q7⟩:=dep (mM a.depth c.depth) hd hk hl;obtain⟨z1,z2,_,z4,_,_,_⟩:=dep (mI a.depth c.depth) hd hk hl;exact kH (kd:=.work a c) hb q6 hg q5 h g eb fun h o3 o4 o5 g eb=>Dc hb q6 hg q5 h g eb (fun x b' h hb' g eb=>ihc ho.2 z1 (k+2) b' ((x,a)::Γ) h hb' (fun z hz=>by
   rcases cX.mp hz with rfl|hz
   .exact q7
   .exact hg z hz) z4 g eb z2) o3 o4 o5
end
end K10
namespace Tw
section
variable {C:Or}{σ:Env}{h h':Hp}{s:St}{r b:List St}{c:E}{i a:Nat}{l:List St}
theorem yW(e:ag C c σ h=.ax a h'):au C (.ret c::r) σ h=.ax a h':=by rw[bg,pT,e];rfl
theorem H8{h1:Hp}(e:ag C c σ h=.ok (.bl true) h1)(k:au C l σ h1=.ax a h'):au C (.iff c l b::r) σ h=.ax a h':=by rw[bg,ig,e];show (au C l σ h1).bind _=_;rw[k];rfl
theorem DW{x:S}{xs:List S}{es:Es}{ws:List W}(e:bS C es σ h=.ok ws h')(l:ws.length=xs.length):au C (.raise x xs es::r) σ h=.ax h'.length (h'++[.ax x (xs.zip ws)]):=by rw[bg,BL,e];simp[iT,l]
theorem Fx{j:Nat}(e:ag C c σ h=.ax a h'):au C (.iF i j c::r) σ h=.ax a h':=by rw[bg,qG,e];rfl
theorem r8{f:Fn}{xs:List W}(σ:Env)(l:xs.length=f.ps)(eσ:xs.map some++List.replicate (f.ns-f.ps) none=σ)(e:au C f.body σ h=.ax a h'):bq C f xs h=.ax a h':=by unfold bq;rw[if_pos l,eσ,e];rfl
end
theorem Kd.sT(k:Kd):∃x r,k.ae=.tup (.str x::r):=by cases k<;>exact⟨_,_,rfl⟩
end Tw
namespace K10
open Tw
noncomputable def aC:Kd->List Kd
 |.work a b=>[.work a b]
 |.row a=>aC a
 |.pair a b=>aC a++aC b
 |_=>[]
noncomputable def oh:List Kd->W
 |[]=>.ak
 |w::_=>w.ae
theorem Ci(k:Nat)(kd:Kd)(h:Hp):run T (k+1) lU [kd.ae] h=.ok (.tup ((bC kd).map Kd.ae)) h:=by rw[aN Hv];exact j7 (run T k) kd h
theorem wX(C:Or){nd:Nat}{h:Hp}(kw:W):∀(ks:List Kd),(∀x∈ks,C eY [x.ae,.ref nd] h=.ok (oh (aC x)) h)->∀o2 o3:Option W,
  (∃w r,ks.flatMap aC=w::r/\bh (.var 2) (au C e9) (ks.map Kd.ae) [some kw,some (.ref nd),o2,o3] h=.ok (.ret w.ae) h)\/
  (ks.flatMap aC=[]/\∃o2' o3',bh (.var 2) (au C e9) (ks.map Kd.ae) [some kw,some (.ref nd),o2,o3] h=.ok (.next [some kw,some (.ref nd),o2',o3']) h)
 |[],_,o2,o3=>.inr ⟨rfl,o2,o3,rfl⟩
 |x::ks,e,o2,o3=>by
  have e1:=e x gF;cases ew:aC x with
  |nil=>
   rw[ew] at e1;have bdy:au C e9 [some kw,some (.ref nd),some x.ae,o3] h=.ok (.next [some kw,some (.ref nd),some x.ae,some .ak]) h:=aG (w:=.ak) (h':=h) (by simp[e1,oh]) (aU (h':=h) (by simp) (c7 _ _ _));rcases wX C kw ks (fun z hz=>e z (di _ hz)) (some x.ae) (some .ak) with ⟨w,r,e2,t⟩|⟨e2,a,b,t⟩
   .refine .inl ⟨w,r,by simp[ew,e2],?_⟩;simp only[aR,bh,turn,iZ,lE,lL,bdy,R.aw,t]
   .refine .inr ⟨by rw[List.flatMap_cons,ew,e2];rfl,a,b,?_⟩;simp only[aR,bh,turn,iZ,lE,lL,bdy,R.aw,t]
  |cons w r=>
   rw[ew] at e1;obtain⟨x0,r0,ex⟩:=w.sT;have bdy:au C e9 [some kw,some (.ref nd),some x.ae,o3] h=.ok (.ret w.ae) h:=aG (w:=w.ae) (h':=h) (by simp[e1,oh]) (cw (h':=h) (by simp[ex]) (aF (by simp)));refine .inl ⟨w,r++ks.flatMap aC,by simp[ew],?_⟩;simp only[aR,bh,turn,iZ,lE,lL,bdy,R.aw]
theorem pE(k:Nat)(kd:Kd){nd:Nat}{h:Hp}(ew:(bC kd).flatMap aC=aC kd)(o:∀w∈bC kd,run T (k+1) eY [w.ae,.ref nd] h=.ok (oh (aC w)) h)(c1:ag (run T (k+1)) (.cmp .eq (.idx (.var 0) (.cst (.int 0))) (.cst (.str fY))) [some kd.ae,some (.ref nd),none,none] h=.ok (.bl false) h)
  (c2:ag (run T (k+1)) (.and (.cmp .eq (.idx (.var 0) (.cst (.int 0))) (.cst (.str oX))) (.cmp .notin (.idx (.var 0) (.cst (.int 1))) (.var 1))) [some kd.ae,some (.ref nd),none,none] h=.ok (.bl false) h):run T (k+2) eY [kd.ae,.ref nd] h=.ok (oh (aC kd)) h:=by
 have p:=Ci k kd h;rw[aN rH];rcases wX (run T (k+1)) kd.ae _ o none none with ⟨w,r,e,t⟩|⟨e,a,b,t⟩
 .rw[<-ew,e];refine bJ [some kd.ae,some (.ref nd),none,none] rfl rfl (aU c1 (aU c2 (JV (h':=h) ?_)));rw[fh];simp only[qI,nv,dR,fW,iV,xb,qS,R.aw,p,src,R.jZ,turns,t,oh]
 .rw[<-ew,e];refine bJ [some kd.ae,some (.ref nd),none,none] rfl rfl (aU c1 (aU c2 (cF (σ':=[some kd.ae,some (.ref nd),a,b]) (h':=h) ?_ (aF (by simp[oh])))));rw[fh];simp only[qI,nv,dR,fW,iV,xb,qS,R.aw,p,src,R.jZ,turns,t]
theorem yu{nd:Nat}{h:Hp}:∀(kd:Kd),kd.over []->∀k,kd.depth+2<=k->run T k eY [kd.ae,.ref nd] h=.ok (oh (aC kd)) h:=by
 intro kd
 induction kd with
 |any x=>intro o;exact absurd o (by simp[Kd.over])
 |gap n=>intro o;exact o.elim
 |num=>
  intro _ k hk;obtain⟨k,rfl⟩:∃j,k=j+2:=⟨k-2,by omega⟩;exact pE k .num rfl (by simp[bC]) (by simp[Kd.ae]) (by simp[Kd.ae])
 |tru=>
  intro _ k hk;obtain⟨k,rfl⟩:∃j,k=j+2:=⟨k-2,by omega⟩;exact pE k .tru rfl (by simp[bC]) (by simp[Kd.ae]) (by simp[Kd.ae])
 |row a ih=>
  intro o k hk;simp only[Kd.depth] at hk;obtain⟨k,rfl⟩:∃j,k=j+2:=⟨k-2,by omega⟩;have i1:=ih o (k+1) (by omega);exact pE k (.row a) (by simp[bC,aC]) (by simp[bC,i1]) (by simp[Kd.ae]) (by simp[Kd.ae])
 |pair a b iha ihb=>
  intro o k hk;simp only[Kd.depth] at hk;have l1:=mM a.depth b.depth;have l2:=mI a.depth b.depth;obtain⟨k,rfl⟩:∃j,k=j+2:=⟨k-2,by omega⟩;have i1:=iha o.1 (k+1) (by omega);have i2:=ihb o.2 (k+1) (by omega);exact pE k (.pair a b) (by simp[bC,aC]) (by simp[bC,i1,i2]) (by simp[Kd.ae]) (by simp[Kd.ae])
 |work a b _ _=>
  intro _ k hk;obtain⟨k,rfl⟩:∃j,k=j+1:=⟨k-1,by omega⟩;rw[aN rH];exact bJ [some (Kd.work a b).ae,some (.ref nd),none,none] rfl rfl (cw (h':=h) (by simp[Kd.ae]) (aF (by simp[aC,oh])))
abbrev pA:S:=[108,105,107,101]
abbrev BR:S:=[108,105,107,101,112,97,105,114]
abbrev DH:S:=[108,105,107,101,114,111,119]
noncomputable def bP:Kd->W
 |.row a=>.tup [.str DH,bP a]
 |.pair a b=>.tup [.str BR,bP a,bP b]
 |k=>.tup [.str pA,k.ae]
theorem va(C:Or)(h:Hp)(x:S)(r:List W)(g:Option W)(b:Bool)(e:decide (x∈ [bZ,fe])=b):ag C (.cmp .isin (.idx (.var 0) (.cst (.int 0))) (.tup (.cons (.cst (.str [110,117,109,98,101,114])) (.cons (.cst (.str [116,114,117,116,104])) .nil)))) [some (.tup (.str x::r)),g] h=.ok (.bl b) h:=by have i:=qO x [bZ,fe] h;rw[e] at i;simp only[aR,gD] at i;simp[i]
theorem Iz{g:Nat}{h:Hp}:∀(kd:Kd),kd.over []->aC kd=[]->∀k,kd.depth+1<=k->run T k gm [kd.ae,.ref g] h=.ok (bP kd) h:=by
 intro kd
 induction kd with
 |any x=>intro o;exact absurd o (by simp[Kd.over])
 |gap n=>intro o;exact o.elim
 |num=>
  intro _ _ k hk;obtain⟨k,rfl⟩:∃j,k=j+1:=⟨k-1,by omega⟩;rw[aN jT];exact bJ [some Kd.num.ae,some (.ref g)] rfl rfl (cw (va _ _ bZ _ _ true rfl) (aF (by simp[bP])))
 |tru=>
  intro _ _ k hk;obtain⟨k,rfl⟩:∃j,k=j+1:=⟨k-1,by omega⟩;rw[aN jT];exact bJ [some Kd.tru.ae,some (.ref g)] rfl rfl (cw (va _ _ fe _ _ true rfl) (aF (by simp[bP])))
 |row a ih=>
  intro o w k hk;simp only[Kd.depth] at hk;obtain⟨k,rfl⟩:∃j,k=j+1:=⟨k-1,by omega⟩;have i1:=ih o w k (by omega);rw[aN jT];exact bJ [some (Kd.row a).ae,some (.ref g)] rfl rfl (aU (va _ _ fo _ _ false rfl) (cw (h':=h) (by simp[Kd.ae]) (aF (by simp[Kd.ae,i1,bP]))))
 |pair a b iha ihb=>
  intro o w k hk;simp only[Kd.depth] at hk;have l1:=mM a.depth b.depth;have l2:=mI a.depth b.depth;obtain⟨k,rfl⟩:∃j,k=j+1:=⟨k-1,by omega⟩;have w:=List.append_eq_nil_iff.mp w;have i1:=iha o.1 w.1 k (by omega);have i2:=ihb o.2 w.2 k (by omega);rw[aN jT];exact bJ [some (Kd.pair a b).ae,some (.ref g)] rfl rfl (aU (va _ _ dS _ _ false rfl) (aU (h':=h) (by simp[Kd.ae]) (cw (h':=h) (by simp[Kd.ae]) (aF (by simp[Kd.ae,i1,i2,bP])))))
 |work a b _ _=>intro _ w;cases w
abbrev rG:S:=[112,108,97,99,101]
abbrev vt:S:=[107,105,110,100]
abbrev pL:S:=[78,111,82,117,108,101]
section
variable {h:Hp}{q fr nd:Nat}{sh:W}{fs:List S}{Γ:Cx}
theorem Le{a:Nat}{t:Tg}{k:Env->Hp->R Fl}{σ:Env}{h:Hp}:dQ a t k 0 σ h=.ok (.next σ) h:=by rw[dQ]
theorem Ic(k:Nat)(s:eK h q sh fr nd fs Γ):run T (k+1) dy [.ref q] h=.ok (.ref h.length) (h++[.aK []]):=by have s1:=s.grow (aD.app h [O.aK []]);have so1:=s1.o;have n1:=s1.n;rw[aN ki];refine bJ [some (.ref q),none,none,none] rfl rfl (aG (w:=.ref h.length) (h':=h++[.aK []]) (by simp) (aG (w:=.int (Γ.map bd).length) (h':=h++[.aK []]) (by simp[so1,List.lookup]) (cF (σ':=[some (.ref q),some (.ref h.length),some (.int (Γ.map bd).length),none]) (h':=h++[.aK []]) ?_ (aF (by simp)))));rw[fh];simp[so1,List.lookup,n1,Le]
theorem Hr(k:Nat)(kd:Kd)(o:kd.over [])(w:aC kd=[])(hk:kd.depth+2<=k)(s:eK h q sh fr nd fs Γ)(pl:W):run T (k+1) dG [.ref q,kd.ae,pl] h=.ok (bP kd) (h++[.aK []]):=by have so:=s.o;have u:=yu (nd:=nd) (h:=h) kd o k hk;rw[w] at u;obtain⟨k,rfl⟩:∃j,k=j+1:=⟨k-1,by omega⟩;have g:=Ic k s;have l:=Iz (g:=h.length) (h:=h++[.aK []]) kd o w (k+1) (by omega);rw[aN iP];exact bJ [some (.ref q),some kd.ae,some pl,none] rfl rfl (aG (w:=.ak) (h':=h) (by simp[so,List.lookup,u,oh]) (aU (h':=h) (by simp) (aF (by simp[so,List.lookup,g,l]))))
theorem HG(k:Nat)(kd wk:Kd)(ws:List Kd)(o:kd.over [])(w:aC kd=wk::ws)(hk:kd.depth+2<=k)(s:eK h q sh fr nd fs Γ)(pl:W):run T (k+1) dG [.ref q,kd.ae,pl] h=.ax h.length (h++[.ax pL [(rG,pl),(vt,wk.ae)]]):=by have so:=s.o;have u:=yu (nd:=nd) (h:=h) kd o k hk;rw[w] at u;obtain⟨x0,r0,ek⟩:=wk.sT;rw[aN iP];exact r8 [some (.ref q),some kd.ae,some pl,none] rfl rfl (aG (w:=wk.ae) (h':=h) (by simp[so,List.lookup,u,oh]) (H8 (h1:=h) (by simp[ek]) (DW (ws:=[pl,wk.ae]) (h':=h) (by simp) rfl)))
theorem AU{n:Nat}{f1 c1 f2 c2:W}{kd:Kd}(o:kd.over [])(w:aC kd=[])(hn:kd.depth+3<=n)(g1:Comes fs Γ n f1 kd c1)(g2:Goes fs Γ n f2 kd c2):Comes fs Γ (n+2) (.tup [.str pA,f1,f2]) .tru (.tup [.str gO,.tup [.str gO,bP kd,c1],c2]):=by
 intro k hk pl q sh fr nd h hp hg s;obtain⟨j,rfl⟩:∃j,k=j+2:=⟨k-2,by omega⟩;obtain⟨h1,e1,y1⟩:=g1 j (by omega) (pl++[.int 0]) q sh fr nd h (by simp;omega) (by omega) s;obtain⟨h2,e2,y2⟩:=g2 j (by omega) (pl++[.int 1]) q sh fr nd h1 (by simp;omega) (by omega) (s.grow y1);have s2:=(s.grow y1).grow y2;have so:=s2.o;have hp':pl.length+1<=SZ:=by omega
 obtain⟨i,rfl⟩:∃i,j=i+1:=⟨j-1,by omega⟩;have lk:=Hr i kd o w (by omega) s2 (.tup pl);refine⟨h2++[.aK []],?_,(y1.trans y2).trans (aD.app h2 _)⟩;rw[up_eq (i+2) (g:=jz) rfl,aN tU];exact bJ [some (.tup [.str pA,f1,f2]),some (.tup pl),some (.ref q),none,none,none] rfl rfl (i0 (u:=c1) (v:=kd.ae) (h':=h1) (by simp[e1,hp']) (aG (w:=c2) (h':=h2) (by simp[e2,hp']) (aF (by simp[so,List.lookup,lk,Kd.ae]))))
def Cy(fs:List S)(Γ:Cx)(n:Nat)(f:W)(way:List W)(kd:Kd):Prop:=
 ∀k,n<=k->∀(pl:List W)(q:Nat)(sh:W)(fr nd:Nat)(h:Hp),pl.length+n<=SZ->Γ.length+n<=SZ->eK h q sh fr nd fs Γ->
  ∃a h',run T k c9 [f,.tup pl,.ref q] h=.ax a h'/\aD h h'/\h'[a]?=some (.ax pL [(rG,.tup (pl++way)),(vt,kd.ae)])
theorem D1{n:Nat}{f1 c1 f2 c2:W}{kd wk:Kd}{ws:List Kd}(o:kd.over [])(w:aC kd=wk::ws)(hn:kd.depth+3<=n)(g1:Comes fs Γ n f1 kd c1)(g2:Goes fs Γ n f2 kd c2):Cy fs Γ (n+2) (.tup [.str pA,f1,f2]) [] wk:=by
 intro k hk pl q sh fr nd h hp hg s;obtain⟨j,rfl⟩:∃j,k=j+2:=⟨k-2,by omega⟩;obtain⟨h1,e1,y1⟩:=g1 j (by omega) (pl++[.int 0]) q sh fr nd h (by simp;omega) (by omega) s;obtain⟨h2,e2,y2⟩:=g2 j (by omega) (pl++[.int 1]) q sh fr nd h1 (by simp;omega) (by omega) (s.grow y1);have s2:=(s.grow y1).grow y2;have so:=s2.o;have hp':pl.length+1<=SZ:=by omega
 obtain⟨i,rfl⟩:∃i,j=i+1:=⟨j-1,by omega⟩;have lk:=HG i kd wk ws o w (by omega) s2 (.tup pl);refine⟨h2.length,h2++[.ax pL [(rG,.tup pl),(vt,wk.ae)]],?_,(y1.trans y2).trans (aD.app h2 _),by rw[hJ];exact cy _ _⟩;rw[up_eq (i+2) (g:=jz) rfl,aN tU];exact r8 [some (.tup [.str pA,f1,f2]),some (.tup pl),some (.ref q),none,none,none] rfl rfl (i0 (u:=c1) (v:=kd.ae) (h':=h1) (by simp[e1,hp']) (aG (w:=c2) (h':=h2) (by simp[e2,hp']) (yW (by simp[so,List.lookup,lk]))))
theorem ED{n:Nat}{f1 c1 f2:W}{a kd:Kd}{way:List W}(g1:Comes fs Γ n f1 a c1)(g2:Cy fs Γ n f2 way kd):Cy fs Γ (n+2) (.tup [.str gk,f1,f2]) (.int 1::way) kd:=by
 intro k hk pl q sh fr nd h hp hg s;obtain⟨j,rfl⟩:∃j,k=j+2:=⟨k-2,by omega⟩;obtain⟨h1,e1,y1⟩:=g1 j (by omega) (pl++[.int 0]) q sh fr nd h (by simp;omega) (by omega) s;obtain⟨x,h2,e2,y2,z2⟩:=g2 j (by omega) (pl++[.int 1]) q sh fr nd h1 (by simp;omega) (by omega) (s.grow y1);have hp':pl.length+1<=SZ:=by omega
 refine⟨x,h2,?_,y1.trans y2,by simpa using z2⟩;rw[up_eq (j+1) (g:=jw) rfl,aN uF];exact r8 [some (.tup [.str gk,f1,f2]),some (.tup pl),some (.ref q),none,none,none,none] rfl rfl (i0 (u:=c1) (v:=a.ae) (h':=h1) (by simp[e1,hp']) (Fx (by simp[e2,hp'])))
end
theorem Jv{n:Nat}{f:W}{way:List W}{a:Kd}(g:Cy [] [] n f way a)(k:Nat)(hn:n+1<=k)(h3:3<=k)(hk:n<=SZ){h:Hp}{q d m:Nat}(s:fK h q d m):∃x h',run T k ff [.ref q,f] h=.ax x h'/\aD h h'/\h'[x]?=some (.ax pL [(rG,.tup way),(vt,a.ae)]):=by obtain⟨j,rfl⟩:∃j,k=j+3:=⟨k-3,by omega⟩;have o:=yI j h q;obtain⟨x,h1,e1,y1,z1⟩:=g (j+2) (by omega) [] (h.length+2) (.ref q) h.length (h.length+1) (h++[.lst [],.lst [],.ins jt [(ju,.ref q),(kP,.ref h.length),(kJ,.ref (h.length+1)),(kr,.tup [])]]) (by simpa using hk) (by simpa using hk) ⟨by simp,by simp,by simp⟩;refine⟨x,h1,?_,(aD.app _ _).trans y1,z1⟩;unfold fK at s;rw[aN nJ];exact r8 [some (.ref q),some f] rfl rfl (yW (by simp[s,List.lookup,o,e1]))
theorem jo:∀kd:Kd,(aC kd).length<=2 ^ kd.depth
 |.num=>by simp[aC]
 |.tru=>by simp[aC]
 |.any _=>by simp[aC]
 |.gap _=>by simp[aC]
 |.work a b=>by simp[aC];exact Nat.one_le_two_pow
 |.row a=>by
  have:=jo a;simp only[aC,Kd.depth,oo];omega
 |.pair a b=>by
  have h1:=jo a;have h2:=jo b;have l1:=jA (n:=2) (by decide) (mM a.depth b.depth);have l2:=jA (n:=2) (by decide) (mI a.depth b.depth);simp only[aC,Kd.depth,iU,oo];omega
theorem yx(C:Or)(kw:W):∀(ks:List Kd),(∀x∈ks,∀h,∃r h',C dh [x.ae] h=.ok (.ref r) h'/\h'[r]?=some (.lst ((aC x).map Kd.ae))/\aD h h')->∀(acc:List Kd)(a:Nat)(o:Option W)(h:Hp),h[a]?=some (.lst (acc.map Kd.ae))->(acc++ks.flatMap aC).length<=SZ->
  ∃a' o' h',bh (.var 2) (au C kO) (ks.map Kd.ae) [some kw,some (.ref a),o] h=.ok (.next [some kw,some (.ref a'),o']) h'/\h'[a']?=some (.lst ((acc++ks.flatMap aC).map Kd.ae))/\aD h h'
 |[],_,acc,a,o,h,e,_=>⟨a,o,h,rfl,by simpa using e,aD.refl h⟩
 |x::ks,ih,acc,a,o,h,e,l=>by
  obtain⟨r,h1,e1,z1,y1⟩:=ih x gF h;have ea:=y1.keep _ _ e;rw[List.flatMap_cons] at l;have l1:acc.length+(aC x).length<=SZ:=by simp only[iU] at l;omega
  have bdy:au C kO [some kw,some (.ref a),some x.ae] h=.ok (.next [some kw,some (.ref h1.length),some x.ae]) (h1++[.lst ((acc++aC x).map Kd.ae)]):=
   aG (w:=.ref h1.length) (h':=h1++[.lst ((acc++aC x).map Kd.ae)]) (by simp[e1,ea,z1,l1]) (c7 _ _ _)
  obtain⟨a',o',h',t,z,y⟩:=yx C kw ks (fun z hz=>ih z (di _ hz)) (acc++aC x) h1.length (some x.ae) (h1++[.lst ((acc++aC x).map Kd.ae)]) (cy _ _) (by simpa using l);refine⟨a',o',h',?_,by simpa using z,(y1.trans (aD.app _ _)).trans y⟩;simp only[aR,bh,turn,iZ,lE,lL,bdy,R.aw,t]
theorem rE(k:Nat)(kd:Kd)(h:Hp)(ek:∃x,kd.ae=.tup (.str x::(bC kd).map Kd.ae)/\x≠fY)(ew:(bC kd).flatMap aC=aC kd)(hl:(aC kd).length<=SZ)(o:∀x∈bC kd,∀h,∃r h',run T k dh [x.ae] h=.ok (.ref r) h'/\h'[r]?=some (.lst ((aC x).map Kd.ae))/\aD h h'):
  ∃r h',run T (k+1) dh [kd.ae] h=.ok (.ref r) h'/\h'[r]?=some (.lst ((aC kd).map Kd.ae))/\aD h h':=by
 obtain⟨x,ex,nx⟩:=ek;obtain⟨a',o',h',t,z,y⟩:=yx (run T k) kd.ae (bC kd) o [] h.length none (h++[.lst []]) (by simp) (by simpa [ew] using hl);rw[gE,ew] at z;refine⟨a',h',?_,z,(aD.app _ _).trans y⟩;rw[aN uI];refine bJ [some kd.ae,none,none] rfl rfl (aU (h':=h) (by simp[ex,nx]) (aG (w:=.ref h.length) (h':=h++[.lst []]) (by simp) (cF (σ':=[some kd.ae,some (.ref a'),o']) (h':=h') ?_ (aF (by simp)))));rw[vU];have sl:ag (run T k) (.sl (.var 0) (.some (.cst (.int 1))) .none) [some kd.ae,some (.ref h.length),none] (h++[.lst []])=.ok (.tup ((bC kd).map Kd.ae)) (h++[.lst []]):=by
  have:¬ (min 1 ((bC kd).length+1)=0):=by omega
  simp[ex,cut,aV];exact Fo (by simp)
 simp only[lE,lL,sl,R.aw,t]
theorem kU:∀(kd:Kd),kd.over []->kd.depth<=20->∀k,kd.depth+1<=k->∀h,∃r h',run T k dh [kd.ae] h=.ok (.ref r) h'/\h'[r]?=some (.lst ((aC kd).map Kd.ae))/\aD h h':=by
 intro kd;have sz:∀n,n<=20->2 ^ n<=SZ:=fun n hn=>cL (jA (by decide) hn) (by decide)
 induction kd with
 |any x=>intro o;exact absurd o (by simp[Kd.over])
 |gap n=>intro o;exact o.elim
 |num=>
  intro _ _ k hk h;obtain⟨k,rfl⟩:∃j,k=j+1:=⟨k-1,by omega⟩;exact rE k .num h ⟨bZ,rfl,by decide⟩ rfl (by simp[aC]) (by simp[bC])
 |tru=>
  intro _ _ k hk h;obtain⟨k,rfl⟩:∃j,k=j+1:=⟨k-1,by omega⟩;exact rE k .tru h ⟨fe,rfl,by decide⟩ rfl (by simp[aC]) (by simp[bC])
 |row a ih=>
  intro o d k hk h;have wl:=jo (.row a);have:=sz _ d;simp only[Kd.depth] at hk d;obtain⟨k,rfl⟩:∃j,k=j+1:=⟨k-1,by omega⟩;have i1:=ih o (by omega) k (by omega);exact rE k (.row a) h ⟨fo,rfl,by decide⟩ (by simp[bC,aC]) (by omega) (by simpa [bC] using i1)
 |pair a b iha ihb=>
  intro o d k hk h;have wl:=jo (.pair a b);have:=sz _ d;simp only[Kd.depth] at hk d;have l1:=mM a.depth b.depth;have l2:=mI a.depth b.depth;obtain⟨k,rfl⟩:∃j,k=j+1:=⟨k-1,by omega⟩;have i1:=iha o.1 (by omega) k (by omega);have i2:=ihb o.2 (by omega) k (by omega);exact rE k (.pair a b) h ⟨dS,rfl,by decide⟩ (by simp[bC,aC]) (by omega) (by simpa [bC] using ⟨i1,i2⟩)
 |work a b _ _=>
  intro _ _ k hk h;obtain⟨k,rfl⟩:∃j,k=j+1:=⟨k-1,by omega⟩;refine⟨h.length,h++[.lst [(Kd.work a b).ae]],?_,by simp[aC],aD.app _ _⟩;rw[aN uI];exact bJ [some (Kd.work a b).ae,none,none] rfl rfl (cw (h':=h) (by simp[Kd.ae]) (aF (by simp)))
theorem vk(C:Or)(h:Hp)(x:S)(r:List W)(b:Bool)(e:decide (x∈ [fo,dS])=b):ag C (.cmp .isin (.idx (.var 0) (.cst (.int 0))) (.tup (.cons (.cst (.str [114,111,119])) (.cons (.cst (.str [112,97,105,114])) .nil)))) [some (.tup (.str x::r))] h=.ok (.bl b) h:=by have i:=qO x [fo,dS] h;rw[e] at i;simp only[aR,gD] at i;simp[i]
theorem LD:∀(kd:Kd),kd.over []->aC kd=[]->∀k,kd.depth+1<=k->∀h,∃h',run T k iw [kd.ae] h=.ok (bP kd) h'/\aD h h':=by
 intro kd;have s4:4<=SZ:=by decide
 have s8:8<=SZ:=by decide
 have s2:2<=SZ:=by decide
 have s3:3<=SZ:=by decide
 have s7:7<=SZ:=by decide
 have s1:1<=SZ:=by decide
 induction kd with
 |any x=>intro o;exact absurd o (by simp[Kd.over])
 |gap n=>intro o;exact o.elim
 |num=>
  intro _ _ k hk h;obtain⟨k,rfl⟩:∃j,k=j+1:=⟨k-1,by omega⟩;refine⟨h,?_,aD.refl h⟩;rw[aN iH];exact bJ [some Kd.num.ae] rfl rfl (aU (vk _ _ bZ _ false rfl) (aF (by simp[bP])))
 |tru=>
  intro _ _ k hk h;obtain⟨k,rfl⟩:∃j,k=j+1:=⟨k-1,by omega⟩;refine⟨h,?_,aD.refl h⟩;rw[aN iH];exact bJ [some Kd.tru.ae] rfl rfl (aU (vk _ _ fe _ false rfl) (aF (by simp[bP])))
 |row a ih=>
  intro o w k hk h;simp only[Kd.depth] at hk;obtain⟨k,rfl⟩:∃j,k=j+1:=⟨k-1,by omega⟩;obtain⟨h1,e1,y1⟩:=ih o w k (by omega) h;refine⟨h1++[.lst [bP a]],?_,y1.trans (aD.app _ _)⟩;have q1:aV 2 0 (some 1)=1:=rfl;have ct:cut [W.str fo,a.ae] (some 1) none=[a.ae]:=rfl;rw[aN iH];exact bJ [some (Kd.row a).ae] rfl rfl (cw (vk _ _ fo _ true rfl) (aF (by simp[Kd.ae,q1,ct,iJ,fM,fA,mh,e1,bP,dC,s1,s2,s7])))
 |pair a b iha ihb=>
  intro o w k hk h;simp only[Kd.depth] at hk;have l1:=mM a.depth b.depth;have l2:=mI a.depth b.depth;obtain⟨k,rfl⟩:∃j,k=j+1:=⟨k-1,by omega⟩;have w:=List.append_eq_nil_iff.mp w;obtain⟨h1,e1,y1⟩:=iha o.1 w.1 k (by omega) h;obtain⟨h2,e2,y2⟩:=ihb o.2 w.2 k (by omega) h1;refine⟨h2++[.lst [bP a,bP b]],?_,(y1.trans y2).trans (aD.app _ _)⟩;have q1:aV 3 0 (some 1)=1:=rfl;have ct:cut [W.str dS,a.ae,b.ae] (some 1) none=[a.ae,b.ae]:=rfl;rw[aN iH];exact bJ [some (Kd.pair a b).ae] rfl rfl (cw (vk _ _ dS _ true rfl) (aF (by simp[Kd.ae,q1,ct,iJ,fM,fA,mh,e1,e2,bP,dC,s2,s3,s8])))
 |work a b _ _=>intro _ w;cases w
theorem G1:∀(kd:Kd)(l:List S),kd.over []->kd.put l=l:=by
 intro kd
 induction kd with
 |any x=>intro l o;exact absurd o (by simp[Kd.over])
 |gap n=>intro l o;exact o.elim
 |num=>intro l _;rfl
 |tru=>intro l _;rfl
 |row a ih=>intro l o;exact ih l o
 |pair a b iha ihb=>intro l o;show b.put (a.put l)=l;rw[iha l o.1,ihb l o.2]
 |work a b iha ihb=>intro l o;show b.put (a.put l)=l;rw[iha l o.1,ihb l o.2]
theorem fK.grow{h h':Hp}{q d m:Nat}(s:fK h q d m)(y:aD h h'):fK h' q d m:=y.keep _ _ s
theorem fK.ext{h h':Hp}{p q d m:Nat}(s:fK h q d m)(x:Ext p h h')(n:q≠p):fK h' q d m:=x.keep _ _ s n
theorem jQ:∀kd:Kd,∀w∈aC kd,w.depth<=kd.depth
 |.num=>by simp[aC]
 |.tru=>by simp[aC]
 |.any _=>by simp[aC]
 |.gap _=>by simp[aC]
 |.work a b=>by simp[aC]
 |.row a=>fun w hw=>Nat.le_succ_of_le (jQ a w hw)
 |.pair a b=>fun w hw=>by
  have l1:=mM a.depth b.depth;have l2:=mI a.depth b.depth;simp only[Kd.depth];rcases n9.mp hw with hw|hw
  .have:=jQ a w hw;omega
  .have:=jQ b w hw;omega
theorem CU(h:Hp):∀(xs:List Kd)(n:Nat),(∀x∈xs,x.depth+1<=n)->gu h n (xs.map Kd.ae)=some (xs.map Kd.ae)
 |[],n,_=>by simp[gu]
 |x::xs,n,d=>by
  have e1:=Kd.rd h x n (d x gF);have e2:=CU h xs n fun z hz=>d z (di _ hz);cases n with
  |zero=>exact absurd (d x gF) (by omega)
  |succ n=>simp only[aR,gu,e1,e2]
theorem eq_nil{h:Hp}{r z:Nat}{xs:List Kd}(e:h[r]?=some (.lst (xs.map Kd.ae)))(ez:h[z]?=some (.lst []))(d:∀x∈xs,x.depth<=50):bz h (.ref r) (.ref z)=some (decide (xs=[])):=by
 have e1:=CU h xs 59 fun x hx=>by have:=d x hx;omega
 cases xs with
 |nil=>simp[bz,bE,e,ez]
 |cons x xs=>
  simp only[aR] at e e1;simp[bz,bE,e,ez,e1]
theorem nh:∀kd:Kd,(bP kd).pure=true/\(bP kd).deep<=2 * kd.depth+3
 |.num=>by simp[bP,Kd.ae,W.pure,bp,W.deep,aS]
 |.tru=>by simp[bP,Kd.ae,W.pure,bp,W.deep,aS]
 |.any x=>by simp[bP,Kd.ae,W.pure,bp,W.deep,aS]
 |.gap x=>by simp[bP,Kd.ae,W.pure,bp,W.deep,aS]
 |.row a=>by
  have h1:=nh a;simp only[bP,W.pure,bp,W.deep,aS,Kd.depth,h1.1,Bool.and_true,true_and];have:=h1.2;simp;omega
 |.pair a b=>by
  have h1:=nh a;have h2:=nh b;have l1:=mM a.depth b.depth;have l2:=mI a.depth b.depth;simp only[bP,W.pure,bp,W.deep,aS,Kd.depth,h1.1,h2.1,Bool.and_true,true_and];have:=h1.2;have:=h2.2;simp;omega
 |.work a b=>by
  have p:=dX (.work a b);have d:=eA (.work a b);simp only[bP,W.pure,bp,W.deep,aS,p,Bool.and_true,true_and];simp only[Kd.depth] at d⊢;simp;omega
noncomputable abbrev env(t:W)(o4 o5 o6 o7 o8 o9 o10:Option W):Env:=[some (.ref 0),some (.ref 2),some (.ref 3),some t,o4,o5,o6,o7,o8,o9,o10]
noncomputable abbrev form(f1 f2 kw:W):W:=.tup [.str gk,.tup [.str j4],.tup [.str pA,.tup [.str An,f1,kw],f2]]
noncomputable abbrev coreC(l c1 c2:W):W:=.tup [.tup [.str gk,.tup [.str j4],.tup [.str gO,.tup [.str gO,l,c1],c2]],.tup [.str dS,.tup [.str fe],.tup [.str fe]]]
def tail:List St:=fQ.drop 5
section
variable {h h3:Hp}{t kw f1 c1 f2 c2:W}{kd:Kd}
theorem Iw(s:fK h 3 4 5)(o:kd.over [])(d:kd.depth<=3)(w:aC kd=[])(cp:c1.pure=true/\c1.deep<=20)(cq:c2.pure=true/\c2.deep<=20)(cm:Comes [] [] 22 (form f1 f2 kd.ae) (.pair .tru .tru) (.tup [.str gk,.tup [.str j4],.tup [.str gO,.tup [.str gO,bP kd,c1],c2]]))(o9 o10:Option W):
  ∃o8' o9' o10' h',au (run T 44) tail (env t (some kd.ae) (some (.tup [f1,c1])) (some (.tup [f2,c2])) (some (form f1 f2 kd.ae)) (some .ak) o9 o10) h=.ok (.next (env t (some kd.ae) (some (.tup [f1,c1])) (some (.tup [f2,c2])) (some (form f1 f2 kd.ae)) o8' o9' o10')) h'/\aD h h':=by
 obtain⟨h1,e1,y1⟩:=NZ cm 44 (by decide) (by decide) (by decide) s;replace e1:run T 44 ff [.ref 3,form f1 f2 kd.ae] h=.ok (coreC (bP kd) c1 c2) h1:=e1;obtain⟨r2,h2,e2,z2,y2⟩:=kU kd o (by omega) 44 (by omega) h1;rw[w] at z2;obtain⟨h4,e4,y4⟩:=LD kd o w 44 (by omega) (h2++[.lst []]);have q:=eq_nil (h:=h2++[.lst []]) (xs:=[]) (aP _ z2) (cy h2 (.lst [])) (by simp);have lp:=nh kd;have eqc:bz h4 (coreC (bP kd) c1 c2) (coreC (bP kd) c1 c2)=some true:=by
  refine xg h4 ?_ ?_
  .simp[W.pure,bp,lp.1,cp.1,cq.1,Kd.ae]
  .have:=lp.2;have:=cp.2;have:=cq.2;simp[W.deep,aS,Kd.ae];omega
 have s':=s;unfold fK at s';refine⟨some (coreC (bP kd) c1 c2),o9,some (.tup [.str gO,.tup [.str gO,bP kd,c1],c2]),h4,?_,((y1.trans y2).trans (aD.app _ _)).trans y4⟩;unfold tail fQ;generalize kd.ae=KW at *;generalize bP kd=LC at *;refine cF (σ':=env t (some KW) (some (.tup [f1,c1])) (some (.tup [f2,c2])) (some (form f1 f2 KW)) (some (coreC LC c1 c2)) o9 o10) (h':=h1) ?_ ?_
 .rw[xa];simp[nY,s',List.lookup,e1,lX]
 refine aU (h':=h1) (by simp) ?_;refine u9 (h':=h1) (h3:=h4) (σ':=env t (some KW) (some (.tup [f1,c1])) (some (.tup [f2,c2])) (some (form f1 f2 KW)) (some (coreC LC c1 c2)) o9 (some (.tup [.str gO,.tup [.str gO,LC,c1],c2]))) (by simp) ?_ (c7 _ _ _);refine aU (h':=h2++[.lst []]) (by simp[e2,q]) ?_;refine aG (w:=.tup [.str gO,.tup [.str gO,LC,c1],c2]) (h':=h4) (by simp[e4]) ?_;refine aU (h':=h4) ?_ (c7 _ _ _);simp[eqc]
theorem Hy(s:fK h 3 4 5)(o:kd.over [])(d:kd.depth<=3){wk:Kd}{ws:List Kd}(w:aC kd=wk::ws)(cm:Cy [] [] 22 (form f1 f2 kd.ae) [.int 1] wk)(o9 o10:Option W):
  ∃o8' o9' o10' h',au (run T 44) tail (env t (some kd.ae) (some (.tup [f1,c1])) (some (.tup [f2,c2])) (some (form f1 f2 kd.ae)) (some .ak) o9 o10) h=.ok (.next (env t (some kd.ae) (some (.tup [f1,c1])) (some (.tup [f2,c2])) (some (form f1 f2 kd.ae)) o8' o9' o10')) h'/\aD h h':=by
 obtain⟨x,h1,e1,y1,z1⟩:=Jv cm 44 (by decide) (by decide) (by decide) s;have dw:∀x∈wk::ws,x.depth<=50:=fun x hx=>by
  have:=jQ kd x (by rw[w];exact hx);omega
 obtain⟨r2,h2,e2,z2,y2⟩:=kU kd o (by omega) 44 (by omega) h1;rw[w] at z2;have q2:=eq_nil (h:=h2++[.lst []]) (xs:=wk::ws) (aP _ z2) (cy h2 (.lst [])) dw;obtain⟨r3,h3,e3,z3,y3⟩:=kU kd o (by omega) 44 (by omega) (h2++[.lst []]);rw[w] at z3;have z1':=(y2.trans (aD.app _ [O.lst []])).keep _ _ z1;obtain⟨r4,h4,e4,z4,y4⟩:=kU kd o (by omega) 44 (by omega) h3;rw[w] at z4;have q4:=eq_nil (h:=h4++[.lst []]) (xs:=wk::ws) (aP _ z4) (cy h4 (.lst [])) dw;have eqc:bz h3 (.tup [.tup [.int 1],wk.ae]) (.tup [.tup [.int 1],wk.ae])=some true:=by
  refine xg h3 ?_ ?_
  .simp[W.pure,bp,dX]
  .have:=eA wk;have:=dw wk gF;simp[W.deep,aS];omega
 have a0:cg ((wk::ws).map Kd.ae) 0=some wk.ae:=by simp
 have s':=s;unfold fK at s';refine⟨some .ak,none,o10,h4++[.lst []],?_,(((y1.trans y2).trans (aD.app _ _)).trans y3).trans (y4.trans (aD.app _ _))⟩;unfold tail fQ;have ne:¬ (wk::ws=[]):=by simp
 generalize (wk::ws).map Kd.ae=WS at *;generalize wk.ae=WK at *;generalize kd.ae=KW at *;refine cF (σ':=env t (some KW) (some (.tup [f1,c1])) (some (.tup [f2,c2])) (some (form f1 f2 KW)) (some .ak) none o10) (h':=h3) ?_ ?_
 .rw[xa];simp[nY,s',List.lookup,e1,lX,z1,z1',e2,q2,e3,z3,a0,eqc]
 refine aU (h':=h4++[.lst []]) (by simp[e4,q4]) ?_;exact aU (h':=h4++[.lst []]) (by simp) (c7 _ _ _)
end
theorem Hj(t:W)(o4 o5 o6 o7 o8 o9 o10:Option W){h:Hp}(g:Gen 2 h)(s:fK h 3 4 5):
  ∃o4' o5' o6' o7' o8' o9' o10' h',au (run T 44) fQ (env t o4 o5 o6 o7 o8 o9 o10) h=.ok (.next (env t o4' o5' o6' o7' o8' o9' o10')) h'/\Gen 2 h'/\fK h' 3 4 5:=by
 obtain⟨kd,h1,i1⟩:=yi (T:=T) (nx:=aW) (self:=iY) (p:=2) (q:=h.length) (names:=[]) rfl rfl (aX g.md) 3 39 _ (g.ext [O.lst []]) (by simp);have e1:run T 44 iY [.ref 2,.int 3,.ref h.length] (h++[.lst []])=.ok kd.ae h1:=i1.eq;have s1:=(s.grow (aD.app h [O.lst []])).ext i1.ext (by decide);have dk:=i1.deep;have z60:60<=SZ:=by decide
 obtain⟨f1,c1,h2,i2⟩:=BM 2 kd i1.over (by omega) 44 h1.length [] (h1++[O.lst []]) (aX i1.gen.md) (by simp) (by simp;omega) (i1.gen.ext _) (by simp) (by omega);have e2:=i2.eq;have s2:=(s1.grow (aD.app h1 [O.lst []])).ext i2.ext (by decide);obtain⟨f2,c2,h3,i3⟩:=BM 2 kd i1.over (by omega) 44 h2.length [] (h2++[O.lst []]) (aX i2.gen.md) (by simp) (by simp;omega) (i2.gen.ext _) (by simp) (by omega);have e3:=i3.eq;have s3:=(s2.grow (aD.app h2 [O.lst []])).ext i3.ext (by decide);have g1:=(i2.m9 []).mono (show 4 * kd.depth+4<=16 by omega);have g2:=(i3.m9 []).mono (show 4 * kd.depth+4<=18 by omega);simp only[gE] at g1 g2;have pw:2 ^ kd.depth<=SZ:=cL (jA (by decide) dk) (by decide);have ct:=AY g1 (by omega) pw (by rw[G1 kd [] i1.over];simp);have key:∃o8' o9' o10' h',au (run T 44) tail (env t (some kd.ae) (some (.tup [f1,c1])) (some (.tup [f2,c2])) (some (form f1 f2 kd.ae)) (some .ak) o9 o10) h3=.ok (.next (env t (some kd.ae) (some (.tup [f1,c1])) (some (.tup [f2,c2])) (some (form f1 f2 kd.ae)) o8' o9' o10')) h'/\aD h3 h':=by
  have p1:=i2.deep;have p2:=i3.deep;cases w:aC kd with
  |nil=>exact Iw s3 i1.over dk w ⟨i2.pure,by omega⟩ ⟨i3.pure,by omega⟩ (Ab (oG.mono (by decide)) (AU i1.over w (by omega) ct g2)) o9 o10
  |cons wk ws=>exact Hy s3 i1.over dk w (ED (oG.mono (by decide)) (D1 i1.over w (by omega) ct g2)) o9 o10
 obtain⟨o8',o9',o10',h',e,y⟩:=key;refine⟨some kd.ae,some (.tup [f1,c1]),some (.tup [f2,c2]),some (form f1 f2 kd.ae),o8',o9',o10',h',?_,y.gen i3.gen,s3.grow y⟩;unfold tail fQ at e;unfold fQ;generalize kd.ae=KW at *;refine aG (w:=KW) (h':=h1) (by simp[e1]) ?_;refine aG (w:=.tup [f1,c1]) (h':=h2) (by simp[e2]) ?_;refine aG (w:=.tup [f2,c2]) (h':=h3) (by simp[e3]) ?_;refine aG (w:=form f1 f2 KW) (h':=h3) (by simp) ?_;exact aG (w:=.ak) (h':=h3) (by simp) e
theorem vD:∀(ts:List W)(o3 o4 o5 o6 o7 o8 o9 o10:Option W){h:Hp},Gen 2 h->fK h 3 4 5->∃σ' h',bh (.var 3) (au (run T 44) fQ) ts [some (.ref 0),some (.ref 2),some (.ref 3),o3,o4,o5,o6,o7,o8,o9,o10] h=.ok (.next σ') h'
 |[],o3,o4,o5,o6,o7,o8,o9,o10,h,_,_=>⟨_,h,rfl⟩
 |t::ts,o3,o4,o5,o6,o7,o8,o9,o10,h,g,s=>by
  obtain⟨p4,p5,p6,p7,p8,p9,p10,h1,e,g1,s1⟩:=Hj t o4 o5 o6 o7 o8 o9 o10 g s;obtain⟨σ',h',e2⟩:=vD ts (some t) p4 p5 p6 p7 p8 p9 p10 g1 s1;refine⟨σ',h',?_⟩;simp only[bh,turn,iZ,lE,lL,e,R.aw,e2]
theorem CZ(ns:List Int):∃h',run T 45 FQ [.ref 0] [.bI (ns.map .int)]=.ok (.bl true) h':=by
 have r0:=BS 43 [O.bI (ns.map .int),O.lst (ns.map .int),O.lst [.int 71,.ref 1,.int 0]];simp only[cQ,ka,jB,gE] at r0;have g:Gen 2 [O.bI (ns.map .int),O.lst (ns.map .int),O.lst [.int 71,.ref 1,.int 0],O.ins mz [(uW,.ref 4),(vb,.ref 5)],.lst [],.aK []]:=⟨71,0,1,ns,rfl,rfl,by decide⟩;obtain⟨σ',h',e⟩:=vD (upTo 0 3) none none none none none none none none g rfl;refine⟨h',?_⟩;rw[aN Nu];have r:c8 3=true:=by decide
 refine bJ [some (.ref 0),none,none,none,none,none,none,none,none,none,none] rfl rfl ?_;refine aG (w:=.ref 2) (h':=[O.bI (ns.map .int),O.lst (ns.map .int),O.lst [.int 71,.ref 1,.int 0]]) (by simp) ?_;refine aG (w:=.ref 3) (h':=[O.bI (ns.map .int),O.lst (ns.map .int),O.lst [.int 71,.ref 1,.int 0],O.ins mz [(uW,.ref 4),(vb,.ref 5)],.lst [],.aK []]) (by simp[r0]) ?_;refine cF (σ':=σ') (h':=h') ?_ (aF (by simp));rw[fh];simp only[qK,ic,R.aw,r,gY,turns,lE,lL];exact e
end K10
set_option maxHeartbeats 0
namespace K10G
open PySem PySem.W L2 TwS PyProof.Rows
open K10 (T CZ)
noncomputable abbrev pw:Program:=PySem.Challenge.pw_twomeet_k10_likenesses_written
abbrev top(i:Nat):Stmt:=pw.main.body.getD i (.Pass ⟨0,0,0,0⟩)
abbrev s0:Stmt:=top 15
abbrev d0:bL:=⟨.fn "parts", "parts", "parts",s0,["kind"],["kind"]⟩
abbrev s1:Stmt:=top 20
abbrev d1:bL:=⟨.fn "names_in", "names_in", "names_in",s1,["kind", "names"],["kind"]⟩
abbrev s2:Stmt:=top 21
abbrev d2:bL:=⟨.fn "put_names", "put_names", "put_names",s2,["kind", "names", "part"],["kind", "names"]⟩
abbrev s3:Stmt:=top 25
abbrev d3:bL:=⟨.fn "unlikely", "unlikely", "unlikely",s3,["kind", "needs", "part", "first"],["kind", "needs"]⟩
abbrev s4:Stmt:=top 26
abbrev d4:bL:=⟨.fn "likeness", "likeness", "likeness",s4,["kind", "given"],["kind", "given"]⟩
abbrev s5:Stmt:=clsAt (top 31) 0
abbrev d5:bL:=⟨.me [83,99,111,112,101] gQ, "__init__", "Scope.__init__",s5,["self", "shelf", "free", "needs", "bound"],["self", "shelf", "free", "needs", "bound"]⟩
abbrev s6:Stmt:=clsAt (top 31) 1
abbrev d6:bL:=⟨.me [83,99,111,112,101] [98,105,110,100], "bind", "Scope.bind",s6,["self", "name", "kind"],["self", "name", "kind"]⟩
abbrev s7:Stmt:=clsAt (top 31) 2
abbrev d7:bL:=⟨.me [83,99,111,112,101] [105,115,95,98,111,117,110,100], "is_bound", "Scope.is_bound",s7,["self", "name"],["self", "name"]⟩
abbrev s8:Stmt:=clsAt (top 31) 3
abbrev d8:bL:=⟨.me [83,99,111,112,101] [118,97,114,95,111,102], "var_of", "Scope.var_of",s8,["self", "name", "rounds"],["self", "name"]⟩
abbrev s9:Stmt:=clsAt (top 31) 4
abbrev d9:bL:=⟨.me [83,99,111,112,101] [108,105,107,101,110,101,115,115,95,111,102], "likeness_of", "Scope.likeness_of",s9,["self", "kind", "place", "lacking"],["self", "kind", "place"]⟩
abbrev Oc:Stmt:=clsAt (top 31) 5
abbrev Pg:bL:=⟨.me [83,99,111,112,101] [108,105,107,101,110,101,115,115,101,115,95,103,105,118,101,110], "likenesses_given", "Scope.likenesses_given",Oc,["self", "given", "rounds", "need"],["self"]⟩
abbrev Ox:Stmt:=top 33
abbrev Pl:bL:=⟨.fn "come_up", "come_up", "come_up",Ox,["form", "place", "scope"],["form", "place", "scope"]⟩
abbrev O5:Stmt:=top 34
abbrev OZ:bL:=⟨.fn "go_down", "go_down", "go_down",O5,["form", "kind", "place", "scope"],["form", "kind", "place", "scope"]⟩
abbrev OP:Stmt:=top 35
abbrev O6:bL:=⟨.fn "found_to_be", "found_to_be", "found_to_be",OP,["form", "kind", "place", "scope", "core", "found"],["form", "kind", "place", "scope"]⟩
abbrev OB:Stmt:=top 36
abbrev O1:bL:=⟨.fn "number_up", "number_up", "number_up",OB,["form", "place", "scope"],["form", "place", "scope"]⟩
abbrev Oh:Stmt:=top 37
abbrev OR:bL:=⟨.fn "truth_up", "truth_up", "truth_up",Oh,["form", "place", "scope"],["form", "place", "scope"]⟩
abbrev OA:Stmt:=top 38
abbrev O8:bL:=⟨.fn "told_up", "told_up", "told_up",OA,["form", "place", "scope", "name"],["form", "place", "scope"]⟩
abbrev O3:Stmt:=top 40
abbrev OT:bL:=⟨.fn "fun_down", "fun_down", "fun_down",O3,["form", "kind", "place", "scope", "core"],["form", "kind", "place", "scope"]⟩
abbrev OM:Stmt:=top 41
abbrev OI:bL:=⟨.fn "both_up", "both_up", "both_up",OM,["form", "place", "scope", "left", "left_kind", "right", "right_kind"],["form", "place", "scope"]⟩
abbrev Pa:Stmt:=top 42
abbrev OF:bL:=⟨.fn "both_down", "both_down", "both_down",Pa,["form", "kind", "place", "scope", "left", "right"],["form", "kind", "place", "scope"]⟩
abbrev Pd:Stmt:=top 45
abbrev Of:bL:=⟨.fn "rowof_down", "rowof_down", "rowof_down",Pd,["form", "kind", "place", "scope", "cores"],["form", "kind", "place", "scope"]⟩
abbrev Pk:Stmt:=top 46
abbrev OV:bL:=⟨.fn "row_of", "row_of", "row_of",Pk,["cores", "kind", "core", "item"],["cores", "kind"]⟩
abbrev OC:Stmt:=top 48
abbrev OW:bL:=⟨.fn "ahead_down", "ahead_down", "ahead_down",OC,["form", "kind", "place", "scope", "item", "row"],["form", "kind", "place", "scope"]⟩
abbrev N6:Stmt:=top 55
abbrev Ph:bL:=⟨.fn "like_up", "like_up", "like_up",N6,["form", "place", "scope", "first", "kind", "second"],["form", "place", "scope"]⟩
abbrev OG:Stmt:=top 57
abbrev Oz:bL:=⟨.fn "called_down", "called_down", "called_down",OG,["form", "kind", "place", "scope", "core", "found"],["form", "kind", "place", "scope"]⟩
abbrev N8:Stmt:=top 58
abbrev Ot:bL:=⟨.fn "called", "called", "called",N8,["form", "told", "place", "scope", "calls", "head", "head_place", "core", "kind"],["form", "told", "place", "scope"]⟩
abbrev Oa:Stmt:=top 59
abbrev Od:bL:=⟨.fn "work_called", "work_called", "work_called",Oa,["core", "kind", "calls", "scope", "part", "place"],["core", "kind", "calls", "scope"]⟩
abbrev Pj:Stmt:=clsAt (top 67) 0
abbrev OL:bL:=⟨.me [83,104,101,108,102] gQ, "__init__", "Shelf.__init__",Pj,["self"],["self"]⟩
abbrev Om:Stmt:=clsAt (top 67) 2
abbrev Oj:bL:=⟨.me [83,104,101,108,102] [119,114,105,116,101], "write", "Shelf.write",Om,["self", "term"],["self", "term"]⟩
abbrev Oo:Stmt:=clsAt (top 67) 5
abbrev OJ:bL:=⟨.me [83,104,101,108,102] [111,117,116,115,105,100,101], "outside", "Shelf.outside",Oo,["self"],["self"]⟩
abbrev Ov:Stmt:=top 70
abbrev N7:bL:=⟨.fn "_law_next", "_law_next", "_law_next",Ov,["_law_h", "_law_many", "_law_cell"],["_law_h", "_law_many"]⟩
abbrev OE:Stmt:=top 71
abbrev Pf:bL:=⟨.fn "_law_number", "_law_number", "_law_number",OE,["_law_h", "_law_some"],["_law_h"]⟩
abbrev Ol:Stmt:=top 72
abbrev ON:bL:=⟨.fn "_law_word", "_law_word", "_law_word",Ol,["_law_h", "_law_some"],["_law_h"]⟩
abbrev OO:Stmt:=top 73
abbrev OK:bL:=⟨.fn "_law_kind", "_law_kind", "_law_kind",OO,["_law_h", "_law_deep", "_law_names", "_law_way", "_law_one"],["_law_h", "_law_deep", "_law_names"]⟩
abbrev N5:Stmt:=top 75
abbrev Ou:bL:=⟨.fn "_law_literal", "_law_literal", "_law_literal",N5,["_law_h", "_law_kind_here", "_law_bound", "_law_far", "_law_pair", "_law_names", "_law_made", "_law_one", "_law_other", "_law_name", "_law_inner", "_law_items", "_law_core", "_law_item", "_law_form", "_law_first"],["_law_h", "_law_kind_here", "_law_bound"]⟩
abbrev OX:Stmt:=top 76
abbrev Ob:bL:=⟨.fn "_law_works", "_law_works", "_law_works",OX,["_law_kind_here", "_law_found", "_law_part"],["_law_kind_here"]⟩
abbrev O0:Stmt:=top 77
abbrev Oe:bL:=⟨.fn "_law_likecore", "_law_likecore", "_law_likecore",O0,["_law_kind_here"],["_law_kind_here"]⟩
abbrev OQ:Stmt:=top 78
abbrev O9:bL:=⟨.fn "law", "law", "law",OQ,["_law_script", "_law_h", "_law_shelf", "_law_turn", "_law_kind_here", "_law_one", "_law_other", "_law_form", "_law_told", "e", "_law_core"],["_law_script"]⟩
noncomputable abbrev Fe:Stmt:=clsAt (top 9) 0
noncomputable abbrev CK:Stmt:=clsAt (top 3) 0
noncomputable abbrev bQ:List (Tw.S×List Tw.S):=[([78,111,82,117,108,101],[[112,108,97,99,101],[107,105,110,100]])]
noncomputable abbrev eB:List (Tw.S×List Tw.S):=[([78,111,82,117,108,101],[[78,111,82,117,108,101]])]
noncomputable abbrev jx:List (List Tw.S×List Tw.S):=[]
noncomputable abbrev R5:List (Tw.S×Addr):=[([78,111,82,117,108,101],151)]
noncomputable abbrev Ds:List bL:=[d0,d1,d2,d3,d4,d5,d6,d7,d8,d9,Pg,Pl,OZ,O6,O1,OR,O8,OT,OI,OF,Of,OV,OW,Ph,Oz,Ot,Od,OL,Oj,OJ,N7,Pf,ON,OK,Ou,Ob,Oe,O9]
noncomputable abbrev OU:List (Tw.S×Nat):=[([110,117,109,98,101,114],14),([121,101,115],15),([110,111],15),([116,111,108,100],16),([98,111,116,104],18),([108,105,107,101],23)]
noncomputable abbrev Oi:List Tw.S:=[[110,117,109,98,101,114],[121,101,115],[110,111],[110,97,109,101],[102,117,110],[99,97,108,108],[116,111,108,100],[98,111,116,104],[108,101,102,116],[114,105,103,104,116],[114,111,119,111,102],[97,104,101,97,100],[102,111,108,100],[105,102],[108,101,116],[115,117,109],[108,101,115,115],[108,105,107,101]]
noncomputable abbrev OY:List (Tw.S×Nat):=[([110,97,109,101],24),([102,117,110],17),([99,97,108,108],24),([98,111,116,104],19),([114,111,119,111,102],20),([97,104,101,97,100],22)]
noncomputable abbrev O4:List Tw.S:=[[110,97,109,101],[102,117,110],[99,97,108,108],[98,111,116,104],[114,111,119,111,102],[97,104,101,97,100],[105,102],[108,101,116]]
abbrev tabs:List (Str×List (Tw.S×Nat)):=[("COMING_UP",OU),("GOING_DOWN",OY)]
abbrev keys:List (Str×List Tw.S):=[("COMING_UP",Oi),("GOING_DOWN",O4)]
noncomputable abbrev cons:List (Str×Tw.W):=[("NUMBER",.tup [(.str [110,117,109,98,101,114])]),("TRUTH",.tup [(.str [116,114,117,116,104])])]
noncomputable abbrev qs:List Nat:=[35]
theorem Sd:Ba (yL ⟨Ds.map (·.key),tabs,keys,cons,bQ,false,eB,jx,qs⟩) Ds T qs=true:=by decide+kernel
theorem Rw:kC ⟨Ds.map (·.key),tabs,keys,cons,bQ,false,eB,jx,qs⟩ Ds T=true:=by decide+kernel
noncomputable abbrev ke(P:Params)(x:Str)(t:Nat)(v:Value):DictEntry:=⟨PyData.keyHash P x,.str x t,v⟩
noncomputable abbrev cW(n q:Str)(a b c d:Nat)(l x y z u:Int)(r1:Nat)(bb:Bool)(i1:Int)(r2:Nat)(v:Value)(r3 r4 r5:Nat)(k:Int):Obj:=⟨.type "code",none,.fields #[.str n a,.str q b,.str "/claim/cut.py" c,.int l 0,.int x 0,.int y 0,.int z 0,.int u 0,.ref r1,.bool bb,.int i1 0,.ref r2,v,.ref r3,.ref r4,.ref r5,.int k 0,.int l 0,.str "/claim/cut.py" d],#[]⟩
noncomputable abbrev b9(n q:Str)(s:Stmt)(m:Str)(t c:Nat):Obj:=⟨.type "function",none,.func (fnOf n q (cS s) (bR s) (ai s) .none .none .none (.str m t) none (.ref c) .none),#[]⟩
abbrev o2(P:Params):Obj:=⟨.none,none,(.dict #[] 0),#[]⟩
abbrev o3(P:Params):Obj:=⟨(.type "dict"),none,(.dict #[ke P "__name__" 165 (.str "law_twomeet_k10_likenesses_written" 1143),ke P "__doc__" 166 .none,ke P "__package__" 167 .none,ke P "__loader__" 168 (.builtin "__main__.__loader__#opaque"),ke P "__spec__" 169 .none,ke P "__annotations__" 170 (.ref 6),ke P "__builtins__" 171 (.ref 4),ke P "__file__" 173 (.str "/claim/cut.py" 172),ke P "__cached__" 174 .none,ke P "_wall" 193 (.ref 21),ke P "MeetError" 213 (.ref 31),ke P "Refused" 238 (.ref 51),ke P "Told" 254 (.ref 63),ke P "Loose" 270 (.ref 75),ke P "Unmet" 298 (.ref 94),ke P "Unfit" 324 (.ref 113),ke P "Misused" 350 (.ref 132),ke P "NoRule" 376 (.ref 151),ke P "Unbound" 402 (.ref 170),ke P "Unsaid" 418 (.ref 182),ke P "NUMBER" 422 (.ref 185),ke P "TRUTH" 424 (.ref 186),ke P "parts" 431 (.ref 193),ke P "filled" 439 (.ref 200),ke P "gaps_filled" 447 (.ref 207),ke P "replaced" 459 (.ref 214),ke P "has_gaps" 468 (.ref 221),ke P "names_in" 476 (.ref 228),ke P "put_names" 485 (.ref 235),ke P "met" 498 (.ref 242),ke P "met_gap" 508 (.ref 249),ke P "unlikely" 520 (.ref 256),ke P "likeness" 528 (.ref 263),ke P "likeness_kind" 535 (.ref 270),ke P "Definition" 575 (.ref 287),ke P "Scope" 653 (.ref 339),ke P "come_up" 664 (.ref 350),ke P "go_down" 674 (.ref 357),ke P "found_to_be" 686 (.ref 364),ke P "number_up" 695 (.ref 371),ke P "truth_up" 704 (.ref 378),ke P "told_up" 714 (.ref 385),ke P "fun_up" 723 (.ref 392),ke P "fun_down" 734 (.ref 399),ke P "both_up" 747 (.ref 406),ke P "both_down" 759 (.ref 413),ke P "side_up" 770 (.ref 420),ke P "rowof_up" 784 (.ref 427),ke P "rowof_down" 790 (.ref 432),ke P "row_of" 800 (.ref 439),ke P "ahead_up" 812 (.ref 446),ke P "ahead_down" 824 (.ref 453),ke P "fold_up" 838 (.ref 460),ke P "if_up" 851 (.ref 467),ke P "if_down" 864 (.ref 474),ke P "let_up" 877 (.ref 481),ke P "let_down" 890 (.ref 488),ke P "reckoned_up" 901 (.ref 495),ke P "like_up" 913 (.ref 502),ke P "called_up" 922 (.ref 509),ke P "called_down" 934 (.ref 516),ke P "called" 949 (.ref 523),ke P "work_called" 961 (.ref 530),ke P "definition_called" 967 (.ref 535),ke P "part_met" 982 (.ref 542),ke P "left_met" 993 (.ref 549),ke P "definition_at" 999 (.ref 554),ke P "COMING_UP" 1036 (.ref 555),ke P "GOING_DOWN" 1053 (.ref 557),ke P "Shelf" 1130 (.ref 609),ke P "refuse_names" 1142 (.ref 620),ke P "_law_next" 1153 (.ref 627),ke P "_law_number" 1161 (.ref 634),ke P "_law_word" 1167 (.ref 639),ke P "_law_kind" 1178 (.ref 646),ke P "_law_likely" 1184 (.ref 651),ke P "_law_literal" 1190 (.ref 656),ke P "_law_works" 1199 (.ref 663),ke P "_law_likecore" 1205 (.ref 668),ke P "law" 1222 (.ref 675)] 80),#[]⟩
abbrev R4(P:Params):Obj:=⟨(.type "dict"),none,(.dict #[ke P "__module__" 203 (.str "twomeet.errors" 194),ke P "__firstlineno__" 207 (.int 5 206),ke P "__static_attributes__" 208 (.ref 29),ke P "__weakref__" 210 (.ref 32),ke P "__doc__" 211 .none] 3),#[]⟩
abbrev RZ:Obj:=⟨(.type "type"),none,(.cls ⟨"MeetError",[(.type "ValueError")],((.ref 31)::nQ),30, "MeetError",true,[],[(.ref 51),(.ref 63),(.ref 75)],false,none,false⟩),#[(some (.ref 22)),none,(some (.str "MeetError" 196)),(some (.str "MeetError" 204)),(some (.builtin "ValueError.__new__")),(some (.bool true))]⟩
abbrev R7:Obj:=cW "__init__" "Refused.__init__" 226 227 228 232 9 2 0 0 3 42 true 181 43 .none 44 45 46 231
abbrev Pb:Obj:=b9 "__init__" "Refused.__init__" CK "twomeet.errors" 194 47
abbrev Sn(P:Params):Obj:=⟨(.type "dict"),none,(.dict #[ke P "__module__" 221 (.str "twomeet.errors" 194),ke P "__firstlineno__" 225 (.int 7 224),ke P "__init__" 233 (.ref 48),ke P "__static_attributes__" 235 (.ref 49),ke P "__doc__" 236 .none] 2),#[]⟩
abbrev RN:Obj:=⟨(.type "type"),none,(.cls ⟨"Refused",[(.ref 31)],((.ref 51)::(.ref 31)::nQ),50, "Refused",true,[],[(.ref 94),(.ref 113),(.ref 132),(.ref 151),(.ref 170),(.ref 182)],false,none,false⟩),#[(some (.ref 35)),none,(some (.str "Refused" 214)),(some (.str "Refused" 222)),(some (.builtin "ValueError.__new__")),(some (.bool true))]⟩
abbrev PZ:Obj:=cW "__init__" "NoRule.__init__" 363 364 365 370 33 3 0 0 3 142 true 181 143 .none 144 145 146 369
abbrev KJ:Obj:=b9 "__init__" "NoRule.__init__" Fe "twomeet.errors" 194 147
abbrev QM(P:Params):Obj:=⟨(.type "dict"),none,(.dict #[ke P "__module__" 358 (.str "twomeet.errors" 194),ke P "__firstlineno__" 362 (.int 31 361),ke P "__init__" 371 (.ref 148),ke P "__static_attributes__" 373 (.ref 149),ke P "__doc__" 374 .none] 2),#[]⟩
abbrev Qh:Obj:=⟨(.type "type"),none,(.cls ⟨"NoRule",[(.ref 51)],((.ref 151)::(.ref 51)::(.ref 31)::nQ),150, "NoRule",true,[],[],false,none,false⟩),#[(some (.ref 135)),none,(some (.str "NoRule" 351)),(some (.str "NoRule" 359)),(some (.builtin "ValueError.__new__")),(some (.bool true))]⟩
noncomputable abbrev K9:Obj:=⟨(.type "tuple"),none,(.seq #[(.str "number" 421)] 0),#[]⟩
noncomputable abbrev JN:Obj:=⟨(.type "tuple"),none,(.seq #[(.str "truth" 423)] 0),#[]⟩
abbrev P6:Obj:=cW "parts" "parts" 425 426 427 430 46 1 0 0 3 187 true 181 188 .none 189 190 191 429
abbrev LA:Obj:=b9 "parts" "parts" s0 "twomeet.kinds" 419 192
abbrev Pz:Obj:=cW "names_in" "names_in" 469 470 471 475 71 1 0 0 3 222 true 181 223 .none 224 225 226 474
abbrev IL:Obj:=b9 "names_in" "names_in" s1 "twomeet.kinds" 419 227
abbrev QH:Obj:=cW "put_names" "put_names" 477 478 479 484 75 2 0 0 3 229 true 181 230 .none 231 232 233 483
abbrev L4:Obj:=b9 "put_names" "put_names" s2 "twomeet.kinds" 419 234
abbrev QU:Obj:=cW "unlikely" "unlikely" 511 512 513 519 101 2 0 0 3 250 true 181 251 .none 252 253 254 518
abbrev IP:Obj:=b9 "unlikely" "unlikely" s3 "twomeet.likes" 509 255
abbrev Pp:Obj:=cW "likeness" "likeness" 521 522 523 527 111 2 0 0 3 257 true 181 258 .none 259 260 261 526
abbrev LM:Obj:=b9 "likeness" "likeness" s4 "twomeet.likes" 509 262
abbrev Q3:Obj:=cW "__init__" "Scope.__init__" 590 591 592 599 137 5 0 0 3 299 true 181 300 .none 301 302 303 598
abbrev Kt:Obj:=b9 "__init__" "Scope.__init__" s5 "twomeet.scope" 576 304
abbrev PM:Obj:=cW "bind" "Scope.bind" 601 602 603 608 143 3 0 0 3 306 true 181 307 .none 308 309 310 607
abbrev Lj:Obj:=b9 "bind" "Scope.bind" s6 "twomeet.scope" 576 311
abbrev QG:Obj:=⟨(.type "code"),none,(.fields #[(.str "is_bound" 610),(.str "Scope.is_bound" 611),(.str "/claim/cut.py" 612),(.int 146 0),(.int 2 0),(.int 0 0),(.int 0 0),(.int 3 0),(.ref 313),(.bool true),(.int 181 0),(.ref 314),.none,.none,.none,(.ref 315),(.int 613 0),(.int 146 0),(.str "/claim/cut.py" 614)]),#[]⟩
abbrev JP:Obj:=b9 "is_bound" "Scope.is_bound" s7 "twomeet.scope" 576 316
abbrev Px:Obj:=⟨(.type "code"),none,(.fields #[(.str "var_of" 616),(.str "Scope.var_of" 617),(.str "/claim/cut.py" 618),(.int 149 0),(.int 2 0),(.int 0 0),(.int 0 0),(.int 3 0),(.ref 318),(.bool true),(.int 181 0),(.ref 319),.none,.none,.none,(.ref 320),(.int 619 0),(.int 149 0),(.str "/claim/cut.py" 620)]),#[]⟩
abbrev LF:Obj:=b9 "var_of" "Scope.var_of" s8 "twomeet.scope" 576 321
abbrev QD:Obj:=cW "likeness_of" "Scope.likeness_of" 622 623 624 630 153 3 0 0 3 323 true 181 324 .none 325 326 327 629
abbrev Mb:Obj:=b9 "likeness_of" "Scope.likeness_of" s9 "twomeet.scope" 576 328
abbrev Qn:Obj:=cW "likenesses_given" "Scope.likenesses_given" 632 633 634 640 159 1 0 0 3 330 true 181 331 .none 332 333 334 639
abbrev Lb:Obj:=b9 "likenesses_given" "Scope.likenesses_given" Oc "twomeet.scope" 576 335
abbrev Qt(P:Params):Obj:=⟨(.type "dict"),none,(.dict #[ke P "__module__" 585 (.str "twomeet.scope" 576),ke P "__firstlineno__" 589 (.int 135 588),ke P "__init__" 600 (.ref 305),ke P "bind" 609 (.ref 312),ke P "is_bound" 615 (.ref 317),ke P "var_of" 621 (.ref 322),ke P "likeness_of" 631 (.ref 329),ke P "likenesses_given" 641 (.ref 336),ke P "__static_attributes__" 646 (.ref 337),ke P "__dict__" 648 (.ref 340),ke P "__weakref__" 650 (.ref 341),ke P "__doc__" 651 .none] 4),#[]⟩
noncomputable abbrev PR:Obj:=⟨(.type "type"),none,(.cls ⟨"Scope",[(.type "object")],[(.ref 339),(.type "object")],338, "Scope",true,[],[],false,none,false⟩),#[none,none,(some (.str "Scope" 578)),(some (.str "Scope" 586)),(some (.builtin "object.__new__")),(some (.bool true))]⟩
abbrev PH:Obj:=cW "come_up" "come_up" 656 657 658 663 167 3 0 0 3 344 true 181 345 .none 346 347 348 662
abbrev IY:Obj:=b9 "come_up" "come_up" Ox "twomeet.writing" 654 349
abbrev QV:Obj:=cW "go_down" "go_down" 665 666 667 673 169 4 0 0 3 351 true 181 352 .none 353 354 355 672
abbrev JL:Obj:=b9 "go_down" "go_down" O5 "twomeet.writing" 654 356
abbrev Qa:Obj:=cW "found_to_be" "found_to_be" 675 676 677 685 173 4 0 0 3 358 true 181 359 .none 360 361 362 684
abbrev Kh:Obj:=b9 "found_to_be" "found_to_be" OP "twomeet.writing" 654 363
abbrev Py:Obj:=cW "number_up" "number_up" 687 688 689 694 178 3 0 0 3 365 true 181 366 .none 367 368 369 693
abbrev Ka:Obj:=b9 "number_up" "number_up" OB "twomeet.writing" 654 370
abbrev PU:Obj:=cW "truth_up" "truth_up" 696 697 698 703 180 3 0 0 3 372 true 181 373 .none 374 375 376 702
abbrev Jy:Obj:=b9 "truth_up" "truth_up" Oh "twomeet.writing" 654 377
abbrev PY:Obj:=cW "told_up" "told_up" 705 706 707 713 182 3 0 0 3 379 true 181 380 .none 381 382 383 712
abbrev JE:Obj:=b9 "told_up" "told_up" OA "twomeet.writing" 654 384
abbrev PD:Obj:=cW "fun_down" "fun_down" 724 725 726 733 189 4 0 0 3 393 true 181 394 .none 395 396 397 732
abbrev J7:Obj:=b9 "fun_down" "fun_down" O3 "twomeet.writing" 654 398
abbrev QX:Obj:=cW "both_up" "both_up" 735 736 737 746 194 3 0 0 3 400 true 181 401 .none 402 403 404 745
abbrev Js:Obj:=b9 "both_up" "both_up" OM "twomeet.writing" 654 405
abbrev PB:Obj:=cW "both_down" "both_down" 748 749 750 758 198 4 0 0 3 407 true 181 408 .none 409 410 411 757
abbrev Ji:Obj:=b9 "both_down" "both_down" Pa "twomeet.writing" 654 412
abbrev QA:Obj:=⟨(.type "code"),none,(.fields #[(.str "rowof_down" 785),(.str "rowof_down" 786),(.str "/claim/cut.py" 787),(.int 217 0),(.int 4 0),(.int 0 0),(.int 0 0),(.int 3 0),(.ref 428),(.bool true),(.int 181 0),(.ref 429),.none,.none,.none,(.ref 430),(.int 788 0),(.int 217 0),(.str "/claim/cut.py" 789)]),#[]⟩
abbrev LP:Obj:=b9 "rowof_down" "rowof_down" Pd "twomeet.writing" 654 431
abbrev QF:Obj:=cW "row_of" "row_of" 791 792 793 799 224 2 0 0 3 433 true 181 434 .none 435 436 437 798
abbrev Jr:Obj:=b9 "row_of" "row_of" Pk "twomeet.writing" 654 438
abbrev P9:Obj:=cW "ahead_down" "ahead_down" 813 814 815 823 233 4 0 0 3 447 true 181 448 .none 449 450 451 822
abbrev KD:Obj:=b9 "ahead_down" "ahead_down" OC "twomeet.writing" 654 452
abbrev Pm:Obj:=cW "like_up" "like_up" 902 903 904 912 268 3 0 0 3 496 true 181 497 .none 498 499 500 911
abbrev Lr:Obj:=b9 "like_up" "like_up" N6 "twomeet.writing" 654 501
abbrev QZ:Obj:=cW "called_down" "called_down" 923 924 925 933 274 4 0 0 3 510 true 181 511 .none 512 513 514 932
abbrev JR:Obj:=b9 "called_down" "called_down" OG "twomeet.writing" 654 515
abbrev Q9:Obj:=cW "called" "called" 935 936 937 948 279 4 0 0 3 517 true 181 518 .none 519 520 521 947
abbrev LS:Obj:=b9 "called" "called" N8 "twomeet.writing" 654 522
abbrev Qk:Obj:=cW "work_called" "work_called" 950 951 952 960 295 4 0 0 3 524 true 181 525 .none 526 527 528 959
abbrev I9:Obj:=b9 "work_called" "work_called" Oa "twomeet.writing" 654 529
abbrev JK(P:Params):Obj:=⟨(.type "dict"),none,(.dict #[ke P "number" 1000 (.ref 371),ke P "yes" 1002 (.ref 378),ke P "no" 1004 (.ref 378),ke P "name" 1006 (.ref 509),ke P "fun" 1008 (.ref 392),ke P "call" 1010 (.ref 509),ke P "told" 1012 (.ref 385),ke P "both" 1014 (.ref 406),ke P "left" 1016 (.ref 420),ke P "right" 1018 (.ref 420),ke P "rowof" 1020 (.ref 427),ke P "ahead" 1022 (.ref 446),ke P "fold" 1024 (.ref 460),ke P "if" 1026 (.ref 467),ke P "let" 1028 (.ref 481),ke P "sum" 1030 (.ref 495),ke P "less" 1032 (.ref 495),ke P "like" 1034 (.ref 502)] 18),#[]⟩
abbrev KY(P:Params):Obj:=⟨(.type "dict"),none,(.dict #[ke P "name" 1037 (.ref 516),ke P "fun" 1038 (.ref 399),ke P "call" 1039 (.ref 516),ke P "both" 1040 (.ref 413),ke P "rowof" 1041 (.ref 432),ke P "ahead" 1042 (.ref 453),ke P "if" 1043 (.ref 474),ke P "let" 1044 (.ref 488)] 8),#[]⟩
abbrev Ql:Obj:=cW "__init__" "Shelf.__init__" 1068 1069 1070 1073 352 1 0 0 3 565 true 181 566 .none 567 568 569 1072
abbrev J0:Obj:=b9 "__init__" "Shelf.__init__" Pj "twomeet.shelf" 1054 570
abbrev Po:Obj:=cW "write" "Shelf.write" 1088 1089 1090 1094 364 2 0 0 3 579 true 181 580 .none 581 582 583 1093
abbrev KN:Obj:=b9 "write" "Shelf.write" Om "twomeet.shelf" 1054 584
abbrev Qi:Obj:=cW "outside" "Shelf.outside" 1114 1115 1116 1119 373 1 0 0 3 600 true 181 601 .none 602 603 604 1118
abbrev JC:Obj:=b9 "outside" "Shelf.outside" Oo "twomeet.shelf" 1054 605
abbrev PN(P:Params):Obj:=⟨(.type "dict"),none,(.dict #[ke P "__module__" 1063 (.str "twomeet.shelf" 1054),ke P "__firstlineno__" 1067 (.int 350 1066),ke P "__init__" 1074 (.ref 571),ke P "tell" 1087 (.ref 578),ke P "write" 1095 (.ref 585),ke P "write_as" 1104 (.ref 592),ke P "end" 1113 (.ref 599),ke P "outside" 1120 (.ref 606),ke P "__static_attributes__" 1123 (.ref 607),ke P "__dict__" 1125 (.ref 610),ke P "__weakref__" 1127 (.ref 611),ke P "__doc__" 1128 .none] 4),#[]⟩
noncomputable abbrev P1:Obj:=⟨(.type "type"),none,(.cls ⟨"Shelf",[(.type "object")],[(.ref 609),(.type "object")],608, "Shelf",true,[],[],false,none,false⟩),#[none,none,(some (.str "Shelf" 1056)),(some (.str "Shelf" 1064)),(some (.builtin "object.__new__")),(some (.bool true))]⟩
abbrev QK:Obj:=cW "_law_next" "_law_next" 1145 1146 1147 1152 387 2 0 0 3 621 true 181 622 .none 623 624 625 1151
abbrev KH:Obj:=b9 "_law_next" "_law_next" Ov "law_twomeet_k10_likenesses_written" 1143 626
abbrev QS:Obj:=cW "_law_number" "_law_number" 1154 1155 1156 1160 392 1 0 0 3 628 true 181 629 .none 630 631 632 1159
abbrev IM:Obj:=b9 "_law_number" "_law_number" OE "law_twomeet_k10_likenesses_written" 1143 633
abbrev P7:Obj:=⟨(.type "code"),none,(.fields #[(.str "_law_word" 1162),(.str "_law_word" 1163),(.str "/claim/cut.py" 1164),(.int 397 0),(.int 1 0),(.int 0 0),(.int 0 0),(.int 3 0),(.ref 635),(.bool true),(.int 181 0),(.ref 636),.none,.none,.none,(.ref 637),(.int 1165 0),(.int 397 0),(.str "/claim/cut.py" 1166)]),#[]⟩
abbrev JO:Obj:=b9 "_law_word" "_law_word" Ol "law_twomeet_k10_likenesses_written" 1143 638
abbrev PF:Obj:=cW "_law_kind" "_law_kind" 1168 1169 1170 1177 400 3 0 0 3 640 true 181 641 .none 642 643 644 1176
abbrev IK:Obj:=b9 "_law_kind" "_law_kind" OO "law_twomeet_k10_likenesses_written" 1143 645
abbrev Qd:Obj:=⟨(.type "code"),none,(.fields #[(.str "_law_literal" 1185),(.str "_law_literal" 1186),(.str "/claim/cut.py" 1187),(.int 414 0),(.int 3 0),(.int 0 0),(.int 0 0),(.int 3 0),(.ref 652),(.bool true),(.int 181 0),(.ref 653),.none,.none,.none,(.ref 654),(.int 1188 0),(.int 414 0),(.str "/claim/cut.py" 1189)]),#[]⟩
abbrev KC:Obj:=b9 "_law_literal" "_law_literal" N5 "law_twomeet_k10_likenesses_written" 1143 655
abbrev Q5:Obj:=cW "_law_works" "_law_works" 1191 1192 1193 1198 446 1 0 0 3 657 true 181 658 .none 659 660 661 1197
abbrev JB:Obj:=b9 "_law_works" "_law_works" OX "law_twomeet_k10_likenesses_written" 1143 662
abbrev PC:Obj:=⟨(.type "code"),none,(.fields #[(.str "_law_likecore" 1200),(.str "_law_likecore" 1201),(.str "/claim/cut.py" 1202),(.int 453 0),(.int 1 0),(.int 0 0),(.int 0 0),(.int 3 0),(.ref 664),(.bool true),(.int 181 0),(.ref 665),.none,.none,.none,(.ref 666),(.int 1203 0),(.int 453 0),(.str "/claim/cut.py" 1204)]),#[]⟩
abbrev Jo:Obj:=b9 "_law_likecore" "_law_likecore" O0 "law_twomeet_k10_likenesses_written" 1143 667
abbrev Qx:Obj:=cW "law" "law" 1206 1207 1208 1221 457 1 0 0 3 669 true 181 670 .none 671 672 673 1220
abbrev LZ:Obj:=b9 "law" "law" OQ "law_twomeet_k10_likenesses_written" 1143 674
def K(P:Params):Frag:=[(2,(o2 P)),(3,(o3 P)),(30,(R4 P)),(31,RZ),(47,R7),(48,Pb),(50,(Sn P)),(51,RN),(147,PZ),(148,KJ),(150,(QM P)),(151,Qh),(185,K9),(186,JN),(192,P6),(193,LA),(227,Pz),(228,IL),(234,QH),(235,L4),(255,QU),(256,IP),(262,Pp),(263,LM),(304,Q3),(305,Kt),(311,PM),(312,Lj),(316,QG),(317,JP),(321,Px),(322,LF),(328,QD),(329,Mb),(335,Qn),(336,Lb),(338,(Qt P)),(339,PR),(349,PH),(350,IY),(356,QV),(357,JL),(363,Qa),(364,Kh),(370,Py),(371,Ka),(377,PU),(378,Jy),(384,PY),(385,JE),(398,PD),(399,J7),(405,QX),(406,Js),(412,PB),(413,Ji),(431,QA),(432,LP),(438,QF),(439,Jr),(452,P9),(453,KD),(501,Pm),(502,Lr),(515,QZ),(516,JR),(522,Q9),(523,LS),(529,Qk),(530,I9),(555,(JK P)),(557,(KY P)),(570,Ql),(571,J0),(584,Po),(585,KN),(605,Qi),(606,JC),(608,(PN P)),(609,P1),(626,QK),(627,KH),(633,QS),(634,IM),(638,P7),(639,JO),(645,PF),(646,IK),(655,Qd),(656,KC),(662,Q5),(663,JB),(667,PC),(668,Jo),(674,Qx),(675,LZ)]
noncomputable def as:List Addr:=[2,3,30,31,47,48,50,51,147,148,150,151,185,186,192,193,227,228,234,235,255,256,262,263,304,305,311,312,316,317,321,322,328,329,335,336,338,339,349,350,356,357,363,364,370,371,377,378,384,385,398,399,405,406,412,413,431,432,438,439,452,453,501,502,515,516,522,523,529,530,555,557,570,571,584,585,605,606,608,609,626,627,633,634,638,639,645,646,655,656,662,663,667,668,674,675]
def H:Hook:=kHook K as fun _=>by kernel_rfl
def view:Program:={pw with main:={pw.main with body:=[top 78]}}
noncomputable def loose:List Str:=(["_wall", "MeetError", "Refused", "Told", "Loose", "Unmet", "Unfit", "Misused", "NoRule", "Unbound", "Unsaid", "NUMBER", "TRUTH", "parts", "filled", "gaps_filled", "replaced", "has_gaps", "names_in", "put_names", "met", "met_gap", "unlikely", "likeness", "likeness_kind", "Definition", "Scope", "come_up", "go_down", "found_to_be", "number_up", "truth_up", "told_up", "fun_up", "fun_down", "both_up", "both_down", "side_up", "rowof_up", "rowof_down", "row_of", "ahead_up", "ahead_down", "fold_up", "if_up", "if_down", "let_up", "let_down", "reckoned_up", "like_up", "called_up", "called_down", "called", "work_called", "definition_called", "part_met", "left_met", "definition_at", "COMING_UP", "GOING_DOWN", "Shelf", "refuse_names", "_law_next", "_law_number", "_law_word", "_law_kind", "_law_likely", "_law_literal", "_law_works", "_law_likecore"]:List String).map Str.ofString
def seen(s:Shared):Bool:=xlAt view [] s&&recOk (PySem.Challenge.rw_twomeet_k10_likenesses_written).row.toRowW.records s
noncomputable def _root_.PySem.W.Fast.tw8990354752133031079:Program:=PySem.Challenge.pw_twomeet_k10_likenesses_written
theorem _root_.PySem.W.Fast.te8990354752133031079:PySem.Challenge.pw_twomeet_k10_likenesses_written=PySem.W.Fast.tw8990354752133031079:=rfl
def obs(s:Shared):=(openSeen view loose (importedModules pw.main.body) seen true s,as.map s.heap.get?)
def EI(w:World):=u4 pw 12000 obs (w.withFollow "special-get-raises" false)
theorem HM:EI=EI:=rfl
name_quick runF_K10G for K10G.EI by K10G.HM
theorem MW(w:World):(openEnds treeTable pw (w.withFollow "special-get-raises" false) 12000).map obs=some (openGood view loose,Hook.val H (w.withFollow "special-get-raises" false)):=yC ((congrFun PySem.W.Fast.runF_K10G_eq w).trans (by kernel_rfl))
def EL(w:World):=u4 pw 12000 obs (w.withFollow "special-get-raises" true)
theorem HN:EL=EL:=rfl
name_quick runT_K10G for K10G.EL by K10G.HN
theorem MM(w:World):(openEnds treeTable pw (w.withFollow "special-get-raises" true) 12000).map obs=some (openGood view loose,Hook.val H (w.withFollow "special-get-raises" true)):=yC ((congrFun PySem.W.Fast.runT_K10G_eq w).trans (by kernel_rfl))
theorem left:LeftO pw view loose seen (Hook.obs H) (Hook.val H) 12000:=byRow2 "special-get-raises" (P:=fun w=>(openEnds treeTable pw w 12000).map obs=some (openGood view loose,Hook.val H w)) MW MM
section
variable (P:Params)
theorem l0:(K P).lookup 193=some LA:=by kernel_rfl
theorem l1:(K P).lookup 228=some IL:=by kernel_rfl
theorem l2:(K P).lookup 235=some L4:=by kernel_rfl
theorem l3:(K P).lookup 256=some IP:=by kernel_rfl
theorem l4:(K P).lookup 263=some LM:=by kernel_rfl
theorem l5:(K P).lookup 305=some Kt:=by kernel_rfl
theorem l6:(K P).lookup 312=some Lj:=by kernel_rfl
theorem l7:(K P).lookup 317=some JP:=by kernel_rfl
theorem l8:(K P).lookup 322=some LF:=by kernel_rfl
theorem l9:(K P).lookup 329=some Mb:=by kernel_rfl
theorem RU:(K P).lookup 336=some Lb:=by kernel_rfl
theorem Sq:(K P).lookup 350=some IY:=by kernel_rfl
theorem Si:(K P).lookup 357=some JL:=by kernel_rfl
theorem Sm:(K P).lookup 364=some Kh:=by kernel_rfl
theorem Sj:(K P).lookup 371=some Ka:=by kernel_rfl
theorem R9:(K P).lookup 378=some Jy:=by kernel_rfl
theorem Sk:(K P).lookup 385=some JE:=by kernel_rfl
theorem R3:(K P).lookup 399=some J7:=by kernel_rfl
theorem R1:(K P).lookup 406=some Js:=by kernel_rfl
theorem Se:(K P).lookup 413=some Ji:=by kernel_rfl
theorem RT:(K P).lookup 432=some LP:=by kernel_rfl
theorem RI:(K P).lookup 439=some Jr:=by kernel_rfl
theorem RQ:(K P).lookup 453=some KD:=by kernel_rfl
theorem RM:(K P).lookup 502=some Lr:=by kernel_rfl
theorem Rx:(K P).lookup 516=some JR:=by kernel_rfl
theorem RP:(K P).lookup 523=some LS:=by kernel_rfl
theorem Rz:(K P).lookup 530=some I9:=by kernel_rfl
theorem RY:(K P).lookup 571=some J0:=by kernel_rfl
theorem RC:(K P).lookup 585=some KN:=by kernel_rfl
theorem So:(K P).lookup 606=some JC:=by kernel_rfl
theorem Ru:(K P).lookup 627=some KH:=by kernel_rfl
theorem RX:(K P).lookup 634=some IM:=by kernel_rfl
theorem Sf:(K P).lookup 639=some JO:=by kernel_rfl
theorem Sl:(K P).lookup 646=some IK:=by kernel_rfl
theorem R0:(K P).lookup 656=some KC:=by kernel_rfl
theorem Sh:(K P).lookup 663=some JB:=by kernel_rfl
theorem RL:(K P).lookup 668=some Jo:=by kernel_rfl
theorem RK:(K P).lookup 675=some LZ:=by kernel_rfl
theorem yb:(K P).lookup 555=some (JK P):=by kernel_rfl
theorem xF:(K P).lookup 557=some (KY P):=by kernel_rfl
theorem Fd:(K P).lookup 185=some K9:=by kernel_rfl
theorem GR:(K P).lookup 186=some JN:=by kernel_rfl
theorem f7:GoodC (K P) 339:=by exact yO
theorem mT:GoodC (K P) 609:=by exact yO
end
section
variable (P:Params)
theorem Dh:(K P).lookup 148=some KJ:=by kernel_rfl
theorem BY:(K P).lookup 48=some Pb:=by kernel_rfl
theorem CJ:vR (K P) 151 148:=⟨⟨"NoRule", "NoRule",150,[(.ref 51)],((.ref 51)::(.ref 31)::nQ),true,[],[],false,none,none,(some (.ref 135)),none,(some (.str "NoRule" 351)),(some (.str "NoRule" 359)),(some (.bool true)),by kernel_rfl,by decide+kernel,by decide+kernel,by decide+kernel,by decide+kernel⟩,by kernel_rfl,by kernel_rfl,by kernel_rfl⟩
theorem ud:XC (K P) 151:=⟨⟨⟨"NoRule",[(.ref 51)],((.ref 151)::(.ref 51)::(.ref 31)::nQ),150, "NoRule",true,[],[],false,none,false⟩,[51,31],by kernel_rfl,rfl,rfl⟩,by kernel_rfl,by kernel_rfl,by kernel_rfl⟩
theorem Cg:lT (K P) 51 48:=NS
theorem uc:∀g∈([[112,108,97,99,101],[107,105,110,100]]:List Tw.S).map str,bo (K P) 151 g:=by simp only[aR,gD,Bg];exact⟨(show findIn (K P) (.ref 151) "place" = some none by kernel_rfl),(show findIn (K P) (.ref 151) "kind" = some none by kernel_rfl),fun _ h=>nomatch h⟩
end
theorem facts(w:World)(mg:Str->Option Value)(h:Heap)(KX:(K w.params).In h)(G:h.Ns mainGlobals mg):(∀d∈Ds,∃g fd,jI (K w.params) mg d g fd)/\(∀x∈dr,mg x=none)/\(∀x g,tabs.lookup x=some g->TabAt (K w.params) mg (Ds.map (·.key)) x g)/\(∀x g,keys.lookup x=some g->ou (K w.params) mg x g)/\(∀x w',cons.lookup x=some w'->rV (K w.params) mg x w')/\(∀c fs,bQ.lookup c=some fs->kR (K w.params) mg c fs)/\v7 (K w.params) mg ⟨Ds.map (·.key),tabs,keys,cons,bQ,false,eB,jx,qs⟩:=by
 have t0:=CT (x:= "COMING_UP") (t:=555) (fns:=Ds.map (·.key)) (g:=OU) (ks:=Oi) [([110,117,109,98,101,114], "number_up"),([121,101,115], "truth_up"),([110,111], "truth_up"),([110,97,109,101], "called_up"),([102,117,110], "fun_up"),([99,97,108,108], "called_up"),([116,111,108,100], "told_up"),([98,111,116,104], "both_up"),([108,101,102,116], "side_up"),([114,105,103,104,116], "side_up"),([114,111,119,111,102], "rowof_up"),([97,104,101,97,100], "ahead_up"),([102,111,108,100], "fold_up"),([105,102], "if_up"),([108,101,116], "let_up"),([115,117,109], "reckoned_up"),([108,101,115,115], "reckoned_up"),([108,105,107,101], "like_up")] KX G (by kernel_rfl) (yb _) ⟨rfl,rfl,rfl⟩ rfl (.cons (by kernel_rfl) (.cons (by kernel_rfl) (.cons (by kernel_rfl) (.cons (by kernel_rfl) (.cons (by kernel_rfl) (.cons (by kernel_rfl) (.cons (by kernel_rfl) (.cons (by kernel_rfl) (.cons (by kernel_rfl) (.cons (by kernel_rfl) (.cons (by kernel_rfl) (.cons (by kernel_rfl) (.cons (by kernel_rfl) (.cons (by kernel_rfl) (.cons (by kernel_rfl) (.cons (by kernel_rfl) (.cons (by kernel_rfl) (.cons (by kernel_rfl) (.nil))))))))))))))))))) rfl rfl;have t1:=CT (x:= "GOING_DOWN") (t:=557) (fns:=Ds.map (·.key)) (g:=OY) (ks:=O4) [([110,97,109,101], "called_down"),([102,117,110], "fun_down"),([99,97,108,108], "called_down"),([98,111,116,104], "both_down"),([114,111,119,111,102], "rowof_down"),([97,104,101,97,100], "ahead_down"),([105,102], "if_down"),([108,101,116], "let_down")] KX G (by kernel_rfl) (xF _) ⟨rfl,rfl,rfl⟩ rfl (.cons (by kernel_rfl) (.cons (by kernel_rfl) (.cons (by kernel_rfl) (.cons (by kernel_rfl) (.cons (by kernel_rfl) (.cons (by kernel_rfl) (.cons (by kernel_rfl) (.cons (by kernel_rfl) (.nil))))))))) rfl rfl;have ea:=fun {P:Addr->Option Bool}{cs:List Tw.S} k=>each (bQ:=bQ) (es:=R5) (P:=P) (cs:=cs) KX G rfl (by kernel_rfl) k;refine⟨?D,?B,?T,?K,?C,?X,?E,?H,?I⟩
 case E=>
  refine uq (K4 (C:=151) KX G (ud _) (uc _)) ?_;exact xo
 case H=>
  refine mem_cons ⟨151,fG KX G (by kernel_rfl),ea (by kernel_rfl)⟩ ?_;exact yR
 case I=>
  exact yR
 case X=>
  refine uq (Lf (C:=151) (f:=148) (R:=51) (g:=48) (sf:= "self") (sb:= "self") (r:= "Refused") KX G (CJ _) (ud _) (uc _) (Dh _) (fun _ _ _ _ _ _=>nF (fun _ _ _=>rfl)) (by decide) rfl (by decide+kernel) (Cg _) (BY _) (by decide+kernel) (fun _ _ _ _ _ _=>qi (fun _ _=>rfl))) ?_;exact xo
 case T=>exact ib t0.1 (ib t1.1 (q9))
 case K=>exact ib t0.2 (ib t1.2 (q9))
 case C=>
  refine ib (Cm (t:=185) (z:=[110,117,109,98,101,114]) KX G (by kernel_rfl) (Fd _) rfl) ?_;refine ib (Cm (t:=186) (z:=[116,114,117,116,104]) KX G (by kernel_rfl) (GR _) rfl) ?_;exact q9
 case D=>
  show ∀d∈ [d0,d1,d2,d3,d4,d5,d6,d7,d8,d9,Pg,Pl,OZ,O6,O1,OR,O8,OT,OI,OF,Of,OV,OW,Ph,Oz,Ot,Od,OL,Oj,OJ,N7,Pf,ON,OK,Ou,Ob,Oe,O9],_;simp only[Bg];refine⟨?_,?_,?_,?_,?_,?_,?_,?_,?_,?_,?_,?_,?_,?_,?_,?_,?_,?_,?_,?_,?_,?_,?_,?_,?_,?_,?_,?_,?_,?_,?_,?_,?_,?_,?_,?_,?_,?_,fun _ h=>nomatch h⟩
  .exact bG (f:=193) KX G (l0 _) (fun _ _ _ _ _ _=>oW (fun _=>rfl))
  .exact bG (f:=228) KX G (l1 _) (fun _ _ _ _ _ _=>oW (fun _=>rfl))
  .exact bG (f:=235) KX G (l2 _) (fun _ _ _ _ _ _=>qi (fun _ _=>rfl))
  .exact bG (f:=256) KX G (l3 _) (fun _ _ _ _ _ _=>qi (fun _ _=>rfl))
  .exact bG (f:=263) KX G (l4 _) (fun _ _ _ _ _ _=>qi (fun _ _=>rfl))
  .exact yE (f:=305) (C:=339) KX G (l5 _) (f7 _) (fun _ _ _ _ _ _=>OD (fun _ _ _ _ _=>rfl))
  .exact nA (f:=312) (C:=339) KX G (l6 _) (f7 _) (fun _ _ _ _ _ _=>nF (fun _ _ _=>rfl))
  .exact nA (f:=317) (C:=339) KX G (l7 _) (f7 _) (fun _ _ _ _ _ _=>qi (fun _ _=>rfl))
  .exact nA (f:=322) (C:=339) KX G (l8 _) (f7 _) (fun _ _ _ _ _ _=>qi (fun _ _=>rfl))
  .exact nA (f:=329) (C:=339) KX G (l9 _) (f7 _) (fun _ _ _ _ _ _=>nF (fun _ _ _=>rfl))
  .exact nA (f:=336) (C:=339) KX G (RU _) (f7 _) (fun _ _ _ _ _ _=>oW (fun _=>rfl))
  .exact bG (f:=350) KX G (Sq _) (fun _ _ _ _ _ _=>nF (fun _ _ _=>rfl))
  .exact bG (f:=357) KX G (Si _) (fun _ _ _ _ _ _=>qr (fun _ _ _ _=>rfl))
  .exact bG (f:=364) KX G (Sm _) (fun _ _ _ _ _ _=>qr (fun _ _ _ _=>rfl))
  .exact bG (f:=371) KX G (Sj _) (fun _ _ _ _ _ _=>nF (fun _ _ _=>rfl))
  .exact bG (f:=378) KX G (R9 _) (fun _ _ _ _ _ _=>nF (fun _ _ _=>rfl))
  .exact bG (f:=385) KX G (Sk _) (fun _ _ _ _ _ _=>nF (fun _ _ _=>rfl))
  .exact bG (f:=399) KX G (R3 _) (fun _ _ _ _ _ _=>qr (fun _ _ _ _=>rfl))
  .exact bG (f:=406) KX G (R1 _) (fun _ _ _ _ _ _=>nF (fun _ _ _=>rfl))
  .exact bG (f:=413) KX G (Se _) (fun _ _ _ _ _ _=>qr (fun _ _ _ _=>rfl))
  .exact bG (f:=432) KX G (RT _) (fun _ _ _ _ _ _=>qr (fun _ _ _ _=>rfl))
  .exact bG (f:=439) KX G (RI _) (fun _ _ _ _ _ _=>qi (fun _ _=>rfl))
  .exact bG (f:=453) KX G (RQ _) (fun _ _ _ _ _ _=>qr (fun _ _ _ _=>rfl))
  .exact bG (f:=502) KX G (RM _) (fun _ _ _ _ _ _=>nF (fun _ _ _=>rfl))
  .exact bG (f:=516) KX G (Rx _) (fun _ _ _ _ _ _=>qr (fun _ _ _ _=>rfl))
  .exact bG (f:=523) KX G (RP _) (fun _ _ _ _ _ _=>qr (fun _ _ _ _=>rfl))
  .exact bG (f:=530) KX G (Rz _) (fun _ _ _ _ _ _=>qr (fun _ _ _ _=>rfl))
  .exact yE (f:=571) (C:=609) KX G (RY _) (mT _) (fun _ _ _ _ _ _=>oW (fun _=>rfl))
  .exact nA (f:=585) (C:=609) KX G (RC _) (mT _) (fun _ _ _ _ _ _=>qi (fun _ _=>rfl))
  .exact nA (f:=606) (C:=609) KX G (So _) (mT _) (fun _ _ _ _ _ _=>oW (fun _=>rfl))
  .exact bG (f:=627) KX G (Ru _) (fun _ _ _ _ _ _=>qi (fun _ _=>rfl))
  .exact bG (f:=634) KX G (RX _) (fun _ _ _ _ _ _=>oW (fun _=>rfl))
  .exact bG (f:=639) KX G (Sf _) (fun _ _ _ _ _ _=>oW (fun _=>rfl))
  .exact bG (f:=646) KX G (Sl _) (fun _ _ _ _ _ _=>nF (fun _ _ _=>rfl))
  .exact bG (f:=656) KX G (R0 _) (fun _ _ _ _ _ _=>nF (fun _ _ _=>rfl))
  .exact bG (f:=663) KX G (Sh _) (fun _ _ _ _ _ _=>oW (fun _=>rfl))
  .exact bG (f:=668) KX G (RL _) (fun _ _ _ _ _ _=>oW (fun _=>rfl))
  .exact bG (f:=675) KX G (RK _) (fun _ _ _ _ _ _=>oW (fun _=>rfl))
 case B=>
  exact LJ KX G
theorem walk{l:OpenLaw}{q:Program}{lo:List Str}{XP:(Str->Option Value)->Heap->Prop}{YP:World->Heap->Prop}{d:DefRec}(hn:l.most=some 63)(hdf:d.params.defaults=[])(hY:∀(w:World)(h:Heap),YP w h->(K w.params).In h)(hd:d.name= "law"):WalkO q lo XP YP l.row.toRowW d [] (fun f vs=>PySem.call f vs):=
 Ew (T:=T) (Ds:=Ds) (i:=37) (k:=45) Rw Sd rfl hn hdf hY hd facts (by exact⟨rfl,by decide,by decide⟩) fun ns hl=>CZ ns
end K10G
open PySem PySem.W PyProof.Rows
set_option maxRecDepth 100000 in
set_option maxHeartbeats 0 in
theorem PySem.Challenge.cw_twomeet_k10_likenesses_written_holds : PySem.Challenge.rw_twomeet_k10_likenesses_written.Holds := by
 w_on;o_law
 refine holds_open (q:=K10G.view) (loose:=K10G.loose) (Xt:=K10G.seen) (XP:=XL K10G.view []) (Yf:=Hook.obs K10G.H) (Ya:=Hook.val K10G.H) (YP:=Hook.says K10G.H) (N:=12000) K10G.left (Hook.of K10G.H) (Hook.keeps K10G.H) (fun s e=>xl_of s (kx.mp e).1) XL.keeps (by rfl) (by rfl) (by rfl) (fun s e=>recFacts_of (kx.mp e).2) (by rfl) (by assumption) (by decide+kernel) ⟨rfl,rfl,rfl,rfl,rfl,by decide+kernel⟩ ?hw ?hc
 case hw=>w_witness2
 exact K10G.walk (l:=PySem.Challenge.rw_twomeet_k10_likenesses_written) rfl rfl (fun w h Y=>kIn_of Y) rfl

