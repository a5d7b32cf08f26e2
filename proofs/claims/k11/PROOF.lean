import PyProof.Rows.All
import Wide.All
import OpenK.AllK
import Wide.FinOn
import Lean
import PyProof.EqAt
import PyProof.EqKinds
import PyProof.TupleCall
import PySem.Challenge.RW_twomeet_k11_definitions_told_or_refused
set_option Elab.async false
set_option linter.all false
set_option maxRecDepth 100000
set_option maxHeartbeats 4000000
set_option compiler.extract_closed false
noncomputable section
abbrev aJ:=PySem.Value->PySem.Shared->Prop
abbrev aO:=List (PySem.Addr×PySem.Obj)
abbrev u6:=@Array.getElem?_eq_some_iff
abbrev HY:=@Array.length_toList
abbrev aB:=@Bool.and_eq_true
abbrev pT:=@Bool.and_eq_true_iff
abbrev rB:=@Bool.beq_eq_decide_eq
abbrev x9:=@Bool.false_eq_true
abbrev e9:=@Bool.false_ne_true
abbrev zk:=@Bool.not_eq_true
abbrev mI:=@Bool.not_eq_true'
abbrev Ih:=@Bool.or_eq_true
abbrev Bk:=@PySem.Calls.callWith_builtin
abbrev FK:=@PySem.Calls.evalArgs_plain
abbrev w9:=@PySem.Calls.spliced_cons
abbrev FY:=@PySem.Calls.spliced_nil
abbrev Ca:=@PySem.Code.quiet_builtin
abbrev Gh:=@PySem.F.slot_list_getattribute
abbrev Bp:=@PySem.F.slot_tuple_iterator_next
abbrev BG:=@PySem.F.slot_zip_next
abbrev yf:=@Function.comp_def
abbrev Gm:=@PySem.Heap.get?_none_of_le
abbrev bj:=@PySem.Heap.get?_push_of_some
abbrev dC:=@PySem.Heap.get?_push_size
abbrev mQ:=@PySem.Heap.get?_update_other
abbrev uz:=@PySem.Heap.get?_update_self
abbrev bp:=@PySem.Heap.lt_size
abbrev jE:=@PySem.Heap.size_push
abbrev fL:=@List.all_cons
abbrev kS:=@List.all_eq_true
abbrev mP:=@List.any_cons
abbrev xl:=@List.append_assoc
abbrev GS:=@List.append_cancel_left
abbrev jf:=@List.append_nil
abbrev pf:=@List.cons_append
abbrev B0:=@List.contains_eq_mem
abbrev uB:=@List.contains_iff_mem
abbrev Cf:=@List.filterMap_cons
abbrev uX:=@List.find?_cons
abbrev uJ:=@List.flatten_cons
abbrev uv:=@List.forall_mem_cons
abbrev ja:=@List.getElem?_append_left
abbrev om:=@List.getElem?_append_right
abbrev fM:=@List.getElem?_cons_succ
abbrev c6:=@List.getElem?_cons_zero
abbrev mL:=@List.getElem?_eq_getElem
abbrev Ff:=@List.getElem?_eq_none
abbrev pW:=@List.getElem?_eq_none_iff
abbrev eK:=@List.getElem?_eq_some_iff
abbrev oy:=@List.getElem?_map
abbrev FJ:=@List.getElem?_replicate
abbrev iE:=@List.getElem?_set_ne
abbrev jC:=@List.getElem?_set_self
abbrev AR:=@List.getElem_mem
abbrev n5:=@List.length_append
abbrev dX:=@List.length_cons
abbrev F7:=@List.length_drop
abbrev j3:=@List.length_map
abbrev lO:=@List.length_nil
abbrev xb:=@List.length_set
abbrev yJ:=@List.length_take
abbrev fi:=@List.lookup_cons
abbrev aX:=@List.map_cons
abbrev uF:=@List.map_map
abbrev eM:=@List.map_nil
abbrev sx:=@List.mem_append
abbrev Hr:=@List.mem_append_left
abbrev j8:=@List.mem_append_right
abbrev cQ:=@List.mem_cons
abbrev fK:=@List.mem_cons_of_mem
abbrev rE:=@List.mem_cons_self
abbrev pP:=@List.mem_map
abbrev xS:=@List.mem_of_getElem?
abbrev pS:=@List.mem_singleton
abbrev jw:=@List.nil_append
abbrev oo:=@List.nodup_cons
abbrev kR:=@List.not_mem_nil
abbrev pJ:=@List.replicate_succ
abbrev Bg:=@List.reverse_cons
abbrev Cn:=@List.set_append_right
abbrev g9:=@List.set_cons_succ
abbrev gY:=@List.set_cons_zero
abbrev yG:=@List.set_set
abbrev cR:=@List.size_toArray
abbrev Hq:=@Nat.add_le_add_right
abbrev xH:=@Nat.le_add_right
abbrev AV:=@Nat.le_of_lt
abbrev aG:=@Nat.le_refl
abbrev jx:=@Nat.le_succ
abbrev cS:=@Nat.le_trans
abbrev uT:=@Nat.lt_irrefl
abbrev FH:=@Nat.lt_of_le_of_lt
abbrev cU:=@Nat.lt_of_lt_of_le
abbrev xU:=@Nat.lt_or_ge
abbrev A8:=@Nat.lt_succ_of_lt
abbrev uS:=@Nat.lt_succ_self
abbrev rJ:=@Nat.ne_of_gt
abbrev b7:=@Nat.ne_of_lt
abbrev lE:=@Nat.not_lt
abbrev mR:=@Nat.pow_le_pow_right
abbrev uE:=@Nat.pow_succ
abbrev rS:=@Nat.succ.inj
abbrev sT:=@Nat.zero_le
abbrev bc:=@Ne.symm
abbrev sQ:=@PySem.Obj.data_mapFields
abbrev wx:=@PySem.Obj.isFreed_of_fields
abbrev dy:=@Option.bind_eq_some_iff
abbrev qO:=@Option.bind_some
abbrev wj:=@Option.isNone_iff_eq_none
abbrev qm:=@Option.isSome_iff_exists
abbrev BI:=@Option.isSome_map
abbrev iQ:=@Option.map_eq_some_iff
abbrev eO:=@Option.some.inj
abbrev tR:=@PyProof.Rows.callWith_type1
abbrev BB:=@PyProof.Rows.slot_tuple_getitem
abbrev Be:=@PySem.F.args_tuple_add_2
abbrev wb:=@PySem.F.entry_dict_get
abbrev Cg:=@PySem.F.entry_tuple_add
abbrev BY:=@PySem.F.plainAttrs_list
abbrev qH:=@PySem.F.slot_dict_get
abbrev Ck:=@PySem.F.slot_tuple_add
abbrev B6:=@PySem.W.Looks.here
abbrev mC:=@PySem.W.callWith_K
abbrev A0:=@PySem.W.check_slot
abbrev v7:=@PySem.W.looks_clsIn
abbrev mG:=@PySem.W.looks_findIn
abbrev AZ:=@PySem.W.looks_mroIn
abbrev wu:=@PySem.W.methodCall_KW
abbrev gR:=@PySem.W.mg_none_of
abbrev dG:=@PySem.W.mg_of
abbrev A2:=@PySem.W.plainGet_of
abbrev kC:=@PySem.mem_of_lookup
abbrev BJ:=@PySem.SeqAt.EqAt.int_str
abbrev Bf:=@PySem.SeqAt.EqAt.str_int
abbrev oN:=@True.intro
abbrev gG:=@beq_eq_false_iff_ne
abbrev jb:=@beq_iff_eq
abbrev oq:=@PySem.call_meets
abbrev wg:=@PySem.call_meetsIn
abbrev v8:=@PySem.codeAny_call_builtin
abbrev oa:=@PySem.codeAny_mono
abbrev eN:=@congrArg
abbrev dz:=@decide_eq_false
abbrev ub:=@decide_eq_true
abbrev aN:=@decide_eq_true_eq
abbrev qN:=@decide_false
abbrev i7:=@if_false
abbrev fZ:=@if_true
abbrev qk:=@PySem.lookup_relabel_local
abbrev B3:=@PySem.noFill_tuple_add
abbrev jK:=@or_false
abbrev A9:=@PySem.pastItsLine_dict
abbrev IH:=@PySem.plainObj_wpAny_Assign_Attribute
abbrev fA:=@PySem.sizeLine_eq
abbrev BO:=@PySem.slot_dict_contains
abbrev Bh:=@PySem.slot_dict_getitem
abbrev qo:=@PySem.tupleKind_room_in1
abbrev oJ:=@PySem.wpAny_Call_Name_kw
abbrev Cu:=@PySem.wpAny_Return_some
abbrev ug:=@PySem.wpAny_attempt
abbrev af:=@PySem.wpAny_bind
abbrev jI:=@PySem.wpAny_call
abbrev qc:=@PySem.wpAny_callSpecial?_slot
abbrev nX:=@PySem.wpAny_call_entry
abbrev Cy:=@PySem.wpAny_execs_cons
abbrev qj:=@PySem.wpAny_execs_nil
abbrev dJ:=@PySem.wpAny_field
abbrev eX:=@PySem.wpAny_holding
abbrev qy:=@PySem.wpAny_isSubtype_exc
abbrev sS:=@PySem.wpAny_ite_false
abbrev wd:=@PySem.wpAny_loadPart
abbrev qM:=@PySem.wpAny_loadPart'
abbrev ie:=@PySem.wpAny_loadPart_at
abbrev AM:=@PySem.wpAny_lookBehind
abbrev Bv:=@PySem.wpAny_madeBy_exc
abbrev fj:=@PySem.wpAny_mono
abbrev kq:=@PySem.wpAny_newObj_type
abbrev qu:=@PySem.wpAny_onRaise
abbrev nQ:=@PySem.wpAny_passesOwn
abbrev ah:=@PySem.wpAny_pure
abbrev lV:=@PySem.wpAny_pyIter_list
abbrev oC:=@PySem.wpAny_pyIter_tuple
abbrev qA:=@PySem.wpAny_rule
abbrev mJ:=@PySem.wpAny_seqItems
abbrev tB:=@PySem.wpAny_setField
abbrev qQ:=@PySem.wpAny_setField_rec
abbrev nO:=@PySem.wpAny_standAt
abbrev qv:=@PySem.wpAny_truthy_bool
abbrev Cv:=@PySem.wpAny_updateSeq_pair
theorem Exists.g{α:Sort u}{p:α->Prop}{b:Prop}(h:∃x,p x)(k:∀a,p a->b):b:=Exists.elim h k
theorem And.g{a b c:Prop}(h:a/\b)(k:a->b->c):c:=k h.1 h.2
theorem Exists.g4{α:Sort u}{β:Sort v}{p q s:α->β->Prop}{r:Prop}(h:∃a b,p a b/\q a b/\s a b)(k:∀a b,p a b->q a b->s a b->r):r:=h.elim fun a h=>h.elim fun b h=>k a b h.1 h.2.1 h.2.2
theorem Exists.g6{α:Sort u}{β:Sort v}{γ:Sort w}{p q s t:α->β->γ->Prop}{r:Prop}(h:∃a b c,p a b c/\q a b c/\s a b c/\t a b c)(k:∀a b c,p a b c->q a b c->s a b c->t a b c->r):r:=h.elim fun a h=>h.elim fun b h=>h.elim fun c h=>k a b c h.1 h.2.1 h.2.2.1 h.2.2.2
namespace L2
open PySem PySem.Spec PyProof.Rows
noncomputable abbrev Key:=Sum Int Str
noncomputable def jj:Key->Value->Bool
 |.inl k,v=>Value.isInt k v
 |.inr x,v=>Value.isStrOf x v
def Sh(w:World):Key->Int
 |.inl k=>hashInt k
 |.inr x=>hashStr w x
theorem cJ:∀{k:Key}{v:Value},jj k v=true->(∃i t,k=Sum.inl i/\v=Value.int i t)\/(∃x t,k=Sum.inr x/\v=Value.str x t)
 |.inl i,v,h=>by
  obtain⟨t,e⟩:=Value.isInt_shape (k:=i) (v:=v) h;exact .inl ⟨i,t,rfl,e⟩
 |.inr x,v,h=>by
  obtain⟨t,e⟩:=Value.isStrOf_shape (x:=x) (v:=v) h;exact .inr ⟨x,t,rfl,e⟩
theorem EG(i:Int)(t:Tok):jj (.inl i) (.int i t)=true:=by simp[jj,Value.isInt]
theorem DT(x:Str)(t:Tok):jj (.inr x) (.str x t)=true:=by simp[jj,Value.isStrOf]
theorem xh(a b:Int):decide ((Sum.inl a:Key)=Sum.inl b)=(a== b):=by
 by_cases e:a=b
 .subst e;simp
 .have h:¬ (Sum.inl a:Key)=Sum.inl b:=fun q=>e (Sum.inl.inj q);rw[dz h];exact (gG.mpr e).symm
theorem xr(a b:Str):decide ((Sum.inr a:Key)=Sum.inr b)=decide (a=b):=by
 by_cases e:a=b
 .subst e;simp
 .have h:¬ (Sum.inr a:Key)=Sum.inr b:=fun q=>e (Sum.inr.inj q);rw[dz h,dz e]
theorem w8(a:Int)(b:Str):decide ((Sum.inl a:Key)=Sum.inr b)=false:=dz (fun q=>nomatch q)
theorem yM(a:Str)(b:Int):decide ((Sum.inr a:Key)=Sum.inl b)=false:=dz (fun q=>nomatch q)
def bS(prog:Program)(w:World):PySem.KeyKind prog w Key where
 is:=jj
 hash:=Sh w
 inj:=fun v a b ha hb=>by
  rcases cJ ha with ⟨i,t,rfl,rfl⟩|⟨x,t,rfl,rfl⟩
  .rcases cJ hb with ⟨j,u,rfl,e⟩|⟨y,u,rfl,e⟩
   .injection e with e1 _;rw[e1]
   .exact nomatch e
  .rcases cJ hb with ⟨j,u,rfl,e⟩|⟨y,u,rfl,e⟩
   .exact nomatch e
   .injection e with e1 _;rw[e1]
 byValue:=fun k v h=>by
  rcases cJ h with ⟨i,t,rfl,rfl⟩|⟨x,t,rfl,rfl⟩<;>rfl
 pyHash:=fun hv h=>by
  rcases cJ hv with ⟨i,t,rfl,rfl⟩|⟨x,t,rfl,rfl⟩
  .exact wpAny_pyHash_int h
  .exact wpAny_pyHash_str h
 eqBool:=fun hu hv h=>by
  rcases cJ hu with ⟨i,t,rfl,rfl⟩|⟨x,t,rfl,rfl⟩
  .rcases cJ hv with ⟨j,u,rfl,rfl⟩|⟨y,u,rfl,rfl⟩
   .rw[xh] at h;exact wpAny_eqBool_int h
   .rw[w8] at h;exact BJ i t y u _ _ _ _ h
  .rcases cJ hv with ⟨j,u,rfl,rfl⟩|⟨y,u,rfl,rfl⟩
   .rw[yM] at h;exact Bf x t j u _ _ _ _ h
   .rw[xr] at h;exact wpAny_eqBool_str h
 «strs» := fun k x t v h=>by
  rcases cJ h with ⟨i,u,rfl,e⟩|⟨y,u,rfl,e⟩
  .exact nomatch e
  .injection e with e1 _;subst e1;cases v<;>rfl
theorem yX(prog:Program)(w:World)(i:Int)(t:Tok):(bS prog w).is (.inl i) (.int i t)=true:=EG i t
theorem y8(prog:Program)(w:World)(x:Str)(t:Tok):(bS prog w).is (.inr x) (.str x t)=true:=DT x t
inductive V where
 |aq|bl (b:Bool)|int (i:Int)|str (x:Str)|byt (b:Array UInt8)|flt (b:UInt64)|ref (a:Addr)|ty (n:String)
 deriving DecidableEq
noncomputable def RelV:V->Value->Prop
 |.aq,u=>u=Value.none
 |.bl b,u=>u=Value.bool b
 |.int i,u=>∃t,u=Value.int i t
 |.str x,u=>∃t,u=Value.str x t
 |.byt b,u=>∃t,u=Value.bytes b t
 |.flt b,u=>∃t,u=Value.float b t
 |.ref a,u=>u=Value.ref a
 |.ty n,u=>u=Value.type n
abbrev Vals:List V->List Value->Prop:=Paired RelV
theorem Vals.length{xs:List V}{us:List Value}(r:Vals xs us):xs.length=us.length:=Paired.length r
theorem Vals.get:∀{xs:List V}{us:List Value}{i:Nat}{x:V},Vals xs us->xs[i]?=some x->∃u,us[i]?=some u/\RelV x u
 |_,_,_,_,.nil,e=>by simp at e
 |_,_,0,_,.cons r _,e=>by simp at e;subst e;exact⟨_,rfl,r⟩
 |_,_,i+1,x,.cons _ t,e=>by
  obtain⟨u,h1,h2⟩:=Vals.get (i:=i) (x:=x) t (by simpa using e);exact⟨u,by simpa using h1,h2⟩
theorem Vals.set{x:V}{u:Value}(r:RelV x u):∀{xs:List V}{us:List Value}(i:Nat),Vals xs us->Vals (xs.set i x) (us.set i u)
 |_,_,_,.nil=>.nil
 |_,_,0,.cons _ t=>.cons r t
 |_,_,i+1,.cons q t=>.cons q (Vals.set r i t)
theorem Vals.append:∀{xs ys:List V}{us ws:List Value},Vals xs us->Vals ys ws->Vals (xs++ys) (us++ws)
 |_,_,_,_,.nil,s=>s
 |_,_,_,_,.cons r t,s=>.cons r (Vals.append t s)
theorem Vals.take:∀{xs:List V}{us:List Value}(n:Nat),Vals xs us->Vals (xs.take n) (us.take n)
 |_,_,0,_=>.nil
 |_,_,_+1,.nil=>.nil
 |_,_,n+1,.cons r t=>.cons r (Vals.take n t)
theorem Vals.drop:∀{xs:List V}{us:List Value}(n:Nat),Vals xs us->Vals (xs.drop n) (us.drop n)
 |_,_,0,r=>r
 |_,_,_+1,.nil=>.nil
 |_,_,n+1,.cons _ t=>Vals.drop n t
noncomputable def eU:Option V->Option Value->Prop
 |some v,some u=>RelV v u
 |none,none=>True
 |_,_=>False
def KV{κ:Type}:List (κ×V)->List (κ×Value)->Prop:=Paired fun (p:κ×V) (q:κ×Value)=>p.1=q.1/\RelV p.2 q.2
noncomputable def kV:Key->V
 |.inl i=>.int i
 |.inr x=>.str x
inductive HO where
 |lst (xs:List V)
 |tup (xs:List V)
 |dK (kvs:List (Key×V))|dT (kvs:List (List Key×V))
 |set (S:Int->Bool) (n:Nat)
 |ins (C dx:Addr) (fs:List (Str×V))
 |own (x:Addr)
 |xd (fs:List (Str×V))
 |met (f x:Addr)
 |kj (lo hi:Int)
 |bR (o:Obj) (u:HO)
 |w5 (ps:Array Value)
 |ext (φ:Heap->Prop)
noncomputable abbrev Hp:=Addr->Option HO
noncomputable def upd(H:Hp)(a:Addr)(o:HO):Hp:=fun b=>if b=a then some o else H b
theorem aM{H:Hp}{a:Addr}{o:HO}:upd H a o a=some o:=by unfold upd;rw[if_pos rfl]
theorem az{H:Hp}{a b:Addr}{o:HO}(h:b≠a):upd H a o b=H b:=by unfold upd;rw[if_neg h]
theorem qt{H:Hp}{a:Addr}{o u:HO}:upd (upd H a o) a u=upd H a u:=by funext b;unfold upd;split<;>rfl
theorem P1{H:Hp}{a b:Addr}{o u:HO}(h:H a=some o)(h':H b=some u)(d:o≠u):a≠b:=by intro e;subst e;rw[h] at h';exact d (eO h')
theorem cq{H:Hp}{a b:Addr}{o:HO}(h:H a=some o)(h':H b=none):a≠b:=by intro e;subst e;rw[h] at h';cases h'
section
variable (P:Program) (w:World)
def bT(H:Hp)(h:Heap)(a:Addr):HO->Prop
 |.lst xs=>xs.length<=sizeLine/\∃(its:List Value) (n:Nat),Vals xs its/\h.get? a=some {cls:=.type "list",data:=.seq its.toArray n}
 |.tup xs=>xs.length<=sizeLine/\∃its:List Value,Vals xs its/\IsTup h a its.toArray
 |.dK kvs=>kvs.length<=sizeLine/\(a== sysModules)=false/\∃vs,KV kvs vs/\h.DictOf (bS P w) a vs
 |.dT kvs=>kvs.length<=sizeLine/\(a== sysModules)=false/\∃xs:List (List Key×Addr×Value),
   Paired (fun (p:List Key×V) (q:List Key×Addr×Value)=>p.1=q.1/\H q.2.1=some (.tup (p.1.map kV))/\RelV p.2 q.2.2) kvs xs/\
   ∃o es ep,h.get? a=some o/\o.ExactDict/\o.data=.dict es ep/\es.toList=xs.map (entryOfKey (tupleKind (bS P w)))/\(xs.map (·.1)).Nodup
 |.set S n=>h.SetOf (intKind P w) a S n
 |.ins C dx fs=>H dx=some (.own a)/\fs.length<=1000/\dx≠a/\h.get? a=some (W.instObj C dx)/\
   ∃mA,h.Ns1 dx mA/\(∀f,eU (fs.lookup f) (mA f))/\PySem.Within mA (fs.map (·.1))
 |.own _=>∃o,h.get? a=some o
 |.xd fs=>∃mA,h.Ns1 a mA/\∀f,eU (fs.lookup f) (mA f)
 |.kj lo hi=>∃t u v,h.get? a=some {cls:=.type "range",data:=.fields #[.int lo t,.int hi u,.int 1 v]}
 |.bR o u=>h.get? a=some o/\bT H h a u
 |.w5 ps=>h.get? a=some {cls:=.none,data:=.fields ps}
 |.met f x=>h.get? a=some (W.methodObj (.ref f) (.ref x))
 |.ext φ=>φ h/\(∃o,h.get? a=some o)/\∀h1 h2:Heap,φ h1->(∀o,h1.get? a=some o->h2.get? a=some o)->φ h2
def di(H:Hp)(h:Heap):Prop:=∀a o,H a=some o->bT P w H h a o
end
section
variable {P:Program}{w:World}{H H':Hp}{h h':Heap}{a:Addr}{o:HO}
theorem bT.lt(x:bT P w H h a o):a<h.objs.size:=by
 cases o with
 |lst xs=>obtain⟨_,_,_,_,e⟩:=x;exact bp e
 |tup xs=>obtain⟨_,_,_,p⟩:=x;exact p.lt
 |dK kvs=>obtain⟨_,_,_,_,o,_,_,e,_⟩:=x;exact bp e
 |dT kvs=>obtain⟨_,_,_,_,o,_,_,e,_⟩:=x;exact bp e
 |set S n=>obtain⟨o,_,_,_,e,_⟩:=x;exact bp e
 |ins C dx fs=>obtain⟨_,_,_,e,_⟩:=x;exact bp e
 |own y=>obtain⟨_,e⟩:=x;exact bp e
 |xd fs=>obtain⟨_,⟨_,_,_,e,_⟩,_⟩:=x;exact bp e
 |kj lo hi=>obtain⟨_,_,_,e⟩:=x;exact bp e
 |bR ob u=>obtain⟨e,_⟩:=x;exact bp e
 |w5 ps=>exact bp (show h.get? a=some _ from x)
 |met f y=>exact bp (show h.get? a=some _ from x)
 |ext φ=>obtain⟨_,⟨_,e⟩,_⟩:=x;exact bp e
theorem Paired.F5{α β:Type}{F G:α->β->Prop}:∀{l₁:List α}{l₂:List β},Paired F l₁ l₂->(∀a b,F a b->G a b)->Paired G l₁ l₂
 |_,_,.nil,_=>.nil
 |_,_,.cons r t,f=>.cons (f _ _ r) (Paired.F5 t f)
theorem bT.fT(x:bT P w H h a o)(k:∀b u,(b=a\/H b=some (.own a))->h.get? b=some u->h'.get? b=some u)
  (ho:∀b,H b=some (.own a)->H' b=some (.own a)) (ht:∀b xs,H b=some (.tup xs)->H' b=some (.tup xs)):bT P w H' h' a o:=by
 induction o with
 |lst xs=>obtain⟨z,its,n,r,e⟩:=x;exact⟨z,its,n,r,k _ _ (.inl rfl) e⟩
 |tup xs=>obtain⟨z,its,r,ob,e,c⟩:=x;exact⟨z,its,r,ob,k _ _ (.inl rfl) e,c⟩
 |dK kvs=>obtain⟨z,y,vs,r,ob,es,ep,e,c⟩:=x;exact⟨z,y,vs,r,ob,es,ep,k _ _ (.inl rfl) e,c⟩
 |dT kvs=>
  obtain⟨z,y,xs,r,ob,es,ep,e,c⟩:=x;exact⟨z,y,xs,Paired.F5 r fun p q z=>⟨z.1,ht _ _ z.2.1,z.2.2⟩,ob,es,ep,k _ _ (.inl rfl) e,c⟩
 |set S n=>obtain⟨ob,es,ep,t,e,c⟩:=x;exact⟨ob,es,ep,t,k _ _ (.inl rfl) e,c⟩
 |ins C dx fs=>
  obtain⟨d,z,ne,e,mA,⟨od,es,ep,e2,c⟩,r⟩:=x;exact⟨ho _ d,z,ne,k _ _ (.inl rfl) e,mA,⟨od,es,ep,k _ _ (.inr d) e2,c⟩,r⟩
 |own y=>obtain⟨ob,e⟩:=x;exact⟨ob,k _ _ (.inl rfl) e⟩
 |xd fs=>obtain⟨mA,⟨od,es,ep,e,c⟩,r⟩:=x;exact⟨mA,⟨od,es,ep,k _ _ (.inl rfl) e,c⟩,r⟩
 |kj lo hi=>obtain⟨t,u,v,e⟩:=x;exact⟨t,u,v,k _ _ (.inl rfl) e⟩
 |bR ob u ih=>obtain⟨e,q⟩:=x;exact⟨k _ _ (.inl rfl) e,ih q⟩
 |w5 ps=>
  have e:h.get? a=some {cls:=.none,data:=.fields ps}:=x;show h'.get? a=some {cls:=.none,data:=.fields ps};exact k a _ (.inl rfl) e
 |met f y=>
  have e:h.get? a=some (W.methodObj (.ref f) (.ref y)):=x;show h'.get? a=some (W.methodObj (.ref f) (.ref y));exact k a _ (.inl rfl) e
 |ext φ=>obtain⟨p,⟨o,e⟩,st⟩:=x;exact⟨st _ _ p fun o q=>k _ _ (.inl rfl) q,⟨o,k _ _ (.inl rfl) e⟩,st⟩
theorem di.lt(x:di P w H h)(e:H a=some o):a<h.objs.size:=(x a o e).lt
theorem di.fresh(x:di P w H h)(e:h.objs.size<=a):H a=none:=by
 cases q:H a with
 |none=>rfl
 |some u=>exact absurd (cU (x.lt q) e) (uT _)
theorem di.kept(x:di P w H h)(k:∀b u,h.get? b=some u->h'.get? b=some u):di P w H h':=fun a o e=>
 (x a o e).fT (fun b u _ q=>k b u q) (fun _ q=>q) fun _ _ q=>q
theorem di.laid(x:di P w H h)(k:∀b u,h.get? b=some u->h'.get? b=some u)(hp:h.objs.size<=a)(new:bT P w (upd H a o) h' a o):di P w (upd H a o) h':=fun b u e=>by
 have hn:=x.fresh hp;by_cases hb:b=a
 .subst hb;rw[aM] at e;cases e;exact new
 .rw[az hb] at e;exact (x b u e).fT (fun c v _ q=>k c v q) (fun c q=>by rw[az (cq q hn)];exact q) fun c xs q=>by rw[az (cq q hn)];exact q
end
def Rd(H:Hp)(a:Addr)(u:HO):Prop:=H a=some u\/∃o,H a=some (.bR o u)
theorem Rd.ok{P:Program}{w:World}{H:Hp}{h:Heap}{a:Addr}{u:HO}(r:Rd H a u)(x:di P w H h):bT P w H h a u:=by
 rcases r with r|⟨o,r⟩
 .exact x a u r
 .obtain⟨_,q⟩:=x a _ r;exact q
noncomputable def Ec:Option HO->Prop
 |some (.lst _)=>True
 |some (.dK _)=>True
 |some (.dT _)=>True
 |some (.set _ _)=>True
 |some (.ins _ _ _)=>True
 |some (.ext _)=>True
 |_=>False
section
variable {P:Program}{w:World}{H:Hp}{h h':Heap}{x e:Addr}{o':HO}
theorem di.write(ok:di P w H h)(mu:Ec (H x))(he:e=x\/H e=some (.own x))(k:∀b u,b≠e->h.get? b=some u->h'.get? b=some u)(heo:∃u,h'.get? e=some u)
  (new:bT P w (upd H x o') h' x o'):di P w (upd H x o') h':=fun b u q=>by
 have nown:∀c y,H c=some (.own y)->c≠x:=fun c y r z=>by subst z;rw[r] at mu;exact mu
 have ntup:∀c xs,H c=some (.tup xs)->c≠x:=fun c xs r z=>by subst z;rw[r] at mu;exact mu
 by_cases hb:b=x
 .subst hb;rw[aM] at q;cases q;exact new
 .rw[az hb] at q;by_cases hbe:b=e
  .have q':H b=some (.own x):=by
    rcases he with z|z
    .exact absurd (hbe.trans z) hb
    .rw[hbe];exact z
   rw[q] at q';cases q';obtain⟨v,hv⟩:=heo;exact⟨v,by rw[hbe];exact hv⟩
  .refine (ok b u q).fT (fun c v hc r=>k c v ?_ r) (fun c r=>by rw[az (nown c b r)];exact r) fun c xs r=>by rw[az (ntup c xs r)];exact r
   rcases hc with rfl|hc
   .exact hbe
   .rintro rfl
    rcases he with z|z
    .exact nown c b hc z
    .rw[hc] at z;cases z;exact hb rfl
end
structure Un(fs ex:List Addr)(H H':Hp)(h h':Heap):Prop where
 keep:∀b o,h.get? b=some o->H b=none->b∉fs->b∉ex->h'.get? b=some o
 slot:∀b o,h.get? b=some o->H b=none->b∈fs->b∉ex->∃sl,h'.get? b=some {o with slots:=sl}
 free:∀b o,h.get? b=some o->H b=none->b∉ex->H' b=none
 there:∀b o,h.get? b=some o->b∉ex->∃o',h'.get? b=some o'
 f6:∀b xs,H b=some (.tup xs)->H' b=some (.tup xs)
 fP:∀b o u,H b=some (.bR o u)->H' b=some (.bR o u)
 gB:∀b ps,H b=some (.w5 ps)->∃more,H' b=some (.w5 (ps++more))
section
variable {fs fs' ex ex':List Addr}{H H1 H2:Hp}{h h1 h2 h':Heap}{a x e:Addr}{o:HO}
theorem Un.any(u:Un fs ex H H1 h h1){b:Addr}{ob:Obj}(q:h.get? b=some ob)(n:H b=none)(hx:b∉ex):∃sl,h1.get? b=some {ob with slots:=sl}:=by
 by_cases hb:b∈fs
 .exact u.slot b ob q n hb hx
 .exact⟨ob.slots,u.keep b ob q n hb hx⟩
theorem Un.trans(a:Un fs ex H H1 h h1)(b:Un fs ex H1 H2 h1 h2):Un fs ex H H2 h h2 where
 keep:=fun c ob q n hc hx=>b.keep c ob (a.keep c ob q n hc hx) (a.free c ob q n hx) hc hx
 slot:=fun c ob q n hc hx=>by
  obtain⟨sl,e1⟩:=a.slot c ob q n hc hx;obtain⟨sl',e2⟩:=b.slot c _ e1 (a.free c ob q n hx) hc hx;exact⟨sl',e2⟩
 free:=fun c ob q n hx=>by
  obtain⟨o',e1⟩:=a.there c ob q hx;exact b.free c o' e1 (a.free c ob q n hx) hx
 there:=fun c ob q hx=>by
  obtain⟨o',e1⟩:=a.there c ob q hx;exact b.there c o' e1 hx
 f6:=fun c xs q=>b.f6 c xs (a.f6 c xs q)
 fP:=fun c ob xs q=>b.fP c ob xs (a.fP c ob xs q)
 gB:=fun c ps q=>by
  obtain⟨m1,e1⟩:=a.gB c ps q;obtain⟨m2,e2⟩:=b.gB c _ e1;exact⟨m1++m2,by rw[e2,Array.append_assoc]⟩
theorem Un.kept(k:∀b u,h.get? b=some u->h'.get? b=some u):Un fs ex H H h h':=
 ⟨fun b ob q _ _ _=>k b ob q,fun b ob q _ _ _=>⟨ob.slots,k b ob q⟩,fun _ _ _ n _=>n,fun b ob q _=>⟨ob,k b ob q⟩,fun _ _ q=>q,fun _ _ _ q=>q,fun _ ps q=>⟨#[],by rw[q];simp⟩⟩
theorem Un.refl:Un fs ex H H h h:=Un.kept fun _ _ q=>q
theorem Un.laid(k:∀b u,h.get? b=some u->h'.get? b=some u)(hp:h.objs.size<=a)(hn:H a=none):Un fs ex H (upd H a o) h h' where
 keep:=fun b u q _ _ _=>k b u q
 slot:=fun b u q _ _ _=>⟨u.slots,k b u q⟩
 free:=fun b u q n _=>by rw[az (b7 (cU (bp q) hp))];exact n
 there:=fun b u q _=>⟨u,k b u q⟩
 f6:=fun b xs q=>by rw[az (cq q hn)];exact q
 fP:=fun b u xs q=>by rw[az (cq q hn)];exact q
 gB:=fun b ps q=>⟨#[],by rw[az (cq q hn),q];simp⟩
theorem Un.write(mu:Ec (H x))(he:e=x\/H e=some (.own x))(k:∀b u,b≠e->h.get? b=some u->h'.get? b=some u)(heo:∃u,h'.get? e=some u):Un fs ex H (upd H x o) h h':=by
 have hx:∀b,H b=none->b≠x:=fun b n z=>by subst z;rw[n] at mu;exact mu
 have hb:∀b,H b=none->b≠e:=fun b n z=>by
  subst z;rcases he with r|r
  .exact hx b n r
  .rw[n] at r;cases r
 have hm:∀b u,H b=some u->¬ Ec (some u)->b≠x:=fun b u q nm z=>by subst z;rw[q] at mu;exact nm mu
 refine⟨fun b u q n _ _=>k b u (hb b n) q,fun b u q n _ _=>⟨u.slots,k b u (hb b n) q⟩,fun b u q n _=>by rw[az (hx b n)];exact n,fun b u q _=>?_,
  fun b xs q=>by rw[az (hm b _ q fun z=>z)];exact q,fun b u xs q=>by rw[az (hm b _ q fun z=>z)];exact q,fun b ps q=>⟨#[],by rw[az (hm b _ q fun z=>z),q];simp⟩⟩
 by_cases hbe:b=e
 .subst hbe;exact heo
 .exact⟨u,k b u hbe q⟩
theorem Un.mono(u:Un fs ex H H1 h h1)(hs:∀b∈fs,b∈fs')(hx:∀b∈ex,b∈ex'):Un fs' ex' H H1 h h1:=
 ⟨fun b ob q n hb he=>u.keep b ob q n (fun z=>hb (hs b z)) fun z=>he (hx b z),fun _ _ q n _ he=>u.any q n fun z=>he (hx _ z),fun b ob q n he=>u.free b ob q n fun z=>he (hx b z),fun b ob q he=>u.there b ob q fun z=>he (hx b z),u.f6,u.fP,u.gB⟩
end
noncomputable def HD(h:Heap)(H:Hp):List Addr:=(List.range h.objs.size).filter fun a=>(H a).isSome
def oO(h:Heap)(H:Hp):Heap:=W.hideAll h (HD h H)
theorem DS(h:Heap)(H:Hp):(oO h H).objs.size=h.objs.size:=W.hideAll_size _ _
theorem Hk{h:Heap}{H:Hp}{b:Addr}{o:Obj}(e:h.get? b=some o)(n:H b=none):(oO h H).get? b=some o:=
 W.hideAll_get _ e fun hm=>by
  have q:(H b).isSome=true:=(List.mem_filter.mp hm).2;rw[n] at q;simp at q
theorem Kw{h:Heap}{H:Hp}{b:Addr}{o:Obj}(e:(oO h H).get? b=some o):h.get? b=some o/\H b=none:=by
 have e':h.get? b=some o:=W.of_hideAll (HD h H) e;refine⟨e',?_⟩;cases q:H b with
 |none=>rfl
 |some x=>
  have hm:b∈HD h H:=List.mem_filter.mpr ⟨List.mem_range.mpr (bp e'),by simp[q]⟩;have z:(oO h H).get? b=none:=W.hideAll_none (HD h H) hm;rw[z] at e;cases e
noncomputable def Ko(g h:Heap)(L:Addr):aO:=(List.range h.objs.size).filterMap fun a=>if a=L\/(g.get? a).isSome=true then none else (h.get? a).map fun o=>(a,o)
def rest(g h:Heap)(L d:Addr):aO:=(Ko g h L).filter fun p=>decide (p.1≠d)
structure Mod(K:W.Frag)(mg:Str->Option Value)(base:Heap):Prop where
 rq:K.In base
 glob:base.Ns mainGlobals mg
 blt:∃mb,base.Ns builtinsNs mb/\∀x:Str,x≠ "__name__" ->mb x=bootBuiltins x
 nolimit:base.NoLimit
/-- the context:a def's body (or a comprehension's block) running. base:fixed through the whole law;aR,mY:the entry;outer:the frames whose slots others may change (a def's callers);stack:all frames that run;
  ex:iterators that were made ahead of the entry and are walked here (a comprehension's);fn:the names whose cells were made at the entry (a def:all;a comprehension's block:its own);calm:not within an except suite;pn:pins that every state bears;xe:what is wanted of an exception that leaves the code -/
structure Cx where
 prog:Program
 w:World
 K:W.Frag
 mg:Str->Option Value
 base:Heap
 A:Around
 N:List Str
 aR:Shared
 mY:Hp
 env:Env
 outer:List Env
 stack:List Env
 ex:List Addr
 fn:Str->Bool
 calm:Bool
 pn:aO
 xe:aJ
def bL(l:List Env):List Addr:=l.filterMap (·.frame)
abbrev Cx.fs(X:Cx):List Addr:=bL X.outer
def jP(sc:Scope)(x:Str):Prop:=sc.names.lookup x=some .local\/sc.names.lookup x=some .cell\/sc.names.lookup x=some .free
def Loc(sc:Scope)(x:Str):Prop:=sc.names.lookup x=some .local\/sc.names.lookup x=some .cell
def Look(env:Env)(h:Heap)(m:Str->Option Value)(x:Str)(u:Value):Prop:=
 (env.kindOf x=some .local/\m x=some u)\/((env.kindOf x=some .cell\/env.kindOf x=some .free)/\∃c,env.cells.lookup x=some c/\h.IsCell c (some u))
structure Cx.Ok(X:Cx):Prop where
 mod:Mod X.K X.mg X.base
 kind:X.env.scope.kind=.function
 glob:X.env.globals=mainGlobals
 blt:X.env.builtins=builtinsNs
 above:X.aR.heap.objs.size<=X.env.locals
 inj:∀x y c,X.env.cells.lookup x=some c->X.env.cells.lookup y=some c->x=y
 has:∀x,(X.env.kindOf x=some .cell\/X.env.kindOf x=some .free)->∃c,X.env.cells.lookup x=some c
 uf:∀x c,X.fn x=true->X.env.cells.lookup x=some c->X.aR.heap.objs.size<=c
 hd:X.calm=true->X.A.handled=none
 frames:X.A.frames=some X.stack
 vo:X.stack=X.outer\/(X.stack=X.env::X.outer/\X.env.frame=some X.env.locals)
 zP:∀b∈X.ex,b≠X.env.locals/\∀x c,X.env.cells.lookup x=some c->c≠b
 bs:∀b o,X.base.get? b=some o->X.aR.heap.get? b=some o/\X.mY b=none
 nM:X.base.objs.size<=X.aR.heap.objs.size
 oR:∀b o,X.base.get? b=some o->b∉X.ex
 p6:∀b∈X.ex,b∉X.fs
 gX:X.aR.heap.FunFrames X.base X.outer
 pv:∀b∈X.fs,X.mY b=none
structure Inv(X:Cx)(pins:aO)(σ:List (Option V))(H:Hp)(s:Shared):Prop where
 ok:X.Ok
 os:s.os=X.aR.os
 bare:AllBare s.gens
 base:Un X.fs X.ex X.mY H X.aR.heap s.heap
 loc:∃m,s.heap.Ns X.env.locals m/\∀(i:Nat)(x:Str)(v:V),X.N[i]?=some x->σ[i]?=some (some v)->jP X.env.scope x->∃u,RelV v u/\Look X.env s.heap m x u
 cell:∀x c,X.env.cells.lookup x=some c->∃v,s.heap.IsCell c v
 free:H X.env.locals=none
 eY:∀x c,X.env.cells.lookup x=some c->H c=none
 pin:∀p∈X.pn++pins,s.heap.get? p.1=some p.2/\H p.1=none/\p.1≠X.env.locals/\p.1∉X.fs/\∀v,p.2.data≠.cell v
 av:di X.prog X.w H s.heap
 len:σ.length=X.N.length
section
variable {X:Cx}{pins:aO}{σ:List (Option V)}{H H':Hp}{s:Shared}{h':Heap}
theorem Cx.Ok.Tz(ok:X.Ok){b:Addr}{o:Obj}(e:X.base.get? b=some o):b∉X.fs:=fun hb=>by
 have:=(ok.gX.mem hb).1;rw[e] at this;cases this
theorem Inv.bs(I:Inv X pins σ H s):∀b o,X.base.get? b=some o->s.heap.get? b=some o/\H b=none:=fun b o e=>
 ⟨I.base.keep b o (I.ok.bs b o e).1 (I.ok.bs b o e).2 (I.ok.Tz e) (I.ok.oR b o e),I.base.free b o (I.ok.bs b o e).1 (I.ok.bs b o e).2 (I.ok.oR b o e)⟩
theorem Inv.bk(I:Inv X pins σ H s):∀b o,X.base.get? b=some o->s.heap.get? b=some o:=fun b o e=>(I.bs b o e).1
theorem Inv.mod(I:Inv X pins σ H s):Mod X.K X.mg X.base:=I.ok.mod
theorem Inv.bE(I:Inv X pins σ H s):X.K.In s.heap:=I.ok.mod.rq.keeps I.bk
theorem Inv.lt(I:Inv X pins σ H s):X.env.locals<s.heap.objs.size:=let ⟨_,hn,_⟩:=I.loc;hn.lt
theorem Inv.sz(I:Inv X pins σ H s):X.aR.heap.objs.size<=s.heap.objs.size:=cS I.ok.above (AV I.lt)
theorem Inv.RU(I:Inv X pins σ H s){a:Addr}(h:s.heap.objs.size<=a):a∉X.fs:=fun hb=>by
 obtain⟨_,o,ho,_⟩:=I.ok.gX.mem hb;exact absurd (cU (bp ho) (cS I.sz h)) (uT _)
theorem Inv.rC(I:Inv X pins σ H s):∀x c,X.env.cells.lookup x=some c->c≠X.env.locals:=fun x c e z=>by
 obtain⟨v,o,ho,hd⟩:=I.cell x c e;obtain⟨m,⟨o',es,ep,ho',hd',_⟩,_⟩:=I.loc;rw[z,ho'] at ho;cases ho;rw[hd'] at hd;cases hd
theorem Inv.gX(I:Inv X pins σ H s):s.heap.FunFrames X.base X.outer:=by
 have all:∀(l:List Env),(∀b∈bL l,b∈X.fs)->X.aR.heap.FunFrames X.base l->s.heap.FunFrames X.base l:=by
  intro l
  induction l with
  |nil=>intro _ _;trivial
  |cons env r ih=>
   intro hs hl;obtain⟨hk,⟨L,o,hf,hn,ho,hd⟩,hr⟩:=hl;have hL:L∈X.fs:=hs L (by unfold bL;rw[Cf,hf];exact rE);obtain⟨sl,e⟩:=I.base.slot L o ho (I.ok.pv L hL) hL fun z=>I.ok.p6 L z hL;exact⟨hk,⟨L,_,hf,hn,e,hd⟩,ih (fun b hb=>hs b (by unfold bL;rw[Cf,hf];exact fK _ hb)) hr⟩
 exact all X.outer (fun _ hb=>hb) I.ok.gX
theorem Inv.stack(I:Inv X pins σ H s):s.heap.FunFrames X.base X.stack:=by
 rcases I.ok.vo with e|⟨e,hf⟩
 .rw[e];exact I.gX
 .rw[e];obtain⟨m,hn,_⟩:=I.loc;refine .cons (by rw[I.ok.kind];decide) hf hn ?_ I.gX;exact Gm (cS I.ok.nM I.ok.above)
theorem Inv.m5(I:Inv X pins σ H s):∀b∈bL X.stack,b∈X.env.locals::X.fs:=fun b hb=>by
 rcases I.ok.vo with e|⟨e,hf⟩
 .rw[e] at hb;exact fK _ hb
 .rw[e] at hb;unfold bL at hb;rw[Cf,hf] at hb;exact hb
theorem Inv.kG(I:Inv X pins σ H s):∀b∈bL X.stack,H b=none:=fun b hb=>by
 rcases cQ.mp (I.m5 b hb) with e|hb
 .rw[e];exact I.free
 .obtain⟨_,o,ho,_⟩:=I.ok.gX.mem hb;exact I.base.free b o ho (I.ok.pv b hb) fun z=>I.ok.p6 b z hb
theorem Inv.step{g':Array GenState}{t':Nat}{d':Drawn}{ch:List Addr}(I:Inv X pins σ H s)
  (hch:∀b∈ch,(b∈X.ex\/X.aR.heap.objs.size<=b)/\b≠X.env.locals/\(∀x c,X.env.cells.lookup x=some c->c≠b)/\∀p∈X.pn++pins,p.1≠b)
  (keep:∀b o,b≠X.env.locals->b∉X.fs->b∉ch->s.heap.get? b=some o->H b=none->h'.get? b=some o)
  (slot:∀b o,b≠X.env.locals->b∈X.fs->b∉ch->s.heap.get? b=some o->H b=none->∃sl,h'.get? b=some {o with slots:=sl}) (free:∀b o,b∉ch->s.heap.get? b=some o->H b=none->H' b=none)
  (there:∀b o,b∉ch->s.heap.get? b=some o->∃o',h'.get? b=some o')
  (f6:∀b xs,H b=some (.tup xs)->H' b=some (.tup xs)) (fP:∀b o u,H b=some (.bR o u)->H' b=some (.bR o u)) (gB:∀b ps,H b=some (.w5 ps)->∃more,H' b=some (.w5 (ps++more)))
  (ns:∀m,s.heap.Ns X.env.locals m->h'.Ns X.env.locals m) (av:di X.prog X.w H' h') (hg:AllBare g'):
  Inv X pins σ H' {s with heap:=h',gens:=g',drawn:=d',toks:=t'}:=by
 have neL:∀b o,X.aR.heap.get? b=some o->b≠X.env.locals:=fun b o e=>b7 (cU (bp e) I.ok.above);have neC:∀b o,X.aR.heap.get? b=some o->b∉X.ex->b∉ch:=fun b o e hx hb=>by
  rcases (hch b hb).1 with z|z
  .exact hx z
  .exact absurd (cU (bp e) z) (uT _)
 have cellK:∀x c,X.env.cells.lookup x=some c->∀v,s.heap.IsCell c v->h'.IsCell c v:=fun x c e v Z=>Z.g fun o Z=>Z.g fun ho hd=>by
  have nch:c∉ch:=fun z=>(hch c z).2.2.1 x c e rfl;by_cases hc:c∈X.fs
  .obtain⟨sl,q⟩:=slot c o (I.rC x c e) hc nch ho (I.eY x c e);exact⟨_,q,hd⟩
  .exact⟨o,keep c o (I.rC x c e) hc nch ho (I.eY x c e),hd⟩
 refine⟨I.ok,I.os,hg,⟨fun b o e n hb hx=>?_,fun b o e n hb hx=>?_,fun b o e n hx=>?_,fun b o e hx=>?_,fun b xs e=>f6 b xs (I.base.f6 b xs e),fun b o xs e=>fP b o xs (I.base.fP b o xs e),fun b ps e=>?_⟩,?_,fun x c e=>?_,?_,fun x c e=>?_,fun p hp=>?_,av,I.len⟩
 .exact keep b o (neL b o e) hb (neC b o e hx) (I.base.keep b o e n hb hx) (I.base.free b o e n hx)
 .obtain⟨sl,e1⟩:=I.base.slot b o e n hb hx;obtain⟨sl',e2⟩:=slot b _ (neL b o e) hb (neC b o e hx) e1 (I.base.free b o e n hx);exact⟨sl',e2⟩
 .obtain⟨o',e1⟩:=I.base.there b o e hx;exact free b o' (neC b o e hx) e1 (I.base.free b o e n hx)
 .obtain⟨o',e1⟩:=I.base.there b o e hx;exact there b o' (neC b o e hx) e1
 .obtain⟨m1,e1⟩:=I.base.gB b ps e;obtain⟨m2,e2⟩:=gB b _ e1;exact⟨m1++m2,by rw[e2,Array.append_assoc]⟩
 .obtain⟨m,hn,hl⟩:=I.loc;refine⟨m,ns m hn,fun i x v e1 e2 e3=>?_⟩;obtain⟨u,r,l⟩:=hl i x v e1 e2 e3;refine⟨u,r,?_⟩;rcases l with l|⟨k,c,e,z⟩
  .exact .inl l
  .exact .inr ⟨k,c,e,cellK x c e _ z⟩
 .obtain⟨v,z⟩:=I.cell x c e;exact⟨v,cellK x c e v z⟩
 .obtain⟨m,⟨o,_,_,ho,_⟩,_⟩:=I.loc;exact free _ o (fun z=>(hch _ z).2.1 rfl) ho I.free
 .obtain⟨v,o,ho,hd⟩:=I.cell x c e;exact free c o (fun z=>(hch c z).2.2.1 x c e rfl) ho (I.eY x c e)
 .obtain⟨e,n,ne,nf,d⟩:=I.pin p hp;have nch:p.1∉ch:=fun z=>(hch p.1 z).2.2.2 p hp rfl;exact⟨keep p.1 p.2 ne nf nch e n,free p.1 p.2 nch e n,ne,nf,d⟩
theorem Inv.un{t':Nat}(I:Inv X pins σ H s)(u:Un X.fs [] H H' s.heap h')(av:di X.prog X.w H' h'):Inv X pins σ H' {s with heap:=h',toks:=t'}:=by
 obtain⟨m,⟨o,es,ep,ho,r⟩,_⟩:=id I.loc;obtain⟨sl,hL⟩:=u.any ho I.free (by simp);exact I.step (g':=s.gens) (d':=s.drawn) (ch:=[]) (fun _ z=>nomatch z) (fun b o _ hb _ e n=>u.keep b o e n hb (by simp)) (fun b o _ hb _ e n=>u.slot b o e n hb (by simp)) (fun b o _ e n=>u.free b o e n (by simp)) (fun b o _ e=>u.there b o e (by simp)) u.f6 u.fP u.gB (fun m' hm=>by
  obtain⟨o',es',ep',ho',r'⟩:=hm;rw[ho] at ho';cases ho';exact⟨_,es',ep',hL,r'⟩) av I.bare
theorem Inv.call{g':Array GenState}{t':Nat}{d':Drawn}{ch:List Addr}(I:Inv X pins σ H s)(u:Un (bL X.stack) ch H H' s.heap h')(av:di X.prog X.w H' h')(hg:AllBare g')
  (hch:∀b∈ch,(b∈X.ex\/X.aR.heap.objs.size<=b)/\b≠X.env.locals/\(∀x c,X.env.cells.lookup x=some c->c≠b)/\∀p∈X.pn++pins,p.1≠b):
  Inv X pins σ H' {s with heap:=h',gens:=g',drawn:=d',toks:=t'}:=by
 obtain⟨m,⟨o,es,ep,ho,r⟩,_⟩:=id I.loc;obtain⟨sl,hL⟩:=u.any ho I.free fun z=>(hch _ z).2.1 rfl;exact I.step (ch:=ch) hch (fun b o hL hb hc e n=>u.keep b o e n (fun z=>(cQ.mp (I.m5 b z)).elim hL hb) hc) (fun b o _ _ hc e n=>u.any e n hc) (fun b o hc e n=>u.free b o e n hc) (fun b o hc e=>u.there b o e hc) u.f6 u.fP u.gB (fun m' hm=>by
  obtain⟨o',es',ep',ho',r'⟩:=hm;rw[ho] at ho';cases ho';exact⟨_,es',ep',hL,r'⟩) av hg
theorem Inv.turned{t':Nat}{it:Addr}(I:Inv X pins σ H s)(k:∀b o,b≠it->s.heap.get? b=some o->h'.get? b=some o)(hn:H it=none)(hL:it≠X.env.locals)
  (h1:it∈X.ex\/X.aR.heap.objs.size<=it) (h2:∀x c,X.env.cells.lookup x=some c->c≠it) (h3:∀p∈X.pn++pins,p.1≠it):Inv X pins σ H {s with heap:=h',toks:=t'}:=by
 have nit:∀b u,H b=some u->b≠it:=fun b u e z=>by rw[z,hn] at e;cases e
 refine I.step (g':=s.gens) (d':=s.drawn) (ch:=[it]) (fun b hb=>?_) (fun b o _ _ hc e _=>k b o (fun z=>hc (by simp[z])) e) (fun b o _ _ hc e _=>⟨o.slots,k b o (fun z=>hc (by simp[z])) e⟩) (fun _ _ _ _ n=>n)
  (fun b o hc e=>⟨o,k b o (fun z=>hc (by simp[z])) e⟩) (fun _ _ e=>e) (fun _ _ _ e=>e) (fun b ps e=>⟨#[],by rw[e];simp⟩) (fun m hm=>?_) (fun b u e=>?_) I.bare
 .have e:b=it:=by simpa using hb
  subst e;exact⟨h1,hL,h2,h3⟩
 .obtain⟨o,es,ep,ho,r⟩:=hm;exact⟨o,es,ep,k _ o (bc hL) ho,r⟩
 .refine (I.av b u e).fT (fun c v hc q=>k c v ?_ q) (fun _ q=>q) fun _ _ q=>q;rcases hc with z|z
  .rw[z];exact nit b u e
  .exact nit c _ z
theorem Inv.tok(I:Inv X pins σ H s)(t:Nat):Inv X pins σ H {s with toks:=t}:=I.un (h':=s.heap) (t':=t) Un.refl I.av
theorem Inv.kept{t':Nat}(I:Inv X pins σ H s)(k:∀b u,s.heap.get? b=some u->h'.get? b=some u):Inv X pins σ H {s with heap:=h',toks:=t'}:=I.un (Un.kept k) (I.av.kept k)
theorem Inv.laid{a:Addr}{o:HO}{t':Nat}(I:Inv X pins σ H s)(k:∀b u,s.heap.get? b=some u->h'.get? b=some u)(hp:s.heap.objs.size<=a)(new:bT X.prog X.w (upd H a o) h' a o):
  Inv X pins σ (upd H a o) {s with heap:=h',toks:=t'}:=I.un (Un.laid k hp (I.av.fresh hp)) (I.av.laid k hp new)
theorem Inv.write{x e:Addr}{o:HO}{t':Nat}(I:Inv X pins σ H s)(mu:Ec (H x))(he:e=x\/H e=some (.own x))(k:∀b u,b≠e->s.heap.get? b=some u->h'.get? b=some u)(heo:∃u,h'.get? e=some u)
  (new:bT X.prog X.w (upd H x o) h' x o):Inv X pins σ (upd H x o) {s with heap:=h',toks:=t'}:=I.un (Un.write mu he k heo) (I.av.write mu he k heo new)
theorem Inv.zM{pins':aO}(I:Inv X pins σ H s)(h:∀p∈pins',s.heap.get? p.1=some p.2/\H p.1=none/\p.1≠X.env.locals/\p.1∉X.fs/\∀v,p.2.data≠.cell v):Inv X pins' σ H s:=
 ⟨I.ok,I.os,I.bare,I.base,I.loc,I.cell,I.free,I.eY,fun p hp=>(sx.mp hp).elim (fun z=>I.pin p (Hr _ z)) (h p),I.av,I.len⟩
theorem sj{N:List Str}(hN:N.Nodup){i j:Nat}{x:Str}(a:N[i]?=some x)(b:N[j]?=some x):i=j:=by obtain⟨h1,e1⟩:=eK.mp a;obtain⟨h2,e2⟩:=eK.mp b;exact (List.getElem_inj hN).mp (e1.trans e2.symm)
theorem Eu{M:Model}{A:Around}{E:aJ}{i:Nat}{x:Str}{v:V}{u:Value}{Q:Unit->Shared->Prop}(I:Inv X pins σ H s)(hN:X.N.Nodup)(hi:X.N[i]?=some x)(hx:Loc X.env.scope x)(r:RelV v u)
  (h:∀s',Inv X pins (σ.set i (some v)) H s'->(∃a,Heap.SameBut a s.heap s'.heap/\(a=X.env.locals\/X.env.cells.lookup x=some a))->Q () s') (hf:X.fn x=true\/X.env.scope.names.lookup x=some .local:=by first|exact .inl rfl|exact .inr rfl|assumption):wpAny M A (storeName X.env x u) Q E s:=by
 obtain⟨m,hn,hl⟩:=id I.loc;have hcls:(X.env.scope.kind== .class || (X.env.scope.kind== .module&&X.env.locals != X.env.globals))=false:=by rw[I.ok.kind];rfl
 have hiσ:i<σ.length:=by rw[I.len];exact (eK.mp hi).1
 have rC:=I.rC;have tracked:∀{a:Addr}{h':Heap},(∃o,s.heap.get? a=some o/\H a=none)->Heap.SameBut a s.heap h'->di X.prog X.w H h':=fun {a h'} ha hs b ob e=>by
  obtain⟨_,_,hfree⟩:=ha;refine (I.av b ob e).fT (fun c w' hc q=>(hs.2 c ?_).trans q) (fun _ q=>q) fun _ _ q=>q
  rintro rfl
  rcases hc with rfl|hc
  .rw[hfree] at e;cases e
  .rw[hfree] at hc;cases hc
 rcases hx with hk|hk
 .refine wpAny_storeName_local hk hn (fun h' hn' hs=>?_) hcls;obtain⟨oL,_,_,hoL,_⟩:=id hn;refine h _ ⟨I.ok,I.os,I.bare,⟨fun b o e n hb hx=>?_,fun b o e n hb hx=>?_,I.base.free,fun b o e hx=>?_,I.base.f6,I.base.fP,I.base.gB⟩,⟨_,hn',fun j y v' e1 e2 e3=>?_⟩,fun y c e=>?_,I.free,I.eY,fun p hp=>?_,tracked ⟨oL,hoL,I.free⟩ hs,by simpa using I.len⟩ ⟨_,hs,.inl rfl⟩
  .exact (hs.2 b (b7 (cU (bp e) I.ok.above))).trans (I.base.keep b o e n hb hx)
  .obtain⟨sl,e1⟩:=I.base.slot b o e n hb hx;exact⟨sl,(hs.2 b (b7 (cU (bp e) I.ok.above))).trans e1⟩
  .obtain⟨o',e1⟩:=I.base.there b o e hx;exact⟨o',(hs.2 b (b7 (cU (bp e) I.ok.above))).trans e1⟩
  .by_cases hj:j=i
   .subst hj;rw[hi] at e1;cases e1;rw[jC hiσ] at e2;cases e2;exact⟨u,r,.inl ⟨hk,by simp⟩⟩
   .rw[iE (bc hj)] at e2;obtain⟨u',r',q⟩:=hl j y v' e1 e2 e3;refine⟨u',r',?_⟩;rcases q with ⟨k,e⟩|⟨k,c,e,z⟩
    .refine .inl ⟨k,?_⟩;have:y≠x:=fun e=>hj (sj hN e1 (e▸hi));simp[this,e]
    .exact .inr ⟨k,c,e,z.sameBut hs (rC y c e)⟩
  .obtain⟨w',z⟩:=I.cell y c e;exact⟨w',z.sameBut hs (rC y c e)⟩
  .obtain⟨e,n,ne,nf,d⟩:=I.pin p hp;exact⟨(hs.2 p.1 ne).trans e,n,ne,nf,d⟩
 .have hfn:X.fn x=true:=by
   rcases hf with z|z
   .exact z
   .rw[z] at hk;cases hk
  obtain⟨c,hc⟩:=I.ok.has x (.inl hk);obtain⟨w',z⟩:=I.cell x c hc;refine wpAny_storeName_cell I.ok.kind hk hc z (fun h' hc' hs=>?_);obtain⟨oc,hoc,hocd⟩:=id z;refine h {s with heap:=h'} ⟨I.ok,I.os,I.bare,⟨fun b o e n hb hx=>?_,fun b o e n hb hx=>?_,I.base.free,fun b o e hx=>?_,I.base.f6,I.base.fP,I.base.gB⟩,⟨m,hn.sameBut hs (bc (rC x c hc)),fun j y v' e1 e2 e3=>?_⟩,fun y c' e=>?_,I.free,I.eY,fun p hp=>?_,tracked ⟨oc,hoc,I.eY x c hc⟩ hs,by simpa using I.len⟩ ⟨c,hs,.inr hc⟩
  .exact (hs.2 b (b7 (cU (bp e) (I.ok.uf x c hfn hc)))).trans (I.base.keep b o e n hb hx)
  .obtain⟨sl,e1⟩:=I.base.slot b o e n hb hx;exact⟨sl,(hs.2 b (b7 (cU (bp e) (I.ok.uf x c hfn hc)))).trans e1⟩
  .obtain⟨o',e1⟩:=I.base.there b o e hx;exact⟨o',(hs.2 b (b7 (cU (bp e) (I.ok.uf x c hfn hc)))).trans e1⟩
  .by_cases hj:j=i
   .subst hj;rw[hi] at e1;cases e1;rw[jC hiσ] at e2;cases e2;exact⟨u,r,.inr ⟨.inl hk,c,hc,hc'⟩⟩
   .rw[iE (bc hj)] at e2;obtain⟨u',r',q⟩:=hl j y v' e1 e2 e3;refine⟨u',r',?_⟩;rcases q with q|⟨k,c',e,z'⟩
    .exact .inl q
    .refine .inr ⟨k,c',e,z'.sameBut hs ?_⟩
     rintro rfl
     exact hj (sj hN e1 (I.ok.inj _ _ _ e hc▸hi))
  .by_cases hcc:c'=c
   .subst hcc;exact⟨_,hc'⟩
   .obtain⟨w2,z2⟩:=I.cell y c' e;exact⟨w2,z2.sameBut hs hcc⟩
  .obtain⟨e,n,ne,nf,d⟩:=I.pin p hp;refine⟨(hs.2 p.1 ?_).trans e,n,ne,nf,d⟩;intro q;rw[q,hoc] at e;have q':oc=p.2:=eO e;exact d w' (by rw[<-q'];exact hocd)
theorem nP{M:Model}{A:Around}{E:aJ}{i:Nat}{x:Str}{v:V}{u:Value}{Q:Unit->Shared->Prop}(I:Inv X pins σ H s)(hN:X.N.Nodup)(hi:X.N[i]?=some x)(hx:Loc X.env.scope x)(r:RelV v u)
  (h:∀s',Inv X pins (σ.set i (some v)) H s'->Q () s') (hf:X.fn x=true\/X.env.scope.names.lookup x=some .local:=by first|exact .inl rfl|exact .inr rfl|assumption):wpAny M A (storeName X.env x u) Q E s:=
 Eu I hN hi hx r (fun s' I' _=>h s' I') hf
theorem Inv.IG{s':Shared}{ch:List Addr}(I:Inv X pins σ H s)(ho:s'.os=s.os)(u:Un (bL X.stack) ch H H' s.heap s'.heap)(av:di X.prog X.w H' s'.heap)(hg:AllBare s'.gens)
  (hch:∀b∈ch,(b∈X.ex\/X.aR.heap.objs.size<=b)/\b≠X.env.locals/\(∀x c,X.env.cells.lookup x=some c->c≠b)/\∀p∈X.pn++pins,p.1≠b):Inv X pins σ H' s':=by
 obtain⟨h',g',d',t',o'⟩:=s';have e:o'=s.os:=ho;subst e;exact I.call (g':=g') (t':=t') (d':=d') u av hg hch
end
abbrev XK:=Value->Option Addr->Hp->Prop
noncomputable abbrev St:=List (Option V)
abbrev VK:=V->Hp->Prop
abbrev TE:=St->Hp->VK->Prop
abbrev TT:=St->Hp->(Bool->Hp->Prop)->Prop
abbrev TA:=St->Hp->(List V->Hp->Prop)->Prop
structure Ends where
 nx:St->Hp->Prop
 rt:VK
 bk:St->Hp->Prop:=fun _ _=>False
 ct:St->Hp->Prop:=fun _ _=>False
abbrev TS:=Ends->St->Hp->Prop
def EP(X:Cx)(pins:aO)(σ:St)(Q:VK)(u:Value)(s':Shared):Prop:=∃v H',Inv X pins σ H' s'/\RelV v u/\Q v H'
def TP(X:Cx)(pins:aO)(σ:St)(Q:Bool->Hp->Prop)(b:Bool)(s':Shared):Prop:=∃H',Inv X pins σ H' s'/\Q b H'
def AP(X:Cx)(pins:aO)(σ:St)(Q:List V->Hp->Prop)(us:List Value)(s':Shared):Prop:=∃vs H',Inv X pins σ H' s'/\Vals vs us/\Q vs H'
def SP(X:Cx)(pins:aO)(D:Ends)(f:Flow)(s':Shared):Prop:=
 match f with
 |.next=>∃σ' H',Inv X pins σ' H' s'/\D.nx σ' H'
 |.brk=>∃σ' H',Inv X pins σ' H' s'/\D.bk σ' H'
 |.cont=>∃σ' H',Inv X pins σ' H' s'/\D.ct σ' H'
 |.ret u=>∃v σ' H',Inv X pins σ' H' s'/\RelV v u/\D.rt v H'
def PE(X:Cx)(e:Expr)(t:TE):Prop:=
 ∀(pins:aO)(s:Shared)(σ:St)(H:Hp)(Q:VK),Inv X pins σ H s->t σ H Q->wpAny (model X.prog X.w) X.A (eval e X.env) (EP X pins σ Q) X.xe s
def PT(X:Cx)(e:Expr)(t:TT):Prop:=
 ∀(pins:aO)(s:Shared)(σ:St)(H:Hp)(Q:Bool->Hp->Prop),Inv X pins σ H s->t σ H Q->wpAny (model X.prog X.w) X.A (isTrue e X.env (eval e X.env)) (TP X pins σ Q) X.xe s
def PW(X:Cx)(e:Expr)(t:TT):Prop:=
 ∀(whole:Sem Value)(pins:aO)(s:Shared)(σ:St)(H:Hp)(Q:Bool->Hp->Prop),Inv X pins σ H s->t σ H Q->wpAny (model X.prog X.w) X.A (isTrue e X.env whole) (TP X pins σ Q) X.xe s
theorem PW.pt{X:Cx}{e:Expr}{t:TT}(h:PW X e t):PT X e t:=h _
def PA(X:Cx)(es:List Expr)(t:TA):Prop:=
 ∀(pos:Pos)(pins:aO)(s:Shared)(σ:St)(H:Hp)(Q:List V->Hp->Prop),Inv X pins σ H s->t σ H Q->wpAny (model X.prog X.w) X.A (spliced (backTo pos (starEach es X.env))) (AP X pins σ Q) X.xe s
def PS(X:Cx)(st:Stmt)(t:TS):Prop:=
 ∀(pins:aO)(s:Shared)(σ:St)(H:Hp)(D:Ends),Inv X pins σ H s->t D σ H->wpAny (model X.prog X.w) X.A (exec st X.env) (SP X pins D) X.xe s
def ff(X:Cx)(st:List Stmt)(t:TS):Prop:=
 ∀(pins:aO)(s:Shared)(σ:St)(H:Hp)(D:Ends),Inv X pins σ H s->t D σ H->wpAny (model X.prog X.w) X.A (execs st X.env) (SP X pins D) X.xe s
theorem aF{α:Type}{t:Sem α}{Q Q':α->Shared->Prop}{M:Model}{A:Around}{E:aJ}{s:Shared}(h:wpAny M A t Q E s)(hQ:∀a s,Q a s->Q' a s):wpAny M A t Q' E s:=fj h hQ fun _ _ x=>x
section
variable {X:Cx}
noncomputable def wU(i:Nat):TE:=fun σ H Q=>∃v,σ[i]?=some (some v)/\Q v H
def tC(v:V):TE:=fun _ H Q=>Q v H
theorem jU{i:Nat}{x:Str}{pos:Pos}(hN:X.N[i]?=some x)(hv:jP X.env.scope x)(hd:(x== ("__debug__" : Str))=false:=by decide)(hcd:(x== ("__classdict__" : Str))=false:=by decide):PE X (.Name x pos) (wU i):=by
 intro pins s σ H Q I h;obtain⟨v,e,h⟩:=h;obtain⟨m,hn,hl⟩:=I.loc;obtain⟨u,r,l⟩:=hl i x v hN e hv;have fin:EP X pins σ Q u s:=⟨v,H,I,r,h⟩;rcases l with ⟨hk,hm⟩|⟨hk,c,hc,hcell⟩
 .exact wpAny_Name (wpAny_loadName_local I.ok.kind hk hn hm fin) hd
 .rcases hk with hk|hk
  .exact wpAny_Name (wpAny_loadName_cell I.ok.kind hk hc hcell fin) hd
  .exact wpAny_Name (wpAny_loadName_free I.ok.kind hk hc hcell fin hcd) hd
theorem OA{i j pos}:PE X (.Constant (.int i) j pos) (tC (.int i)):=fun _ _ _ H _ I h=>wpAny_Constant_int ⟨.int i,H,I.tok _,⟨_,rfl⟩,h⟩
theorem Pz{b j pos}:PE X (.Constant (.bool b) j pos) (tC (.bl b)):=fun _ _ _ H _ I h=>Constant_bool ⟨.bl b,H,I,rfl,h⟩
theorem MU{j pos}:PE X (.Constant .none j pos) (tC .aq):=fun _ _ _ H _ I h=>Constant_none ⟨.aq,H,I,rfl,h⟩
theorem DV{x j pos}:PE X (.Constant (.str x) j pos) (tC (.str x)):=fun _ _ _ H _ I h=>Calls.Constant_str ⟨.str x,H,I.tok _,⟨_,rfl⟩,h⟩
def Gl(X:Cx)(x:Str):Prop:=X.env.kindOf x=some .globalImplicit
theorem gE{E:aJ}{pins:aO}{s:Shared}{σ:St}{H:Hp}{x:Str}{u:Value}{pos:Pos}{Q:aJ}(I:Inv X pins σ H s)(hg:Gl X x)(hm:X.mg x=some u)(h:Q u s)
  (hd:(x== ("__debug__" : Str))=false:=by decide):wpAny (model X.prog X.w) X.A (eval (.Name x pos) X.env) Q E s:=
 Calls.Name_function_global I.ok.kind hg (Calls.loadGlobal_global (by rw[I.ok.glob];exact I.mod.glob.keeps I.bk) hm h) hd
theorem lM{E:aJ}{pins:aO}{s:Shared}{σ:St}{H:Hp}{x:Str}{u:Value}{pos:Pos}{Q:aJ}(I:Inv X pins σ H s)(hg:Gl X x)(hm:X.mg x=none)(hv:bootBuiltins x=some u)(h:Q u s)
  (hn:x≠ "__name__" := by decide) (hd:(x== ("__debug__" : Str))=false:=by decide):wpAny (model X.prog X.w) X.A (eval (.Name x pos) X.env) Q E s:=by
 obtain⟨mb,h1,h2⟩:=I.mod.blt;exact Calls.Name_function_global I.ok.kind hg (Calls.loadGlobal_builtin (by rw[I.ok.glob];exact I.mod.glob.keeps I.bk) hm (by rw[I.ok.blt];exact h1.keeps I.bk) ((h2 x hn).trans hv) h) hd
theorem m6{x:Str}{v:V}{u:Value}{pos:Pos}(hg:Gl X x)(hm:X.mg x=some u)(r:RelV v u)(hd:(x== ("__debug__" : Str))=false:=by decide):PE X (.Name x pos) (tC v):=
 fun _ _ _ H _ I h=>gE I hg hm ⟨v,H,I,r,h⟩ hd
theorem Ki{x:Str}{v:V}{u:Value}{pos:Pos}(hg:Gl X x)(hm:X.mg x=none)(hv:bootBuiltins x=some u)(r:RelV v u)(hn:x≠ "__name__" := by decide)(hd:(x== ("__debug__" : Str))=false:=by decide):PE X (.Name x pos) (tC v):=
 fun _ _ _ H _ I h=>lM I hg hm hv ⟨v,H,I,r,h⟩ hn hd
variable {a b:Expr}{ta tb:TE}{pos:Pos}
variable {tA tB':TT}{rest:List Expr}
noncomputable def RZ(t u:TT):TT:=fun σ H Q=>t σ H fun c H1=>if c=true then u σ H1 Q else Q false H1
noncomputable def Vq(t u:TT):TT:=fun σ H Q=>t σ H fun c H1=>if c=true then Q true H1 else u σ H1 Q
def Th(t:TT):TT:=fun σ H Q=>t σ H fun c H1=>Q (!c) H1
theorem KL(ha:PT X a tA):PW X (.BoolOp .And [a] pos) tA:=by
 intro wh pins s σ H Q I h;refine isTrue_and (aF (ha pins s σ H Q I h) fun c s1 e=>?_);cases c with
 |true=>exact isTrue_and_nil e
 |false=>exact e
theorem MZ(ha:PT X a tA):PW X (.BoolOp .Or [a] pos) tA:=by
 intro wh pins s σ H Q I h;refine isTrue_or (aF (ha pins s σ H Q I h) fun c s1 e=>?_);cases c with
 |false=>exact isTrue_or_nil e
 |true=>exact e
theorem Nh(ha:PT X a tA)(hb:PW X (.BoolOp .And (b::rest) pos) tB'):PW X (.BoolOp .And (a::b::rest) pos) (RZ tA tB'):=by
 intro wh pins s σ H Q I h;refine isTrue_and (aF (ha pins s σ H _ I h) fun c s1 Z=>Z.g fun H1 Z=>Z.g fun I1 q1=>?_);cases c with
 |true=>exact hb wh pins s1 σ H1 Q I1 q1
 |false=>exact⟨H1,I1,q1⟩
theorem Pq(ha:PT X a tA)(hb:PW X (.BoolOp .Or (b::rest) pos) tB'):PW X (.BoolOp .Or (a::b::rest) pos) (Vq tA tB'):=by
 intro wh pins s σ H Q I h;refine isTrue_or (aF (ha pins s σ H _ I h) fun c s1 Z=>Z.g fun H1 Z=>Z.g fun I1 q1=>?_);cases c with
 |true=>exact⟨H1,I1,q1⟩
 |false=>exact hb wh pins s1 σ H1 Q I1 q1
theorem N2(ha:PT X a tA):PT X (.UnaryOp .Not a pos) (Th tA):=by intro pins s σ H Q I h;exact isTrue_not (ha pins s σ H (fun c H1=>Q (!c) H1) I h)
noncomputable def PD(ta tb:TE):TE:=fun σ H Q=>ta σ H fun x H1=>∃c,x=.bl c/\if c=true then tb σ H1 Q else Q (.bl false) H1
noncomputable def R9(ta tb:TE):TE:=fun σ H Q=>ta σ H fun x H1=>∃c,x=.bl c/\if c=true then Q (.bl true) H1 else tb σ H1 Q
theorem MQ{op}{t:TE}(h:PE X a t):PE X (.BoolOp op [a] pos) t:=fun pins s σ H Q I hw=>BoolOp_one (h pins s σ H Q I hw)
theorem LH(ha:PE X a ta)(hb:PE X (.BoolOp .And (b::rest) pos) tb):PE X (.BoolOp .And (a::b::rest) pos) (PD ta tb):=by
 intro pins s σ H Q I h;refine BoolOp_and (aF (ha pins s σ H _ I h) fun v s1 Z=>Z.g4 fun x H1 I1 r1 q1=>?_);obtain⟨c,rfl,q1⟩:=q1;cases r1;refine qv ?_;cases c with
 |true=>exact hb pins s1 σ H1 Q I1 q1
 |false=>exact⟨.bl false,H1,I1,rfl,q1⟩
theorem P9(ha:PE X a ta)(hb:PE X (.BoolOp .Or (b::rest) pos) tb):PE X (.BoolOp .Or (a::b::rest) pos) (R9 ta tb):=by
 intro pins s σ H Q I h;refine BoolOp_or (aF (ha pins s σ H _ I h) fun v s1 Z=>Z.g4 fun x H1 I1 r1 q1=>?_);obtain⟨c,rfl,q1⟩:=q1;cases r1;refine qv ?_;cases c with
 |false=>exact hb pins s1 σ H1 Q I1 q1
 |true=>exact⟨.bl true,H1,I1,rfl,q1⟩
noncomputable def Uq(t:TT)(ta tb:TE):TE:=fun σ H Q=>t σ H fun c H1=>if c=true then ta σ H1 Q else tb σ H1 Q
theorem Gp{c:Expr}(hc:PT X c tA)(ha:PE X a ta)(hb:PE X b tb):PE X (.IfExp c a b pos) (Uq tA ta tb):=by
 intro pins s σ H Q I h;refine wpAny_IfExp (aF (hc pins s σ H _ I h) fun d s1 Z=>Z.g fun H1 Z=>Z.g fun I1 q1=>?_);cases d with
 |true=>exact ha pins s1 σ H1 Q I1 q1
 |false=>exact hb pins s1 σ H1 Q I1 q1
end
def bJ(K:W.Frag)(H:Hp)(a:Addr)(xs:List V):Prop:=
 Rd H a (.lst xs)\/
  ∃(o:Obj) (its:Array Value) (n:Nat),K.lookup a=some o/\o.cls=.type "list" /\o.dict=none/\o.data=.seq its n/\its.size<=sizeLine/\Vals xs its.toList
def eC(K:W.Frag)(H:Hp)(a:Addr)(xs:List V):Prop:=
 Rd H a (.tup xs)\/
  ∃(o:Obj) (its:Array Value) (n:Nat),K.lookup a=some o/\o.cls=.type "tuple" /\o.data=.seq its n/\its.size<=sizeLine/\Vals xs its.toList
noncomputable def R1:Value->Option V
 |.none=>some .aq
 |.bool b=>some (.bl b)
 |.int i _=>some (.int i)
 |.str x _=>some (.str x)
 |.bytes b _=>some (.byt b)
 |.float b _=>some (.flt b)
 |.ref a=>some (.ref a)
 |.type n=>some (.ty n)
 |_=>none
theorem RelV.abs{x:V}{u:Value}(r:RelV x u):R1 u=some x:=by
 cases x with
 |aq=>cases r;rfl
 |bl _=>cases r;rfl
 |int _=>obtain⟨t,rfl⟩:=r;rfl
 |str _=>obtain⟨t,rfl⟩:=r;rfl
 |byt _=>obtain⟨t,rfl⟩:=r;rfl
 |flt _=>obtain⟨t,rfl⟩:=r;rfl
 |ref _=>cases r;rfl
 |ty _=>cases r;rfl
theorem RelV.inj{x y:V}{u:Value}(r:RelV x u)(q:RelV y u):x=y:=eO (r.abs.symm.trans q.abs)
theorem Vals.inj:∀{xs ys:List V}{us:List Value},Vals xs us->Vals ys us->xs=ys
 |_,_,_,.nil,.nil=>rfl
 |_,_,_,.cons r t,.cons r' t'=>by rw[r.inj r',Vals.inj t t']
section
variable {X:Cx}{pins:aO}{σ:St}{H:Hp}{s:Shared}{a:Addr}{xs ys:List V}
theorem bJ.of{K:W.Frag}(h:H a=some (.lst xs)):bJ K H a xs:=.inl (.inl h)
theorem eC.of{K:W.Frag}(h:H a=some (.tup xs)):eC K H a xs:=.inl (.inl h)
theorem Inv.list(I:Inv X pins σ H s)(h:bJ X.K H a xs):∃its:List Value,Vals xs its/\PlainL s.heap a its.toArray/\xs.length<=sizeLine:=by
 rcases h with h|⟨o,its,n,hk,hc,hd,hs,hz,r⟩
 .obtain⟨z,its,n,r,e⟩:=h.ok I.av;exact⟨its,r,⟨_,n,e,rfl,rfl,rfl⟩,z⟩
 .refine⟨its.toList,r,⟨o,n,I.bE a o hk,hc,hd,by simpa using hs⟩,?_⟩;have e:=r.length;simp only[HY] at e;omega
theorem Inv.tuple(I:Inv X pins σ H s)(h:eC X.K H a xs):∃its:List Value,Vals xs its/\IsTup s.heap a its.toArray/\xs.length<=sizeLine:=by
 rcases h with h|⟨o,its,n,hk,hc,hs,hz,r⟩
 .obtain⟨z,its,r,p⟩:=h.ok I.av;exact⟨its,r,p,z⟩
 .refine⟨its.toList,r,⟨o,I.bE a o hk,hc,n,by simpa using hs⟩,?_⟩;have e:=r.length;simp only[HY] at e;omega
theorem Inv.sk(I:Inv X pins σ H s)(h:bJ X.K H a xs)(h':bJ X.K H a ys):xs=ys:=by
 obtain⟨its,r,⟨o,n,e,_,_,d⟩,_⟩:=I.list h;obtain⟨its',r',⟨o',n',e',_,_,d'⟩,_⟩:=I.list h';rw[e] at e';cases e';rw[d] at d';injection d' with d1 _;have:its=its':=by simpa using eN Array.toList d1
 subst this;exact r.inj r'
theorem Inv.vm(I:Inv X pins σ H s)(h:eC X.K H a xs)(h':eC X.K H a ys):xs=ys:=by
 obtain⟨its,r,⟨o,e,_,n,d⟩,_⟩:=I.tuple h;obtain⟨its',r',⟨o',e',_,n',d'⟩,_⟩:=I.tuple h';rw[e] at e';cases e';rw[d] at d';injection d' with d1 _;have:its=its':=by simpa using eN Array.toList d1
 subst this;exact r.inj r'
end
noncomputable abbrev Cx.lg(X:Cx)(E:aJ):Cx:={X with xe:=E}
abbrev Cx.qZ(X:Cx):Cx:=X.lg fun _ _=>False
theorem Cx.Ok.lg{X:Cx}(ok:X.Ok)(E:aJ):(X.lg E).Ok:=
 ⟨ok.mod,ok.kind,ok.glob,ok.blt,ok.above,ok.inj,ok.has,ok.uf,ok.hd,ok.frames,ok.vo,ok.zP,ok.bs,ok.nM,ok.oR,ok.p6,ok.gX,ok.pv⟩
theorem Cx.Ok.kZ{X:Cx}{E:aJ}(ok:(X.lg E).Ok):X.Ok:=
 ⟨ok.mod,ok.kind,ok.glob,ok.blt,ok.above,ok.inj,ok.has,ok.uf,ok.hd,ok.frames,ok.vo,ok.zP,ok.bs,ok.nM,ok.oR,ok.p6,ok.gX,ok.pv⟩
section
variable {X:Cx}{pins:aO}{σ:St}{H:Hp}{s:Shared}{E:aJ}
theorem Inv.lg(I:Inv X pins σ H s)(E:aJ):Inv (X.lg E) pins σ H s:=⟨I.ok.lg E,I.os,I.bare,I.base,I.loc,I.cell,I.free,I.eY,I.pin,I.av,I.len⟩
theorem Inv.kZ(I:Inv (X.lg E) pins σ H s):Inv X pins σ H s:=⟨I.ok.kZ,I.os,I.bare,I.base,I.loc,I.cell,I.free,I.eY,I.pin,I.av,I.len⟩
end
section
variable {X:Cx}{st:Stmt}{rest:List Stmt}{t u:TS}{e:Expr}{te:TE}{pos:Pos}
noncomputable def Bs:TS:=fun D σ H=>D.nx σ H
def Fi(t u:TS):TS:=fun D σ H=>t {D with nx:=u D} σ H
theorem Ax:ff X [] Bs:=fun _ _ σ H _ I h=>qj ⟨σ,H,I,h⟩
theorem rX(h1:PS X st t)(h2:ff X rest u):ff X (st::rest) (Fi t u):=by
 intro pins s σ H D I h;refine Cy (aF (h1 pins s σ H {D with nx:=u D} I h) fun f s1 q=>?_);cases f with
 |next=>
  obtain⟨σ',H',I',q⟩:=q;exact h2 pins s1 σ' H' D I' q
 |ret v=>exact q
 |brk=>exact q
 |cont=>exact q
theorem JK(h1:PS X st t):ff X [st] t:=by
 intro pins s σ H D I h;refine Cy (aF (h1 pins s σ H D I h) fun f s1 q=>?_);cases f with
 |next=>exact qj q
 |ret v=>exact q
 |brk=>exact q
 |cont=>exact q
noncomputable def Nw:TS:=fun D σ H=>D.bk σ H
noncomputable def Pk:TS:=fun D σ H=>D.ct σ H
theorem Ku:PS X (.Pass pos) Bs:=fun _ _ σ H _ I h=>wpAny_Pass ⟨σ,H,I,h⟩
theorem FD:PS X (.Break pos) Nw:=fun _ _ σ H _ I h=>wpAny_Break ⟨σ,H,I,h⟩
theorem y9:PS X (.Continue pos) Pk:=fun _ _ σ H _ I h=>wpAny_Continue ⟨σ,H,I,h⟩
theorem Inv.quiet{pins:aO}{σ:St}{H:Hp}{s:Shared}(I:Inv X pins σ H s):interactive X.env=false:=by simp[interactive,I.ok.kind]
def IC(te:TE):TS:=fun D σ H=>te σ H fun _ H1=>D.nx σ H1
theorem Av(he:PE X e te)(hs:swapsWith e none pos.line X.env=pure false:=by rfl):PS X (.Expr e pos) (IC te):=by intro pins s σ H D I h;exact wpAny_Expr_any (aF (he pins s σ H _ I h) fun v s1 Z=>Z.g4 fun x H1 I1 r1 q1=>⟨σ,H1,I1,q1⟩) I.quiet hs
def SM(te:TE):TS:=fun D σ H=>te σ H D.rt
theorem Lq(he:PE X e te):PS X (.Return (some e) pos) (SM te):=by intro pins s σ H D I h;exact Cu (aF (he pins s σ H _ I h) fun v s1 Z=>Z.g4 fun x H1 I1 r1 q1=>⟨x,σ,H1,I1,r1,q1⟩)
noncomputable def Ql:TS:=fun D _ H=>D.rt .aq H
theorem J5:PS X (.Return none pos) Ql:=fun _ _ σ H _ I h=>wpAny_Return_none ⟨.aq,σ,H,I,rfl,h⟩
noncomputable def T8(c:TT)(t u:TS):TS:=fun D σ H=>c σ H fun b H1=>if b=true then t D σ H1 else u D σ H1
theorem Qs{c:Expr}{a b:List Stmt}{tc:TT}(hc:PT X c tc)(ha:ff X a t)(hb:ff X b u):PS X (.If c a b pos) (T8 tc t u):=by
 intro pins s σ H D I h;refine wpAny_If (aF (hc pins s σ H _ I h) fun d s1 Z=>Z.g fun H1 Z=>Z.g fun I1 q1=>?_);cases d with
 |true=>exact ha pins s1 σ H1 D I1 q1
 |false=>exact hb pins s1 σ H1 D I1 q1
end
abbrev TG:=V->St->Hp->(St->Hp->Prop)->Prop
abbrev xB:=List V->St->Hp->(St->Hp->Prop)->Prop
def PG(X:Cx)(target:Expr)(t:TG):Prop:=
 ∀(pins:aO)(s:Shared)(σ:St)(H:Hp)(v:V)(u:Value)(Q:St->Hp->Prop),Inv X pins σ H s->RelV v u->t v σ H Q->
  wpAny (model X.prog X.w) X.A (assign target X.env u) (fun _ s'=>∃σ' H',Inv X pins σ' H' s'/\Q σ' H') X.xe s
def Iv(X:Cx)(ts:List Expr)(t:xB):Prop:=
 ∀(pins:aO)(s:Shared)(σ:St)(H:Hp)(vs:List V)(us:List Value)(Q:St->Hp->Prop),Inv X pins σ H s->Vals vs us->t vs σ H Q->
  wpAny (model X.prog X.w) X.A (assignInOrder ((assignEach ts X.env).map (·.2)) us) (fun _ s'=>∃σ' H',Inv X pins σ' H' s'/\Q σ' H') X.xe s
abbrev Bw:=V->V->V->Hp->(Hp->Prop)->Prop
def pK(X:Cx)(t:Bw):Prop:=
 ∀(pins:aO)(s:Shared)(σ:St)(H:Hp)(o i v:V)(ov iv u:Value)(Q:Hp->Prop),Inv X pins σ H s->RelV o ov->RelV i iv->RelV v u->t o i v H Q->
  wpAny (model X.prog X.w) X.A (setItem ov iv u) (fun _ s'=>∃H',Inv X pins σ H' s'/\Q H') X.xe s
section
variable {X:Cx}{pos:Pos}
def gL(i:Nat):TG:=fun v σ H Q=>Q (σ.set i (some v)) H
theorem nA{i:Nat}{x:Str}(hN:X.N.Nodup)(hi:X.N[i]?=some x)(hx:Loc X.env.scope x)(hf:X.fn x=true\/X.env.scope.names.lookup x=some .local:=by first|exact .inl rfl|exact .inr rfl|assumption):PG X (.Name x pos) (gL i):=by intro pins s σ H v u Q I r h;exact wpAny_assign_Name (nP I hN hi hx r (fun s' I'=>⟨_,H,I',h⟩) hf)
noncomputable def Bj:xB:=fun vs σ H Q=>vs=[]/\Q σ H
noncomputable def nY(t:TG)(u:xB):xB:=fun vs σ H Q=>∃v r,vs=v::r/\t v σ H fun σ' H'=>u r σ' H' Q
theorem uo:Iv X [] Bj:=by intro pins s σ H vs us Q I r h;obtain⟨e,h⟩:=h;subst e;cases r;exact assignInOrder_nil ⟨σ,H,I,h⟩
theorem jF{e:Expr}{es:List Expr}{t:TG}{u:xB}(h1:PG X e t)(h2:Iv X es u)
  (hs:(assignEach (e::es) X.env).map (·.2)=assign e X.env::(assignEach es X.env).map (·.2):=by rfl):Iv X (e::es) (nY t u):=by
 intro pins s σ H vs us Q I r h;obtain⟨v,vr,e1,h⟩:=h;subst e1;cases r with
 |cons r rr=>
  rw[hs];refine assignInOrder_cons (aF (h1 pins s σ H _ _ _ I r h) fun _ s1 Z=>Z.g fun σ1 Z=>Z.g fun H1 Z=>Z.g fun I1 q1=>?_);exact h2 pins s1 σ1 H1 _ _ Q I1 rr q1
noncomputable def Co(K:W.Frag)(n:Nat)(t:xB):TG:=fun v σ H Q=>∃a xs,v=.ref a/\eC K H a xs/\xs.length=n/\t xs σ H Q
theorem ym{es:List Expr}{k:Nat}{t:xB}{n:Nat}(hc:X.calm=true)(h:Iv X es t)
  (hn:(assignEach es X.env).length=n:=by rfl) (hst:(assignEach es X.env).findIdx? (·.1)=none:=by rfl):PG X (.Tuple es k pos) (Co X.K n t):=by
 intro pins s σ H v u Q I r hw;obtain⟨a,xs,e1,hq,hl,hw⟩:=hw;subst e1;cases r;obtain⟨its,rv,ht,hz⟩:=I.tuple hq;refine assign_Tuple_tuple (I.ok.hd hc) ht (by simp[hn,<-hl,rv.length]) hst fun h' hx=>?_;have I1:Inv X pins σ H {s with heap:=h'}:=I.kept (t':=s.toks) fun b o e=>hx b o (b7 (bp e)) e;exact h pins _ σ H xs _ Q I1 (by simpa using rv) hw
noncomputable def SX(to ti:TE)(t:Bw):TG:=fun v σ H Q=>to σ H fun o H1=>ti σ H1 fun i H2=>t o i v H2 fun H3=>Q σ H3
theorem Lp{o i:Expr}{to ti:TE}{t:Bw}(ho:PE X o to)(hi:PE X i ti)(hs:pK X t)
  (ha:∀v,assign (.Subscript o i pos) X.env v=(do
   let ov <-holding [v] (eval o X.env)
   let iv <-holding [v,ov] (eval i X.env)
   standAt pos
   holding [v,ov,iv] (setItem ov iv v)
   release [v,ov,iv] []):=by intro _;rfl):PG X (.Subscript o i pos) (SX to ti t):=by
 intro pins s σ H v u Q I r h;rw[ha];refine af (eX (aF (ho pins s σ H _ I h) fun ov s1 Z=>Z.g4 fun x H1 I1 r1 q1=>?_));refine af (eX (aF (hi pins s1 σ H1 _ I1 q1) fun iv s2 Z=>Z.g4 fun y H2 I2 r2 q2=>?_));refine af (nO (af (eX (aF (hs pins s2 σ H2 x y v ov iv u _ I2 r1 r2 r q2) fun _ s3 Z=>Z.g fun H3 Z=>Z.g fun I3 q3=>?_))));exact wpAny_release ⟨σ,H3,I3,q3⟩
noncomputable def Mi(te:TE)(g:TG):TS:=fun D σ H=>te σ H fun x H1=>g x σ H1 D.nx
theorem EK{tg e:Expr}{te:TE}{g:TG}(he:PE X e te)(hg:PG X tg g)(hs:swapsWithSole [tg] e pos.line X.env=pure false:=by rfl)(hw:swappedStores [tg] e X.env=pure none:=by rfl)
  (h1:(assignEach [tg] X.env).map (·.2)=[assign tg X.env]:=by rfl):PS X (.Assign [tg] e pos) (Mi te g):=by
 intro pins s σ H D I h;refine wpAny_Assign_stores (aF (he pins s σ H _ I h) fun v s1 Z=>Z.g4 fun x H1 I1 r1 q1=>?_) hs hw;rw[h1];exact aF (hg pins s1 σ H1 x v _ I1 r1 q1) fun _ s2 q=>q
theorem Oe{i:Nat}{x:Str}{e:Expr}{te:TE}{pos':Pos}(hN:X.N.Nodup)(hi:X.N[i]?=some x)(hx:Loc X.env.scope x)(he:PE X e te)(hs:swapsWith e (some (.Name x pos')) pos.line X.env=pure false:=by rfl)(hf:X.fn x=true\/X.env.scope.names.lookup x=some .local:=by first|exact .inl rfl|exact .inr rfl|assumption):
  PS X (.Assign [.Name x pos'] e pos) (Mi te (gL i)):=by
 intro pins s σ H D I h;refine wpAny_Assign_Name (aF (he pins s σ H _ I h) fun v s1 Z=>Z.g4 fun y H1 I1 r1 q1=>?_) hs;exact nP I1 hN hi hx r1 (fun s2 I2=>⟨_,H1,I2,q1⟩) hf
end
section
variable {X:Cx}{pos:Pos}
def NH(c:TT)(tb:TS):TS:=fun D σ H=>∃W:Nat->St->Hp->Prop,(∃m,W m σ H)/\∀m σ H,W m σ H->
 c σ H fun b H1=>if b=true then ∃N:St->Hp->Prop,(∀σ' H',N σ' H'->∃m',m'<m/\W m' σ' H')/\tb {D with nx:=N,ct:=N,bk:=D.nx} σ H1 else D.nx σ H1
theorem GF{c:Expr}{body:List Stmt}{tc:TT}{tb:TS}(hp:PassesOwn (model X.prog X.w) X.A X.env X.xe)(hc:PT X c tc)(hb:ff X body tb):PS X (.While c body [] pos) (NH tc tb):=by
 intro pins s σ H D I h;obtain⟨W,⟨m0,w0⟩,turn⟩:=h;refine wpAny_While (codeAny_whileLoop (fun n s'=>∃σ' H',Inv X pins σ' H' s'/\W n σ' H') ?_ m0 ⟨σ,H,I,w0⟩)
 rintro n s1 ⟨σ1,H1,I1,w1⟩
 refine nQ hp (aF (hc pins s1 σ1 H1 _ I1 (turn n σ1 H1 w1)) fun b s2 Z=>Z.g fun H2 Z=>Z.g fun I2 q2=>?_);cases b with
 |true=>
  obtain⟨N,hN,q2⟩:=q2;rw[if_pos rfl];refine nQ hp (aF (hb pins s2 σ1 H2 _ I2 q2) fun f s3 q3=>?_);cases f with
  |next=>
   obtain⟨σ3,H3,I3,n3⟩:=q3;obtain⟨m',hm,w3⟩:=hN σ3 H3 n3;exact⟨m',hm,σ3,H3,I3,w3⟩
  |cont=>
   obtain⟨σ3,H3,I3,n3⟩:=q3;obtain⟨m',hm,w3⟩:=hN σ3 H3 n3;exact⟨m',hm,σ3,H3,I3,w3⟩
  |brk=>exact q3
  |ret v=>exact q3
 |false=>
  rw[if_neg e9];exact qj ⟨σ1,H2,I2,q2⟩
end
structure It where
 go:Nat->Hp->Prop
 HA:Nat->Hp->V->Hp->Prop
 stop:Nat->Hp->Prop
def fO(X:Cx)(pins:aO)(H:Hp)(b:Addr):Prop:=
 H b=none/\b≠X.env.locals/\b∉X.fs/\(b∈X.ex\/X.aR.heap.objs.size<=b)/\(∀x c,X.env.cells.lookup x=some c->c≠b)/\∀p∈X.pn++pins,p.1≠b
theorem Inv.pV{X:Cx}{pins:aO}{σ:St}{H H':Hp}{s:Shared}{b:Addr}(I:Inv X pins σ H s)(hb:s.heap.objs.size<=b)(hn:H' b=none):fO X pins H' b:=by
 refine⟨hn,rJ (cU I.lt hb),I.RU hb,.inr (cS I.sz hb),fun x c e z=>?_,fun p hp z=>?_⟩
 .obtain⟨v,q⟩:=I.cell x c e;exact absurd (cU q.lt (by rw[z];exact hb)) (uT _)
 .exact absurd (cU (bp (I.pin p hp).1) (by rw[z];exact hb)) (uT _)
structure Turn(P:Program)(w:World)(K:W.Frag)(tg:Expr)(J:It)(fp:List Addr)(it:Addr)(tn:Nat->Heap->Prop):Prop where
 mem:it∈fp
 obj:∀i h,tn i h->∀b∈fp,∃o,h.get? b=some o/\∀v,o.data≠.cell v
 keep:∀i h h',tn i h->(∀b∈fp,∀o,h.get? b=some o->h'.get? b=some o)->tn i h'
 item:∀(X:Cx),X.prog=P->X.w=w->X.K=K->X.calm=true->∀(i:Nat)(pins:aO)(s:Shared)(σ:St)(H:Hp)(E:aJ),Inv X pins σ H s->(∀b∈fp,fO X pins H b)->tn i s.heap->J.go i H->
  wpAny (model P w) X.A (pyNext (.ref it)) (fun r s1=>∃u,r=some u/\
   wpAny (model P w) X.A (letOwnedTupleGo tg (.ref it) u) (fun _ s2=>∃x H',Inv X pins σ H' s2/\RelV x u/\J.HA i H x H'/\tn (i+1) s2.heap/\∀b∈fp,H' b=none) E s1) E s
 done:∀(X:Cx),X.prog=P->X.w=w->X.K=K->X.calm=true->∀(i:Nat)(pins:aO)(s:Shared)(σ:St)(H:Hp)(E:aJ),Inv X pins σ H s->(∀b∈fp,fO X pins H b)->tn i s.heap->J.stop i H->
  wpAny (model P w) X.A (pyNext (.ref it)) (fun r s1=>r=none/\Inv X pins σ H s1) E s
 self:∀(A:Around)(i:Nat)(s:Shared)(Q:aJ)(E:aJ),tn i s.heap->Q (.ref it) s->wpAny (model P w) A (pyIter (.ref it)) Q E s
abbrev TI:=St->Hp->(It->Hp->Prop)->Prop
def QI(X:Cx)(pins:aO)(σ:St)(tg:Expr)(R:It->Hp->Prop)(itv:Value)(s2:Shared):Prop:=
 ∃(it:Addr) (fp:List Addr) (tn:Nat->Heap->Prop) (J:It) (H':Hp),itv=.ref it/\Inv X pins σ H' s2/\Turn X.prog X.w X.K tg J fp it tn/\tn 0 s2.heap/\(∀b∈fp,fO X pins H' b)/\R J H'
def PI(X:Cx)(tg iter:Expr)(wi:TI):Prop:=
 ∀(pins:aO)(s:Shared)(σ:St)(H:Hp)(R:It->Hp->Prop),Inv X pins σ H s->wi σ H R->
  wpAny (model X.prog X.w) X.A (eval iter X.env) (fun v s1=>wpAny (model X.prog X.w) X.A (pyIter v) (QI X pins σ tg R) X.xe s1) X.xe s
theorem wc{M:Model}{A:Around}{E:aJ}{s:Shared}{tg:Expr}{it:Addr}{u:Value}{o:Obj}{n:String}{vs:Array Value}{Q:Unit->Shared->Prop}(ho:s.heap.get? it=some o)(hc:o.cls=.type n)(hd:o.data=.fields vs)
  (hn: ["enumerate", "zip", "dict_itemiterator", "dict_reverseitemiterator", "odict_iterator", "itertools.zip_longest", "itertools.pairwise"].contains n=false) (hQ:Q () s):wpAny M A (letOwnedTupleGo tg (.ref it) u) Q E s:=by
 unfold letOwnedTupleGo;cases tg<;>first
  |exact ah hQ
  |(cases u<;>first
    |exact ah hQ
    |(refine af (wpAny_load ho ?_)
      rw[hc,hd];show wpAny M A (if (["enumerate", "zip", "dict_itemiterator", "dict_reverseitemiterator", "odict_iterator", "itertools.zip_longest", "itertools.pairwise"].contains n&&vs[0]?== some (rawInt _))=true then _ else _) Q E s;rw[if_neg (by intro h;rw[hn,Bool.false_and] at h;cases h)];exact ah hQ))
def NN(K:W.Frag)(a:Addr):It:=
 ⟨fun i H=>∃xs x,bJ K H a xs/\xs[i]?=some x,fun i H x H'=>H'=H/\∀xs,bJ K H a xs->xs[i]?=some x,fun i H=>∃xs,bJ K H a xs/\xs.length<=i⟩
def Lh(K:W.Frag)(a:Addr):It:=
 ⟨fun i H=>∃xs x,eC K H a xs/\xs[i]?=some x,fun i H x H'=>H'=H/\∀xs,eC K H a xs->xs[i]?=some x,fun i H=>∃xs,eC K H a xs/\xs.length<=i⟩
noncomputable def HB(lo:Int)(n:Nat):It:=⟨fun i _=>i<n,fun i H x H'=>H'=H/\x=.int (lo+i),fun i _=>n<=i⟩
theorem vG{P:Program}{w:World}{K:W.Frag}{tg:Expr}(a it:Addr):Turn P w K tg (NN K a) [it] it (fun i h=>h.IsListIter it a i) where
 mem:=by simp
 obj:=fun i h st b hb=>by
  have e:b=it:=by simpa using hb
  subst e;obtain⟨o,e,c,d⟩:=st;exact⟨o,e,fun v z=>by rw[d] at z;cases z⟩
 keep:=fun i h h' st k=>st.at fun o e=>k it (by simp) o e
 item:=by intro X hP hw hK hc i pins s σ H E I hf st hg;subst hP hw hK;obtain⟨xs,x,hq,hx⟩:=hg;obtain⟨its,rv,p,hz⟩:=I.list hq;obtain⟨u,hu,ru⟩:=rv.get hx;obtain⟨f0,f1,f2,f3,f4,f5⟩:=hf it (by simp);refine wpAny_pyNext_list_item st p.isList (x:=u) (by simpa using hu) fun h' st' sb=>?_;have I1:Inv X pins σ H {s with heap:=h'}:=I.turned (t':=s.toks) (fun b o hb e=>(sb.2 b hb).trans e) f0 f1 f3 f4 f5;obtain⟨o,e,c,d⟩:=id st';exact⟨u,rfl,wc (s:={s with heap:=h'}) e c d (by decide) ⟨x,H,I1,ru,⟨rfl,fun ys hy=>by rw[I.sk hy hq];exact hx⟩,st',fun b hb=>(hf b hb).1⟩⟩
 done:=by intro X hP hw hK hc i pins s σ H E I hf st hg;subst hP hw hK;obtain⟨xs,hq,hx⟩:=hg;obtain⟨its,rv,p,hz⟩:=I.list hq;obtain⟨f0,f1,f2,f3,f4,f5⟩:=hf it (by simp);have hl:=rv.length;exact wpAny_pyNext_list_end (I.ok.hd hc) st p.isList (by simp;omega) fun h' eb=>⟨rfl,I.turned (t':=s.toks) (fun b o hb e=>eb b o hb e) f0 f1 f3 f4 f5⟩
 self:=fun _ _ _ _ _ st h=>wpAny_pyIter_listiter st h
theorem BA{P:Program}{w:World}{K:W.Frag}{tg:Expr}(a it:Addr):Turn P w K tg (Lh K a) [it] it (fun i h=>h.IsTupleIter it a i) where
 mem:=by simp
 obj:=fun i h st b hb=>by
  have e:b=it:=by simpa using hb
  subst e;obtain⟨o,e,c,d⟩:=st;exact⟨o,e,fun v z=>by rw[d] at z;cases z⟩
 keep:=fun i h h' st k=>st.at fun o e=>k it (by simp) o e
 item:=by intro X hP hw hK hc i pins s σ H E I hf st hg;subst hP hw hK;obtain⟨xs,x,hq,hx⟩:=hg;obtain⟨its,rv,p,hz⟩:=I.tuple hq;obtain⟨u,hu,ru⟩:=rv.get hx;obtain⟨f0,f1,f2,f3,f4,f5⟩:=hf it (by simp);refine wpAny_pyNext_tuple_item st (show s.heap.IsTuple a its.toArray from p) (x:=u) (by simpa using hu) fun h' st' sb=>?_;have I1:Inv X pins σ H {s with heap:=h'}:=I.turned (t':=s.toks) (fun b o hb e=>(sb.2 b hb).trans e) f0 f1 f3 f4 f5;obtain⟨o,e,c,d⟩:=id st';exact⟨u,rfl,wc (s:={s with heap:=h'}) e c d (by decide) ⟨x,H,I1,ru,⟨rfl,fun ys hy=>by rw[I.vm hy hq];exact hx⟩,st',fun b hb=>(hf b hb).1⟩⟩
 done:=by intro X hP hw hK hc i pins s σ H E I hf st hg;subst hP hw hK;obtain⟨xs,hq,hx⟩:=hg;obtain⟨its,rv,p,hz⟩:=I.tuple hq;obtain⟨f0,f1,f2,f3,f4,f5⟩:=hf it (by simp);have hl:=rv.length;exact wpAny_pyNext_tuple_end (I.ok.hd hc) st (show s.heap.IsTuple a its.toArray from p) (by simp;omega) fun h' eb=>⟨rfl,I.turned (t':=s.toks) (fun b o hb e=>eb b o hb e) f0 f1 f3 f4 f5⟩
 self:=fun _ _ _ _ _ st h=>wpAny_pyIter_tupleiter st h
theorem Cr{P:Program}{w:World}{K:W.Frag}{tg:Expr}(it:Addr)(lo:Int)(n:Nat):Turn P w K tg (HB lo n) [it] it (fun i h=>IsRangeIter h it (lo+(i:Nat) * 1) ((n:Int)-(i:Nat)) 1) where
 mem:=by simp
 obj:=fun i h st b hb=>by
  have e:b=it:=by simpa using hb
  subst e;exact⟨_,st,fun v z=>by
   have z':Data.fields _=Data.cell v:=z;cases z'⟩
 keep:=fun i h h' st k=>k it (by simp) _ st
 item:=by intro X hP hw hK hc i pins s σ H E I hf st hg;subst hP hw hK;obtain⟨f0,f1,f2,f3,f4,f5⟩:=hf it (by simp);have W:=Walks.range (prog:=X.prog) (w:=X.w) (I.ok.hd hc) it lo 1 n;refine W.item i s _ _ hg st fun v h' tk hv st' kk=>?_;obtain⟨t,rfl⟩:=hv;have I1:Inv X pins σ H {s with heap:=h',toks:=tk}:=I.turned (fun b o hb e=>kk b o (by simpa using hb) e) f0 f1 f3 f4 f5;refine⟨_,rfl,wc (s:={s with heap:=h',toks:=tk}) (n:= "range_iterator") st' rfl rfl (by decide) ⟨.int (lo+i),H,I1,⟨t,?_⟩,⟨rfl,rfl⟩,st',fun b hb=>(hf b hb).1⟩⟩;rw[Int.mul_one]
 done:=by intro X hP hw hK hc i pins s σ H E I hf st hg;subst hP hw hK;obtain⟨f0,f1,f2,f3,f4,f5⟩:=hf it (by simp);exact wpAny_pyNext_range_end (I.ok.hd hc) st (by have:n<=i:=hg;omega) fun h' eb=>⟨rfl,I.turned (t':=s.toks) (fun b o hb e=>eb b o hb e) f0 f1 f3 f4 f5⟩
 self:=fun _ _ _ _ _ st h=>wpAny_pyIter_rangeiter st h
section
variable {X:Cx}{tg:Expr}
noncomputable def P5(K:W.Frag)(tl:TE):TI:=fun σ H R=>tl σ H fun x H1=>∃a,x=.ref a/\(∃xs,bJ K H1 a xs)/\R (NN K a) H1
noncomputable def TN(K:W.Frag)(tl:TE):TI:=fun σ H R=>tl σ H fun x H1=>∃a,x=.ref a/\(∃xs,eC K H1 a xs)/\R (Lh K a) H1
theorem Jv{l:Expr}{tl:TE}(hl:PE X l tl):PI X tg l (P5 X.K tl):=by
 intro pins s σ H R I h;refine aF (hl pins s σ H _ I h) fun v s1 Z=>Z.g4 fun x H1 I1 r1 q1=>?_;obtain⟨a,e,⟨xs,hq⟩,q⟩:=q1;subst e;cases r1;obtain⟨its,rv,p,hz⟩:=I1.list hq;refine lV p.isList ?_;refine⟨s1.heap.objs.size,[s1.heap.objs.size],_,_,H1,rfl,I1.kept (t':=s1.toks) fun b o e=>bj _ e,vG a _,⟨_,dC _ rfl,rfl,rfl⟩,fun b hb=>?_,q⟩;have e:b=s1.heap.objs.size:=by simpa using hb
 subst e;exact I1.pV (aG _) (I1.av.fresh (aG _))
theorem Lu{l:Expr}{tl:TE}(hl:PE X l tl):PI X tg l (TN X.K tl):=by
 intro pins s σ H R I h;refine aF (hl pins s σ H _ I h) fun v s1 Z=>Z.g4 fun x H1 I1 r1 q1=>?_;obtain⟨a,e,⟨xs,hq⟩,q⟩:=q1;subst e;cases r1;obtain⟨its,rv,p,hz⟩:=I1.tuple hq;refine oC (show s1.heap.IsTuple a its.toArray from p) ?_;refine⟨s1.heap.objs.size,[s1.heap.objs.size],_,_,H1,rfl,I1.kept (t':=s1.toks) fun b o e=>bj _ e,BA a _,⟨_,dC _ rfl,rfl,rfl⟩,fun b hb=>?_,q⟩;have e:b=s1.heap.objs.size:=by simpa using hb
 subst e;exact I1.pV (aG _) (I1.av.fresh (aG _))
theorem Gz{pins:aO}{σ:St}{H:Hp}{s:Shared}{R:It->Hp->Prop}{E:aJ}{lo hi:Int}{t u v:Tok}{tk:Nat}(I:Inv X pins σ H s)(h1: -(2 ^ 62)<=lo)(h2:lo<2 ^ 62)(h3: -(2 ^ 62)<=hi)(h4:hi<2 ^ 62)
  (q:R (HB lo (hi-lo).toNat) H):wpAny (model X.prog X.w) X.A (pyIter (.ref s.heap.objs.size)) (QI X pins σ tg R) E {s with heap:=s.heap.push {cls:=.type "range",data:=.fields #[.int lo t,.int hi u,.int 1 v]},toks:=tk}:=by
 refine wpAny_pyIter_range (IsRange.new ..) (small_one h1 h2 h3 h4) ?_;have I1:Inv X pins σ H {s with heap:=s.heap.push {cls:=.type "range",data:=.fields #[.int lo t,.int hi u,.int 1 v]},toks:=tk}:=I.kept fun b o e=>bj _ e;refine⟨(s.heap.push {cls:=.type "range",data:=.fields #[.int lo t,.int hi u,.int 1 v]}).objs.size,[(s.heap.push {cls:=.type "range",data:=.fields #[.int lo t,.int hi u,.int 1 v]}).objs.size],_,_,H,rfl,
  I1.kept (t':=tk) fun b o e=>bj _ e,Cr _ lo (hi-lo).toNat,?_,fun b hb=>?_,q⟩
 .have e1:lo+((0:Nat):Int) * 1=lo:=by simp
  have e2:(((hi-lo).toNat:Nat):Int)-((0:Nat):Int)=Builtin.Range.rangeSize lo hi 1:=by rw[rangeSize_one];split<;>omega
  show IsRangeIter _ _ (lo+((0:Nat):Int) * 1) ((((hi-lo).toNat:Nat):Int)-((0:Nat):Int)) 1;rw[e1,e2];exact dC _ rfl
 .have e:b=(s.heap.push {cls:=.type "range",data:=.fields #[.int lo t,.int hi u,.int 1 v]}).objs.size:=by simpa using hb
  subst e;exact I1.pV (aG _) (I1.av.fresh (aG _))
def Pe(ta:TA):TI:=fun σ H R=>ta σ H fun vs H1=>∃j:Int,vs=[.int j]/\ -(2 ^ 62)<=j/\j<2 ^ 62/\R (HB 0 j.toNat) H1
theorem CM{a:Expr}{ta:TA}{p pos:Pos}(hg:Gl X "range")(hm:X.mg "range" = none)(ha:PA X [a] ta)(hs:starEach [a] X.env=[(false,eval a X.env)]:=by rfl):PI X tg (.Call (.Name "range" p) [a] [] pos) (Pe ta):=by
 intro pins s σ H R I h;refine Call_ (lM I hg hm boot_range (tR (aF (ha pos pins s σ H _ I h) fun us s1 Z=>Z.g4 fun vs H1 I1 r1 q1=>?_) hs rfl));obtain⟨j,e,q1,q2,q⟩:=q1;subst e;cases r1 with
 |cons r rr=>
  cases rr;obtain⟨t,rfl⟩:=r;exact call_range_1 (Gz I1 (by omega) (by omega) q1 q2 (by simpa using q))
def SS(wi:TI)(g:TG)(tb:TS):TS:=fun D σ H=>wi σ H fun J H1=>∃W:Nat->Nat->St->Hp->Prop,(∃m,W 0 m σ H1)/\∀i m σ H,W i m σ H->
 (J.stop i H/\D.nx σ H)\/(J.go i H/\∃N:St->Hp->Prop,(∀σ' H',N σ' H'->∃m',m'<m/\W (i+1) m' σ' H')/\∀x H',J.HA i H x H'->g x σ H' fun σ2 H2=>tb {D with nx:=N,ct:=N,bk:=D.nx} σ2 H2)
noncomputable def lb(fp:List Addr)(h:Heap):aO:=fp.filterMap fun b=>(h.get? b).map fun o=>(b,o)
theorem iT{fp:List Addr}{h:Heap}{b:Addr}{o:Obj}(hb:b∈fp)(e:h.get? b=some o):(b,o)∈lb fp h:=List.mem_filterMap.mpr ⟨b,hb,by rw[e];rfl⟩
theorem CK{fp:List Addr}{h:Heap}{p:Addr×Obj}(hp:p∈lb fp h):p.1∈fp/\h.get? p.1=some p.2:=by
 obtain⟨b,hb,e⟩:=List.mem_filterMap.mp hp;cases q:h.get? b with
 |none=>rw[q] at e;cases e
 |some o=>
  rw[q] at e;have e':(b,o)=p:=eO e;subst e';exact⟨hb,q⟩
theorem Inv.pinned{pins:aO}{σ:St}{H:Hp}{s:Shared}{fp:List Addr}(I:Inv X pins σ H s)(hf:∀b∈fp,fO X pins H b)(ho:∀b∈fp,∃o,s.heap.get? b=some o/\∀v,o.data≠.cell v):Inv X (pins++lb fp s.heap) σ H s:=
 I.zM fun p hp=>(sx.mp hp).elim (fun z=>I.pin p (j8 _ z)) fun z=>by
  obtain⟨hb,e⟩:=CK z;obtain⟨f0,f1,f2,_⟩:=hf p.1 hb;obtain⟨o,e',d⟩:=ho p.1 hb;rw[e] at e';cases e';exact⟨e,f0,f1,f2,d⟩
theorem Inv.lH{pins pl:aO}{σ:St}{H:Hp}{s:Shared}(I:Inv X (pins++pl) σ H s):Inv X pins σ H s:=I.zM fun p hp=>I.pin p (j8 _ (Hr _ hp))
theorem N8{iter:Expr}{body:List Stmt}{wi:TI}{g:TG}{tb:TS}{pos:Pos}(hp:PassesOwn (model X.prog X.w) X.A X.env X.xe)(hc:X.calm=true)(hi:PI X tg iter wi)(hg:PG X tg g)(hb:ff X body tb)
  (hs:∀x,foldedSetIterable iter X.env x=pure x:=by intro _;rfl):PS X (.For tg iter body [] pos) (SS wi g tb):=by
 intro pins s σ H D I h;refine wpAny_For (aF (hi pins s σ H _ I h) fun v s1 h1=>aF h1 fun itv s2 h2=>?_) hs;obtain⟨it,fp,tn,J,H2,e,I2,T,st2,f2,W,⟨m0,w0⟩,turn⟩:=h2;subst e;have stat:∀{H':Hp},(∀b∈fp,H' b=none)->∀b∈fp,fO X pins H' b:=fun hn b hb=>⟨hn b hb,(f2 b hb).2⟩;refine codeAny_forLoop_any (fun n s'=>∃i σ' H',Inv X pins σ' H' s'/\tn i s'.heap/\(∀b∈fp,H' b=none)/\W i n σ' H') ?_ m0 ⟨0,σ,H2,I2,st2,fun b hb=>(f2 b hb).1,w0⟩
 rintro n s3 ⟨i,σ3,H3,I3,st3,fr3,w3⟩
 rcases turn i n σ3 H3 w3 with ⟨stop,qn⟩|⟨go,N,hN,step⟩
 .refine nQ hp (aF (T.done X rfl rfl rfl hc i pins s3 σ3 H3 X.xe I3 (stat fr3) st3 stop) fun r s4 Z=>Z.g fun hr I4=>?_);subst hr;exact qj ⟨σ3,H3,I4,qn⟩
 .refine nQ hp (aF (T.item X rfl rfl rfl hc i pins s3 σ3 H3 X.xe I3 (stat fr3) st3 go) fun r s4 Z=>Z.g fun u Z=>Z.g fun hr h4=>?_);subst hr;refine nQ hp (aF h4 fun _ s5 Z=>Z.g fun x Z=>Z.g fun H5 Z=>Z.g fun I5 Z=>Z.g fun r5 Z=>Z.g fun y5 Z=>Z.g fun st5 fr5=>?_);have I5':=I5.pinned (stat fr5) (T.obj _ _ st5);refine nQ hp (aF (hg _ s5 σ3 H5 x u _ I5' r5 (step x H5 y5)) fun _ s6 Z=>Z.g fun σ6 Z=>Z.g fun H6 Z=>Z.g fun I6 q6=>?_);refine nQ hp (aF (hb _ s6 σ6 H6 _ I6 q6) fun f s7 q7=>?_);have again:∀{σ7:St}{H7:Hp},Inv X (pins++lb fp s5.heap) σ7 H7 s7->N σ7 H7->∃m,m<n/\∃i σ' H',Inv X pins σ' H' s7/\tn i s7.heap/\(∀b∈fp,H' b=none)/\W i m σ' H':=fun {σ7 H7} I7 n7=>by
   obtain⟨m',hm,w7⟩:=hN σ7 H7 n7;refine⟨m',hm,i+1,σ7,H7,I7.lH,T.keep _ _ _ st5 fun b hb o e=>(I7.pin (b,o) (j8 _ (j8 _ (iT hb e)))).1,fun b hb=>?_,w7⟩;obtain⟨o,e,d⟩:=T.obj _ _ st5 b hb;exact (I7.pin (b,o) (j8 _ (j8 _ (iT hb e)))).2.1
  cases f with
  |next=>obtain⟨σ7,H7,I7,n7⟩:=q7;exact again I7 n7
  |cont=>obtain⟨σ7,H7,I7,n7⟩:=q7;exact again I7 n7
  |brk=>obtain⟨σ7,H7,I7,q7⟩:=q7;exact⟨σ7,H7,I7.lH,q7⟩
  |ret v=>obtain⟨x7,σ7,H7,I7,r7,q7⟩:=q7;exact⟨x7,σ7,H7,I7.lH,r7,q7⟩
end
abbrev R2:=V->V->Hp->VK->Prop
def c7(X:Cx)(f:Value->Value->Sem Value)(r:R2):Prop:=
 ∀(pins:aO)(s:Shared)(σ:St)(H:Hp)(x y:V)(v u:Value)(Q:VK),Inv X pins σ H s->RelV x v->RelV y u->r x y H Q->
  wpAny (model X.prog X.w) X.A (f v u) (EP X pins σ Q) X.xe s
def eI(X:Cx)(f:Value)(r:List V->Hp->VK->Prop):Prop:=
 ∀(pins:aO)(s:Shared)(σ:St)(H:Hp)(xs:List V)(us:List Value)(Q:VK),Inv X pins σ H s->Vals xs us->r xs H Q->
  wpAny (model X.prog X.w) X.A (call f us) (EP X pins σ Q) X.xe s
def So(X:Cx)(r:V->Hp->(Bool->Hp->Prop)->Prop):Prop:=
 ∀(pins:aO)(s:Shared)(σ:St)(H:Hp)(x:V)(v:Value)(Q:Bool->Hp->Prop),Inv X pins σ H s->RelV x v->r x H Q->
  wpAny (model X.prog X.w) X.A (truthy v) (TP X pins σ Q) X.xe s
noncomputable def zt(r:R2)(ta tb:TE):TE:=fun σ H Q=>ta σ H fun x H1=>tb σ H1 fun y H2=>r x y H2 Q
noncomputable def rI(C:Int->Int->Prop)(g:Int->Int->V):R2:=fun x y H Q=>∃i j,x=.int i/\y=.int j/\C i j/\Q (g i j) H
noncomputable def xN(g:Int->Int->V):R2:=fun x y H Q=>∃i j,x=.int i/\y=.int j/\Q (g i j) H
section
variable {X:Cx}{a b c:Expr}{ta tb tc:TE}{pos:Pos}
theorem GB(ha:PE X a ta)(hb:PE X b tb){pins:aO}{s:Shared}{σ:St}{H:Hp}{R:V->V->Hp->Prop}(I:Inv X pins σ H s)
  (h:ta σ H fun x H1=>tb σ H1 fun y H2=>R x y H2) {Q:aJ}{f:Value->Value->Sem Value}
  (hf:∀v u s2 x y H2,Inv X pins σ H2 s2->RelV x v->RelV y u->R x y H2->wpAny (model X.prog X.w) X.A (f v u) Q X.xe s2):
  wpAny (model X.prog X.w) X.A (eval a X.env) (fun v s₁=>wpAny (model X.prog X.w) X.A (eval b X.env) (fun u s₂=>wpAny (model X.prog X.w) X.A (f v u) Q X.xe s₂) X.xe s₁) X.xe s:=by
 refine aF (ha pins s σ H _ I h) fun v s1 Z=>Z.g4 fun x H1 I1 r1 q1=>?_;refine aF (hb pins s1 σ H1 _ I1 q1) fun u s2 Z=>Z.g4 fun y H2 I2 r2 q2=>?_;exact hf v u s2 x y H2 I2 r1 r2 q2
theorem qL{op:Operator}{r:R2}(ho:c7 X (binaryOp op) r)(ha:PE X a ta)(hb:PE X b tb):PE X (.BinOp a op b pos) (zt r ta tb):=by intro pins s σ H Q I h;exact wpAny_BinOp (GB ha hb I h fun v u s2 x y H2 I2 rx ry q=>ho pins s2 σ H2 x y v u Q I2 rx ry q)
theorem IJ{f:Value->Value->Sem Value}{C:Int->Int->Prop}{g:Int->Int->Int}
  (rule:∀(i j:Int)(t u:Tok)(s:Shared)(Q:aJ)(E:aJ),C i j->Q (.int (g i j) s.toks) {s with toks:=s.toks+1}->wpAny (model X.prog X.w) X.A (f (.int i t) (.int j u)) Q E s):
  c7 X f (rI C fun i j=>.int (g i j)):=by
 intro pins s σ H x y v u Q I rx ry h;obtain⟨i,j,rfl,rfl,hc,q⟩:=h;obtain⟨t,rfl⟩:=rx;obtain⟨t',rfl⟩:=ry;exact rule i j t t' s _ _ hc ⟨.int (g i j),H,I.tok _,⟨_,rfl⟩,q⟩
theorem M9{f:Value->Value->Sem Value}{g:Int->Int->Int}
  (rule:∀(i j:Int)(t u:Tok)(s:Shared)(Q:aJ)(E:aJ),Q (.int (g i j) s.toks) {s with toks:=s.toks+1}->wpAny (model X.prog X.w) X.A (f (.int i t) (.int j u)) Q E s):
  c7 X f (xN fun i j=>.int (g i j)):=by
 intro pins s σ H x y v u Q I rx ry h;obtain⟨i,j,rfl,rfl,q⟩:=h;obtain⟨t,rfl⟩:=rx;obtain⟨t',rfl⟩:=ry;exact rule i j t t' s _ _ ⟨.int (g i j),H,I.tok _,⟨_,rfl⟩,q⟩
theorem TY{f:Value->Value->Sem Value}{g:Int->Int->Bool}
  (rule:∀(i j:Int)(t u:Tok)(s:Shared)(Q:aJ)(E:aJ),Q (.bool (g i j)) s->wpAny (model X.prog X.w) X.A (f (.int i t) (.int j u)) Q E s):
  c7 X f (xN fun i j=>.bl (g i j)):=by
 intro pins s σ H x y v u Q I rx ry h;obtain⟨i,j,rfl,rfl,q⟩:=h;obtain⟨t,rfl⟩:=rx;obtain⟨t',rfl⟩:=ry;exact rule i j t t' s _ _ ⟨.bl (g i j),H,I,rfl,q⟩
def RY(i j:Int):Prop:=0<j/\j<1073741824
def S6(i j:Int):Prop:=0<=j/\j<=1000000/\i.natAbs<2 ^ 64
def Cd(i j:Int):Prop:=(-(2 ^ 64)<i/\i<2 ^ 64)\/(-(2 ^ 64)<j/\j<2 ^ 64)
theorem Cd.ok{i j:Int}(h:Cd i j):IntMulOk i j:=by
 rcases h with ⟨h1,h2⟩|⟨h1,h2⟩
 .exact .of_left (intBits_le_64 h1 h2)
 .exact .of_right (intBits_le_64 h1 h2)
theorem Mh:c7 X (binaryOp .Add) (xN fun i j=>.int (i+j)):=M9 fun _ _ _ _ _ _ _ q=>add_int q
theorem Ln:c7 X (binaryOp .Sub) (xN fun i j=>.int (i-j)):=M9 fun _ _ _ _ _ _ _ q=>sub_int q
theorem MP:c7 X (binaryOp .Mult) (rI Cd fun i j=>.int (i * j)):=IJ fun _ _ _ _ _ _ _ hc q=>mul_int q hc.ok
theorem Kk:c7 X (binaryOp .FloorDiv) (rI RY fun i j=>.int (i / j)):=IJ fun i j _ _ _ _ _ hc q=>by
 have h1:(0:Int)<j:=hc.1;have h2:j<1073741824:=hc.2;exact floordiv_int (by omega) (by rw[Int.fdiv_eq_ediv_of_nonneg i (by omega)];exact q) (.inl (PyProof.noPylong_small (by omega)))
theorem LI:c7 X (binaryOp .Mod) (rI (fun _ j=>0<j) fun i j=>.int (i % j)):=IJ fun i j _ _ _ _ _ hc q=>by
 have h1:(0:Int)<j:=hc;exact mod_int' (by omega) (by rw[Int.fmod_eq_emod_of_nonneg i (by omega)];exact q)
theorem M8:c7 X (binaryOp .Pow) (rI S6 fun i j=>.int (i ^ j.toNat)):=IJ fun _ _ _ _ _ _ _ hc q=>pow_int_small hc.1 hc.2.1 hc.2.2 q
end
section
variable {X:Cx}{a b c:Expr}{ta tb tc:TE}{pos:Pos}
theorem EL{pins:aO}{σ:St}{H:Hp}{s:Shared}{Q:VK}{k k':Bool}(I:Inv X pins σ H s)(q:Q (.bl k) H)(e:k=k'):EP X pins σ Q (.bool k') s:=by subst e;exact⟨.bl k,H,I,rfl,q⟩
theorem Qv:c7 X (compareOp .Gt) (xN fun i j=>.bl (decide (j<i))):=TY fun _ _ _ _ _ _ _ q=>gt_int q
theorem NL:c7 X (compareOp .Is) (fun x y H Q=>y=.aq/\Q (.bl (decide (x=.aq))) H):=by
 intro pins s σ H x y v u Q I rx ry h;obtain⟨rfl,q⟩:=h;cases ry;refine is_none_gen (EL I q ?_);cases x<;>first
  |(cases rx;rfl)
  |(obtain⟨t,rfl⟩:=rx;rfl)
theorem Jp:c7 X (compareOp .IsNot) (fun x y H Q=>y=.aq/\Q (.bl (!decide (x=.aq))) H):=by
 intro pins s σ H x y v u Q I rx ry h;obtain⟨rfl,q⟩:=h;cases ry;refine isnot_none_gen (EL I q ?_);cases x<;>first
  |(cases rx;rfl)
  |(obtain⟨t,rfl⟩:=rx;rfl)
theorem c7.or{f:Value->Value->Sem Value}{r r':R2}(h:c7 X f r)(h':c7 X f r'):c7 X f (fun x y H Q=>r x y H Q\/r' x y H Q):=by
 intro pins s σ H x y v u Q I rx ry q;rcases q with q|q
 .exact h pins s σ H x y v u Q I rx ry q
 .exact h' pins s σ H x y v u Q I rx ry q
theorem UZ(b:Expr){op:CmpOp}(h:op≠.In:=by decide)(h2:op≠.NotIn:=by decide):behindInMarks op b=false:=by
 have e1:(op== CmpOp.In)=false:=by cases op<;>first|rfl|exact absurd rfl h
 have e2:(op== CmpOp.NotIn)=false:=by cases op<;>first|rfl|exact absurd rfl h2
 cases b<;>simp[behindInMarks,e1,e2]
theorem Af{op:CmpOp}{r:R2}(ho:c7 X (compareOp op) r)(ha:PE X a ta)(hb:PE X b tb)(hm:behindInMarks op b=false):PE X (.Compare a [op] [b] pos) (zt r ta tb):=by intro pins s σ H Q I h;exact wpAny_Compare1 (GB ha hb I h fun v u s2 x y H2 I2 rx ry q=>ho pins s2 σ H2 x y v u Q I2 rx ry q) hm
noncomputable def PF(t:TE):TT:=fun σ H Q=>t σ H fun x H'=>∃k,x=.bl k/\Q k H'
theorem Au{op:CmpOp}{r:R2}(ho:c7 X (compareOp op) r)(ha:PE X a ta)(hb:PE X b tb)(hm:behindInMarks op b=false):PT X (.Compare a [op] [b] pos) (PF (zt r ta tb)):=by
 intro pins s σ H Q I h;refine wpAny_isTrue_Compare1 (aF (ha pins s σ H _ I h) fun v s1 Z=>Z.g fun x Z=>Z.g fun H1 Z=>Z.g fun I1 Z=>Z.g fun r1 q1=>aF (hb pins s1 σ H1 _ I1 q1) fun u s2 Z=>Z.g fun y Z=>Z.g fun H2 Z=>Z.g fun I2 Z=>Z.g fun r2 q2=>
  aF (ho pins s2 σ H2 x y v u _ I2 r1 r2 q2) fun c s3 Z=>Z.g fun z Z=>Z.g fun H3 Z=>Z.g fun I3 Z=>Z.g fun r3 Z=>Z.g fun k Z=>Z.g fun e q3=>?_) hm
 subst e;cases r3;exact qv ⟨H3,I3,q3⟩
def E3(K:W.Frag)(x:V)(H:Hp)(k:Bool):Prop:=
 match x with
 |.aq=>k=false
 |.bl b=>k=b
 |.int i=>k=(i != 0)
 |.str y=>y.length<=sizeLine/\k=((y.length:Int) != 0)
 |.byt y=>y.size<=sizeLine/\k=((y.size:Int) != 0)
 |.ref p=>(∃xs,bJ K H p xs/\k=!xs.isEmpty)\/(∃xs,eC K H p xs/\k=!xs.isEmpty)\/∃kvs,H p=some (.dK kvs)/\k=!kvs.isEmpty
 |_=>False
theorem Cj{κ:Type}{kvs:List (κ×V)}{vs:List (κ×Value)}(r:KV kvs vs):(!vs.isEmpty)=!kvs.isEmpty:=by cases r<;>rfl
theorem tM{xs:List V}{its:List Value}(r:Vals xs its):(!its.toArray.isEmpty)=!xs.isEmpty:=by cases r<;>simp
theorem kJ:(sizeLine:Nat)<2 ^ 63:=by rw[fA];decide
theorem Dh:So X (fun x H Q=>∃k,E3 X.K x H k/\Q k H):=by
 intro pins s σ H x v Q I rx h;obtain⟨k,e,q⟩:=h;have hl:=kJ;have hs:sizeLine=16777216:=fA;cases x with
 |aq=>
  cases rx;have e':k=false:=e;subst e';exact truthy_none ⟨H,I,q⟩
 |bl b=>
  cases rx;have e':k=b:=e;subst e';exact qv ⟨H,I,q⟩
 |int i=>
  obtain⟨t,rfl⟩:=rx;have e':k=(i != 0):=e;subst e';exact PySem.P.truthy_int ⟨H,I,q⟩
 |str y=>
  obtain⟨t,rfl⟩:=rx;obtain⟨hy,e'⟩:y.length<=sizeLine/\k=((y.length:Int) != 0):=e;subst e';exact PySem.P.truthy_str (by omega) ⟨H,I.tok _,q⟩
 |byt y=>
  obtain⟨t,rfl⟩:=rx;obtain⟨hy,e'⟩:y.size<=sizeLine/\k=((y.size:Int) != 0):=e;subst e';exact W.truthy_bytes (by omega) ⟨H,I.tok _,q⟩
 |ref p=>
  cases rx;have e':(∃xs,bJ X.K H p xs/\k=!xs.isEmpty)\/(∃xs,eC X.K H p xs/\k=!xs.isEmpty)\/∃kvs,H p=some (.dK kvs)/\k=!kvs.isEmpty:=e;rcases e' with ⟨xs,hx,e'⟩|⟨xs,hx,e'⟩|⟨kvs,hx,e'⟩
  .subst e';obtain⟨its,r,pl,hz⟩:=I.list hx;have hlen:=r.length;exact wpAny_truthy_list pl.isList (by simp only[cR];omega) ⟨H,I.tok _,by rw[tM r];exact q⟩
  .subst e';obtain⟨its,r,pl,hz⟩:=I.tuple hx;have hlen:=r.length;exact truthy_tuple pl (by simp only[cR];omega) ⟨H,I.tok _,by rw[tM r];exact q⟩
  .subst e';obtain⟨hz,hS,vs,r,m⟩:kvs.length<=sizeLine/\(p== sysModules)=false/\∃vs,KV kvs vs/\s.heap.DictOf (bS X.prog X.w) p vs:=I.av p _ hx;have hlen:kvs.length=vs.length:=Paired.length r;exact wpAny_truthy_dict hS m (by omega) ⟨H,I.tok _,by rw[Cj r];exact q⟩
 |_=>exact (show False from e).elim
theorem Gg(ha:PE X a ta)(he:∀whole,isTrue a X.env whole=(do let v <-whole;standAt a.pos;holding [v] (truthy v))):
  PT X a (fun σ H Q=>ta σ H fun x H'=>∃k,E3 X.K x H' k/\Q k H'):=by
 intro pins s σ H Q I h;exact isTrue_plain (aF (ha pins s σ H _ I h) fun v s1 Z=>Z.g4 fun x H1 I1 r1 q1=>Dh pins s1 σ H1 x v Q I1 r1 q1) (he _)
theorem Br:c7 X (binaryOp .Add) (fun x y H Q=>∃i j,x=.str i/\y=.str j/\i.length+j.length<=sizeLine/\Q (.str (i++j)) H):=by intro pins s σ H x y v u Q I rx ry h;obtain⟨i,j,rfl,rfl,hz,q⟩:=h;obtain⟨t,rfl⟩:=rx;obtain⟨t',rfl⟩:=ry;exact add_str (fun t' tk=>⟨.str (i++j),H,I.tok _,⟨_,rfl⟩,q⟩) hz
theorem vals1{x:V}{us:List Value}(r:Vals [x] us):∃u,us=[u]/\RelV x u:=by
 cases r with
 |cons r1 r2=>cases r2;exact⟨_,rfl,r1⟩
theorem vals2{x y:V}{us:List Value}(r:Vals [x,y] us):∃u w',us=[u,w']/\RelV x u/\RelV y w':=by
 cases r with
 |cons r1 r2=>
  cases r2 with
  |cons r3 r4=>cases r4;exact⟨_,_,rfl,r1,r3⟩
end
structure rT(h:Heap)(x dx C:Addr)(mA:Str->Option Value):Prop where
 obj:h.get? x=some (W.instObj C dx)
 ns:h.Ns1 dx mA
 ne:dx≠x
theorem pA{h:Heap}{dx:Addr}{mA:Str->Option Value}(n:h.Ns1 dx mA):∃od,h.get? dx=some od/\∀name,W.lookIn name od=some (mA name):=by
 obtain⟨o,es,ep,ho,hd,hk,_,hm⟩:=n;refine⟨o,ho,fun name=>?_⟩;have e:=hm name;unfold nsFind findBy at e;rw[<-Array.find?_toList] at e;unfold W.lookIn;rw[hd];dsimp only;split
 .rename_i y q;rw[q] at e;exact eN some e
 .rename_i q;rw[q] at e;have a:es.toList.any (·.refKey)=false:=by
   rw[List.any_eq_false];intro y hy;obtain⟨z,t,hkey⟩:=hk y (Array.mem_toList_iff.mp hy);simp[DictEntry.refKey,hkey]
  have a':¬ es.toList.any (·.refKey)=true:=by rw[a];exact e9
  rw[if_neg a'];exact eN some e
theorem rT.look{h:Heap}{x dx C:Addr}{mA:Str->Option Value}(I:rT h x dx C mA):∃od,W.InstAt h x (W.instObj C dx) C (some od)/\∀name,W.lookIn name od=some (mA name):=
 let ⟨od,ho,hl⟩:=pA I.ns
 ⟨od,⟨I.obj,rfl,rfl,ho⟩,hl⟩
section
variable {prog:Program}{w:World}{A:Around}{E:aJ}{s:Shared}{K:W.Frag}{x dx C f:Addr}{mA:Str->Option Value}{name:Str}{v:Value}
theorem get_map{expr:Bool}{Q:aJ}(X:K.In s.heap)(I:rT s.heap x dx C mA)(hg:W.plainGet K C name=true)(hh:W.hasDictIn K C=true)
  (ha:W.findIn K (.ref C) name=some none) (hv:mA name=some v) (hv':W.handedIn v=true) (h:Q v {s with toks:=s.toks+1}):
  wpAny (model prog w) A (getAttr (.ref x) name expr) Q E s:=by
 obtain⟨od,J,hl⟩:=I.look;exact W.get_value X J (A2 hg).1 (W.findObj_own hh ha rfl (by rw[hl,hv])) hv' h
theorem FE{pl:Sem Bool}{Q:Value×List Value->Shared->Prop}(X:K.In s.heap)(I:rT s.heap x dx C mA)(hg:W.plainGet K C name=true)
  (hf:W.findIn K (.ref C) name=some (some (.ref f))) (ht:W.isFn K (.ref f)=true) (hv:mA name=none) (h:Q (.ref f,[.ref x]) s):
  wpAny (model prog w) A (getMethod (.ref x) name pl) Q E s:=by
 obtain⟨od,J,hl⟩:=I.look;exact W.method_fn X J (A2 hg).1 (A2 hg).2 hf (jb.mp ht) (by show (W.lookIn name od).map (·.isSome)=some false;rw[hl,hv];rfl) h
theorem JF{ns:List Str}{Q:Unit->Shared->Prop}(X:K.In s.heap)(I:rT s.heap x dx C mA)
  (hs:W.findIn K (.ref C) "__setattr__" = some (some (.builtin "object.__setattr__"))) (hp:W.plainOver K C=true) (ht:W.takerIn K C name=some none) (hh:W.hasDictIn K C=true)
  (hw:PySem.Within mA ns) (hsz:ns.length<=sizeLine)
  (h:∀h',rT h' x dx C (fun y=>if y=name then some v else mA y)->Heap.SameBut dx s.heap h'->Q () {s with heap:=h',toks:=s.toks+2}):
  wpAny (model prog w) A (setAttr (.ref x) name v) Q E s:=by
 obtain⟨od,J,hl⟩:=I.look;refine W.set_plain X J hs (W.osa_open (s:={s with toks:=s.toks+1}) (r:=none) X J hp ht fun b=>?_);obtain⟨cd,hc,hd'⟩:=W.any_some hh;have hx:s.heap.get? x=some ⟨.ref C,some dx,.plain,#[]⟩:=I.obj;refine af (ah (af (af (wd hx (af (B6 (s:={s with toks:=s.toks+1}) (v7 X hc) ?_))))));rw[hd'];refine ah (a:=some dx) (af (ah (af ?_)));refine wpAny_nsSet1 (s:={s with toks:=s.toks+1}) I.ns fun h' hn2 hs2=>?_;obtain⟨oD,esD,epD,hoD,hdD,hcD⟩:=hn2.count (PySem.Within.cons name v hw);refine af (AM hoD (by rw[hdD];exact A9 (cS hcD (by rw[dX];omega))) ?_);exact ah (h _ ⟨(hs2.2 _ (bc I.ne)).trans I.obj,hn2,I.ne⟩ hs2)
theorem Fh{R:Result->Shared->Prop}{vs:List Value}{kw:List (Str×Value)}(X:K.In s.heap)(hm:W.makesIn K C=true)
  (hi:W.findIn K (.ref C) "__init__" = some (some (.ref f))) (hf:W.typeIn K (.ref f)=some (.type "function"))
  (h:codeAny (model prog w) (A.under (.builtin "type.__call__" ⟨.ref C::vs,kw⟩)) (.call (.ref f) ⟨.ref (s.heap.objs.size+1)::vs,kw⟩) (W.InitBack (s.heap.objs.size+1) R)
   {s with heap:=(s.heap.push W.emptyDict).push (W.instObj C s.heap.objs.size)}):
  codeAny (model prog w) A (.call (.ref C) ⟨vs,kw⟩) R s:=by
 obtain⟨hh,g,d,t,os⟩:=s;exact W.make_core (W.makes_of X hm) (mG X hi) (fun self=>W.bind_fn X self hf) (.inl rfl) h
end
def dU(f:Str)(v:V):List (Str×V)->List (Str×V)
 |[]=>[(f,v)]
 |(g,x)::r=>if g=f then (g,v)::r else (g,x)::dU f v r
theorem mU(f g:Str)(v:V):∀fs:List (Str×V),(dU f v fs).lookup g=if g=f then some v else fs.lookup g
 |[]=>by
  show List.lookup g [(f,v)]=_;by_cases h:g=f
  .have hb:(g== f)=true:=jb.mpr h;simp only[List.lookup,hb,if_pos h]
  .have hb:(g== f)=false:=gG.mpr h;simp only[List.lookup,hb,if_neg h]
 |(k,x)::r=>by
  have ih:=mU f g v r;rw[show dU f v ((k,x)::r)=(if k=f then (k,v)::r else (k,x)::dU f v r) from rfl];by_cases hk:k=f
  .rw[if_pos hk];by_cases h:g=k
   .have hb:(g== k)=true:=jb.mpr h;simp only[List.lookup,hb,if_pos (h.trans hk)]
   .have hb:(g== k)=false:=gG.mpr h;simp only[List.lookup,hb,if_neg (fun e:g=f=>h (e.trans hk.symm))]
  .rw[if_neg hk];by_cases h:g=k
   .have hb:(g== k)=true:=jb.mpr h;simp only[List.lookup,hb,if_neg (fun e:g=f=>hk (h.symm.trans e))]
   .have hb:(g== k)=false:=gG.mpr h;simp only[List.lookup,hb];exact ih
theorem pZ(f:Str)(v:V):∀fs:List (Str×V),f∈(dU f v fs).map (·.1)/\∀g,g∈fs.map (·.1)->g∈(dU f v fs).map (·.1)
 |[]=>⟨by simp[dU],fun g h=>by simp at h⟩
 |(k,x)::r=>by
  obtain⟨i1,i2⟩:=pZ f v r;rw[show dU f v ((k,x)::r)=(if k=f then (k,v)::r else (k,x)::dU f v r) from rfl];by_cases hk:k=f
  .rw[if_pos hk];subst hk;exact⟨by simp,fun g h=>by simpa using h⟩
  .rw[if_neg hk];refine⟨?_,fun g h=>?_⟩
   .rw[aX];exact fK _ i1
   .rw[aX] at h⊢;rcases cQ.mp h with e|e
    .exact cQ.mpr (.inl e)
    .exact fK _ (i2 g e)
theorem rj(f:Str)(v:V):∀fs:List (Str×V),(dU f v fs).length<=fs.length+1
 |[]=>by simp[dU]
 |(k,x)::r=>by
  have ih:=rj f v r;rw[show dU f v ((k,x)::r)=(if k=f then (k,v)::r else (k,x)::dU f v r) from rfl];by_cases hk:k=f
  .rw[if_pos hk,dX,dX];omega
  .rw[if_neg hk,dX,dX];omega
theorem eU.some_of{v:V}{o:Option Value}(r:eU (some v) o):∃u,o=some u/\RelV v u:=by
 cases o with
 |none=>exact (show False from r).elim
 |some u=>exact⟨u,rfl,r⟩
theorem eU.none_of{o:Option Value}(r:eU none o):o=none:=by
 cases o with
 |none=>rfl
 |some u=>exact (show False from r).elim
theorem vF{v:V}{u:Value}(r:RelV v u):W.handedIn u=true:=by
 cases v with
 |aq=>cases (show u=Value.none from r);rfl
 |bl b=>cases (show u=Value.bool b from r);rfl
 |int i=>obtain⟨t,e⟩:=(show ∃t,u=Value.int i t from r);cases e;rfl
 |str x=>obtain⟨t,e⟩:=(show ∃t,u=Value.str x t from r);cases e;rfl
 |byt b=>obtain⟨t,e⟩:=(show ∃t,u=Value.bytes b t from r);cases e;rfl
 |flt b=>obtain⟨t,e⟩:=(show ∃t,u=Value.float b t from r);cases e;rfl
 |ref a=>cases (show u=Value.ref a from r);rfl
 |ty n=>cases (show u=Value.type n from r);rfl
section
variable {P:Program}{w:World}{H H':Hp}{h h':Heap}{a C dx:Addr}{fs fs':List (Str×V)}
theorem uA(av:di P w H h)(e:H a=some (.ins C dx fs)):∃mA,rT h a dx C mA/\(∀f,eU (fs.lookup f) (mA f))/\PySem.Within mA (fs.map (·.1))/\fs.length<=1000/\H dx=some (.own a):=by obtain⟨d,z,ne,ob,mA,n,r,q⟩:=(show bT P w H h a (.ins C dx fs) from av a _ e);exact⟨mA,⟨ob,n,ne⟩,r,q,z,d⟩
end
structure rg(K:W.Frag)(C:Addr):Prop where
 pg:W.plainGet K C Str.empty=true
 hd:W.hasDictIn K C=true
 po:W.plainOver K C=true
 sa:W.findIn K (.ref C) "__setattr__" = some (some (.builtin "object.__setattr__"))
theorem rg.get{K:W.Frag}{C:Addr}(c:rg K C)(f:Str):W.plainGet K C f=true:=c.pg
def aZ(K:W.Frag)(C:Addr)(f:Str):Prop:=W.findIn K (.ref C) f=some none
theorem aZ.Qd{K:W.Frag}{C:Addr}{f:Str}(n:aZ K C f):W.takerIn K C f=some none:=by unfold W.takerIn;rw[show W.findIn K (.ref C) f=some none from n];rfl
structure Meth(K:W.Frag)(C:Addr)(m:Str)(f:Addr):Prop where
 at_:W.findIn K (.ref C) m=some (some (.ref f))
 fn:W.isFn K (.ref f)=true
 kp:W.keepIn K (.ref f)=true
section
variable {X:Cx}{pins:aO}{σ:St}{H:Hp}{s:Shared}{a C dx:Addr}{fs:List (Str×V)}{f:Str}{v:V}{A:Around}{E:aJ}
theorem BF{b:Bool}{Q:aJ}(I:Inv X pins σ H s)(e:H a=some (.ins C dx fs))(c:rg X.K C)(n:aZ X.K C f)(l:fs.lookup f=some v)
  (h:∀u s',Inv X pins σ H s'->RelV v u->Q u s'):wpAny (model X.prog X.w) A (getAttr (.ref a) f b) Q E s:=by
 obtain⟨mA,O,r,_,_,_⟩:=uA I.av e;obtain⟨u,hu,ru⟩:=eU.some_of (v:=v) (o:=mA f) (by rw[<-l];exact r f);exact get_map I.bE O (c.get f) c.hd n hu (vF ru) (h u _ (I.tok _) ru)
theorem n6{m:Str}{g:Addr}{pl:Sem Bool}{Q:Value×List Value->Shared->Prop}(I:Inv X pins σ H s)(e:H a=some (.ins C dx fs))(c:rg X.K C)(k:Meth X.K C m g)(l:fs.lookup m=none)
  (h:Q (.ref g,[.ref a]) s):wpAny (model X.prog X.w) A (getMethod (.ref a) m pl) Q E s:=by
 obtain⟨mA,O,r,_,_,_⟩:=uA I.av e;have hn:mA m=none:=eU.none_of (by rw[<-l];exact r m);exact FE I.bE O (c.get m) k.at_ k.fn hn h
theorem Bm{y:V}{u:Value}{Q:Unit->Shared->Prop}(I:Inv X pins σ H s)(e:H a=some (.ins C dx fs))(c:rg X.K C)(n:aZ X.K C f)(hl:fs.length<1000)(ry:RelV y u)
  (h:∀s',Inv X pins σ (upd H a (.ins C dx (dU f y fs))) s'->Q () s'):wpAny (model X.prog X.w) A (setAttr (.ref a) f u) Q E s:=by
 obtain⟨mA,O,r,wi,_,ho⟩:=uA I.av e;have hz:(fs.map (·.1)).length<=sizeLine:=by rw[j3,fA];omega
 refine JF I.bE O c.sa c.po n.Qd c.hd wi hz fun h' O' sb=>h _ ?_;have hd:∃o,h'.get? dx=some o:=let ⟨o,_,_,e',_⟩:=O'.ns;⟨o,e'⟩
 refine I.write (x:=a) (e:=dx) (by rw[e];exact oN) (.inr ho) (fun b q hb z=>(sb.2 b hb).trans z) hd ?_;refine⟨by rw[az O.ne];exact ho,?_,O.ne,O'.obj,_,O'.ns,fun g=>?_,fun g hg=>?_⟩
 .have:=rj f y fs;omega
 .show eU ((dU f y fs).lookup g) (if g=f then some u else mA g);rw[mU];by_cases q:g=f
  .rw[if_pos q,if_pos q];exact ry
  .rw[if_neg q,if_neg q];exact r g
 .by_cases q:g=f
  .rw[q];exact (pZ f y fs).1
  .refine (pZ f y fs).2 g (wi g fun z=>hg ?_);show (if g=f then some u else mA g)=none;rw[if_neg q];exact z
theorem Inv.made(I:Inv X pins σ H s):Inv X pins σ (upd (upd H s.heap.objs.size (.own (s.heap.objs.size+1))) (s.heap.objs.size+1) (.ins C s.heap.objs.size []))
  {s with heap:=(s.heap.push W.emptyDict).push (W.instObj C s.heap.objs.size)}:=by
 have e1:(s.heap.push W.emptyDict).get? s.heap.objs.size=some W.emptyDict:=dC s.heap rfl;have e2:((s.heap.push W.emptyDict).push (W.instObj C s.heap.objs.size)).get? (s.heap.objs.size+1)=some (W.instObj C s.heap.objs.size):=by
  have:=dC (s.heap.push W.emptyDict) (o:=W.instObj C s.heap.objs.size) rfl
  rwa [jE] at this
 have e3:(s.heap.push W.emptyDict).Ns s.heap.objs.size (fun _=>none):=⟨W.emptyDict,#[],_,e1,rfl,(fun e he=>absurd he (by simp)),fun _=>rfl⟩;have I1:=I.laid (a:=s.heap.objs.size) (o:=.own (s.heap.objs.size+1)) (h':=s.heap.push W.emptyDict) (t':=s.toks) (fun b u q=>bj _ q) (aG _) ⟨_,e1⟩;refine I1.laid (a:=s.heap.objs.size+1) (o:=.ins C s.heap.objs.size []) (t':=s.toks) (fun b u q=>bj _ q) (Nat.le_of_eq (jE _ _)) ?_;have ne:s.heap.objs.size≠s.heap.objs.size+1:=b7 (uS _);refine⟨by rw[az ne,aM],sT _,ne,e2,fun _=>none,(Heap.Ns1.of_empty e3).at fun o q=>bj _ q,fun _=>oN,fun y hy=>absurd rfl hy⟩
theorem Aa{prog:Program}{w:World}{env:Env}{e:Expr}{f:Str}{pos:Pos}{s:Shared}{Q:aJ}(hb:attributeBase e f env (eval e env)=eval e env)
  (h:wpAny (model prog w) A (eval e env) (fun o s₁=>wpAny (model prog w) A (getAttr o f true) Q E s₁) E s):wpAny (model prog w) A (eval (.Attribute e f pos) env) Q E s:=
 Attribute_any_ h (by rw[arm_eval_Attribute,hb])
end
noncomputable def SH(K:W.Frag)(ta:TE)(f:Str):TE:=fun σ H Q=>ta σ H fun x H1=>∃a C dx fs v,x=.ref a/\H1 a=some (.ins C dx fs)/\rg K C/\aZ K C f/\fs.lookup f=some v/\Q v H1
def To(K:W.Frag)(ta tv:TE)(f:Str):TS:=fun D σ H=>tv σ H fun y H1=>ta σ H1 fun x H2=>∃a C dx fs,x=.ref a/\H2 a=some (.ins C dx fs)/\rg K C/\aZ K C f/\fs.length<1000/\
 D.nx σ (upd H2 a (.ins C dx (dU f y fs)))
section
variable {X:Cx}{o e value:Expr}{f:Str}{pos pos' tpos:Pos}{ta tv:TE}
theorem K4(he:PE X e ta)(hb:attributeBase e f X.env (eval e X.env)=eval e X.env):PE X (.Attribute e f pos) (SH X.K ta f):=by intro pins s σ H Q I h;refine Aa hb (aF (he pins s σ H _ I h) fun u s1 Z=>Z.g fun x Z=>Z.g fun H1 Z=>Z.g fun I1 Z=>Z.g fun rx Z=>Z.g fun a Z=>Z.g fun C Z=>Z.g fun dx Z=>Z.g fun fs Z=>Z.g fun v Z=>Z.g fun ex Z=>Z.g fun ea Z=>Z.g fun c Z=>Z.g fun n Z=>Z.g fun l q=>?_);subst ex;obtain rfl:u=Value.ref a:=rx;exact BF I1 ea c n l fun u' s2 I2 ru=>⟨v,H1,I2,ru,q⟩
theorem NT(ha:PE X o ta)(hv:PE X value tv)(hs:swapsWith value (some (.Attribute o f pos')) pos.line X.env=pure false):PS X (.Assign [.Attribute o f pos'] value pos) (To X.K ta tv f):=by intro pins s σ H D I h;refine IH (aF (hv pins s σ H _ I h) fun u s1 Z=>Z.g fun y Z=>Z.g fun H1 Z=>Z.g fun I1 Z=>Z.g fun ry q=>aF (ha pins s1 σ H1 _ I1 q) fun ov s2 Z=>Z.g fun x Z=>Z.g fun H2 Z=>Z.g fun I2 Z=>Z.g fun rx Z=>Z.g fun a Z=>Z.g fun C Z=>Z.g fun dx Z=>Z.g fun fs Z=>Z.g fun ex Z=>Z.g fun ea Z=>Z.g fun c Z=>Z.g fun n Z=>Z.g fun l q2=>?_) hs;subst ex;obtain rfl:ov=Value.ref a:=rx;exact Bm I2 ea c n l ry fun s3 I3=>⟨σ,_,I3,q2⟩
end
section
variable {X:Cx}{pins:aO}{σ:St}{H:Hp}{s:Shared}{A:Around}{E:aJ}{Q:aJ}{c:Value}{b:Bool}
end
structure bZ(k:Nat)(A:Around):Prop where
 hd:A.handled=none
 dp:A.depth+3 * k+5<recursionLimit
 un:A.units+16 * k+200<cLine
theorem bZ.mono{j k:Nat}{A:Around}(r:bZ k A)(h:j<=k):bZ j A:=⟨r.hd,by have:=r.dp;omega,by have:=r.un;omega⟩
theorem bZ.deeper{k:Nat}{A:Around}(r:bZ (k+1) A)(env:Env):bZ k (A.deeper env):=
 ⟨r.hd,by have:=r.dp;show A.depth+1+3 * k+5<_;omega,by have:=r.un;show A.units+3+16 * k+200<_;omega⟩
theorem AX{A:Around}{C:Addr}{us:List Value}{kw:List (Str×Value)}:(A.under (.builtin "type.__call__" ⟨.ref C::us,kw⟩)).depth=A.depth+1:=by first|rfl|simp[Around.under,Code.weight,Code.isCreation,Code.isGuard,Code.isCaller,Code.frames,Code.isFrame,guardIds]
theorem Cq{A:Around}{C:Addr}{us:List Value}{kw:List (Str×Value)}:(A.under (.builtin "type.__call__" ⟨.ref C::us,kw⟩)).units=A.units+1:=by first|rfl|simp[Around.under,Code.cUnits,Code.frames,Code.isFrame]
theorem bZ.make{k:Nat}{A:Around}(r:bZ (k+1) A)(C:Addr)(us:List Value)(kw:List (Str×Value)):bZ k (A.under (.builtin "type.__call__" ⟨.ref C::us,kw⟩)):=
 ⟨r.hd,by have:=r.dp;rw[AX];omega,by have:=r.un;rw[Cq];omega⟩
theorem bZ.depth{k:Nat}{A:Around}(r:bZ k A):A.depth<recursionLimit:=by have:=r.dp;omega
noncomputable def uR:TA:=fun _ H Q=>Q [] H
noncomputable def lR(ta:TE)(tr:TA):TA:=fun σ H Q=>ta σ H fun x H1=>tr σ H1 fun xs H2=>Q (x::xs) H2
section
variable {X:Cx}{e:Expr}{es:List Expr}{te:TE}{t:TA}{pos:Pos}
theorem cy:PA X [] uR:=fun _ _ _ _ H Q I h=>FY ⟨[],H,I,.nil,h⟩
theorem bA(ha:PE X e te)(hr:PA X es t)(hs:starEach (e::es) X.env=(false,eval e X.env)::starEach es X.env:=by rfl):PA X (e::es) (lR te t):=by intro pos pins s σ H Q I h;rw[hs];show wpAny _ _ (spliced ((false,eval e X.env)::backTo pos (starEach es X.env))) _ _ s;refine w9 (aF (ha pins s σ H _ I h) fun u s1 Z=>Z.g4 fun x H1 I1 r1 q1=>?_);exact aF (hr pos pins s1 σ H1 _ I1 q1) fun us s2 Z=>Z.g4 fun xs H2 I2 r2 q2=>⟨x::xs,H2,I2,.cons r1 r2,q2⟩
def MX(t:TA):TE:=fun σ H Q=>t σ H fun xs H1=>xs.length<=sizeLine/\∀p,H1 p=none->Q (.ref p) (upd H1 p (.tup xs))
def TZ(t:TA):TE:=fun σ H Q=>t σ H fun xs H1=>xs.length<=sizeLine/\∀p,H1 p=none->Q (.ref p) (upd H1 p (.lst xs))
theorem EA{x1}(h:PA X es t):PE X (.Tuple es x1 pos) (MX t):=by intro pins s σ H Q I hq;refine wpAny_Tuple_spliced (aF (h pos pins s σ H _ I hq) fun us s1 Z=>Z.g4 fun xs H1 I1 r Z=>Z.g fun z q=>⟨by rw[<-r.length];exact z,?_⟩);have hf:H1 s1.heap.objs.size=none:=I1.av.fresh (aG _);refine⟨.ref s1.heap.objs.size,upd H1 s1.heap.objs.size (.tup xs),I1.laid (t':=s1.toks) (fun b u e=>bj _ e) (aG _) ?_,rfl,q _ hf⟩;exact⟨z,us,r,⟨_,dC _ rfl,rfl,_,rfl⟩⟩
theorem Nk(h:PA X es t):PE X (.List es pos) (TZ t):=by intro pins s σ H Q I hq;refine wpAny_List_spliced (aF (h pos pins s σ H _ I hq) fun us s1 Z=>Z.g4 fun xs H1 I1 r Z=>Z.g fun z q=>⟨by rw[<-r.length];exact z,?_⟩);have hf:H1 s1.heap.objs.size=none:=I1.av.fresh (aG _);refine⟨.ref s1.heap.objs.size,upd H1 s1.heap.objs.size (.lst xs),I1.laid (t':=s1.toks) (fun b u e=>bj _ e) (aG _) ?_,rfl,q _ hf⟩;exact⟨z,us,0,r,dC _ rfl⟩
end
abbrev Sp:=List V->Hp->VK->XK->Prop
abbrev iH:=List Env->Hp->Shared->XK->aJ
structure rK(P:Program)(w:World)(K:W.Frag)(mg:Str->Option Value)(base:Heap)(A:Around)(outer:List Env)(s:Shared)(H:Hp):Prop where
 frames:A.frames=some outer
 mod:Mod K mg base
 bs:∀b o,base.get? b=some o->s.heap.get? b=some o/\H b=none
 nM:base.objs.size<=s.heap.objs.size
 gX:s.heap.FunFrames base outer
 pv:∀b∈bL outer,H b=none
 av:di P w H s.heap
 bare:AllBare s.gens
def CE(outer:List Env)(P:Program)(w:World)(H:Hp)(s:Shared)(Q:VK)(u:Value)(s':Shared):Prop:=
 ∃v H',s'.os=s.os/\AllBare s'.gens/\Un (bL outer) [] H H' s.heap s'.heap/\di P w H' s'.heap/\RelV v u/\Q v H'
def CR(CX:iH)(outer:List Env)(P:Program)(w:World)(H:Hp)(s:Shared)(Q:VK)(E:XK)(r:Result)(s':Shared):Prop:=
 match r with
 |.ok (.ret u)=>CE outer P w H s Q u s'
 |.ok _=>False
 |.error e=>CX outer H s E e s'
structure cv(P:Program)(w:World)(K:W.Frag)(mg:Str->Option Value)(base:Heap)(CX:iH)(k:Nat)(f:Addr)(fd:FuncData)(ps:List Str)(sp:Sp):Prop where
 len:∀vs H Q E,sp vs H Q E->vs.length=ps.length
 run:∀(A:Around)(outer:List Env)(s:Shared)(H:Hp)(args:Args)(us:List Value)(vs:List V)(Q:VK)(E:XK),bZ k A->rK P w K mg base A outer s H->BindsTo s fd args (ps.zip us)->Vals vs us->sp vs H Q E->
  codeAny (model P w) A (.call (.ref f) args) (CR CX outer P w H s Q E) s
theorem cv.imp{P:Program}{w:World}{K:W.Frag}{mg:Str->Option Value}{base:Heap}{CX:iH}{k:Nat}{f:Addr}{fd:FuncData}{ps:List Str}{sp sp':Sp}(F:cv P w K mg base CX k f fd ps sp)
  (h:∀vs H Q E,sp' vs H Q E->sp vs H Q E):cv P w K mg base CX k f fd ps sp':=
 ⟨fun vs H Q E q=>F.len vs H Q E (h _ _ _ _ q),fun A outer s H args us vs Q E hr he hb hv hs=>F.run A outer s H args us vs Q E hr he hb hv (h _ _ _ _ hs)⟩
theorem rK.make{P:Program}{w:World}{K:W.Frag}{mg:Str->Option Value}{base:Heap}{A:Around}{outer:List Env}{s:Shared}{H:Hp}(e:rK P w K mg base A outer s H)(C:Addr)(us:List Value)(kw:List (Str×Value)):
  rK P w K mg base (A.under (.builtin "type.__call__" ⟨.ref C::us,kw⟩)) outer s H:=⟨by first|exact e.frames|(simpa [Around.under,Code.envs,Code.isFrame,pushEnvs] using e.frames),e.mod,e.bs,e.nM,e.gX,e.pv,e.av,e.bare⟩
section
variable {X:Cx}{pins:aO}{σ:St}{H:Hp}{s s':Shared}
theorem Inv.AY(I:Inv X pins σ H s):rK X.prog X.w X.K X.mg X.base X.A X.stack s H:=
 ⟨I.ok.frames,I.ok.mod,I.bs,cS I.ok.nM I.sz,I.stack,I.kG,I.av,I.bare⟩
theorem Inv.after{Q:VK}{u:Value}(I:Inv X pins σ H s)(h:CE X.stack X.prog X.w H s Q u s'):EP X pins σ Q u s':=by obtain⟨v,H',os,bare,un,av,r,q⟩:=h;obtain⟨hh,g,d,t,os'⟩:=s';obtain rfl:os'=s.os:=os;exact⟨v,H',I.call (h':=hh) (g':=g) (d':=d) (t':=t) (ch:=[]) un av bare (fun b z=>absurd z (by simp)),r,q⟩
end
noncomputable def AS(sp:Sp)(dvs:List V)(E:XK)(t:TA):TE:=fun σ H Q=>t σ H fun vs H1=>sp (vs++dvs) H1 Q E
noncomputable def AL(C:Addr)(m:Str)(sp:Sp)(dvs:List V)(E:XK)(ta:TE)(t:TA):TE:=fun σ H Q=>ta σ H fun x H1=>∃a dx fs,x=.ref a/\H1 a=some (.ins C dx fs)/\fs.lookup m=none/\
 t σ H1 fun vs H2=>sp (x::(vs++dvs)) H2 Q E
def Pd(C:Addr)(sp:Sp)(dvs:List V)(E:XK)(t:TA):TE:=fun σ H Q=>t σ H fun vs H1=>∀x dx,H1 x=none->H1 dx=none->dx≠x->
 sp (.ref x::(vs++dvs)) (upd (upd H1 dx (.own x)) x (.ins C dx [])) (fun v H2=>v=.aq/\Q (.ref x) H2) E
def Binds(K:W.Frag)(fd:FuncData)(ps:List Str)(ds:List Value):Prop:=
 ∀(s:Shared)(us:List Value),K.In s.heap->(us++ds).length=ps.length->BindsTo s fd ⟨us,[]⟩ (ps.zip (us++ds))
theorem Binds.all{K:W.Frag}{fd:FuncData}{ps:List Str}(h:∀us:List Value,us.length=ps.length->bindArgs fd ⟨us,[]⟩=pure (ps.zip us)):Binds K fd ps []:=fun s us _ hl=>by
 rw[jf] at hl⊢;exact .of_eq (h us hl)
def Passes(CX:iH)(X:Cx)(E:XK):Prop:=∀(pins:aO)(σ:St)(H:Hp)(s:Shared)(e:Value)(s':Shared),Inv X pins σ H s->CX X.stack H s E e s'->X.xe e s'
section
variable {X:Cx}{CX:iH}{k:Nat}{f C:Addr}{fd:FuncData}{ps:List Str}{sp:Sp}{dvs:List V}{ds:List Value}{E:XK}{x m:Str}{p pos apos:Pos}{e o:Expr}{es:List Expr}{ta:TE}{t:TA}
theorem pe{pins:aO}{σ:St}{H:Hp}{s:Shared}{Q:VK}{us:List Value}{vs:List V}(F:cv X.prog X.w X.K X.mg X.base CX k f fd ps sp)(hr:bZ k X.A)(hb:Binds X.K fd ps ds)(hd:Vals dvs ds)(hx:Passes CX X E)
  (I:Inv X pins σ H s) (r:Vals vs us) (h:sp (vs++dvs) H Q E):wpAny (model X.prog X.w) X.A (call (.ref f) us) (EP X pins σ Q) X.xe s:=by
 have r2:Vals (vs++dvs) (us++ds):=r.append hd;have hl:(us++ds).length=ps.length:=by rw[<-r2.length];exact F.len _ _ _ _ h
 refine jI (oa (F.run X.A X.stack s H ⟨us,[]⟩ (us++ds) (vs++dvs) Q E hr I.AY (hb s us I.bE hl) r2 h) fun r s' hq=>?_);cases r with
 |error e=>exact hx pins σ H s e s' I hq
 |ok fl=>
  cases fl with
  |ret u=>exact I.after hq
  |next=>exact False.elim hq
  |brk=>exact False.elim hq
  |cont=>exact False.elim hq
theorem JJ(F:cv X.prog X.w X.K X.mg X.base CX k f fd ps sp)(hr:bZ k X.A)(hg:Gl X x)(hm:X.mg x=some (.ref f))(hk:W.keepIn X.K (.ref f)=true)(hb:Binds X.K fd ps ds)(hd:Vals dvs ds)(hx:Passes CX X E)
  (ha:PA X (e::es) t) (hdb:(x== ("__debug__" : Str))=false:=by decide) (he:starEach (e::es) X.env=(false,eval e X.env)::starEach es X.env:=by rfl) (hpl:(backTo pos (starEach es X.env)).any (·.1)=false:=by rfl):
  PE X (.Call (.Name x p) (e::es) [] pos) (AS sp dvs E t):=by
 intro pins s σ H Q I h;refine oJ (gE I hg hm ?_ hdb);refine mC (h₀:=X.base) I.ok.mod.rq hk (aF (ha pos pins s σ H _ I h) fun us s1 Z=>Z.g4 fun vs H1 I1 r q=>⟨I1.bE,?_⟩) he hpl;exact pe F hr hb hd hx I1 r q
theorem Kh{pl:Sem Bool}(he:PE X o ta)(c:rg X.K C)(hm:Meth X.K C m f)(F:cv X.prog X.w X.K X.mg X.base CX k f fd ps sp)(hr:bZ k X.A)(hb:Binds X.K fd ps ds)(hd:Vals dvs ds)(hx:Passes CX X E)(ha:PA X (e::es) t)
  (hst:starEach (e::es) X.env=(false,eval e X.env)::starEach es X.env:=by rfl) (hpl:(backTo pos (starEach es X.env)).any (·.1)=false:=by rfl)
  (ht:eval (.Call (.Attribute o m apos) (e::es) [] pos) X.env=(do
   let ov <-eval o X.env
   standAt apos.atName
   let (f,first) <-holding [ov] (getMethod ov m pl)
   callWith pos f first (backTo pos (starEach (e::es) X.env)) (backToKw pos (keywordEach [] X.env))):=by rfl):
  PE X (.Call (.Attribute o m apos) (e::es) [] pos) (AL C m sp dvs E ta t):=by
 intro pins s σ H Q I h;refine wu (pl:=pl) (aF (he pins s σ H _ I h) fun u s1 Z=>Z.g fun x Z=>Z.g fun H1 Z=>Z.g fun I1 Z=>Z.g fun rx Z=>Z.g fun a Z=>Z.g fun dx Z=>Z.g fun fs Z=>Z.g fun ex Z=>Z.g fun ea Z=>Z.g fun l q=>?_) ht;subst ex;obtain rfl:u=Value.ref a:=rx;refine n6 I1 ea c hm l ?_;refine mC (first:=[.ref a]) (h₀:=X.base) I.ok.mod.rq hm.kp (aF (ha pos pins s1 σ H1 _ I1 q) fun us s2 Z=>Z.g fun vs Z=>Z.g fun H2 Z=>Z.g fun I2 Z=>Z.g fun r q2=>⟨I2.bE,?_⟩) hst hpl;exact pe (us:=.ref a::us) (vs:=.ref a::vs) F hr hb hd hx I2 (.cons rfl r) q2
structure Mk(K:W.Frag)(C f:Addr):Prop where
 makes:W.makesIn K C=true
 init:W.findIn K (.ref C) "__init__" = some (some (.ref f))
 fn:W.isFn K (.ref f)=true
 kp:W.keepIn K (.ref C)=true
theorem wZ{pins:aO}{σ:St}{H:Hp}{s:Shared}{Q:VK}{us:List Value}{vs:List V}(M:Mk X.K C f)(F:cv X.prog X.w X.K X.mg X.base CX k f fd ps sp)(hr:bZ (k+1) X.A)(hb:Binds X.K fd ps ds)(hd:Vals dvs ds)
  (hx:Passes CX X E) (I:Inv X pins σ H s) (r:Vals vs us)
  (h:∀x dx,H x=none->H dx=none->dx≠x->sp (.ref x::(vs++dvs)) (upd (upd H dx (.own x)) x (.ins C dx [])) (fun v H2=>v=.aq/\Q (.ref x) H2) E):
  wpAny (model X.prog X.w) X.A (call (.ref C) us) (EP X pins σ Q) X.xe s:=by
 have hq:=h (s.heap.objs.size+1) s.heap.objs.size (I.av.fresh (jx _)) (I.av.fresh (aG _)) (b7 (uS _));have I2:=Inv.made (C:=C) I;have r2:Vals (V.ref (s.heap.objs.size+1)::(vs++dvs)) (Value.ref (s.heap.objs.size+1)::(us++ds)):=.cons rfl (r.append hd);have hl:(Value.ref (s.heap.objs.size+1)::us++ds).length=ps.length:=by have e:=r2.length;rw[F.len _ _ _ _ hq] at e;exact e.symm
 refine jI (Fh (f:=f) I.bE M.makes M.init (jb.mp M.fn) (oa (F.run _ X.stack _ _ ⟨Value.ref (s.heap.objs.size+1)::us,[]⟩ (Value.ref (s.heap.objs.size+1)::(us++ds)) _ _ E (hr.make C us [])
  (I2.AY.make C us []) (hb _ (Value.ref (s.heap.objs.size+1)::us) I2.bE hl) r2 hq) fun r s' hq'=>?_))
 cases r with
 |error e=>exact hx pins σ _ _ e s' I2 hq'
 |ok fl=>
  cases fl with
  |ret u=>
   obtain⟨v,H',I3,rv,ev,q3⟩:=I2.after hq';subst ev;exact⟨rv,⟨V.ref (s.heap.objs.size+1),H',I3,rfl,q3⟩⟩
  |next=>exact False.elim hq'
  |brk=>exact False.elim hq'
  |cont=>exact False.elim hq'
theorem Kl(M:Mk X.K C f)(F:cv X.prog X.w X.K X.mg X.base CX k f fd ps sp)(hr:bZ (k+1) X.A)(hg:Gl X x)(hm:X.mg x=some (.ref C))(hb:Binds X.K fd ps ds)(hd:Vals dvs ds)(hx:Passes CX X E)
  (ha:PA X (e::es) t) (hdb:(x== ("__debug__" : Str))=false:=by decide) (he:starEach (e::es) X.env=(false,eval e X.env)::starEach es X.env:=by rfl) (hpl:(backTo pos (starEach es X.env)).any (·.1)=false:=by rfl):
  PE X (.Call (.Name x p) (e::es) [] pos) (Pd C sp dvs E t):=by
 intro pins s σ H Q I h;refine oJ (gE I hg hm ?_ hdb);refine mC (h₀:=X.base) I.ok.mod.rq M.kp (aF (ha pos pins s σ H _ I h) fun us s1 Z=>Z.g4 fun vs H1 I1 r q=>⟨I1.bE,?_⟩) he hpl;exact wZ M F hr hb hd hx I1 r q
end
section
variable {X:Cx}{CX:iH}{k:Nat}{f C:Addr}{fd:FuncData}{ps ks:List Str}{sp:Sp}{E:XK}{x m:Str}{p pos apos kpos:Pos}{e o:Expr}{es:List Expr}{kws:List Keyword}{te ta:TE}{t tk:TA}{nm:Option Str}
variable {g:List Value->List Value->List Value}{gV:List V->List V->List V}
end
structure kE(N P:List Str)(sc:Scope):Prop where
 kind:sc.kind=.function
 co:sc.isCoroutine=false
 gen:sc.isGenerator=false
 nd:N.Nodup
 pre:N.take P.length=P
 par:∀x∈P,sc.names.lookup x=some .local\/sc.names.lookup x=some .cell
 NW:∀y∈sc.names,y.2≠.free
theorem vI{kindOf:Str->Option NameKind}{x:Str}:∀{binds:List (Str×Value)}{m:Str->Option Value},(∀v,(x,v)∉binds)->bindL kindOf binds m x=m x
 |[],_,_=>rfl
 |(n,v)::r,m,h=>by
  unfold bindL;rw[vI fun w hw=>h w (fK _ hw)];split
  .have:x≠n:=by rintro rfl;exact h v rE
   simp[this]
  .rfl
theorem vR{kindOf:Str->Option NameKind}{x:Str}:∀{binds:List (Str×Value)}{m:Str->Option Value},(∀v,(x,v)∉binds)->bindC kindOf binds m x=m x
 |[],_,_=>rfl
 |(n,v)::r,m,h=>by
  unfold bindC;rw[vR fun w hw=>h w (fK _ hw)];split
  .rfl
  .have:x≠n:=by rintro rfl;exact h v rE
   simp[this]
theorem vf{kindOf:Str->Option NameKind}{x:Str}{v:Value}:∀{P:List Str}{vs:List Value}{i:Nat}{m:Str->Option Value},P.Nodup->P[i]?=some x->vs[i]?=some v->kindOf x=some .local->
  bindL kindOf (P.zip vs) m x=some v
 |[],_,_,_,_,h,_,_=>by simp at h
 |_::_,[],_,_,_,_,h,_=>by simp at h
 |p::P,w::vs,0,m,nd,h1,h2,hk=>by
  simp at h1 h2;subst h1;subst h2;show bindL kindOf ((p,w)::P.zip vs) m p=_;unfold bindL;rw[vI fun v hv=>(oo.mp nd).1 (List.of_mem_zip hv).1,if_pos hk];simp
 |p::P,w::vs,i+1,m,nd,h1,h2,hk=>by
  show bindL kindOf ((p,w)::P.zip vs) m x=_;unfold bindL;exact vf (i:=i) (oo.mp nd).2 (by simpa using h1) (by simpa using h2) hk
theorem vK{kindOf:Str->Option NameKind}{x:Str}{v:Value}:∀{P:List Str}{vs:List Value}{i:Nat}{m:Str->Option Value},P.Nodup->P[i]?=some x->vs[i]?=some v->kindOf x≠some .local->
  bindC kindOf (P.zip vs) m x=some v
 |[],_,_,_,_,h,_,_=>by simp at h
 |_::_,[],_,_,_,_,h,_=>by simp at h
 |p::P,w::vs,0,m,nd,h1,h2,hk=>by
  simp at h1 h2;subst h1;subst h2;show bindC kindOf ((p,w)::P.zip vs) m p=_;unfold bindC;rw[vR fun v hv=>(oo.mp nd).1 (List.of_mem_zip hv).1,if_neg hk];simp
 |p::P,w::vs,i+1,m,nd,h1,h2,hk=>by
  show bindC kindOf ((p,w)::P.zip vs) m x=_;unfold bindC;exact vK (i:=i) (oo.mp nd).2 (by simpa using h1) (by simpa using h2) hk
noncomputable def start(N:List Str)(vs:List V):St:=vs.map some++List.replicate (N.length-vs.length) none
noncomputable def mO(CX:iH)(P:Program)(w:World)(K:W.Frag)(mg:Str->Option Value)(base:Heap)(N:List Str)(qual:Str)(scope:Scope)(f:Addr)(cd:Value)(A:Around)(outer:List Env)(s:Shared)(H:Hp)(E:XK):Cx where
 prog:=P
 w:=w
 K:=K
 mg:=mg
 base:=base
 A:=A.deeper (envOfC qual scope s.heap.objs.size f cd)
 N:=N
 aR:=s
 mY:=H
 env:=envOfC qual scope s.heap.objs.size f cd
 outer:=outer
 stack:=envOfC qual scope s.heap.objs.size f cd::outer
 ex:=[]
 calm:=true
 fn:=fun _=>true
 pn:=[]
 xe:=fun e s'=>wpAny (model P w) (A.deeper (envOfC qual scope s.heap.objs.size f cd)) (leaving (envOfC qual scope s.heap.objs.size f cd) e) (fun _ s''=>CX outer H s E e s'') (fun e' s''=>CX outer H s E e' s'') s'
theorem yV{sc:Scope}{n:Nat}{x:Str}(h:sc.names.lookup x=some .cell):∃c,(cellsFrom n sc.names []).lookup x=some c:=by have q:=W.cellsFrom_some sc.names n [] (.inl h);exact qm.mp q
theorem Dw{CX:iH}{P:Program}{w:World}{K:W.Frag}{mg:Str->Option Value}{base:Heap}{N ps:List Str}{qual:Str}{scope:Scope}{f:Addr}{cd:Value}{A:Around}{outer:List Env}{s s1:Shared}{H:Hp}{E:XK}{us:List Value}{vs:List V}
  (S:kE N ps scope) (hd:A.handled=none) (e0:rK P w K mg base A outer s H) (hl:vs.length=ps.length) (r:Vals vs us)
  (x:InCallC s s.heap.objs.size (bindL (envOfC qual scope s.heap.objs.size f cd).kindOf (ps.zip us) fun _=>none) (cellsFrom (s.heap.objs.size+1) scope.names []) (bindC (envOfC qual scope s.heap.objs.size f cd).kindOf (ps.zip us) fun _=>none) s1):
  Inv (mO CX P w K mg base N qual scope f cd A outer s H E) [] (start N vs) H s1:=by
 have hpl:ps.length<=N.length:=by have:=eN List.length S.pre;rw[yJ] at this;omega
 obtain⟨h1,tk,rfl,hk⟩:=x.done;have noA:∀b:Addr,b∉(mO CX P w K mg base N qual scope f cd A outer s H E).ex:=fun b z=>absurd (show b∈([]:List Addr) from z) (by simp);refine⟨⟨e0.mod,S.kind,rfl,rfl,aG _,fun y z c h1 h2=>?_,fun y hy=>?_,fun y c _ h=>?_,fun _=>hd,Around.frames_deeper e0.frames,.inr ⟨rfl,rfl⟩,fun b z=>absurd z (noA b),e0.bs,e0.nM,fun b _ _=>noA b,fun b z=>absurd z (noA b),e0.gX,e0.pv⟩,
  rfl,e0.bare,Un.kept hk,⟨_,x.toInCall.ns,fun i y v h1 h2 h3=>?_⟩,fun y c h=>⟨_,x.cell y c h⟩,e0.av.fresh (aG _),fun y c h=>?_,fun p hp=>absurd (show p∈([]:aO) from hp) (by simp),e0.av.kept hk,?_⟩
 .exact name_of_addr x.apart (kC h1) (kC h2)
 .have hy:scope.names.lookup y=some .cell\/scope.names.lookup y=some .free:=hy;rcases hy with hy|hy
  .exact yV hy
  .exact absurd rfl (S.NW _ (kC hy))
 .exact AV (x.above y c (kC h))
 .have hi:i<vs.length:=by
   unfold start at h2;by_cases hi:i<vs.length
   .exact hi
   .rw[om (by simpa using hi)] at h2;rw[FJ] at h2;split at h2<;>cases h2
  have ha:vs[i]?=some v:=by
   unfold start at h2;rw[ja (by simpa using hi),oy] at h2;cases e:vs[i]? with
   |none=>rw[e] at h2;cases h2
   |some a=>rw[e] at h2;cases h2;rfl
  obtain⟨u,hu,rv⟩:=r.get ha;have hp:ps[i]?=some y:=by rw[<-S.pre,List.getElem?_take_of_lt (by omega)];exact h1
  have ndP:ps.Nodup:=by rw[<-S.pre];exact S.nd.sublist (List.take_sublist _ _)
  refine⟨u,rv,?_⟩;rcases S.par y (xS hp) with k|k
  .exact .inl ⟨k,vf ndP hp hu k⟩
  .obtain⟨c,e⟩:=yV (n:=s.heap.objs.size+1) k;refine .inr ⟨.inl k,c,e,?_⟩;have q:=x.cell y c e;rw[vK ndP hp hu (by show scope.names.lookup y≠_;rw[k];decide)] at q;exact q
 .exact e0.av.fresh (AV (x.above y c (kC h)))
 .unfold start;show _=N.length;rw[n5,j3,List.length_replicate];omega
theorem Cz{CX:iH}{P:Program}{w:World}{K:W.Frag}{mg:Str->Option Value}{base:Heap}{k:Nat}{f:Addr}{name qual:Str}{params:Arguments}{body:List Stmt}{scope:Scope}{dV kV doc pm cdv ct oc:Value}{an od:Option Addr}
  {osl:Array (Option Value)}{N ps:List Str}{sp:Sp} (lk:K.lookup f=some ⟨oc,od,.func (W.fnOf name qual params body scope dV kV doc pm an cdv ct),osl⟩) (hcd:W.codeIn K cdv qual=true) (S:kE N ps scope)
  (len:∀vs H Q E,sp vs H Q E->vs.length=ps.length)
  (hbody:∀(A:Around)(outer:List Env)(s:Shared)(H:Hp)(vs:List V)(Q:VK)(E:XK),bZ k (A.deeper (envOfC qual scope s.heap.objs.size f cdv))->sp vs H Q E->
   ∃t,ff (mO CX P w K mg base N qual scope f cdv A outer s H E) body t/\t {nx:=fun _ H'=>Q .aq H',rt:=Q} (start N vs) H):
  cv P w K mg base CX (k+1) f (W.fnOf name qual params body scope dV kV doc pm an cdv ct) ps sp:=by
 refine⟨len,fun A outer s H args us vs Q E hr e0 hb r hsp=>?_⟩;have hl:=len _ _ _ _ hsp;have KX:K.In s.heap:=e0.mod.rq.keeps fun b o e=>(e0.bs b o e).1;have lim:s.heap.NoLimit:=e0.mod.nolimit.keeps fun b o e=>(e0.bs b o e).1;have hkind:∀y∈ps.zip us,scope.names.lookup y.1=some .local\/(scope.names.lookup y.1=some .cell/\((cellsFrom (s.heap.objs.size+1) scope.names []).lookup y.1).isSome=true):=fun⟨n,v⟩ hy=>by
  rcases S.par n (List.of_mem_zip hy).1 with q|q
  .exact .inl q
  .exact .inr ⟨q,W.cellsFrom_some _ _ _ (.inl q)⟩
 refine codeAny_call_function hr.depth (KX _ _ lk) rfl S.co S.gen rfl (W.codeRec_of KX hcd) (hb _ _ _ _ ?_);refine wpAny_newFunctionEnv_cells S.kind hkind fun env he s1 x=>?_;subst he;refine⟨lim.keeps x.toInCall.keep,codeAny_func ?_⟩;obtain⟨t,ht,hq⟩:=hbody A outer s H vs Q E (hr.deeper _) hsp;have I:Inv (mO CX P w K mg base N qual scope f cdv A outer s H E) [] (start N vs) H s1:=Dw S hr.hd e0 hl r x;refine fj (ht [] s1 (start N vs) H _ I hq) (fun fl s' hs=>?_) fun e s' hs=>hs;have fin:∀{σ':St}{H':Hp}{v:V}{u:Value},Inv (mO CX P w K mg base N qual scope f cdv A outer s H E) [] σ' H' s'->RelV v u->Q v H'->CE outer P w H s Q u s':=
  fun {σ' H' v u} J rv q=>⟨v,H',J.os,J.bare,J.base,J.av,rv,q⟩
 cases fl with
 |ret u=>
  obtain⟨v,σ',H',J,rv,q⟩:=hs;exact fin J rv q
 |next=>
  obtain⟨σ',H',J,q⟩:=hs;exact fin (v:=V.aq) (u:=Value.none) J rfl q
 |brk=>
  obtain⟨_,_,_,q⟩:=hs;exact False.elim q
 |cont=>
  obtain⟨_,_,_,q⟩:=hs;exact False.elim q
section
variable {X:Cx}{x:Str}{p pos:Pos}{e:Expr}{es:List Expr}{t:TA}{id T:String}{r:List V->Hp->VK->Prop}
noncomputable def Mb(r:List V->Hp->VK->Prop)(t:TA):TE:=fun σ H Q=>t σ H fun vs H1=>r vs H1 Q
theorem rU(hc:eI X (.builtin id) r)(hg:Gl X x)(hm:X.mg x=none)(hv:bootBuiltins x=some (.builtin id))(ha:PA X (e::es) t)(hn:x≠ "__name__" := by decide)(hdb:(x== ("__debug__" : Str))=false:=by decide)
  (he:starEach (e::es) X.env=(false,eval e X.env)::starEach es X.env:=by rfl) (hpl:(backTo pos (starEach es X.env)).any (·.1)=false:=by rfl):PE X (.Call (.Name x p) (e::es) [] pos) (Mb r t):=by
 intro pins s σ H Q I h;refine oJ (lM I hg hm hv ?_ hn hdb);exact PyProof.Rows.callWith_builtin1 (aF (ha pos pins s σ H _ I h) fun us s1 Z=>Z.g4 fun vs H1 I1 r1 q1=>hc pins s1 σ H1 vs us Q I1 r1 q1) he hpl
theorem md(hc:eI X (.type T) r)(hg:Gl X x)(hm:X.mg x=none)(hv:bootBuiltins x=some (.type T))(ha:PA X (e::es) t)(hn:x≠ "__name__" := by decide)(hdb:(x== ("__debug__" : Str))=false:=by decide)
  (he:starEach (e::es) X.env=(false,eval e X.env)::starEach es X.env:=by rfl) (hpl:(backTo pos (starEach es X.env)).any (·.1)=false:=by rfl):PE X (.Call (.Name x p) (e::es) [] pos) (Mb r t):=by
 intro pins s σ H Q I h;refine oJ (lM I hg hm hv ?_ hn hdb);exact tR (aF (ha pos pins s σ H _ I h) fun us s1 Z=>Z.g4 fun vs H1 I1 r1 q1=>hc pins s1 σ H1 vs us Q I1 r1 q1) he hpl
end
end L2
namespace HT
open PySem PyProof.Rows
section
open PySem.SeqAt
open PySem.AutoSeq1 (wpAny_loadPart')
open PySem.MeetsSeq PySem.MeetsSeq2 PySem.MeetsSeq3
end
section
variable {prog:Program}{w:World}{A:Around}{E:aJ}{s:Shared}
theorem JG{t b:Addr}{vs ws:List Value}{Q:aJ}(ht:IsTup s.heap t vs.toArray)(hb:IsTup s.heap b ws.toArray)(hv:vs≠ [])
  (h1:ws=[]->Q (.ref t) s) (h2:ws≠ []->Q (.ref s.heap.objs.size) {s with heap:=s.heap.push {cls:=.type "tuple",data:=.seq (vs++ws).toArray}})
  (hsz:vs.length+ws.length<=sizeLine):wpAny (model prog w) A (binaryOp .Add (.ref t) (.ref b)) Q E s:=by
 obtain⟨⟨cls,dd,data,sl⟩,ho,hc,n,hd⟩:=id ht;obtain⟨⟨cls2,dd2,data2,sl2⟩,ho2,hc2,n2,hd2⟩:=id hb;simp only at hc hd hc2 hd2;subst hc hd hc2 hd2;have e:vs.toArray++ws.toArray=(vs++ws).toArray:=by simp
 by_cases hw:ws=[]
 .exact concat_meets ⟨_,ho,rfl⟩ ⟨_,ho2,rfl⟩ B3 seq_tuple_add Ck Cg (Be _ _)
   (tuple_addW1 t b vs.toArray ws.toArray n n2 dd dd2 sl sl2 (by simpa using hv) (by simp[hw])) ⟨ho,ho2,h1 hw⟩
 .refine concat_meets ⟨_,ho,rfl⟩ ⟨_,ho2,rfl⟩ B3 seq_tuple_add Ck Cg (Be _ _)
   (tuple_addW2 t b vs.toArray ws.toArray n n2 dd dd2 sl sl2 (by simpa using hv) (by simpa using hw) (by rw[cR,cR];exact hsz)) ⟨ho,ho2,?_⟩
  rw[e];exact h2 hw
def aV(n d:Nat):Option Int->Nat
 |none=>d
 |some v=>if v<0 then (v+(n:Int)).toNat else min v.toNat n
theorem DY(n d:Nat)(hd:d<=n)(o:Option Int):aV n d o<=n:=by
 cases o with
 |none=>exact hd
 |some v=>
  show (if v<0 then (v+(n:Int)).toNat else min v.toNat n)<=n;by_cases hv:v<0
  .rw[if_pos hv];omega
  .rw[if_neg hv];exact Nat.min_le_right _ _
theorem zV(v:Int)(n d:Nat):(if v<0 then max (v+(n:Int)) 0 else min v (n:Int))=((aV n d (some v):Nat):Int):=by
 show (if v<0 then max (v+(n:Int)) 0 else min v (n:Int))=(((if v<0 then (v+(n:Int)).toNat else min v.toNat n):Nat):Int);by_cases hv:v<0
 .simp only[if_pos hv];omega
 .simp only[if_neg hv];omega
theorem A6(lo hi:Option Int)(n:Nat):Builtin.Slice.sliceAdjust lo hi 1 (n:Int)=(((aV n 0 lo:Nat):Int),((aV n n hi:Nat):Int)):=by
 have h1:¬ ((1:Int)<0):=by omega
 unfold Builtin.Slice.sliceAdjust;simp only[h1,i7];refine Prod.ext ?_ ?_
 .cases lo with
  |none=>rfl
  |some v=>exact zV v n 0
 .cases hi with
  |none=>rfl
  |some v=>exact zV v n n
theorem B7(i j:Nat):Builtin.Slice.slicePlaces (i:Int) (j:Int) 1=j-i:=by
 unfold Builtin.Slice.slicePlaces;have h1:(1:Int) > 0:=by omega
 simp only[h1,fZ,Int.ediv_one];split<;>omega
theorem sM{v:Value}{o:Option Int}{Q:Option Int->Shared->Prop}(p:IsPart v o)(h:Q o s):wpAny (model prog w) A (Builtin.Slice.slicePartIndex v) Q E s:=by
 cases p with
 |none=>exact slicePart_none h
 |int i t=>exact slicePart_int h
theorem rZ{sl:Addr}{vl vu:Value}{lo hi:Option Int}{n:Nat}{Q:Int×Int×Nat->Shared->Prop}(hs:s.heap.IsSliceOf sl vl vu .none)(pl:IsPart vl lo)(pu:IsPart vu hi)
  (h:Q (((aV n 0 lo:Nat):Int),1,aV n n hi-aV n 0 lo) s):wpAny (model prog w) A (Builtin.Slice.sliceApplied (.ref sl) (pure (n:Int))) Q E s:=by
 obtain⟨os,hos,hcs,ib⟩:=id hs;unfold Builtin.Slice.sliceApplied Builtin.Slice.sliceFields;refine af (af (dJ hos ib (x:=vl) rfl (af (dJ hos ib (x:=vu) rfl (af (dJ hos ib (x:=.none) rfl (ah ?_)))))));refine af (slicePart_none ?_);show wpAny _ _ (if ((1:Int)== 0)=true then _ else _) _ _ s;rw[if_neg (by decide)];refine af (sM pl (af (sM pu (af (ah ?_)))));show wpAny _ _ (match Builtin.Slice.sliceAdjust lo hi 1 (n:Int) with|(lo,hi)=>pure (lo,(1:Int),Builtin.Slice.slicePlaces lo hi 1)) _ _ s;rw[A6 lo hi n];show wpAny _ _ (pure (((aV n 0 lo:Nat):Int),(1:Int),Builtin.Slice.slicePlaces ((aV n 0 lo:Nat):Int) ((aV n n hi:Nat):Int) 1)) _ _ s;rw[B7];exact ah h
theorem GC(xs:Array Value)(i k:Nat):((List.range k).filterMap fun (m:Nat)=>xs[((i:Int)+(m:Int) * 1).toNat]?).toArray=((xs.toList.drop i).take k).toArray:=by
 have e:(fun (m:Nat)=>xs[((i:Int)+(m:Int) * 1).toNat]?)=fun m=>xs[i+m]?:=by
  funext m;have:((i:Int)+(m:Int) * 1).toNat=i+m:=by omega
  rw[this]
 rw[e];have:=pick_run xs i k;rw[List.filterMap_map] at this;have e2:((fun x=>xs[x]?) ∘ fun x=>i+x)=fun m=>xs[i+m]?:=rfl;rw[e2] at this;rw[this]
theorem qR{t sl:Addr}{items:Array Value}{vl vu:Value}{lo hi:Option Int}{Q:aJ}(ht:IsTup s.heap t items)(hs:s.heap.IsSliceOf sl vl vu .none)(pl:IsPart vl lo)(pu:IsPart vu hi)
  (hw:¬ (aV items.size 0 lo=0/\aV items.size items.size hi=items.size))
  (h:Q (.ref s.heap.objs.size) {s with heap:=s.heap.push {cls:=.type "tuple",data:=.seq ((items.toList.drop (aV items.size 0 lo)).take (aV items.size items.size hi-aV items.size 0 lo)).toArray}})
  (hsz:items.size<=sizeLine):wpAny (model prog w) A (getItem (.ref t) (.ref sl)) Q E s:=by
 have htake:sizeOk (.seq ((items.toList.drop (aV items.size 0 lo)).take (aV items.size items.size hi-aV items.size 0 lo)).toArray):=by show ((items.toList.drop (aV items.size 0 lo)).take (aV items.size items.size hi-aV items.size 0 lo)).toArray.size<=sizeLine;rw[cR,yJ,F7,HY];omega
 have hj:aV items.size items.size hi<=items.size:=DY _ _ (aG _) hi;obtain⟨os,hos,hcs,ib⟩:=id hs;have hTs:s.TypeIs (.ref sl) "slice" := ⟨os,hos,hcs⟩;unfold getItem
 try with_reducible refine eX ?_
 first|refine af (ah ?_)|skip
 refine af (wpAny_sequenceKey ht.typeIs (by decide) ?_);refine af (qc (name:=Str.ofString "__getitem__") ht.typeIs BB
  (nX BB ht.typeIs entry_tuple_getitem ?_ (args_tuple_getitem _ _)))
 show wpAny _ _ (Builtin.Tuple.tupleItemsOf (.ref t) >>= _) _ _ s;refine af (tupleItemsOf_ ht ?_);refine af (wpAny_typeOf hTs ?_);rw[if_pos (by decide)];refine af (rZ hs pl pu ?_);have hno:¬ ((((aV items.size 0 lo:Nat):Int)== 0&&(1:Int)== 1&&(aV items.size items.size hi-aV items.size 0 lo)== items.size)=true):=by intro q;rw[aB,aB] at q;have q1:((aV items.size 0 lo:Nat):Int)=0:=eq_of_beq q.1.1;have q2:aV items.size items.size hi-aV items.size 0 lo=items.size:=eq_of_beq q.2;exact hw ⟨by omega,by omega⟩
 show wpAny _ _ (if (((aV items.size 0 lo:Nat):Int)== 0&&(1:Int)== 1&&(aV items.size items.size hi-aV items.size 0 lo)== items.size)=true then _ else _) _ _ s;rw[if_neg hno,GC];first
  |exact af (m:=Builtin.Tuple.tupleExact _) (kq (ah ⟨_,rfl,ah h⟩) htake)
  |exact af (m:=Builtin.Tuple.tupleExact _) (kq (af (ah (ah ⟨_,rfl,ah h⟩))) htake)
  |exact af (af (m:=Builtin.Tuple.tupleExact _) (kq (ah (ah ⟨_,rfl,ah h⟩)) htake))
  |exact af (af (m:=Builtin.Tuple.tupleExact _) (kq (ah ⟨_,rfl,ah h⟩) htake))
end
end HT
namespace L2
open PySem PySem.Spec PyProof.Rows
abbrev TO:=St->Hp->(Option Int->Hp->Prop)->Prop
def PO(X:Cx)(e:Option Expr)(t:TO):Prop:=
 ∀(pins:aO)(s:Shared)(σ:St)(H:Hp)(Q:Option Int->Hp->Prop),Inv X pins σ H s->t σ H Q->
  wpAny (model X.prog X.w) X.A (evalPart e X.env) (fun u s'=>∃o H',Inv X pins σ H' s'/\IsPart u o/\Q o H') X.xe s
noncomputable def JH:TO:=fun _ H Q=>Q none H
noncomputable def PY(t:TE):TO:=fun σ H Q=>t σ H fun x H1=>∃i,x=.int i/\Q (some i) H1
section
variable {X:Cx}{e:Expr}{te:TE}{lo hi:Option Expr}{tl th:TO}{pos p2:Pos}
theorem Kz:PO X none JH:=by intro pins s σ H Q I h;rw[evalPart_none];exact ah ⟨none,H,I,.none,h⟩
theorem KC(h:PE X e te):PO X (some e) (PY te):=by intro pins s σ H Q I hw;rw[evalPart_some];refine aF (h pins s σ H _ I hw) fun u s1 Z=>Z.g4 fun x H1 I1 r1 q1=>?_;obtain⟨i,rfl,q⟩:=q1;obtain⟨t,rfl⟩:=r1;exact⟨some i,H1,I1,.int i t,q⟩
def tQ(X:Cx)(r:V->Option Int->Option Int->Hp->VK->Prop):Prop:=
 ∀(pins:aO)(s:Shared)(σ:St)(H:Hp)(x:V)(v vl vu:Value)(lo hi:Option Int)(sl:Addr)(Q:VK),Inv X pins σ H s->RelV x v->s.heap.IsSliceOf sl vl vu .none->IsPart vl lo->IsPart vu hi->r x lo hi H Q->
  ∃T id,typeLookup (.type T) "__getitem__" = pure (some (.builtin id))/\s.TypeIs v T/\wpAny (model X.prog X.w) X.A (getItem v (.ref sl)) (EP X pins σ Q) X.xe s
theorem tQ.or{r r':V->Option Int->Option Int->Hp->VK->Prop}(h:tQ X r)(h':tQ X r'):tQ X (fun x lo hi H Q=>r x lo hi H Q\/r' x lo hi H Q):=by
 intro pins s σ H x v vl vu lo hi sl Q I rx hs pl pu q;rcases q with q|q
 .exact h pins s σ H x v vl vu lo hi sl Q I rx hs pl pu q
 .exact h' pins s σ H x v vl vu lo hi sl Q I rx hs pl pu q
noncomputable def Ve(r:V->Option Int->Option Int->Hp->VK->Prop)(te:TE)(tl th:TO):TE:=fun σ H Q=>te σ H fun x H1=>tl σ H1 fun l H2=>th σ H2 fun u H3=>r x l u H3 Q
theorem G8{r:V->Option Int->Option Int->Hp->VK->Prop}(hr:tQ X r)(he:PE X e te)(hl:PO X lo tl)(hu:PO X hi th):PE X (.Subscript e (.Slice lo hi none p2) pos) (Ve r te tl th):=by intro pins s σ H Q I h;refine Subscript_ (aF (he pins s σ H _ I h) fun v s1 Z=>Z.g4 fun x H1 I1 r1 q1=>?_);refine wpAny_Slice (aF (hl pins s1 σ H1 _ I1 q1) fun vl s2 Z=>Z.g4 fun l H2 I2 pl q2=>aF (hu pins s2 σ H2 _ I2 q2) fun vu s3 Z=>Z.g4 fun u H3 I3 pu q3=>?_);rw[evalPart_none];refine ah ?_;have I4:Inv X pins σ H3 {s3 with heap:=s3.heap.push {cls:=.type "slice",data:=.fields #[vl,vu,.none]}}:=I3.kept (t':=s3.toks) fun b ob q=>bj _ q;obtain⟨T,id,hT,ht,hg⟩:=hr pins {s3 with heap:=s3.heap.push {cls:=.type "slice",data:=.fields #[vl,vu,.none]}} σ H3 x v vl vu l u s3.heap.objs.size Q I4 r1 (Heap.IsSliceOf.new ..) pl pu q3;show wpAny (model X.prog X.w) X.A (subscriptTail e (.Slice lo hi none p2) v (.ref s3.heap.objs.size)) (EP X pins σ Q) X.xe {s3 with heap:=s3.heap.push {cls:=.type "slice",data:=.fields #[vl,vu,.none]}};exact tail_any (ops:=[.ref s3.heap.objs.size,v]) ht hT hg (by with_unfolding_all rfl)
noncomputable def p7(xs:List V)(lo hi:Option Int):List V:=(xs.drop (HT.aV xs.length 0 lo)).take (HT.aV xs.length xs.length hi-HT.aV xs.length 0 lo)
theorem rD(xs:List V)(lo hi:Option Int):(p7 xs lo hi).length<=xs.length:=by unfold p7;rw[yJ,F7];omega
def NC(K:W.Frag):V->Option Int->Option Int->Hp->VK->Prop:=fun x lo hi H Q=>∃a xs,x=.ref a/\eC K H a xs/\
 ¬ (HT.aV xs.length 0 lo=0/\HT.aV xs.length xs.length hi=xs.length)/\∀p,H p=none->Q (.ref p) (upd H p (.tup (p7 xs lo hi)))
theorem LZ:tQ X (NC X.K):=by
 intro pins s σ H x v vl vu lo hi sl Q I rx hs pl pu h;obtain⟨a,xs,rfl,hx,hw,q⟩:=h;cases rx;obtain⟨its,r,ht,hz⟩:=I.tuple hx;have hlen:its.toArray.size=xs.length:=by rw[cR];exact r.length.symm
 refine⟨"tuple",_,BB.lookup,ht.typeIs,?_⟩;refine HT.qR ht hs pl pu (by rw[hlen];exact hw) ?_ (by rw[hlen];exact hz);rw[hlen];refine⟨.ref s.heap.objs.size,_,I.laid (t':=s.toks) (o:=.tup (p7 xs lo hi)) (fun b ob q=>bj _ q) (aG _) ?_,rfl,q _ (I.av.fresh (aG _))⟩;exact⟨cS (rD xs lo hi) hz,_,(r.drop (HT.aV xs.length 0 lo)).take (HT.aV xs.length xs.length hi-HT.aV xs.length 0 lo),IsTup.new _ _⟩
def IB(K:W.Frag):R2:=fun x y H Q=>∃a b xs ys,x=.ref a/\y=.ref b/\eC K H a xs/\eC K H b ys/\xs≠ []/\xs.length+ys.length<=sizeLine/\
 (ys=[]->Q (.ref a) H)/\(ys≠ []->∀p,H p=none->Q (.ref p) (upd H p (.tup (xs++ys))))
theorem Vals.qK{xs:List V}{us:List Value}(r:Vals xs us):us=[]↔xs=[]:=by
 cases r with
 |nil=>simp
 |cons _ _=>simp
theorem Kc:c7 X (binaryOp .Add) (IB X.K):=by intro pins s σ H x y v u Q I rx ry h;obtain⟨a,b,xs,ys,rfl,rfl,ha,hb,hx,hz,q1,q2⟩:=h;cases rx;cases ry;obtain⟨its,r1,p1,_⟩:=I.tuple ha;obtain⟨its2,r2,p2,_⟩:=I.tuple hb;refine HT.JG p1 p2 (fun z=>hx (r1.qK.mp z)) (fun z=>⟨.ref a,H,I,rfl,q1 (r2.qK.mp z)⟩) (fun z=>?_) (by rw[<-r1.length,<-r2.length];exact hz);refine⟨.ref s.heap.objs.size,_,I.laid (t':=s.toks) (o:=.tup (xs++ys)) (fun b ob q=>bj _ q) (aG _) ?_,rfl,q2 (fun w=>z (r2.qK.mpr w)) _ (I.av.fresh (aG _))⟩;exact⟨by rw[n5];exact hz,_,r1.append r2,IsTup.new _ _⟩
end
noncomputable def iX(n:Nat)(i:Int):Option Nat:=if 0<=i then (if i<n then some i.toNat else none) else if -(n:Int)<=i then some (i+n).toNat else none
def cH{α:Type}(xs:List α)(i:Int):Option α:=(iX xs.length i).bind fun j=>xs[j]?
theorem Ag{n:Nat}{i:Int}{j:Nat}(h:iX n i=some j):seqIndex? i n=some j/\j<n/\ -(n:Int)<=i/\i<n:=by
 unfold iX at h;by_cases h0:0<=i
 .rw[if_pos h0] at h;by_cases h1:i<n
  .rw[if_pos h1] at h;have e:i.toNat=j:=eO h;exact⟨by rw[seqIndex_of h0 h1,e],by omega,by omega,h1⟩
  .rw[if_neg h1] at h;cases h
 .rw[if_neg h0] at h;by_cases h1: -(n:Int)<=i
  .rw[if_pos h1] at h;have e:(i+n).toNat=j:=eO h;exact⟨by rw[seqIndex_neg (by omega) h1,e],by omega,h1,by omega⟩
  .rw[if_neg h1] at h;cases h
theorem uP{α:Type}{xs:List α}{i:Int}{v:α}(h:cH xs i=some v):∃j,seqIndex? i xs.length=some j/\xs[j]?=some v/\j<xs.length/\ -(xs.length:Int)<=i/\i<xs.length:=by
 unfold cH at h;cases e:iX xs.length i with
 |none=>rw[e] at h;cases h
 |some j=>
  rw[e] at h;obtain⟨h1,h2,h3,h4⟩:=Ag e;exact⟨j,h1,h,h2,h3,h4⟩
theorem iI{α:Type}{xs:List α}{j:Nat}{v:α}(h:xs[j]?=some v):cH xs (j:Int)=some v:=by
 have hj:j<xs.length:=(eK.mp h).1;have e:iX xs.length (j:Int)=some j:=by unfold iX;rw[if_pos (by omega),if_pos (by omega)];simp
 unfold cH;rw[e];exact h
def uI(b:Expr):Prop:=∀o i,subscripted b false o i=operate [o,i] (getItem o i)
def pH(X:Cx)(r:R2):Prop:=
 ∀(value slice:Expr)(pins:aO)(s:Shared)(σ:St)(H:Hp)(x y:V)(v u:Value)(Q:VK),Inv X pins σ H s->RelV x v->RelV y u->r x y H Q->
  subscripted slice false v u=operate [v,u] (getItem v u)->wpAny (model X.prog X.w) X.A (subscriptTail value slice v u) (EP X pins σ Q) X.xe s
def Ni(X:Cx)(id:String)(r:V->List V->Hp->VK->Prop):Prop:=
 ∀(pins:aO)(s:Shared)(σ:St)(H:Hp)(x:V)(xs:List V)(v:Value)(us:List Value)(Q:VK),Inv X pins σ H s->RelV x v->Vals xs us->r x xs H Q->
  wpAny (model X.prog X.w) X.A (call (.builtin id) (v::us)) (EP X pins σ Q) X.xe s
section
variable {X:Cx}{a b:Expr}{ta tb:TE}{pos:Pos}
theorem pH.or{r r':R2}(h:pH X r)(h':pH X r'):pH X (fun x y H Q=>r x y H Q\/r' x y H Q):=by
 intro value slice pins s σ H x y v u Q I rx ry q hs;rcases q with q|q
 .exact h value slice pins s σ H x y v u Q I rx ry q hs
 .exact h' value slice pins s σ H x y v u Q I rx ry q hs
theorem Ic{r:R2}(hr:pH X r)(ha:PE X a ta)(hb:PE X b tb)(hs:uI b):PE X (.Subscript a b pos) (zt r ta tb):=by intro pins s σ H Q I h;exact Subscript_ (GB ha hb I h fun v u s2 x y H2 I2 rx ry q=>hr a b pins s2 σ H2 x y v u Q I2 rx ry q (hs _ _))
def Nb(K:W.Frag):R2:=fun x y H Q=>∃p xs i v,x=.ref p/\y=.int i/\bJ K H p xs/\cH xs i=some v/\Q v H
def LU(K:W.Frag):R2:=fun x y H Q=>∃p xs i v,x=.ref p/\y=.int i/\eC K H p xs/\cH xs i=some v/\Q v H
def LF:R2:=fun x y H Q=>∃z i c,x=.str z/\y=.int i/\z.length<=sizeLine/\cH z.cps.toList i=some c/\Q (.str ⟨#[c]⟩) H
theorem JD:pH X (Nb X.K):=by
 intro value slice pins s σ H x y v u Q I rx ry h hs;obtain⟨p,xs,i,z,rfl,rfl,hq,he,q⟩:=h;cases rx;obtain⟨t,rfl⟩:=ry;obtain⟨its,r,pl,hz⟩:=I.list hq;obtain⟨j,h1,h2,h3,h4,h5⟩:=uP he;obtain⟨w,ew,rw'⟩:=r.get h2;have hl:=r.length;have hn:=kJ;have fin:EP X pins σ Q w s:=⟨z,H,I,rw',q⟩;by_cases h0:0<=i
 .have hj:i.toNat=j:=by
   rw[seqIndex_of h0 h5] at h1;exact eO h1
  exact item_listR pl.isList h0 (by omega) (by rw[hj];simpa using ew) fin hs
 .have hj:(i+(its.toArray.size:Int)).toNat=j:=by
   rw[seqIndex_neg (by omega) h4] at h1;rw[cR,<-hl];exact eO h1
  exact subscriptTail_builtinR (x:=w) pl.isList.typeIs slot_list_getitem.lookup
   (wpAny_getItem_list_neg (Q:=fun r s'=>r=w/\EP X pins σ Q r s') pl.isList (by omega) (by rw[cR]<;>omega) (by omega) (by rw[hj];simpa using ew) ⟨rfl,fin⟩) hs
theorem L7:pH X (LU X.K):=by
 intro value slice pins s σ H x y v u Q I rx ry h hs;obtain⟨p,xs,i,z,rfl,rfl,hq,he,q⟩:=h;cases rx;obtain⟨t,rfl⟩:=ry;obtain⟨its,r,pl,hz⟩:=I.tuple hq;obtain⟨j,h1,h2,h3,h4,h5⟩:=uP he;obtain⟨w,ew,rw'⟩:=r.get h2;have hl:=r.length;have hn:=kJ;have fin:EP X pins σ Q w s:=⟨z,H,I,rw',q⟩;exact subscriptTail_builtinR (x:=w) pl.typeIs slot_tuple_getitem.lookup
  (getItem_tuple (j:=j) (Q:=fun r s'=>r=w/\EP X pins σ Q r s') pl (by omega) (by omega) (by rw[cR,<-hl];exact h1) (by simpa using ew) ⟨rfl,fin⟩) hs
theorem KY:pH X LF:=by
 intro value slice pins s σ H x y v u Q I rx ry h hs;obtain⟨z,i,c,rfl,rfl,hz,he,q⟩:=h;obtain⟨t,rfl⟩:=rx;obtain⟨t',rfl⟩:=ry;obtain⟨j,h1,h2,h3,h4,h5⟩:=uP he;have hl:z.cps.toList.length=z.length:=by simp[Str.length]
 rw[hl] at h1 h4 h5;have hn:=kJ;exact tail_any (typeIs_str s z t) slot_str_getitem.lookup (getItem_str (c:=c) (by have e1:decide (i < -(2 ^ 63:Int))=false:=dz (by omega);have e2:decide (i ≥ 2 ^ 63)=false:=dz (by omega);rw[e1,e2,Bool.or_false]) (by rw[h1];simpa using h2) ⟨.str ⟨#[c]⟩,H,I.tok _,⟨_,rfl⟩,q⟩) hs
def QC(K:W.Frag):R2:=fun x y H Q=>Nb K x y H Q\/LU K x y H Q\/LF x y H Q
theorem Om:pH X (QC X.K):=JD.or (L7.or KY)
theorem BN(its:List Value)(n j:Nat)(u:Value):Obj.mapSeq (·.setIfInBounds j u) {cls:=.type "list",data:=.seq its.toArray n}={cls:=.type "list",data:=.seq (its.set j u).toArray n}:=by simp[Obj.mapSeq]
theorem Inv.lst{pins:aO}{σ:St}{H:Hp}{s:Shared}{p:Addr}{xs:List V}(I:Inv X pins σ H s)(h:H p=some (.lst xs)):
  ∃(its:List Value) (n:Nat),Vals xs its/\s.heap.get? p=some {cls:=.type "list",data:=.seq its.toArray n}/\xs.length<=sizeLine:=by
 obtain⟨z,its,n,r,e⟩:=I.av p _ h;exact⟨its,n,r,e,z⟩
theorem Inv.NB{pins:aO}{σ:St}{H:Hp}{s:Shared}{p:Addr}{xs ys:List V}{its its':List Value}{n n':Nat}{f:Obj->Obj}(I:Inv X pins σ H s)(h:H p=some (.lst xs))
  (ho:s.heap.get? p=some {cls:=.type "list",data:=.seq its.toArray n}) (hf:f {cls:=.type "list",data:=.seq its.toArray n}={cls:=.type "list",data:=.seq its'.toArray n'}) (r:Vals ys its') (hz:ys.length<=sizeLine) (t:Nat):
  Inv X pins σ (upd H p (.lst ys)) {s with heap:=s.heap.update p f,toks:=t}:=by
 have e:(s.heap.update p f).get? p=some {cls:=.type "list",data:=.seq its'.toArray n'}:=by rw[uz f ho (by rw[hf]<;>rfl),hf]
 refine I.write (x:=p) (e:=p) (by rw[h];trivial) (.inl rfl) (fun b u hb q=>(mQ _ _ (bc hb)).trans q) ⟨_,e⟩ ?_;exact⟨hz,its',n',r,e⟩
def Ib:V->V->V->Hp->(Hp->Prop)->Prop:=fun o i v H Q=>∃p xs k j,o=.ref p/\i=.int k/\H p=some (.lst xs)/\iX xs.length k=some j/\Q (upd H p (.lst (xs.set j v)))
theorem set_list:pK X Ib:=by
 intro pins s σ H o i v ov iv u Q I ro ri rv h;obtain⟨p,xs,k,j,rfl,rfl,hp,hj,q⟩:=h;cases ro;obtain⟨t,rfl⟩:=ri;obtain⟨its,n,r,ho,hz⟩:=I.lst hp;obtain⟨h1,h2,h3,h4⟩:=Ag hj;have hl:=r.length;have hn:=kJ;have I':Inv X pins σ (upd H p (.lst (xs.set j v))) {s with heap:=s.heap.update p (Obj.mapSeq (·.setIfInBounds j u))}:=
  I.NB hp ho (BN its n j u) (r.set rv j) (by rw[xb];exact hz) s.toks
 by_cases h0:0<=k
 .have hk:k.toNat=j:=by
   rw[seqIndex_of h0 h4] at h1;exact eO h1
  exact W.ki_setAt ho h0 (by omega) (by rw[cR,<-hl];exact h4) (by rw[hk];exact⟨_,I',q⟩)
 .have hk:(k+(its.toArray.size:Int)).toNat=j:=by
   rw[seqIndex_neg (by omega) h3] at h1;rw[cR,<-hl];exact eO h1
  exact W.ki_setBack ho (by omega) (by rw[cR,<-hl];exact h3) (by omega) (by rw[hk];exact⟨_,I',q⟩)
theorem p5(lo hi:Option Int)(n:Nat):(sliceBounds lo hi none n).1=((HT.aV n 0 lo:Nat):Int)/\(sliceBounds lo hi none n).2.1=((HT.aV n n hi:Nat):Int)/\(sliceBounds lo hi none n).2.2=1:=by
 refine⟨?_,?_,rfl⟩
 .cases lo with
  |none=>simp[sliceBounds,HT.aV]
  |some i=>
   simp only[sliceBounds,HT.aV,Option.getD_none,show (1:Int) > 0 by decide,fZ];by_cases h:i<0
   .simp only[h,fZ]<;>omega
   .simp only[h,i7]<;>omega
 .cases hi with
  |none=>simp[sliceBounds,HT.aV]
  |some i=>
   simp only[sliceBounds,HT.aV,Option.getD_none,show (1:Int) > 0 by decide,fZ];by_cases h:i<0
   .simp only[h,fZ]<;>omega
   .simp only[h,i7]<;>omega
theorem vV(its:List Value)(lo hi:Option Int):slicePick its.toArray lo hi none=((its.drop (HT.aV its.length 0 lo)).take (HT.aV its.length its.length hi-HT.aV its.length 0 lo)).toArray:=by obtain⟨h1,h2,h3⟩:=p5 lo hi its.toArray.size;unfold slicePick;rw[h1,h2,h3];simp only[sliceRange_one,pick_run,cR]<;>rfl
def Oj(K:W.Frag):V->Option Int->Option Int->Hp->VK->Prop:=fun x lo hi H Q=>∃a xs,x=.ref a/\bJ K H a xs/\∀p,H p=none->Q (.ref p) (upd H p (.lst (p7 xs lo hi)))
theorem KP:tQ X (Oj X.K):=by intro pins s σ H x v vl vu lo hi sl Q I rx hs pl pu h;obtain⟨a,xs,rfl,hx,q⟩:=h;cases rx;obtain⟨its,r,ht,hz⟩:=I.list hx;have hlen:=r.length;refine⟨"list",_,slot_list_getitem.lookup,ht.isList.typeIs,?_⟩;refine wpAny_getItem_list_slice ht.isList hs pl pu .none (by simp) ?_ (by rw[cR]<;>omega);rw[vV,<-hlen];refine⟨.ref s.heap.objs.size,_,I.laid (t':=s.toks) (o:=.lst (p7 xs lo hi)) (fun b ob q=>bj _ q) (aG _) ?_,rfl,q _ (I.av.fresh (aG _))⟩;exact⟨cS (rD xs lo hi) hz,_,0,(r.drop (HT.aV xs.length 0 lo)).take (HT.aV xs.length xs.length hi-HT.aV xs.length 0 lo),dC _ rfl⟩
noncomputable def jL:V->Bool
 |.aq=>true
 |.bl _=>true
 |.int _=>true
 |.str _=>true
 |_=>false
noncomputable def bX:V->V->Bool
 |.aq,.aq=>true
 |.bl a,.bl b=>a== b
 |.bl a,.int b=>(if a then 1 else 0)== b
 |.int a,.bl b=>a== (if b then 1 else 0)
 |.int a,.int b=>a== b
 |.str a,.str b=>a== b
 |_,_=>false
theorem Og{A:Around}{s:Shared}{y x:V}{u v:Value}(ry:RelV y u)(rx:RelV x v)(fy:jL y=true)(fx:jL x=true):SeqAt.EqAt A s u v (bX y x):=by
 cases y with
 |aq=>
  cases ry;cases x with
  |aq=>cases rx;exact SeqAt.EqAt.same _
  |bl b=>cases rx;exact SeqAt.EqAt.none_bool b
  |int b=>obtain⟨t,rfl⟩:=rx;exact SeqAt.EqAt.none_int b t
  |str b=>obtain⟨t,rfl⟩:=rx;exact SeqAt.EqAt.none_str b t
  |_=>exact absurd (show false=true from fx) e9
 |bl a=>
  cases ry;cases x with
  |aq=>cases rx;exact SeqAt.EqAt.bool_none a
  |bl b=>cases rx;exact SeqAt.EqAt.bool_bool a b
  |int b=>obtain⟨t,rfl⟩:=rx;exact SeqAt.EqAt.bool_int a b t
  |str b=>obtain⟨t,rfl⟩:=rx;exact SeqAt.EqAt.bool_str a b t
  |_=>exact absurd (show false=true from fx) e9
 |int a=>
  obtain⟨t',rfl⟩:=ry;cases x with
  |aq=>cases rx;exact SeqAt.EqAt.int_none a t'
  |bl b=>cases rx;exact SeqAt.EqAt.int_bool a t' b
  |int b=>obtain⟨t,rfl⟩:=rx;exact SeqAt.EqAt.int_int a t' b t
  |str b=>obtain⟨t,rfl⟩:=rx;exact BJ a t' b t
  |_=>exact absurd (show false=true from fx) e9
 |str a=>
  obtain⟨t',rfl⟩:=ry;cases x with
  |aq=>cases rx;exact SeqAt.EqAt.str_none a t'
  |bl b=>cases rx;exact SeqAt.EqAt.str_bool a t' b
  |int b=>obtain⟨t,rfl⟩:=rx;exact Bf a t' b t
  |str b=>obtain⟨t,rfl⟩:=rx;exact SeqAt.EqAt.str_str a t' b t
  |_=>exact absurd (show false=true from fx) e9
 |_=>exact absurd (show false=true from fy) e9
def kI(x:V)(u:Value):Bool:=match u with
 |.none=>bX .aq x
 |.bool b=>bX (.bl b) x
 |.int i _=>bX (.int i) x
 |.str z _=>bX (.str z) x
 |_=>false
theorem DN{x y:V}{u:Value}(r:RelV y u)(f:jL y=true):kI x u=bX y x:=by
 cases y with
 |aq=>cases r;rfl
 |bl b=>cases r;rfl
 |int i=>obtain⟨t,rfl⟩:=r;rfl
 |str z=>obtain⟨t,rfl⟩:=r;rfl
 |_=>exact absurd (show false=true from f) e9
theorem nB{x:V}:∀{xs:List V}{us:List Value},Vals xs us->xs.all jL=true->us.any (kI x)=xs.any fun y=>bX y x
 |_,_,.nil,_=>rfl
 |y::xs,u::us,.cons r t,f=>by
  rw[fL,aB] at f;rw[mP,mP,DN r f.1,nB t f.2]
theorem kY{A:Around}{s:Shared}{x:V}{v:Value}(rx:RelV x v)(fx:jL x=true):∀{xs:List V}{us:List Value},Vals xs us->xs.all jL=true->∀u∈us,SeqAt.EqAt A s u v (kI x u)
 |_,_,.nil,_=>fun u hu=>by cases hu
 |y::xs,u::us,.cons r t,f=>fun u' hu=>by
  rw[fL,aB] at f;rcases cQ.mp hu with rfl|hu
  .rw[DN r f.1];exact Og r rx f.1 fx
  .exact kY rx fx t f.2 u' hu
def Ou(x:V)(xs:List V):Bool:=xs.any fun y=>bX y x
def LX(K:W.Frag)(neg:Bool):R2:=fun x y H Q=>∃p xs,y=.ref p/\(bJ K H p xs\/eC K H p xs)/\jL x=true/\xs.all jL=true/\Q (.bl (if neg then !Ou x xs else Ou x xs)) H
theorem DJ:c7 X (compareOp .In) (LX X.K false):=by
 intro pins s σ H x y v u Q I rx ry h;obtain⟨p,xs,rfl,hq,fx,fs,q⟩:=h;cases ry;rcases hq with hq|hq
 .obtain⟨its,r,pl,hz⟩:=I.list hq;refine SeqAt.in_listAt (kI x) pl.isList (fun w hw=>kY rx fx r fs w (by simpa using hw)) ⟨.bl _,H,I,rfl,?_⟩;rw[show its.toArray.any (kI x)=its.any (kI x) by simp,nB r fs];exact q
 .obtain⟨its,r,pl,hz⟩:=I.tuple hq;refine SeqAt.in_tupleAt (kI x) pl (fun w hw=>kY rx fx r fs w (by simpa using hw)) ⟨.bl _,H,I,rfl,?_⟩;rw[show its.toArray.any (kI x)=its.any (kI x) by simp,nB r fs];exact q
theorem yu:c7 X (compareOp .NotIn) (LX X.K true):=by
 intro pins s σ H x y v u Q I rx ry h;obtain⟨p,xs,rfl,hq,fx,fs,q⟩:=h;cases ry;rcases hq with hq|hq
 .obtain⟨its,r,pl,hz⟩:=I.list hq;refine SeqAt.notIn_listAt (kI x) pl.isList (fun w hw=>kY rx fx r fs w (by simpa using hw)) ⟨.bl _,H,I,rfl,?_⟩;rw[show its.toArray.any (kI x)=its.any (kI x) by simp,nB r fs];exact q
 .obtain⟨its,r,pl,hz⟩:=I.tuple hq;refine SeqAt.notIn_tupleAt (kI x) pl (fun w hw=>kY rx fx r fs w (by simpa using hw)) ⟨.bl _,H,I,rfl,?_⟩;rw[show its.toArray.any (kI x)=its.any (kI x) by simp,nB r fs];exact q
theorem wC:eI X (.builtin "len") (fun xs H Q=>∃p ys,xs=[.ref p]/\(bJ X.K H p ys\/eC X.K H p ys)/\Q (.int ys.length) H):=by
 intro pins s σ H xs us Q I r h;obtain⟨p,ys,rfl,hq,q⟩:=h;obtain⟨u,rfl,rx⟩:=vals1 r;cases rx;have hn:=kJ;rcases hq with hq|hq
 .obtain⟨its,r',pl,hz⟩:=I.list hq;have hlen:=r'.length;exact Calls.call_len_list pl.isList (by simp only[cR]<;>omega) ⟨.int ys.length,H,I.tok _,⟨s.toks+1,by rw[cR,hlen]⟩,q⟩
 .obtain⟨its,r',pl,hz⟩:=I.tuple hq;have hlen:=r'.length;exact len_tuple pl (by simp only[cR]<;>omega) ⟨.int ys.length,H,I.tok _,⟨s.toks+1,by rw[cR,hlen]⟩,q⟩
theorem xw:eI X (.builtin "len") (fun xs H Q=>∃z,xs=[.str z]/\z.length<=sizeLine/\Q (.int z.length) H):=by intro pins s σ H xs us Q I r h;obtain⟨z,rfl,hz,q⟩:=h;obtain⟨u,rfl,t,rfl⟩:=vals1 r;have hn:=kJ;exact len_str (by omega) ⟨.int z.length,H,I.tok _,⟨_,rfl⟩,q⟩
theorem eI.or{f:Value}{r r':List V->Hp->VK->Prop}(h:eI X f r)(h':eI X f r'):eI X f (fun xs H Q=>r xs H Q\/r' xs H Q):=by
 intro pins s σ H xs us Q I rs q;rcases q with q|q
 .exact h pins s σ H xs us Q I rs q
 .exact h' pins s σ H xs us Q I rs q
theorem xW:eI X (.type "list") (fun xs H Q=>∃p ys,xs=[.ref p]/\(bJ X.K H p ys\/eC X.K H p ys)/\∀l,H l=none->Q (.ref l) (upd H l (.lst ys))):=by
 intro pins s σ H xs us Q I r h;obtain⟨p,ys,rfl,hq,q⟩:=h;obtain⟨u,rfl,rx⟩:=vals1 r;cases rx;have fin:∀(its:List Value),Vals ys its->ys.length<=sizeLine->∀(h':Heap)(c':Nat),(∀b o',s.heap.get? b=some o'->h'.get? b=some o')->
   h'.get? s.heap.objs.size=some {cls:=.type "list",dict:=none,data:=.seq its.toArray c',slots:=#[]}->EP X pins σ Q (.ref s.heap.objs.size) {s with heap:=h'}:=fun its r' hz h' c' kp e=>
  ⟨.ref s.heap.objs.size,_,I.laid (t':=s.toks) kp (aG _) (show bT X.prog X.w _ h' _ (.lst ys) from ⟨hz,its,c',r',e⟩),rfl,q _ (I.av.fresh (aG _))⟩
 rcases hq with hq|hq
 .obtain⟨its,r',pl,hz⟩:=I.list hq;have hlen:=r'.length;obtain⟨o,ho,hc,n,hd⟩:=pl.isList;exact call_list_seq p (.inl rfl) ho hc hd (fun h' c' kp e=>fin its r' hz h' c' kp e) (by simp only[cR]<;>omega)
 .obtain⟨its,r',pl,hz⟩:=I.tuple hq;have hlen:=r'.length;obtain⟨o,ho,hc,n,hd⟩:=pl;exact call_list_seq p (.inr rfl) ho hc hd (fun h' c' kp e=>fin its r' hz h' c' kp e) (by simp only[cR]<;>omega)
theorem vY:eI X (.type "tuple") (fun xs H Q=>∃p ys,xs=[.ref p]/\((bJ X.K H p ys/\∀l,H l=none->Q (.ref l) (upd H l (.tup ys)))\/(eC X.K H p ys/\Q (.ref p) H))):=by
 intro pins s σ H xs us Q I r h;obtain⟨p,ys,rfl,h⟩:=h;obtain⟨u,rfl,rx⟩:=vals1 r;cases rx;rcases h with ⟨hq,q⟩|⟨hq,q⟩
 .obtain⟨its,r',pl,hz⟩:=I.list hq;have hlen:=r'.length;refine call_tuple_list pl.isList (fun h' kp=>?_) (by simp only[cR]<;>omega);have I1:Inv X pins σ H {s with heap:=h'}:=I.kept (t':=s.toks) kp;have I2:Inv X pins σ (upd H h'.objs.size (.tup ys)) {s with heap:=h'.push {cls:=.type "tuple",data:=.seq its.toArray}}:=
   I1.laid (t':=s.toks) (fun b o e=>bj _ e) (aG _) (show bT X.prog X.w _ _ _ (.tup ys) from ⟨hz,its,r',IsTup.new _ _⟩)
  exact⟨.ref h'.objs.size,_,I2,rfl,q _ (I1.av.fresh (aG _))⟩
 .obtain⟨its,r',pl,hz⟩:=I.tuple hq;exact call_tuple_same pl ⟨.ref p,H,I,rfl,q⟩
def NY(K:W.Frag)(T:String)(x:V)(H:Hp):Prop:=match x with
 |.str _=>T= "str"
 |.int _=>T= "int"
 |.ref p=>(T= "list" /\∃xs,bJ K H p xs)\/(T= "tuple" /\∃o,K.lookup p=some o/\o.cls=.type "tuple" /\o.dict=none)\/
   (T= "dict" /\((∃kvs,H p=some (.dK kvs))\/∃kvs,H p=some (.dT kvs)))\/(T= "set" /\∃S n,H p=some (.set S n))
 |_=>False
theorem C1{pins:aO}{σ:St}{H:Hp}{s:Shared}{T:String}{x:V}{v:Value}(I:Inv X pins σ H s)(r:RelV x v)(ty:NY X.K T x H):
  s.TypeIs v T/\∀a,v=.ref a->∃ob,s.heap.get? a=some ob/\ob.dict=none:=by
 cases x with
 |str z=>
  obtain⟨t,rfl⟩:=r;cases (show T= "str" from ty);exact⟨typeIs_str s z t,fun _ e=>nomatch e⟩
 |int i=>
  obtain⟨t,rfl⟩:=r;cases (show T= "int" from ty);exact⟨typeIs_int s i t,fun _ e=>nomatch e⟩
 |ref p=>
  cases r;rcases ty with ⟨rfl,xs,hq⟩|⟨rfl,o,hk,hc,hd⟩|⟨rfl,hk⟩|⟨rfl,S,n,hk⟩
  .obtain⟨its,_,pl,_⟩:=I.list hq;refine⟨pl.isList.typeIs,fun a e=>?_⟩;cases e;obtain⟨o,n,e,c,hd,_⟩:=pl;exact⟨o,e,hd⟩
  .refine⟨⟨o,I.bE p o hk,hc⟩,fun a e=>?_⟩;cases e;exact⟨o,I.bE _ o hk,hd⟩
  .have z:∃o,s.heap.get? p=some o/\o.ExactDict:=by
    rcases hk with ⟨kvs,hk⟩|⟨kvs,hk⟩
    .obtain⟨_,_,_,_,o,_,_,e,ex,_⟩:=I.av p _ hk;exact⟨o,e,ex⟩
    .obtain⟨_,_,_,_,o,_,_,e,ex,_⟩:=I.av p _ hk;exact⟨o,e,ex⟩
   obtain⟨o,e,ex⟩:=z;refine⟨⟨o,e,ex.1⟩,fun a e2=>?_⟩;cases e2;exact⟨o,e,ex.2.1⟩
  .obtain⟨o,_,_,_,e,ex,_⟩:=I.av p _ hk;refine⟨⟨o,e,ex.1⟩,fun a e2=>?_⟩;cases e2;exact⟨o,e,ex.2.1⟩
 |_=>exact False.elim ty
noncomputable def R0(K:W.Frag)(T:String)(r:V->List V->Hp->VK->Prop)(to:TE):TE:=fun σ H Q=>to σ H fun x H1=>NY K T x H1/\r x [] H1 Q
noncomputable def UE(K:W.Frag)(T:String)(r:V->List V->Hp->VK->Prop)(to:TE)(t:TA):TE:=fun σ H Q=>to σ H fun x H1=>NY K T x H1/\t σ H1 fun xs H2=>r x xs H2 Q
variable {o e:Expr}{es:List Expr}{to:TE}{t:TA}{name:Str}{apos cpos:Pos}{T id:String}{r:V->List V->Hp->VK->Prop}
theorem Lc(pa:PlainAttrs T)(slot:Slot T name id)(hty:typeOf (.builtin id)=pure (.type "method_descriptor"))(hm:Ni X id r)(ho:PE X o to)
  (hbase:attributeBase o name X.env (eval o X.env)=eval o X.env:=by rfl) (hline:(apos.endLine== cpos.line)=true:=by rfl):PE X (.Call (.Attribute o name apos) [] [] cpos) (R0 X.K T r to):=by
 intro pins s σ H Q I h;refine wpAny_Call_method0_late hbase hline (aF (ho pins s σ H _ I h) fun v s1 Z=>Z.g4 fun x H1 I1 r1 Z=>Z.g fun ty q1=>?_);obtain⟨h1,h2⟩:=C1 I1 r1 ty;exact⟨T,id,pa,slot,hty,h1,h2,Bk rfl (PySem.evalArgs_none (hm pins s1 σ H1 x [] v [] Q I1 r1 .nil q1))⟩
theorem A1(pa:PlainAttrs T)(slot:Slot T name id)(hty:typeOf (.builtin id)=pure (.type "method_descriptor"))(hm:Ni X id r)(ho:PE X o to)(ha:PA X (e::es) t)
  (hbase:attributeBase o name X.env (eval o X.env)=eval o X.env:=by rfl)
  (hfew:((backTo cpos (starEach (e::es) X.env)).all (fun x=>!x.1)&&(backToKw cpos (keywordEach [] X.env)).all (fun x=>x.1.isSome)
   && decide ((e::es).length+([]:List Keyword).length+(if ([]:List Keyword).isEmpty then 0 else 1)<30))=true:=by rfl)
  (hline:(apos.endLine== cpos.line)=true:=by rfl) (hs:starEach (e::es) X.env=(false,eval e X.env)::starEach es X.env:=by rfl) (hplain:(backTo cpos (starEach es X.env)).any (·.1)=false:=by rfl):
  PE X (.Call (.Attribute o name apos) (e::es) [] cpos) (UE X.K T r to t):=by
 intro pins s σ H Q I h;refine wpAny_Call_method_late hbase hfew hline rfl (aF (ho pins s σ H _ I h) fun v s1 Z=>Z.g4 fun x H1 I1 r1 Z=>Z.g fun ty q1=>?_);obtain⟨h1,h2⟩:=C1 I1 r1 ty;refine⟨T,id,pa,slot,hty,h1,h2,?_⟩;have hA:=ha cpos pins s1 σ H1 _ I1 q1;rw[hs] at hA⊢;refine Bk (by show (false || (backTo cpos (starEach es X.env)).any (·.1))=false;rw[hplain]<;>rfl) (FK ?_);exact aF hA fun us s2 Z=>Z.g4 fun vs H2 I2 r2 q2=>hm pins s2 σ H2 x vs v us Q I2 r1 r2 q2
end
def Mp(X:Cx)(id:String)(r:V->List V->Hp->VK->Prop):Prop:=
 ∀(pins:aO)(s:Shared)(σ:St)(H:Hp)(x:V)(xs:List V)(v:Value)(us:List Value)(Q:VK),Inv X pins σ H s->RelV x v->Vals xs us->r x xs H Q->
  wpAny (model X.prog X.w) X.A (call (.builtin id) (v::us)) (EP X pins σ Q) X.xe s
theorem Vals.one:∀{x:V}{us:List Value},Vals [x] us->∃u,us=[u]/\RelV x u
 |_,_,.cons r .nil=>⟨_,rfl,r⟩
theorem Vals.zero:∀{us:List Value},Vals [] us->us=[]
 |_,.nil=>rfl
theorem Vals.reverse{xs:List V}{us:List Value}(h:Vals xs us):Vals xs.reverse us.reverse:=by
 induction h with
 |nil=>exact .nil
 |cons r t ih=>rw[Bg,Bg];exact Vals.append ih (.cons r .nil)
theorem Vals.rep{xs:List V}{us:List Value}(h:Vals xs us):∀k:Nat,Vals (List.replicate k xs).flatten (List.replicate k us).flatten
 |0=>.nil
 |k+1=>by
  rw[pJ,pJ,uJ,uJ];exact Vals.append h (Vals.rep h k)
theorem foldl_rep(its:List Value):∀(k:Nat)(acc:List Value),
  List.foldl (fun x1 x2=>x1++x2) acc.toArray (List.replicate k its.toArray)=(acc++(List.replicate k its).flatten).toArray
 |0,acc=>by simp
 |k+1,acc=>by
  have e:acc.toArray++its.toArray=(acc++its).toArray:=by simp
  have e2:(acc++its)++(List.replicate k its).flatten=acc++(List.replicate (k+1) its).flatten:=by rw[pJ,uJ,xl]
  rw[<-e2,<-foldl_rep its k (acc++its),<-e,pJ,List.foldl_cons]
section
variable {X:Cx}{pins:aO}{σ:St}{H:Hp}{s:Shared}{l b:Addr}{xs ys zs:List V}
theorem Inv.Ls{its its':List Value}{n:Nat}{f:Array Value->Array Value}{t':Nat}(I:Inv X pins σ H s)(hH:H l=some (.lst xs))
  (e:s.heap.get? l=some {cls:=.type "list",data:=.seq its.toArray n}) (hf:f its.toArray=its'.toArray) (hv:Vals ys its') (hz:ys.length<=sizeLine):
  Inv X pins σ (upd H l (.lst ys)) {s with heap:=s.heap.update l (Obj.mapSeq f),toks:=t'}:=by
 have q:=PySem.IsL.update e f;rw[hf] at q;refine I.write (x:=l) (e:=l) (by rw[hH];exact trivial) (.inl rfl) (fun b' u hb hu=>(mQ s.heap (Obj.mapSeq f) (bc hb)).trans hu) ⟨_,q⟩ ?_;exact⟨hz,its',_,hv,q⟩
theorem Inv.Sf{its:List Value}{t':Nat}(I:Inv X pins σ H s)(hv:Vals ys its)(hz:ys.length<=sizeLine):
  Inv X pins σ (upd H s.heap.objs.size (.lst ys)) {s with heap:=s.heap.push {cls:=.type "list",data:=.seq its.toArray},toks:=t'}:=
 I.laid (fun _ _ q=>bj _ q) (aG _) ⟨hz,its,0,hv,dC _ rfl⟩
theorem Inv.fresh(I:Inv X pins σ H s):H s.heap.objs.size=none:=I.av.fresh (aG _)
theorem Inv.ux(I:Inv X pins σ H s)(hH:H l=some (.lst xs)):xs.length<=sizeLine/\∃(its:List Value) (n:Nat),Vals xs its/\xs.length=its.length/\s.heap.get? l=some {cls:=.type "list",data:=.seq its.toArray n}:=by obtain⟨z,its,n,r,e⟩:=I.av l _ hH;exact⟨z,its,n,r,r.length,e⟩
end
section
variable {X:Cx}
def Jz:V->List V->Hp->VK->Prop:=fun x vs H Q=>∃l xs y,x=.ref l/\vs=[y]/\H l=some (.lst xs)/\xs.length<sizeLine/\Q .aq (upd H l (.lst (xs++[y])))
theorem vP:Mp X "list.append" Jz:=by intro pins s σ H x vs v us Q I rx rv h;obtain⟨l,xs,y,rfl,rfl,hH,hz,q⟩:=h;cases rx;obtain⟨u,rfl,ru⟩:=rv.one;obtain⟨z,its,n,r,hl,e⟩:=I.ux hH;refine oq F.slot_list_append ⟨_,e,rfl⟩ F.entry_list_append (F.args_list_append_2 _ _) (PySem.list_append l its.toArray n u (by rw[cR];omega)) ⟨e,?_⟩;refine⟨.aq,_,I.Ls (its':=its++[u]) hH e (by simp) (r.append (.cons ru .nil)) ?_,rfl,q⟩;rw[n5,List.length_singleton];omega
def G3:V->List V->Hp->VK->Prop:=fun x vs H Q=>∃l xs,x=.ref l/\vs=[]/\H l=some (.lst xs)/\Q .aq (upd H l (.lst xs.reverse))
theorem BE:Mp X "list.reverse" G3:=by intro pins s σ H x vs v us Q I rx rv h;obtain⟨l,xs,rfl,rfl,hH,q⟩:=h;cases rx;have hus:=rv.zero;subst hus;obtain⟨z,its,n,r,hl,e⟩:=I.ux hH;refine oq F.slot_list_reverse ⟨_,e,rfl⟩ F.entry_list_reverse (F.args_list_reverse_1 _) (AutoSeq1.list_reverse_list_0 l its.toArray n (by rw[cR];omega)) ⟨e,?_⟩;refine⟨.aq,_,I.Ls (its':=its.reverse) hH e (by simp) r.reverse ?_,rfl,q⟩;rw[List.length_reverse];omega
def KS:R2:=fun x y H Q=>∃l b xs zs,x=.ref l/\y=.ref b/\H l=some (.lst xs)/\H b=some (.lst zs)/\xs.length+zs.length<=sizeLine/\∀p,H p=none->Q (.ref p) (upd H p (.lst (xs++zs)))
theorem Nm:c7 X (binaryOp .Add) KS:=by
 intro pins s σ H x y v u Q I rx ry h;obtain⟨l,b,xs,zs,rfl,rfl,hH,hB,hz,q⟩:=h;cases rx;cases ry;obtain⟨z,its,n,r,hl,e⟩:=I.ux hH;obtain⟨z2,its2,n2,r2,hl2,e2⟩:=I.ux hB;refine PySem.P.add_list e e2 ?_ (by rw[cR,cR];omega);have ea:its.toArray++its2.toArray=(its++its2).toArray:=by simp
 rw[ea];exact⟨.ref _,_,I.Sf (t':=s.toks) (r.append r2) (by rw[n5];omega),rfl,q _ I.fresh⟩
theorem len_rep{α:Type}(xs:List α)(k:Nat):(List.replicate k xs).flatten.length=k * xs.length:=by
 induction k with
 |zero=>simp
 |succ k ih=>rw[pJ,uJ,n5,ih,Nat.succ_mul,Nat.add_comm]
end
section
variable {prog:Program}{w:World}{A:Around}{E:aJ}{s:Shared}
set_option maxRecDepth 100000 in
end
section
variable {X:Cx}
end
section
variable {κ:Type} [DecidableEq κ]
noncomputable def js(kvs:List (κ×V))(k:κ):Option V:=(kvs.find? fun kv=>decide (kv.1=k)).map (·.2)
def putK(kvs:List (κ×V))(k:κ)(v:V):List (κ×V):=
 if (kvs.any fun kv=>decide (kv.1=k))=true then kvs.map (fun kv=>if kv.1=k then (kv.1,v) else kv) else kvs++[(k,v)]
theorem oH{p:κ×V}{r:List (κ×V)}{k:κ}(e:p.1=k):js (p::r) k=some p.2:=by simp[js,uX,e]
theorem oG{p:κ×V}{r:List (κ×V)}{k:κ}(e:¬ p.1=k):js (p::r) k=js r k:=by simp[js,uX,e]
theorem wX(k:κ):∀kvs:List (κ×V),(kvs.any fun kv=>decide (kv.1=k))=(js kvs k).isSome
 |[]=>rfl
 |p::r=>by
  rw[mP];by_cases e:p.1=k
  .simp only[oH e,ub e,Bool.true_or,Option.isSome_some]
  .rw[oG e,dz e,Bool.false_or];exact wX k r
theorem jH(kvs:List (κ×V))(k:κ)(v:V):(putK kvs k v).length<=kvs.length+1:=by
 unfold putK;split
 .rw[j3];omega
 .rw[n5,dX,lO];omega
theorem eU.jW{o:Option V}{u:Option Value}(r:eU o u):o.isSome=u.isSome:=by
 cases o with
 |none=>cases u with
  |none=>rfl
  |some _=>exact (show False from r).elim
 |some _=>cases u with
  |none=>exact (show False from r).elim
  |some _=>rfl
theorem eU.getD{o:Option V}{u:Option Value}{d:V}{d':Value}(r:eU o u)(rd:RelV d d'):RelV (o.getD d) (u.getD d'):=by
 cases o with
 |none=>cases u with
  |none=>exact rd
  |some _=>exact (show False from r).elim
 |some _=>cases u with
  |none=>exact (show False from r).elim
  |some _=>exact r
theorem KV.val{kvs:List (κ×V)}{vs:List (κ×Value)}(r:KV kvs vs)(k:κ):eU (js kvs k) (valueAt vs k):=by
 unfold KV at r
 induction r with
 |nil=>exact oN
 | @cons p q ps qs h t ih=>
  obtain⟨h1,h2⟩:=h;by_cases e:p.1=k
  .have e':q.1=k:=h1.symm.trans e;have b:valueAt (q::qs) k=some q.2:=by simp[valueAt,uX,e']
   rw[oH e,b];exact h2
  .have e':¬ q.1=k:=fun z=>e (h1.trans z);have b:valueAt (q::qs) k=valueAt qs k:=by simp[valueAt,uX,e']
   rw[oG e,b];exact ih
theorem KV.any{kvs:List (κ×V)}{vs:List (κ×Value)}(r:KV kvs vs)(k:κ):(kvs.any fun kv=>decide (kv.1=k))=vs.any fun kv=>decide (kv.1=k):=by
 unfold KV at r
 induction r with
 |nil=>rfl
 |cons h t ih=>rw[mP,mP,ih,h.1]
theorem KV.FL{kvs:List (κ×V)}{vs:List (κ×Value)}(r:KV kvs vs)(k:κ){y:V}{u:Value}(ry:RelV y u):
  KV (kvs.map fun kv=>if kv.1=k then (kv.1,y) else kv) (vs.map fun kv=>if kv.1=k then (kv.1,u) else kv):=by
 unfold KV at r⊢
 induction r with
 |nil=>exact .nil
 | @cons p q ps qs h t ih=>
  rw[aX,aX];refine .cons ?_ ih;obtain⟨h1,h2⟩:=h;by_cases e:p.1=k
  .rw[if_pos e,if_pos (h1.symm.trans e)];exact⟨h1,ry⟩
  .rw[if_neg e,if_neg (fun z=>e (h1.trans z))];exact⟨h1,h2⟩
theorem KV.put{kvs:List (κ×V)}{vs:List (κ×Value)}(r:KV kvs vs)(k:κ){y:V}{u:Value}(ry:RelV y u):KV (putK kvs k y) (stored vs k u):=by
 unfold putK stored;rw[r.any k];by_cases e:(vs.any fun kv=>decide (kv.1=k))=true
 .rw[if_pos e,if_pos e];exact r.FL k ry
 .rw[if_neg e,if_neg e];exact Paired.snoc r ⟨rfl,ry⟩
theorem KV.length{kvs:List (κ×V)}{vs:List (κ×Value)}(r:KV kvs vs):kvs.length=vs.length:=Paired.length r
end
theorem mf{P:Program}{w:World}{k:Key}{u:Value}(r:RelV (kV k) u):(bS P w).is k u=true:=by
 cases k with
 |inl i=>obtain⟨t,e⟩:=(show ∃t,u=Value.int i t from r);subst e;exact yX P w i t
 |inr x=>obtain⟨t,e⟩:=(show ∃t,u=Value.str x t from r);subst e;exact y8 P w x t
theorem EZ{a b:Key}(e:kV a=kV b):a=b:=by
 cases a with
 |inl i=>cases b with
  |inl j=>have e':V.int i=V.int j:=e;injection e' with e';rw[e']
  |inr y=>exact nomatch (show V.int i=V.str y from e)
 |inr x=>cases b with
  |inl j=>exact nomatch (show V.str x=V.int j from e)
  |inr y=>have e':V.str x=V.str y:=e;injection e' with e';rw[e']
theorem vc{P:Program}{w:World}:∀{ks:List Key}{us:List Value},Vals (ks.map kV) us->ItemsAre (bS P w) ks us
 |[],_,r=>by rw[eM] at r;cases r;exact .nil
 |k::ks,_,r=>by
  rw[aX] at r;cases r with
  |cons h t=>exact .cons (mf h) (vc t)
abbrev KT(H:Hp):List (List Key×V)->List (List Key×Addr×Value)->Prop:=Paired fun p q=>p.1=q.1/\H q.2.1=some (.tup (p.1.map kV))/\RelV p.2 q.2.2
theorem KT.val{H:Hp}{kvs:List (List Key×V)}{xs:List (List Key×Addr×Value)}(r:KT H kvs xs)(k:List Key):eU (js kvs k) ((atKey xs k).map (·.2)):=by
 induction r with
 |nil=>exact oN
 | @cons p q ps qs h t ih=>
  obtain⟨h1,_,h2⟩:=h;by_cases e:p.1=k
  .have e':q.1=k:=h1.symm.trans e;have b:atKey (q::qs) k=some q.2:=by simp[atKey,uX,e']
   rw[oH e,b];exact h2
  .have e':¬ q.1=k:=fun z=>e (h1.trans z);have b:atKey (q::qs) k=atKey qs k:=by simp[atKey,uX,e']
   rw[oG e,b];exact ih
theorem KT.FL{H:Hp}{kvs:List (List Key×V)}{xs:List (List Key×Addr×Value)}(r:KT H kvs xs)(k:List Key){y:V}{u:Value}(ry:RelV y u):
  KT H (kvs.map fun kv=>if kv.1=k then (kv.1,y) else kv) (xs.map (putAt k u)):=by
 induction r with
 |nil=>exact .nil
 | @cons p q ps qs h t ih=>
  rw[aX,aX];refine .cons ?_ ih;obtain⟨h1,h2,h3⟩:=h;unfold putAt;by_cases e:p.1=k
  .rw[if_pos e,if_pos (h1.symm.trans e)];exact⟨h1,h2,ry⟩
  .rw[if_neg e,if_neg (fun z=>e (h1.trans z))];exact⟨h1,h2,h3⟩
theorem KT.put{H:Hp}{kvs:List (List Key×V)}{xs:List (List Key×Addr×Value)}(r:KT H kvs xs)(k:List Key){b:Addr}{y:V}{u:Value}(hb:H b=some (.tup (k.map kV)))(ry:RelV y u):
  KT H (putK kvs k y) (storedH xs k b u):=by
 have e:(kvs.any fun kv=>decide (kv.1=k))=(atKey xs k).isSome:=by rw[wX,(r.val k).jW,BI]
 unfold putK storedH;rw[e];by_cases q:(atKey xs k).isSome=true
 .rw[if_pos q,if_pos q];exact r.FL k ry
 .rw[if_neg q,if_neg q];exact Paired.snoc r ⟨rfl,hb,ry⟩
theorem KT.keeps{H H':Hp}{kvs:List (List Key×V)}{xs:List (List Key×Addr×Value)}(r:KT H kvs xs)(ht:∀b ys,H b=some (.tup ys)->H' b=some (.tup ys)):KT H' kvs xs:=
 Paired.F5 r fun _ _ z=>⟨z.1,ht _ _ z.2.1,z.2.2⟩
section
variable {P:Program}{w:World}{H:Hp}{h:Heap}{a:Addr}
theorem nR{u:HO}(ok:di P w H h)(e:Rd H a u):bT P w H h a u:=e.ok ok
theorem jG{kvs:List (Key×V)}(ok:di P w H h)(e:Rd H a (.dK kvs)):kvs.length<=sizeLine/\(a== sysModules)=false/\∃vs,KV kvs vs/\h.DictOf (bS P w) a vs:=
 show bT P w H h a (.dK kvs) from nR ok e
theorem Bq{kvs:List (Key×V)}(ok:di P w H h)(e:H a=some (.dK kvs)):kvs.length<=sizeLine/\(a== sysModules)=false/\∃vs,KV kvs vs/\h.DictOf (bS P w) a vs:=jG ok (.inl e)
theorem kU{ks:List Key}(ok:di P w H h)(e:H a=some (.tup (ks.map kV))):(tupleKind (bS P w)).is h ks a:=by obtain⟨_,its,r,o,h1,h2,n,h3⟩:=(show bT P w H h a (.tup (ks.map kV)) from ok a _ e);exact⟨o,its.toArray,n,h1,h2,h3,by simpa using vc r⟩
theorem lS{kvs:List (List Key×V)}(ok:di P w H h)(e:Rd H a (.dT kvs)):kvs.length<=sizeLine/\(a== sysModules)=false/\
  ∃xs,KT H kvs xs/\h.DictOfH (tupleKind (bS P w)) a xs:=by
 obtain⟨z,y,xs,r,o,es,ep,h1,h2,h3,h4,h5⟩:=(show bT P w H h a (.dT kvs) from nR ok e);refine⟨z,y,xs,r,o,es,ep,h1,h2,h3,h4,fun x hx=>?_,h5⟩;have all:∀{l:List (List Key×V)}{m:List (List Key×Addr×Value)},KT H l m->∀x∈m,(tupleKind (bS P w)).is h x.1 x.2.1:=by
  intro l m q
  induction q with
  |nil=>intro x hx;exact nomatch hx
  | @cons p q ps qs hq t ih=>
   intro x hx;rcases cQ.mp hx with e|hx
   .subst e;exact kU ok (by rw[<-hq.1];exact hq.2.1)
   .exact ih x hx
 exact all r x hx
theorem Qh{kvs:List (List Key×V)}(ok:di P w H h)(e:H a=some (.dT kvs)):kvs.length<=sizeLine/\(a== sysModules)=false/\
  ∃xs,KT H kvs xs/\h.DictOfH (tupleKind (bS P w)) a xs:=lS ok (.inl e)
end
def gu(H:Hp)(a:Addr)(y:V)(r:Option V):Prop:=
 (∃kvs k,Rd H a (.dK kvs)/\y=kV k/\r=js kvs k)\/∃kvs k b,Rd H a (.dT kvs)/\y=.ref b/\H b=some (.tup (k.map kV))/\r=js kvs k
def uj(H:Hp)(a:Addr)(y v:V)(H':Hp):Prop:=
 (∃kvs k,H a=some (.dK kvs)/\y=kV k/\kvs.length<sizeLine/\H'=upd H a (.dK (putK kvs k v)))\/
 ∃kvs k b,H a=some (.dT kvs)/\y=.ref b/\H b=some (.tup (k.map kV))/\kvs.length<sizeLine/\H'=upd H a (.dT (putK kvs k v))
theorem gu.k{H:Hp}{a:Addr}{kvs:List (Key×V)}{k:Key}(e:H a=some (.dK kvs)):gu H a (kV k) (js kvs k):=.inl ⟨kvs,k,.inl e,rfl,rfl⟩
theorem uj.k{H:Hp}{a:Addr}{kvs:List (Key×V)}{k:Key}{v:V}(e:H a=some (.dK kvs))(hl:kvs.length<sizeLine):uj H a (kV k) v (upd H a (.dK (putK kvs k v))):=.inl ⟨kvs,k,e,rfl,hl,rfl⟩
section
variable {X:Cx}{pins:aO}{σ:St}{H:Hp}{s:Shared}{a:Addr}{y v:V}{u r:Value}{o:Option V}{A:Around}{E:aJ}
theorem Inv.big(I:Inv X pins σ H s):sysModules<s.heap.objs.size:=by have h:mainGlobals<s.heap.objs.size:=(I.mod.glob.keeps I.bk).lt;exact Nat.lt_trans (by decide) h
theorem DK{Q:aJ}(hu:A.units+1<cLine)(I:Inv X pins σ H s)(g:gu H a y (some v))(ry:RelV y u)(h:∀w' s',Inv X pins σ H s'->RelV v w'->Q w' s'):
  wpAny (model X.prog X.w) A (getItem (.ref a) u) Q E s:=by
 rcases g with ⟨kvs,k,e,ey,l⟩|⟨kvs,k,b,e,ey,eb,l⟩
 .subst ey;obtain⟨z,hd,vs,rel,dd⟩:=jG I.av e;obtain⟨w',hw,rw'⟩:=eU.some_of (v:=v) (o:=valueAt vs k) (by rw[l];exact rel.val k);exact wpAny_getItem_of (mf ry) dd.mapOf hw (h w' _ (I.tok _) rw')
 .subst ey;cases (show u=Value.ref b from ry);obtain⟨z,hd,xs,rel,dd⟩:=lS I.av e;obtain⟨w',hw,rw'⟩:=eU.some_of (v:=v) (o:=(atKey xs k).map (·.2)) (by rw[l];exact rel.val k);obtain⟨p,hp,hp2⟩:=iQ.mp hw;refine wpAny_getItem_heap (qo hu) (kU I.av eb) dd hp ?_;rw[hp2];exact h w' _ (I.tok _) rw'
theorem TX{Q:aJ}(hu:A.units+1<cLine)(I:Inv X pins σ H s)(g:gu H a y o)(ry:RelV y u)(h:∀s',Inv X pins σ H s'->Q (.bool o.isSome) s'):
  wpAny (model X.prog X.w) A (compareOp .In u (.ref a)) Q E s:=by
 rcases g with ⟨kvs,k,e,ey,l⟩|⟨kvs,k,b,e,ey,eb,l⟩
 .subst ey;obtain⟨z,hd,vs,rel,dd⟩:=jG I.av e;refine wpAny_in_of (mf ry) hd dd.mapOf ?_;rw[<-(rel.val k).jW,<-l];exact h _ (I.tok _)
 .subst ey;cases (show u=Value.ref b from ry);obtain⟨z,hd,xs,rel,dd⟩:=lS I.av e;refine wpAny_in_heap (qo hu) (kU I.av eb) hd dd ?_;have q:=(rel.val k).jW;rw[BI] at q;rw[<-q,<-l];exact h _ (I.tok _)
theorem Kt{Q:aJ}(hu:A.units+1<cLine)(I:Inv X pins σ H s)(g:gu H a y o)(ry:RelV y u)(h:∀s',Inv X pins σ H s'->Q (.bool (!o.isSome)) s'):
  wpAny (model X.prog X.w) A (compareOp .NotIn u (.ref a)) Q E s:=by
 rcases g with ⟨kvs,k,e,ey,l⟩|⟨kvs,k,b,e,ey,eb,l⟩
 .subst ey;obtain⟨z,hd,vs,rel,dd⟩:=jG I.av e;refine wpAny_notIn_of (mf ry) hd dd.mapOf ?_;rw[<-(rel.val k).jW,<-l];exact h _ (I.tok _)
 .subst ey;cases (show u=Value.ref b from ry);obtain⟨z,hd,xs,rel,dd⟩:=lS I.av e;refine wpAny_notIn_heap (qo hu) (kU I.av eb) hd dd ?_;have q:=(rel.val k).jW;rw[BI] at q;rw[<-q,<-l];exact h _ (I.tok _)
theorem uy{h':Heap}{t':Nat}{ob:HO}(I:Inv X pins σ H s)(mu:Ec (H a))(hs:Heap.SameBut a s.heap h')(he:∃q,h'.get? a=some q)(new:bT X.prog X.w (upd H a ob) h' a ob):
  Inv X pins σ (upd H a ob) {s with heap:=h',toks:=t'}:=
 I.write (x:=a) (e:=a) mu (.inl rfl) (fun b q hb z=>(hs.2 b hb).trans z) he new
theorem tU{P:Program}{w:World}{H':Hp}{h':Heap}{kvs:List (Key×V)}{vs:List (Key×Value)}(z:kvs.length<=sizeLine)(hd:(a== sysModules)=false)(rel:KV kvs vs)(dd:h'.DictOf (bS P w) a vs):
  bT P w H' h' a (.dK kvs):=⟨z,hd,vs,rel,dd⟩
theorem CU{H':Hp}{Q:Unit->Shared->Prop}(hu:A.units+1<cLine)(I:Inv X pins σ H s)(g:uj H a y v H')(ry:RelV y u)(rv:RelV v r)(h:∀s',Inv X pins σ H' s'->Q () s'):
  wpAny (model X.prog X.w) A (setItem (.ref a) u r) Q E s:=by
 rcases g with ⟨kvs,k,e,ey,l,eH⟩|⟨kvs,k,b,e,ey,eb,l,eH⟩
 .subst ey eH;obtain⟨z,hd,vs,rel,dd⟩:=Bq I.av e;have hz:vs.length<=sizeLine:=by rw[<-rel.length];exact z
  have hl:(putK kvs k v).length<=sizeLine:=by have:=jH kvs k v;omega
  refine wpAny_setItem_pairs (hsz:=hz) (mf ry) dd fun h' dd' hs=>h _ ?_;have he:∃q,h'.get? a=some q:=let ⟨q,_,_,hq,_⟩:=dd';⟨q,hq⟩
  exact uy I (by rw[e];exact oN) hs he (tU hl hd (rel.put k rv) dd')
 .subst ey eH;cases (show u=Value.ref b from ry);obtain⟨z,hd,xs,rel,dd⟩:=Qh I.av e;have hz:xs.length<=sizeLine:=by rw[<-Paired.length rel];exact z
  have hl:(putK kvs k v).length<=sizeLine:=by have:=jH kvs k v;omega
  refine wpAny_setItem_heap (hsz:=hz) (qo hu) (kU I.av eb) dd fun h' dd' hs=>h _ ?_;obtain⟨q,es,ep,hq,h2,h3,h4,_,h5⟩:=dd';refine uy I (by rw[e];exact oN) hs ⟨q,hq⟩ ⟨hl,hd,_,(rel.put k eb rv).keeps fun c ys ec=>?_,q,es,ep,hq,h2,h3,h4,h5⟩;rw[az (P1 ec e (fun z=>nomatch z))];exact ec
end
section
variable {X:Cx}{pins:aO}{σ:St}{H:Hp}{s:Shared}{a:Addr}{kvs:List (Key×V)}{k:Key}{u:Value}{A:Around}{E:aJ}
theorem Qe{Q:aJ}(I:Inv X pins σ H s)(e:Rd H a (.dK kvs))(h:∀t s',Inv X pins σ H s'->Q (.int kvs.length t) s'):wpAny (model X.prog X.w) A (call (.builtin "len") [.ref a]) Q E s:=by obtain⟨z,hd,vs,rel,dd⟩:=jG I.av e;refine call_len_dict hd dd (by rw[<-rel.length];rw[fA] at z;omega) ?_;rw[<-rel.length];exact h _ _ (I.tok _)
end
theorem zi{X:Cx}{pins:aO}{σ:St}{H:Hp}{s:Shared}{a:Addr}{y:V}{o:Option V}(I:Inv X pins σ H s)(g:gu H a y o):s.TypeIs (.ref a) "dict" := by
 rcases g with ⟨kvs,k,e,_,_⟩|⟨kvs,k,b,e,_,_,_⟩
 .obtain⟨_,_,vs,_,dd⟩:=jG I.av e;exact dd.typeIs
 .obtain⟨_,_,xs,_,dd⟩:=lS I.av e;exact dd.typeIs
section
variable {X:Cx}{o i e value:Expr}{pos pos' tpos:Pos}{td ty tv:TE}
end
theorem GN{P:Program}{w:World}{H:Hp}(h:Heap)(hb:sysModules<h.objs.size):bT P w H (h.push {cls:=.type "dict",data:=.dict #[]}) h.objs.size (.dK []):=
 ⟨sT _,gG.mpr (bc (b7 hb)),[],.nil,Heap.DictOf.new h⟩
def Nx:TE:=fun _ H Q=>∀p,H p=none->Q (.ref p) (upd H p (.dK []))
section
variable {X:Cx}{pos:Pos}
theorem Hh:PE X (.Dict [] [] pos) Nx:=fun pins s σ H Q I h=>
 wpAny_Dict_empty ⟨.ref s.heap.objs.size,_,I.laid (a:=s.heap.objs.size) (o:=.dK []) (t':=s.toks) (fun _ _ q=>bj _ q) (aG _) (GN s.heap I.big),rfl,h _ (I.av.fresh (aG _))⟩
end
structure M1(X:Cx)(o:Expr)(m:Str)(apos:Pos)(e:Expr)(cpos:Pos):Prop where
 base:attributeBase o m X.env (eval o X.env)=eval o X.env
 m8:((backTo cpos (starEach [e] X.env)).all (fun x=>!x.1)&&(backToKw cpos (keywordEach [] X.env)).all (fun x=>x.1.isSome)
  && decide (([e]:List Expr).length+([]:List Keyword).length+(if ([]:List Keyword).isEmpty then 0 else 1)<30))=true
 line:(apos.endLine== cpos.line)=true
 trees:backTo cpos (starEach [e] X.env)=[(false,eval e X.env)]
structure M2(X:Cx)(o:Expr)(m:Str)(apos:Pos)(e f:Expr)(cpos:Pos):Prop where
 base:attributeBase o m X.env (eval o X.env)=eval o X.env
 m8:((backTo cpos (starEach [e,f] X.env)).all (fun x=>!x.1)&&(backToKw cpos (keywordEach [] X.env)).all (fun x=>x.1.isSome)
  && decide (([e,f]:List Expr).length+([]:List Keyword).length+(if ([]:List Keyword).isEmpty then 0 else 1)<30))=true
 line:(apos.endLine== cpos.line)=true
 trees:backTo cpos (starEach [e,f] X.env)=[(false,eval e X.env),(false,eval f X.env)]
def N5(H:Hp)(a:Addr):Prop:=(∃kvs,Rd H a (.dK kvs))\/∃kvs,Rd H a (.dT kvs)
theorem Di{X:Cx}{pins:aO}{σ:St}{H:Hp}{s:Shared}{a:Addr}(I:Inv X pins σ H s)(d:N5 H a):
  s.TypeIs (.ref a) "dict" /\(∀b,Value.ref a=.ref b->∃ob,s.heap.get? b=some ob/\ob.dict=none)/\(a== sysModules)=false:=by
 rcases d with ⟨kvs,e⟩|⟨kvs,e⟩
 .obtain⟨_,hd,vs,_,dd⟩:=jG I.av e;refine⟨dd.typeIs,fun b q=>?_,hd⟩;cases q;obtain⟨ob,_,_,h1,h2,_⟩:=dd;exact⟨ob,h1,h2.2.1⟩
 .obtain⟨_,hd,xs,_,dd⟩:=lS I.av e;refine⟨dd.typeIs,fun b q=>?_,hd⟩;cases q;obtain⟨ob,_,_,h1,h2,_⟩:=dd;exact⟨ob,h1,h2.2.1⟩
section
variable {X:Cx}{pins:aO}{σ:St}{H:Hp}{s:Shared}{a:Addr}{y d:V}{u r:Value}{o:Option V}{A:Around}{E:aJ}
theorem K5{Q:aJ}(hu:A.units+1<cLine)(I:Inv X pins σ H s)(g:gu H a y o)(ry:RelV y u)(h:∀w' s',Inv X pins σ H s'->RelV (o.getD .aq) w'->Q w' s'):
  wpAny (model X.prog X.w) A (call (.builtin "dict.get") [.ref a,u]) Q E s:=by
 rcases g with ⟨kvs,k,e,ey,l⟩|⟨kvs,k,b,e,ey,eb,l⟩
 .subst ey;obtain⟨z,hd,vs,rel,dd⟩:=jG I.av e;refine wg qH dd.typeIs wb (PySem.F.args_dict_get_2 _ _) (meets_dict_get (bS X.prog X.w) a (mf ry) hd) ⟨_,dd.mapOf,h _ _ (I.tok _) ?_⟩;rw[l];exact (rel.val k).getD rfl
 .subst ey;cases (show u=Value.ref b from ry);obtain⟨z,hd,xs,rel,dd⟩:=lS I.av e;refine wg qH dd.typeIs wb (PySem.F.args_dict_get_2 _ _) (meetsH_dict_get (tupleKind (bS X.prog X.w)) a b hd) ⟨qo hu,k,xs,kU I.av eb,dd,h _ _ (I.tok _) ?_⟩;rw[l];exact (rel.val k).getD rfl
theorem LW{Q:aJ}(hu:A.units+1<cLine)(I:Inv X pins σ H s)(g:gu H a y o)(ry:RelV y u)(rd:RelV d r)(h:∀w' s',Inv X pins σ H s'->RelV (o.getD d) w'->Q w' s'):
  wpAny (model X.prog X.w) A (call (.builtin "dict.get") [.ref a,u,r]) Q E s:=by
 rcases g with ⟨kvs,k,e,ey,l⟩|⟨kvs,k,b,e,ey,eb,l⟩
 .subst ey;obtain⟨z,hd,vs,rel,dd⟩:=jG I.av e;refine wg qH dd.typeIs wb (PySem.F.args_dict_get_3 _ _ _) (meets_dict_get_default (bS X.prog X.w) a (mf ry) hd r) ⟨_,dd.mapOf,h _ _ (I.tok _) ?_⟩;rw[l];exact (rel.val k).getD rd
 .subst ey;cases (show u=Value.ref b from ry);obtain⟨z,hd,xs,rel,dd⟩:=lS I.av e;refine wg qH dd.typeIs wb (PySem.F.args_dict_get_3 _ _ _) (meetsH_dict_get_default (tupleKind (bS X.prog X.w)) a b hd r) ⟨qo hu,k,xs,kU I.av eb,dd,h _ _ (I.tok _) ?_⟩;rw[l];exact (rel.val k).getD rd
end
noncomputable def Mv(td ty:TE):TE:=fun σ H Q=>td σ H fun x H1=>∃a,x=.ref a/\N5 H1 a/\ty σ H1 fun y H2=>∃o,gu H2 a y o/\Q (o.getD .aq) H2
noncomputable def Nj(td ty tx:TE):TE:=fun σ H Q=>td σ H fun x H1=>∃a,x=.ref a/\N5 H1 a/\ty σ H1 fun y H2=>tx σ H2 fun z H3=>∃o,gu H3 a y o/\Q (o.getD z) H3
section
variable {X:Cx}{o e f:Expr}{apos cpos:Pos}{td ty tx:TE}
theorem Fv(hu:X.A.units+1<cLine)(ho:PE X o td)(he:PE X e ty)(m:M1 X o "get" apos e cpos):PE X (.Call (.Attribute o "get" apos) [e] [] cpos) (Mv td ty):=by intro pins s σ H Q I h;refine wpAny_Call_method m.base m.m8 m.line PySem.F.plainAttrs_dict qH PySem.F.type_dict_get (aF (ho pins s σ H _ I h) fun u s1 Z=>Z.g fun x Z=>Z.g fun H1 Z=>Z.g fun I1 Z=>Z.g fun rx Z=>Z.g fun a Z=>Z.g fun ex Z=>Z.g fun d q1=>?_);subst ex;obtain rfl:u=Value.ref a:=rx;obtain⟨t1,t2,_⟩:=Di I1 d;refine⟨t1,t2,?_⟩;rw[m.trees];refine Bk rfl (FK (w9 (aF (he pins s1 σ H1 _ I1 q1) fun iv s2 Z=>Z.g fun y Z=>Z.g fun H2 Z=>Z.g fun I2 Z=>Z.g fun ry Z=>Z.g fun ov Z=>Z.g fun g q2=>FY ?_)));exact K5 hu I2 g ry fun w' s3 I3 rw'=>⟨_,H2,I3,rw',q2⟩
theorem E7(hu:X.A.units+1<cLine)(ho:PE X o td)(he:PE X e ty)(hf:PE X f tx)(m:M2 X o "get" apos e f cpos):PE X (.Call (.Attribute o "get" apos) [e,f] [] cpos) (Nj td ty tx):=by
 intro pins s σ H Q I h;refine wpAny_Call_method m.base m.m8 m.line PySem.F.plainAttrs_dict qH PySem.F.type_dict_get (aF (ho pins s σ H _ I h) fun u s1 Z=>Z.g fun x Z=>Z.g fun H1 Z=>Z.g fun I1 Z=>Z.g fun rx Z=>Z.g fun a Z=>Z.g fun ex Z=>Z.g fun d q1=>?_);subst ex;obtain rfl:u=Value.ref a:=rx;obtain⟨t1,t2,_⟩:=Di I1 d;refine⟨t1,t2,?_⟩;rw[m.trees];refine Bk rfl (FK (w9 (aF (he pins s1 σ H1 _ I1 q1) fun iv s2 Z=>Z.g fun y Z=>Z.g fun H2 Z=>Z.g fun I2 Z=>Z.g fun ry q2=>
  w9 (aF (hf pins s2 σ H2 _ I2 q2) fun fv s3 Z=>Z.g fun z Z=>Z.g fun H3 Z=>Z.g fun I3 Z=>Z.g fun rz Z=>Z.g fun ov Z=>Z.g fun g q3=>FY ?_))))
 exact LW hu I3 g ry rz fun w' s4 I4 rw'=>⟨_,H3,I4,rw',q3⟩
end
section
variable {X:Cx}{pins:aO}{σ:St}{H:Hp}{s:Shared}{a:Addr}{kvs:List (Key×V)}{A:Around}{E:aJ}
theorem Gv{Q:aJ}(I:Inv X pins σ H s)(e:Rd H a (.dK kvs))(h:∀p s',H p=none->Inv X pins σ (upd H p (.dK kvs)) s'->Q (.ref p) s'):wpAny (model X.prog X.w) A (call (.type "dict") [.ref a]) Q E s:=by obtain⟨z,hd,vs,rel,dd⟩:=jG I.av e;refine kt_call_dict hd dd (by rw[<-rel.length];exact z) fun h' dd' hs=>?_;refine h _ _ (I.av.fresh (aG _)) (I.laid (a:=s.heap.objs.size) (o:=.dK kvs) (t':=s.toks) (fun b q hq=>?_) (aG _) (tU z (gG.mpr (bc (b7 I.big))) rel dd'));exact (hs.2 b (b7 (bp hq))).trans (bj _ hq)
end
section
variable {X:Cx}{pins:aO}{σ:St}{H:Hp}{s:Shared}{a:Addr}{y:V}{u:Value}{A:Around}{E:aJ}
end
end L2
namespace Att
open PySem PySem.W PySem.Calls PyProof.Rows
theorem tO{P:Params}{h:Heap}:∀(ns:List Int)(vs:List Value),WellAll P h vs (ns.map WData.int)->IntsAre vs ns:=by
 intro ns
 induction ns with
 |nil=>
  intro vs w;rw[eM] at w;cases w;exact .nil
 |cons n ns ih=>
  intro vs w;rw[aX] at w;cases w with
  |cons a b=>
   cases a;exact .cons _ _ (ih _ b)
theorem EO{l:OpenLaw}{n:Nat}(hn:l.most=some n){P:Params}{h:Heap}{args:List WData}{vals:List Value}
  (hpre:l.row.toRowW.claim.pre args=true) (hwl:WellAll P h vals args):
  ∃a vs ns,vals=[Value.ref a]/\args=[WData.list (ns.map WData.int)]/\h.get? a=some {cls:=.type "list",data:=.seq vs.toArray}/\IntsAre vs ns/\ns.length<=n:=by
 have hsh:WShape.hasAll [] args [.list .int]=true:=(pre_splitW hpre).1;have hc:l.pre.holds [] {args:=args}=true:=(pre_splitW hpre).2;obtain⟨d,r,rfl,h1,h2⟩:=hasAllW_cons hsh;obtain rfl:=hasAllW_nil h2;obtain⟨xs,rfl,h3⟩:=hasW_list h1;obtain⟨ns,rfl⟩:=items_int h3;have hlen:ns.length<=n:=by
  unfold OpenLaw.pre at hc;have h4:(WTm.not (.lt (.lit (.int (n:Int))) (.len (.arg 0)))).holds [] {args:=[.list (ns.map .int)]}=true:=by have h4:=(holds_andW hc).1;rw[hn] at h4;exact h4
  have h5:=condW_of h4 (w_not (w_lt w_lit (w_len_list (w_arg rfl))));rw[j3] at h5;refine Nat.le_of_not_lt fun q=>?_;have q':(n:Int)<((ns.length:Nat):Int):=by omega
  first
   |(rw[ub q'] at h5;exact absurd h5 (by decide))
   |(simp at h5;omega)
 cases hwl with
 |cons w1 w2=>
  cases w2;cases w1 with
  |list ho hall=>exact⟨_,_,ns,rfl,rfl,ho,tO ns _ hall,hlen⟩
theorem EV(l:OpenLaw)(args:List WData):l.row.toRowW.claim.post args (.bool true) args=true:=
 postW_of (r:=l.row.toRowW) (X:=(true== true))
  (show WShape.has [] (.bool true) .bool=true by first|rfl|decide|simp[WShape.has,WShape.arms,WShape.armsAll])
  (show (WTm.eq .res (.lit (.bool true))).value [] {args:=args,res:=some (.bool true),after:=args}=some (.bool (true== true)) from w_eq_bool (w_res rfl) w_lit) rfl
theorem zf{l:OpenLaw}{n:Nat}{q:Program}{loose:List Str}{XP:(Str->Option Value)->Heap->Prop}{YP:World->Heap->Prop}{d:DefRec}
  (hn:l.most=some n) (hdf:d.params.defaults=[])
  (call:∀(w:World)(aR s₁:Shared)(mg mb:Str->Option Value)(fa:Addr)(o:Obj)(pm cd doc:Value)(a:Addr)(vs:List Value)(ns:List Int),
   Ground q loose [] XP w aR mg mb s₁.heap->YP w s₁.heap->
   s₁.heap.get? fa=some o->o.data=.func (docDef d.name d.params d.body d.scope pm cd doc)->s₁.heap.CodeRec cd d.name->mg d.name=some (.ref fa)->
   s₁.heap.get? a=some {cls:=.type "list",data:=.seq vs.toArray}->IntsAre vs ns->ns.length<=n->s₁.gens=#[]->
   codeAny (model l.prog w) callerA (.call (.ref fa) ⟨[.ref a],[]⟩) (fun r s'=>r=.ok (.ret (.bool true))/\OldK s₁.heap s'.heap/\s'.os=s₁.os/\AllBare s'.gens) s₁):
  WalkO q loose XP YP l.row.toRowW d [] (fun f vs=>PySem.call f vs):=by
 intro w aR s₁ mg mb G Y fa o pm cd doc dV kV ho hd hcd hD hmg hg args vals as hpre hlay hrd hwl hlo;obtain rfl:dV=.none:=Dflts.none hD hdf;obtain rfl:kV=.none:=Dflts.noKw hD;obtain⟨a,vs,ns,rfl,rfl,hobj,hints,hlen⟩:=EO hn hpre hwl;refine enter_call (oa (call w aR s₁ mg mb fa o pm cd doc a vs ns G Y ho (fd_plain hd) hcd hmg hobj hints hlen hg) fun r s' hq=>?_);obtain⟨rfl,h2,h3,h4⟩:=hq;exact⟨.inl ⟨.bool true,.bool true,[],rfl,fun _=>rfl,.bool true,EV l _,fun _=>⟨List.Pairwise.nil,fun _ hm=>(nomatch hm)⟩⟩,h2,h3,h4⟩
section
variable {prog:Program}{w:World}{A:Around}{E:aJ}{s:Shared}{K:Frag}
end
end Att
namespace L2
open PySem PySem.Spec PyProof.Rows
theorem vE:∀{vs:List Value}{ns:List Int},IntsAre vs ns->Vals (ns.map V.int) vs
 |_,_,.nil=>.nil
 |_,_,.cons n t h=>.cons ⟨t,rfl⟩ (vE h)
def E2(H:Hp):Prop:=∀b,H b=none\/∃o xs,H b=some (.bR o (.lst xs))
theorem GP{P:Program}{w:World}{K:W.Frag}{mg mb:Str->Option Value}{CX:iH}{k:Nat}{fa a:Addr}{fd:FuncData}{x:Str}{sp:Sp}{s₁:Shared}{vs:List Value}{ns:List Int}
  (KX:K.In s₁.heap) (hns:s₁.heap.Ns mainGlobals mg) (hb:s₁.heap.Ns builtinsNs mb) (hbb:∀x:Str,x≠ "__name__" ->mb x=bootBuiltins x) (hlim:s₁.heap.NoLimit) (hg:s₁.gens=#[])
  (ha:s₁.heap.get? a=some {cls:=.type "list",data:=.seq vs.toArray}) (hi:IntsAre vs ns) (hl:ns.length<=sizeLine) (hr:bZ k callerA)
  (F:∀base:Heap,K.In base->base.Ns mainGlobals mg->cv P w K mg base CX k fa fd [x] sp) (hbind:∀(s:Shared)(u:Value),BindsTo s fd ⟨[u],[]⟩ [(x,u)])
  (hsp:∀H:Hp,E2 H->bJ K H a (ns.map V.int)->sp [.ref a] H (fun v _=>v=.bl true) fun _ _ _=>False)
  (hCX:∀H e s',CX [] H s₁ (fun _ _ _=>False) e s'->False):
  codeAny (model P w) callerA (.call (.ref fa) ⟨[.ref a],[]⟩) (fun r s'=>r=.ok (.ret (.bool true))/\OldK s₁.heap s'.heap/\s'.os=s₁.os/\AllBare s'.gens) s₁:=by
 have rv:=vE hi;have lenV:=hi.length;have core:∀H:Hp,E2 H->bJ K H a (ns.map V.int)->di P w H s₁.heap->(∀b,H b≠none->b=a)->(H a≠none->K.lookup a=none)->
   codeAny (model P w) callerA (.call (.ref fa) ⟨[.ref a],[]⟩) (fun r s'=>r=.ok (.ret (.bool true))/\OldK s₁.heap s'.heap/\s'.os=s₁.os/\AllBare s'.gens) s₁:=by
  intro H hO hS av hA hK;have base_of:∀{b:Addr}{o:Obj},s₁.heap.get? b=some o->H b=none->(oO s₁.heap H).get? b=some o:=fun e n=>Hk e n;have noA:∀{b:Addr}{o:Obj}{es:Array DictEntry}{ep:Nat},s₁.heap.get? b=some o->o.data=.dict es ep->H b=none:=fun {b o es ep} e d=>by
   cases q:H b with
   |none=>rfl
   |some u=>
    have e':b=a:=hA b (by rw[q];simp);subst e';rw[ha] at e;cases e;have d':Data.seq vs.toArray _=Data.dict es ep:=d;cases d'
  have nsK:∀{b:Addr}{m:Str->Option Value},s₁.heap.Ns b m->(oO s₁.heap H).Ns b m:=fun {b m} ⟨o,es,ep,e,d,r⟩=>⟨o,es,ep,base_of e (noA e d),d,r⟩;have hKb:K.In (oO s₁.heap H):=fun b o e=>base_of (KX b o e) (by
   cases q:H b with
   |none=>rfl
   |some u=>
    have e':b=a:=hA b (by rw[q];simp);subst e';rw[hK (by rw[q];simp)] at e;cases e)
  have hM:Mod K mg (oO s₁.heap H):=⟨hKb,nsK hns,⟨mb,nsK hb,hbb⟩,let ⟨mc,h1,h2⟩:=hlim;⟨mc,nsK h1,h2⟩⟩;have e0:rK P w K mg (oO s₁.heap H) callerA [] s₁ H:=⟨rfl,hM,fun b o e=>Kw e,Nat.le_of_eq (DS _ _),trivial,fun b hb=>absurd (show b∈([]:List Addr) from hb) (by simp),av,.of_eq hg⟩;refine oa ((F _ hKb (nsK hns)).run callerA [] s₁ H ⟨[.ref a],[]⟩ [.ref a] [.ref a] _ _ hr e0 (hbind s₁ (.ref a)) (.cons rfl .nil) (hsp H hO hS)) fun r s' h=>?_;cases r with
  |error e=>exact (hCX H e s' h).elim
  |ok fl=>
   cases fl with
   |next=>exact False.elim h
   |brk=>exact False.elim h
   |cont=>exact False.elim h
   |ret u=>
    obtain⟨v,H',os,bare,un,hok',r',q⟩:=h;have q':v=.bl true:=q;subst q';obtain rfl:u=Value.bool true:=r';refine⟨rfl,OldK.of_keep fun b o e=>?_,os,bare⟩;cases q:H b with
    |none=>exact un.keep b o e q (by intro z;exact absurd (show b∈([]:List Addr) from z) (by simp)) (by simp)
    |some u=>
     rcases hO b with z|⟨ob,xs,z⟩
     .rw[q] at z;cases z
     .have z2:=un.fP b ob _ z;obtain⟨e1,_⟩:=av b _ z;obtain⟨e2,_⟩:=hok' b _ z2;rw[e] at e1;cases e1;exact e2
 cases hk:K.lookup a with
 |some o=>
  have e:=KX a o hk;rw[ha] at e;cases e;refine core (fun _=>none) (fun _=>.inl rfl) (.inr ⟨_,vs.toArray,_,hk,rfl,rfl,rfl,by rw[cR,lenV];exact hl,by simpa using rv⟩) (fun b u z=>by have z':(none:Option HO)=some u:=z;cases z') (fun b z=>absurd rfl z) fun z=>absurd rfl z
 |none=>
  refine core (fun b=>if b=a then some (.bR {cls:=.type "list",data:=.seq vs.toArray} (.lst (ns.map V.int))) else none) (fun b=>?_) (.inl (.inr ⟨{cls:=.type "list",data:=.seq vs.toArray},if_pos rfl⟩)) (fun b u z=>?_) (fun b z=>?_) fun _=>hk
  .by_cases hb:b=a
   .exact .inr ⟨_,_,if_pos hb⟩
   .exact .inl (if_neg hb)
  .by_cases hb:b=a
   .have z':=(if_pos hb).symm.trans z;cases z';subst hb;exact⟨ha,by rw[j3];exact hl,vs,_,rv,ha⟩
   .have z':=(if_neg hb).symm.trans z;cases z'
  .by_cases hb:b=a
   .exact hb
   .exact absurd (if_neg hb) z
theorem JN{l:W.OpenLaw}{n k:Nat}{q:Program}{loose:List Str}{XP:(Str->Option Value)->Heap->Prop}{YP:World->Heap->Prop}{d:DefRec}{K:Params->W.Frag}{CX:World->iH}{sp:World->Sp}{x:Str}
  (hn:l.most=some n) (hn2:n<=sizeLine) (hdf:d.params.defaults=[]) (hr:bZ k callerA)
  (hY:∀(w:World)(h:Heap),YP w h->(K w.params).In h)
  (F:∀(w:World)(mg:Str->Option Value)(fa:Addr)(h:Heap),(K w.params).In h->h.Ns mainGlobals mg->mg d.name=some (.ref fa)->
   ∃fd:FuncData,(∀(s:Shared)(u:Value),BindsTo s fd ⟨[u],[]⟩ [(x,u)])/\
    ∀base:Heap,(K w.params).In base->base.Ns mainGlobals mg->cv l.prog w (K w.params) mg base (CX w) k fa fd [x] (sp w))
  (hsp:∀(w:World)(H:Hp)(a:Addr)(ns:List Int),ns.length<=n->E2 H->bJ (K w.params) H a (ns.map V.int)->sp w [.ref a] H (fun v _=>v=.bl true) fun _ _ _=>False)
  (hCX:∀(w:World)(H:Hp)(s:Shared)(e:Value)(s':Shared),CX w [] H s (fun _ _ _=>False) e s'->False):
  W.WalkO q loose XP YP l.row.toRowW d [] (fun f vs=>PySem.call f vs):=by
 refine Att.zf hn hdf fun w aR s₁ mg mb fa o pm cd doc a vs ns G Y ho hd hcd hmg hobj hints hlen hg=>?_;have KX:=hY w _ Y;obtain⟨fd,hb,hF⟩:=F w mg fa _ KX G.T.g hmg;exact GP KX G.T.g G.T.b G.T.builtins G.T.nolimit hg hobj hints (cS hlen hn2) hr hF hb (fun H hO hS=>hsp w H a ns hlen hO hS) fun H e s'=>hCX w H s₁ e s'
def dr(s:Stmt):Arguments:=match s with
 |.FunctionDef _ a _ _ _ _ _ _ _ _=>a
 |_=>{posonlyargs:=[],args:=[],vararg:=none,kwonlyargs:=[],kw_defaults:=[],kwarg:=none,defaults:=[]}
def cg(s:Stmt):List Stmt:=match s with
 |.FunctionDef _ _ b _ _ _ _ _ _ _=>b
 |_=>[]
def ao(s:Stmt):Scope:=match s with
 |.FunctionDef _ _ _ _ _ _ sc _ _ _=>sc
 |_=>{kind:=.function,names:=[],isGenerator:=false,isCoroutine:=false}
noncomputable abbrev E0:XK:=fun _ _ _=>False
structure t7(K:W.Frag)(x qual:Str)(st:Stmt)(f:Addr)(fd:FuncData):Prop where
 ex:∃(oc:Value) (od:Option Addr) (kV doc pm:Value) (an:Option Addr) (cdv ct:Value) (osl:Array (Option Value)),
  fd=W.fnOf x qual (dr st) (cg st) (ao st) .none kV doc pm an cdv ct/\K.lookup f=some ⟨oc,od,.func fd,osl⟩/\W.codeIn K cdv qual=true
 kp:W.keepIn K (.ref f)=true
section
variable {P:Program}{w:World}{K:W.Frag}{mg:Str->Option Value}{base:Heap}
theorem pE{x qual:Str}{st:Stmt}{f:Addr}{oc:Value}{od an:Option Addr}{osl:Array (Option Value)}{kV doc pm cdv ct:Value}(l:K.lookup f=some ⟨oc,od,.func (W.fnOf x qual (dr st) (cg st) (ao st) .none kV doc pm an cdv ct),osl⟩)
  (c:W.codeIn K cdv qual=true) (k:W.keepIn K (.ref f)=true):t7 K x qual st f (W.fnOf x qual (dr st) (cg st) (ao st) .none kV doc pm an cdv ct):=⟨⟨oc,od,kV,doc,pm,an,cdv,ct,osl,rfl,l,c⟩,k⟩
end
section
variable {X:Cx}
theorem Ey:eI X (.builtin "len") (fun xs H Q=>∃a kvs,xs=[V.ref a]/\H a=some (.dK kvs)/\Q (.int kvs.length) H):=by intro pins s σ H xs us Q I r h;obtain⟨a,kvs,rfl,ha,q⟩:=h;obtain⟨u,rfl,ru⟩:=vals1 r;cases ru;exact Qe I (.inl ha) fun t s' I'=>⟨.int kvs.length,H,I',⟨t,rfl⟩,q⟩
end
def AJ(H H':Hp):Prop:=∀b o,H b=some o->H' b=some o
theorem AJ.trans{H H1 H2:Hp}(a:AJ H H1)(b:AJ H1 H2):AJ H H2:=fun c o h=>b c o (a c o h)
section
variable {κ:Type} [DecidableEq κ]
end
end L2
namespace Tw
noncomputable abbrev S:=List Nat
inductive W where
 |aq|bl (b:Bool)|int (i:Int)|str (x:S)|tup (xs:List W)|ref (a:Nat)
 |lst (xs:List W)
inductive O where
 |lst (xs:List W)
 |bR (xs:List W)
 |aj (kvs:List (W×W))
 |ins (c:S) (fs:List (S×W))
 |au (c:S) (fs:List (S×W))
noncomputable abbrev Hp:=List O
inductive R(α:Type) where
 |ok (a:α) (h:Hp)
 |au (a:Nat) (h:Hp)
 |bad
namespace R
def bind{α β:Type}(m:R α)(k:α->Hp->R β):R β:=match m with
 |.ok a h=>k a h
 |.au a h=>.au a h
 |.bad=>.bad
@[simp] theorem ak{α β:Type}(a:α)(h:Hp)(k:α->Hp->R β):(R.ok a h).bind k=k a h:=rfl
@[simp] theorem rL{α β:Type}(a:Nat)(h:Hp)(k:α->Hp->R β):(R.au a h).bind k=.au a h:=rfl
@[simp] theorem TQ{α β:Type}(k:α->Hp->R β):(R.bad:R α).bind k=.bad:=rfl
def of{α:Type}(o:Option α)(h:Hp):R α:=match o with
 |some a=>.ok a h
 |none=>.bad
@[simp] theorem bK{α:Type}(a:α)(h:Hp):R.of (some a) h=.ok a h:=rfl
@[simp] theorem of_none{α:Type}(h:Hp):R.of (none:Option α) h=.bad:=rfl
end R
def SZ:Nat:=2 ^ 24
mutual
noncomputable def bD:W->W->Bool
 |.aq,.aq=>true
 |.bl a,.bl b=>decide (a=b)
 |.int a,.int b=>decide (a=b)
 |.bl a,.int b=>decide ((if a then 1 else 0)=b)
 |.int a,.bl b=>decide (a=(if b then 1 else 0))
 |.str a,.str b=>decide (a=b)
 |.tup xs,.tup ys=>nZ xs ys
 |.lst xs,.lst ys=>nZ xs ys
 |_,_=>false
@[simp] noncomputable def nZ:List W->List W->Bool
 |[],[]=>true
 |x::xs,y::ys=>bD x y&&nZ xs ys
 |_,_=>false
end
@[simp] theorem OY:bD .aq .aq=true:=rfl
@[simp] theorem PV(b2:Bool):bD .aq (.bl b2)=false:=rfl
@[simp] theorem OS(i2:Int):bD .aq (.int i2)=false:=rfl
@[simp] theorem Pa(x2:S):bD .aq (.str x2)=false:=rfl
@[simp] theorem O0(t2:List W):bD .aq (.tup t2)=false:=rfl
@[simp] theorem O6(l2:List W):bD .aq (.lst l2)=false:=rfl
@[simp] theorem Po(b1:Bool):bD (.bl b1) .aq=false:=rfl
@[simp] theorem QO(b1:Bool)(b2:Bool):bD (.bl b1) (.bl b2)=decide (b1=b2):=rfl
@[simp] theorem Qr(b1:Bool)(i2:Int):bD (.bl b1) (.int i2)=decide ((if b1 then 1 else 0)=i2):=rfl
@[simp] theorem Qf(b1:Bool)(x2:S):bD (.bl b1) (.str x2)=false:=rfl
@[simp] theorem PZ(b1:Bool)(t2:List W):bD (.bl b1) (.tup t2)=false:=rfl
@[simp] theorem PL(b1:Bool)(l2:List W):bD (.bl b1) (.lst l2)=false:=rfl
@[simp] theorem OW(i1:Int):bD (.int i1) .aq=false:=rfl
@[simp] theorem Qg(i1:Int)(b2:Bool):bD (.int i1) (.bl b2)=decide (i1=(if b2 then 1 else 0)):=rfl
@[simp] theorem OR(i1:Int)(i2:Int):bD (.int i1) (.int i2)=decide (i1=i2):=rfl
@[simp] theorem OU(i1:Int)(x2:S):bD (.int i1) (.str x2)=false:=rfl
@[simp] theorem OQ(i1:Int)(t2:List W):bD (.int i1) (.tup t2)=false:=rfl
@[simp] theorem O1(i1:Int)(l2:List W):bD (.int i1) (.lst l2)=false:=rfl
@[simp] theorem O3(x1:S):bD (.str x1) .aq=false:=rfl
@[simp] theorem Pt(x1:S)(b2:Bool):bD (.str x1) (.bl b2)=false:=rfl
@[simp] theorem OT(x1:S)(i2:Int):bD (.str x1) (.int i2)=false:=rfl
@[simp] theorem mZ(x1:S)(x2:S):bD (.str x1) (.str x2)=decide (x1=x2):=rfl
@[simp] theorem Pb(x1:S)(t2:List W):bD (.str x1) (.tup t2)=false:=rfl
@[simp] theorem OV(x1:S)(l2:List W):bD (.str x1) (.lst l2)=false:=rfl
@[simp] theorem O5(t1:List W):bD (.tup t1) .aq=false:=rfl
@[simp] theorem Qw(t1:List W)(b2:Bool):bD (.tup t1) (.bl b2)=false:=rfl
@[simp] theorem O8(t1:List W)(i2:Int):bD (.tup t1) (.int i2)=false:=rfl
@[simp] theorem O9(t1:List W)(x2:S):bD (.tup t1) (.str x2)=false:=rfl
@[simp] theorem y6(t1:List W)(t2:List W):bD (.tup t1) (.tup t2)=nZ t1 t2:=rfl
@[simp] theorem O2(t1:List W)(l2:List W):bD (.tup t1) (.lst l2)=false:=rfl
@[simp] theorem O4(l1:List W):bD (.lst l1) .aq=false:=rfl
@[simp] theorem P4(l1:List W)(b2:Bool):bD (.lst l1) (.bl b2)=false:=rfl
@[simp] theorem OP(l1:List W)(i2:Int):bD (.lst l1) (.int i2)=false:=rfl
@[simp] theorem O7(l1:List W)(x2:S):bD (.lst l1) (.str x2)=false:=rfl
@[simp] theorem OX(l1:List W)(t2:List W):bD (.lst l1) (.tup t2)=false:=rfl
@[simp] theorem zh(l1:List W)(l2:List W):bD (.lst l1) (.lst l2)=nZ l1 l2:=rfl
mutual
noncomputable def W.deep:W->Nat
 |.tup xs=>cV xs+1
 |.lst xs=>cV xs+1
 |_=>0
noncomputable def cV:List W->Nat
 |[]=>0
 |x::xs=>max x.deep (cV xs)
end
mutual
@[simp] noncomputable def rd(h:Hp):Nat->W->Option W
 |_,.aq=>some .aq
 |_,.bl b=>some (.bl b)
 |_,.int i=>some (.int i)
 |_,.str x=>some (.str x)
 |0,_=>none
 |n+1,.tup xs=>(i5 h n xs).map .tup
 |n+1,.ref a=>match h[a]? with
  |some (.lst xs)=>(i5 h n xs).map .lst
  |some (.bR xs)=>(i5 h n xs).map .lst
  |_=>none
 |_+1,.lst _=>none
@[simp] noncomputable def i5(h:Hp):Nat->List W->Option (List W)
 |_,[]=>some []
 |n,x::xs=>match rd h n x,i5 h n xs with
  |some d,some ds=>some (d::ds)
  |_,_=>none
end
@[simp] noncomputable def isKey:W->Bool
 |.int _=>true
 |.str _=>true
 |_=>false
@[simp] noncomputable def qE:W->W->Bool
 |.int a,.int b=>a== b
 |.str a,.str b=>a== b
 |_,_=>false
@[simp] def c9(k:W):List (W×W)->Option W
 |[]=>none
 |(j,v)::r=>if qE j k then some v else c9 k r
@[simp] def dput(k v:W):List (W×W)->List (W×W)
 |[]=>[(k,v)]
 |(j,u)::r=>if qE j k then (j,v)::r else (j,u)::dput k v r
def bC(h:Hp):W->Option (List (W×W))
 |.ref a=>match h[a]? with
  |some (.aj kvs)=>some kvs
  |_=>none
 |_=>none
def bX(h:Hp)(x y:W):Option Bool:=match bC h x,bC h y with
 |some _,some _=>none
 |none,none=>match rd h 60 x,rd h 60 y with
  |some a,some b=>some (bD a b)
  |_,_=>none
 |_,_=>none
@[simp] theorem Ue(h:Hp)(a b:Int):bX h (.int a) (.int b)=some (decide (a=b)):=by simp[bX,bC,rd,bD]
@[simp] theorem Uj(h:Hp)(a b:S):bX h (.str a) (.str b)=some (decide (a=b)):=by simp[bX,bC,rd,bD]
inductive Op|add|sub|mul|fdiv|mod|pow
 deriving DecidableEq
inductive Cp|eq|ne|lt|le|gt|ge|isin|notin|isN|notN
 deriving DecidableEq
inductive Ty|list|tuple|dict|int|str|bool
 deriving DecidableEq
inductive B|len|list|tuple|dict|int|listE|listR|dictP|listS
 deriving DecidableEq
inductive Mt|append|get|join|index|pop|rev
 deriving DecidableEq
set_option genInjectivity false
set_option genSizeOfSpec false
mutual
inductive E where
 |var (i:Nat)
 |cst (w:W)
 |tup (es:Es)
 |lst (es:Es)
 |aj (es:Es)
 |bin (op:Op) (a b:E)
 |cmp (op:Cp) (a b:E)
 |and (a b:E)
 |or (a b:E)
 |not (a:E)
 |ite (c a b:E)
 |idx (a b:E)
 |sl (a:E) (lo hi:Eo)
 |call (f:Nat) (es:Es)
 |blt (b:B) (a:E)
 |ji (m:Mt) (o:E) (es:Es)
 |wF (a:E) (t:Ty)
 |comp (elt:E) (it:It) (c:Eo)
 |ij (elt:E) (it:It)
 |bad
 |fld (a:E) (x:S)
 |mk (c:S) (f:Nat) (es:Es)
 |own (o:E) (c m:S) (f:Nat) (es:Es)
 |sA (g:List (S×Nat)) (k:E) (es:Es)
 |Ab (k:E) (g:List S)
 |i4 (a:E) (ns ds cs:List S)
 |rm (a:E) (x:S) (ds:List S)
inductive Es where
 |nil
 |cons (e:E) (es:Es)
inductive Eo where
 |none
 |some (e:E)
inductive It where
 |seq (e:E)
 |kj (e:E)
 |Cb (a b:E)
 |zip (a b:E)
 |enum (e:E)
 |rev (e:E)
end
inductive Tg where
 |var (i:Nat)
 |two (i j:Nat)
inductive Hs where
 |ret (e:E)
 |AQ (c e:E)
abbrev Hd:=S×List S×Nat×List Hs
inductive Tb where
 |call (o:E) (c m:S) (f:Nat) (es:Es) (u:Option W)
 |ret (e:E)
inductive St where
 |expr (e:E)
 |ret (e:E)
 |CC
 |set (i:Nat) (e:E)
 |put (o k e:E)
 |iff (c:E) (a b:List St)
 |for (t:Tg) (it:It) (b:List St)
 |pass
 |brk
 |cont
 |bad
 |kO (i j:Nat) (e:E)
 |gm (o:E) (x:S) (e:E)
 |aug (i:Nat) (op:Op) (e:E)
 |Dj (c:E) (b:List St)
 |raise (c:S) (xs:List S) (es:Es)
 |se (b:List Tb) (hs:List Hd)
set_option genInjectivity true
set_option genSizeOfSpec true
noncomputable abbrev Env:=List (Option W)
@[simp] def truth(h:Hp):W->Option Bool
 |.aq=>some false
 |.bl b=>some b
 |.int i=>some (i != 0)
 |.str x=>if x.length<=SZ then some (!x.isEmpty) else none
 |.tup xs=>some (!xs.isEmpty)
 |.lst _=>none
 |.ref a=>match h[a]? with
  |some (.lst xs)=>some (!xs.isEmpty)
  |some (.bR xs)=>some (!xs.isEmpty)
  |some (.aj kvs)=>some (!kvs.isEmpty)
  |_=>none
@[simp] def items(h:Hp):W->Option (List W)
 |.ref a=>match h[a]? with
  |some (.lst xs)=>some xs
  |some (.bR xs)=>some xs
  |_=>none
 |_=>none
@[simp] def BD(h:Hp):W->Option (List W)
 |.tup xs=>some xs
 |w=>items h w
@[simp] def new(o:O)(h:Hp):R W:=.ok (.ref h.length) (h++[o])
noncomputable def eD(xs:List W)(h:Hp):R W:=if xs.length<=SZ then new (.lst xs) h else .bad
noncomputable def small(i:Int):Bool:=decide (-(2 ^ 64)<i)&&decide (i<2 ^ 64)
@[simp] def binI(op:Op)(i j:Int):Option Int:=match op with
 |.add=>some (i+j)
 |.sub=>some (i-j)
 |.mul=>if small i || small j then some (i * j) else none
 |.fdiv=>if 0<j/\j<1073741824 then some (i / j) else none
 |.mod=>if 0<j then some (i % j) else none
 |.pow=>if 0<=j/\j<=1000000/\i.natAbs<2 ^ 64 then some (i ^ j.toNat) else none
@[simp] def bin(op:Op)(x y:W)(h:Hp):R W:=match x,y with
 |.int i,.int j=>R.of ((binI op i j).map .int) h
 |.str a,.str b=>if op=.add/\a.length+b.length<=SZ then .ok (.str (a++b)) h else .bad
 |.tup a,.tup b=>if op=.add/\a.length+b.length<=SZ then .ok (.tup (a++b)) h else .bad
 |.tup a,.int k=>if op=.mul/\1<=k/\k<=100/\a≠ []/\a.length<=100 then .ok (.tup (List.replicate k.toNat a).flatten) h else .bad
 |.ref a,.ref b=>match h[a]?,h[b]? with
  |some (.lst xs),some (.lst ys)=>if op=.add/\xs.length+ys.length<=SZ then new (.lst (xs++ys)) h else .bad
  |_,_=>.bad
 |_,_=>.bad
@[simp] noncomputable def flat:W->Bool
 |.aq=>true
 |.bl _=>true
 |.int _=>true
 |.str _=>true
 |_=>false
def isIn(x y:W)(h:Hp):Option Bool:=match bC h y with
 |some kvs=>if isKey x then some (c9 x kvs).isSome else none
 |none=>match BD h y with
  |some xs=>if flat x&&xs.all flat then some (xs.any fun z=>bD z x) else none
  |none=>none
@[simp] def cmp(op:Cp)(x y:W)(h:Hp):Option Bool:=match op with
 |.eq=>bX h x y
 |.ne=>(bX h x y).map (!·)
 |.lt=>match x,y with | .int i,.int j=>some (decide (i<j))|_,_=>none
 |.le=>match x,y with | .int i,.int j=>some (decide (i<=j))|_,_=>none
 |.gt=>match x,y with | .int i,.int j=>some (decide (j<i))|_,_=>none
 |.ge=>match x,y with | .int i,.int j=>some (decide (j<=i))|_,_=>none
 |.isin=>isIn x y h
 |.notin=>(isIn x y h).map (!·)
 |.isN=>match y with | .aq=>some (match x with | .aq=>true|_=>false)|_=>none
 |.notN=>match y with | .aq=>some (match x with | .aq=>false|_=>true)|_=>none
noncomputable def iX(n:Nat)(i:Int):Option Nat:=if 0<=i then (if i<n then some i.toNat else none) else if -(n:Int)<=i then some (i+n).toNat else none
def cH{α:Type}(xs:List α)(i:Int):Option α:=(iX xs.length i).bind fun j=>xs[j]?
@[simp] def idx(x y:W)(h:Hp):R W:=match x,y with
 |.tup xs,.int i=>R.of (cH xs i) h
 |.str z,.int i=>if z.length<=SZ then R.of ((cH z i).map fun c=>.str [c]) h else .bad
 |.ref a,y=>match h[a]?,y with
  |some (.lst xs),.int i=>R.of (cH xs i) h
  |some (.bR xs),.int i=>R.of (cH xs i) h
  |some (.aj kvs),k=>if isKey k then R.of (c9 k kvs) h else .bad
  |_,_=>.bad
 |_,_=>.bad
def aV(n d:Nat):Option Int->Nat
 |none=>d
 |some v=>if v<0 then (v+n).toNat else min v.toNat n
noncomputable def cut{α:Type}(xs:List α)(lo hi:Option Int):List α:=(xs.drop (aV xs.length 0 lo)).take (aV xs.length xs.length hi-aV xs.length 0 lo)
@[simp] noncomputable def iY:Option W->Option (Option Int)
 |none=>some none
 |some (.int i)=>some (some i)
 |_=>none
@[simp] def slice(x:W)(lo hi:Option W)(h:Hp):R W:=match iY lo,iY hi with
 |some l,some u=>match x with
  |.tup xs=>if aV xs.length 0 l=0/\aV xs.length xs.length u=xs.length then .bad else .ok (.tup (cut xs l u)) h
  |.str z=>if z.length<=SZ then .ok (.str (cut z l u)) h else .bad
  |.ref a=>match h[a]? with
   |some (.lst xs)=>new (.lst (cut xs l u)) h
   |some (.bR xs)=>new (.lst (cut xs l u)) h
   |_=>.bad
  |_=>.bad
 |_,_=>.bad
@[simp] def gF(i:Int):List W->List W
 |[]=>[]
 |x::r=>.tup [.int i,x]::gF (i+1) r
def hV(x:W):List W->Option Nat
 |[]=>none
 |y::r=>if qE y x then some 0 else (hV x r).map (·+ 1)
@[simp] def sE(acc:List (W×W)):List W->Option (List (W×W))
 |[]=>some acc
 |.tup [k,v]::r=>if isKey k then sE (dput k v acc) r else none
 |_::_=>none
@[simp] def builtin(b:B)(x:W)(h:Hp):R W:=match b with
 |.len=>match x with
  |.str z=>if z.length<=SZ then .ok (.int z.length) h else .bad
  |.tup xs=>.ok (.int xs.length) h
  |.ref a=>match h[a]? with
   |some (.lst xs)=>.ok (.int xs.length) h
   |some (.bR xs)=>.ok (.int xs.length) h
   |some (.aj kvs)=>.ok (.int kvs.length) h
   |_=>.bad
  |_=>.bad
 |.list=>match x with
  |.tup xs=>new (.lst xs) h
  |.ref a=>match h[a]? with
   |some (.lst xs)=>new (.lst xs) h
   |some (.bR xs)=>new (.lst xs) h
   |some (.aj kvs)=>new (.lst (kvs.map (·.1))) h
   |_=>.bad
  |_=>.bad
 |.tuple=>match x with
  |.tup xs=>.ok (.tup xs) h
  |.ref a=>match h[a]? with
   |some (.lst xs)=>.ok (.tup xs) h
   |some (.bR xs)=>.ok (.tup xs) h
   |_=>.bad
  |_=>.bad
 |.dict=>match x with
  |.ref a=>match h[a]? with
   |some (.aj kvs)=>new (.aj kvs) h
   |_=>.bad
  |_=>.bad
 |.int=>match x with
  |.int i=>.ok (.int i) h
  |.bl b=>.ok (.int (if b then 1 else 0)) h
  |_=>.bad
 |.listE=>match x with
  |.tup xs=>new (.lst (gF 0 xs)) h
  |_=>.bad
 |.listR=>match x with
  |.ref a=>match h[a]? with
   |some (.lst xs)=>new (.lst xs.reverse) h
   |_=>.bad
  |_=>.bad
 |.dictP=>match x with
  |.ref a=>match h[a]? with
   |some (.lst xs)=>if xs.length<=1000 then (match sE [] xs with
    |some kvs=>new (.aj kvs) h
    |none=>.bad) else .bad
   |_=>.bad
  |_=>.bad
 |.listS=>match x with
  |.str z=>if z.length<=1000/\z.all (fun c=>decide (c<128))=true then new (.lst (z.map fun c=>.str [c])) h else .bad
  |_=>.bad
@[simp] noncomputable def texts:List W->Option (List S)
 |[]=>some []
 |.str x::r=>(texts r).map (x:: ·)
 |_::_=>none
@[simp] def gP(sep:S):List S->S
 |[]=>[]
 |[x]=>x
 |x::r=>x++sep++gP sep r
@[simp] def method(m:Mt)(o:W)(xs:List W)(h:Hp):R W:=match m,o,xs with
 |.append,.ref a,[x]=>match h[a]? with
  |some (.lst ys)=>if ys.length<SZ then .ok .aq (h.set a (.lst (ys++[x]))) else .bad
  |_=>.bad
 |.index,.ref a,[x]=>match h[a]? with
  |some (.lst ys)=>if isKey x&&ys.all isKey then R.of ((hV x ys).map fun n=>.int (n:Int)) h else .bad
  |_=>.bad
 |.pop,.ref a,[]=>match h[a]? with
  |some (.lst ys)=>match ys.getLast? with
   |some y=>.ok y (h.set a (.lst ys.dropLast))
   |none=>.bad
  |_=>.bad
 |.rev,.ref a,[]=>match h[a]? with
  |some (.lst ys)=>.ok .aq (h.set a (.lst ys.reverse))
  |_=>.bad
 |.get,.ref a,[k]=>match h[a]? with
  |some (.aj kvs)=>if isKey k then .ok ((c9 k kvs).getD .aq) h else .bad
  |_=>.bad
 |.get,.ref a,[k,d]=>match h[a]? with
  |some (.aj kvs)=>if isKey k then .ok ((c9 k kvs).getD d) h else .bad
  |_=>.bad
 |.join,.str sep,[x]=>match items h x with
  |some ys=>match texts ys with
   |some ts=>if (ts.map (·.length)).sum+ts.length * sep.length<=SZ then .ok (.str (gP sep ts)) h else .bad
   |none=>.bad
  |none=>.bad
 |_,_,_=>.bad
@[simp] def i6(m:Mt)(x:W)(h:Hp):Bool:=match m,x with
 |.append,.ref a=>match h[a]? with
  |some (.lst _)=>true
  |_=>false
 |.index,.ref a=>match h[a]? with
  |some (.lst _)=>true
  |_=>false
 |.pop,.ref a=>match h[a]? with
  |some (.lst _)=>true
  |_=>false
 |.rev,.ref a=>match h[a]? with
  |some (.lst _)=>true
  |_=>false
 |.get,.ref a=>match h[a]? with
  |some (.aj _)=>true
  |_=>false
 |.join,.str _=>true
 |_,_=>false
@[simp] def wF(x:W)(t:Ty)(h:Hp):Option Bool:=match x,t with
 |.bl _,.bool=>some true
 |.int _,.int=>some true
 |.str _,.str=>some true
 |.tup _,.tuple=>some true
 |.ref a,t=>match h[a]?,t with
  |some (.lst _),.list=>some true
  |some (.aj _),.dict=>some true
  |_,_=>none
 |_,_=>none
@[simp] def lh(o k v:W)(h:Hp):R Unit:=match o with
 |.ref a=>match h[a]?,k with
  |some (.lst xs),.int i=>match iX xs.length i with
   |some j=>.ok () (h.set a (.lst (xs.set j v)))
   |none=>.bad
  |some (.aj kvs),k=>if isKey k/\kvs.length<SZ then .ok () (h.set a (.aj (dput k v kvs))) else .bad
  |_,_=>.bad
 |_=>.bad
@[simp] noncomputable def wA:List W->List (W×W)->Option (List (W×W))
 |[],acc=>some acc
 |k::v::r,acc=>if isKey k then wA r (dput k v acc) else none
 |[_],_=>none
def upTo(lo:Int):Nat->List W
 |0=>[]
 |n+1=>.int lo::upTo (lo+1) n
@[simp] noncomputable def pC:List W->List W->List W
 |x::xs,y::ys=>.tup [x,y]::pC xs ys
 |_,_=>[]
abbrev Or:=Nat->List W->Hp->R W
inductive Fl where
 |next (σ:Env)|ret (w:W)|brk (σ:Env)|cont (σ:Env)
inductive Src where
 |fix (xs:List W)
 |at (a:Nat) (n:Nat)
 |rv (a:Nat) (n:Nat)
 |ea (a:Nat) (n:Nat)
def R.gS{α:Type}(m:R α):R α:=match m with
 |.au _ _=>.bad
 |m=>m
@[simp] theorem R.gw{α:Type}(a:α)(h:Hp):(R.ok a h).gS=.ok a h:=rfl
@[simp] theorem R.Uk{α:Type}:(R.bad:R α).gS=.bad:=rfl
@[simp] theorem R.Uh{α:Type}(a:Nat)(h:Hp):(R.au a h:R α).gS=.bad:=rfl
def bg(h:Hp)(a:Nat):Option (List W):=match h[a]? with
 |some (.lst xs)=>some xs
 |some (.bR xs)=>some xs
 |_=>none
@[simp] noncomputable def ig(k:W->List W->Hp->R (List W)):List W->List W->Hp->R (List W)
 |[],acc,h=>.ok acc h
 |x::xs,acc,h=>(k x acc h).bind fun acc h=>ig k xs acc h
noncomputable def cW(a:Nat)(k:W->List W->Hp->R (List W)):Nat->Nat->List W->Hp->R (List W)
 |n,i,acc,h=>match bg h a with
  |none=>.bad
  |some ys=>match ys[i]? with
   |none=>.ok acc h
   |some x=>match n with
    |0=>.bad
    |n+1=>(k x acc h).bind fun acc h=>cW a k n (i+1) acc h
noncomputable def cF(a:Nat)(k:W->List W->Hp->R (List W)):Nat->Nat->List W->Hp->R (List W)
 |n,i,acc,h=>match bg h a with
  |none=>.bad
  |some ys=>match ys[i]? with
   |none=>.ok acc h
   |some x=>match n with
    |0=>.bad
    |n+1=>(k (.tup [.int i,x]) acc h).bind fun acc h=>cF a k n (i+1) acc h
@[simp] def walk(s:Src)(k:W->List W->Hp->R (List W))(h:Hp):R (List W):=match s with
 |.fix xs=>ig k xs [] h
 |.at a n=>cW a k n 0 [] h
 |.rv _ _=>.bad
 |.ea a n=>cF a k n 0 [] h
noncomputable def fW(j:Int):Bool:=decide (-(2 ^ 62)<=j)&&decide (j<2 ^ 62)
@[simp] def src(h:Hp):W->Option Src
 |.tup xs=>some (.fix xs)
 |.ref a=>match h[a]? with
  |some (.lst xs)=>some (.at a xs.length)
  |some (.bR xs)=>some (.at a xs.length)
  |_=>none
 |_=>none
@[simp] def tj(h:Hp):Option W->Option Bool
 |none=>some true
 |some t=>truth h t
noncomputable def jM(c:Env->Hp->R (Option W))(elt:Env->Hp->R W)(σ:Env)(x:W)(acc:List W)(h:Hp):R (List W):=
 (c (σ++[some x]) h).gS.bind fun t h=>match tj h t with
  |none=>.bad
  |some true=>(elt (σ++[some x]) h).gS.bind fun y h=>.ok (acc++[y]) h
  |some false=>.ok acc h
noncomputable def fE(elt:Env->Hp->R W)(σ:Env)(x:W)(acc:List W)(h:Hp):R (List W):=match x with
 |.tup [u,v]=>(elt (σ++[some u,some v]) h).gS.bind fun y h=>.ok (acc++[y]) h
 |_=>.bad
@[simp] def field(w:W)(x:S)(h:Hp):Option W:=match w with
 |.ref a=>match h[a]? with
  |some (.ins _ fs)=>fs.lookup x
  |_=>none
 |_=>none
@[simp] noncomputable def lq(w:W)(x:S)(ds:List S)(h:Hp):Option W:=match w with
 |.ref a=>match h[a]? with
  |some (.au c fs)=>if ds.contains c then fs.lookup x else none
  |_=>none
 |_=>none
@[simp] def pQ(w:W)(ds cs:List S)(h:Hp):Option Bool:=match w with
 |.ref a=>match h[a]? with
  |some (.au c _)=>if ds.contains c then some (cs.contains c) else none
  |_=>none
 |_=>none
def fX(x:S)(v:W):List (S×W)->List (S×W)
 |[]=>[(x,v)]
 |(y,u)::r=>if y=x then (y,v)::r else (y,u)::fX x v r
@[simp] def putField(w:W)(x:S)(v:W)(h:Hp):R Unit:=match w with
 |.ref a=>match h[a]? with
  |some (.ins c fs)=>if fs.length<1000 then .ok () (h.set a (.ins c (fX x v fs))) else .bad
  |_=>.bad
 |_=>.bad
@[simp] def eW(w:W)(c m:S)(h:Hp):Bool:=match w with
 |.ref a=>match h[a]? with
  |some (.ins c' fs)=>decide (c'=c)&&(fs.lookup m).isNone
  |_=>false
 |_=>false
@[simp] def pick(g:List (S×Nat)):W->Option Nat
 |.str s=>g.lookup s
 |_=>none
mutual
noncomputable def ag(C:Or):E->Env->Hp->R W
 |.var i,σ,h=>match σ[i]? with
  |some (some w)=>.ok w h
  |_=>.bad
 |.cst w,_,h=>.ok w h
 |.tup es,σ,h=>(cw C es σ h).bind fun xs h=>.ok (.tup xs) h
 |.lst es,σ,h=>(cw C es σ h).bind fun xs h=>new (.lst xs) h
 |.aj es,σ,h=>(cw C es σ h).bind fun xs h=>match wA xs [] with
  |some kvs=>new (.aj kvs) h
  |none=>.bad
 |.bin op a b,σ,h=>(ag C a σ h).bind fun x h=>(ag C b σ h).bind fun y h=>bin op x y h
 |.cmp op a b,σ,h=>(ag C a σ h).bind fun x h=>(ag C b σ h).bind fun y h=>R.of ((cmp op x y h).map .bl) h
 |.and a b,σ,h=>(ag C a σ h).bind fun x h=>match x with
  |.bl true=>ag C b σ h
  |.bl false=>.ok (.bl false) h
  |_=>.bad
 |.or a b,σ,h=>(ag C a σ h).bind fun x h=>match x with
  |.bl false=>ag C b σ h
  |.bl true=>.ok (.bl true) h
  |_=>.bad
 |.not a,σ,h=>(ag C a σ h).bind fun x h=>R.of ((truth h x).map fun b=>.bl (!b)) h
 |.ite c a b,σ,h=>(ag C c σ h).bind fun x h=>match truth h x with
  |some true=>ag C a σ h
  |some false=>ag C b σ h
  |none=>.bad
 |.idx a b,σ,h=>(ag C a σ h).bind fun x h=>(ag C b σ h).bind fun y h=>idx x y h
 |.sl a lo hi,σ,h=>(ag C a σ h).bind fun x h=>(iB C lo σ h).bind fun l h=>(iB C hi σ h).gS.bind fun u h=>slice x l u h
 |.call f es,σ,h=>(cw C es σ h).bind fun xs h=>C f xs h
 |.blt b a,σ,h=>(ag C a σ h).bind fun x h=>builtin b x h
 |.ji m o es,σ,h=>(ag C o σ h).bind fun x h=>if i6 m x h then (cw C es σ h).bind fun xs h=>method m x xs h else .bad
 |.wF a t,σ,h=>(ag C a σ h).bind fun x h=>R.of ((wF x t h).map .bl) h
 |.comp elt it c,σ,h=>(eE C it σ h).bind fun s h=>(walk s (jM (fun σ h=>iB C c σ h) (fun σ h=>ag C elt σ h) σ) h).bind eD
 |.ij elt it,σ,h=>(eE C it σ h).bind fun s h=>(walk s (fE (fun σ h=>ag C elt σ h) σ) h).bind eD
 |.bad,_,_=>.bad
 |.fld a x,σ,h=>(ag C a σ h).bind fun w h=>R.of (field w x h) h
 |.rm a x ds,σ,h=>(ag C a σ h).bind fun w h=>R.of (lq w x ds h) h
 |.mk c f es,σ,h=>(cw C es σ h).bind fun xs h=>(C f (.ref h.length::xs) (h++[.ins c []])).bind fun r h'=>match r with
  |.aq=>.ok (.ref h.length) h'
  |_=>.bad
 |.own o c m f es,σ,h=>(ag C o σ h).bind fun x h=>if eW x c m h then (cw C es σ h).bind fun xs h=>C f (x::xs) h else .bad
 |.sA g k es,σ,h=>(ag C k σ h).bind fun x h=>match pick g x with
  |some f=>(cw C es σ h).bind fun xs h=>C f xs h
  |none=>.bad
 |.Ab k g,σ,h=>(ag C k σ h).bind fun x h=>match x with
  |.str s=>.ok (.bl (g.contains s)) h
  |_=>.bad
 |.i4 a _ ds cs,σ,h=>(ag C a σ h).bind fun x h=>R.of ((pQ x ds cs h).map .bl) h
noncomputable def cw(C:Or):Es->Env->Hp->R (List W)
 |.nil,_,h=>.ok [] h
 |.cons e es,σ,h=>(ag C e σ h).bind fun x h=>(cw C es σ h).bind fun xs h=>.ok (x::xs) h
noncomputable def iB(C:Or):Eo->Env->Hp->R (Option W)
 |.none,_,h=>.ok none h
 |.some e,σ,h=>(ag C e σ h).bind fun x h=>.ok (some x) h
noncomputable def eE(C:Or):It->Env->Hp->R Src
 |.seq e,σ,h=>(ag C e σ h).bind fun x h=>R.of (src h x) h
 |.kj e,σ,h=>(ag C e σ h).bind fun x h=>match x with
  |.int j=>if fW j then .ok (.fix (upTo 0 j.toNat)) h else .bad
  |_=>.bad
 |.Cb a b,σ,h=>(ag C a σ h).bind fun x h=>(ag C b σ h).bind fun y h=>match x,y with
  |.int i,.int j=>if fW i&&fW j then .ok (.fix (upTo i (j-i).toNat)) h else .bad
  |_,_=>.bad
 |.zip a b,σ,h=>(ag C a σ h).bind fun x h=>(ag C b σ h).bind fun y h=>match x,y with
  |.tup xs,.tup ys=>.ok (.fix (pC xs ys)) h
  |_,_=>.bad
 |.enum e,σ,h=>(ag C e σ h).bind fun x h=>match x with
  |.tup xs=>.ok (.fix (gF 0 xs)) h
  |.ref a=>match h[a]? with
   |some (.lst xs)=>.ok (.ea a xs.length) h
   |_=>.bad
  |_=>.bad
 |.rev e,σ,h=>(ag C e σ h).bind fun x h=>match x with
  |.ref a=>match h[a]? with
   |some (.lst xs)=>.ok (.rv a xs.length) h
   |_=>.bad
  |_=>.bad
end
@[simp] theorem aW(C:Or)(i:Nat)(σ:Env)(h:Hp):ag C (.var i) σ h=(match σ[i]? with
  |some (some w)=>.ok w h
  |_=>.bad):=rfl
@[simp] theorem fH(C:Or)(w:W)(σ:Env)(h:Hp):ag C (.cst w) σ h=(.ok w h):=rfl
@[simp] theorem qB(C:Or)(es:Es)(σ:Env)(h:Hp):ag C (.tup es) σ h=((cw C es σ h).bind fun xs h=>.ok (.tup xs) h):=rfl
@[simp] theorem Ua(C:Or)(es:Es)(σ:Env)(h:Hp):ag C (.lst es) σ h=((cw C es σ h).bind fun xs h=>new (.lst xs) h):=rfl
@[simp] theorem Jh(C:Or)(es:Es)(σ:Env)(h:Hp):ag C (.aj es) σ h=((cw C es σ h).bind fun xs h=>match wA xs [] with
  |some kvs=>new (.aj kvs) h
  |none=>.bad):=rfl
@[simp] theorem KN(C:Or)(op:Op)(a:E)(b:E)(σ:Env)(h:Hp):ag C (.bin op a b) σ h=((ag C a σ h).bind fun x h=>(ag C b σ h).bind fun y h=>bin op x y h):=rfl
@[simp] theorem Am(C:Or)(op:Cp)(a:E)(b:E)(σ:Env)(h:Hp):ag C (.cmp op a b) σ h=((ag C a σ h).bind fun x h=>(ag C b σ h).bind fun y h=>R.of ((cmp op x y h).map .bl) h):=rfl
@[simp] theorem zB(C:Or)(a:E)(b:E)(σ:Env)(h:Hp):ag C (.and a b) σ h=((ag C a σ h).bind fun x h=>match x with
  |.bl true=>ag C b σ h
  |.bl false=>.ok (.bl false) h
  |_=>.bad):=rfl
@[simp] theorem Na(C:Or)(a:E)(b:E)(σ:Env)(h:Hp):ag C (.or a b) σ h=((ag C a σ h).bind fun x h=>match x with
  |.bl false=>ag C b σ h
  |.bl true=>.ok (.bl true) h
  |_=>.bad):=rfl
@[simp] theorem KI(C:Or)(a:E)(σ:Env)(h:Hp):ag C (.not a) σ h=((ag C a σ h).bind fun x h=>R.of ((truth h x).map fun b=>.bl (!b)) h):=rfl
@[simp] theorem JY(C:Or)(c:E)(a:E)(b:E)(σ:Env)(h:Hp):ag C (.ite c a b) σ h=((ag C c σ h).bind fun x h=>match truth h x with
  |some true=>ag C a σ h
  |some false=>ag C b σ h
  |none=>.bad):=rfl
@[simp] theorem uN(C:Or)(a:E)(b:E)(σ:Env)(h:Hp):ag C (.idx a b) σ h=((ag C a σ h).bind fun x h=>(ag C b σ h).bind fun y h=>idx x y h):=rfl
@[simp] theorem UY(C:Or)(a:E)(lo:Eo)(hi:Eo)(σ:Env)(h:Hp):ag C (.sl a lo hi) σ h=((ag C a σ h).bind fun x h=>(iB C lo σ h).bind fun l h=>(iB C hi σ h).gS.bind fun u h=>slice x l u h):=rfl
@[simp] theorem jB(C:Or)(f:Nat)(es:Es)(σ:Env)(h:Hp):ag C (.call f es) σ h=((cw C es σ h).bind fun xs h=>C f xs h):=rfl
@[simp] theorem qp(C:Or)(b:B)(a:E)(σ:Env)(h:Hp):ag C (.blt b a) σ h=((ag C a σ h).bind fun x h=>builtin b x h):=rfl
@[simp] theorem uO(C:Or)(m:Mt)(o:E)(es:Es)(σ:Env)(h:Hp):ag C (.ji m o es) σ h=((ag C o σ h).bind fun x h=>if i6 m x h then (cw C es σ h).bind fun xs h=>method m x xs h else .bad):=rfl
@[simp] theorem Ud(C:Or)(a:E)(t:Ty)(σ:Env)(h:Hp):ag C (.wF a t) σ h=((ag C a σ h).bind fun x h=>R.of ((wF x t h).map .bl) h):=rfl
theorem jt(C:Or)(elt:E)(it:It)(c:Eo)(σ:Env)(h:Hp):ag C (.comp elt it c) σ h=((eE C it σ h).bind fun s h=>(walk s (jM (iB C c) (ag C elt) σ) h).bind eD):=rfl
theorem iL(C:Or)(elt:E)(it:It)(σ:Env)(h:Hp):ag C (.ij elt it) σ h=((eE C it σ h).bind fun s h=>(walk s (fE (ag C elt) σ) h).bind eD):=rfl
@[simp] theorem um(C:Or)(σ:Env)(h:Hp):ag C .bad σ h=.bad:=rfl
@[simp] theorem nD(C:Or)(a:E)(x:S)(σ:Env)(h:Hp):ag C (.fld a x) σ h=((ag C a σ h).bind fun w h=>R.of (field w x h) h):=rfl
@[simp] theorem Jq(C:Or)(a:E)(x:S)(ds:List S)(σ:Env)(h:Hp):ag C (.rm a x ds) σ h=((ag C a σ h).bind fun w h=>R.of (lq w x ds h) h):=rfl
@[simp] theorem CT(C:Or)(c:S)(f:Nat)(es:Es)(σ:Env)(h:Hp):ag C (.mk c f es) σ h=((cw C es σ h).bind fun xs h=>(C f (.ref h.length::xs) (h++[.ins c []])).bind fun r h'=>match r with
  |.aq=>.ok (.ref h.length) h'
  |_=>.bad):=rfl
@[simp] theorem T9(C:Or)(o:E)(c m:S)(f:Nat)(es:Es)(σ:Env)(h:Hp):ag C (.own o c m f es) σ h=((ag C o σ h).bind fun x h=>if eW x c m h then (cw C es σ h).bind fun xs h=>C f (x::xs) h else .bad):=rfl
@[simp] theorem wR(C:Or)(g:List (S×Nat))(k:E)(es:Es)(σ:Env)(h:Hp):ag C (.sA g k es) σ h=((ag C k σ h).bind fun x h=>match pick g x with
  |some f=>(cw C es σ h).bind fun xs h=>C f xs h
  |none=>.bad):=rfl
@[simp] theorem uk(C:Or)(k:E)(g:List S)(σ:Env)(h:Hp):ag C (.Ab k g) σ h=((ag C k σ h).bind fun x h=>match x with
  |.str s=>.ok (.bl (g.contains s)) h
  |_=>.bad):=rfl
@[simp] theorem J6(C:Or)(a:E)(ns ds cs:List S)(σ:Env)(h:Hp):ag C (.i4 a ns ds cs) σ h=((ag C a σ h).bind fun x h=>R.of ((pQ x ds cs h).map .bl) h):=rfl
@[simp] theorem pN(C:Or)(e:E)(σ:Env)(h:Hp):eE C (.enum e) σ h=((ag C e σ h).bind fun x h=>match x with
  |.tup xs=>.ok (.fix (gF 0 xs)) h
  |.ref a=>match h[a]? with
   |some (.lst xs)=>.ok (.ea a xs.length) h
   |_=>.bad
  |_=>.bad):=rfl
@[simp] theorem yg(C:Or)(e:E)(σ:Env)(h:Hp):eE C (.rev e) σ h=((ag C e σ h).bind fun x h=>match x with
  |.ref a=>match h[a]? with
   |some (.lst xs)=>.ok (.rv a xs.length) h
   |_=>.bad
  |_=>.bad):=rfl
@[simp] theorem pM(C:Or)(σ:Env)(h:Hp):iB C .none σ h=(.ok none h):=rfl
@[simp] theorem vw(C:Or)(e:E)(σ:Env)(h:Hp):iB C (.some e) σ h=((ag C e σ h).bind fun x h=>.ok (some x) h):=rfl
@[simp] theorem cL(C:Or)(σ:Env)(h:Hp):cw C .nil σ h=.ok [] h:=rfl
@[simp] theorem bW(C:Or)(e:E)(es:Es)(σ:Env)(h:Hp):cw C (.cons e es) σ h=((ag C e σ h).bind fun x h=>(cw C es σ h).bind fun xs h=>.ok (x::xs) h):=rfl
@[simp] theorem cM(C:Or)(e:E)(σ:Env)(h:Hp):eE C (.seq e) σ h=((ag C e σ h).bind fun x h=>R.of (src h x) h):=rfl
@[simp] theorem GL(C:Or)(e:E)(σ:Env)(h:Hp):eE C (.kj e) σ h=((ag C e σ h).bind fun x h=>match x with
  |.int j=>if fW j then .ok (.fix (upTo 0 j.toNat)) h else .bad
  |_=>.bad):=rfl
@[simp] theorem Q6(C:Or)(a b:E)(σ:Env)(h:Hp):eE C (.Cb a b) σ h=((ag C a σ h).bind fun x h=>(ag C b σ h).bind fun y h=>match x,y with
  |.int i,.int j=>if fW i&&fW j then .ok (.fix (upTo i (j-i).toNat)) h else .bad
  |_,_=>.bad):=rfl
@[simp] theorem E6(C:Or)(a b:E)(σ:Env)(h:Hp):eE C (.zip a b) σ h=((ag C a σ h).bind fun x h=>(ag C b σ h).bind fun y h=>match x,y with
  |.tup xs,.tup ys=>.ok (.fix (pC xs ys)) h
  |_,_=>.bad):=rfl
@[simp] def iu(t:Tg)(x:W)(σ:Env):Option Env:=match t,x with
 |.var i,x=>some (σ.set i (some x))
 |.two i j,.tup [x,y]=>some ((σ.set i (some x)).set j (some y))
 |_,_=>none
@[simp] noncomputable def turn(t:Tg)(k:Env->Hp->R Fl)(x:W)(σ:Env)(h:Hp)(go:Env->Hp->R Fl):R Fl:=match iu t x σ with
 |none=>.bad
 |some σ=>(k σ h).bind fun f h=>match f with
  |.next σ=>go σ h
  |.cont σ=>go σ h
  |.brk σ=>.ok (.next σ) h
  |.ret w=>.ok (.ret w) h
@[simp] def je(t:Tg)(k:Env->Hp->R Fl):List W->Env->Hp->R Fl
 |[],σ,h=>.ok (.next σ) h
 |x::xs,σ,h=>turn t k x σ h (je t k xs)
noncomputable def bO(a:Nat)(t:Tg)(k:Env->Hp->R Fl):Nat->Nat->Env->Hp->R Fl
 |n,i,σ,h=>match bg h a with
  |none=>.bad
  |some ys=>match ys[i]? with
   |none=>.ok (.next σ) h
   |some x=>match n with
    |0=>.bad
    |n+1=>turn t k x σ h (bO a t k n (i+1))
noncomputable def eS(a:Nat)(t:Tg)(k:Env->Hp->R Fl):Nat->Env->Hp->R Fl
 |0,σ,h=>.ok (.next σ) h
 |n+1,σ,h=>match bg h a with
  |none=>.bad
  |some ys=>match ys[n]? with
   |none=>.bad
   |some x=>turn t k x σ h (eS a t k n)
noncomputable def gC(a:Nat)(t:Tg)(k:Env->Hp->R Fl):Nat->Nat->Env->Hp->R Fl
 |n,i,σ,h=>match bg h a with
  |none=>.bad
  |some ys=>match ys[i]? with
   |none=>.ok (.next σ) h
   |some x=>match n with
    |0=>.bad
    |n+1=>turn t k (.tup [.int i,x]) σ h (gC a t k n (i+1))
noncomputable def lT(c:Env->Hp->R W)(b:Env->Hp->R Fl):Nat->Env->Hp->R Fl
 |0,_,_=>.bad
 |n+1,σ,h=>(c σ h).bind fun x h=>match truth h x with
  |some true=>(b σ h).bind fun f h=>match f with
   |.next σ=>lT c b n σ h
   |.cont σ=>lT c b n σ h
   |.brk σ=>.ok (.next σ) h
   |.ret w=>.ok (.ret w) h
  |some false=>.ok (.next σ) h
  |none=>.bad
def FU:Nat:=2 ^ 20
@[simp] def turns(s:Src)(t:Tg)(k:Env->Hp->R Fl)(σ:Env)(h:Hp):R Fl:=match s with
 |.fix xs=>je t k xs σ h
 |.at a n=>bO a t k n 0 σ h
 |.rv a n=>eS a t k n σ h
 |.ea a n=>gC a t k n 0 σ h
@[simp] def NQ(C:Or)(σ:Env)(h:Hp):Hs->R Fl
 |.ret e=>(ag C e σ h).bind fun w h=>.ok (.ret w) h
 |.AQ c e=>(ag C c σ h).bind fun x h=>match truth h x with
  |some true=>(ag C e σ h).bind fun w h=>.ok (.ret w) h
  |some false=>.ok (.next σ) h
  |none=>.bad
@[simp] def rO(C:Or):List Hs->Env->Hp->R Fl
 |[],σ,h=>.ok (.next σ) h
 |a::r,σ,h=>(NQ C σ h a).bind fun f h=>match f with
  |.next σ=>rO C r σ h
  |f=>.ok f h
@[simp] def oz(c:S):List Hd->Option (Nat×List Hs)
 |[]=>none
 |(_,cs,j,a)::r=>if cs.contains c then some (j,a) else oz c r
@[simp] def QE(j:Nat):Fl->Fl
 |.next σ=>.next (σ.set j none)
 |.brk σ=>.brk (σ.set j none)
 |.cont σ=>.cont (σ.set j none)
 |.ret w=>.ret w
noncomputable def gp(hs:List Hd)(C:Or)(σ:Env)(m:R Fl):R Fl:=match m with
 |.ok (.next _) h=>.ok (.next σ) h
 |.ok (.ret w) h=>.ok (.ret w) h
 |.ok _ _=>.bad
 |.au a h=>match h[a]? with
  |some (.au c _)=>match oz c hs with
   |some (j,act)=>(rO C act (σ.set j (some (.ref a))) h).gS.bind fun fl h=>.ok (QE j fl) h
   |none=>.bad
  |_=>.bad
 |.bad=>.bad
def xV(C:Or)(o:E)(c m:S)(f:Nat)(es:Es)(σ:Env)(h:Hp):R W:=
 (ag C o σ h).gS.bind fun w h=>if eW w c m h then (cw C es σ h).gS.bind fun ws h=>C f (w::ws) h else .bad
@[simp] def GZ(u:Option W)(σ:Env)(v:W)(h:Hp):R Fl:=match u with
 |none=>.ok (.next σ) h
 |some z=>.ok (.ret (.tup [v,z])) h
@[simp] def uM(C:Or)(σ:Env)(h:Hp):Tb->R Fl
 |.call o c m f es u=>(xV C o c m f es σ h).bind fun v h=>GZ u σ v h
 |.ret e=>(ag C e σ h).gS.bind fun w h=>.ok (.ret w) h
@[simp] def iW(C:Or)(σ:Env):List Tb->Hp->R Fl
 |[],h=>.ok (.next σ) h
 |t::r,h=>(uM C σ h t).bind fun f h=>match f with
  |.next _=>iW C σ r h
  |f=>.ok f h
noncomputable def jr(c:S)(xs:List S)(ws:List W)(h:Hp):R Fl:=if ws.length=xs.length then .au h.length (h++[.au c (xs.zip ws)]) else .bad
mutual
noncomputable def dD(C:Or):St->Env->Hp->R Fl
 |.expr e,σ,h=>(ag C e σ h).bind fun _ h=>.ok (.next σ) h
 |.ret e,σ,h=>(ag C e σ h).bind fun x h=>.ok (.ret x) h
 |.CC,_,h=>.ok (.ret .aq) h
 |.set i e,σ,h=>(ag C e σ h).bind fun x h=>.ok (.next (σ.set i (some x))) h
 |.put o k e,σ,h=>(ag C e σ h).bind fun v h=>(ag C o σ h).bind fun x h=>(ag C k σ h).bind fun y h=>(lh x y v h).bind fun _ h=>.ok (.next σ) h
 |.iff c a b,σ,h=>(ag C c σ h).bind fun x h=>match truth h x with
  |some true=>aH C a σ h
  |some false=>aH C b σ h
  |none=>.bad
 |.for t it b,σ,h=>(eE C it σ h).bind fun s h=>turns s t (aH C b) σ h
 |.pass,σ,h=>.ok (.next σ) h
 |.brk,σ,h=>.ok (.brk σ) h
 |.cont,σ,h=>.ok (.cont σ) h
 |.bad,_,_=>.bad
 |.kO i j e,σ,h=>(ag C e σ h).bind fun x h=>match x with
  |.tup [u,v]=>.ok (.next ((σ.set i (some u)).set j (some v))) h
  |_=>.bad
 |.gm o x e,σ,h=>(ag C e σ h).bind fun v h=>(ag C o σ h).bind fun w h=>(putField w x v h).bind fun _ h=>.ok (.next σ) h
 |.aug i op e,σ,h=>match σ[i]? with
  |some (some (.int a))=>(ag C e σ h).bind fun y h=>match y with
   |.int b=>R.of ((binI op a b).map fun c=>.next (σ.set i (some (.int c)))) h
   |_=>.bad
  |_=>.bad
 |.Dj c b,σ,h=>lT (ag C c) (aH C b) FU σ h
 |.raise c xs es,σ,h=>(cw C es σ h).bind fun ws h=>jr c xs ws h
 |.se b hs,σ,h=>gp hs C σ (iW C σ b h)
noncomputable def aH(C:Or):List St->Env->Hp->R Fl
 |[],σ,h=>.ok (.next σ) h
 |s::r,σ,h=>(dD C s σ h).bind fun f h=>match f with
  |.next σ=>aH C r σ h
  |f=>.ok f h
end
@[simp] theorem SD(C:Or)(e:E)(σ:Env)(h:Hp):dD C (.expr e) σ h=((ag C e σ h).bind fun _ h=>.ok (.next σ) h):=rfl
@[simp] theorem qD(C:Or)(e:E)(σ:Env)(h:Hp):dD C (.ret e) σ h=((ag C e σ h).bind fun x h=>.ok (.ret x) h):=rfl
@[simp] theorem Tp(C:Or)(σ:Env)(h:Hp):dD C .CC σ h=(.ok (.ret .aq) h):=rfl
@[simp] theorem zq(C:Or)(i:Nat)(e:E)(σ:Env)(h:Hp):dD C (.set i e) σ h=((ag C e σ h).bind fun x h=>.ok (.next (σ.set i (some x))) h):=rfl
@[simp] theorem Ui(C:Or)(o:E)(k:E)(e:E)(σ:Env)(h:Hp):dD C (.put o k e) σ h=((ag C e σ h).bind fun v h=>(ag C o σ h).bind fun x h=>(ag C k σ h).bind fun y h=>(lh x y v h).bind fun _ h=>.ok (.next σ) h):=rfl
@[simp] theorem iM(C:Or)(c:E)(a:List St)(b:List St)(σ:Env)(h:Hp):dD C (.iff c a b) σ h=((ag C c σ h).bind fun x h=>match truth h x with
  |some true=>aH C a σ h
  |some false=>aH C b σ h
  |none=>.bad):=rfl
theorem bz(C:Or)(t:Tg)(it:It)(b:List St)(σ:Env)(h:Hp):dD C (.for t it b) σ h=((eE C it σ h).bind fun s h=>turns s t (aH C b) σ h):=rfl
@[simp] theorem Tj(C:Or)(σ:Env)(h:Hp):dD C .pass σ h=(.ok (.next σ) h):=rfl
@[simp] theorem Um(C:Or)(σ:Env)(h:Hp):dD C .brk σ h=(.ok (.brk σ) h):=rfl
@[simp] theorem SU(C:Or)(σ:Env)(h:Hp):dD C .cont σ h=(.ok (.cont σ) h):=rfl
@[simp] theorem Ug(C:Or)(σ:Env)(h:Hp):dD C .bad σ h=.bad:=rfl
@[simp] theorem rF(C:Or)(i j:Nat)(e:E)(σ:Env)(h:Hp):dD C (.kO i j e) σ h=((ag C e σ h).bind fun x h=>match x with
  |.tup [u,v]=>.ok (.next ((σ.set i (some u)).set j (some v))) h
  |_=>.bad):=rfl
@[simp] theorem T7(C:Or)(o:E)(x:S)(e:E)(σ:Env)(h:Hp):dD C (.gm o x e) σ h=((ag C e σ h).bind fun v h=>(ag C o σ h).bind fun w h=>(putField w x v h).bind fun _ h=>.ok (.next σ) h):=rfl
@[simp] theorem Ub(C:Or)(i:Nat)(op:Op)(e:E)(σ:Env)(h:Hp):dD C (.aug i op e) σ h=(match σ[i]? with
  |some (some (.int a))=>(ag C e σ h).bind fun y h=>match y with
   |.int b=>R.of ((binI op a b).map fun c=>.next (σ.set i (some (.int c)))) h
   |_=>.bad
  |_=>.bad):=rfl
theorem zW(C:Or)(c:E)(b:List St)(σ:Env)(h:Hp):dD C (.Dj c b) σ h=lT (ag C c) (aH C b) FU σ h:=rfl
theorem CP(C:Or)(c:S)(xs:List S)(es:Es)(σ:Env)(h:Hp):dD C (.raise c xs es) σ h=((cw C es σ h).bind fun ws h=>jr c xs ws h):=rfl
theorem wQ(C:Or)(b:List Tb)(hs:List Hd)(σ:Env)(h:Hp):dD C (.se b hs) σ h=gp hs C σ (iW C σ b h):=rfl
@[simp] theorem cP(C:Or)(σ:Env)(h:Hp):aH C [] σ h=.ok (.next σ) h:=rfl
@[simp] theorem bH(C:Or)(s:St)(r:List St)(σ:Env)(h:Hp):aH C (s::r) σ h=((dD C s σ h).bind fun f h=>match f with
  |.next σ=>aH C r σ h
  |f=>.ok f h):=rfl
structure Fn where
 ps:Nat
 ns:Nat
 body:List St
def bY(C:Or)(f:Fn)(xs:List W)(h:Hp):R W:=
 if xs.length=f.ps then (aH C f.body (xs.map some++List.replicate (f.ns-f.ps) none) h).bind fun fl h=>match fl with
  |.next _=>.ok .aq h
  |.ret w=>.ok w h
  |_=>.bad
 else .bad
def run(T:List Fn):Nat->Or
 |0,_,_,_=>.bad
 |k+1,f,xs,h=>match T[f]? with
  |some fn=>bY (run T k) fn xs h
  |none=>.bad
end Tw
namespace TwS
open PySem L2
def rA(x:Tw.S):Prop:=∀c∈x,c<0x110000
def TupAt(K:W.Frag)(H:L2.Hp)(a:Addr)(xs:List V):Prop:=
 H a=some (.tup xs)\/∃(o:Obj) (its:Array Value) (n:Nat),K.lookup a=some o/\o.cls=.type "tuple" /\o.data=.seq its n/\its.size<=sizeLine/\Vals xs its.toList
theorem TupAt.sq(t:TupAt K H a xs):eC K H a xs:=by
 rcases t with t|t
 .exact eC.of t
 .exact .inr t
mutual
inductive RW(K:W.Frag)(ι:Nat->Addr)(n:Nat)(H:L2.Hp):Tw.W->V->Prop
 |aq:RW K ι n H .aq .aq
 |bl (b:Bool):RW K ι n H (.bl b) (.bl b)
 |int (i:Int):RW K ι n H (.int i) (.int i)
 |str (x:Tw.S) (hx:rA x):RW K ι n H (.str x) (.str ⟨x.toArray⟩)
 |tup {a:Addr}{xs:List V}{ws:List Tw.W}:TupAt K H a xs->aT K ι n H ws xs->RW K ι n H (.tup ws) (.ref a)
 |ref {i:Nat}:i<n->RW K ι n H (.ref i) (.ref (ι i))
inductive aT(K:W.Frag)(ι:Nat->Addr)(n:Nat)(H:L2.Hp):List Tw.W->List V->Prop
 |nil:aT K ι n H [] []
 |cons {w:Tw.W}{v:V}{ws:List Tw.W}{vs:List V}:RW K ι n H w v->aT K ι n H ws vs->aT K ι n H (w::ws) (v::vs)
end
structure Keeps(ι:Nat->Addr)(n:Nat)(H:L2.Hp)(ι':Nat->Addr)(n':Nat)(H':L2.Hp):Prop where
 le:n<=n'
 same:∀i,i<n->ι' i=ι i
 tup:∀a xs,H a=some (.tup xs)->H' a=some (.tup xs)
theorem Keeps.sR{ι ι':Nat->Addr}(k:Keeps ι n H ι' n' H')(t:TupAt K H a xs):TupAt K H' a xs:=t.imp (k.tup a xs) id
section
variable {K:W.Frag}{ι ι':Nat->Addr}{n n':Nat}{H H':L2.Hp}
mutual
theorem RW.keep(k:Keeps ι n H ι' n' H'):∀{w:Tw.W}{v:V},RW K ι n H w v->RW K ι' n' H' w v
 |_,_,.aq=>.aq
 |_,_,.bl b=>.bl b
 |_,_,.int i=>.int i
 |_,_,.str x hx=>.str x hx
 |_,_,.tup e r=>.tup (k.sR e) (aT.keep k r)
 |_,_,.ref (i:=i) h=>by rw[<-k.same i h];exact .ref (cU h k.le)
theorem aT.keep(k:Keeps ι n H ι' n' H'):∀{ws:List Tw.W}{vs:List V},aT K ι n H ws vs->aT K ι' n' H' ws vs
 |_,_,.nil=>.nil
 |_,_,.cons a r=>.cons (RW.keep k a) (aT.keep k r)
end
theorem aT.length:∀{ws:List Tw.W}{vs:List V},aT K ι n H ws vs->ws.length=vs.length
 |_,_,.nil=>rfl
 |_,_,.cons _ r=>eN (·+ 1) r.length
theorem aT.get:∀{ws:List Tw.W}{vs:List V}{i:Nat}{w:Tw.W},aT K ι n H ws vs->ws[i]?=some w->∃v,vs[i]?=some v/\RW K ι n H w v
 |_,_,_,_,.nil,e=>by simp at e
 |_,_,0,_,.cons a _,e=>by simp at e;subst e;exact⟨_,rfl,a⟩
 |_,_,i+1,w,.cons _ r,e=>by
  obtain⟨v,h1,h2⟩:=aT.get (i:=i) (w:=w) r (by simpa using e);exact⟨v,by simpa using h1,h2⟩
theorem aT.append:∀{ws us:List Tw.W}{vs xs:List V},aT K ι n H ws vs->aT K ι n H us xs->aT K ι n H (ws++us) (vs++xs)
 |_,_,_,_,.nil,s=>s
 |_,_,_,_,.cons a r,s=>.cons a (aT.append r s)
theorem aT.take:∀{ws:List Tw.W}{vs:List V}(k:Nat),aT K ι n H ws vs->aT K ι n H (ws.take k) (vs.take k)
 |_,_,0,_=>.nil
 |_,_,_+1,.nil=>.nil
 |_,_,k+1,.cons a r=>.cons a (aT.take k r)
theorem aT.drop:∀{ws:List Tw.W}{vs:List V}(k:Nat),aT K ι n H ws vs->aT K ι n H (ws.drop k) (vs.drop k)
 |_,_,0,r=>r
 |_,_,_+1,.nil=>.nil
 |_,_,k+1,.cons _ r=>aT.drop k r
theorem aT.set(a:RW K ι n H w v):∀{ws:List Tw.W}{vs:List V}(i:Nat),aT K ι n H ws vs->aT K ι n H (ws.set i w) (vs.set i v)
 |_,_,_,.nil=>.nil
 |_,_,0,.cons _ r=>.cons a r
 |_,_,i+1,.cons b r=>.cons b (aT.set a i r)
end
inductive RD(K:W.Frag)(ι:Nat->Addr)(n:Nat)(H:L2.Hp):List (Tw.W×Tw.W)->List (Key×V)->Prop
 |nil:RD K ι n H [] []
 |cons {k w:Tw.W}{q:Key}{v:V}{kvs:List (Tw.W×Tw.W)}{xs:List (Key×V)}:q∉xs.map (·.1)->RW K ι n H k (kV q)->RW K ι n H w v->RD K ι n H kvs xs->RD K ι n H ((k,w)::kvs) ((q,v)::xs)
theorem RD.keep{ι ι':Nat->Addr}(k:Keeps ι n H ι' n' H'):∀{kvs:List (Tw.W×Tw.W)}{xs:List (Key×V)},RD K ι n H kvs xs->RD K ι' n' H' kvs xs
 |_,_,.nil=>.nil
 |_,_,.cons m e a r=>.cons m (e.keep k) (a.keep k) (RD.keep k r)
theorem RD.length{ι:Nat->Addr}:∀{kvs:List (Tw.W×Tw.W)}{xs:List (Key×V)},RD K ι n H kvs xs->kvs.length=xs.length
 |_,_,.nil=>rfl
 |_,_,.cons _ _ _ r=>eN (·+ 1) r.length
def vA(K:W.Frag)(H:L2.Hp)(a:Addr)(xs:List V):Prop:=
 (∃o,H a=some (.bR o (.lst xs)))\/
  ∃(o:Obj) (its:Array Value) (n:Nat),K.lookup a=some o/\o.cls=.type "list" /\o.dict=none/\o.data=.seq its n/\its.size<=sizeLine/\Vals xs its.toList
theorem vA.sq(s:vA K H a xs):bJ K H a xs:=by
 rcases s with s|s
 .exact .inl (.inr s)
 .exact .inr s
inductive RF(K:W.Frag)(ι:Nat->Addr)(n:Nat)(H:L2.Hp):List (Tw.S×Tw.W)->List (Str×V)->Prop
 |nil:RF K ι n H [] []
 |cons {x:Tw.S}{w:Tw.W}{v:V}{fs:List (Tw.S×Tw.W)}{gs:List (Str×V)}:RW K ι n H w v->RF K ι n H fs gs->RF K ι n H ((x,w)::fs) ((⟨x.toArray⟩,v)::gs)
theorem RF.keep{ι ι':Nat->Addr}(k:Keeps ι n H ι' n' H'):∀{fs:List (Tw.S×Tw.W)}{gs:List (Str×V)},RF K ι n H fs gs->RF K ι' n' H' fs gs
 |_,_,.nil=>.nil
 |_,_,.cons a r=>.cons (a.keep k) (RF.keep k r)
theorem RF.length{ι:Nat->Addr}:∀{fs:List (Tw.S×Tw.W)}{gs:List (Str×V)},RF K ι n H fs gs->fs.length=gs.length
 |_,_,.nil=>rfl
 |_,_,.cons _ r=>eN (·+ 1) r.length
structure Zk where
 K:W.Frag
 mg:Str->Option Value
 ex:XK
abbrev zx(X:Cx)(E:XK):Zk:=⟨X.K,X.mg,E⟩
noncomputable def Ai:List Str:=["shelf", "free", "needs", "bound", "definitions", "numbers", "kind", "core", "whole_kind", "part", "around"]
structure GoodC(K:W.Frag)(C:Addr):Prop where
 cls:rg K C
 no:∀f∈Ai,aZ K C f
noncomputable def jV(C:Addr)(dx:Option Addr)(e:Addr):HO:=.ext fun h=>∃o vs,h.get? e=some o/\o.cls=.ref C/\o.dict=dx/\o.data=.fields vs
def XD(H:L2.Hp)(gs:List (Str×V)):Option Addr->Prop
 |some d=>H d=some (.xd gs)
 |none=>gs=[]
theorem XD.keep(q:XD H gs dx)(s:∀b u,(∃gs,u=HO.xd gs)->H b=some u->H1 b=some u):XD H1 gs dx:=by
 cases dx with
 |none=>exact q
 |some d=>exact s _ _ ⟨_,rfl⟩ q
noncomputable def fw:Tw.O->Bool
 |.bR _=>false
 |.au _ _=>false
 |_=>true
noncomputable def RO(K:Zk)(ι:Nat->Addr)(n:Nat)(H:L2.Hp)(a:Addr):Tw.O->Prop
 |.lst ws=>∃xs,H a=some (.lst xs)/\aT K.K ι n H ws xs
 |.bR ws=>∃xs,vA K.K H a xs/\aT K.K ι n H ws xs
 |.aj kvs=>∃xs,H a=some (.dK xs)/\RD K.K ι n H kvs xs
 |.ins c fs=>∃C dx gs,(K.mg ⟨c.toArray⟩=some (.ref C)/\GoodC K.K C)/\H a=some (.ins C dx gs)/\RF K.K ι n H fs gs
 |.au c fs=>∃C dx gs,K.mg ⟨c.toArray⟩=some (.ref C)/\H a=some (jV C dx a)/\XD H gs dx/\RF K.K ι n H fs gs
structure HR(K:Zk)(ι:Nat->Addr)(h:Tw.Hp)(H:L2.Hp):Prop where
 obj:∀(i:Nat)(o:Tw.O),h[i]?=some o->RO K ι h.length H (ι i) o
 inj:∀(i j:Nat)(o u:Tw.O),h[i]?=some o->h[j]?=some u->fw o=true->fw u=true->ι i=ι j->i=j
structure Ext(ι:Nat->Addr)(h:Tw.Hp)(H:L2.Hp)(ι':Nat->Addr)(h':Tw.Hp)(H':L2.Hp):Prop where
 len:h.length<=h'.length
 same:∀i,i<h.length->ι' i=ι i
 fr:∀b u,H b=some u->(∀(i:Nat)(o:Tw.O),h[i]?=some o->fw o=true->ι i≠b)->H' b=some u
 new:∀i,h.length<=i->i<h'.length->H (ι' i)=none
 zy:∀b,H' b=none->H b=none
 fz:∀(i:Nat)(o u:Tw.O),h[i]?=some o->h'[i]?=some u->fw u=fw o
section
variable {K:Zk}{ι ι1 ι2:Nat->Addr}{h h1 h2:Tw.Hp}{H H1 H2:L2.Hp}
theorem kr(e:h[i]?=some o):i<h.length:=(eK.mp e).1
theorem Ext.refl(ι:Nat->Addr)(h:Tw.Hp)(H:L2.Hp):Ext ι h H ι h H:=
 ⟨aG _,fun _ _=>rfl,fun _ _ e _=>e,fun i a b=>absurd b (lE.mpr a),fun _ e=>e,fun i o u e f=>by rw[e] at f;cases f;rfl⟩
theorem Ext.trans(a:Ext ι h H ι1 h1 H1)(b:Ext ι1 h1 H1 ι2 h2 H2):Ext ι h H ι2 h2 H2 where
 len:=cS a.len b.len
 same:=fun i hi=>(b.same i (cU hi a.len)).trans (a.same i hi)
 fr:=fun c u e n=>b.fr c u (a.fr c u e n) fun i o e1 m z=>by
  by_cases hi:i<h.length
  .obtain⟨o',eo⟩:∃o',h[i]?=some o':=⟨_,mL hi⟩;rw[a.same i hi] at z;exact n i o' eo (by rw[<-a.fz i o' o eo e1];exact m) z
  .have q:=a.new i (lE.mp hi) (kr e1);rw[z,e] at q;cases q
 new:=fun i h1' h2'=>by
  by_cases hi:i<h1.length
  .rw[b.same i hi];exact a.new i h1' hi
  .exact a.zy _ (b.new i (lE.mp hi) h2')
 zy:=fun c e=>a.zy c (b.zy c e)
 fz:=fun i o u e f=>by
  obtain⟨v,ev⟩:∃v,h1[i]?=some v:=⟨_,mL (cU (kr e) a.len)⟩;rw[b.fz i v u ev f,a.fz i o v e ev]
theorem HR.there(r:HR K ι h H)(e:h[i]?=some o)(m:fw o=true):∃u,H (ι i)=some u/\(∀xs,u≠.tup xs)/\(∀o v,u≠.bR o v)/\(∀gs,u≠.xd gs)/\∀φ,u≠.ext φ:=by
 have q:=r.obj i o e;cases o with
 |lst ws=>obtain⟨xs,q,_⟩:=q;exact⟨_,q,(fun _ z=>nomatch z),(fun _ _ z=>nomatch z),(fun _ z=>nomatch z),fun _ z=>nomatch z⟩
 |bR ws=>cases m
 |aj kvs=>obtain⟨xs,q,_⟩:=q;exact⟨_,q,(fun _ z=>nomatch z),(fun _ _ z=>nomatch z),(fun _ z=>nomatch z),fun _ z=>nomatch z⟩
 |ins c fs=>obtain⟨C,dx,gs,_,q,_⟩:=q;exact⟨_,q,(fun _ z=>nomatch z),(fun _ _ z=>nomatch z),(fun _ z=>nomatch z),fun _ z=>nomatch z⟩
 |au c fs=>cases m
theorem Ext.keeps(r:HR K ι h H)(a:Ext ι h H ι1 h1 H1):Keeps ι h.length H ι1 h1.length H1:=
 ⟨a.len,a.same,fun b xs e=>a.fr b _ e fun i o eo m z=>by
  obtain⟨u,q,n,_⟩:=r.there eo m;rw[z,e] at q;cases q;exact n _ rfl⟩
theorem lQ(hp:H p=none):∀b u,H b=some u->upd H p o b=some u:=fun b u e=>by
 rw[az (cq e hp)];exact e
theorem qr:∀b,upd H p o b=none->H b=none:=fun b e=>by
 by_cases z:b=p
 .subst z;rw[aM] at e;cases e
 .rw[az z] at e;exact e
theorem vA.keep{K:W.Frag}{H H1:L2.Hp}{a:Addr}{xs:List V}(s:vA K H a xs)(k:∀u,H a=some u->H1 a=some u):vA K H1 a xs:=by
 rcases s with ⟨o,s⟩|s
 .exact .inl ⟨o,k _ s⟩
 .exact .inr s
theorem RO.keep(r:RO K ι n H a o)(k:Keeps ι n H ι1 n' H1)(s:∀b u,(b=a\/∃gs,u=HO.xd gs)->H b=some u->H1 b=some u):RO K ι1 n' H1 a o:=by
 cases o with
 |lst ws=>obtain⟨xs,q,z⟩:=r;exact⟨xs,s _ _ (.inl rfl) q,z.keep k⟩
 |bR ws=>obtain⟨xs,q,z⟩:=r;exact⟨xs,vA.keep q (fun u=>s _ u (.inl rfl)),z.keep k⟩
 |aj kvs=>obtain⟨xs,q,z⟩:=r;exact⟨xs,s _ _ (.inl rfl) q,z.keep k⟩
 |ins c fs=>obtain⟨C,dx,gs,q0,q,z⟩:=r;exact⟨C,dx,gs,q0,s _ _ (.inl rfl) q,z.keep k⟩
 |au c fs=>obtain⟨C,dx,gs,q0,q,qd,z⟩:=r;exact⟨C,dx,gs,q0,s _ _ (.inl rfl) q,XD.keep qd fun b u hb=>s b u (.inr hb),z.keep k⟩
theorem HR.grow(r:HR K ι h H)(hp:H p=none):HR K ι h (upd H p o)/\Ext ι h H ι h (upd H p o):=by have e:Ext ι h H ι h (upd H p o):=⟨aG _,fun _ _=>rfl,fun b u q _=>lQ hp b u q,fun i a b=>absurd b (lE.mpr a),qr,fun i o u e f=>by rw[e] at f;cases f;rfl⟩;exact⟨⟨fun i u q=>(r.obj i u q).keep (e.keeps r) fun b v _ z=>lQ hp b v z,r.inj⟩,e⟩
noncomputable def fR(ι:Nat->Addr)(n:Nat)(p:Addr):Nat->Addr:=fun i=>if i=n then p else ι i
theorem dw(h:i<n):fR ι n p i=ι i:=if_neg (b7 h)
theorem cY:fR ι n p n=p:=if_pos rfl
theorem HR.Fp(r:HR K ι h H)(hp:H p=none)(ro:∀ι' n' H',Keeps ι h.length H ι' n' H'->(∀b v,H b=some v->H' b=some v)->H' p=some o->RO K ι' n' H' p u):
  HR K (fR ι h.length p) (h++[u]) (upd H p o)/\Ext ι h H (fR ι h.length p) (h++[u]) (upd H p o):=by
 have hl:(h++[u]).length=h.length+1:=by simp
 have cases2:∀{i:Nat}{v:Tw.O},(h++[u])[i]?=some v->(i<h.length/\h[i]?=some v)\/(i=h.length/\v=u):=fun {i v} e=>by
  have hi:=kr e;by_cases z:i<h.length
  .rw[ja z] at e;exact .inl ⟨z,e⟩
  .have z':i=h.length:=by omega
   subst z';simp at e;exact .inr ⟨rfl,e.symm⟩
 have e:Ext ι h H (fR ι h.length p) (h++[u]) (upd H p o):=by
  refine⟨by omega,fun i hi=>dw hi,fun b v q _=>lQ hp b v q,fun i h1 h2=>?_,qr,fun i v w e f=>?_⟩
  .have:i=h.length:=by omega
   subst this;rw[cY];exact hp
  .rcases cases2 f with ⟨_,f⟩|⟨f,_⟩
   .rw[e] at f;cases f;rfl
   .have:=kr e;omega
 refine⟨⟨fun i v q=>?_,fun i j v w q1 q2 m1 m2 z=>?_⟩,e⟩
 .rcases cases2 q with ⟨hi,q⟩|⟨rfl,rfl⟩
  .rw[dw hi];exact (r.obj i v q).keep (e.keeps r) fun b x _ z=>lQ hp b x z
  .rw[cY];exact ro _ _ _ (e.keeps r) (fun b v q=>lQ hp b v q) aM
 .rcases cases2 q1 with ⟨hi,p1⟩|⟨ei,ev⟩<;>rcases cases2 q2 with ⟨hj,p2⟩|⟨ej,ew⟩
  .rw[dw hi,dw hj] at z;exact r.inj i j v w p1 p2 m1 m2 z
  .rw[dw hi,ej,cY] at z;obtain⟨x,q,_,_⟩:=r.there p1 m1;rw[z,hp] at q;cases q
  .rw[ei,cY,dw hj] at z;obtain⟨x,q,_,_⟩:=r.there p2 m2;rw[<-z,hp] at q;cases q
  .rw[ei,ej]
theorem HR.new(r:HR K ι h H)(hp:H p=none)(m:fw u=true)(ro:∀ι' n' H',Keeps ι h.length H ι' n' H'->H' p=some o->RO K ι' n' H' p u):
  HR K (fR ι h.length p) (h++[u]) (upd H p o)/\Ext ι h H (fR ι h.length p) (h++[u]) (upd H p o):=r.Fp hp fun ι' n' H' k _ e=>ro ι' n' H' k e
theorem HR.put(r:HR K ι h H)(ei:h[i]?=some v)(mv:fw v=true)(m:fw u=true)(no:∀xs,o≠.tup xs)
  (ro:∀H',Keeps ι h.length H ι h.length H'->H' (ι i)=some o->RO K ι h.length H' (ι i) u):
  HR K ι (h.set i u) (upd H (ι i) o)/\Ext ι h H ι (h.set i u) (upd H (ι i) o):=by
 have hl:(h.set i u).length=h.length:=by simp
 obtain⟨x0,q0,n0,f0,d0,e0⟩:=r.there ei mv;have kp:Keeps ι h.length H ι h.length (upd H (ι i) o):=⟨aG _,fun _ _=>rfl,fun a xs e=>by
  rw[az (fun z=>by rw[z,q0] at e;cases e;exact n0 _ rfl)];exact e⟩
 have look:∀{j:Nat}{w:Tw.O},(h.set i u)[j]?=some w->(j=i/\w=u)\/(j≠i/\h[j]?=some w):=fun {j w} e=>by
  by_cases z:j=i
  .subst z;rw[jC (kr ei)] at e;cases e;exact .inl ⟨rfl,rfl⟩
  .rw[iE (bc z)] at e;exact .inr ⟨z,e⟩
 have e:Ext ι h H ι (h.set i u) (upd H (ι i) o):=by
  refine⟨by omega,fun _ _=>rfl,fun b w q n=>?_,fun j a b=>absurd b (by rw[hl];exact lE.mpr a),qr,fun j w w' e f=>?_⟩
  .rw[az (fun z=>n i v ei mv z.symm)];exact q
  .rcases look f with ⟨rfl,rfl⟩|⟨_,f⟩
   .rw[ei] at e;cases e;rw[m,mv]
   .rw[e] at f;cases f;rfl
 refine⟨⟨fun j w q=>?_,fun j k w w' q1 q2 m1 m2 z=>?_⟩,e⟩
 .rw[hl];rcases look q with ⟨rfl,rfl⟩|⟨nj,q⟩
  .exact ro _ kp aM
  .by_cases Z:ι j=ι i
   .by_cases mw:fw w=true
    .exact absurd (r.inj j i w v q ei mw mv Z) nj
    .cases w with
     |bR ws=>
      obtain⟨xs,sq,rr⟩:=r.obj j _ q;rcases sq with ⟨o',sq⟩|sq
      .rw[Z,q0] at sq;cases sq;exact absurd rfl (f0 _ _)
      .exact⟨xs,.inr sq,rr.keep kp⟩
     |au c fs=>
      obtain⟨C,dx,gs,_,z,_⟩:=r.obj j _ q;rw[Z,q0] at z;cases z;exact absurd rfl (e0 _)
     |_=>exact absurd rfl mw
   .exact (r.obj j w q).keep kp fun b y hb z=>by
     rw[az]
     .exact z
     .rcases hb with rfl|⟨gs,rfl⟩
      .exact Z
      .intro y;rw[y,q0] at z;cases z;exact d0 _ rfl
 .have back:∀{j:Nat}{w:Tw.O},(h.set i u)[j]?=some w->fw w=true->∃w',h[j]?=some w'/\fw w'=true:=fun {j w} q mw=>by
   rcases look q with ⟨rfl,rfl⟩|⟨_,q⟩
   .exact⟨v,ei,mv⟩
   .exact⟨w,q,mw⟩
  obtain⟨a,qa,ma⟩:=back q1 m1;obtain⟨b,qb,mb⟩:=back q2 m2;exact r.inj j k a b qa qb ma mb z
end
end TwS
namespace TwS
open PySem L2 PyProof.Rows
theorem Ew(o:Obj)(f:Array Value->Array Value):(o.mapFields f).dict=o.dict:=by obtain⟨c,d,dt,sl⟩:=o;cases dt<;>rfl
structure LJ(fs:List Addr)(e T:Addr)(h h':Heap):Prop where
 keep:∀b o,h.get? b=some o->b≠e->b≠T->b∉fs->h'.get? b=some o
 slot:∀b o,h.get? b=some o->b≠e->b≠T->∃sl,h'.get? b=some {o with slots:=sl}
 err:∀o vs,h.get? e=some o->o.data=.fields vs->∃o' ws,h'.get? e=some o'/\o'.cls=o.cls/\o'.dict=o.dict/\o'.data=.fields ws
def Tb(h0 h:Heap)(H:L2.Hp)(e:Addr)(fl:Value):Prop:=
 ∃oe vs T oT ts,h.get? e=some oe/\oe.data=.fields vs/\vs[1]?=some (.ref T)/\T≠e/\h0.get? T=none/\H T=none/\h.get? T=some oT/\oT.data=.fields ts/\ts[3]?=some fl
structure Fly0(P:Program)(w:World)(fs:List Addr)(H:L2.Hp)(s:Shared)(e C:Addr)(dx:Option Addr)(H':L2.Hp)(s':Shared):Prop where
 os:s'.os=s.os
 bare:AllBare s'.gens
 un:Un fs [] H H' s.heap s'.heap
 av:di P w H' s'.heap
 tr:H' e=some (jV C dx e)
 new:s.heap.get? e=none
structure gW(P:Program)(w:World)(fs:List Addr)(H:L2.Hp)(s:Shared)(e C:Addr)(dx:Option Addr)(fl:Value)(H':L2.Hp)(s':Shared):Prop extends Fly0 P w fs H s e C dx H' s' where
 tb:Tb s.heap s'.heap H' e fl
section
variable {P:Program}{w:World}{fs:List Addr}{H H':L2.Hp}{s s':Shared}{e C T:Addr}{dx:Option Addr}{h2:Heap}
theorem Fly0.chg(F:Fly0 P w fs H s e C dx H' s')(hf:∀b∈fs,H' b=none)(hT:s.heap.get? T=none)(hT':H' T=none)(c:LJ fs e T s'.heap h2):Fly0 P w fs H s e C dx H' {s' with heap:=h2}:=by
 have ne:∀b o,s.heap.get? b=some o->b≠e/\b≠T:=fun b o q=>⟨(fun z=>by rw[z,F.new] at q;cases q),(fun z=>by rw[z,hT] at q;cases q)⟩;have nt:∀b o,H' b=some o->b≠T/\b∉fs:=fun b o q=>⟨(fun z=>by rw[z,hT'] at q;cases q),(fun z=>by rw[hf b z] at q;cases q)⟩;refine⟨F.os,F.bare,⟨fun b o q n hb hx=>?_,fun b o q n hb hx=>?_,F.un.free,fun b o q hx=>?_,F.un.f6,F.un.fP,F.un.gB⟩,fun a o q=>?_,F.tr,F.new⟩
 .exact c.keep b o (F.un.keep b o q n hb hx) (ne b o q).1 (ne b o q).2 hb
 .obtain⟨sl,q1⟩:=F.un.slot b o q n hb hx;obtain⟨sl',q2⟩:=c.slot b _ q1 (ne b o q).1 (ne b o q).2;exact⟨sl',q2⟩
 .obtain⟨o1,q1⟩:=F.un.there b o q hx;obtain⟨sl',q2⟩:=c.slot b _ q1 (ne b o q).1 (ne b o q).2;exact⟨_,q2⟩
 .by_cases z:a=e
  .subst z;have q':=q;rw[F.tr] at q';cases q';obtain⟨⟨o1,vs,q1,q2,q3,q4⟩,_,st⟩:=F.av a _ q;obtain⟨o2,ws,r1,r2,r3,r4⟩:=c.err o1 vs q1 q4;exact⟨⟨o2,ws,r1,r2.trans q2,r3.trans q3,r4⟩,⟨o2,r1⟩,st⟩
  .refine (F.av a o q).fT (fun b u hb r=>?_) (fun _ q=>q) fun _ _ q=>q;rcases hb with rfl|hb
   .exact c.keep b u r z (nt b o q).1 (nt b o q).2
   .refine c.keep b u r (fun y=>?_) (nt b _ hb).1 (nt b _ hb).2;rw[y,F.tr] at hb;cases hb
theorem Fly0.back(F:Fly0 P w fs H s e C dx H' s')(hT:s'.heap.objs.size<=T):s.heap.get? T=none/\H' T=none:=by
 refine⟨?_,F.av.fresh hT⟩;cases q:s.heap.get? T with
 |none=>rfl
 |some o=>
  obtain⟨o',q'⟩:=F.un.there T o q (by simp);exact absurd (bp q') (lE.mpr hT)
end
section
variable {M:Model}{A:Around}{E:aJ}{s:Shared}{base:Heap}{env:Env}{outer:List Env}{L e:Addr}
theorem wM{Q:Unit->Shared->Prop}(hfr:A.frames=some (env::outer))(hl:s.heap.FunFrames base (env::outer))(hf:env.frame=some L)
  (he:s.heap.get? e=some oe) (hd:oe.data=.fields vs) (hsz:1<vs.size)
  (k:∀h' T oe' ws oT ts,s.heap.objs.size<=T->LJ (bL (env::outer)) e T s.heap h'->h'.get? e=some oe'->oe'.data=.fields ws->ws[1]?=some (.ref T)->T≠e->h'.get? T=some oT->oT.data=.fields ts->ts[3]?=some (rawInt L)->Q () {s with heap:=h'}):
  wpAny M A (do let a <-frameOf env;let pl <-entryPlaceOf L hn;let b <-EntryCells.newEntry head a .none (rawInt L) .none pl;setField (.ref e) 1 b) Q E s:=by
 have ne:e∉bL (env::outer):=fun m=>by
  obtain⟨_,o,ho,nf⟩:=hl.mem m;rw[he] at ho;cases ho;exact nf vs hd
 refine af (wpAny_frameOf_fun hfr hl hf fun h1 s1=>?_);have fin:∀(O:Obj)(ts:Array Value),O.data=.fields ts->ts[3]?=some (rawInt L)->wpAny M A (setField (.ref e) 1 (.ref h1.objs.size)) Q E {s with heap:=h1.push O}:=fun O ts hO h3=>by
  have he1:h1.get? e=some oe:=(s1.2.1 e ne).trans he;have he2:=bj (h:=h1) O he1;have nT:h1.objs.size≠e:=rJ (bp he1);refine tB (s:={s with heap:=h1.push O}) he2 hd hsz ?_;have hd3:=sQ hd (·.setIfInBounds 1 (Value.ref h1.objs.size));have he3:=uz (Obj.mapFields (·.setIfInBounds 1 (Value.ref h1.objs.size))) he2 (wx hd3);have hT3:=(mQ (h1.push O) (Obj.mapFields (·.setIfInBounds 1 (Value.ref h1.objs.size))) (bc nT)).trans (dC h1 (wx hO));refine k _ h1.objs.size _ _ O ts (Nat.le_of_eq s1.1.symm) ⟨fun b o q n1 n2 n3=>?_,fun b o q n1 n2=>?_,fun o ws q qd=>?_⟩ he3 hd3 (by simp[hsz]) nT hT3 hO h3
  .rw[mQ _ _ (bc n1)];exact bj _ ((s1.2.1 b n3).trans q)
  .obtain⟨sl,q1⟩:=s1.2.2 b o q;refine⟨sl,?_⟩;rw[mQ _ _ (bc n1)];exact bj _ q1
  .rw[he] at q;cases q;exact⟨_,_,he3,Obj.cls_mapFields _ _,Ew _ _,hd3⟩
 refine af (wpAny_entryPlaceOf fun pl hpl=>?_);unfold EntryCells.newEntry;unfold newFields;refine af (kq (s:={s with heap:=h1}) ?_ (hpl.sizeOk5 _ _ _ _ _));exact fin _ _ rfl (by first|(simp;done)|(rcases hpl with rfl|⟨_,_,_,_,_,_,_,rfl⟩<;>simp))
variable {P:Program}{w:World}{H H':L2.Hp}{s':Shared}{C:Addr}{dx:Option Addr}
theorem Fly0.note{Q:Unit->Shared->Prop}(F:Fly0 P w (bL (env::outer)) H s e C dx H' s')(hfr:A.frames=some (env::outer))(hl:s'.heap.FunFrames base (env::outer))(hf:env.frame=some L)(hfree:∀b∈bL (env::outer),H' b=none)
  (he:s'.heap.get? e=some oe) (hd:oe.data=.fields vs) (h1:vs[1]?=some .none)
  (k:∀s2,gW P w (bL (env::outer)) H s e C dx (rawInt L) H' s2->Q () s2):wpAny M A (noteFrame (.ref e) env) Q E s':=by
 unfold noteFrame;simp only[hf];refine af (dJ he hd h1 ?_);rw[if_neg (by decide)];refine wM hfr hl hf he hd (u6.mp h1).1 fun h' T oe' ws oT ts hT c q1 q2 q3 q4 q5 q6 q7=>?_;obtain⟨b1,b2⟩:=F.back hT;exact k _ ⟨F.chg hfree b1 b2 c,oe',ws,T,oT,ts,q1,q2,q3,q4,b1,b2,q5,q6,q7⟩
theorem gW.note{Q:Unit->Shared->Prop}(F:gW P w (bL (env::outer)) H s e C dx .none H' s')(hfr:A.frames=some (env::outer))(hl:s'.heap.FunFrames base (env::outer))(hf:env.frame=some L)(hfree:∀b∈bL (env::outer),H' b=none)
  (k:∀s2,gW P w (bL (env::outer)) H s e C dx (rawInt L) H' s2->Q () s2):wpAny M A (noteFrame (.ref e) env) Q E s':=by
 obtain⟨oe,vs,T,oT,ts,he,hd,h1,nT,n0,nH,hT,hdT,h3⟩:=F.tb;unfold noteFrame;simp only[hf];refine af (dJ he hd h1 ?_);rw[if_pos (show (Value.ref T != Value.none)=true from by simp)];refine af (dJ hT hdT h3 ?_);rw[if_neg (show ¬ ((Value.none== rawInt L)=true) from by simp[rawInt])];refine af (tB hT hdT (u6.mp h3).1 ?_);have oth:∀b,b≠T->(s'.heap.update T (Obj.mapFields (·.setIfInBounds 3 Value.none))).get? b=s'.heap.get? b:=fun b hb=>mQ _ _ (bc hb);have c1:LJ (bL (env::outer)) e T s'.heap (s'.heap.update T (Obj.mapFields (·.setIfInBounds 3 Value.none))):=
  ⟨fun b o q _ n2 _=>(oth b n2).trans q,fun b o q _ n2=>⟨o.slots,(oth b n2).trans q⟩,fun o ws q qd=>⟨o,ws,(oth e (bc nT)).trans q,rfl,rfl,qd⟩⟩
 have F1:=F.toFly0.chg hfree n0 nH c1;have hl1:(s'.heap.update T (Obj.mapFields (·.setIfInBounds 3 Value.none))).FunFrames base (env::outer):=hl.of_keeps fun b o hb nf=>⟨o,(oth b fun z=>by
  subst z;rw[hT] at hb;cases hb;exact nf ts hdT).trans hb,rfl⟩
 refine wM (s:={s' with heap:=s'.heap.update T (Obj.mapFields (·.setIfInBounds 3 Value.none))}) hfr hl1 hf ((oth e (bc nT)).trans he) hd (u6.mp h1).1 fun h' T' oe' ws oT' ts' hT' c q1 q2 q3 q4 q5 q6 q7=>?_;obtain⟨b1,b2⟩:=F1.back hT';exact k _ ⟨F1.chg hfree b1 b2 c,oe',ws,T',oT',ts',q1,q2,q3,q4,b1,b2,q5,q6,q7⟩
theorem gW.land{Q:Unit->Shared->Prop}(F:gW P w fs H s e C dx fl H' s')(hfree:∀b∈fs,H' b=none)(k:∀s2,gW P w fs H s e C dx .none H' s2->Q () s2):
  wpAny M A (setFlight (.ref e) none) Q E s':=by
 obtain⟨oe,vs,T,oT,ts,he,hd,h1,nT,n0,nH,hT,hdT,h3⟩:=F.tb;have z3:3<ts.size:=(u6.mp h3).1;unfold setFlight;refine af (dJ he hd h1 ?_);rw[if_pos (show (Value.ref T != Value.none)=true from by simp)];refine tB hT hdT z3 ?_;have oth:∀b,b≠T->(s'.heap.update T (Obj.mapFields (·.setIfInBounds 3 ((none:Option Addr).elim Value.none fun f=>rawInt f)))).get? b=s'.heap.get? b:=fun b hb=>mQ _ _ (bc hb);refine k _ ⟨F.toFly0.chg hfree n0 nH ⟨fun b o q _ n2 _=>(oth b n2).trans q,fun b o q _ n2=>⟨o.slots,(oth b n2).trans q⟩,fun o ws q qd=>⟨o,ws,(oth e (bc nT)).trans q,rfl,rfl,qd⟩⟩,?_⟩;exact⟨oe,vs,T,_,_,(oth e (bc nT)).trans he,hd,h1,nT,n0,nH,uz _ hT (wx (sQ hdT _)),sQ hdT _,by simp[z3]⟩
theorem gW.leave{Q:Unit->Shared->Prop}(F:gW P w (bL (env::outer)) H s e C dx .none H' s')(hfr:A.frames=some (env::outer))(hl:s'.heap.FunFrames base (env::outer))(hf:env.frame=some L)(hfree:∀b∈bL (env::outer),H' b=none)
  (k:∀s2,gW P w (bL (env::outer)) H s e C dx .none H' s2->Q () s2):wpAny M A (leaving env (.ref e)) Q E s':=by
 unfold leaving;exact af (F.note hfr hl hf hfree fun s2 F2=>F2.land hfree k)
theorem Fly0.leave{Q:Unit->Shared->Prop}(F:Fly0 P w (bL (env::outer)) H s e C dx H' s')(hfr:A.frames=some (env::outer))(hl:s'.heap.FunFrames base (env::outer))(hf:env.frame=some L)(hfree:∀b∈bL (env::outer),H' b=none)
  (he:s'.heap.get? e=some oe) (hd:oe.data=.fields vs) (h1:vs[1]?=some .none)
  (k:∀s2,gW P w (bL (env::outer)) H s e C dx .none H' s2->Q () s2):wpAny M A (leaving env (.ref e)) Q E s':=by
 unfold leaving;exact af (F.note hfr hl hf hfree he hd h1 fun s2 F2=>F2.land hfree k)
end
noncomputable def dP(P:Program)(w:World):iH:=fun l H s E e s'=>∃ea C dx H',e=.ref ea/\gW P w (bL l) H s ea C dx .none H' s'/\E e none H'
theorem dP.never:∀outer H s e s',¬ dP P w outer H s E0 e s':=fun _ _ _ _ _ ⟨_,_,_,_,_,_,z⟩=>z
abbrev og(X:Cx)(E:XK):aJ:=fun e s'=>wpAny (model X.prog X.w) X.A (leaving X.env e) (fun _ s2=>dP X.prog X.w X.outer X.mY X.aR E e s2) (fun e' s2=>dP X.prog X.w X.outer X.mY X.aR E e' s2) s'
section
variable {X:Cx}{pins:aO}{σ:L2.St}{H H':L2.Hp}{s s':Shared}{E:XK}{e C:Addr}{dx:Option Addr}{fl:Value}
theorem gW.up(I:Inv X pins σ H s)(hx:X.ex=[])(hs:X.stack=X.env::X.outer)(hfm:X.env.frame=some X.env.locals)(F:gW X.prog X.w (bL X.stack) H s e C dx fl H' s'):
  gW X.prog X.w (bL X.outer) X.mY X.aR e C dx fl H' s':=by
 have back:∀T,s.heap.get? T=none->X.aR.heap.get? T=none:=fun T q=>by
  cases z:X.aR.heap.get? T with
  |none=>rfl
  |some o=>
   obtain⟨o',z'⟩:=I.base.there T o z (by rw[hx];simp);rw[q] at z';cases z'
 have b0:Un (bL X.outer) [] X.mY H X.aR.heap s.heap:=hx▸I.base;have sub:∀b,b∈bL X.outer->b∈bL X.stack:=fun b hb=>by
  rw[hs];show b∈(X.env::X.outer).filterMap (·.frame);rw[Cf,hfm];exact fK _ hb
 have o9:=(b0.mono (fs':=bL X.stack) (ex':=[]) sub fun _ z=>z).trans F.un;have ex:∀b o,X.aR.heap.get? b=some o->b∉bL X.outer->b∉bL X.stack:=fun b o q hb hm=>by
  rcases cQ.mp (I.m5 b hm) with z|z
  .exact absurd (bp q) (by rw[z];exact lE.mpr I.ok.above)
  .exact hb z
 obtain⟨oe,vs,T,oT,ts,he,hd,h1,nT,n0,r⟩:=F.tb;exact⟨⟨F.os.trans I.os,F.bare,⟨fun b o q n hb hx'=>o9.keep b o q n (ex b o q hb) hx',fun b o q n hb hx'=>o9.slot b o q n (sub b hb) hx',o9.free,o9.there,o9.f6,o9.fP,o9.gB⟩,F.av,F.tr,back _ F.new⟩,oe,vs,T,oT,ts,he,hd,h1,nT,back _ n0,r⟩
theorem Fly0.inv(I:Inv X pins σ H s)(F:Fly0 X.prog X.w (bL X.stack) H s e C dx H' s'):Inv X pins σ H' s':=I.IG F.os F.un F.av F.bare (fun b z=>absurd z (by simp))
theorem Ig(hx:X.ex=[])(hs:X.stack=X.env::X.outer)(hfm:X.env.frame=some X.env.locals)(hxe:X.xe=og X E):Passes (dP X.prog X.w) X E:=fun pins σ H s e s' I ⟨ea,C,dx,H',ee,F,q⟩=>by
 subst ee;rw[hxe];have J:=F.toFly0.inv I;have fr:=J.kG;have st:=J.stack;have fm:=J.ok.frames;rw[hs] at fr st fm F;refine F.leave (base:=X.base) fm st hfm fr fun s2 F2=>?_;rw[<-hs] at F2;exact⟨ea,C,dx,H',rfl,F2.up I hx hs hfm,q⟩
theorem Ex(hx:X.ex=[])(hs:X.stack=X.env::X.outer)(hfm:X.env.frame=some X.env.locals)(hxe:X.xe=og X E)(I:Inv X pins σ H s)(F:Fly0 X.prog X.w (bL X.stack) H s e C dx H' s')
  (he:s'.heap.get? e=some oe) (hd:oe.data=.fields vs) (h1:vs[1]?=some .none) (q:E (.ref e) none H'):X.xe (.ref e) s':=by
 rw[hxe];have J:=F.inv I;have fr:=J.kG;have st:=J.stack;have fm:=J.ok.frames;rw[hs] at fr st fm F;refine F.leave (base:=X.base) fm st hfm fr he hd h1 fun s2 F2=>?_;rw[<-hs] at F2;exact⟨e,C,dx,H',rfl,F2.up I hx hs hfm,q⟩
end
end TwS
namespace TwS
open PySem L2 PyProof.Rows Builtin Builtin.ObjectAttr
noncomputable def fG:List Value:=[.type "ValueError",.type "Exception",.type "BaseException",.type "object"]
structure XC(K:W.Frag)(C:Addr):Prop where
 mro:∃(cd:ClassData) (os:List Addr),W.clsIn K C=some cd/\cd.mro=.ref C::(os.map Value.ref++fG)/\cd.hasDict=true
 sa:W.findIn K (.ref C) "__setattr__" = some (some (.builtin "object.__setattr__"))
 ga:W.findIn K (.ref C) "__getattribute__" = some (some (.builtin "BaseException.__getattribute__"))
 gh:W.findIn K (.ref C) "__getattr__" = some none
theorem qX(self:Value):∀os:List Addr,refuseLoop self "__setattr__" (os.map Value.ref++fG)=pure ()
 |[]=>PySem.F.store_ValueError.passes self
 |a::r=>by rw[aX,pf,refuseLoop_ref];exact qX self r
theorem JW(os:List Addr)(v:Value)(h:fG.contains v=true):(os.map Value.ref++fG).contains v=true:=by rw[List.contains_append,h,Bool.or_true]
theorem XC.sub{K:W.Frag}{C:Addr}(c:XC K C){v:Value}(h:fG.contains v=true):W.mroIn K C v=some true:=by obtain⟨cd,os,e1,e2,_⟩:=c.mro;unfold W.mroIn;rw[e1,qO,e2];show some ((Value.ref C::(os.map Value.ref++fG)).contains v)=_;rw[List.contains_cons,JW os v h,Bool.or_true]
section
variable {prog:Program}{w:World}{A:Around}{E:aJ}{s:Shared}{K:W.Frag}{x C:Addr}{ox:Obj}{name:Str}{v:Value}
theorem T3{od:Option Obj}{tk:Tok}{R:Result->Shared->Prop}(X:K.In s.heap)(I:W.InstAt s.heap x ox C od)(c:XC K C)(n:aZ K C name)
  (h:∀b,wpAny (model prog w) A.in1 (storeInOwnDict (.ref x) (.ref C) (.str name tk) name v b) (fun fin s'=>match fin with | .done f=>R (.ok f) s' | .again c'=>c'.quiet=true/\codeAny (model prog w) A c' R s') (fun e s'=>R (.error e) s') s):
  codeAny (model prog w) A (.call (.builtin "object.__setattr__") ⟨[.ref x,.str name tk,v],[]⟩) R s:=by
 have F:=PySem.F.store_object;obtain⟨cd,os,e1,e2,_⟩:=c.mro;have sub:W.Looks (model prog w) s.heap (isInstance (.ref x) (.type "object")) true:=I.type.andThen (AZ X (c.sub (by decide)));refine v8 F.slot.plain F.entry (@A0 (model prog w) _ _ s "object.__setattr__" "object" "__setattr__" (.ref x) [.str name tk,v] [] _ F.kind F.split sub (F.args (.ref x) (.str name tk) v) ?_);have hm:W.Looks (model prog w) s.heap (mroOf (.ref C)) cd.mro:=(v7 X e1).andThen .now;rw[W.osa_eq,refuse_eq];refine af (af (I.type.here (af (hm.here ?_))));rw[e2,refuseLoop_ref,qX];refine ah (af (I.type.here (af ((mG X n).here (af (ah ?_))))));exact h _
theorem HX{Q:Unit->Shared->Prop}(X:K.In s.heap)(I:W.InstAt s.heap x ox C od)(c:XC K C)(n:aZ K C name)
  (h:∀b,wpAny (model prog w) A.in1 (storeInOwnDict (.ref x) (.ref C) (.str name s.toks) name v b) (fun fin s'=>match fin with | .done (.ret _)=>Q () s'|_=>False) (fun e s'=>E e s') {s with toks:=s.toks+1}):
  wpAny (model prog w) A (setAttr (.ref x) name v) Q E s:=by
 refine W.set_plain X I c.sa (T3 (s:={s with toks:=s.toks+1}) X I c n fun b=>fj (h b) (fun fin s' z=>?_) fun _ _ z=>z);rcases fin with (_|_|_|_)|_<;>first|exact z|exact z.elim
theorem NS{Q:Unit->Shared->Prop}(X:K.In s.heap)(hx:s.heap.get? x=some ox)(hc:ox.cls=.ref C)(hd:ox.dict=none)(hf:ox.data=.fields vs)(c:XC K C)(n:aZ K C name)
  (h:∀h' t',h'.Ns1 s.heap.objs.size (fun y=>if y=name then some v else none)->h'.get? x=some {ox with dict:=some s.heap.objs.size}->(∀b o,b≠x->s.heap.get? b=some o->h'.get? b=some o)->Q () {s with heap:=h',toks:=t'}):
  wpAny (model prog w) A (setAttr (.ref x) name v) Q E s:=by
 obtain⟨cd,os,e1,e2,e3⟩:=c.mro;have I:W.InstAt s.heap x ox C none:=⟨hx,hc,by unfold W.notCls;rw[hf],by rw[hd];trivial⟩;refine HX X I c n fun b=>?_;obtain⟨oc,od,oda,osl⟩:=ox;simp only at hc hd hf;subst hc hd hf;unfold storeInOwnDict ownDictForStores instanceDict;refine af (ah (af (af (wd (s:={s with toks:=s.toks+1}) hx (af (B6 (s:={s with toks:=s.toks+1}) (v7 X e1) ?_))))));rw[e3];have hx1:(s.heap.push {cls:=.type "dict",data:=.dict #[]}).get? x=some ⟨.ref C,none,.fields vs,osl⟩:=bj _ hx;have ne:x≠s.heap.objs.size:=b7 (bp hx);refine af (wpAny_alloc (af (wpAny_update hx1 ?_)));refine ah (a:=some s.heap.objs.size) ?_;have gd:((s.heap.push {cls:=.type "dict",data:=.dict #[]}).update x fun o=>{o with dict:=some s.heap.objs.size}).get? s.heap.objs.size=some {cls:=.type "dict",data:=.dict #[]}:=
  (mQ _ _ ne).trans (Heap.get?_push_at rfl rfl)
 have gx:((s.heap.push {cls:=.type "dict",data:=.dict #[]}).update x fun o=>{o with dict:=some s.heap.objs.size}).get? x=some ⟨.ref C,some s.heap.objs.size,.fields vs,osl⟩:=uz _ hx1 rfl;have nd:((s.heap.push {cls:=.type "dict",data:=.dict #[]}).update x fun o=>{o with dict:=some s.heap.objs.size}).Ns s.heap.objs.size (fun _=>none):=⟨_,#[],_,gd,rfl,fun e he=>absurd he (by simp),fun _=>rfl⟩;show wpAny _ _ (storeInDict s.heap.objs.size (.str name s.toks) name v) _ _ _;unfold storeInDict newKeyGuard;refine af (ah (af (wpAny_nsSet1 (Heap.Ns1.of_empty nd) fun h' hn' hs=>?_)));obtain⟨oD,esD,epD,hoD,hdD,hcD⟩:=hn'.count (Within.cons name v Within.nil);refine af (AM hoD (by rw[hdD];exact A9 (cS hcD (by rw[dX,lO,fA];omega))) ?_);refine ah (h h' _ hn' ((hs.2 x ne).trans gx) fun b o nb q=>?_);exact (hs.2 b (b7 (bp q))).trans ((mQ _ _ (bc nb)).trans (bj _ q))
theorem KU{mA:Str->Option Value}{Q:Unit->Shared->Prop}(X:K.In s.heap)(hx:s.heap.get? x=some ox)(hc:ox.cls=.ref C)(hd:ox.dict=some dx)(hf:ox.data=.fields vs)(hn:s.heap.Ns1 dx mA)(c:XC K C)(n:aZ K C name)
  (hw:PySem.Within mA ns) (hsz:ns.length<=1000)
  (h:∀h' t',h'.Ns1 dx (fun y=>if y=name then some v else mA y)->(∀b,b≠dx->h'.get? b=s.heap.get? b)->Q () {s with heap:=h',toks:=t'}):
  wpAny (model prog w) A (setAttr (.ref x) name v) Q E s:=by
 obtain⟨cd,os,e1,e2,e3⟩:=c.mro;obtain⟨od,es,ep,ho,r⟩:=id hn;have I:W.InstAt s.heap x ox C (some od):=⟨hx,hc,by unfold W.notCls;rw[hf],by rw[hd];exact ho⟩;refine HX X I c n fun b=>?_;obtain⟨oc,odi,oda,osl⟩:=ox;simp only at hc hd hf;subst hc hd hf;unfold storeInOwnDict ownDictForStores instanceDict;refine af (ah (af (af (wd (s:={s with toks:=s.toks+1}) hx (af (B6 (s:={s with toks:=s.toks+1}) (v7 X e1) ?_))))));rw[e3];refine ah (a:=some dx) ?_;show wpAny _ _ (storeInDict dx (.str name s.toks) name v) _ _ _;unfold storeInDict newKeyGuard;refine af (ah (af (wpAny_nsSet1 (s:={s with toks:=s.toks+1}) hn fun h' hn' hs=>?_)));obtain⟨oD,esD,epD,hoD,hdD,hcD⟩:=hn'.count (Within.cons name v hw);refine af (AM hoD (by rw[hdD];exact A9 (cS hcD (by rw[dX,fA];omega))) ?_);exact ah (h h' _ hn' hs.2)
theorem Pu{od:Obj}{Q:aJ}(X:K.In s.heap)(I:W.InstAt s.heap x ox C (some od))(c:XC K C)(n:aZ K C name)(hl:W.lookIn name od=some (some v))(hv:W.handedIn v=true)
  (h:Q v {s with toks:=s.toks+1}):wpAny (model prog w) A (getAttr (.ref x) name true) Q E s:=by
 obtain⟨cd,os,e1,e2,e3⟩:=c.mro;obtain⟨hh,g,d,t,ost⟩:=s;have L0:=I.type (M:=model prog w);have L1:=mG (M:=model prog w) X c.ga;have L2:=mG (M:=model prog w) X c.gh;have hf:W.findObj K C (some od) name=some (.value v):=W.findObj_own (by unfold W.hasDictIn;rw[e1];exact e3) n rfl hl;have L3:=W.looks_find (M:=model prog w) X I hf;have LB:W.Looks (model prog w) hh (isInstance (.ref x) (.type "BaseException")) true:=L0.andThen (AZ X (c.sub (by decide)));have G:=PySem.F.excAttr_ValueError.ga;unfold getAttr getAttrBy;refine af (wpAny_mkText (eX (af (L0.at (af (L1.at ?_))))));show wpAny _ _ (getAttrByItsOwn _ _ _ _ _ _) _ _ _;unfold getAttrByItsOwn;refine af (L2.at (af (ug (eX ?_))));show wpAny _ _ (boundAndCalled _ _ _) _ _ _;unfold boundAndCalled;rw[G.bind];refine af (ah (jI (v8 G.plain PySem.F.entry_bexc_ga (@A0 (model prog w) _ _ _ "BaseException.__getattribute__" "BaseException" "__getattribute__" (.ref x) [.str name t] [] _ (by decide+kernel) (by decide+kernel) LB (PySem.F.args_bexc_ga _ _) ?_))));refine af (ah (af (ah (af (L0.at (af (L3.at ?_)))))));refine ah ?_;show wpAny _ _ (handedOut v) _ _ _;rw[W.handedOut_of hv];exact ah h
end
end TwS
namespace TwS
open PySem L2 PyProof.Rows
noncomputable def gU(C:Addr)(d:Option Addr)(e:Addr):HO:=.ext fun h=>∃o vs,h.get? e=some o/\o.cls=.ref C/\o.dict=d/\o.data=.fields vs/\vs[1]?=some .none
theorem gU.ok(e1:h.get? e=some o)(e2:o.cls=.ref C)(e3:o.dict=d)(e4:o.data=.fields vs)(e5:vs[1]?=some .none):bT P w H h e (gU C d e):=
 ⟨⟨o,vs,e1,e2,e3,e4,e5⟩,⟨o,e1⟩,fun h1 h2 ⟨o,vs,a,b⟩ k=>⟨o,vs,k o a,b⟩⟩
theorem CL(n:dx≠e):upd (upd (upd H dx a) e x) dx b=upd (upd H dx b) e x:=by
 funext c;unfold upd;by_cases h1:c=dx
 .subst h1;simp[n]
 .by_cases h2:c=e
  .subst h2;simp[h1]
  .simp[h1,h2]
theorem Gd(n:dx≠e):upd (upd (upd H e a) dx b) e x=upd (upd H dx b) e x:=by
 funext c;unfold upd;by_cases h1:c=e
 .subst h1;simp
 .simp[h1]
section
variable {X:Cx}{pins:aO}{σ:L2.St}{H H':L2.Hp}{s s':Shared}{x dx C:Addr}{A:Around}{E:aJ}
theorem Inv.Nl(I:Inv X pins σ H s)(os:s'.os=s.os)(ba:AllBare s'.gens)(hx:∃φ,H x=some (.ext φ))(hd:(H dx=none/\s.heap.objs.size<=dx)\/∃gs,H dx=some (.xd gs))(sm:∀b,b≠x->b≠dx->H' b=H b)
  (kp:∀b o,b≠x->b≠dx->s.heap.get? b=some o->s'.heap.get? b=some o) (tx:∃o,s'.heap.get? x=some o) (td:∃o,s'.heap.get? dx=some o)
  (ox:∀u,H' x=some u->bT X.prog X.w H' s'.heap x u) (od:∀u,H' dx=some u->bT X.prog X.w H' s'.heap dx u):Inv X pins σ H' s':=by
 obtain⟨φ,hx⟩:=hx;have nx:∀b u,H b=u->(∀φ,u≠some (.ext φ))->b≠x:=fun b u q n z=>n φ (by rw[<-q,z];exact hx);have nd:∀b o,s.heap.get? b=some o->H b=none->b≠dx:=fun b o q n z=>by
  rcases hd with ⟨_,d⟩|⟨gs,d⟩
  .exact absurd (bp q) (by rw[z];exact lE.mpr d)
  .rw[z,d] at n;cases n
 have nd':∀b u,H b=some u->(∀gs,u≠.xd gs)->b≠dx:=fun b u q n z=>by
  rcases hd with ⟨d,_⟩|⟨gs,d⟩
  .rw[z,d] at q;cases q
  .rw[z,d] at q;cases q;exact n _ rfl
 have one:∀b u,H b=some u->(∀φ,u≠.ext φ)->(∀gs,u≠.xd gs)->H' b=some u:=fun b u q n1 n2=>by
  rw[sm b (nx b _ q fun φ z=>n1 φ (eO z)) (nd' b u q n2)];exact q
 refine I.IG os ⟨fun b o q n _ _=>?_,fun b o q n _ _=>?_,fun b o q n _=>?_,fun b o q _=>?_,fun b xs q=>one b _ q (fun _ z=>nomatch z) (fun _ z=>nomatch z),fun b o u q=>one b _ q (fun _ z=>nomatch z) (fun _ z=>nomatch z),fun b ps q=>⟨#[],?_⟩⟩ (fun a o q=>?_) ba (ch:=[]) (fun b z=>absurd z (by simp))
 .exact kp b o (nx b _ n (fun _ z=>nomatch z)) (nd b o q n) q
 .exact⟨o.slots,kp b o (nx b _ n (fun _ z=>nomatch z)) (nd b o q n) q⟩
 .rw[sm b (nx b _ n (fun _ z=>nomatch z)) (nd b o q n)];exact n
 .by_cases z:b=x
  .subst z;exact tx
  .by_cases z2:b=dx
   .subst z2;exact td
   .exact⟨o,kp b o z z2 q⟩
 .rw[one b _ q (fun _ z=>nomatch z) (fun _ z=>nomatch z)];simp
 .by_cases z:a=x
  .subst z;exact ox o q
  .by_cases z2:a=dx
   .subst z2;exact od o q
   .rw[sm a z z2] at q;refine (I.av a o q).fT (fun b u hb r=>?_) (fun b hb=>one b _ hb (fun _ z=>nomatch z) (fun _ z=>nomatch z)) fun b xs hb=>one b _ hb (fun _ z=>nomatch z) (fun _ z=>nomatch z);rcases hb with rfl|hb
    .exact kp b u z z2 r
    .exact kp b u (nx b _ hb (fun _ z=>nomatch z)) (nd' b _ hb (fun _ z=>nomatch z)) r
theorem G1{f g:Str}{y:V}{u:Value}(ry:RelV y u):eU (List.lookup g [(f,y)]) (if g=f then some u else none):=by
 by_cases h:g=f
 .subst h;simp[List.lookup];exact ry
 .have:(g== f)=false:=gG.mpr h;simp[List.lookup,this,h,eU]
theorem Gu{f:Str}{y:V}{u:Value}{Q:Unit->Shared->Prop}(I:Inv X pins σ H s)(e:H x=some (gU C none x))(c:XC X.K C)(n:aZ X.K C f)(ry:RelV y u)
  (h:∀dx s',H dx=none->dx≠x->Inv X pins σ (upd (upd H dx (.xd [(f,y)])) x (gU C (some dx) x)) s'->Q () s'):wpAny (model X.prog X.w) A (setAttr (.ref x) f u) Q E s:=by
 obtain⟨⟨o,vs,e1,e2,e3,e4,e5⟩,_,_⟩:=I.av x _ e;refine NS I.bE e1 e2 e3 e4 c n fun h' t' k1 k2 k3=>?_;have hf:=I.av.fresh (aG s.heap.objs.size);have ne:s.heap.objs.size≠x:=(b7 (bp e1)).symm;refine h s.heap.objs.size _ hf ne (Inv.Nl (x:=x) (dx:=s.heap.objs.size) I rfl I.bare ⟨_,e⟩ (.inl ⟨hf,aG _⟩) (fun b n1 n2=>by rw[az n1,az n2]) (fun b o n1 _ q=>k3 b o n1 q) ⟨_,k2⟩ ?_ (fun u' q=>?_) fun u' q=>?_)
 .obtain⟨o,_,_,q,_⟩:=k1;exact⟨o,q⟩
 .rw[aM] at q;cases q;exact gU.ok k2 e2 rfl e4 e5
 .rw[az ne,aM] at q;cases q;exact⟨_,k1,fun g=>G1 ry⟩
theorem Gx{Q:Unit->Shared->Prop}(I:Inv X pins σ H s)(e:H x=some (gU C (some dx) x))(ed:H dx=some (.xd gs))(hl:gs.length<=1000)(c:XC X.K C)(n:aZ X.K C f)(ry:RelV y u)
  (h:∀s',Inv X pins σ (upd H dx (.xd (dU f y gs))) s'->Q () s'):wpAny (model X.prog X.w) A (setAttr (.ref x) f u) Q E s:=by
 obtain⟨⟨o,vs,e1,e2,e3,e4,e5⟩,_,_⟩:=I.av x _ e;obtain⟨mA,n1,r1⟩:=I.av dx _ ed;have ne:dx≠x:=fun z=>by rw[z,e] at ed;cases ed
 refine KU (ns:=gs.map (·.1)) I.bE e1 e2 e3 e4 n1 c n (fun g hg=>?_) (by simpa using hl) fun h' t' k1 k2=>?_
 .have:=r1 g;cases q:gs.lookup g with
  |none=>
   rw[q] at this;cases q2:mA g with
   |none=>exact absurd q2 hg
   |some v=>rw[q2] at this;exact this.elim
  |some v=>exact pP.mpr ⟨(g,v),kC q,rfl⟩
 .refine h _ (Inv.Nl (x:=x) (dx:=dx) I rfl I.bare ⟨_,e⟩ (.inr ⟨_,ed⟩) (fun b n1 n2=>by rw[az n2]) (fun b o _ n2 q=>(k2 b n2).trans q) ⟨_,(k2 x (bc ne)).trans e1⟩ ?_ (fun u' q=>?_) fun u' q=>?_)
  .obtain⟨o,_,_,q,_⟩:=k1;exact⟨o,q⟩
  .rw[az (bc ne),e] at q;cases q;exact gU.ok ((k2 x (bc ne)).trans e1) e2 e3 e4 e5
  .rw[aM] at q;cases q;refine⟨_,k1,fun g=>?_⟩;rw[mU];by_cases z:g=f
   .rw[if_pos z,if_pos z];exact ry
   .rw[if_neg z,if_neg z];exact r1 g
def tX(K:W.Frag)(j:Nat)(f:Str):TS:=fun D σ H=>∃e v C,σ[0]?=some (some (.ref e))/\σ[j]?=some (some v)/\XC K C/\aZ K C f/\
 ((H e=some (gU C none e)/\∀dx,H dx=none->dx≠e->D.nx σ (upd (upd H dx (.xd [(f,v)])) e (gU C (some dx) e)))\/∃dx gs,H e=some (gU C (some dx) e)/\H dx=some (.xd gs)/\gs.length<=1000/\D.nx σ (upd H dx (.xd (dU f v gs))))
theorem TV(h0:X.N[0]?=some sf)(v0:jP X.env.scope sf)(hj:X.N[j]?=some y)(vj:jP X.env.scope y)(d0:(sf== ("__debug__" : Str))=false)(c0:(sf== ("__classdict__" : Str))=false)(dj:(y== ("__debug__" : Str))=false)(cj:(y== ("__classdict__" : Str))=false):
  PS X (.Assign [.Attribute (.Name sf p1) f p2] (.Name y p3) pos) (tX X.K j f):=by
 intro pins s σ H D I ⟨e,v,C,q0,q1,c,n,h⟩;refine IH (aF (jU hj vj dj cj pins s σ H (fun y' H1=>y'=v/\H1=H) I ⟨v,q1,rfl,rfl⟩) fun u s1 Z=>Z.g4 fun y' H1 I1 ry Z=>Z.g fun e1 e2=>aF (jU h0 v0 d0 c0 pins s1 σ H1 (fun x' H2=>x'=.ref e/\H2=H1) I1 ⟨_,q0,rfl,rfl⟩) fun ov s2 Z=>Z.g4 fun x' H2 I2 rx Z=>Z.g fun e3 e4=>?_) rfl;subst e1 e2 e3 e4;obtain rfl:ov=Value.ref e:=rx;rcases h with ⟨he,k⟩|⟨dx,gs,he,hd,hl,k⟩
 .exact Gu I2 he c n ry fun dx s3 z1 z2 I3=>⟨σ,_,I3,k dx z1 z2⟩
 .exact Gx I2 he hd hl c n ry fun s3 I3=>⟨σ,_,I3,k⟩
end
end TwS
namespace TwS
open PySem L2
abbrev Rl(α β:Type):=W.Frag->(Nat->Addr)->Nat->L2.Hp->α->β->Prop
def ai(K:Zk){α β:Type}(R:Rl α β)(ι:Nat->Addr)(h:Tw.Hp)(H:L2.Hp)(m:Tw.R α)(Q:β->L2.Hp->Prop):Prop:=match m with
 |.ok a h'=>∀ι' H' b,Ext ι h H ι' h' H'->HR K ι' h' H'->R K.K ι' h'.length H' a b->Q b H'
 |.au a h'=>∀ι' H',Ext ι h H ι' h' H'->HR K ι' h' H'->K.ex (.ref (ι' a)) none H'
 |.bad=>False
structure At(K:Zk)(ι:Nat->Addr)(h:Tw.Hp)(H:L2.Hp)(ρ:Tw.Env)(σ:L2.St):Prop where
 hr:HR K ι h H
 len:σ.length=ρ.length
 st:∀(i:Nat)(w:Tw.W),ρ[i]?=some (some w)->∃v,σ[i]?=some (some v)/\RW K.K ι h.length H w v
noncomputable def tG(K:Zk){α β:Type}(R:Rl α β)(d:Tw.Env->Tw.Hp->Tw.R α):L2.St->L2.Hp->(β->L2.Hp->Prop)->Prop:=
 fun σ H Q=>∃ρ h ι,At K ι h H ρ σ/\ai K R ι h H (d ρ h) Q
noncomputable abbrev RE:Rl Tw.W V:=fun K ι n H w v=>RW K ι n H w v
noncomputable abbrev RA(k:Nat):Rl (List Tw.W) (List V):=fun K ι n H w v=>aT K ι n H w v/\w.length=k
noncomputable abbrev RB:Rl Bool Bool:=fun _ _ _ _ a b=>a=b
abbrev tE(K:Zk)(d:Tw.Env->Tw.Hp->Tw.R Tw.W):TE:=tG K RE d
section
variable {K:Zk}{α β γ δ:Type}{R:Rl α β}{R':Rl γ δ}{ι ι1:Nat->Addr}{h h1:Tw.Hp}{H H1:L2.Hp}{ρ:Tw.Env}{σ:L2.St}{m:Tw.R α}
theorem ai.mono{Q Q':β->L2.Hp->Prop}(p:ai K R ι h H m Q)(f:∀b H',Q b H'->Q' b H'):ai K R ι h H m Q':=by
 cases m with
 |ok a h'=>exact fun ι' H' b e r q=>f _ _ (p ι' H' b e r q)
 |au=>exact p
 |bad=>exact p
theorem ai.later{Q:β->L2.Hp->Prop}(p:ai K R ι h H m Q)(e:Ext ι h H ι1 h1 H1):ai K R ι1 h1 H1 m Q:=by
 cases m with
 |ok a h'=>exact fun ι' H' b e' r q=>p ι' H' b (e.trans e') r q
 |au a h'=>exact fun ι' H' e' r=>p ι' H' (e.trans e') r
 |bad=>exact p
theorem At.later(a:At K ι h H ρ σ)(e:Ext ι h H ι1 h1 H1)(r:HR K ι1 h1 H1):At K ι1 h1 H1 ρ σ:=
 ⟨r,a.len,fun i w q=>let ⟨v,q1,q2⟩:=a.st i w q;⟨v,q1,q2.keep (e.keeps a.hr)⟩⟩
theorem step{k:α->Tw.Hp->Tw.R γ}{Q:δ->L2.Hp->Prop}(a:At K ι h H ρ σ)(p:ai K R' ι h H (m.bind k) Q):
  ai K R ι h H m (fun x H1=>∃w h1 ι1,At K ι1 h1 H1 ρ σ/\Ext ι h H ι1 h1 H1/\R K.K ι1 h1.length H1 w x/\ai K R' ι1 h1 H1 (k w h1) Q):=by
 cases m with
 |ok w h1=>exact fun ι' H' b e r q=>⟨w,h1,ι',a.later e r,e,q,ai.later p e⟩
 |au a h'=>exact p
 |bad=>exact p
theorem ai.self{Q:β->L2.Hp->Prop}(p:ai K R ι h H (.ok a h) Q)(r:HR K ι h H)(q:R K.K ι h.length H a b):Q b H:=p ι H b (Ext.refl ι h H) r q
theorem ai.tup(p:ai K RE ι h H (.ok (.tup ws) h) Q)(r:HR K ι h H)(q:aT K.K ι h.length H ws xs):∀a,H a=none->Q (.ref a) (upd H a (.tup xs)):=fun a ha=>by
 obtain⟨r',e⟩:=r.grow (o:=.tup xs) ha;exact p ι _ _ e r' (.tup (.inl aM) (q.keep (e.keeps r)))
theorem ai.lst(p:ai K RE ι h H (Tw.new (.lst ws) h) Q)(r:HR K ι h H)(q:aT K.K ι h.length H ws xs):∀a,H a=none->Q (.ref a) (upd H a (.lst xs)):=fun a ha=>by
 obtain⟨r',e⟩:=r.new (u:=.lst ws) (o:=.lst xs) ha rfl fun ι' n' H' k e=>⟨xs,e,q.keep k⟩;refine p _ _ (.ref a) e r' ?_;have z:RW K.K (fR ι h.length a) (h++[Tw.O.lst ws]).length (upd H a (.lst xs)) (.ref h.length) (.ref (fR ι h.length a h.length)):=.ref (by simp);rw[cY] at z;exact z
theorem ai.aj(p:ai K RE ι h H (Tw.new (.aj kvs) h) Q)(r:HR K ι h H)(q:RD K.K ι h.length H kvs xs):∀a,H a=none->Q (.ref a) (upd H a (.dK xs)):=fun a ha=>by
 obtain⟨r',e⟩:=r.new (u:=.aj kvs) (o:=.dK xs) ha rfl fun ι' n' H' k e=>⟨xs,e,q.keep k⟩;refine p _ _ (.ref a) e r' ?_;have z:RW K.K (fR ι h.length a) (h++[Tw.O.aj kvs]).length (upd H a (.dK xs)) (.ref h.length) (.ref (fR ι h.length a h.length)):=.ref (by simp);rw[cY] at z;exact z
end
theorem PE.imp(p:PE X e t)(f:∀σ H Q,t' σ H Q->t σ H Q):PE X e t':=fun pins s σ H Q I q=>p pins s σ H Q I (f σ H Q q)
theorem PT.imp(p:PT X e t)(f:∀σ H Q,t' σ H Q->t σ H Q):PT X e t':=fun pins s σ H Q I q=>p pins s σ H Q I (f σ H Q q)
theorem PW.imp(p:PW X e t)(f:∀σ H Q,t' σ H Q->t σ H Q):PW X e t':=fun wh pins s σ H Q I q=>p wh pins s σ H Q I (f σ H Q q)
theorem PA.imp(p:PA X e t)(f:∀σ H Q,t' σ H Q->t σ H Q):PA X e t':=fun pos pins s σ H Q I q=>p pos pins s σ H Q I (f σ H Q q)
theorem PS.imp(p:PS X e t)(f:∀D σ H,t' D σ H->t D σ H):PS X e t':=fun pins s σ H D I q=>p pins s σ H D I (f D σ H q)
theorem ff.imp(p:ff X e t)(f:∀D σ H,t' D σ H->t D σ H):ff X e t':=fun pins s σ H D I q=>p pins s σ H D I (f D σ H q)
section
variable {K:Zk}{ι:Nat->Addr}{h:Tw.Hp}{H:L2.Hp}
theorem HR.lst(r:HR K ι h H)(e:h[i]?=some (.lst ws)):∃xs,H (ι i)=some (.lst xs)/\aT K.K ι h.length H ws xs:=r.obj i _ e
theorem HR.aj(r:HR K ι h H)(e:h[i]?=some (.aj kvs)):∃xs,H (ι i)=some (.dK xs)/\RD K.K ι h.length H kvs xs:=r.obj i _ e
theorem HR.at(r:HR K ι h H)(e:Tw.bg h i=some ws):∃xs,bJ K.K H (ι i) xs/\aT K.K ι h.length H ws xs:=by
 unfold Tw.bg at e;split at e
 .next q=>cases e;obtain⟨xs,q1,q2⟩:=r.obj i _ q;exact⟨xs,bJ.of q1,q2⟩
 .next q=>cases e;obtain⟨xs,q1,q2⟩:=r.obj i _ q;exact⟨xs,q1.sq,q2⟩
 .cases e
end
theorem DM(n:Nat)(i:Int):Tw.iX n i=L2.iX n i:=rfl
theorem aT.cH{ι:Nat->Addr}(r:aT K ι n H ws xs)(e:Tw.cH ws i=some w):∃v,L2.cH xs i=some v/\RW K ι n H w v:=by
 unfold Tw.cH at e;unfold L2.cH;rw[<-r.length,<-DM];cases q:Tw.iX ws.length i with
 |none=>rw[q] at e;cases e
 |some j=>
  rw[q] at e;exact r.get e
theorem kT(n d:Nat)(o:Option Int):Tw.aV n d o=HT.aV n d o:=by
 cases o with
 |none=>rfl
 |some v=>first|rfl|(unfold Tw.aV HT.aV;split<;>first|rfl|omega|(simp;omega))
theorem aT.cut{ι:Nat->Addr}(r:aT K ι n H ws xs)(lo hi:Option Int):aT K ι n H (Tw.cut ws lo hi) (p7 xs lo hi):=by unfold Tw.cut p7;rw[kT,kT,r.length];exact (r.drop _).take _
end TwS
namespace TwS
open PySem L2 PyProof.Rows
theorem xQ:seqRepeat? (.type "tuple")=pure (some (.builtin "tuple.__mul__")):=by unfold seqRepeat?;have e1:seqSlot? (.type "tuple") (Str.ofString "__mul__")=pure (some (.builtin "tuple.__mul__")):=PySem.seqSlot_of PySem.F.slot_tuple_mul.lookup (by decide+kernel);have e2:seqSlot? (.type "tuple") (Str.ofString "__rmul__")=pure (some (.builtin "tuple.__rmul__")):=PySem.seqSlot_of PySem.F.slot_tuple_rmul.lookup (by decide+kernel);rw[e1,e2];rfl
theorem r6:fillsNumberSlot (.type "tuple") "mul" = pure false:=
 PySem.fillsNumberSlot_seq PySem.F.slot_tuple_mul.lookup (by decide+kernel) PySem.F.slot_tuple_rmul.lookup (by decide+kernel)
theorem Bu(a:Int)(t:Tok)(l:Addr)(items:Array Value)(n:Nat)(dd:Option Addr)(sl:Array (Option Value)):
  Meets (Builtin.«int.__rmul__» {pos:=[Value.int a t,Value.ref l]}) fun _ R s=>s.heap.get? l=some ⟨.type "tuple",dd,.seq items n,sl⟩/\R (.ok (.ret .notImplemented)) s:=
 Meets.of_wp fun prog w A R s h=>by
  obtain⟨hp,g,d,tk,os⟩:=s;obtain⟨hl,h⟩:=h;refine af ?_;refine ah ?_;refine af ?_;refine af ?_;refine ah ?_;refine ah ?_;refine af ?_;refine af ?_;refine wpAny_load' hl ?_;refine ah ?_;refine af ?_;refine qA ?_;refine ah ⟨_,rfl,h⟩
theorem AN(u:Tok)(l:Addr)(items:Array Value)(n:Nat)(dd:Option Addr)(sl:Array (Option Value)):
  Meets (Builtin.«tuple.__mul__» {pos:=[Value.ref l,Value.int 1 u]}) fun _ R s=>s.heap.get? l=some ⟨.type "tuple",dd,.seq items n,sl⟩/\R (.ok (.ret (.ref l))) s:=
 Meets.of_wp fun prog w A R s h=>by
  obtain⟨hp,g,d,tk,os⟩:=s;obtain⟨hl,h⟩:=h;refine af ?_;refine af ?_;refine ah ?_;refine ah ?_;refine af ?_;refine af ?_;refine af ?_;refine wpAny_load' hl ?_;refine ah ?_;refine ah ?_;refine wpAny_ite_true (by cases items.isEmpty<;>rfl) ?_;refine af ?_;refine af ?_;refine wpAny_typeOf_ref hl ?_;refine ah ?_;refine wpAny_ite_true rfl ?_;refine af ?_;refine qA ?_;refine ah ⟨_,rfl,h⟩
theorem B9(k:Int)(u:Tok)(l:Addr)(items:Array Value)(n:Nat)(dd:Option Addr)(sl:Array (Option Value))(h1:1<k)(h2:k<=1000)(h0:items.isEmpty=false)(hs:items.size * k.toNat<=sizeLine):
  Meets (Builtin.«tuple.__mul__» {pos:=[Value.ref l,Value.int k u]}) fun _ R s=>s.heap.get? l=some ⟨.type "tuple",dd,.seq items n,sl⟩/\R (.ok (.ret (.ref s.heap.objs.size))) {s with heap:=s.heap.push ⟨.type "tuple",none,.seq (List.foldl (fun x y=>x++y) #[] (List.replicate k.toNat items)) 0,#[]⟩}:=
 Meets.of_wp fun prog w A R s h=>by
  obtain⟨hp,g,d,tk,os⟩:=s;obtain⟨hl,h⟩:=h;have c1:decide ((decide (k < -2 ^ 63) || decide (k ≥ 2 ^ 63))=true)=false:=by rw[dz (show ¬ k < -2 ^ 63 by omega),dz (show ¬ k ≥ 2 ^ 63 by omega)];rfl
  have c2:decide ((items.isEmpty || k== 1)=true)=false:=by rw[h0,show (k== 1)=false from gG.mpr (by omega)];rfl
  have c3:decide ((decide (k<=0) || items.isEmpty)=true)=false:=by rw[h0,dz (show ¬ k<=0 by omega)];rfl
  have hk:((items.size:Int) * k)=((items.size * k.toNat:Nat):Int):=by rw[Int.natCast_mul,Int.toNat_of_nonneg (by omega)]
  have sz:(sizeLine:Nat)<=(2 ^ 63-1) / 8:=by decide
  have c4:decide ((items.size:Int) * k > (2 ^ 63-1) / 8)=false:=dz (by rw[hk];omega);have c5:decide (Builtin.Tuple.tupleTooMany ((items.size:Int) * k)=true)=false:=by unfold Builtin.Tuple.tupleTooMany;rw[hk];exact dz (by simp only[aN];omega)
  refine sS c1 ?_;refine af ?_;refine af ?_;refine af ?_;refine wpAny_load' hl ?_;refine ah ?_;refine ah ?_;refine sS c2 ?_;refine sS c3 ?_;refine sS c4 ?_;refine sS c5 ?_;refine af ?_;have hz:(List.foldl (fun x y=>x++y) #[] (List.replicate k.toNat items)).size<=sizeLine:=by
   have f:∀(m:Nat)(acc:Array Value),(List.foldl (fun x y=>x++y) acc (List.replicate m items)).size=acc.size+items.size * m:=fun m=>by
    induction m with
    |zero=>intro acc;simp
    |succ m ih=>intro acc;rw[pJ,List.foldl_cons,ih,Array.size_append,Nat.mul_succ];omega
   rw[f];simpa using hs
  exact kq (hd:=by simpa [sizeOk] using hz) (ah ⟨_,rfl,h⟩)
def IF(K:W.Frag):R2:=fun x y H Q=>∃a k xs,x=.ref a/\y=.int k/\eC K H a xs/\xs≠ []/\1<=k/\k<=100/\xs.length<=100/\
 (k=1->Q (.ref a) H)/\(1<k->∀p,H p=none->Q (.ref p) (upd H p (.tup (List.replicate k.toNat xs).flatten)))
theorem J4:c7 X (binaryOp .Mult) (IF X.K):=by
 intro pins s σ H x y v u Q I rx ry h;obtain⟨a,k,xs,rfl,rfl,ha,hx,h1,h2,h3,q1,q2⟩:=h;cases rx;obtain⟨t,rfl⟩:=ry;obtain⟨its,r1,p1,_⟩:=I.tuple ha;obtain⟨⟨cls,dd,data,sl⟩,e,hc,n,hd⟩:=id p1;simp only at hc hd;subst hc hd;have hl:its.length<=100:=by rw[<-r1.length];exact h3
 have hsz:its.length * k.toNat<=sizeLine:=by have:its.length * k.toNat<=100 * 100:=Nat.mul_le_mul hl (by omega);exact cS this (by decide)
 refine wpAny_binaryOp_repeat_ref (T:= "tuple") (U:= "int") (by decide) ⟨_,e,rfl⟩ (fun s'=>typeIs_int s' k t) r6 F.fills_int_mul F.slot_int_rmul xQ F.slot_int_index.lookup
  (oq F.slot_int_rmul (typeIs_int s k t) F.entry_int_rmul (F.args_int_rmul_2 _ _) (Bu k t a its.toArray n dd sl) ⟨e,rfl,⟨_,e,rfl⟩,?_⟩)
 by_cases hk:k=1
 .subst hk;exact oq F.slot_tuple_mul ⟨_,e,rfl⟩ F.entry_tuple_mul (F.args_tuple_mul_2 _ _) (AN t a its.toArray n dd sl) ⟨e,.ref a,H,I,rfl,q1 rfl⟩
 .have e0:its.toArray.isEmpty=false:=by
   cases its with
   |nil=>exact (hx (r1.qK.mp rfl)).elim
   |cons _ _=>rfl
  refine oq F.slot_tuple_mul ⟨_,e,rfl⟩ F.entry_tuple_mul (F.args_tuple_mul_2 _ _) (B9 k t a its.toArray n dd sl (by omega) (by omega) e0 (by rw[cR];exact hsz)) ⟨e,?_⟩;have f0:=foldl_rep its k.toNat [];rw[jw] at f0;rw[show (List.foldl (fun x y=>x++y) #[] (List.replicate k.toNat its.toArray))=(List.replicate k.toNat its).flatten.toArray from f0];refine⟨.ref s.heap.objs.size,_,I.laid (t':=s.toks) (o:=.tup (List.replicate k.toNat xs).flatten) (fun b ob q=>bj _ q) (aG _) ?_,rfl,q2 (by omega) _ (I.av.fresh (aG _))⟩;exact⟨by rw[len_rep,Nat.mul_comm,r1.length];exact hsz,_,r1.rep _,IsTup.new _ _⟩
section
variable {X:Cx}{E:XK}{a b c:Expr}{pos:Pos}{da db dc:Tw.Env->Tw.Hp->Tw.R Tw.W}
theorem Qq{i:Nat}{x:Str}(hN:X.N[i]?=some x)(hv:jP X.env.scope x)(hd:(x== ("__debug__" : Str))=false)(hcd:(x== ("__classdict__" : Str))=false):
  PE X (.Name x pos) (tE (zx X E) fun ρ h=>match ρ[i]? with|some (some w)=>.ok w h|_=>.bad):=by
 refine PE.imp (jU hN hv hd hcd) fun σ H Q ⟨ρ,h,ι,at',p⟩=>?_;cases e:ρ[i]? with
 |none=>simp only[e] at p;exact p.elim
 |some o=>
  cases o with
  |none=>simp only[e] at p;exact p.elim
  |some w=>
   simp only[e] at p;obtain⟨v,q1,q2⟩:=at'.st i w e;exact⟨v,q1,p.self at'.hr q2⟩
theorem tY(hp:PE X a (tC v))(hr:∀ι n H,RW X.K ι n H w v):PE X a (tE (zx X E) fun _ h=>.ok w h):=
 PE.imp hp fun σ H Q ⟨ρ,h,ι,at',p⟩=>p.self at'.hr (hr _ _ _)
abbrev tA(K:Zk)(k:Nat)(d:Tw.Env->Tw.Hp->Tw.R (List Tw.W)):TA:=tG K (RA k) d
theorem PB:PA X [] (tA (zx X E) 0 fun _ h=>.ok [] h):=PA.imp cy fun σ H Q ⟨ρ,h,ι,at',p⟩=>p.self at'.hr ⟨.nil,rfl⟩
theorem OF{ds:Tw.Env->Tw.Hp->Tw.R (List Tw.W)}(ha:PE X a (tE (zx X E) da))(hs:PA X es (tA (zx X E) n ds))(hst:starEach (a::es) X.env=(false,eval a X.env)::starEach es X.env):
  PA X (a::es) (tA (zx X E) (n+1) fun ρ h=>(da ρ h).bind fun x h=>(ds ρ h).bind fun xs h=>.ok (x::xs) h):=by
 refine PA.imp (bA ha hs hst) fun σ H Q ⟨ρ,h,ι,at',p⟩=>?_;refine⟨ρ,h,ι,at',(step at' p).mono fun x H1 ⟨w,h1,ι1,at1,e1,r1,p1⟩=>⟨ρ,h1,ι1,at1,(step at1 p1).mono fun xs H2 ⟨ws,h2,ι2,at2,e2,r2,p2⟩=>?_⟩⟩;exact p2.self at2.hr ⟨.cons (r1.keep (e2.keeps at1.hr)) r2.1,by rw[dX,r2.2]⟩
theorem fI:sizeLine=Tw.SZ:=by rw[fA];rfl
theorem Pm{ds:Tw.Env->Tw.Hp->Tw.R (List Tw.W)}(hs:PA X es (tA (zx X E) n ds))(hl:n<=sizeLine):
  PE X (.Tuple es k pos) (tE (zx X E) fun ρ h=>(ds ρ h).bind fun xs h=>.ok (.tup xs) h):=by
 refine PE.imp (EA hs) fun σ H Q ⟨ρ,h,ι,at',p⟩=>?_;refine⟨ρ,h,ι,at',(step at' p).mono fun xs H1 ⟨ws,h1,ι1,at1,e1,r1,p1⟩=>⟨by rw[<-r1.1.length,r1.2];exact hl,p1.tup at1.hr r1.1⟩⟩
theorem PQ{ds:Tw.Env->Tw.Hp->Tw.R (List Tw.W)}(hs:PA X es (tA (zx X E) n ds))(hl:n<=sizeLine):
  PE X (.List es pos) (tE (zx X E) fun ρ h=>(ds ρ h).bind fun xs h=>Tw.new (.lst xs) h):=by
 refine PE.imp (Nk hs) fun σ H Q ⟨ρ,h,ι,at',p⟩=>?_;refine⟨ρ,h,ι,at',(step at' p).mono fun xs H1 ⟨ws,h1,ι1,at1,e1,r1,p1⟩=>⟨by rw[<-r1.1.length,r1.2];exact hl,p1.lst at1.hr r1.1⟩⟩
theorem two{op:Tw.W->Tw.W->Tw.Hp->Tw.R Tw.W}
  (hr:∀(ι:Nat->Addr)(h:Tw.Hp)(H:L2.Hp)(w u:Tw.W)(x y:V)(Q:VK),HR (zx X E) ι h H->RW X.K ι h.length H w x->RW X.K ι h.length H u y->ai (zx X E) RE ι h H (op w u h) Q->r x y H Q):
  ∀σ H Q,tE (zx X E) (fun ρ h=>(da ρ h).bind fun x h=>(db ρ h).bind fun y h=>op x y h) σ H Q->zt r (tE (zx X E) da) (tE (zx X E) db) σ H Q:=fun σ H Q ⟨ρ,h,ι,at',p⟩=>
 ⟨ρ,h,ι,at',(step at' p).mono fun x H1 ⟨w,h1,ι1,at1,e1,r1,p1⟩=>⟨ρ,h1,ι1,at1,(step at1 p1).mono fun y H2 ⟨u,h2,ι2,at2,e2,r2,p2⟩=>
  hr ι2 h2 H2 w u x y Q at2.hr (r1.keep (e2.keeps at1.hr)) r2 p2⟩⟩
noncomputable def DR(K:W.Frag):R2:=fun x y H Q=>∃a b ys,x=.ref a/\y=.ref b/\eC K H a []/\eC K H b ys/\Q (.ref b) H
theorem GX{prog:Program}{w:World}{A:Around}{E:aJ}{s:Shared}{t b:Addr}{ws:List Value}{Q:aJ}(ht:IsTup s.heap t ([]:List Value).toArray)(hb:IsTup s.heap b ws.toArray)
  (h0:Q (.ref b) s):wpAny (model prog w) A (binaryOp .Add (.ref t) (.ref b)) Q E s:=by
 obtain⟨⟨cls,dd,data,sl⟩,ho,hc,n,hd⟩:=id ht;obtain⟨⟨cls2,dd2,data2,sl2⟩,ho2,hc2,n2,hd2⟩:=id hb;simp only at hc hd hc2 hd2;subst hc hd hc2 hd2;exact concat_meets ⟨_,ho,rfl⟩ ⟨_,ho2,rfl⟩ B3 seq_tuple_add Ck Cg (Be _ _)
  (tuple_addW0 t b ([]:List Value).toArray ws.toArray n n2 dd dd2 sl sl2 (by simp)) ⟨ho,ho2,h0⟩
theorem Hl:c7 X (binaryOp .Add) (DR X.K):=by intro pins s σ H x y v u Q I rx ry h;obtain⟨a,b,ys,rfl,rfl,ha,hb,q⟩:=h;cases rx;cases ry;obtain⟨its,r1,p1,_⟩:=I.tuple ha;obtain⟨its2,r2,p2,_⟩:=I.tuple hb;cases r1;exact GX p1 p2 ⟨.ref b,H,I,rfl,q⟩
def IE(K:W.Frag):R2:=fun x y H Q=>xN (fun i j=>.int (i+j)) x y H Q\/(∃i j,x=.str i/\y=.str j/\i.length+j.length<=sizeLine/\Q (.str (i++j)) H)\/KS x y H Q\/IB K x y H Q\/DR K x y H Q
theorem JX:c7 X (binaryOp .Add) (IE X.K):=Mh.or (Br.or (Nm.or (Kc.or Hl)))
theorem str_len(x:Tw.S):(⟨x.toArray⟩:Str).length=x.length:=by simp[Str.length]
theorem ui(x y:Tw.S):(⟨x.toArray⟩:Str)++⟨y.toArray⟩=⟨(x++y).toArray⟩:=by show Str.append _ _=_;simp[Str.append]
theorem LP(ι:Nat->Addr)(h:Tw.Hp)(H:L2.Hp)(w u:Tw.W)(x y:V)(Q:VK)(r:HR (zx X E) ι h H)(rx:RW X.K ι h.length H w x)(ry:RW X.K ι h.length H u y)(p:ai (zx X E) RE ι h H (Tw.bin .add w u h) Q):IE X.K x y H Q:=by
 cases rx with
 |int i=>
  cases ry with
  |int j=>exact .inl ⟨i,j,rfl,rfl,p.self r (.int _)⟩
  |_=>exact p.elim
 |str i hi=>
  cases ry with
  |str j hj=>
   have p:ai (zx X E) RE ι h H (if Tw.Op.add=Tw.Op.add/\i.length+j.length<=Tw.SZ then .ok (.str (i++j)) h else .bad) Q:=p;by_cases c:i.length+j.length<=Tw.SZ
   .rw[if_pos ⟨rfl,c⟩] at p;refine .inr (.inl ⟨_,_,rfl,rfl,by rw[str_len,str_len,fI];exact c,?_⟩);rw[ui];exact p.self r (.str _ fun c hc=>(sx.mp hc).elim (hi c) (hj c))
   .rw[if_neg (fun z=>c z.2)] at p;exact p.elim
  |_=>exact p.elim
 | @tup aa xs ws ea ra=>
  cases ry with
  | @tup ab ys us eb rb=>
   have p:ai (zx X E) RE ι h H (if Tw.Op.add=Tw.Op.add/\ws.length+us.length<=Tw.SZ then .ok (.tup (ws++us)) h else .bad) Q:=p;by_cases c:ws.length+us.length<=Tw.SZ
   .rw[if_pos ⟨rfl,c⟩] at p;by_cases z0:ws=[]
    .subst z0;cases ra;exact .inr (.inr (.inr (.inr ⟨aa,ab,ys,rfl,rfl,ea.sq,eb.sq,p.self r (.tup eb rb)⟩)))
    refine .inr (.inr (.inr (.inl ⟨aa,ab,xs,ys,rfl,rfl,ea.sq,eb.sq,?_,?_,?_⟩)))
    .intro z;subst z;cases ra;exact z0 rfl
    .rw[<-ra.length,<-rb.length,fI];exact c
    .refine⟨fun z=>?_,fun _=>p.tup r (ra.append rb)⟩;subst z;cases rb;rw[jf] at p;exact p.self r (.tup ea ra)
   .rw[if_neg (fun z=>c z.2)] at p;exact p.elim
  |_=>exact p.elim
 | @ref i hi=>
  cases ry with
  | @ref j hj=>
   have p:ai (zx X E) RE ι h H (match h[i]?,h[j]? with
    |some (.lst xs),some (.lst ys)=>if Tw.Op.add=Tw.Op.add/\xs.length+ys.length<=Tw.SZ then Tw.new (.lst (xs++ys)) h else .bad
    |_,_=>.bad) Q:=p
   cases ei:h[i]? with
   |none=>rw[ei] at p;exact p.elim
   |some oi=>
    cases ej:h[j]? with
    |none=>rw[ei,ej] at p;cases oi<;>exact p.elim
    |some oj=>
     rw[ei,ej] at p;cases oi with
     |lst ws=>
      cases oj with
      |lst us=>
       dsimp only at p;by_cases c:ws.length+us.length<=Tw.SZ
       .rw[if_pos ⟨rfl,c⟩] at p;obtain⟨xs,q1,q2⟩:=r.lst ei;obtain⟨ys,q3,q4⟩:=r.lst ej;refine .inr (.inr (.inl ⟨_,_,xs,ys,rfl,rfl,q1,q3,?_,?_⟩))
        .rw[<-q2.length,<-q4.length,fI];exact c
        .exact p.lst r (q2.append q4)
       .rw[if_neg (fun z=>c z.2)] at p;exact p.elim
      |_=>exact p.elim
     |_=>cases oj<;>exact p.elim
  |_=>exact p.elim
 |_=>cases ry<;>exact p.elim
theorem PX(ha:PE X a (tE (zx X E) da))(hb:PE X b (tE (zx X E) db)):PE X (.BinOp a .Add b pos) (tE (zx X E) fun ρ h=>(da ρ h).bind fun x h=>(db ρ h).bind fun y h=>Tw.bin .add x y h):=
 PE.imp (qL JX ha hb) (two LP)
theorem qg{op:Tw.Op}{r:R2}(hop:op≠.add)(hmu:op≠.mul)(hi:∀(i j k:Int)(H:L2.Hp)(Q:VK),Tw.binI op i j=some k->Q (.int k) H->r (.int i) (.int j) H Q)
  (ι:Nat->Addr) (h:Tw.Hp) (H:L2.Hp) (w u:Tw.W) (x y:V) (Q:VK) (hr:HR (zx X E) ι h H) (rx:RW X.K ι h.length H w x) (ry:RW X.K ι h.length H u y) (p:ai (zx X E) RE ι h H (Tw.bin op w u h) Q):r x y H Q:=by
 cases rx with
 |int i=>
  cases ry with
  |int j=>
   have p:ai (zx X E) RE ι h H (Tw.R.of ((Tw.binI op i j).map .int) h) Q:=p;cases e:Tw.binI op i j with
   |none=>rw[e] at p;exact p.elim
   |some k=>rw[e] at p;exact hi i j k H Q e (ai.self (a:=Tw.W.int k) p hr (.int _))
  |_=>exact p.elim
 |str i=>
  cases ry with
  |str j=>
   have p:ai (zx X E) RE ι h H (if op=Tw.Op.add/\i.length+j.length<=Tw.SZ then .ok (.str (i++j)) h else .bad) Q:=p;rw[if_neg (fun z=>hop z.1)] at p;exact p.elim
  |_=>exact p.elim
 | @tup aa xs ws ea ra=>
  cases ry with
  | @tup ab ys us eb rb=>
   have p:ai (zx X E) RE ι h H (if op=Tw.Op.add/\ws.length+us.length<=Tw.SZ then .ok (.tup (ws++us)) h else .bad) Q:=p;rw[if_neg (fun z=>hop z.1)] at p;exact p.elim
  |int k=>
   have p:ai (zx X E) RE ι h H (if op=.mul/\1<=k/\k<=100/\ws≠ []/\ws.length<=100 then .ok (.tup (List.replicate k.toNat ws).flatten) h else .bad) Q:=p;rw[if_neg (fun z=>hmu z.1)] at p;exact p.elim
  |_=>exact p.elim
 | @ref i hi=>
  cases ry with
  | @ref j hj=>
   have p:ai (zx X E) RE ι h H (match h[i]?,h[j]? with
    |some (.lst xs),some (.lst ys)=>if op=Tw.Op.add/\xs.length+ys.length<=Tw.SZ then Tw.new (.lst (xs++ys)) h else .bad
    |_,_=>.bad) Q:=p
   exfalso;split at p
   .rw[if_neg (fun z=>hop z.1)] at p;exact p
   .exact p
  |_=>exact p.elim
 |_=>cases ry<;>exact p.elim
theorem Mn(ι:Nat->Addr)(h:Tw.Hp)(H:L2.Hp)(w u:Tw.W)(x y:V)(Q:VK)(r:HR (zx X E) ι h H)(rx:RW X.K ι h.length H w x)(ry:RW X.K ι h.length H u y)(p:ai (zx X E) RE ι h H (Tw.bin .mul w u h) Q):rI Cd (fun i j=>.int (i * j)) x y H Q\/IF X.K x y H Q:=by
 cases rx with
 |int i=>
  cases ry with
  |int j=>
   have p:ai (zx X E) RE ι h H (Tw.R.of ((if (Tw.small i || Tw.small j)=true then some (i * j) else none).map .int) h) Q:=p;by_cases c:(Tw.small i || Tw.small j)=true
   .rw[if_pos c] at p;refine .inl ⟨i,j,rfl,rfl,?_,ai.self (a:=Tw.W.int (i * j)) p r (.int _)⟩;simp only[Tw.small,Ih,aB,aN] at c;exact c
   .rw[if_neg c] at p;exact p.elim
  |_=>exact p.elim
 |str i hi=>
  cases ry with
  |str j hj=>
   have p:ai (zx X E) RE ι h H (if Tw.Op.mul=Tw.Op.add/\i.length+j.length<=Tw.SZ then .ok (.str (i++j)) h else .bad) Q:=p;rw[if_neg (fun z=>nomatch z.1)] at p;exact p.elim
  |_=>exact p.elim
 | @tup aa xs ws ea ra=>
  cases ry with
  | @tup ab ys us eb rb=>
   have p:ai (zx X E) RE ι h H (if Tw.Op.mul=Tw.Op.add/\ws.length+us.length<=Tw.SZ then .ok (.tup (ws++us)) h else .bad) Q:=p;rw[if_neg (fun z=>nomatch z.1)] at p;exact p.elim
  |int k=>
   have p:ai (zx X E) RE ι h H (if Tw.Op.mul=.mul/\1<=k/\k<=100/\ws≠ []/\ws.length<=100 then .ok (.tup (List.replicate k.toNat ws).flatten) h else .bad) Q:=p;by_cases c:Tw.Op.mul=.mul/\1<=k/\k<=100/\ws≠ []/\ws.length<=100
   .rw[if_pos c] at p;obtain⟨_,c1,c2,c3,c4⟩:=c;have rr:∀m:Nat,aT X.K ι h.length H (List.replicate m ws).flatten (List.replicate m xs).flatten:=fun m=>by
     induction m with
     |zero=>exact .nil
     |succ m ih=>rw[pJ,pJ,uJ,uJ];exact ra.append ih
    refine .inr ⟨aa,k,xs,rfl,rfl,ea.sq,fun z=>?_,c1,c2,by rw[<-ra.length];exact c4,fun z=>?_,fun _=>p.tup r (rr _)⟩
    .subst z;cases ra;exact c3 rfl
    .subst z;have e1:(List.replicate (1:Int).toNat ws).flatten=ws:=by simp
     rw[e1] at p;exact p.self r (.tup ea ra)
   .rw[if_neg c] at p;exact p.elim
  |_=>exact p.elim
 | @ref i hi=>
  cases ry with
  | @ref j hj=>
   have p:ai (zx X E) RE ι h H (match h[i]?,h[j]? with
    |some (.lst xs),some (.lst ys)=>if Tw.Op.mul=Tw.Op.add/\xs.length+ys.length<=Tw.SZ then Tw.new (.lst (xs++ys)) h else .bad
    |_,_=>.bad) Q:=p
   exfalso;split at p
   .rw[if_neg (fun z=>nomatch z.1)] at p;exact p
   .exact p
  |_=>exact p.elim
 |_=>cases ry<;>exact p.elim
theorem Qc(ha:PE X a (tE (zx X E) da))(hb:PE X b (tE (zx X E) db)):PE X (.BinOp a .Sub b pos) (tE (zx X E) fun ρ h=>(da ρ h).bind fun x h=>(db ρ h).bind fun y h=>Tw.bin .sub x y h):=
 PE.imp (qL Ln ha hb) (two (qg (by decide) (by decide) fun i j k H Q e q=>by cases e;exact⟨i,j,rfl,rfl,q⟩))
theorem Pl(ha:PE X a (tE (zx X E) da))(hb:PE X b (tE (zx X E) db)):PE X (.BinOp a .Mult b pos) (tE (zx X E) fun ρ h=>(da ρ h).bind fun x h=>(db ρ h).bind fun y h=>Tw.bin .mul x y h):=
 PE.imp (qL (MP.or J4) ha hb) (two Mn)
theorem Lg(ha:PE X a (tE (zx X E) da))(hb:PE X b (tE (zx X E) db)):PE X (.BinOp a .FloorDiv b pos) (tE (zx X E) fun ρ h=>(da ρ h).bind fun x h=>(db ρ h).bind fun y h=>Tw.bin .fdiv x y h):=
 PE.imp (qL Kk ha hb) (two (qg (by decide) (by decide) fun i j k H Q e q=>by
  have e:(if 0<j/\j<1073741824 then some (i / j) else none)=some k:=e;by_cases c:0<j/\j<1073741824
  .rw[if_pos c] at e;cases e;exact⟨i,j,rfl,rfl,c,q⟩
  .rw[if_neg c] at e;cases e))
theorem Ph(ha:PE X a (tE (zx X E) da))(hb:PE X b (tE (zx X E) db)):PE X (.BinOp a .Mod b pos) (tE (zx X E) fun ρ h=>(da ρ h).bind fun x h=>(db ρ h).bind fun y h=>Tw.bin .mod x y h):=
 PE.imp (qL LI ha hb) (two (qg (by decide) (by decide) fun i j k H Q e q=>by
  have e:(if 0<j then some (i % j) else none)=some k:=e;by_cases c:0<j
  .rw[if_pos c] at e;cases e;exact⟨i,j,rfl,rfl,c,q⟩
  .rw[if_neg c] at e;cases e))
theorem PR(ha:PE X a (tE (zx X E) da))(hb:PE X b (tE (zx X E) db)):PE X (.BinOp a .Pow b pos) (tE (zx X E) fun ρ h=>(da ρ h).bind fun x h=>(db ρ h).bind fun y h=>Tw.bin .pow x y h):=
 PE.imp (qL M8 ha hb) (two (qg (by decide) (by decide) fun i j k H Q e q=>by
  have e:(if 0<=j/\j<=1000000/\i.natAbs<2 ^ 64 then some (i ^ j.toNat) else none)=some k:=e;by_cases c:0<=j/\j<=1000000/\i.natAbs<2 ^ 64
  .rw[if_pos c] at e;cases e;exact⟨i,j,rfl,rfl,c,q⟩
  .rw[if_neg c] at e;cases e))
end
mutual
noncomputable def toD:Tw.W->PyData
 |.aq=>.none
 |.bl b=>.bool b
 |.int i=>.int i
 |.str x=>.str ⟨x.toArray⟩
 |.tup xs=>.tuple (gj xs)
 |.lst xs=>.list (gj xs)
 |.ref _=>.none
noncomputable def gj:List Tw.W->List PyData
 |[]=>[]
 |x::xs=>toD x::gj xs
end
mutual
noncomputable def nr:Tw.W->Bool
 |.tup xs=>sU xs
 |.lst xs=>sU xs
 |.ref _=>false
 |_=>true
noncomputable def sU:List Tw.W->Bool
 |[]=>true
 |x::xs=>nr x&&sU xs
end
theorem rG(a b:Tw.S):((⟨a.toArray⟩:Str)== ⟨b.toArray⟩)=decide (a=b):=by
 rw[rB];by_cases e:a=b
 .subst e;simp
 .rw[dz e];refine dz fun z=>e ?_;injection z with z;simpa using eN Array.toList z
mutual
theorem uC:∀(a b:Tw.W),nr a=true->nr b=true->Tw.bD a b=PyData.eqv (toD a) (toD b)
 |.aq,b,ha,hb=>by cases b<;>simp_all [nr,toD,PyData.eqv,Tw.bD.eq_def]
 |.bl x,b,ha,hb=>by cases b<;>simp_all [nr,toD,PyData.eqv,Tw.bD.eq_def,rB]
 |.int x,b,ha,hb=>by cases b<;>simp_all [nr,toD,PyData.eqv,Tw.bD.eq_def,rB]
 |.str x,b,ha,hb=>by
  cases b with
  |str y=>rw[Tw.mZ,toD,toD,PyData.eqv,rG]
  |_=>simp_all [nr,toD,PyData.eqv,Tw.bD.eq_def]
 |.ref x,b,ha,hb=>by simp[nr] at ha
 |.tup xs,b,ha,hb=>by
  cases b with
  |tup ys=>rw[Tw.y6,toD,toD,PyData.eqv];exact rY xs ys (by simpa [nr] using ha) (by simpa [nr] using hb)
  |_=>simp_all [nr,toD,PyData.eqv,Tw.bD.eq_def]
 |.lst xs,b,ha,hb=>by
  cases b with
  |lst ys=>rw[Tw.zh,toD,toD,PyData.eqv];exact rY xs ys (by simpa [nr] using ha) (by simpa [nr] using hb)
  |_=>simp_all [nr,toD,PyData.eqv,Tw.bD.eq_def]
theorem rY:∀(a b:List Tw.W),sU a=true->sU b=true->Tw.nZ a b=PyData.eqvAll (gj a) (gj b)
 |[],[],_,_=>by simp[gj,PyData.eqvAll]
 |[],_::_,_,_=>by simp[gj,PyData.eqvAll]
 |_::_,[],_,_=>by simp[gj,PyData.eqvAll]
 |x::xs,y::ys,ha,hb=>by
  simp only[sU,aB] at ha hb;simp only[Tw.nZ,gj,PyData.eqvAll,uC x y ha.1 hb.1,rY xs ys ha.2 hb.2]
end
theorem GV(h:rA x):PySem.PyData.canLay0 (.str ⟨x.toArray⟩)=true:=by rw[PyData.canLay0];simp only[PyData.strOk];simp;exact h
section
variable {X:Cx}{E:XK}{pins:aO}{σ:L2.St}{s:Shared}{ι:Nat->Addr}{h:Tw.Hp}{H:L2.Hp}
structure Dat(s:Shared)(k:Nat)(d:Tw.W)(u:Value):Prop where
 ex:∃as,Reads s.heap u (toD d) as
 lay:(toD d).canLay0=true
 deep:(toD d).depth<=k
 nr:nr d=true
theorem yo(P:∀(w d:Tw.W)(v:V)(u:Value),Tw.rd h k w=some d->RW X.K ι h.length H w v->RelV v u->Dat s k d u):
  ∀(ws ds:List Tw.W)(vs:List V)(us:List Value),Tw.i5 h k ws=some ds->aT X.K ι h.length H ws vs->Vals vs us->
   (∃as,ReadsAll s.heap us (gj ds) as)/\PyData.canLayAll0 (gj ds)=true/\PyData.depthAll (gj ds)<=k/\sU ds=true
 |[],ds,_,_,e,.nil,.nil=>by
  simp at e;subst e;exact⟨⟨[],.nil⟩,by simp[gj,PyData.canLayAll0],by simp[gj,PyData.depthAll],by simp[sU]⟩
 |w::ws,ds,_,_,e,.cons rw' rws,.cons rv rvs=>by
  rw[Tw.i5] at e;cases e1:Tw.rd h k w with
  |none=>rw[e1] at e;cases e
  |some d=>
   cases e2:Tw.i5 h k ws with
   |none=>rw[e1,e2] at e;cases e
   |some ds'=>
    rw[e1,e2] at e;cases e;obtain⟨⟨as,h1⟩,h2,h3,h4⟩:=P w d _ _ e1 rw' rv;obtain⟨⟨bs,g1⟩,g2,g3,g4⟩:=yo P ws ds' _ _ e2 rws rvs;exact⟨⟨as++bs,by rw[gj];exact .cons h1 g1⟩,by simp[gj,PyData.canLayAll0,h2,g2],by simp only[gj,PyData.depthAll];omega,by simp[sU,h4,g4]⟩
theorem nR(I:Inv X pins σ H s)(r:HR (zx X E) ι h H):∀(k:Nat)(w d:Tw.W)(v:V)(u:Value),Tw.rd h k w=some d->RW X.K ι h.length H w v->RelV v u->Dat s k d u:=by
 have flat:∀(k:Nat)(w d:Tw.W)(v:V)(u:Value),Tw.rd h k w=some d->RW X.K ι h.length H w v->RelV v u->(∀ws,w≠.tup ws)->(∀a,w≠.ref a)->Dat s k d u:=by
  intro k w d v u e rw' rv n1 n2;cases rw' with
  |aq=>simp at e;subst e;cases rv;exact⟨⟨[],.none⟩,by simp[toD,PyData.canLay0],by simp[toD,PyData.depth],by simp[nr]⟩
  |bl b=>simp at e;subst e;cases rv;exact⟨⟨[],.bool b⟩,by simp[toD,PyData.canLay0],by simp[toD,PyData.depth],by simp[nr]⟩
  |int i=>simp at e;subst e;obtain⟨t,rfl⟩:=rv;exact⟨⟨[],.int i t⟩,by simp[toD,PyData.canLay0],by simp[toD,PyData.depth],by simp[nr]⟩
  |str x hx=>simp at e;subst e;obtain⟨t,rfl⟩:=rv;exact⟨⟨[],by rw[toD];exact .str _ t⟩,by rw[toD];exact GV hx,by simp[toD,PyData.depth],by simp[nr]⟩
  |tup _ _=>exact absurd rfl (n1 _)
  |ref _=>exact absurd rfl (n2 _)
 intro k
 induction k with
 |zero=>
  intro w d v u e rw' rv;cases w with
  |tup ws=>simp at e
  |ref a=>simp at e
  |_=>exact flat _ _ _ _ _ e rw' rv (fun _ z=>nomatch z) (fun _ z=>nomatch z)
 |succ k ih=>
  intro w d v u e rw' rv;cases w with
  |tup ws=>
   rw[Tw.rd] at e;cases e2:Tw.i5 h k ws with
   |none=>rw[e2] at e;cases e
   |some ds=>
    rw[e2] at e;cases e;cases rw' with
    | @tup a xs _ ea ra=>
     cases rv;obtain⟨its,r1,it,_⟩:=I.tuple (TupAt.sq ea);obtain⟨⟨as,g1⟩,g2,g3,g4⟩:=yo ih ws ds _ _ e2 ra r1;obtain⟨o,h1,h2,n,h3⟩:=it;exact⟨⟨as,by rw[toD];exact .tuple h1 h2 h3 (by simpa using g1)⟩,by rw[toD,PyData.canLay0];exact g2,by rw[toD,PyData.depth];omega,by rw[nr];exact g4⟩
  |ref i=>
   cases rw' with
   |ref hi=>
    cases rv;have e:(match h[i]? with
     |some (.lst xs)=>(Tw.i5 h k xs).map Tw.W.lst
     |some (.bR xs)=>(Tw.i5 h k xs).map Tw.W.lst
     |_=>none)=some d:=by rw[Tw.rd] at e;exact e
    have fin:∀(ws:List Tw.W)(xs:List V),(Tw.i5 h k ws).map Tw.W.lst=some d->bJ X.K H (ι i) xs->aT X.K ι h.length H ws xs->Dat s (k+1) d (.ref (ι i)):=by
     intro ws xs e sq rws;cases e2:Tw.i5 h k ws with
     |none=>rw[e2] at e;cases e
     |some ds=>
      rw[e2] at e;cases e;obtain⟨its,r1,⟨o,n,h1,h2,_,h3⟩,_⟩:=I.list sq;obtain⟨⟨as,g1⟩,g2,g3,g4⟩:=yo ih ws ds _ _ e2 rws r1;exact⟨⟨_,by rw[toD];exact .list h1 h2 h3 (by simpa using g1)⟩,by rw[toD,PyData.canLay0];exact g2,by rw[toD,PyData.depth];omega,by rw[nr];exact g4⟩
    cases ei:h[i]? with
    |none=>rw[ei] at e;cases e
    |some o=>
     rw[ei] at e;cases o with
     |lst ws=>obtain⟨xs,q1,q2⟩:=r.obj i _ ei;exact fin ws xs e (bJ.of q1) q2
     |bR ws=>obtain⟨xs,q1,q2⟩:=r.obj i _ ei;exact fin ws xs e q1.sq q2
     |aj _=>cases e
     |ins _ _=>cases e
     |au _ _=>cases e
  |lst _=>simp[Tw.rd] at e
  |_=>exact flat _ _ _ _ _ e rw' rv (fun _ z=>nomatch z) (fun _ z=>nomatch z)
end
section
variable {K:W.Frag}{ι:Nat->Addr}{n:Nat}{H:L2.Hp}
theorem yt(a:RW K ι n H j (kV p))(b:RW K ι n H k (kV q)):Tw.qE j k=decide (p=q):=by
 cases p with
 |inl i=>
  cases a;cases q with
  |inl i'=>cases b;rw[xh];rfl
  |inr y=>cases b;rw[w8];rfl
 |inr x=>
  cases a;cases q with
  |inl i'=>cases b;rw[yM];rfl
  |inr y=>
   cases b with
   |str y' hy=>
    rename_i x' hx;rw[xr];have t:=rG x' y';rw[rB] at t;rw[t];show (x'== y')=_;rw[rB]
theorem iO(a:RW K ι n H k v)(h:Tw.isKey k=true):∃q,v=kV q:=by
 cases a with
 |int i=>exact⟨.inl i,rfl⟩
 |str x hx=>exact⟨.inr _,rfl⟩
 |_=>cases h
theorem RD.get(b:RW K ι n H k (kV q)):∀{kvs:List (Tw.W×Tw.W)}{xs:List (Key×V)},RD K ι n H kvs xs->
  (Tw.c9 k kvs=none/\js xs q=none)\/∃w v,Tw.c9 k kvs=some w/\js xs q=some v/\RW K ι n H w v
 |_,_,.nil=>.inl ⟨rfl,rfl⟩
 |_,_,.cons (k:=j) (q:=p) (w:=w) (v:=v) _ a c r=>by
  have e:=yt a b;rw[Tw.c9,e];by_cases z:p=q
  .rw[oH z,ub z];exact .inr ⟨w,v,rfl,rfl,c⟩
  .rw[oG z,dz z];exact RD.get b r
theorem JZ:∀{xs:List (Key×V)},p∈(putK xs q v).map (·.1)->p=q\/p∈xs.map (·.1):=by
 intro xs hp;unfold putK at hp;split at hp
 .rw[uF] at hp;refine .inr ?_;obtain⟨kv,h1,h2⟩:=pP.mp hp;refine pP.mpr ⟨kv,h1,?_⟩;rw[<-h2];simp only[Function.comp];split<;>rfl
 .rw[List.map_append,sx] at hp;rcases hp with hp|hp
  .exact .inr hp
  .simp at hp;exact .inl hp
theorem RD.put(b:RW K ι n H k (kV q))(c:RW K ι n H w v):∀{kvs:List (Tw.W×Tw.W)}{xs:List (Key×V)},RD K ι n H kvs xs->RD K ι n H (Tw.dput k w kvs) (putK xs q v)
 |_,_,.nil=>.cons (by simp) b c .nil
 |_,_,.cons (k:=j) (q:=p) (w:=w') (v:=v') (kvs:=kvs) (xs:=xs) m a d r=>by
  have e:=yt a b;rw[Tw.dput,e];by_cases z:p=q
  .subst z;rw[ub rfl];have t:putK ((p,v')::xs) p v=(p,v)::xs:=by
    have hm:∀l:List (Key×V),p∉l.map (·.1)->l.map (fun kv=>if kv.1=p then (kv.1,v) else kv)=l:=by
     intro l
     induction l with
     |nil=>intro _;rfl
     |cons x l ih=>
      intro hx;simp only[aX,cQ,not_or] at hx;rw[aX,ih hx.2,if_neg (fun z=>hx.1 z.symm)]
    unfold putK;simp only[mP,decide_true,Bool.true_or,fZ,aX];rw[hm xs m]
   rw[t];exact .cons m a c r
  .rw[dz z];have t:putK ((p,v')::xs) q v=(p,v')::putK xs q v:=by
    unfold putK;simp only[mP,z,qN,Bool.false_or,aX,i7];split<;>rfl
   rw[t];refine .cons (fun hp=>?_) a d (RD.put b c r);rcases JZ hp with hp|hp
   .exact z hp
   .exact m hp
end
section
variable {X:Cx}{E:XK}{pins:aO}{σ:L2.St}{s:Shared}{ι:Nat->Addr}{h:Tw.Hp}{H:L2.Hp}{A:Around}
theorem Bt(e:Tw.bC h w=some kvs):∃i,w=.ref i/\h[i]?=some (.aj kvs):=by
 unfold Tw.bC at e;split at e
 .next a=>
  split at e
  .next q=>cases e;exact⟨_,rfl,q⟩
  .cases e
 .cases e
end
def Cs(K:Zk)(neg:Bool):R2:=fun x y H Q=>∃(ι:Nat->Addr) (h:Tw.Hp) (w u:Tw.W) (b:Bool),HR K ι h H/\RW K.K ι h.length H w x/\RW K.K ι h.length H u y/\Tw.bX h w u=some b/\Q (.bl (if neg then !b else b)) H
section
variable {X:Cx}{E:XK}
theorem Lb(hu:X.A.units+100<cLine):c7 X (compareOp .Eq) (Cs (zx X E) false):=by
 intro pins s σ H x y v u Q I rx ry ⟨ι,h,w,z,b,r,rw',rz,e,q⟩;unfold Tw.bX at e;cases e1:Tw.bC h w with
 |none=>
  cases e2:Tw.bC h z with
  |some _=>rw[e1,e2] at e;cases e
  |none=>
   rw[e1,e2] at e;cases e3:Tw.rd h 60 w with
   |none=>rw[e3] at e;cases e
   |some a=>
    cases e4:Tw.rd h 60 z with
    |none=>rw[e3,e4] at e;cases e
    |some c=>
     rw[e3,e4] at e;cases e;obtain⟨⟨as,h1⟩,h2,h3,h4⟩:=nR I r 60 w a x v e3 rw' rx;obtain⟨⟨bs,g1⟩,g2,g3,g4⟩:=nR I r 60 z c y u e4 rz ry;refine SeqAt.compareEq_reads h1 g1 h2 g2 (by have:=Nat.min_le_left (toD a).depth (toD c).depth;omega) ?_;rw[<-uC a c h4 g4];exact⟨.bl _,H,I,rfl,q⟩
 |some xs=>
  cases e2:Tw.bC h z with
  |none=>rw[e1,e2] at e;cases e
  |some ys=>rw[e1,e2] at e;cases e
theorem La(hu:X.A.units+100<cLine):c7 X (compareOp .NotEq) (Cs (zx X E) true):=by
 intro pins s σ H x y v u Q I rx ry ⟨ι,h,w,z,b,r,rw',rz,e,q⟩;unfold Tw.bX at e;cases e1:Tw.bC h w with
 |none=>
  cases e2:Tw.bC h z with
  |some _=>rw[e1,e2] at e;cases e
  |none=>
   rw[e1,e2] at e;cases e3:Tw.rd h 60 w with
   |none=>rw[e3] at e;cases e
   |some a=>
    cases e4:Tw.rd h 60 z with
    |none=>rw[e3,e4] at e;cases e
    |some c=>
     rw[e3,e4] at e;cases e;obtain⟨⟨as,h1⟩,h2,h3,h4⟩:=nR I r 60 w a x v e3 rw' rx;obtain⟨⟨bs,g1⟩,g2,g3,g4⟩:=nR I r 60 z c y u e4 rz ry;refine SeqAt.compareNe_reads h1 g1 h2 g2 (by have:=Nat.min_le_left (toD a).depth (toD c).depth;omega) ?_;rw[<-uC a c h4 g4];exact⟨.bl _,H,I,rfl,q⟩
 |some xs=>
  cases e2:Tw.bC h z with
  |none=>rw[e1,e2] at e;cases e
  |some ys=>rw[e1,e2] at e;cases e
end
noncomputable def dT(d:Tw.Env->Tw.Hp->Tw.R Tw.W):Tw.Env->Tw.Hp->Tw.R Bool:=fun ρ h=>(d ρ h).bind fun w h=>Tw.R.of (Tw.truth h w) h
abbrev tT(K:Zk)(d:Tw.Env->Tw.Hp->Tw.R Tw.W):TT:=tG K RB (dT d)
theorem bind_assoc{α β γ:Type}(m:Tw.R α)(k:α->Tw.Hp->Tw.R β)(l:β->Tw.Hp->Tw.R γ):(m.bind k).bind l=m.bind fun a h=>(k a h).bind l:=by cases m<;>rfl
section
variable {X:Cx}{E:XK}{a b c:Expr}{pos:Pos}{da db dc:Tw.Env->Tw.Hp->Tw.R Tw.W}
theorem N3(ho:c7 X (compareOp o) r)
  (hr:∀(ι:Nat->Addr)(h:Tw.Hp)(H:L2.Hp)(w u:Tw.W)(x y:V)(k:Bool)(Q:VK),HR (zx X E) ι h H->RW X.K ι h.length H w x->RW X.K ι h.length H u y->Tw.cmp op w u h=some k->Q (.bl k) H->r x y H Q)
  (ha:PE X a (tE (zx X E) da)) (hb:PE X b (tE (zx X E) db)) (hm:behindInMarks o b=false):
  PE X (.Compare a [o] [b] pos) (tE (zx X E) fun ρ h=>(da ρ h).bind fun x h=>(db ρ h).bind fun y h=>Tw.R.of ((Tw.cmp op x y h).map .bl) h)/\
  PT X (.Compare a [o] [b] pos) (tT (zx X E) fun ρ h=>(da ρ h).bind fun x h=>(db ρ h).bind fun y h=>Tw.R.of ((Tw.cmp op x y h).map .bl) h):=by
 constructor
 .refine PE.imp (Af ho ha hb hm) (two fun ι h H w u x y Q hR rx ry p=>?_);cases e:Tw.cmp op w u h with
  |none=>rw[e] at p;exact p.elim
  |some k=>rw[e] at p;exact hr ι h H w u x y k Q hR rx ry e (ai.self (a:=Tw.W.bl k) p hR (.bl k))
 .refine PT.imp (Au ho ha hb hm) fun σ H Q Z=>Z.g fun ρ Z=>Z.g fun h Z=>Z.g fun ι Z=>Z.g fun at' p=>?_;simp only[dT,bind_assoc] at p;refine⟨ρ,h,ι,at',(step at' p).mono fun x H1 Z=>Z.g fun w Z=>Z.g fun h1 Z=>Z.g fun ι1 Z=>Z.g fun at1 Z=>Z.g fun e1 Z=>Z.g fun r1 p1=>⟨ρ,h1,ι1,at1,(step at1 p1).mono fun y H2 Z=>Z.g fun u Z=>Z.g fun h2 Z=>Z.g fun ι2 Z=>Z.g fun at2 Z=>Z.g fun e2 Z=>Z.g fun r2 p2=>?_⟩⟩;cases e:Tw.cmp op w u h2 with
  |none=>rw[e] at p2;exact p2.elim
  |some k=>rw[e] at p2;exact hr ι2 h2 H2 w u x y k _ at2.hr (r1.keep (e2.keeps at1.hr)) r2 e ⟨k,rfl,ai.self (a:=k) p2 at2.hr rfl⟩
theorem T5(ι:Nat->Addr)(h:Tw.Hp)(H:L2.Hp)(w u:Tw.W)(x y:V)(k:Bool)(Q:VK)(r:HR (zx X E) ι h H)(rx:RW X.K ι h.length H w x)(ry:RW X.K ι h.length H u y)(e:Tw.cmp .eq w u h=some k)(q:Q (.bl k) H):Cs (zx X E) false x y H Q:=
 ⟨ι,h,w,u,k,r,rx,ry,e,q⟩
theorem R5(ι:Nat->Addr)(h:Tw.Hp)(H:L2.Hp)(w u:Tw.W)(x y:V)(k:Bool)(Q:VK)(r:HR (zx X E) ι h H)(rx:RW X.K ι h.length H w x)(ry:RW X.K ι h.length H u y)(e:Tw.cmp .ne w u h=some k)(q:Q (.bl k) H):Cs (zx X E) true x y H Q:=by
 have e:(Tw.bX h w u).map (!·)=some k:=e;cases e2:Tw.bX h w u with
 |none=>rw[e2] at e;cases e
 |some b=>rw[e2] at e;cases e;exact⟨ι,h,w,u,b,r,rx,ry,e2,q⟩
theorem Pg{f:Int->Int->Bool}(hf:∀w u h,Tw.cmp op w u h=match w,u with | .int i,.int j=>some (f i j)|_,_=>none)
  (ι:Nat->Addr) (h:Tw.Hp) (H:L2.Hp) (w u:Tw.W) (x y:V) (k:Bool) (Q:VK) (r:HR (zx X E) ι h H) (rx:RW X.K ι h.length H w x) (ry:RW X.K ι h.length H u y) (e:Tw.cmp op w u h=some k) (q:Q (.bl k) H):xN (fun i j=>.bl (f i j)) x y H Q:=by
 rw[hf] at e;cases rx with
 |int i=>
  cases ry with
  |int j=>cases e;exact⟨i,j,rfl,rfl,q⟩
  |_=>cases e
 |_=>cases ry<;>cases e
theorem Qi(ι:Nat->Addr)(h:Tw.Hp)(H:L2.Hp)(w u:Tw.W)(x y:V)(k:Bool)(Q:VK)(r:HR (zx X E) ι h H)(rx:RW X.K ι h.length H w x)(ry:RW X.K ι h.length H u y)(e:Tw.cmp .isN w u h=some k)(q:Q (.bl k) H):
  y=.aq/\Q (.bl (decide (x=.aq))) H:=by
 cases ry with
 |aq=>cases rx<;>(cases e;exact⟨rfl,q⟩)
 |_=>cases e
theorem NJ(ι:Nat->Addr)(h:Tw.Hp)(H:L2.Hp)(w u:Tw.W)(x y:V)(k:Bool)(Q:VK)(r:HR (zx X E) ι h H)(rx:RW X.K ι h.length H w x)(ry:RW X.K ι h.length H u y)(e:Tw.cmp .notN w u h=some k)(q:Q (.bl k) H):
  y=.aq/\Q (.bl (!decide (x=.aq))) H:=by
 cases ry with
 |aq=>cases rx<;>(cases e;exact⟨rfl,q⟩)
 |_=>cases e
def ur(K:W.Frag)(neg:Bool):R2:=fun x y H Q=>LX K neg x y H Q\/∃a o,y=.ref a/\gu H a x o/\Q (.bl (if neg then !o.isSome else o.isSome)) H
theorem LA(hu:X.A.units+1<cLine):c7 X (compareOp .In) (ur X.K false):=by refine c7.or DJ ?_;intro pins s σ H x y v u Q I rx ry ⟨a,o,ey,g,q⟩;subst ey;cases ry;exact TX hu I g rx fun s' I'=>⟨.bl o.isSome,H,I',rfl,q⟩
theorem CG(hu:X.A.units+1<cLine):c7 X (compareOp .NotIn) (ur X.K true):=by refine c7.or yu ?_;intro pins s σ H x y v u Q I rx ry ⟨a,o,ey,g,q⟩;subst ey;cases ry;exact Kt hu I g rx fun s' I'=>⟨.bl (!o.isSome),H,I',rfl,q⟩
section
variable {ι:Nat->Addr}{n:Nat}{H:L2.Hp}
theorem zU(r:RW X.K ι n H w x)(h:Tw.flat w=true):jL x=true:=by cases r<;>first|rfl|exact absurd h e9
theorem wN:∀{ws:List Tw.W}{xs:List V},aT X.K ι n H ws xs->ws.all Tw.flat=true->xs.all jL=true
 |_,_,.nil,_=>rfl
 |_,_,.cons a r,h=>by
  rw[fL,aB] at h;rw[fL,zU a h.1,wN r h.2];rfl
theorem Lo(r:RW X.K ι n H w x)(q:RW X.K ι n H u y)(f:Tw.flat w=true)(g:Tw.flat u=true):L2.bX x y=Tw.bD w u:=by
 cases r with
 |aq=>cases q<;>first|exact absurd g e9|(simp[L2.bX])
 |bl b=>cases q<;>first|exact absurd g e9|(simp[L2.bX,rB])
 |int i=>cases q<;>first|exact absurd g e9|(simp[L2.bX,rB])
 |str z hz=>
  cases q with
  |str z' hz'=>rw[Tw.mZ,L2.bX,rG]
  |aq=>simp[L2.bX]
  |bl _=>simp[L2.bX]
  |int _=>simp[L2.bX]
  |tup _ _=>cases g
  |ref _=>cases g
 |tup _ _=>cases f
 |ref _=>cases f
theorem Dc(q:RW X.K ι n H u y)(g:Tw.flat u=true):∀{ws:List Tw.W}{xs:List V},aT X.K ι n H ws xs->ws.all Tw.flat=true->(xs.any fun z=>L2.bX z y)=ws.any fun z=>Tw.bD z u
 |_,_,.nil,_=>rfl
 |_,_,.cons a r,h=>by
  rw[fL,aB] at h;rw[mP,mP,Lo a q h.1 g,Dc q g r h.2]
end
theorem in_of(neg:Bool)(ι:Nat->Addr)(h:Tw.Hp)(H:L2.Hp)(w u:Tw.W)(x y:V)(k:Bool)(Q:VK)(r:HR (zx X E) ι h H)(rx:RW X.K ι h.length H w x)(ry:RW X.K ι h.length H u y)(e:Tw.isIn w u h=some k)
  (q:Q (.bl (if neg then !k else k)) H):ur X.K neg x y H Q:=by
 unfold Tw.isIn at e;cases e1:Tw.bC h u with
 |some kvs=>
  rw[e1] at e;obtain⟨i,rfl,ei⟩:=Bt e1;cases ry;obtain⟨xs,q1,q2⟩:=r.aj ei;dsimp only at e;by_cases c:Tw.isKey w=true
  .rw[if_pos c] at e;cases e;obtain⟨key,rfl⟩:=iO rx c;refine .inr ⟨_,_,rfl,gu.k q1,?_⟩;rcases q2.get rx with ⟨g1,g2⟩|⟨w2,v2,g1,g2,_⟩
   .rw[g2];rw[g1] at q;exact q
   .rw[g2];rw[g1] at q;exact q
  .rw[if_neg c] at e;cases e
 |none=>
  rw[e1] at e;dsimp only at e;cases e2:Tw.BD h u with
  |none=>rw[e2] at e;cases e
  |some ws=>
   rw[e2] at e;dsimp only at e;by_cases c:(Tw.flat w&&ws.all Tw.flat)=true
   .rw[if_pos c] at e;cases e;obtain⟨c1,c2⟩:=pT.mp c;have fin:∀(p:Addr)(xs:List V),y=.ref p->(bJ X.K H p xs\/eC X.K H p xs)->aT X.K ι h.length H ws xs->ur X.K neg x y H Q:=by
     intro p xs ey sq rr;refine .inl ⟨p,xs,ey,sq,zU rx c1,wN rr c2,?_⟩;unfold Ou;rw[Dc rx c1 rr c2];exact q
    cases ry with
    | @tup a xs us ea ra=>
     have e2:some us=some ws:=e2;cases e2;exact fin a xs rfl (.inr (TupAt.sq ea)) ra
    | @ref i hi=>
     have e2:(match h[i]? with|some (.lst xs)=>some xs|some (.bR xs)=>some xs|_=>none)=some ws:=e2;cases ei:h[i]? with
     |none=>rw[ei] at e2;cases e2
     |some o=>
      rw[ei] at e2;cases o with
      |lst us=>cases e2;obtain⟨xs,q1,q2⟩:=r.obj i _ ei;exact fin _ xs rfl (.inl (bJ.of q1)) q2
      |bR us=>cases e2;obtain⟨xs,q1,q2⟩:=r.obj i _ ei;exact fin _ xs rfl (.inl q1.sq) q2
      |aj _=>cases e2
      |ins _ _=>cases e2
      |au _ _=>cases e2
    |_=>cases e2
   .rw[if_neg c] at e;cases e
theorem Tt(ι:Nat->Addr)(h:Tw.Hp)(H:L2.Hp)(w u:Tw.W)(x y:V)(k:Bool)(Q:VK)(r:HR (zx X E) ι h H)(rx:RW X.K ι h.length H w x)(ry:RW X.K ι h.length H u y)(e:Tw.cmp .isin w u h=some k)(q:Q (.bl k) H):ur X.K false x y H Q:=
 in_of false ι h H w u x y k Q r rx ry e q
theorem KD(ι:Nat->Addr)(h:Tw.Hp)(H:L2.Hp)(w u:Tw.W)(x y:V)(k:Bool)(Q:VK)(r:HR (zx X E) ι h H)(rx:RW X.K ι h.length H w x)(ry:RW X.K ι h.length H u y)(e:Tw.cmp .notin w u h=some k)(q:Q (.bl k) H):ur X.K true x y H Q:=by
 have e:(Tw.isIn w u h).map (!·)=some k:=e;cases e2:Tw.isIn w u h with
 |none=>rw[e2] at e;cases e
 |some b=>rw[e2] at e;cases e;exact in_of true ι h H w u x y b Q r rx ry e2 q
theorem DG(ι:Nat->Addr)(h:Tw.Hp)(H:L2.Hp)(w:Tw.W)(x:V)(k:Bool)(r:HR (zx X E) ι h H)(rx:RW X.K ι h.length H w x)(e:Tw.truth h w=some k):E3 X.K x H k:=by
 cases rx with
 |aq=>cases e;rfl
 |bl b=>cases e;rfl
 |int i=>cases e;rfl
 |str z hz'=>
  have e:(if z.length<=Tw.SZ then some (!z.isEmpty) else none)=some k:=e;by_cases c:z.length<=Tw.SZ
  .rw[if_pos c] at e;cases e;refine⟨by rw[str_len,fI];exact c,?_⟩;rw[str_len];cases z with
   |nil=>rfl
   |cons c z=>simp;omega
  .rw[if_neg c] at e;cases e
 | @tup a xs ws ea ra=>
  have e:some (!ws.isEmpty)=some k:=e;cases e;refine .inr (.inl ⟨xs,TupAt.sq ea,?_⟩);cases ra<;>rfl
 | @ref i hi=>
  have e:(match h[i]? with|some (.lst xs)=>some (!xs.isEmpty)|some (.bR xs)=>some (!xs.isEmpty)|some (.aj kvs)=>some (!kvs.isEmpty)|_=>none)=some k:=e;cases ei:h[i]? with
  |none=>rw[ei] at e;cases e
  |some o=>
   rw[ei] at e;cases o with
   |lst us=>cases e;obtain⟨xs,q1,q2⟩:=r.obj i _ ei;refine .inl ⟨xs,bJ.of q1,?_⟩;cases q2<;>rfl
   |bR us=>cases e;obtain⟨xs,q1,q2⟩:=r.obj i _ ei;refine .inl ⟨xs,q1.sq,?_⟩;cases q2<;>rfl
   |aj us=>cases e;obtain⟨xs,q1,q2⟩:=r.obj i _ ei;refine .inr (.inr ⟨xs,q1,?_⟩);cases q2<;>rfl
   |ins _ _=>cases e
   |au _ _=>cases e
end
section
variable {X:Cx}{E:XK}{a b c:Expr}{pos:Pos}{da db dc:Tw.Env->Tw.Hp->Tw.R Tw.W}
theorem Ka(ha:PE X a (tE (zx X E) da))(he:∀whole,isTrue a X.env whole=(do let v <-whole;standAt a.pos;holding [v] (truthy v))):PT X a (tT (zx X E) da):=by
 refine PT.imp (Gg ha he) fun σ H Q Z=>Z.g fun ρ Z=>Z.g fun h Z=>Z.g fun ι Z=>Z.g fun at' p=>⟨ρ,h,ι,at',(step at' p).mono fun x H1 Z=>Z.g fun w Z=>Z.g fun h1 Z=>Z.g fun ι1 Z=>Z.g fun at1 Z=>Z.g fun e1 Z=>Z.g fun r1 p1=>?_⟩;cases e:Tw.truth h1 w with
 |none=>rw[e] at p1;exact p1.elim
 |some k=>rw[e] at p1;exact⟨k,DG ι1 h1 H1 w x k at1.hr r1 e,ai.self (a:=k) p1 at1.hr rfl⟩
theorem Qo(ha:PE X a (tE (zx X E) da))(ht:PT X a (tT (zx X E) da)):
  PE X (.UnaryOp .Not a pos) (tE (zx X E) fun ρ h=>(da ρ h).bind fun x h=>Tw.R.of ((Tw.truth h x).map fun b=>.bl (!b)) h)/\
  PT X (.UnaryOp .Not a pos) (tT (zx X E) fun ρ h=>(da ρ h).bind fun x h=>Tw.R.of ((Tw.truth h x).map fun b=>.bl (!b)) h):=by
 constructor
 .intro pins s σ H Q I ⟨ρ,h,ι,at',p⟩;refine UnaryOp_ (aF (ha pins s σ H _ I ⟨ρ,h,ι,at',step at' p⟩) fun v s1 Z=>Z.g fun x Z=>Z.g fun H1 Z=>Z.g fun I1 Z=>Z.g fun rv Z=>Z.g fun w Z=>Z.g fun h1 Z=>Z.g fun ι1 Z=>Z.g fun at1 Z=>Z.g fun e1 Z=>Z.g fun r1 p1=>not_of ?_);cases e:Tw.truth h1 w with
  |none=>rw[e] at p1;exact p1.elim
  |some k=>
   rw[e] at p1;refine aF (Dh pins s1 σ H1 x v (fun k' H'=>Q (.bl (!k')) H') I1 rv ⟨k,DG ι1 h1 H1 w x k at1.hr r1 e,ai.self (a:=Tw.W.bl (!k)) p1 at1.hr (.bl _)⟩) fun k' s2 Z=>Z.g fun H2 Z=>Z.g fun I2 q=>⟨.bl (!k'),H2,I2,rfl,q⟩
 .refine PT.imp (N2 ht) fun σ H Q Z=>Z.g fun ρ Z=>Z.g fun h Z=>Z.g fun ι Z=>Z.g fun at' p=>?_;refine⟨ρ,h,ι,at',?_⟩;simp only[dT,bind_assoc] at p⊢;cases e0:da ρ h with
  |bad=>rw[e0] at p;exact p.elim
  |au=>rw[e0] at p;exact p
  |ok w h1=>
   rw[e0] at p;simp only[Tw.R.ak] at p⊢;cases e:Tw.truth h1 w with
   |none=>rw[e] at p;exact p.elim
   |some k=>
    rw[e] at p;intro ι' H' b e1 r1 q;cases q;exact p ι' H' (!k) e1 r1 rfl
noncomputable def BX(da db:Tw.Env->Tw.Hp->Tw.R Tw.W):Tw.Env->Tw.Hp->Tw.R Tw.W:=fun ρ h=>(da ρ h).bind fun x h=>match x with
  |.bl true=>db ρ h
  |.bl false=>.ok (.bl false) h
  |_=>.bad
noncomputable def HH(da db:Tw.Env->Tw.Hp->Tw.R Tw.W):Tw.Env->Tw.Hp->Tw.R Tw.W:=fun ρ h=>(da ρ h).bind fun x h=>match x with
  |.bl false=>db ρ h
  |.bl true=>.ok (.bl true) h
  |_=>.bad
theorem Pw{rest:List Expr}(ha:PE X a (tE (zx X E) da))(hb:PE X (.BoolOp .And (b::rest) pos) (tE (zx X E) db)):PE X (.BoolOp .And (a::b::rest) pos) (tE (zx X E) (BX da db)):=by
 refine PE.imp (LH ha hb) fun σ H Q Z=>Z.g fun ρ Z=>Z.g fun h Z=>Z.g fun ι Z=>Z.g fun at' p=>⟨ρ,h,ι,at',(step at' p).mono fun x H1 Z=>Z.g fun w Z=>Z.g fun h1 Z=>Z.g fun ι1 Z=>Z.g fun at1 Z=>Z.g fun e1 Z=>Z.g fun r1 p1=>?_⟩;cases r1 with
 |bl k=>
  refine⟨k,rfl,?_⟩;cases k with
  |true=>rw[if_pos rfl];exact⟨ρ,h1,ι1,at1,p1⟩
  |false=>rw[if_neg (by decide)];exact ai.self (a:=Tw.W.bl false) p1 at1.hr (.bl _)
 |_=>exact p1.elim
theorem TJ{rest:List Expr}(ha:PE X a (tE (zx X E) da))(hb:PE X (.BoolOp .Or (b::rest) pos) (tE (zx X E) db)):PE X (.BoolOp .Or (a::b::rest) pos) (tE (zx X E) (HH da db)):=by
 refine PE.imp (P9 ha hb) fun σ H Q Z=>Z.g fun ρ Z=>Z.g fun h Z=>Z.g fun ι Z=>Z.g fun at' p=>⟨ρ,h,ι,at',(step at' p).mono fun x H1 Z=>Z.g fun w Z=>Z.g fun h1 Z=>Z.g fun ι1 Z=>Z.g fun at1 Z=>Z.g fun e1 Z=>Z.g fun r1 p1=>?_⟩;cases r1 with
 |bl k=>
  refine⟨k,rfl,?_⟩;cases k with
  |true=>rw[if_pos rfl];exact ai.self (a:=Tw.W.bl true) p1 at1.hr (.bl _)
  |false=>rw[if_neg (by decide)];exact⟨ρ,h1,ι1,at1,p1⟩
 |_=>exact p1.elim
theorem w_and{rest:List Expr}(ha:PT X a (tT (zx X E) da))(hb:PW X (.BoolOp .And (b::rest) pos) (tT (zx X E) db)):PW X (.BoolOp .And (a::b::rest) pos) (tT (zx X E) (BX da db)):=by
 refine PW.imp (Nh ha hb) fun σ H Q Z=>Z.g fun ρ Z=>Z.g fun h Z=>Z.g fun ι Z=>Z.g fun at' p=>⟨ρ,h,ι,at',?_⟩;simp only[dT,BX,bind_assoc] at p⊢;cases e0:da ρ h with
 |bad=>rw[e0] at p;exact p.elim
 |au=>rw[e0] at p;exact p
 |ok w h1=>
  rw[e0] at p;simp only[Tw.R.ak] at p⊢;cases w with
  |bl k=>
   intro ι' H' k' e1 r1 q;cases q;cases k with
   |true=>rw[if_pos rfl];exact⟨ρ,h1,ι',at'.later e1 r1,ai.later p e1⟩
   |false=>rw[if_neg (by decide)];exact ai.self (a:=false) (ai.later p e1) r1 rfl
  |_=>exact p.elim
theorem w_or{rest:List Expr}(ha:PT X a (tT (zx X E) da))(hb:PW X (.BoolOp .Or (b::rest) pos) (tT (zx X E) db)):PW X (.BoolOp .Or (a::b::rest) pos) (tT (zx X E) (HH da db)):=by
 refine PW.imp (Pq ha hb) fun σ H Q Z=>Z.g fun ρ Z=>Z.g fun h Z=>Z.g fun ι Z=>Z.g fun at' p=>⟨ρ,h,ι,at',?_⟩;simp only[dT,HH,bind_assoc] at p⊢;cases e0:da ρ h with
 |bad=>rw[e0] at p;exact p.elim
 |au=>rw[e0] at p;exact p
 |ok w h1=>
  rw[e0] at p;simp only[Tw.R.ak] at p⊢;cases w with
  |bl k=>
   intro ι' H' k' e1 r1 q;cases q;cases k with
   |true=>rw[if_pos rfl];exact ai.self (a:=true) (ai.later p e1) r1 rfl
   |false=>rw[if_neg (by decide)];exact⟨ρ,h1,ι',at'.later e1 r1,ai.later p e1⟩
  |_=>exact p.elim
theorem Qb(hc:PT X c (tT (zx X E) dc))(ha:PE X a (tE (zx X E) da))(hb:PE X b (tE (zx X E) db)):PE X (.IfExp c a b pos) (tE (zx X E) fun ρ h=>(dc ρ h).bind fun x h=>match Tw.truth h x with
  |some true=>da ρ h
  |some false=>db ρ h
  |none=>.bad):=by
 refine PE.imp (Gp hc ha hb) fun σ H Q Z=>Z.g fun ρ Z=>Z.g fun h Z=>Z.g fun ι Z=>Z.g fun at' p=>⟨ρ,h,ι,at',?_⟩;simp only[dT] at p⊢;cases e0:dc ρ h with
 |bad=>rw[e0] at p;exact p.elim
 |au=>rw[e0] at p;exact p
 |ok w h1=>
  rw[e0] at p;simp only[Tw.R.ak] at p⊢;cases e:Tw.truth h1 w with
  |none=>rw[e] at p;exact p.elim
  |some k=>
   rw[e] at p;intro ι' H' k' e1 r1 q;cases q;cases k with
   |true=>rw[if_pos rfl];exact⟨ρ,h1,ι',at'.later e1 r1,ai.later p e1⟩
   |false=>rw[if_neg (by decide)];exact⟨ρ,h1,ι',at'.later e1 r1,ai.later p e1⟩
theorem JC(hu:X.A.units+1<cLine):pH X (fun x y H Q=>∃a v,x=.ref a/\gu H a y (some v)/\Q v H):=by
 intro value slice pins s σ H x y v u Q I rx ry ⟨a,z,ex,g,q⟩ hs;subst ex;cases rx;have hT:=zi I g;unfold subscriptTail;refine af ?_;rw[getitemInPython_of_ne hT.not_modules];refine af (wpAny_specialOf hT PySem.F.slot_dict_getitem.lookup ?_);have fin:wpAny (model X.prog X.w) X.A (subscripted slice false (.ref a) u) (fun r s₃=>wpAny (model X.prog X.w) X.A (letTemporaryGo value (.ref a) r >>= fun _=>pure r) (EP X pins σ Q) X.xe s₃) X.xe s:=by rw[hs];exact wpAny_operating (aF (DK hu I g ry fun w' s3 I3 rw'=>(⟨z,H,I3,rw',q⟩:EP X pins σ Q w' s3)) fun r s₃ h₃=>af (wpAny_letTemporaryGo (ah h₃)))
 first
  |exact ah (af fin)
  |exact af (ah (af fin))
  |exact af fin
def ML(K:W.Frag):R2:=fun x y H Q=>QC K x y H Q\/∃a v,x=.ref a/\gu H a y (some v)/\Q v H
theorem Np(ι:Nat->Addr)(h:Tw.Hp)(H:L2.Hp)(w u:Tw.W)(x y:V)(Q:VK)(r:HR (zx X E) ι h H)(rx:RW X.K ι h.length H w x)(ry:RW X.K ι h.length H u y)(p:ai (zx X E) RE ι h H (Tw.idx w u h) Q):ML X.K x y H Q:=by
 have lst:∀(i:Nat)(hi:i<h.length)(ws:List Tw.W)(xs:List V),bJ X.K H (ι i) xs->aT X.K ι h.length H ws xs->ai (zx X E) RE ι h H (match u with | .int k=>Tw.R.of (Tw.cH ws k) h|_=>.bad) Q->ML X.K (.ref (ι i)) y H Q:=by
  intro i hi ws xs sq rr p;cases ry with
  |int k=>
   dsimp only at p;cases e:Tw.cH ws k with
   |none=>rw[e] at p;exact p.elim
   |some w'=>
    rw[e] at p;obtain⟨v,q1,q2⟩:=rr.cH e;exact .inl (.inl ⟨ι i,xs,k,v,rfl,rfl,sq,q1,ai.self (a:=w') p r q2⟩)
  |_=>exact p.elim
 cases rx with
 | @tup a xs ws ea ra=>
  cases ry with
  |int k=>
   have p:ai (zx X E) RE ι h H (Tw.R.of (Tw.cH ws k) h) Q:=p;cases e:Tw.cH ws k with
   |none=>rw[e] at p;exact p.elim
   |some w'=>
    rw[e] at p;obtain⟨v,q1,q2⟩:=ra.cH e;exact .inl (.inr (.inl ⟨a,xs,k,v,rfl,rfl,TupAt.sq ea,q1,ai.self (a:=w') p r q2⟩))
  |_=>exact p.elim
 |str z hz=>
  cases ry with
  |int k=>
   have p:ai (zx X E) RE ι h H (if z.length<=Tw.SZ then Tw.R.of ((Tw.cH z k).map fun c=>Tw.W.str [c]) h else .bad) Q:=p;by_cases c:z.length<=Tw.SZ
   .rw[if_pos c] at p;cases e:Tw.cH z k with
    |none=>rw[e] at p;exact p.elim
    |some d=>
     rw[e] at p;refine .inl (.inr (.inr ⟨_,k,d,rfl,rfl,by rw[str_len,fI];exact c,?_,?_⟩))
     .show L2.cH z.toArray.toList k=some d;rw[List.toList_toArray];exact e
     .have hd:d<0x110000:=by
       unfold Tw.cH at e;cases e2:Tw.iX z.length k with
       |none=>rw[e2] at e;cases e
       |some j=>rw[e2] at e;exact hz d (xS e)
      exact ai.self (a:=Tw.W.str [d]) p r (.str [d] fun c hc=>by simp at hc;subst hc;exact hd)
   .rw[if_neg c] at p;exact p.elim
  |_=>exact p.elim
 | @ref i hi=>
  cases ei:h[i]? with
  |none=>
   have:h.length<=i:=by
    rcases xU i h.length with z|z
    .rw[mL z] at ei;cases ei
    .exact z
   omega
  |some o=>
   cases o with
   |lst ws=>
    obtain⟨xs,q1,q2⟩:=r.obj i _ ei;refine lst i hi ws xs (bJ.of q1) q2 ?_;simp only[Tw.idx,ei] at p;cases u<;>exact p
   |bR ws=>
    obtain⟨xs,q1,q2⟩:=r.obj i _ ei;refine lst i hi ws xs q1.sq q2 ?_;simp only[Tw.idx,ei] at p;cases u<;>exact p
   |aj kvs=>
    obtain⟨xs,q1,q2⟩:=r.obj i _ ei;have p:ai (zx X E) RE ι h H (if Tw.isKey u=true then Tw.R.of (Tw.c9 u kvs) h else .bad) Q:=by simp only[Tw.idx,ei] at p;cases u<;>exact p
    by_cases c:Tw.isKey u=true
    .rw[if_pos c] at p;obtain⟨k,rfl⟩:=iO ry c;rcases q2.get ry with ⟨g1,g2⟩|⟨w2,v2,g1,g2,g3⟩
     .rw[g1] at p;exact p.elim
     .rw[g1] at p;refine .inr ⟨_,v2,rfl,?_,ai.self (a:=w2) p r g3⟩;have:=gu.k (k:=k) q1;rw[g2] at this;exact this
    .rw[if_neg c] at p;exact p.elim
   |ins _ _=>exfalso;cases ry<;>simp[Tw.idx,ei] at p<;>exact p
   |au _ _=>exfalso;cases ry<;>simp[Tw.idx,ei] at p<;>exact p
 |_=>cases ry<;>exact p.elim
theorem PK(hu:X.A.units+1<cLine)(ha:PE X a (tE (zx X E) da))(hb:PE X b (tE (zx X E) db))(hs:uI b):PE X (.Subscript a b pos) (tE (zx X E) fun ρ h=>(da ρ h).bind fun x h=>(db ρ h).bind fun y h=>Tw.idx x y h):=
 PE.imp (Ic (Om.or (JC hu)) ha hb hs) (two Np)
theorem Hj(x:Tw.S)(l u:Option (Int×Tok)):(slicePicked ⟨x.toArray⟩ l u none).filterMap (x.toArray[·]?)=Tw.cut x (l.map (·.1)) (u.map (·.1))/\
  (slicePicked ⟨x.toArray⟩ l u none)=(List.range (Tw.aV x.length x.length (u.map (·.1))-Tw.aV x.length 0 (l.map (·.1)))).map (Tw.aV x.length 0 (l.map (·.1))+ ·):=by
 have e:slicePicked ⟨x.toArray⟩ l u none=Builtin.Str.strSliceIndices (l.map (·.1)) (u.map (·.1)) 1 x.length:=by unfold slicePicked;rw[str_len];rfl
 have e2:Builtin.Str.strSliceIndices (l.map (·.1)) (u.map (·.1)) 1 x.length=sliceRange (sliceBounds (l.map (·.1)) (u.map (·.1)) none x.length).1 (sliceBounds (l.map (·.1)) (u.map (·.1)) none x.length).2.1 1:=rfl;obtain⟨h1,h2,h3⟩:=p5 (l.map (·.1)) (u.map (·.1)) x.length;rw[e,e2,h1,h2,sliceRange_one,pick_run];unfold Tw.cut;rw[kT,kT];exact⟨by simp,rfl⟩
def LL:V->Option Int->Option Int->L2.Hp->VK->Prop:=fun x lo hi H Q=>∃z:Tw.S,x=.str ⟨z.toArray⟩/\z.length<=sizeLine/\Q (.str ⟨(Tw.cut z lo hi).toArray⟩) H
theorem part_of(p:IsPart v o):∃l:Option (Int×Tok),v=partValue l/\o=l.map (·.1):=by
 cases p with
 |none=>exact⟨none,rfl,rfl⟩
 |int i t=>exact⟨some (i,t),rfl,rfl⟩
theorem MV:tQ X LL:=by
 intro pins s σ H x v vl vu lo hi sl Q I rx hs pl pu ⟨z,ex,lz,q⟩;subst ex;obtain⟨t,rfl⟩:=rx;obtain⟨l,rfl,rfl⟩:=part_of pl;obtain⟨u,rfl,rfl⟩:=part_of pu;refine⟨"str",_,PySem.F.slot_str_getitem.lookup,typeIs_str s _ t,?_⟩;refine wpAny_getItem_str_slice (l:=l) (u:=u) (st:=none) hs rfl ?_;obtain⟨h1,h2⟩:=Hj z l u;unfold sliceMade;by_cases c:((((none:Option (Int×Tok)).map (·.1)).getD 1== 1&&(slicePicked ⟨z.toArray⟩ l u none).length== (⟨z.toArray⟩:Str).length)=true)
 .rw[if_pos c];have c2:(slicePicked ⟨z.toArray⟩ l u none).length=z.length:=by
   have:=(pT.mp c).2;rw[str_len] at this;simpa using this
  rw[h2,j3,List.length_range] at c2;have ez:Tw.cut z (l.map (·.1)) (u.map (·.1))=z:=by
   have b1:Tw.aV z.length z.length (u.map (·.1))<=z.length:=by rw[kT];exact HT.DY _ _ (aG _) _
   unfold Tw.cut;by_cases zl:z.length=0
   .have:z=[]:=List.eq_nil_of_length_eq_zero zl;subst this;simp
   .have b2:Tw.aV z.length 0 (l.map (·.1))=0:=by omega
    have b3:Tw.aV z.length z.length (u.map (·.1))=z.length:=by omega
    rw[b2,b3];simp
  rw[ez] at q;exact⟨.str ⟨z.toArray⟩,H,I,⟨t,rfl⟩,q⟩
 .rw[if_neg c];have e:(⟨((slicePicked ⟨z.toArray⟩ l u none).filterMap ((⟨z.toArray⟩:Str).cps[·]?)).toArray⟩:Str)=⟨(Tw.cut z (l.map (·.1)) (u.map (·.1))).toArray⟩:=by
   rw[show ((slicePicked ⟨z.toArray⟩ l u none).filterMap ((⟨z.toArray⟩:Str).cps[·]?))=_ from h1]
  rw[e];have lc:(⟨(Tw.cut z (l.map (·.1)) (u.map (·.1))).toArray⟩:Str).length<=sizeLine:=by rw[str_len];unfold Tw.cut;rw[yJ,F7];omega
  exact⟨lc,.str ⟨(Tw.cut z (l.map (·.1)) (u.map (·.1))).toArray⟩,H,I.tok _,⟨_,rfl⟩,q⟩
end
section
variable {X:Cx}{E:XK}{a b c:Expr}{pos:Pos}{da db dc:Tw.Env->Tw.Hp->Tw.R Tw.W}
theorem KH(hz:rA z)(lo hi:Option Int):rA (Tw.cut z lo hi):=fun c hc=>hz c (List.mem_of_mem_drop (List.mem_of_mem_take hc))
abbrev CJ(K:Zk)(d:Tw.Env->Tw.Hp->Tw.R (Option Tw.W)):TO:=fun σ H Q=>∃ρ h ι,At K ι h H ρ σ/\ai K (fun _ _ _ _ (a:Option Tw.W) (b:Option Tw.W)=>a=b) ι h H (d ρ h) fun o H1=>∃i,Tw.iY o=some i/\Q i H1
theorem E8:PO X none (CJ (zx X E) fun _ h=>.ok none h):=fun pins s σ H Q I Z=>Z.g fun ρ Z=>Z.g fun h Z=>Z.g fun ι Z=>Z.g fun at' p=>by
 obtain⟨i,e,q⟩:=p.self at'.hr rfl;cases e;exact Kz pins s σ H Q I q
theorem GH(ha:PE X a (tE (zx X E) da)):PO X (some a) (CJ (zx X E) fun ρ h=>(da ρ h).bind fun x h=>.ok (some x) h):=fun pins s σ H Q I Z=>Z.g fun ρ Z=>Z.g fun h Z=>Z.g fun ι Z=>Z.g fun at' p=>by
 refine KC ha pins s σ H Q I ⟨ρ,h,ι,at',(step at' p).mono fun x H1 Z=>Z.g fun w Z=>Z.g fun h1 Z=>Z.g fun ι1 Z=>Z.g fun at1 Z=>Z.g fun e1 Z=>Z.g fun r1 p1=>?_⟩;obtain⟨i,e,q⟩:=ai.self (a:=some w) p1 at1.hr rfl;cases r1 with
 |int k=>cases e;exact⟨k,rfl,q⟩
 |_=>cases e
def M6(K:W.Frag):V->Option Int->Option Int->L2.Hp->VK->Prop:=fun x lo hi H Q=>NC K x lo hi H Q\/Oj K x lo hi H Q\/LL x lo hi H Q
theorem Ng:tQ X (M6 X.K):=LZ.or (KP.or MV)
theorem FR{ι:Nat->Addr}(r:HR (zx X E) ι h H)(rx:RW X.K ι h.length H w x)(el:Tw.iY l=some i)(eu:Tw.iY u=some j)
  (p:ai (zx X E) RE ι h H (Tw.slice w l u h) Q):M6 X.K x i j H Q:=by
 unfold Tw.slice at p;rw[el,eu] at p;dsimp only at p;cases rx with
 | @tup a xs ws ea ra=>
  dsimp only at p;by_cases c:Tw.aV ws.length 0 i=0/\Tw.aV ws.length ws.length j=ws.length
  .rw[if_pos c] at p;exact p.elim
  .rw[if_neg c] at p;refine .inl ⟨a,xs,rfl,TupAt.sq ea,?_,p.tup r (ra.cut i j)⟩;rw[<-ra.length,<-kT,<-kT];exact c
 |str z hz=>
  dsimp only at p;by_cases c:z.length<=Tw.SZ
  .rw[if_pos c] at p;exact .inr (.inr ⟨z,rfl,by rw[fI];exact c,p.self r (.str _ (KH hz i j))⟩)
  .rw[if_neg c] at p;exact p.elim
 | @ref k hk=>
  dsimp only at p;cases ei:h[k]? with
  |none=>rw[ei] at p;exact p.elim
  |some o=>
   rw[ei] at p;cases o with
   |lst ws=>obtain⟨xs,q1,q2⟩:=r.obj k _ ei;exact .inr (.inl ⟨_,xs,rfl,bJ.of q1,p.lst r (q2.cut i j)⟩)
   |bR ws=>obtain⟨xs,q1,q2⟩:=r.obj k _ ei;exact .inr (.inl ⟨_,xs,rfl,q1.sq,p.lst r (q2.cut i j)⟩)
   |aj _=>exact p.elim
   |ins _ _=>exact p.elim
   |au _ _=>exact p.elim
 |_=>exact p.elim
theorem Jf{lo hi:Option Expr}{p2:Pos}{dl du:Tw.Env->Tw.Hp->Tw.R (Option Tw.W)}(ha:PE X a (tE (zx X E) da))(hl:PO X lo (CJ (zx X E) dl))(hu:PO X hi (CJ (zx X E) du)):
  PE X (.Subscript a (.Slice lo hi none p2) pos) (tE (zx X E) fun ρ h=>(da ρ h).bind fun x h=>(dl ρ h).bind fun l h=>(du ρ h).gS.bind fun u h=>Tw.slice x l u h):=by
 refine PE.imp (G8 Ng ha hl hu) fun σ H Q Z=>Z.g fun ρ Z=>Z.g fun h Z=>Z.g fun ι Z=>Z.g fun at' p=>⟨ρ,h,ι,at',(step at' p).mono fun x H1 Z=>Z.g fun w Z=>Z.g fun h1 Z=>Z.g fun ι1 Z=>Z.g fun at1 Z=>Z.g fun e1 Z=>Z.g fun r1 p1=>?_⟩;refine⟨ρ,h1,ι1,at1,?_⟩;cases el:dl ρ h1 with
 |bad=>rw[el] at p1;exact p1.elim
 |au=>rw[el] at p1;exact p1
 |ok l h2=>
  rw[el] at p1;simp only[Tw.R.ak] at p1;intro ι2 H2 l' e2 r2 q2;cases q2;cases eu:du ρ h2 with
  |bad=>rw[eu] at p1;exact p1.elim
  |au=>rw[eu] at p1;exact p1.elim
  |ok u h3=>
   rw[eu] at p1;simp only[Tw.R.gw,Tw.R.ak] at p1;have pl:∃i,Tw.iY l=some i:=by
    cases e:Tw.iY l with
    |some i=>exact⟨i,rfl⟩
    |none=>unfold Tw.slice at p1;rw[e] at p1;exact p1.elim
   have pu:∃i,Tw.iY u=some i:=by
    cases e:Tw.iY u with
    |some i=>exact⟨i,rfl⟩
    |none=>unfold Tw.slice at p1;rw[e] at p1;obtain⟨i,e'⟩:=pl;rw[e'] at p1;exact p1.elim
   obtain⟨i,ei⟩:=pl;obtain⟨j,ej⟩:=pu;refine⟨i,ei,ρ,h2,ι2,at1.later e2 r2,?_⟩;rw[eu];intro ι3 H3 u' e3 r3 q3;cases q3;have p3:=ai.later (ai.later p1 e2) e3;exact⟨j,ej,FR r3 ((r1.keep (e2.keeps at1.hr)).keep (e3.keeps r2)) ei ej p3⟩
theorem sN{r:List V->L2.Hp->VK->Prop}(hp:PE X (.Call (.Name x p) [a] [] pos) (Mb r (lR (tE (zx X E) da) uR)))
  (hr:∀(ι:Nat->Addr)(h:Tw.Hp)(H:L2.Hp)(w:Tw.W)(x:V)(Q:VK),HR (zx X E) ι h H->RW X.K ι h.length H w x->ai (zx X E) RE ι h H (Tw.builtin o w h) Q->r [x] H Q):
  PE X (.Call (.Name x p) [a] [] pos) (tE (zx X E) fun ρ h=>(da ρ h).bind fun x h=>Tw.builtin o x h):=
 PE.imp hp fun σ H Q Z=>Z.g fun ρ Z=>Z.g fun h Z=>Z.g fun ι Z=>Z.g fun at' p=>⟨ρ,h,ι,at',(step at' p).mono fun x H1 Z=>Z.g fun w Z=>Z.g fun h1 Z=>Z.g fun ι1 Z=>Z.g fun at1 Z=>Z.g fun e1 Z=>Z.g fun r1 p1=>hr ι1 h1 H1 w x Q at1.hr r1 p1⟩
noncomputable def Iz(K:W.Frag):List V->L2.Hp->VK->Prop:=fun xs H Q=>(∃p ys,xs=[.ref p]/\(bJ K H p ys\/eC K H p ys)/\Q (.int ys.length) H)\/(∃z,xs=[.str z]/\z.length<=sizeLine/\Q (.int z.length) H)\/∃a kvs,xs=[V.ref a]/\H a=some (.dK kvs)/\Q (.int kvs.length) H
theorem DO:eI X (.builtin "len") (Iz X.K):=wC.or (xw.or Ey)
theorem Nr(ι:Nat->Addr)(h:Tw.Hp)(H:L2.Hp)(w:Tw.W)(x:V)(Q:VK)(r:HR (zx X E) ι h H)(rx:RW X.K ι h.length H w x)(p:ai (zx X E) RE ι h H (Tw.builtin .len w h) Q):Iz X.K [x] H Q:=by
 unfold Tw.builtin at p;dsimp only at p;cases rx with
 |str z hz=>
  dsimp only at p;by_cases c:z.length<=Tw.SZ
  .rw[if_pos c] at p;refine .inr (.inl ⟨_,rfl,by rw[str_len,fI];exact c,?_⟩);rw[str_len];exact p.self r (.int _)
  .rw[if_neg c] at p;exact p.elim
 | @tup a xs ws ea ra=>exact .inl ⟨a,xs,rfl,.inr (TupAt.sq ea),by rw[<-ra.length];exact p.self r (.int _)⟩
 | @ref k hk=>
  dsimp only at p;cases ei:h[k]? with
  |none=>rw[ei] at p;exact p.elim
  |some o=>
   rw[ei] at p;cases o with
   |lst ws=>obtain⟨xs,q1,q2⟩:=r.obj k _ ei;exact .inl ⟨_,xs,rfl,.inl (bJ.of q1),by rw[<-q2.length];exact p.self r (.int _)⟩
   |bR ws=>obtain⟨xs,q1,q2⟩:=r.obj k _ ei;exact .inl ⟨_,xs,rfl,.inl q1.sq,by rw[<-q2.length];exact p.self r (.int _)⟩
   |aj kvs=>obtain⟨xs,q1,q2⟩:=r.obj k _ ei;exact .inr (.inr ⟨_,xs,rfl,q1,by rw[<-q2.length];exact p.self r (.int _)⟩)
   |ins _ _=>exact p.elim
   |au _ _=>exact p.elim
 |_=>exact p.elim
theorem Dn:eI X (.type "tuple") (fun xs H Q=>∃p ys,xs=[.ref p]/\((bJ X.K H p ys/\∀l,H l=none->Q (.ref l) (upd H l (.tup ys)))\/(eC X.K H p ys/\Q (.ref p) H))):=vY
theorem FW(ι:Nat->Addr)(h:Tw.Hp)(H:L2.Hp)(w:Tw.W)(x:V)(Q:VK)(r:HR (zx X E) ι h H)(rx:RW X.K ι h.length H w x)(p:ai (zx X E) RE ι h H (Tw.builtin .tuple w h) Q):
  ∃p ys,[x]=[V.ref p]/\((bJ X.K H p ys/\∀l,H l=none->Q (.ref l) (upd H l (.tup ys)))\/(eC X.K H p ys/\Q (.ref p) H)):=by
 unfold Tw.builtin at p;dsimp only at p;cases rx with
 | @tup a xs ws ea ra=>exact⟨a,xs,rfl,.inr ⟨TupAt.sq ea,p.self r (.tup ea ra)⟩⟩
 | @ref k hk=>
  dsimp only at p;cases ei:h[k]? with
  |none=>rw[ei] at p;exact p.elim
  |some o=>
   rw[ei] at p;cases o with
   |lst ws=>obtain⟨xs,q1,q2⟩:=r.obj k _ ei;exact⟨_,xs,rfl,.inl ⟨bJ.of q1,p.tup r q2⟩⟩
   |bR ws=>obtain⟨xs,q1,q2⟩:=r.obj k _ ei;exact⟨_,xs,rfl,.inl ⟨q1.sq,p.tup r q2⟩⟩
   |aj kvs=>exact p.elim
   |ins _ _=>exact p.elim
   |au _ _=>exact p.elim
 |_=>exact p.elim
theorem vC:∀{kvs:List (Key×V)}{vs:List (Key×Value)},Paired (fun (p:Key×V) (q:Key×Value)=>p.1=q.1/\RelV p.2 q.2) kvs vs->∀us:List Value,us.length=vs.length->
  (∀(j:Nat)(v:Value),us[j]?=some v->∃k x,vs[j]?=some (k,x)/\(bS P w).is k v=true)->Vals (kvs.map fun kv=>kV kv.1) us
 |_,_,.nil,[],_,_=>.nil
 |_,_,.nil,_::_,hn,_=>by cases hn
 |_,_,.cons _ _,[],hn,_=>by cases hn
 |_,_,.cons (a:=p) (b:=q') hp t,u::us,hn,hall=>by
  refine .cons ?_ (vC t us (by simpa using hn) fun j v e=>by simpa using hall (j+1) v (by simpa using e));obtain⟨k,x,e,hk⟩:=hall 0 u rfl;have e:q'=(k,x):=by simpa using e
  subst e;have hk:jj k u=true:=hk;show RelV (kV p.1) u;rw[hp.1];rcases cJ hk with ⟨i,t,e1,rfl⟩|⟨y,t,e1,rfl⟩
  .show RelV (kV k) _;rw[e1];exact⟨t,rfl⟩
  .show RelV (kV k) _;rw[e1];exact⟨t,rfl⟩
theorem B1(hc:X.calm=true):eI X (.type "list") (fun xs H Q=>∃a kvs,xs=[V.ref a]/\H a=some (.dK kvs)/\∀l,H l=none->Q (.ref l) (upd H l (.lst (kvs.map fun kv=>kV kv.1)))):=by
 intro pins s σ H xs us Q I r ⟨a,kvs,ex,ea,q⟩;subst ex;obtain⟨u,rfl,ru⟩:=vals1 r;cases ru;obtain⟨z,hd,vs,rel,dd⟩:=Bq I.av ea;obtain⟨ep,da⟩:=dd.dictAt;refine W.kdl_call (W.kdl_dict hd) (I.ok.hd hc) da (by rw[<-rel.length];exact z) fun h' tk acc' c' hk hS hi=>?_;have rv:Vals (kvs.map fun kv=>kV kv.1) acc'.toList:=by
  have hn:acc'.toList.length=vs.length:=by rw[HY];exact hi.1
  exact vC rel acc'.toList hn fun j v e=>hi.2 j v (by rw[<-Array.getElem?_toList];exact e)
 exact⟨.ref s.heap.objs.size,_,I.laid (a:=s.heap.objs.size) (o:=.lst _) (t':=tk) hk (aG _) ⟨by rw[j3];exact z,acc'.toList,c',rv,by simpa using hS⟩,rfl,q _ (I.av.fresh (aG _))⟩
theorem RD.keys{ι:Nat->Addr}:∀{kvs:List (Tw.W×Tw.W)}{xs:List (Key×V)},RD X.K ι n H kvs xs->aT X.K ι n H (kvs.map (·.1)) (xs.map fun kv=>kV kv.1)
 |_,_,.nil=>.nil
 |_,_,.cons _ a _ r=>.cons a r.keys
def ES(K:W.Frag):List V->L2.Hp->VK->Prop:=fun xs H Q=>(∃p ys,xs=[.ref p]/\(bJ K H p ys\/eC K H p ys)/\∀l,H l=none->Q (.ref l) (upd H l (.lst ys)))\/
 ∃a kvs,xs=[V.ref a]/\H a=some (.dK kvs)/\∀l,H l=none->Q (.ref l) (upd H l (.lst (kvs.map fun kv=>kV kv.1)))
theorem Bd(hc:X.calm=true):eI X (.type "list") (ES X.K):=xW.or (B1 hc)
theorem JS(ι:Nat->Addr)(h:Tw.Hp)(H:L2.Hp)(w:Tw.W)(x:V)(Q:VK)(r:HR (zx X E) ι h H)(rx:RW X.K ι h.length H w x)(p:ai (zx X E) RE ι h H (Tw.builtin .list w h) Q):ES X.K [x] H Q:=by
 unfold Tw.builtin at p;dsimp only at p;cases rx with
 | @tup a xs ws ea ra=>exact .inl ⟨a,xs,rfl,.inr (TupAt.sq ea),p.lst r ra⟩
 | @ref k hk=>
  dsimp only at p;cases ei:h[k]? with
  |none=>rw[ei] at p;exact p.elim
  |some o=>
   rw[ei] at p;cases o with
   |lst ws=>obtain⟨xs,q1,q2⟩:=r.obj k _ ei;exact .inl ⟨_,xs,rfl,.inl (bJ.of q1),p.lst r q2⟩
   |bR ws=>obtain⟨xs,q1,q2⟩:=r.obj k _ ei;exact .inl ⟨_,xs,rfl,.inl q1.sq,p.lst r q2⟩
   |aj kvs=>obtain⟨xs,q1,q2⟩:=r.obj k _ ei;exact .inr ⟨_,xs,rfl,q1,p.lst r q2.keys⟩
   |ins _ _=>exact p.elim
   |au _ _=>exact p.elim
 |_=>exact p.elim
theorem BU:eI X (.type "dict") (fun xs H Q=>∃a kvs,xs=[V.ref a]/\H a=some (.dK kvs)/\∀l,H l=none->Q (.ref l) (upd H l (.dK kvs))):=by intro pins s σ H xs us Q I r ⟨a,kvs,ex,ea,q⟩;subst ex;obtain⟨u,rfl,ru⟩:=vals1 r;cases ru;exact Gv I (.inl ea) fun p s' hp I'=>⟨.ref p,_,I',rfl,q p hp⟩
theorem JL(ι:Nat->Addr)(h:Tw.Hp)(H:L2.Hp)(w:Tw.W)(x:V)(Q:VK)(r:HR (zx X E) ι h H)(rx:RW X.K ι h.length H w x)(p:ai (zx X E) RE ι h H (Tw.builtin .dict w h) Q):
  ∃a kvs,[x]=[V.ref a]/\H a=some (.dK kvs)/\∀l,H l=none->Q (.ref l) (upd H l (.dK kvs)):=by
 unfold Tw.builtin at p;dsimp only at p;cases rx with
 | @ref k hk=>
  dsimp only at p;cases ei:h[k]? with
  |none=>rw[ei] at p;exact p.elim
  |some o=>
   rw[ei] at p;cases o with
   |aj kvs=>obtain⟨xs,q1,q2⟩:=r.obj k _ ei;exact⟨_,xs,rfl,q1,p.aj r q2⟩
   |_=>exact p.elim
 |_=>exact p.elim
end
section
variable {X:Cx}{E:XK}{a b c o e f:Expr}{pos apos cpos:Pos}{da db dc d1 d2:Tw.Env->Tw.Hp->Tw.R Tw.W}
def iz(K:W.Frag)(mg:Str->Option Value)(F:List Tw.W->Tw.Hp->Tw.R Tw.W):Sp:=fun vs H Q E=>∃ws h ι,HR ⟨K,mg,E⟩ ι h H/\aT K ι h.length H ws vs/\ai ⟨K,mg,E⟩ RE ι h H (F ws h) Q
theorem s_call{F:List Tw.W->Tw.Hp->Tw.R Tw.W}{ds:Tw.Env->Tw.Hp->Tw.R (List Tw.W)}
  (G:cv X.prog X.w X.K X.mg X.base CX k g fd ps (iz X.K X.mg F)) (hx:Passes CX X E) (hr:bZ k X.A) (hg:Gl X x) (hm:X.mg x=some (.ref g)) (hk:W.keepIn X.K (.ref g)=true) (hb:Binds X.K fd ps [])
  (hs:PA X (e::es) (tA (zx X E) n ds)) (hd:(x== ("__debug__" : Str))=false) (hst:starEach (e::es) X.env=(false,eval e X.env)::starEach es X.env) (hpl:(backTo pos (starEach es X.env)).any (·.1)=false):
  PE X (.Call (.Name x p) (e::es) [] pos) (tE (zx X E) fun ρ h=>(ds ρ h).bind fun xs h=>F xs h):=by
 refine PE.imp (JJ (dvs:=[]) (ds:=[]) (E:=E) G hr hg hm hk hb .nil hx hs hd hst hpl) fun σ H Q Z=>Z.g fun ρ Z=>Z.g fun h Z=>Z.g fun ι Z=>Z.g fun at' p=>⟨ρ,h,ι,at',(step at' p).mono fun xs H1 Z=>Z.g fun ws Z=>Z.g fun h1 Z=>Z.g fun ι1 Z=>Z.g fun at1 Z=>Z.g fun e1 Z=>Z.g fun r1 p1=>?_⟩;rw[jf];exact⟨ws,h1,ι1,at1.hr,r1.1,p1⟩
structure Me(X:Cx)(o:Expr)(m:Str)(apos:Pos)(es:List Expr)(cpos:Pos):Prop where
 base:attributeBase o m X.env (eval o X.env)=eval o X.env
 m8:((backTo cpos (starEach es X.env)).all (fun x=>!x.1)&&(backToKw cpos (keywordEach [] X.env)).all (fun x=>x.1.isSome)
  && decide (es.length+([]:List Keyword).length+(if ([]:List Keyword).isEmpty then 0 else 1)<30))=true
 line:(apos.endLine== cpos.line)=true
def yk(m:Tw.Mt)(da db:Tw.Env->Tw.Hp->Tw.R Tw.W):Tw.Env->Tw.Hp->Tw.R Tw.W:=fun ρ h=>(da ρ h).bind fun x h=>if Tw.i6 m x h then (db ρ h).bind fun y h=>Tw.method m x [y] h else .bad
def N0(m:Tw.Mt)(da db dc:Tw.Env->Tw.Hp->Tw.R Tw.W):Tw.Env->Tw.Hp->Tw.R Tw.W:=fun ρ h=>(da ρ h).bind fun x h=>if Tw.i6 m x h then (db ρ h).bind fun y h=>(dc ρ h).bind fun z h=>Tw.method m x [y,z] h else .bad
theorem ai.ite{K:Zk}{α β:Type}{R:Rl α β}{ι:Nat->Addr}{h:Tw.Hp}{H:L2.Hp}{c:Bool}{m:Tw.R α}{Q:β->L2.Hp->Prop}(p:ai K R ι h H (if c=true then m else .bad) Q):c=true/\ai K R ι h H m Q:=by
 cases c with
 |true=>exact⟨rfl,by simpa using p⟩
 |false=>rw[if_neg (by decide)] at p;exact p.elim
theorem C3(e:Tw.i6 .append w h=true):∃i ws,w=.ref i/\h[i]?=some (.lst ws):=by
 cases w with
 |ref i=>
  have e:(match h[i]? with|some (.lst _)=>true|_=>false)=true:=e;cases ei:h[i]? with
  |none=>rw[ei] at e;cases e
  |some o=>
   rw[ei] at e;cases o with
   |lst ws=>exact⟨i,ws,rfl,ei⟩
   |_=>cases e
 |_=>cases e
theorem Ez(e:Tw.i6 .get w h=true):∃i ws,w=.ref i/\h[i]?=some (.aj ws):=by
 cases w with
 |ref i=>
  have e:(match h[i]? with|some (.aj _)=>true|_=>false)=true:=e;cases ei:h[i]? with
  |none=>rw[ei] at e;cases e
  |some o=>
   rw[ei] at e;cases o with
   |aj ws=>exact⟨i,ws,rfl,ei⟩
   |_=>cases e
 |_=>cases e
theorem GI(me:Me X o "append" apos [e] cpos)(hst:starEach [e] X.env=[(false,eval e X.env)])(ho:PE X o (tE (zx X E) da))(he:PE X e (tE (zx X E) db)):
  PE X (.Call (.Attribute o "append" apos) [e] [] cpos) (tE (zx X E) (yk .append da db)):=by
 refine PE.imp (A1 BY PySem.F.slot_list_append PySem.F.type_list_append vP ho (bA he cy hst) me.base me.m8 me.line hst rfl) fun σ H Q Z=>Z.g fun ρ Z=>Z.g fun h Z=>Z.g fun ι Z=>Z.g fun at' p=>?_;refine⟨ρ,h,ι,at',(step at' p).mono fun x H1 Z=>Z.g fun w Z=>Z.g fun h1 Z=>Z.g fun ι1 Z=>Z.g fun at1 Z=>Z.g fun e1 Z=>Z.g fun r1 p1=>?_⟩;obtain⟨hc,p1⟩:=ai.ite p1;obtain⟨i,ws,rfl,ei⟩:=C3 hc;cases r1 with
 |ref hi=>
  obtain⟨xs,q1,q2⟩:=at1.hr.lst ei;refine⟨.inl ⟨rfl,xs,bJ.of q1⟩,ρ,h1,ι1,at1,(step at1 p1).mono fun y H2 Z=>Z.g fun u Z=>Z.g fun h2 Z=>Z.g fun ι2 Z=>Z.g fun at2 Z=>Z.g fun e2 Z=>Z.g fun r2 p2=>?_⟩;have p2:ai (zx X E) RE ι2 h2 H2 (match h2[i]? with
   |some (.lst ys)=>if ys.length<Tw.SZ then .ok .aq (h2.set i (.lst (ys++[u]))) else .bad
   |_=>.bad) Q:=p2
  have same:ι2 i=ι1 i:=e2.same i hi;cases ej:h2[i]? with
  |none=>rw[ej] at p2;exact p2.elim
  |some oj=>
   rw[ej] at p2;cases oj with
   |lst ys=>
    dsimp only at p2;by_cases c:ys.length<Tw.SZ
    .rw[if_pos c] at p2;obtain⟨zs,g1,g2⟩:=at2.hr.lst ej;refine⟨ι1 i,zs,y,rfl,rfl,by rw[<-same];exact g1,by rw[<-g2.length,fI];exact c,?_⟩;obtain⟨hr',ex⟩:=at2.hr.put (o:=.lst (zs++[y])) (u:=.lst (ys++[u])) ej rfl rfl (fun _ z=>nomatch z) fun H' k z=>⟨zs++[y],z,(g2.append (.cons r2 .nil)).keep k⟩;rw[<-same];exact p2 ι2 _ _ ex hr' .aq
    .rw[if_neg c] at p2;exact p2.elim
   |_=>exact p2.elim
theorem CS{ι:Nat->Addr}(r:HR (zx X E) ι h H)(ei:h[i]?=some (.aj kvs))(ry:RW X.K ι h.length H k y)(rz:RW X.K ι h.length H d z)(hk:Tw.isKey k=true)
  (p:ai (zx X E) RE ι h H (.ok ((Tw.c9 k kvs).getD d) h) Q):∃o,gu H (ι i) y o/\Q (o.getD z) H:=by
 obtain⟨xs,q1,q2⟩:=r.aj ei;obtain⟨q,rfl⟩:=iO ry hk;refine⟨_,gu.k q1,?_⟩;rcases q2.get ry with ⟨g1,g2⟩|⟨w2,v2,g1,g2,g3⟩
 .rw[g2];rw[g1] at p;exact ai.self (a:=d) p r rz
 .rw[g2];rw[g1] at p;exact ai.self (a:=w2) p r g3
theorem N1(hu:X.A.units+1<cLine)(me:Me X o "get" apos [e] cpos)(hst:backTo cpos (starEach [e] X.env)=[(false,eval e X.env)])(ho:PE X o (tE (zx X E) da))(he:PE X e (tE (zx X E) db)):
  PE X (.Call (.Attribute o "get" apos) [e] [] cpos) (tE (zx X E) (yk .get da db)):=by
 refine PE.imp (Fv hu ho he ⟨me.base,me.m8,me.line,hst⟩) fun σ H Q Z=>Z.g fun ρ Z=>Z.g fun h Z=>Z.g fun ι Z=>Z.g fun at' p=>?_;refine⟨ρ,h,ι,at',(step at' p).mono fun x H1 Z=>Z.g fun w Z=>Z.g fun h1 Z=>Z.g fun ι1 Z=>Z.g fun at1 Z=>Z.g fun e1 Z=>Z.g fun r1 p1=>?_⟩;obtain⟨hc,p1⟩:=ai.ite p1;obtain⟨i,ws,rfl,ei⟩:=Ez hc;cases r1 with
 |ref hi=>
  obtain⟨xs,q1,q2⟩:=at1.hr.aj ei;refine⟨_,rfl,.inl ⟨xs,.inl q1⟩,ρ,h1,ι1,at1,(step at1 p1).mono fun y H2 Z=>Z.g fun u Z=>Z.g fun h2 Z=>Z.g fun ι2 Z=>Z.g fun at2 Z=>Z.g fun e2 Z=>Z.g fun r2 p2=>?_⟩;have p2:ai (zx X E) RE ι2 h2 H2 (match h2[i]? with
   |some (.aj kvs)=>if Tw.isKey u=true then .ok ((Tw.c9 u kvs).getD .aq) h2 else .bad
   |_=>.bad) Q:=p2
  have same:ι2 i=ι1 i:=e2.same i hi;cases ej:h2[i]? with
  |none=>rw[ej] at p2;exact p2.elim
  |some oj=>
   rw[ej] at p2;cases oj with
   |aj kvs=>
    dsimp only at p2;obtain⟨hk,p2⟩:=ai.ite p2;rw[<-same];exact CS at2.hr ej r2 .aq hk p2
   |_=>exact p2.elim
theorem Lv(hu:X.A.units+1<cLine)(me:Me X o "get" apos [e,f] cpos)(hst:backTo cpos (starEach [e,f] X.env)=[(false,eval e X.env),(false,eval f X.env)])(ho:PE X o (tE (zx X E) da))(he:PE X e (tE (zx X E) db))(hf:PE X f (tE (zx X E) dc)):
  PE X (.Call (.Attribute o "get" apos) [e,f] [] cpos) (tE (zx X E) (N0 .get da db dc)):=by
 refine PE.imp (E7 hu ho he hf ⟨me.base,me.m8,me.line,hst⟩) fun σ H Q Z=>Z.g fun ρ Z=>Z.g fun h Z=>Z.g fun ι Z=>Z.g fun at' p=>?_;refine⟨ρ,h,ι,at',(step at' p).mono fun x H1 Z=>Z.g fun w Z=>Z.g fun h1 Z=>Z.g fun ι1 Z=>Z.g fun at1 Z=>Z.g fun e1 Z=>Z.g fun r1 p1=>?_⟩;obtain⟨hc,p1⟩:=ai.ite p1;obtain⟨i,ws,rfl,ei⟩:=Ez hc;cases r1 with
 |ref hi=>
  obtain⟨xs,q1,q2⟩:=at1.hr.aj ei;refine⟨_,rfl,.inl ⟨xs,.inl q1⟩,ρ,h1,ι1,at1,(step at1 p1).mono fun y H2 Z=>Z.g fun u Z=>Z.g fun h2 Z=>Z.g fun ι2 Z=>Z.g fun at2 Z=>Z.g fun e2 Z=>Z.g fun r2 p2=>⟨ρ,h2,ι2,at2,(step at2 p2).mono fun z H3 Z=>Z.g fun v Z=>Z.g fun h3 Z=>Z.g fun ι3 Z=>Z.g fun at3 Z=>Z.g fun e3 Z=>Z.g fun r3 p3=>?_⟩⟩;have p3:ai (zx X E) RE ι3 h3 H3 (match h3[i]? with
   |some (.aj kvs)=>if Tw.isKey u=true then .ok ((Tw.c9 u kvs).getD v) h3 else .bad
   |_=>.bad) Q:=p3
  have same:ι3 i=ι1 i:=(e3.same i (cU hi e2.len)).trans (e2.same i hi);cases ej:h3[i]? with
  |none=>rw[ej] at p3;exact p3.elim
  |some oj=>
   rw[ej] at p3;cases oj with
   |aj kvs=>
    dsimp only at p3;obtain⟨hk,p3⟩:=ai.ite p3;rw[<-same];exact CS at3.hr ej (r2.keep (e3.keeps at2.hr)) r3 hk p3
   |_=>exact p3.elim
theorem xY{ι:Nat->Addr}:∀{ws:List Tw.W}{xs:List V}{us:List Value}{ts:List Tw.S},aT X.K ι n H ws xs->Vals xs us->Tw.texts ws=some ts->
  StrsAre us (ts.map fun t=>⟨t.toArray⟩)/\∀t∈ts,rA t
 |_,_,_,ts,.nil,.nil,e=>by cases e;exact⟨.nil,fun _ h=>nomatch h⟩
 |w::ws,_,_,ts,.cons a r,.cons rv rvs,e=>by
  cases a with
  |str x hx=>
   have e:(Tw.texts ws).map (x:: ·)=some ts:=e;cases e2:Tw.texts ws with
   |none=>rw[e2] at e;cases e
   |some ts'=>
    rw[e2] at e;cases e;obtain⟨h1,h2⟩:=xY r rvs e2;obtain⟨t,rfl⟩:=rv;refine⟨.cons _ t h1,fun y hy=>?_⟩;rcases cQ.mp hy with rfl|hy
    .exact hx
    .exact h2 y hy
  |_=>cases e
theorem join_eq(sep:Tw.S):∀ts:List Tw.S,Str.join (⟨sep.toArray⟩:Str) (ts.map fun t=>⟨t.toArray⟩)=(⟨(Tw.gP sep ts).toArray⟩:Str)
 |[]=>rfl
 |[x]=>rfl
 |x::y::r=>by
  have ih:=join_eq sep (y::r);rw[aX,aX,join_cons_cons];rw[aX] at ih;rw[ih,ui,ui];rfl
theorem yn(hs:rA sep):∀{ts:List Tw.S},(∀t∈ts,rA t)->rA (Tw.gP sep ts)
 |[],_=>fun c hc=>nomatch hc
 |[x],h=>by simpa [Tw.gP] using h x (by simp)
 |x::y::r,h=>fun c hc=>by
  have ih:=yn hs (ts:=y::r) fun t ht=>h t (fK _ ht);rw[Tw.gP] at hc
  .rcases sx.mp hc with hc|hc
   .rcases sx.mp hc with hc|hc
    .exact h x (by simp) c hc
    .exact hs c hc
   .exact ih c hc
  .intro z;cases z
theorem Ky(ts:List Tw.S):((ts.map fun t=>(⟨t.toArray⟩:Str)).map (·.length)).sum=(ts.map (·.length)).sum:=by
 induction ts with
 |nil=>rfl
 |cons t r ih=>simp only[aX,List.sum_cons,str_len,ih]
theorem Jo:Ni X "str.join" (fun x xs H Q=>∃(ι:Nat->Addr) (n:Nat) (ws:List Tw.W) (p:Addr) (ys:List V) (sep:Tw.S) (ts:List Tw.S),x=.str ⟨sep.toArray⟩/\xs=[.ref p]/\bJ X.K H p ys/\aT X.K ι n H ws ys/\Tw.texts ws=some ts/\
  (ts.map (·.length)).sum+ts.length * sep.length<=Tw.SZ/\Q (.str ⟨(Tw.gP sep ts).toArray⟩) H):=by
 intro pins s σ H x xs v us Q I rx rs ⟨ι,n,ws,p,ys,sep,ts,ex,exs,sq,rr,et,hz,q⟩;subst ex exs;obtain⟨t,rfl⟩:=rx;obtain⟨u,rfl,ru⟩:=vals1 rs;cases ru;obtain⟨its,rv,pl,_⟩:=I.list sq;obtain⟨h1,h2⟩:=xY rr rv et;refine join_list pl.isList (by simpa using h1) ?_ fun t' k=>?_
 .rw[Ky,j3,str_len];exact hz
 .have e:Txt.join (⟨sep.toArray⟩:Str) (ts.map fun t=>⟨t.toArray⟩)=(⟨(Tw.gP sep ts).toArray⟩:Str):=(PySem.StrLaws.glued_eq_join _ _).trans (join_eq sep ts);rw[e];exact⟨.str ⟨(Tw.gP sep ts).toArray⟩,H,I.tok _,⟨_,rfl⟩,q⟩
theorem LC(me:Me X o "join" apos [e] cpos)(hst:starEach [e] X.env=[(false,eval e X.env)])(ho:PE X o (tE (zx X E) da))(he:PE X e (tE (zx X E) db)):
  PE X (.Call (.Attribute o "join" apos) [e] [] cpos) (tE (zx X E) (yk .join da db)):=by
 refine PE.imp (A1 PySem.F.plainAttrs_str PySem.F.slot_str_join PySem.F.type_str_join Jo ho (bA he cy hst) me.base me.m8 me.line hst rfl) fun σ H Q Z=>Z.g fun ρ Z=>Z.g fun h Z=>Z.g fun ι Z=>Z.g fun at' p=>?_;refine⟨ρ,h,ι,at',(step at' p).mono fun x H1 Z=>Z.g fun w Z=>Z.g fun h1 Z=>Z.g fun ι1 Z=>Z.g fun at1 Z=>Z.g fun e1 Z=>Z.g fun r1 p1=>?_⟩;obtain⟨hc,p1⟩:=ai.ite p1;cases r1 with
 |str sep hsep=>
  refine⟨rfl,ρ,h1,ι1,at1,(step at1 p1).mono fun y H2 Z=>Z.g fun u Z=>Z.g fun h2 Z=>Z.g fun ι2 Z=>Z.g fun at2 Z=>Z.g fun e2 Z=>Z.g fun r2 p2=>?_⟩;have p3:ai (zx X E) RE ι2 h2 H2 (match Tw.items h2 u with
   |some ys=>match Tw.texts ys with
    |some ts=>if (ts.map (·.length)).sum+ts.length * sep.length<=Tw.SZ then .ok (.str (Tw.gP sep ts)) h2 else .bad
    |none=>.bad
   |none=>.bad) Q:=p2
  cases ei:Tw.items h2 u with
  |none=>rw[ei] at p3;exact p3.elim
  |some ws=>
   rw[ei] at p3;dsimp only at p3;cases et:Tw.texts ws with
   |none=>rw[et] at p3;exact p3.elim
   |some ts=>
    rw[et] at p3;dsimp only at p3;by_cases c:(ts.map (·.length)).sum+ts.length * sep.length<=Tw.SZ
    .rw[if_pos c] at p3;clear p2;cases r2 with
     | @ref i hi=>
      have ei:Tw.bg h2 i=some ws:=ei;obtain⟨ys,sq,rr⟩:=at2.hr.at ei;have okt:∀t∈ts,rA t:=by
       have key:∀{ws:List Tw.W}{ys:List V}{ts:List Tw.S},aT X.K ι2 h2.length H2 ws ys->Tw.texts ws=some ts->∀t∈ts,rA t:=by
        intro ws ys ts rr et
        induction ws generalizing ys ts with
        |nil=>cases et;intro t ht;cases ht
        |cons w ws ih=>
         cases rr with
         |cons a rr=>
          cases a with
          |str x hx=>
           have et:(Tw.texts ws).map (x:: ·)=some ts:=et;cases e2:Tw.texts ws with
           |none=>rw[e2] at et;cases et
           |some ts'=>
            rw[e2] at et;cases et;intro t ht;rcases cQ.mp ht with rfl|ht
            .exact hx
            .exact ih rr e2 t ht
          |_=>cases et
       exact key rr et
      exact⟨ι2,h2.length,ws,_,ys,sep,ts,rfl,rfl,sq,rr,et,c,ai.self (a:=Tw.W.str (Tw.gP sep ts)) p3 at2.hr (RW.str _ (yn hsep okt))⟩
     |_=>cases ei
    .rw[if_neg c] at p3;exact p3.elim
 |_=>cases hc
theorem L4:PE X (.Dict [] [] pos) (tE (zx X E) fun _ h=>Tw.new (.aj []) h):=
 PE.imp Hh fun σ H Q Z=>Z.g fun ρ Z=>Z.g fun h Z=>Z.g fun ι Z=>Z.g fun at' p=>p.aj at'.hr .nil
end
def bU(K:Zk)(ι:Nat->Addr)(h:Tw.Hp)(H:L2.Hp)(m:Tw.R Tw.Fl)(D:Ends):Prop:=match m with
 |.ok (.next ρ) h'=>∀ι' H' σ',Ext ι h H ι' h' H'->At K ι' h' H' ρ σ'->D.nx σ' H'
 |.ok (.brk ρ) h'=>∀ι' H' σ',Ext ι h H ι' h' H'->At K ι' h' H' ρ σ'->D.bk σ' H'
 |.ok (.cont ρ) h'=>∀ι' H' σ',Ext ι h H ι' h' H'->At K ι' h' H' ρ σ'->D.ct σ' H'
 |.ok (.ret w) h'=>∀ι' H' v,Ext ι h H ι' h' H'->HR K ι' h' H'->RW K.K ι' h'.length H' w v->D.rt v H'
 |.au a h'=>∀ι' H',Ext ι h H ι' h' H'->HR K ι' h' H'->K.ex (.ref (ι' a)) none H'
 |.bad=>False
noncomputable def dq(K:Zk)(d:Tw.Env->Tw.Hp->Tw.R Tw.Fl):TS:=fun D σ H=>∃ρ h ι,At K ι h H ρ σ/\bU K ι h H (d ρ h) D
section
variable {K:Zk}{α β:Type}{R:Rl α β}{ι ι1:Nat->Addr}{h h1:Tw.Hp}{H H1:L2.Hp}{ρ:Tw.Env}{σ:L2.St}
theorem bU.later(p:bU K ι h H m D)(e:Ext ι h H ι1 h1 H1):bU K ι1 h1 H1 m D:=by
 cases m with
 |ok f h'=>cases f<;>exact fun ι' H' σ' e'=>p ι' H' σ' (e.trans e')
 |au a h'=>exact fun ι' H' e' r=>p ι' H' (e.trans e') r
 |bad=>exact p
theorem ik{k:α->Tw.Hp->Tw.R Tw.Fl}(a:At K ι h H ρ σ)(p:bU K ι h H (m.bind k) D):
  ai K R ι h H m (fun x H1=>∃w h1 ι1,At K ι1 h1 H1 ρ σ/\Ext ι h H ι1 h1 H1/\R K.K ι1 h1.length H1 w x/\bU K ι1 h1 H1 (k w h1) D):=by
 cases m with
 |ok w h1=>exact fun ι' H' b e r q=>⟨w,h1,ι',a.later e r,e,q,bU.later p e⟩
 |au=>exact p
 |bad=>exact p
theorem At.set(a:At K ι h H ρ σ)(r:RW K.K ι h.length H w v)(i:Nat):At K ι h H (ρ.set i (some w)) (σ.set i (some v)) where
 hr:=a.hr
 len:=by rw[xb,xb];exact a.len
 st:=fun j u e=>by
  by_cases z:i=j
  .subst z;have hi:i<ρ.length:=by
    have:=(eK.mp e).1;simpa using this
   rw[jC hi] at e;cases e;exact⟨v,jC (by rw[a.len];exact hi),r⟩
  .rw[iE z] at e;obtain⟨v',h1,h2⟩:=a.st j u e;exact⟨v',by rw[iE z];exact h1,h2⟩
theorem bU.next(p:bU K ι h H (.ok (.next ρ) h) D)(a:At K ι h H ρ σ):D.nx σ H:=p ι H σ (Ext.refl _ _ _) a
end
section
variable {X:Cx}{E:XK}{a b c e o:Expr}{pos pos':Pos}{da db dc:Tw.Env->Tw.Hp->Tw.R Tw.W}
theorem NU(ha:PE X a (tE (zx X E) da))(hs:swapsWith a none pos.line X.env=pure false):PS X (.Expr a pos) (dq (zx X E) fun ρ h=>(da ρ h).bind fun _ h=>.ok (.next ρ) h):=
 PS.imp (Av ha hs) fun D σ H Z=>Z.g fun ρ Z=>Z.g fun h Z=>Z.g fun ι Z=>Z.g fun at' p=>⟨ρ,h,ι,at',(ik at' p).mono fun x H1 Z=>Z.g fun w Z=>Z.g fun h1 Z=>Z.g fun ι1 Z=>Z.g fun at1 Z=>Z.g fun e1 Z=>Z.g fun r1 p1=>p1.next at1⟩
theorem B4(ha:PE X a (tE (zx X E) da)):PS X (.Return (some a) pos) (dq (zx X E) fun ρ h=>(da ρ h).bind fun x h=>.ok (.ret x) h):=
 PS.imp (Lq ha) fun D σ H Z=>Z.g fun ρ Z=>Z.g fun h Z=>Z.g fun ι Z=>Z.g fun at' p=>⟨ρ,h,ι,at',(ik at' p).mono fun x H1 Z=>Z.g fun w Z=>Z.g fun h1 Z=>Z.g fun ι1 Z=>Z.g fun at1 Z=>Z.g fun e1 Z=>Z.g fun r1 p1=>p1 ι1 H1 x (Ext.refl _ _ _) at1.hr r1⟩
theorem Lz:PS X (.Return none pos) (dq (zx X E) fun _ h=>.ok (.ret .aq) h):=
 PS.imp J5 fun D σ H Z=>Z.g fun ρ Z=>Z.g fun h Z=>Z.g fun ι Z=>Z.g fun at' p=>p ι H .aq (Ext.refl _ _ _) at'.hr .aq
theorem KR:PS X (.Pass pos) (dq (zx X E) fun ρ h=>.ok (.next ρ) h):=PS.imp Ku fun D σ H Z=>Z.g fun ρ Z=>Z.g fun h Z=>Z.g fun ι Z=>Z.g fun at' p=>p.next at'
theorem Qt:PS X (.Break pos) (dq (zx X E) fun ρ h=>.ok (.brk ρ) h):=PS.imp FD fun D σ H Z=>Z.g fun ρ Z=>Z.g fun h Z=>Z.g fun ι Z=>Z.g fun at' p=>p ι H σ (Ext.refl _ _ _) at'
theorem Nf:PS X (.Continue pos) (dq (zx X E) fun ρ h=>.ok (.cont ρ) h):=PS.imp y9 fun D σ H Z=>Z.g fun ρ Z=>Z.g fun h Z=>Z.g fun ι Z=>Z.g fun at' p=>p ι H σ (Ext.refl _ _ _) at'
theorem P6(hN:X.N.Nodup)(hi:X.N[i]?=some x)(hx:Loc X.env.scope x)(ha:PE X a (tE (zx X E) da))(hs:swapsWith a (some (.Name x pos')) pos.line X.env=pure false)(hf:X.fn x=true):
  PS X (.Assign [.Name x pos'] a pos) (dq (zx X E) fun ρ h=>(da ρ h).bind fun w h=>.ok (.next (ρ.set i (some w))) h):=
 PS.imp (Oe hN hi hx ha hs (.inl hf)) fun D σ H Z=>Z.g fun ρ Z=>Z.g fun h Z=>Z.g fun ι Z=>Z.g fun at' p=>⟨ρ,h,ι,at',(ik at' p).mono fun y H1 Z=>Z.g fun w Z=>Z.g fun h1 Z=>Z.g fun ι1 Z=>Z.g fun at1 Z=>Z.g fun e1 Z=>Z.g fun r1 p1=>p1.next (at1.set r1 i)⟩
theorem Oh{ta tb:Tw.Env->Tw.Hp->Tw.R Tw.Fl}(hc:PT X c (tT (zx X E) dc))(ha:ff X sa (dq (zx X E) ta))(hb:ff X sb (dq (zx X E) tb)):
  PS X (.If c sa sb pos) (dq (zx X E) fun ρ h=>(dc ρ h).bind fun x h=>match Tw.truth h x with
   |some true=>ta ρ h
   |some false=>tb ρ h
   |none=>.bad):=by
 refine PS.imp (Qs hc ha hb) fun D σ H Z=>Z.g fun ρ Z=>Z.g fun h Z=>Z.g fun ι Z=>Z.g fun at' p=>⟨ρ,h,ι,at',?_⟩;simp only[dT];dsimp only at p;cases e0:dc ρ h with
 |bad=>rw[e0] at p;exact p.elim
 |au=>rw[e0] at p;exact p
 |ok w h1=>
  simp only[e0,Tw.R.ak] at p⊢;cases e:Tw.truth h1 w with
  |none=>rw[e] at p;exact p.elim
  |some k=>
   rw[e] at p;intro ι' H' k' e1 r1 q;cases q;cases k with
   |true=>rw[if_pos rfl];exact⟨ρ,h1,ι',at'.later e1 r1,bU.later p e1⟩
   |false=>rw[if_neg (by decide)];exact⟨ρ,h1,ι',at'.later e1 r1,bU.later p e1⟩
theorem xO:ff X [] (dq (zx X E) fun ρ h=>.ok (.next ρ) h):=ff.imp Ax fun D σ H Z=>Z.g fun ρ Z=>Z.g fun h Z=>Z.g fun ι Z=>Z.g fun at' p=>p.next at'
theorem zR{st:Stmt}{rest:List Stmt}{t u:Tw.Env->Tw.Hp->Tw.R Tw.Fl}(h1:PS X st (dq (zx X E) t))(h2:ff X rest (dq (zx X E) u)):
  ff X (st::rest) (dq (zx X E) fun ρ h=>(t ρ h).bind fun f h=>match f with
   |.next ρ=>u ρ h
   |f=>.ok f h):=by
 refine ff.imp (rX h1 h2) fun D σ H Z=>Z.g fun ρ Z=>Z.g fun h Z=>Z.g fun ι Z=>Z.g fun at' p=>⟨ρ,h,ι,at',?_⟩;dsimp only at p;cases e:t ρ h with
 |bad=>rw[e] at p;exact p.elim
 |au=>rw[e] at p;exact p
 |ok f h1=>
  simp only[e,Tw.R.ak] at p;cases f with
  |next ρ1=>exact fun ι' H' σ' e1 a1=>⟨ρ1,h1,ι',a1,bU.later p e1⟩
  |ret w=>exact p
  |brk ρ1=>exact p
  |cont ρ1=>exact p
theorem set_dict(hu:X.A.units+1<cLine):pK X (fun o i v H Q=>∃a H',o=.ref a/\uj H a i v H'/\Q H'):=by intro pins s σ H o i v ov iv u Q I ro ri rv ⟨a,H',eo,g,q⟩;subst eo;cases ro;exact CU hu I g ri rv fun s4 I4=>⟨H',I4,q⟩
theorem pK.or(h1:pK X t)(h2:pK X t'):pK X (fun o i v H Q=>t o i v H Q\/t' o i v H Q):=by
 intro pins s σ H o i v ov iv u Q I ro ri rv q;rcases q with q|q
 .exact h1 pins s σ H o i v ov iv u Q I ro ri rv q
 .exact h2 pins s σ H o i v ov iv u Q I ro ri rv q
def PN:Bw:=fun o i v H Q=>Ib o i v H Q\/∃a H',o=.ref a/\uj H a i v H'/\Q H'
theorem wH{ι:Nat->Addr}{h:Tw.Hp}{H:L2.Hp}{wo wk wv:Tw.W}{o k v:V}{ρ:Tw.Env}{σ:L2.St}{D:Ends}
  (a:At (zx X E) ι h H ρ σ) (ro:RW X.K ι h.length H wo o) (rk:RW X.K ι h.length H wk k) (rv:RW X.K ι h.length H wv v) (p:bU (zx X E) ι h H ((Tw.lh wo wk wv h).bind fun _ h=>.ok (.next ρ) h) D):
  PN o k v H fun H'=>D.nx σ H':=by
 cases ro with
 | @ref i hi=>
  cases ei:h[i]? with
  |none=>simp only[Tw.lh,ei] at p;exact p.elim
  |some ob=>
   cases ob with
   |lst ws=>
    obtain⟨xs,q1,q2⟩:=a.hr.lst ei;cases rk with
    |int n=>
     simp only[Tw.lh,ei] at p;cases e2:Tw.iX ws.length n with
     |none=>rw[e2] at p;exact p.elim
     |some j=>
      rw[e2] at p;refine .inl ⟨_,xs,n,j,rfl,rfl,q1,by rw[<-q2.length,<-DM];exact e2,?_⟩;obtain⟨hr',ex⟩:=a.hr.put (o:=.lst (xs.set j v)) (u:=.lst (ws.set j wv)) ei rfl rfl (fun _ z=>nomatch z) fun H' kp z=>⟨xs.set j v,z,(q2.set rv j).keep kp⟩;exact p ι _ σ ex (a.later ex hr')
    |_=>simp only[Tw.lh,ei] at p;exact p.elim
   |aj kvs=>
    obtain⟨xs,q1,q2⟩:=a.hr.aj ei;have p:bU (zx X E) ι h H ((if Tw.isKey wk=true/\kvs.length<Tw.SZ then (.ok () (h.set i (.aj (Tw.dput wk wv kvs))):Tw.R Unit) else .bad).bind fun _ h=>.ok (.next ρ) h) D:=by simp only[Tw.lh,ei] at p;cases wk<;>exact p
    by_cases c:Tw.isKey wk=true/\kvs.length<Tw.SZ
    .rw[if_pos c] at p;obtain⟨q,rfl⟩:=iO rk c.1;refine .inr ⟨_,_,rfl,uj.k q1 (by rw[<-q2.length,fI];exact c.2),?_⟩;obtain⟨hr',ex⟩:=a.hr.put (o:=.dK (putK xs q v)) (u:=.aj (Tw.dput wk wv kvs)) ei rfl rfl (fun _ z=>nomatch z) fun H' kp z=>⟨_,z,((q2.put rk rv).keep kp)⟩;exact p ι _ σ ex (a.later ex hr')
    .rw[if_neg c] at p;exact p.elim
   |bR ws=>simp only[Tw.lh,ei] at p;cases wk<;>exact p.elim
   |ins _ _=>simp only[Tw.lh,ei] at p;cases wk<;>exact p.elim
   |au _ _=>simp only[Tw.lh,ei] at p;cases wk<;>exact p.elim
 |_=>exact p.elim
end
section
variable {X:Cx}{E:XK}{a b c e o k:Expr}{pos pos':Pos}{da db dc dv:Tw.Env->Tw.Hp->Tw.R Tw.W}
theorem C7(v x y:Expr)(p:Pos)(l:Nat)(env:Env):swapsWithSole [.Subscript x y p] v l env=pure false:=by cases v<;>rfl
theorem BC(v x y:Expr)(p:Pos)(env:Env):swappedStores [.Subscript x y p] v env=pure none:=by cases v<;>rfl
theorem Pp(hu:X.A.units+1<cLine)(hv:PE X a (tE (zx X E) dv))(ho:PE X o (tE (zx X E) da))(hk:PE X k (tE (zx X E) db))
  (has:∀v,assign (.Subscript o k pos') X.env v=(do
   let ov <-holding [v] (eval o X.env)
   let iv <-holding [v,ov] (eval k X.env)
   standAt pos'
   holding [v,ov,iv] (setItem ov iv v)
   release [v,ov,iv] [])):
  PS X (.Assign [.Subscript o k pos'] a pos) (dq (zx X E) fun ρ h=>(dv ρ h).bind fun v h=>(da ρ h).bind fun x h=>(db ρ h).bind fun y h=>(Tw.lh x y v h).bind fun _ h=>.ok (.next ρ) h):=by
 refine PS.imp (EK hv (Lp ho hk (pK.or set_list (set_dict hu)) has) (C7 _ _ _ _ _ _) (BC _ _ _ _ _)) fun D σ H Z=>Z.g fun ρ Z=>Z.g fun h Z=>Z.g fun ι Z=>Z.g fun at' p=>?_;refine⟨ρ,h,ι,at',(ik at' p).mono fun v H1 Z=>Z.g fun wv Z=>Z.g fun h1 Z=>Z.g fun ι1 Z=>Z.g fun at1 Z=>Z.g fun e1 Z=>Z.g fun r1 p1=>⟨ρ,h1,ι1,at1,(ik at1 p1).mono fun x H2 Z=>Z.g fun wo Z=>Z.g fun h2 Z=>Z.g fun ι2 Z=>Z.g fun at2 Z=>Z.g fun e2 Z=>Z.g fun r2 p2=>⟨ρ,h2,ι2,at2,(ik at2 p2).mono fun y H3 Z=>Z.g fun wk Z=>Z.g fun h3 Z=>Z.g fun ι3 Z=>Z.g fun at3 Z=>Z.g fun e3 Z=>Z.g fun r3 p3=>?_⟩⟩⟩;exact wH at3 (r2.keep (e3.keeps at2.hr)) r3 ((r1.keep (e2.keeps at1.hr)).keep (e3.keeps at2.hr)) p3
theorem PI.or(h1:PI X tg iter w)(h2:PI X tg iter w'):PI X tg iter (fun σ H R=>w σ H R\/w' σ H R):=by
 intro pins s σ H R I q;rcases q with q|q
 .exact h1 pins s σ H R I q
 .exact h2 pins s σ H R I q
def AK(K:Zk)(t:Tw.Tg)(g:TG):Prop:=∀(ι:Nat->Addr)(h:Tw.Hp)(H:L2.Hp)(ρ ρ1:Tw.Env)(σ:L2.St)(w:Tw.W)(x:V)(Q:L2.St->L2.Hp->Prop),At K ι h H ρ σ->RW K.K ι h.length H w x->Tw.iu t w ρ=some ρ1->
 (∀σ1,At K ι h H ρ1 σ1->Q σ1 H)->g x σ H Q
theorem K8(K:Zk)(i:Nat):AK K (.var i) (gL i):=fun ι h H ρ ρ1 σ w x Q a r e q=>by
 cases e;exact q _ (a.set r i)
theorem El(K:Zk)(i j:Nat):AK K (.two i j) (Co K.K 2 (nY (gL i) (nY (gL j) Bj))):=fun ι h H ρ ρ1 σ w x Q a r e q=>by
 cases r with
 | @tup ad xs ws ea ra=>
  cases ra with
  |nil=>cases e
  |cons r1 ra=>
   cases ra with
   |nil=>cases e
   |cons r2 ra=>
    cases ra with
    |nil=>
     cases e;exact⟨ad,_,rfl,TupAt.sq ea,rfl,_,_,rfl,_,_,rfl,rfl,q _ ((a.set r1 i).set r2 j)⟩
    |cons r3 ra=>cases e
 |_=>cases e
theorem vi{K:Zk}{ι:Nat->Addr}{h:Tw.Hp}{H:L2.Hp}{m:Tw.R Tw.Fl}{go:Tw.Env->Tw.Hp->Tw.R Tw.Fl}{D:Ends}{N:L2.St->L2.Hp->Prop}
  (p:bU K ι h H (m.bind fun f h=>match f with
   |.next σ=>go σ h
   |.cont σ=>go σ h
   |.brk σ=>.ok (.next σ) h
   |.ret w=>.ok (.ret w) h) D)
  (hN:∀ρ h1 ι1 H1 σ1,Ext ι h H ι1 h1 H1->At K ι1 h1 H1 ρ σ1->bU K ι1 h1 H1 (go ρ h1) D->N σ1 H1):bU K ι h H m {D with nx:=N,ct:=N,bk:=D.nx}:=by
 cases m with
 |bad=>exact p
 |au=>exact p
 |ok f h1=>
  cases f with
  |next ρ=>exact fun ι' H' σ' e a=>hN ρ h1 ι' H' σ' e a (bU.later p e)
  |cont ρ=>exact fun ι' H' σ' e a=>hN ρ h1 ι' H' σ' e a (bU.later p e)
  |brk ρ=>exact p
  |ret w=>exact p
theorem Ae{α:Type}{ws:List α}{i:Nat}{w:α}(e:ws[i]?=some w):ws.drop i=w::ws.drop (i+1):=by obtain⟨hi,e⟩:=eK.mp e;rw[List.drop_eq_getElem_cons hi,e]
end
def hW(T:Bool)(h:Heap)(it a:Addr)(k:Nat):Prop:=match T with
 |true=>h.IsTupleIter it a k
 |false=>h.IsListIter it a k
def jh(T:Bool)(h:Heap)(a:Addr)(xs:Array Value):Prop:=match T with
 |true=>h.IsTuple a xs
 |false=>h.IsList a xs
theorem hW.at(x:hW T h it a k)(e:∀o,h.get? it=some o->h'.get? it=some o):hW T h' it a k:=by
 cases T with
 |true=>exact Heap.IsTupleIter.at x e
 |false=>exact Heap.IsListIter.at x e
theorem jh.at(x:jh T h a xs)(e:∀o,h.get? a=some o->h'.get? a=some o):jh T h' a xs:=by
 cases T with
 |true=>exact Heap.IsTuple.at x e
 |false=>exact Heap.IsList.at x e
theorem hW.there(x:hW T h it a k):∃o,h.get? it=some o/\∀v,o.data≠.cell v:=by
 cases T with
 |true=>obtain⟨o,e,_,d⟩:=x;exact⟨o,e,fun v z=>by rw[d] at z;cases z⟩
 |false=>obtain⟨o,e,_,d⟩:=x;exact⟨o,e,fun v z=>by rw[d] at z;cases z⟩
section
variable {prog:Program}{w:World}{A:Around}{E:aJ}{s:Shared}{it t:Addr}{i:Nat}{xs:Array Value}
theorem G6{Q:aJ}(hit:s.heap.IsTupleIter it t i)(ht:s.heap.IsTuple t xs)(hx:xs[i]?=some x)(hQ:∀h',h'.IsTupleIter it t (i+1)->Heap.SameBut it s.heap h'->Q x {s with heap:=h'}):
  wpAny (model prog w) A (Builtin.SmallTypes.nextOf (.ref it)) Q E s:=by
 have tI:=hit.typeIs;obtain⟨oI,gI,cI,dI⟩:=hit;obtain⟨oT,gT,cT,nT,dT⟩:=ht;rw[Builtin.SmallTypes.nextOf];apply af;refine qc (name:=Str.ofString "__next__") tI Bp ?_;refine nX Bp tI F.entry_tuple_iterator_next ?_ (F.args_tuple_iterator_next_1 _);show wpAny _ _ (field (.ref it) 0 >>= _) _ _ _;refine af (dJ gI dI (x:=Value.ref t) rfl ?_);show wpAny _ _ (ite ((Value.ref t== Value.none)=true) _ _) _ _ _;refine (if_neg e9:ite ((Value.ref t== Value.none)=true) _ _=_)▸?_;show wpAny _ _ (field (.ref it) 1 >>= _) _ _ _;refine af (dJ gI dI (x:=Value.int i 0) rfl ?_);show wpAny _ _ (seqItems? (.ref t) >>= _) _ _ _;refine af (mJ gT dT ?_);simp only[hx,Int.toNat_natCast];refine af (tB gI dI (by simp) (ah ⟨x,rfl,?_⟩));refine ah (hQ _ ⟨_,uz _ gI (wx (sQ dI _)),(Obj.cls_mapFields ..).trans cI,?_⟩ (Heap.SameBut.update ..));rw[sQ dI];simp[rawInt]
theorem E5{Q:aJ}(hh:A.handled=none)(hit:s.heap.IsTupleIter it t i)(ht:s.heap.IsTuple t xs)(hx:xs[i]?=none)
  (hE:∀h' e,Heap.ExtBut it s.heap h'->(∃o,h'.get? e=some o/\o.cls=.type "StopIteration")->E (.ref e) {s with heap:=h'}):wpAny (model prog w) A (Builtin.SmallTypes.nextOf (.ref it)) Q E s:=by
 have tI:=hit.typeIs;obtain⟨oI,gI,cI,dI⟩:=hit;obtain⟨oT,gT,cT,nT,dT⟩:=ht;rw[Builtin.SmallTypes.nextOf];apply af;refine qc (name:=Str.ofString "__next__") tI Bp ?_;refine nX Bp tI F.entry_tuple_iterator_next ?_ (F.args_tuple_iterator_next_1 _);show wpAny _ _ (field (.ref it) 0 >>= _) _ _ _;refine af (dJ gI dI (x:=Value.ref t) rfl ?_);show wpAny _ _ (ite ((Value.ref t== Value.none)=true) _ _) _ _ _;refine (if_neg e9:ite ((Value.ref t== Value.none)=true) _ _=_)▸?_;show wpAny _ _ (field (.ref it) 1 >>= _) _ _ _;refine af (dJ gI dI (x:=Value.int i 0) rfl ?_);show wpAny _ _ (seqItems? (.ref t) >>= _) _ _ _;refine af (mJ gT dT ?_);simp only[hx,Int.toNat_natCast];refine af (qA (af (tB gI dI (by simp) ?_)));show wpAny _ _ (newExc (.type "StopIteration") [] >>= raiseNew) _ _ _;apply af;rw[newExc,newTuple];apply af;refine kq ?_ (by size_fits);refine af (m:=firstArgMember _ _) (wpAny_of_eq (a:=Value.none) (by simp only[firstArgMember];rfl) ?_);refine kq ?_ (by size_fits);rw[raiseNew];refine af (wpAny_handled ?_);rw[show A.in1.handled=none from hh];refine af (ah (wpAny_throw (hE _ _ ?_ ⟨_,dC _ rfl,rfl⟩)));exact ((Heap.SameBut.update ..).extBut.push _).push _
theorem sJ{Q:aJ}(hit:hW T s.heap it t i)(ht:jh T s.heap t xs)(hx:xs[i]?=some x)(hQ:∀h',hW T h' it t (i+1)->Heap.SameBut it s.heap h'->Q x {s with heap:=h'}):
  wpAny (model prog w) A (Builtin.SmallTypes.nextOf (.ref it)) Q E s:=by
 cases T with
 |true=>exact G6 hit ht hx hQ
 |false=>exact wpAny_nextOf_list_item hit ht hx hQ
theorem tK{Q:aJ}(hh:A.handled=none)(hit:hW T s.heap it t i)(ht:jh T s.heap t xs)(hx:xs[i]?=none)
  (hE:∀h' e,Heap.ExtBut it s.heap h'->(∃o,h'.get? e=some o/\o.cls=.type "StopIteration")->E (.ref e) {s with heap:=h'}):wpAny (model prog w) A (Builtin.SmallTypes.nextOf (.ref it)) Q E s:=by
 cases T with
 |true=>exact E5 hh hit ht hx hE
 |false=>exact wpAny_nextOf_list_end hh hit ht hx hE
end
section
variable {prog:Program}{w:World}{A:Around}{E:aJ}{s:Shared}{z TI TO i1 i2 l1 l2:Addr}{k:Nat}{xs ys:Array Value}{T1 T2:Bool}
structure Zp(T1 T2:Bool)(z TI TO i1 i2 l1 l2:Addr)(k:Nat)(h:Heap):Prop where
 zp:IsZip h z TI TO .none
 ti:IsPair h TI (.ref i1) (.ref i2)
 to:∃a b,IsPair h TO a b
 one:hW T1 h i1 l1 k
 two:hW T2 h i2 l2 k
theorem Nz{Q:aJ}(D:ZipApart z TI TO i1 i2 l1 l2)(Z:Zp T1 T2 z TI TO i1 i2 l1 l2 k s.heap)(b1:jh T1 s.heap l1 xs)(b2:jh T2 s.heap l2 ys)(hx:xs[k]?=some x)(hy:ys[k]?=some y)
  (hQ:∀h',IsZip h' z TI TO (rawInt s.heap.objs.size)->IsPair h' TO x y->hW T1 h' i1 l1 (k+1)->hW T2 h' i2 l2 (k+1)->IsPair h' s.heap.objs.size x y->
   (∀c o,c≠z->c≠TO->c≠i1->c≠i2->s.heap.get? c=some o->h'.get? c=some o)->Q (.ref s.heap.objs.size) {s with heap:=h'}):
  wpAny (model prog w) A (Builtin.«zip.__next__» ⟨[.ref z],[]⟩) (fun fin s'=>∃v,fin=.done (.ret v)/\Q v s') E s:=by
 obtain⟨hz,hTI,⟨a,b,hTO⟩,h1,h2⟩:=Z;show wpAny _ _ (field (.ref z) 2 >>= _) _ _ s;refine af (dJ hz rfl (x:=Value.bool false) rfl ?_);show wpAny _ _ (field (.ref z) 3 >>= _) _ _ s;refine af (dJ hz rfl (x:=Value.ref TI) rfl (af (mJ hTI rfl ?_)));show wpAny _ _ (Builtin.SmallTypes.ownedTupleIsFree (.ref z) >>= _) _ _ s;apply af;rw[Builtin.SmallTypes.ownedTupleIsFree];refine af (dJ hz rfl (x:=Value.none) rfl (ah ?_));rw[if_pos rfl];refine af (qA (af (dJ hz rfl (x:=Value.ref TO) rfl (af (qQ hz (by simp) fun g1 z1 u1=>?_)))));have z1:IsZip g1 z TI TO .ellipsis:=z1;apply af;simp only[List.zipIdx_cons,List.zipIdx_nil,List.forIn_nil,List.forIn_cons];apply af;apply af;apply qu;show wpAny _ _ (Builtin.SmallTypes.nextOf (.ref i1) >>= fun v=>pure (some v)) _ _ _;have e1:∀c o,c≠z->s.heap.get? c=some o->g1.get? c=some o:=fun c o n=>u1.extBut c o n;refine af (sJ (h1.at fun o=>e1 _ o D.i1z) (b1.at fun o=>e1 _ o D.l1z) hx fun g2 q2 u2=>ah ?_);have e2:∀c o,c≠z->c≠i1->s.heap.get? c=some o->g2.get? c=some o:=fun c o n m e=>u2.extBut c o m (e1 c o n e);have t2:IsPair g2 TO a b:=e2 _ _ D.TOz D.TOi1 hTO;refine af (mJ t2 rfl (af (Cv t2 fun g3 t3 u3=>af (wpAny_letGo (ah ?_)))));have t3:IsPair g3 TO x b:=t3;apply af;apply af;apply qu;show wpAny _ _ (Builtin.SmallTypes.nextOf (.ref i2) >>= fun v=>pure (some v)) _ _ _;have e3:∀c o,c≠z->c≠i1->c≠TO->s.heap.get? c=some o->g3.get? c=some o:=fun c o n m r e=>u3.extBut c o r (e2 c o n m e);refine af (sJ (h2.at fun o=>e3 _ o D.i2z D.i12.symm D.TOi2.symm) (b2.at fun o=>e3 _ o D.l2z D.l2i1 D.l2TO) hy fun g4 q4 u4=>ah ?_);have t4:IsPair g4 TO x b:=u4.extBut _ _ D.TOi2 t3;refine af (mJ t4 rfl (af (Cv t4 fun g5 t5 u5=>af (wpAny_letGo (ah (ah ?_))))));have t5:IsPair g5 TO x y:=t5;refine af (mJ t5 rfl (af (wpAny_newTuple ?_)));have sz5:g5.objs.size=s.heap.objs.size:=by rw[u5.1,u4.1,u3.1,u2.1,u1.1]
 have e5:∀c o,c≠z->c≠TO->c≠i1->c≠i2->s.heap.get? c=some o->g5.get? c=some o:=fun c o n r m m' e=>u5.extBut c o r (u4.extBut c o m' (e3 c o n m r e));have z5:IsZip g5 z TI TO .ellipsis:=u5.extBut _ _ D.TOz.symm (u4.extBut _ _ D.i2z.symm (u3.extBut _ _ D.TOz.symm (u2.extBut _ _ D.i1z.symm z1)));have q5:hW T1 g5 i1 l1 (k+1):=q2.at fun o e=>u5.extBut _ _ D.TOi1.symm (u4.extBut _ _ D.i12 (u3.extBut _ _ D.TOi1.symm e));have r5:hW T2 g5 i2 l2 (k+1):=q4.at fun o e=>u5.extBut _ _ D.TOi2.symm e;show wpAny _ _ (Builtin.SmallTypes.ownedTupleHandOut (.ref z) (.ref g5.objs.size) >>= _) _ _ _;apply af;rw[Builtin.SmallTypes.ownedTupleHandOut];have z6:IsZip (g5.push {cls:=.type "tuple",data:=.seq #[x,y]}) z TI TO .ellipsis:=bj _ z5;refine af (qQ z6 (by simp) fun g7 z7 u7=>?_);have z7:IsZip g7 z TI TO (rawInt g5.objs.size):=z7;refine qQ z7 (by simp) fun g8 z8 u8=>ah ⟨_,rfl,?_⟩;have z8:IsZip g8 z TI TO (rawInt g5.objs.size):=z8;have e8:∀c o,c≠z->g5.get? c=some o->g8.get? c=some o:=fun c o n e=>u8.extBut c o n (u7.extBut c o n (bj _ e));have nz:g5.objs.size≠z:=rJ (bp z5);have p8:IsPair g8 g5.objs.size x y:=u8.extBut _ _ nz (u7.extBut _ _ nz (dC _ rfl));show Q (.ref g5.objs.size) _;rw[sz5] at z8 p8⊢;exact hQ g8 z8 (e8 _ _ D.TOz t5) (q5.at fun o=>e8 _ o D.i1z) (r5.at fun o=>e8 _ o D.i2z) p8 fun c o n r m m' e=>e8 c o n (e5 c o n r m m' e)
theorem z_end{Q:Fin->Shared->Prop}(hh:A.handled=none)(D:ZipApart z TI TO i1 i2 l1 l2)(Z:Zp T1 T2 z TI TO i1 i2 l1 l2 k s.heap)(b1:jh T1 s.heap l1 xs)(b2:jh T2 s.heap l2 ys)(hend:xs[k]?=none\/ys[k]?=none)
  (hE:∀h' e,(∀c o,c≠z->c≠TO->c≠i1->c≠i2->s.heap.get? c=some o->h'.get? c=some o)->(∃o,h'.get? e=some o/\o.cls=.type "StopIteration")->E (.ref e) {s with heap:=h'}):
  wpAny (model prog w) A (Builtin.«zip.__next__» ⟨[.ref z],[]⟩) Q E s:=by
 obtain⟨hz,hTI,⟨a,b,hTO⟩,h1,h2⟩:=Z;show wpAny _ _ (field (.ref z) 2 >>= _) _ _ s;refine af (dJ hz rfl (x:=Value.bool false) rfl ?_);show wpAny _ _ (field (.ref z) 3 >>= _) _ _ s;refine af (dJ hz rfl (x:=Value.ref TI) rfl (af (mJ hTI rfl ?_)));show wpAny _ _ (Builtin.SmallTypes.ownedTupleIsFree (.ref z) >>= _) _ _ s;apply af;rw[Builtin.SmallTypes.ownedTupleIsFree];refine af (dJ hz rfl (x:=Value.none) rfl (ah ?_));rw[if_pos rfl];refine af (qA (af (dJ hz rfl (x:=Value.ref TO) rfl (af (qQ hz (by simp) fun g1 z1 u1=>?_)))));have z1:IsZip g1 z TI TO .ellipsis:=z1;apply af;simp only[List.zipIdx_cons,List.zipIdx_nil,List.forIn_nil,List.forIn_cons];apply af;apply af;apply qu;show wpAny _ _ (Builtin.SmallTypes.nextOf (.ref i1) >>= fun v=>pure (some v)) _ _ _;have e1:∀c o,c≠z->s.heap.get? c=some o->g1.get? c=some o:=fun c o n=>u1.extBut c o n;cases hx:xs[k]? with
 |none=>
  refine af (tK hh (h1.at fun o=>e1 _ o D.i1z) (b1.at fun o=>e1 _ o D.l1z) hx fun g2 e u2 Y=>Y.g fun oe Y=>Y.g fun ge ce=>?_);have z2:IsZip g2 z TI TO .ellipsis:=u2 _ _ D.i1z.symm z1;have ne:e≠z:=fun q=>by subst q;rw[z2] at ge;cases ge;simp at ce
  exact qQ z2 (by simp) fun g3 _ u3=>hE g3 e (fun c o n _ m _ q=>u3.extBut c o n (u2 c o m (e1 c o n q))) ⟨oe,u3.extBut _ _ ne ge,ce⟩
 |some x=>
  have hy:ys[k]?=none:=hend.resolve_left (by rw[hx];exact fun q=>nomatch q);refine af (sJ (h1.at fun o=>e1 _ o D.i1z) (b1.at fun o=>e1 _ o D.l1z) hx fun g2 q2 u2=>ah ?_);have e2:∀c o,c≠z->c≠i1->s.heap.get? c=some o->g2.get? c=some o:=fun c o n m e=>u2.extBut c o m (e1 c o n e);have t2:IsPair g2 TO a b:=e2 _ _ D.TOz D.TOi1 hTO;refine af (mJ t2 rfl (af (Cv t2 fun g3 t3 u3=>af (wpAny_letGo (ah ?_)))));apply af;apply af;apply qu;show wpAny _ _ (Builtin.SmallTypes.nextOf (.ref i2) >>= fun v=>pure (some v)) _ _ _;have e3:∀c o,c≠z->c≠i1->c≠TO->s.heap.get? c=some o->g3.get? c=some o:=fun c o n m r e=>u3.extBut c o r (e2 c o n m e);refine af (tK hh (h2.at fun o=>e3 _ o D.i2z D.i12.symm D.TOi2.symm) (b2.at fun o=>e3 _ o D.l2z D.l2i1 D.l2TO) hy fun g4 e u4 Y=>Y.g fun oe Y=>Y.g fun ge ce=>?_);have z4:IsZip g4 z TI TO .ellipsis:=u4 _ _ D.i2z.symm (u3.extBut _ _ D.TOz.symm (u2.extBut _ _ D.i1z.symm z1));have ne:e≠z:=fun q=>by subst q;rw[z4] at ge;cases ge;simp at ce
  exact qQ z4 (by simp) fun g5 _ u5=>hE g5 e (fun c o n r m m' q=>u5.extBut c o n (u4 c o m' (e3 c o n m r q))) ⟨oe,u5.extBut _ _ ne ge,ce⟩
end
noncomputable def vN(T:Bool)(a:Addr):Obj:={cls:=.type (match T with|true=> "tuple_iterator" | false=> "list_iterator"),data:=.fields #[.ref a,.int 0 0]}
def z1(T1:Bool)(h:Heap)(l1:Addr):Heap:=h.push (vN T1 l1)
def z2(T1 T2:Bool)(h:Heap)(l1 l2:Addr):Heap:=(z1 T1 h l1).push (vN T2 l2)
def z3(T1 T2:Bool)(h:Heap)(l1 l2:Addr):Heap:=(z2 T1 T2 h l1 l2).push {cls:=.type "tuple",data:=.seq #[.ref h.objs.size,.ref (z1 T1 h l1).objs.size]}
def z4(T1 T2:Bool)(h:Heap)(l1 l2:Addr):Heap:=(z3 T1 T2 h l1 l2).push {cls:=.type "tuple",data:=.seq #[.none,.none]}
def z5(T1 T2:Bool)(h:Heap)(l1 l2:Addr):Heap:=(z4 T1 T2 h l1 l2).push {cls:=.type "zip",data:=.fields #[.none,.bool false,.bool false,.ref (z2 T1 T2 h l1 l2).objs.size,.ref (z3 T1 T2 h l1 l2).objs.size]}
theorem Km(T1 T2:Bool)(l1 l2:Addr)(xs ys:Array Value):
  Meets (Builtin.«zip.__new__» ⟨[.type "zip",.ref l1,.ref l2],[]⟩) (fun _ R s=>jh T1 s.heap l1 xs/\jh T2 s.heap l2 ys/\R (.ok (.ret (.ref (z4 T1 T2 s.heap l1 l2).objs.size))) {s with heap:=z5 T1 T2 s.heap l1 l2}):=
 .of_wp fun prog w A R s h=>by
  obtain⟨hp,g,d,tk,os⟩:=s;obtain⟨b1,b2,h⟩:=h;have hsub:=sub_zip;cases T1 with
  |true=>
   have p1:Heap.IsTuple (Shared.heap ⟨hp,g,d,tk,os⟩) l1 xs:=b1;cases T2 with
   |true=>
    have p2:Heap.IsTuple (Shared.heap ⟨hp.push {cls:=.type "tuple_iterator",data:=.fields #[.ref l1,.int 0 0]},g,d,tk,os⟩) l2 ys:=Heap.IsTuple.push b2 _
    wp_walk using oC p1,oC p2
    exact⟨_,rfl,h⟩
   |false=>
    have p2:Heap.IsList (Shared.heap ⟨hp.push {cls:=.type "tuple_iterator",data:=.fields #[.ref l1,.int 0 0]},g,d,tk,os⟩) l2 ys:=Heap.IsList.push b2 _
    wp_walk using oC p1,lV p2
    exact⟨_,rfl,h⟩
  |false=>
   have p1:Heap.IsList (Shared.heap ⟨hp,g,d,tk,os⟩) l1 xs:=b1;cases T2 with
   |true=>
    have p2:Heap.IsTuple (Shared.heap ⟨hp.push {cls:=.type "list_iterator",data:=.fields #[.ref l1,.int 0 0]},g,d,tk,os⟩) l2 ys:=Heap.IsTuple.push b2 _
    wp_walk using lV p1,oC p2
    exact⟨_,rfl,h⟩
   |false=>
    have p2:Heap.IsList (Shared.heap ⟨hp.push {cls:=.type "list_iterator",data:=.fields #[.ref l1,.int 0 0]},g,d,tk,os⟩) l2 ys:=Heap.IsList.push b2 _
    wp_walk using lV p1,lV p2
    exact⟨_,rfl,h⟩
section
variable {prog:Program}{w:World}{A:Around}{E:aJ}{s:Shared}{l1 l2:Addr}{xs ys:Array Value}{T1 T2:Bool}
theorem xZ(T:Bool)(h:Heap)(a:Addr):hW T (h.push (vN T a)) h.objs.size a 0:=by
 cases T with
 |true=>exact⟨_,dC _ rfl,rfl,rfl⟩
 |false=>exact⟨_,dC _ rfl,rfl,rfl⟩
theorem Py{Q:aJ}(b1:jh T1 s.heap l1 xs)(b2:jh T2 s.heap l2 ys)
  (h:∀h',Zp T1 T2 (s.heap.objs.size+4) (s.heap.objs.size+2) (s.heap.objs.size+3) s.heap.objs.size (s.heap.objs.size+1) l1 l2 0 h'->(∀c o,s.heap.get? c=some o->h'.get? c=some o)->Q (.ref (s.heap.objs.size+4)) {s with heap:=h'}):
  wpAny (model prog w) A (call (.type "zip") [.ref l1,.ref l2]) Q E s:=by
 refine callType_new F.called_zip (by decide) (F.typeCall_zip_2 _ _) (F.newCall_zip_2 _ _) (fun obj=>F.args_object_init_3 obj _ _) F.entry_zip_new (Km T1 T2 l1 l2 xs ys) ⟨b1,b2,?_⟩;have n1:(z1 T1 s.heap l1).objs.size=s.heap.objs.size+1:=jE ..;have n2:(z2 T1 T2 s.heap l1 l2).objs.size=s.heap.objs.size+2:=by rw[z2,jE,n1]
 have n3:(z3 T1 T2 s.heap l1 l2).objs.size=s.heap.objs.size+3:=by rw[z3,jE,n2]
 have n4:(z4 T1 T2 s.heap l1 l2).objs.size=s.heap.objs.size+4:=by rw[z4,jE,n3]
 have up4:∀c o,(z4 T1 T2 s.heap l1 l2).get? c=some o->(z5 T1 T2 s.heap l1 l2).get? c=some o:=fun c o e=>bj _ e;have up3:∀c o,(z3 T1 T2 s.heap l1 l2).get? c=some o->(z5 T1 T2 s.heap l1 l2).get? c=some o:=fun c o e=>up4 c o (bj _ e);have up2:∀c o,(z2 T1 T2 s.heap l1 l2).get? c=some o->(z5 T1 T2 s.heap l1 l2).get? c=some o:=fun c o e=>up3 c o (bj _ e);have up1:∀c o,(z1 T1 s.heap l1).get? c=some o->(z5 T1 T2 s.heap l1 l2).get? c=some o:=fun c o e=>up2 c o (bj _ e);have up0:∀c o,s.heap.get? c=some o->(z5 T1 T2 s.heap l1 l2).get? c=some o:=fun c o e=>up1 c o (bj _ e);have gz:(z5 T1 T2 s.heap l1 l2).get? (z4 T1 T2 s.heap l1 l2).objs.size=some _:=dC _ rfl;have go:(z4 T1 T2 s.heap l1 l2).get? (z3 T1 T2 s.heap l1 l2).objs.size=some _:=dC _ rfl;have gi:(z3 T1 T2 s.heap l1 l2).get? (z2 T1 T2 s.heap l1 l2).objs.size=some _:=dC _ rfl;have j1:hW T1 (z1 T1 s.heap l1) s.heap.objs.size l1 0:=xZ T1 s.heap l1;have j2:hW T2 (z2 T1 T2 s.heap l1 l2) (z1 T1 s.heap l1).objs.size l2 0:=xZ T2 (z1 T1 s.heap l1) l2;show _/\_;rw[n2,n3,n4] at gz;rw[n3] at go;rw[n1,n2] at gi;rw[n1] at j2;have Z:Zp T1 T2 (s.heap.objs.size+4) (s.heap.objs.size+2) (s.heap.objs.size+3) s.heap.objs.size (s.heap.objs.size+1) l1 l2 0 (z5 T1 T2 s.heap l1 l2):=⟨gz,up3 _ _ gi,⟨_,_,up4 _ _ go⟩,j1.at fun o=>up1 _ o,j2.at fun o=>up2 _ o⟩;rw[n4];exact⟨⟨_,gz,rfl⟩,h _ Z up0⟩
end
section
variable {X:Cx}{E:XK}{pins:aO}{σ:L2.St}{H:L2.Hp}{s:Shared}{h':Heap}{fp:List Addr}
theorem qI(I:Inv X pins σ H s)(hf:∀b∈fp,fO X pins H b)(k:∀b o,b∉fp->s.heap.get? b=some o->h'.get? b=some o):Inv X pins σ H {s with heap:=h',toks:=t'}:=by
 have nf:∀b u,H b=some u->b∉fp:=fun b u e z=>by rw[(hf b z).1] at e;cases e
 have u:Un (bL X.stack) fp H H s.heap h':=
  ⟨fun b o e _ _ h2=>k b o h2 e,fun b o e _ _ h2=>⟨o.slots,k b o h2 e⟩,fun _ _ _ n _=>n,fun b o e h2=>⟨o,k b o h2 e⟩,fun _ _ q=>q,fun _ _ _ q=>q,fun _ ps q=>⟨#[],by rw[q];simp⟩⟩
 have av:di X.prog X.w H h':=fun b v e=>(I.av b v e).fT (fun c w hc q=>k c w (by
  rcases hc with z|z
  .rw[z];exact nf _ _ e
  .exact nf _ _ z) q) (fun _ q=>q) fun _ _ q=>q
 exact I.call (g':=s.gens) (d':=s.drawn) (t':=t') u av I.bare fun b hb=>⟨(hf b hb).2.2.2.1,(hf b hb).2.1,(hf b hb).2.2.2.2.1,(hf b hb).2.2.2.2.2⟩
theorem zr(I:Inv X pins σ H s)(hf:∀b∈fp,fO X pins H b)(k:∀b o,b∉fp->s.heap.get? b=some o->h'.get? b=some o)(ha:s.heap.objs.size<=a)(new:bT X.prog X.w (upd H a (.tup xs)) h' a (.tup xs)):
  Inv X pins σ (upd H a (.tup xs)) {s with heap:=h',toks:=t'}:=by
 have hn:H a=none:=I.av.fresh ha;have nf:∀b u,H b=some u->b∉fp:=fun b u e z=>by rw[(hf b z).1] at e;cases e
 have u:Un (bL X.stack) fp H (upd H a (.tup xs)) s.heap h':=
  ⟨fun b o e _ _ h2=>k b o h2 e,fun b o e _ _ h2=>⟨o.slots,k b o h2 e⟩,fun b o e n _=>by rw[az (b7 (cU (bp e) ha))];exact n,fun b o e h2=>⟨o,k b o h2 e⟩,
   fun b ys q=>by rw[az (cq q hn)];exact q,fun b o v q=>by rw[az (cq q hn)];exact q,fun b ps q=>⟨#[],by rw[az (cq q hn),q];simp⟩⟩
 have av:di X.prog X.w (upd H a (.tup xs)) h':=fun b v e=>by
  by_cases z:b=a
  .subst z;rw[aM] at e;cases e;exact new
  .rw[az z] at e;refine (I.av b v e).fT (fun c w hc q=>k c w ?_ q) (fun c q=>by rw[az (cq q hn)];exact q) fun c ys q=>by rw[az (cq q hn)];exact q
   rcases hc with z|z
   .rw[z];exact nf _ _ e
   .exact nf _ _ z
 exact I.call (g':=s.gens) (d':=s.drawn) (t':=t') u av I.bare fun b hb=>⟨(hf b hb).2.2.2.1,(hf b hb).2.1,(hf b hb).2.2.2.2.1,(hf b hb).2.2.2.2.2⟩
end
def iN(T:Bool)(K:W.Frag)(H:L2.Hp)(a:Addr)(xs:List V):Prop:=match T with
 |true=>eC K H a xs
 |false=>bJ K H a xs
theorem iN.ob(I:Inv X pins σ H s)(q:iN T X.K H a xs):∃its,Vals xs its/\jh T s.heap a its.toArray:=by
 cases T with
 |true=>obtain⟨its,rv,p,hz⟩:=I.tuple q;exact⟨its,rv,show s.heap.IsTuple a its.toArray from p⟩
 |false=>obtain⟨its,rv,p,hz⟩:=I.list q;exact⟨its,rv,p.isList⟩
theorem iN.inj(I:Inv X pins σ H s)(q:iN T X.K H a xs)(q':iN T X.K H a ys):xs=ys:=by
 cases T with
 |true=>exact I.vm q q'
 |false=>exact I.sk q q'
def L5(K:W.Frag)(T1 T2:Bool)(a b:Addr):It:=
 ⟨fun i H=>∃xs ys x y,iN T1 K H a xs/\iN T2 K H b ys/\xs[i]?=some x/\ys[i]?=some y,
  fun i H v H'=>∃t x y,v=.ref t/\H t=none/\H'=upd H t (.tup [x,y])/\∀xs ys,iN T1 K H a xs->iN T2 K H b ys->xs[i]?=some x/\ys[i]?=some y,
  fun i H=>∃xs ys,iN T1 K H a xs/\iN T2 K H b ys/\(xs.length<=i\/ys.length<=i)⟩
theorem GK{P:Program}{w:World}{K:W.Frag}{es:List Expr}{n:Nat}{p:Pos}{T1 T2:Bool}{z TI TO i1 i2 a b:Addr}(D:ZipApart z TI TO i1 i2 a b):Turn P w K (.Tuple es n p) (L5 K T1 T2 a b) [z,TI,TO,i1,i2] z (Zp T1 T2 z TI TO i1 i2 a b) where
 mem:=by simp
 obj:=fun i h Z c hc=>by
  obtain⟨hz,hTI,⟨x,y,hTO⟩,h1,h2⟩:=Z;simp only[cQ,kR,jK] at hc;rcases hc with rfl|rfl|rfl|rfl|rfl
  .exact⟨_,hz,fun v q=>nomatch q⟩
  .exact⟨_,hTI,fun v q=>nomatch q⟩
  .exact⟨_,hTO,fun v q=>nomatch q⟩
  .exact h1.there
  .exact h2.there
 keep:=fun i h h' Z k=>by
  obtain⟨hz,hTI,⟨x,y,hTO⟩,h1,h2⟩:=Z;exact⟨k _ (by simp) _ hz,k _ (by simp) _ hTI,⟨x,y,k _ (by simp) _ hTO⟩,h1.at fun o=>k _ (by simp) o,h2.at fun o=>k _ (by simp) o⟩
 item:=by
  intro X hP hw hK hc i pins s σ H E I hf Z hg;subst hP hw hK;obtain⟨xs,ys,x,y,q1,q2,ex,ey⟩:=hg;obtain⟨us,r1,b1⟩:=q1.ob I;obtain⟨vs,r2,b2⟩:=q2.ob I;obtain⟨u,hu,ru⟩:=r1.get ex;obtain⟨v,hv,rv⟩:=r2.get ey;have hT:s.TypeIs (.ref z) "zip" := ⟨_,Z.zp,rfl⟩;have hzl:∀{c o},s.heap.get? c=some o->c≠s.heap.objs.size:=fun e=>b7 (bp e);have nz:=hzl Z.zp;have hTI:=Z.ti;rw[pyNext];apply af;apply ug;refine qc (name:=Str.ofString "__next__") hT BG ?_;refine nX BG hT F.entry_zip_next (Nz D Z b1 b2 (x:=u) (y:=v) (by simpa using hu) (by simpa using hv) fun g zg tg o1 o2 pg kg=>ah ⟨_,rfl,?_⟩) (F.args_zip_next_1 _);refine wpAny_letOwnedTupleGo_zip zg fun g' zg' sg=>?_;have kg':∀c o,c∉ [z,TI,TO,i1,i2]->s.heap.get? c=some o->g'.get? c=some o:=fun c o hc e=>by
   simp only[cQ,kR,jK,not_or] at hc;exact sg.extBut c o hc.1 (kg c o hc.1 hc.2.2.1 hc.2.2.2.1 hc.2.2.2.2 e)
  have pg':IsPair g' s.heap.objs.size u v:=sg.extBut _ _ nz.symm pg;have I':Inv X pins σ (upd H s.heap.objs.size (.tup [x,y])) {s with heap:=g',toks:=s.toks}:=zr I hf kg' (aG _) ⟨by simp[fA],[u,v],.cons ru (.cons rv .nil),_,pg',rfl,_,rfl⟩;refine⟨.ref s.heap.objs.size,_,I',rfl,⟨_,x,y,rfl,I.av.fresh (aG _),rfl,fun xs' ys' p1 p2=>?_⟩,?_,fun c hc=>?_⟩
  .rw[iN.inj I p1 q1,iN.inj I p2 q2];exact⟨ex,ey⟩
  .exact⟨zg',sg.extBut _ _ D.TIz (kg _ _ D.TIz D.TITO D.TIi1 D.TIi2 hTI),⟨_,_,sg.extBut _ _ D.TOz tg⟩,o1.at fun o=>sg.extBut _ o D.i1z,o2.at fun o=>sg.extBut _ o D.i2z⟩
  .have f:=hf c hc;obtain⟨hz,hTI,⟨x,y,hTO⟩,h1,h2⟩:=Z;have:∃o,s.heap.get? c=some o:=by
    simp only[cQ,kR,jK] at hc;rcases hc with rfl|rfl|rfl|rfl|rfl
    .exact⟨_,hz⟩
    .exact⟨_,hTI⟩
    .exact⟨_,hTO⟩
    .obtain⟨o,e,_⟩:=h1.there;exact⟨o,e⟩
    .obtain⟨o,e,_⟩:=h2.there;exact⟨o,e⟩
   obtain⟨o,e⟩:=this;rw[az (hzl e)];exact f.1
 done:=by
  intro X hP hw hK hc i pins s σ H E I hf Z hg;subst hP hw hK;obtain⟨xs,ys,q1,q2,hend⟩:=hg;obtain⟨us,r1,b1⟩:=q1.ob I;obtain⟨vs,r2,b2⟩:=q2.ob I;have l1:=r1.length;have l2:=r2.length;have hT:s.TypeIs (.ref z) "zip" := ⟨_,Z.zp,rfl⟩;rw[pyNext];apply af;apply ug;refine qc (name:=Str.ofString "__next__") hT BG ?_;refine nX BG hT F.entry_zip_next (z_end (I.ok.hd hc) D Z b1 b2 (by
   rcases hend with q|q
   .exact .inl (by simp;omega)
   .exact .inr (by simp;omega)) fun g e kg Y=>Y.g fun o Y=>Y.g fun ge ce=>?_) (F.args_zip_next_1 _)
  refine af (wpAny_isInstance (T:= "StopIteration") (b:=true) ⟨o,ge,ce⟩ isSubtype_stop (ah ⟨rfl,?_⟩));exact qI (t':=s.toks) I hf fun c o hc e=>by
   simp only[cQ,kR,jK,not_or] at hc;exact kg c o hc.1 hc.2.2.1 hc.2.2.2.1 hc.2.2.2.2 e
 self:=fun _ _ _ _ _ Z h=>wpAny_pyIter_zip Z.zp h
end TwS
namespace TwS
open PySem L2 PyProof.Rows
open AutoSeq1 (wpAny_loadPart')
theorem JP(T:Bool)(hh:A.handled=none)(it l:Addr)(hne:l≠it)(xs:Array Value):
  Draws prog w A it [it,l] xs.size (fun i v=>xs[i]?=some v) (fun i h=>hW T h it l i/\jh T h l xs) where
 live:=fun _ _ st=>let ⟨o,ho,_⟩:=st.1.there;⟨o,ho⟩
 frame:=fun _ _ _ st hk=>⟨st.1.at fun o e=>hk it (by simp) o e,st.2.at fun o e=>hk l (by simp) o e⟩
 item:=fun i s Q E hi st hQ=>by
  refine sJ st.1 st.2 (x:=xs[i]) (by simp[hi]) fun h' q1 q2=>?_;exact hQ _ h' s.toks (by simp[hi]) ⟨q1,st.2.at fun o e=>q2.extBut l o hne e⟩ q2
 done:=fun s Q E st hE=>tK hh st.1 st.2 (by simp) hE
theorem JE(T:Bool)(hh:A.handled=none)(it l:Addr)(xs:Array Value)(k:Nat)(hk:xs[k]?=none):
  Draws prog w A it [it,l] k (fun _ _=>False) (fun i h=>i=k/\hW T h it l k/\jh T h l xs) where
 live:=fun _ _ st=>let ⟨o,ho,_⟩:=st.2.1.there;⟨o,ho⟩
 frame:=fun _ _ _ st hk=>⟨st.1,st.2.1.at fun o e=>hk it (by simp) o e,st.2.2.at fun o e=>hk l (by simp) o e⟩
 item:=fun i s Q E hi st hQ=>absurd st.1 (b7 hi)
 done:=fun s Q E st hE=>tK hh st.2.1 st.2.2 hk hE
theorem Hv(T:Bool)(l:Addr)(xs:Array Value):
  Meets (Builtin.«enumerate.__new__» ⟨[.type "enumerate",.ref l],[]⟩) (fun _ R s=>jh T s.heap l xs/\
   R (.ok (.ret (.ref (s.heap.push (vN T l)).objs.size))) {s with heap:=(s.heap.push (vN T l)).push {cls:=.type "enumerate",data:=.fields #[.none,.bool false,.ref s.heap.objs.size,rawInt 0,.none,.none]}}):=
 .of_wp fun prog w A R s h=>by
  obtain⟨hp,g,d,tk,os⟩:=s;obtain⟨b1,h⟩:=h;have su:=sub_enumerate;cases T with
  |true=>
   have p1:Heap.IsTuple (Shared.heap ⟨hp,g,d,tk,os⟩) l xs:=b1;obtain⟨o,ho,_⟩:=id b1
   wp_walk using qM ho
   refine wpAny_stack_any fun st=>ah ?_;split
   .rename_i c _ _ _ _ _;cases (c== Value.type "enumerate")<;>(wp_walk using qM ho,oC p1;exact⟨_,rfl,h⟩)
   .wp_walk using qM ho,oC p1
    exact⟨_,rfl,h⟩
  |false=>
   have p1:Heap.IsList (Shared.heap ⟨hp,g,d,tk,os⟩) l xs:=b1;obtain⟨o,ho,_⟩:=id b1
   wp_walk using qM ho
   refine wpAny_stack_any fun st=>ah ?_;split
   .rename_i c _ _ _ _ _;cases (c== Value.type "enumerate")<;>(wp_walk using qM ho,lV p1;exact⟨_,rfl,h⟩)
   .wp_walk using qM ho,lV p1
    exact⟨_,rfl,h⟩
section
variable {prog:Program}{w:World}{A:Around}{E:aJ}{s:Shared}{l:Addr}{xs:Array Value}{T:Bool}
theorem Nu{Q:aJ}(b:jh T s.heap l xs)
  (h:∀h',IsEnum h' (s.heap.objs.size+1) s.heap.objs.size 0 .none->hW T h' s.heap.objs.size l 0->(∀c o,s.heap.get? c=some o->h'.get? c=some o)->Q (.ref (s.heap.objs.size+1)) {s with heap:=h'}):
  wpAny (model prog w) A (call (.type "enumerate") [.ref l]) Q E s:=by
 refine callType_new F.called_enumerate (by decide) (F.typeCall_enumerate_1 _) (F.newCall_enumerate_1 _) (fun obj=>F.args_object_init_2 obj _) F.entry_enumerate_new (Hv T l xs) ⟨b,?_⟩;have n1:(s.heap.push (vN T l)).objs.size=s.heap.objs.size+1:=jE ..;have g1:((s.heap.push (vN T l)).push {cls:=.type "enumerate",data:=.fields #[.none,.bool false,.ref s.heap.objs.size,rawInt 0,.none,.none]}).get? (s.heap.push (vN T l)).objs.size=some _:=dC _ rfl;show _/\_;rw[n1] at g1⊢;exact⟨⟨_,g1,rfl⟩,h _ g1 ((xZ T s.heap l).at fun o=>bj _) fun c o e=>bj _ (bj _ e)⟩
end
def IU(K:W.Frag)(T:Bool)(a:Addr):It:=
 ⟨fun i H=>∃xs x,iN T K H a xs/\xs[i]?=some x,
  fun i H v H'=>∃t x,v=.ref t/\H t=none/\H'=upd H t (.tup [.int i,x])/\∀xs,iN T K H a xs->xs[i]?=some x,
  fun i H=>∃xs,iN T K H a xs/\xs.length<=i⟩
theorem Et{P:Program}{w:World}{K:W.Frag}{es:List Expr}{n:Nat}{p:Pos}{T:Bool}{e it a:Addr}(ne:e≠it)(nae:a≠e)(nai:a≠it):
  Turn P w K (.Tuple es n p) (IU K T a) [e,it] e (fun i h=>(∃old,IsEnum h e it i old)/\hW T h it a i) where
 mem:=by simp
 obj:=fun i h Z c hc=>by
  obtain⟨⟨old,he⟩,h1⟩:=Z;simp only[cQ,kR,jK] at hc;rcases hc with rfl|rfl
  .exact⟨_,he,fun v q=>nomatch q⟩
  .exact h1.there
 keep:=fun i h h' Z k=>by
  obtain⟨⟨old,he⟩,h1⟩:=Z;exact⟨⟨old,k _ (by simp) _ he⟩,h1.at fun o=>k _ (by simp) o⟩
 item:=by
  intro X hP hw hK hc i pins s σ H E I hf Z hg;subst hP hw hK;obtain⟨xs,x,q1,ex⟩:=hg;obtain⟨⟨old,he⟩,h1⟩:=Z;obtain⟨us,r1,b1⟩:=q1.ob I;obtain⟨u,hu,ru⟩:=r1.get ex;have hlt:i<us.toArray.size:=by simpa using (eK.mp hu).1
  refine wpAny_pyNext_enum_itemD (JP T (A:=X.A.in1) (show X.A.in1.handled=none from I.ok.hd hc) it a nai us.toArray) he ⟨h1,b1⟩ hlt ne (by simp[ne,nae.symm]) fun y h' tk hy ho hs' ht hsz hk=>⟨_,rfl,?_⟩;have ey:y=u:=by have hy:us.toArray[i]?=some y:=hy;simp only[List.getElem?_toArray] at hy;rw[hu] at hy;exact (eO hy).symm
  subst ey;refine wpAny_letOwnedTupleGo_enum ho fun g' eg sg=>?_;have lt:∀{c o},s.heap.get? c=some o->c≠s.heap.objs.size:=fun e=>b7 (bp e);have kg:∀c o,c∉ [e,it]->s.heap.get? c=some o->g'.get? c=some o:=fun c o hc e1=>by
   simp only[cQ,kR,jK,not_or] at hc;exact sg.extBut c o hc.1 (hk c o hc.1 hc.2 e1)
  have tg:g'.get? s.heap.objs.size=some {cls:=.type "tuple",data:=.seq #[.int i tk,y]}:=sg.extBut _ _ (lt he).symm ht;have I':Inv X pins σ (upd H s.heap.objs.size (.tup [.int i,x])) {s with heap:=g',toks:=tk+1}:=zr I hf kg (aG _) ⟨by simp[fA],[.int i tk,y],.cons ⟨tk,rfl⟩ (.cons ru .nil),_,tg,rfl,_,rfl⟩;refine⟨.ref s.heap.objs.size,_,I',rfl,⟨_,x,rfl,I.av.fresh (aG _),rfl,fun xs' p1=>?_⟩,⟨⟨y,eg⟩,hs'.1.at fun o=>sg.extBut _ o ne.symm⟩,fun c hc=>?_⟩
  .rw[iN.inj I p1 q1];exact ex
  .have f:=hf c hc;have:∃o,s.heap.get? c=some o:=by
    simp only[cQ,kR,jK] at hc;rcases hc with rfl|rfl
    .exact⟨_,he⟩
    .obtain⟨o,e1,_⟩:=h1.there;exact⟨o,e1⟩
   obtain⟨o,e1⟩:=this;rw[az (lt e1)];exact f.1
 done:=by
  intro X hP hw hK hc i pins s σ H E I hf Z hg;subst hP hw hK;obtain⟨xs,q1,hend⟩:=hg;obtain⟨⟨old,he⟩,h1⟩:=Z;obtain⟨us,r1,b1⟩:=q1.ob I;have l1:=r1.length;refine wpAny_pyNext_enum_endD (JE T (A:=X.A.in1) (show X.A.in1.handled=none from I.ok.hd hc) it a us.toArray i (by simp;omega)) he ⟨rfl,h1,b1⟩ fun h' kh=>⟨rfl,?_⟩;exact qI (t':=s.toks) I hf fun c o hc e1=>by
   simp only[cQ,kR,jK,not_or] at hc;exact kh c o hc.2 e1
 self:=fun _ _ _ _ _ Z h=>let ⟨⟨_,he⟩,_⟩:=Z;wpAny_pyIter_enum he h
section
variable {X:Cx}{E:XK}{a:Expr}{p pos p1:Pos}{es:List Expr}{n:Nat}
theorem B8{T:Bool}{s:Shared}{c:Addr}{xs:Array Value}(q:jh T s.heap c xs):c<s.heap.objs.size:=by
 cases T with
 |true=>obtain⟨o,e,_⟩:=q;exact bp e
 |false=>obtain⟨o,e,_⟩:=q;exact bp e
theorem zQ(T:Bool){ta:TA}(hg:Gl X "enumerate")(hm:X.mg "enumerate" = none)(ha:PA X [a] ta)(hs:starEach [a] X.env=[(false,eval a X.env)]):
  PI X (.Tuple es n p1) (.Call (.Name "enumerate" p) [a] [] pos) (fun σ H R=>ta σ H fun vs H1=>∃c,vs=[.ref c]/\(∃xs,iN T X.K H1 c xs)/\R (IU X.K T c) H1):=by
 intro pins s σ H R I h;refine Call_ (lM I hg hm PyProof.Rows.boot_enumerate (tR (aF (ha pos pins s σ H _ I h) fun us s1 ⟨vs,H1,I1,r1,c,e,⟨xs,q1⟩,q⟩=>?_) (by rw[hs];rfl) (by rfl)) (by decide) (by decide));subst e;obtain⟨u,rfl,ru⟩:=vals1 r1;cases ru;obtain⟨as,_,b1⟩:=q1.ob I1;refine Nu b1 fun h' he hi k=>?_;refine wpAny_pyIter_enum he ?_;have I2:Inv X pins σ H1 {s1 with heap:=h',toks:=s1.toks}:=I1.kept (t':=s1.toks) k;have lt:=B8 (s:=s1) b1;refine⟨_,_,_,_,H1,rfl,I2,Et (T:=T) (rJ (uS _)) (b7 (A8 lt)) (b7 lt),⟨⟨_,he⟩,hi⟩,fun c' hc'=>?_,q⟩;have le:s1.heap.objs.size<=c':=by
  simp only[cQ,kR,jK] at hc';rcases hc' with rfl|rfl
  .exact xH _ _
  .exact aG _
 exact I1.pV le (I1.av.fresh le)
end
end TwS
namespace TwS
open PySem L2 PyProof.Rows
def MA(K:W.Frag)(a:Addr)(n:Nat):It:=
 ⟨fun i H=>∃xs x,i<n/\bJ K H a xs/\xs[n-1-i]?=some x,fun i H x H'=>H'=H/\∀xs,bJ K H a xs->xs[n-1-i]?=some x,fun i _=>n<=i⟩
theorem G5{P:Program}{w:World}{K:W.Frag}{tg:Expr}(a it:Addr)(n:Nat):Turn P w K tg (MA K a n) [it] it (fun i h=>i<=n/\h.IsRevIter it a ((n:Int)-1-i)) where
 mem:=by simp
 obj:=fun i h Z c hc=>by
  have e:c=it:=by simpa using hc
  subst e;obtain⟨_,o,e,c,d⟩:=Z;exact⟨o,e,fun v q=>by rw[d] at q;cases q⟩
 keep:=fun i h h' Z k=>⟨Z.1,Z.2.at fun o e=>k it (by simp) o e⟩
 item:=by
  intro X hP hw hK hc i pins s σ H E I hf Z hg;subst hP hw hK;obtain⟨xs,x,hi,hq,hx⟩:=hg;obtain⟨us,rv,pl,hz⟩:=I.list hq;obtain⟨u,hu,ru⟩:=rv.get hx;obtain⟨_,hit⟩:=Z;have e1:(n:Int)-1-(i:Int)=((n-1-i:Nat):Int):=by omega
  rw[e1] at hit;refine wpAny_pyNext_rev_item hit pl.isList (x:=u) (by simpa using hu) fun h' hit' hs'=>⟨u,rfl,?_⟩;have e2:((n-1-i:Nat):Int)-1=(n:Int)-1-((i+1:Nat):Int):=by omega
  rw[e2] at hit';obtain⟨o,ho,hc',hd⟩:=id hit';refine wc (n:= "list_reverseiterator") ho hc' hd (by decide) ?_;have I':Inv X pins σ H {s with heap:=h',toks:=s.toks}:=qI I hf fun c o hc e=>hs'.extBut c o (fun z=>hc (by simp[z])) e;refine⟨x,H,I',ru,⟨rfl,fun xs' q=>?_⟩,⟨hi,hit'⟩,fun c hc=>(hf c hc).1⟩;rw[I.sk q hq];exact hx
 done:=by
  intro X hP hw hK hc i pins s σ H E I hf Z hg;subst hP hw hK;have hg:n<=i:=hg;obtain⟨hle,hit⟩:=Z;have e1:(n:Int)-1-(i:Int)= -1:=by omega
  rw[e1] at hit;refine wpAny_pyNext_rev_end (I.ok.hd hc) hit fun h' kh=>⟨rfl,?_⟩;exact qI (t':=s.toks) I hf fun c o hc e=>kh c o (fun z=>hc (by simp[z])) e
 self:=fun _ _ _ _ _ Z h=>wpAny_pyIter_revIter Z.2 h
section
variable {X:Cx}{a:Expr}{p pos:Pos}{tg:Expr}
theorem Fy:bootBuiltins "reversed" = some (.type "reversed"):=by decide+kernel
theorem OG{ta:TA}(hg:Gl X "reversed")(hm:X.mg "reversed" = none)(ha:PA X [a] ta)(hs:starEach [a] X.env=[(false,eval a X.env)]):
  PI X tg (.Call (.Name "reversed" p) [a] [] pos) (fun σ H R=>ta σ H fun vs H1=>∃c xs,vs=[.ref c]/\bJ X.K H1 c xs/\R (MA X.K c xs.length) H1):=by
 intro pins s σ H R I h;refine Call_ (lM I hg hm Fy (tR (aF (ha pos pins s σ H _ I h) fun us s1 Z=>Z.g fun vs Z=>Z.g fun H1 Z=>Z.g fun I1 Z=>Z.g fun r1 Z=>Z.g fun c Z=>Z.g fun xs Z=>Z.g fun e Z=>Z.g fun q1 q=>?_) (by rw[hs];rfl) (by rfl)) (by decide) (by decide));subst e;obtain⟨u,rfl,ru⟩:=vals1 r1;cases ru;obtain⟨as,rv,pl,hz⟩:=I1.list q1;refine call_reversed_list pl.isList ?_;have hit:Heap.IsRevIter (s1.heap.push (revObj c ((as.toArray.size:Int)-1))) s1.heap.objs.size c ((as.toArray.size:Int)-1):=⟨_,dC _ rfl,rfl,rfl⟩;refine wpAny_pyIter_revIter hit ?_;have I2:Inv X pins σ H1 {s1 with heap:=s1.heap.push (revObj c ((as.toArray.size:Int)-1)),toks:=s1.toks}:=I1.kept (t':=s1.toks) fun b o e=>bj _ e;have el:as.toArray.size=xs.length:=by rw[cR];exact rv.length.symm
 refine⟨_,_,_,_,H1,rfl,I2,G5 c _ xs.length,⟨sT _,by rw[show (xs.length:Int)-1-((0:Nat):Int)=(as.toArray.size:Int)-1 by rw[el];simp];exact hit⟩,fun c' hc'=>?_,q⟩;have le:c'=s1.heap.objs.size:=by simpa using hc'
 subst le;exact I1.pV (aG _) (I1.av.fresh (aG _))
end
theorem pj{α β:Type}{M:Model}{A:Around}{v:α}{Q:α->Shared->Prop}{E:aJ}{s:Shared}{t:Sem β}{Q':β->Shared->Prop}{E':aJ}(h:wpAny M A (pure v) Q E s)(k:Q v s->wpAny M A t Q' E' s):wpAny M A t Q' E' s:=
 fun Γ p hΓ=>k (h Γ p hΓ) Γ p hΓ
section
variable {prog:Program}{w:World}{A:Around}{s:Shared}{R:Result->Shared->Prop}{E:aJ}
variable {I:Addr}
end
section
variable {prog:Program}{w:World}{A:Around}{s:Shared}{E:aJ}{I:Addr}
end
def dn(X:Cx):Cx:={X with A:=X.A.in1}
theorem Inv.Ob(I:L2.Inv X pins σ H s):L2.Inv (dn X) pins σ H s:=
 ⟨⟨I.ok.mod,I.ok.kind,I.ok.glob,I.ok.blt,I.ok.above,I.ok.inj,I.ok.has,I.ok.uf,I.ok.hd,I.ok.frames,I.ok.vo,I.ok.zP,I.ok.bs,I.ok.nM,I.ok.oR,I.ok.p6,I.ok.gX,I.ok.pv⟩,I.os,I.bare,I.base,I.loc,I.cell,I.free,I.eY,I.pin,I.av,I.len⟩
theorem Inv.out(ok:X.Ok)(I:L2.Inv (dn X) pins σ H s):L2.Inv X pins σ H s:=
 ⟨ok,I.os,I.bare,I.base,I.loc,I.cell,I.free,I.eY,I.pin,I.av,I.len⟩
section
variable {X:Cx}{pins:aO}{σ:L2.St}
end
section
variable {prog:Program}{w:World}{A:Around}{E:aJ}{s:Shared}{e it a:Addr}{i:Nat}{xs:Array Value}{T:Bool}
end
theorem Eg(h1:l1<n)(h2:l2<n):ZipApart (n+4) (n+2) (n+3) n (n+1) l1 l2:=zipApart_new h1 h2
section
variable {X:Cx}{E:XK}{a b:Expr}{p pos p1 pos2:Pos}{es:List Expr}{n:Nat}{da db:Tw.Env->Tw.Hp->Tw.R Tw.W}
theorem Of(T1 T2:Bool)(hg:Gl X "zip")(hm:X.mg "zip" = none)(ha:PA X [a,b] ta)(hs:starEach [a,b] X.env=[(false,eval a X.env),(false,eval b X.env)])(hs2:starEach [b] X.env=[(false,eval b X.env)]):
  PI X (.Tuple es n p1) (.Call (.Name "zip" p) [a,b] [] pos) (fun σ H R=>ta σ H fun vs H1=>∃c d,vs=[.ref c,.ref d]/\(∃xs,iN T1 X.K H1 c xs)/\(∃ys,iN T2 X.K H1 d ys)/\R (L5 X.K T1 T2 c d) H1):=by
 intro pins s σ H R I h;refine Call_ (lM I hg hm PyProof.Rows.boot_zip (tR (aF (ha pos pins s σ H _ I h) fun us s1 ⟨vs,H1,I1,r1,c,d,e,⟨xs,q1⟩,⟨ys,q2⟩,q⟩=>?_) (by rw[hs,hs2]) (by rw[hs2];rfl)) (by decide) (by decide));subst e;obtain⟨u,v,rfl,ru,rv⟩:=vals2 r1;cases ru;cases rv;obtain⟨as,_,b1⟩:=q1.ob I1;obtain⟨bs,_,b2⟩:=q2.ob I1;refine Py b1 b2 fun h' Z k=>?_;refine wpAny_pyIter_zip Z.zp ?_;have I2:Inv X pins σ H1 {s1 with heap:=h',toks:=s1.toks}:=I1.kept (t':=s1.toks) k;refine⟨_,_,_,_,H1,rfl,I2,GK (Eg (B8 (s:=s1) b1) (B8 (s:=s1) b2)),Z,fun c' hc'=>?_,q⟩;have le:s1.heap.objs.size<=c':=by
  simp only[cQ,kR,jK] at hc';rcases hc' with rfl|rfl|rfl|rfl|rfl
  .exact xH _ _
  .exact xH _ _
  .exact xH _ _
  .exact aG _
  .exact xH _ _
 exact I1.pV le (I1.av.fresh le)
end
section
variable {K:Zk}{ι ι1:Nat->Addr}{h h1:Tw.Hp}{H H1:L2.Hp}{ρ:Tw.Env}{σ:L2.St}{a:Addr}
def gQ(ι:Nat->Addr)(h:Tw.Hp)(a:Addr):Prop:=∀(i:Nat)(o:Tw.O),h[i]?=some o->fw o=true->ι i≠a
theorem gQ.later(al:gQ ι h a)(e:Ext ι h H ι1 h1 H1)(ha:H a≠none):gQ ι1 h1 a:=fun i o ei m z=>by
 by_cases hi:i<h.length
 .obtain⟨o',eo⟩:∃o',h[i]?=some o':=⟨_,mL hi⟩;rw[e.same i hi] at z;exact al i o' eo (by rw[<-e.fz i o' o eo ei];exact m) z
 .exact ha (by rw[<-z];exact e.new i (lE.mp hi) (kr ei))
theorem HR.other(r:HR K ι h H)(al:gQ ι h a)(ha:H a=some u)(n1:∀xs,u≠.tup xs)(n2:∀o v,u≠.bR o v)(n3:∀gs,u≠.xd gs:=by intro _ z;cases z)(n4:∀φ,u≠.ext φ:=by intro _ z;cases z):HR K ι h (upd H a o):=by
 have kp:Keeps ι h.length H ι h.length (upd H a o):=⟨aG _,fun _ _=>rfl,fun b xs e=>by
  rw[az (fun z=>by rw[z,ha] at e;cases e;exact n1 _ rfl)];exact e⟩
 refine⟨fun i v q=>?_,r.inj⟩;by_cases m:fw v=true
 .exact (r.obj i v q).keep kp fun w e hw z=>by
   rw[az]
   .exact z
   .rcases hw with rfl|⟨gs,rfl⟩
    .exact al i v q m
    .intro y;rw[y,ha] at z;cases z;exact n3 _ rfl
 .cases v with
  |bR ws=>
   obtain⟨xs,sq,rr⟩:=r.obj i _ q;rcases sq with ⟨o',sq⟩|sq
   .refine⟨xs,.inl ⟨o',?_⟩,rr.keep kp⟩;rw[az (fun z=>by rw[z,ha] at sq;cases sq;exact n2 _ _ rfl)];exact sq
   .exact⟨xs,.inr sq,rr.keep kp⟩
  |au c fs=>
   obtain⟨C,dx,gs,q0,q1,q2,q3⟩:=r.obj i _ q;refine⟨C,dx,gs,q0,?_,?_,q3.keep kp⟩
   .rw[az (fun z=>by rw[z,ha] at q1;cases q1;exact n4 _ rfl)];exact q1
   .exact XD.keep q2 fun b v ⟨_,hv⟩ q=>by
     subst hv;rw[az (fun z=>by rw[z,ha] at q;cases q;exact n3 _ rfl)];exact q
  |_=>exact absurd rfl m
theorem Ext.other(e:Ext ι h H ι1 h1 H1)(ha:H a=none)(ha1:H1 a=some u):Ext ι h H ι1 h1 (upd H1 a o):=
 ⟨e.len,e.same,fun b v q n=>by rw[az (cq q ha)];exact e.fr b v q n,e.new,fun b q=>e.zy b (qr b q),e.fz⟩
theorem HR.adopt(r:HR K ι h H)(al:gQ ι h a)(ha:H a=some o)(m:fw u=true)(ro:∀ι' n',Keeps ι h.length H ι' n' H->RO K ι' n' H a u):HR K (fR ι h.length a) (h++[u]) H:=by
 have hl:(h++[u]).length=h.length+1:=by simp
 have kp:Keeps ι h.length H (fR ι h.length a) (h++[u]).length H:=⟨by omega,fun i hi=>dw hi,fun _ _ e=>e⟩;have two:∀{i:Nat}{v:Tw.O},(h++[u])[i]?=some v->(i<h.length/\h[i]?=some v)\/(i=h.length/\v=u):=fun {i v} e=>by
  have hi:=kr e;by_cases z:i<h.length
  .rw[ja z] at e;exact .inl ⟨z,e⟩
  .have z':i=h.length:=by omega
   subst z';simp at e;exact .inr ⟨rfl,e.symm⟩
 refine⟨fun i v q=>?_,fun i j v w q1 q2 m1 m2 z=>?_⟩
 .rcases two q with ⟨hi,q⟩|⟨rfl,rfl⟩
  .rw[dw hi];exact (r.obj i v q).keep kp fun _ _ _ e=>e
  .rw[cY];exact ro _ _ kp
 .rcases two q1 with ⟨hi,p1⟩|⟨ei,ev⟩<;>rcases two q2 with ⟨hj,p2⟩|⟨ej,ew⟩
  .rw[dw hi,dw hj] at z;exact r.inj i j v w p1 p2 m1 m2 z
  .rw[dw hi,ej,cY] at z;exact absurd z (al i v p1 m1)
  .rw[ei,cY,dw hj] at z;exact absurd z.symm (al j w p2 m2)
  .rw[ei,ej]
theorem Ext.adopt(e:Ext ι h H ι1 h1 H1)(ha:H a=none):Ext ι h H (fR ι1 h1.length a) (h1++[u]) H1:=by
 have hl:(h1++[u]).length=h1.length+1:=by simp
 refine⟨by have:=e.len;omega,fun i hi=>(dw (cU hi e.len)).trans (e.same i hi),e.fr,fun i g1 g2=>?_,e.zy,fun i o v q1 q2=>?_⟩
 .by_cases hi:i<h1.length
  .rw[dw hi];exact e.new i g1 hi
  .have:i=h1.length:=by omega
   subst this;rw[cY];exact ha
 .have hi:=cU (kr q1) e.len;rw[ja hi] at q2;exact e.fz i o v q1 q2
end
noncomputable def nextOf(src:Tw.Src)(i:Nat)(h:Tw.Hp):Option (Option Tw.W):=match src with
 |.fix ws=>some ws[i]?
 |.at a _=>(Tw.bg h a).map fun ys=>ys[i]?
 |.rv a n=>if i<n then (match Tw.bg h a with|none=>none|some ys=>(ys[n-1-i]?).map some) else some none
 |.ea a _=>(Tw.bg h a).map fun ys=>(ys[i]?).map fun x=>.tup [.int i,x]
def gH(K:W.Frag)(J:It)(src:Tw.Src)(ι:Nat->Addr)(q:Nat)(H:L2.Hp):Prop:=
 (∃ad xs ws,J=Lh K ad/\src=.fix ws/\TupAt K H ad xs/\aT K ι q H ws xs)\/(∃lo n,J=HB lo n/\src=.fix (Tw.upTo lo n))\/(∃i n b,J=NN K b/\b=ι i/\src=.at i n/\i<q)\/
 (∃c d xs ys ws us,J=L5 K true true c d/\src=.fix (Tw.pC ws us)/\TupAt K H c xs/\TupAt K H d ys/\aT K ι q H ws xs/\aT K ι q H us ys)\/
 (∃ad xs ws,J=IU K true ad/\src=.fix (Tw.gF 0 ws)/\TupAt K H ad xs/\aT K ι q H ws xs)\/
 (∃i n b,J=MA K b n/\b=ι i/\src=.rv i n/\i<q)\/(∃i n b,J=IU K false b/\b=ι i/\src=.ea i n/\i<q)
theorem gH.later{K:W.Frag}{J:It}{src:Tw.Src}{ι ι1:Nat->Addr}{q q1:Nat}{H H1:L2.Hp}(f:gH K J src ι q H)(k:Keeps ι q H ι1 q1 H1):gH K J src ι1 q1 H1:=by
 rcases f with ⟨ad,xs,ws,e1,e2,e3,r⟩|f|⟨i,n,b,e1,e2,e3,hi⟩|⟨c,d,xs,ys,ws,us,e1,e2,e3,e4,r,r'⟩|⟨ad,xs,ws,e1,e2,e3,r⟩|⟨i,n,b,e1,e2,e3,hi⟩|⟨i,n,b,e1,e2,e3,hi⟩
 .exact .inl ⟨ad,xs,ws,e1,e2,k.sR e3,r.keep k⟩
 .exact .inr (.inl f)
 .exact .inr (.inr (.inl ⟨i,n,b,e1,e2.trans (k.same i hi).symm,e3,cU hi k.le⟩))
 .exact .inr (.inr (.inr (.inl ⟨c,d,xs,ys,ws,us,e1,e2,k.sR e3,k.sR e4,r.keep k,r'.keep k⟩)))
 .exact .inr (.inr (.inr (.inr (.inl ⟨ad,xs,ws,e1,e2,k.sR e3,r.keep k⟩))))
 .exact .inr (.inr (.inr (.inr (.inr (.inl ⟨i,n,b,e1,e2.trans (k.same i hi).symm,e3,cU hi k.le⟩)))))
 .exact .inr (.inr (.inr (.inr (.inr (.inr ⟨i,n,b,e1,e2.trans (k.same i hi).symm,e3,cU hi k.le⟩)))))
theorem pI:∀(ws:List Tw.W)(k:Int)(i:Nat),(Tw.gF k ws)[i]?=(ws[i]?).map fun x=>.tup [.int (k+i),x]
 |[],_,_=>by simp[Tw.gF]
 |w::ws,k,0=>by simp[Tw.gF]
 |w::ws,k,i+1=>by
  simp only[Tw.gF,fM];rw[pI ws (k+1) i,show k+1+(i:Int)=k+((i+1:Nat):Int) by push_cast;omega]
theorem qi:∀(ws us:List Tw.W)(i:Nat),(Tw.pC ws us)[i]?=match ws[i]?,us[i]? with|some w,some u=>some (.tup [w,u])|_,_=>none
 |[],us,i=>by simp
 |w::ws,[],i=>by cases h:(w::ws)[i]?<;>simp
 |w::ws,u::us,0=>by simp
 |w::ws,u::us,i+1=>by simpa using qi ws us i
theorem uK:∀(n:Nat)(lo:Int)(i:Nat),(Tw.upTo lo n)[i]?=if i<n then some (.int (lo+i)) else none
 |0,_,_=>by simp[Tw.upTo]
 |n+1,lo,0=>by simp[Tw.upTo]
 |n+1,lo,i+1=>by
  simp only[Tw.upTo,fM];rw[uK n (lo+1) i];by_cases h:i<n
  .rw[if_pos h,if_pos (by omega)]
   congr 2
   push_cast;omega
  .rw[if_neg h,if_neg (by omega)]
theorem kA{K:Zk}{J:It}{src:Tw.Src}{ι:Nat->Addr}{h:Tw.Hp}{H:L2.Hp}(r:HR K ι h H)(f:gH K.K J src ι h.length H)(i:Nat):
  nextOf src i h=none\/(J.stop i H/\nextOf src i h=some none)\/
   ∃w,nextOf src i h=some (some w)/\J.go i H/\∀x H',J.HA i H x H'->HR K ι h H'/\Ext ι h H ι h H'/\RW K.K ι h.length H' w x:=by
 have fT:∀{w x},RW K.K ι h.length H w x->HR K ι h H/\Ext ι h H ι h H/\RW K.K ι h.length H w x:=fun q=>⟨r,Ext.refl _ _ _,q⟩;rcases f with ⟨ad,xs,ws,rfl,rfl,e3,rr⟩|⟨lo,n,rfl,rfl⟩|⟨j,n,b,rfl,rfl,rfl,hi⟩|⟨c,d,xs,ys,ws,us,rfl,rfl,e3,e4,rr,rr'⟩|⟨ad,xs,ws,rfl,rfl,e3,rr⟩|⟨j,n,b,rfl,rfl,rfl,hi⟩|⟨j,n,b,rfl,rfl,rfl,hi⟩
 .cases hw:ws[i]? with
  |none=>exact .inr (.inl ⟨⟨xs,e3.sq,by rw[<-rr.length];exact pW.mp hw⟩,by simp[nextOf,hw]⟩)
  |some w=>
   obtain⟨v,hv,rv⟩:=rr.get hw;refine .inr (.inr ⟨w,by simp[nextOf,hw],⟨xs,v,e3.sq,hv⟩,fun x H' ⟨eH,hx⟩=>?_⟩);have:=hx xs e3.sq;rw[hv] at this;cases this;subst eH;exact fT rv
 .by_cases hi:i<n
  .refine .inr (.inr ⟨.int (lo+i),by simp[nextOf,uK,hi],hi,fun x H' ⟨eH,hx⟩=>?_⟩);subst eH hx;exact fT (.int _)
  .exact .inr (.inl ⟨lE.mp hi,by simp[nextOf,uK,hi]⟩)
 .cases e:Tw.bg h j with
  |none=>exact .inl (by simp[nextOf,e])
  |some ws=>
   obtain⟨xs,sq,rr⟩:=r.at e;cases hw:ws[i]? with
   |none=>exact .inr (.inl ⟨⟨xs,sq,by rw[<-rr.length];exact pW.mp hw⟩,by simp[nextOf,e,hw]⟩)
   |some w=>
    obtain⟨v,hv,rv⟩:=rr.get hw;refine .inr (.inr ⟨w,by simp[nextOf,e,hw],⟨xs,v,sq,hv⟩,fun x H' ⟨eH,hx⟩=>?_⟩);have:=hx xs sq;rw[hv] at this;cases this;subst eH;exact fT rv
 .cases hw:ws[i]? with
  |none=>exact .inr (.inl ⟨⟨xs,ys,e3.sq,e4.sq,.inl (by rw[<-rr.length];exact pW.mp hw)⟩,by simp[nextOf,qi,hw]⟩)
  |some w=>
   cases hu:us[i]? with
   |none=>exact .inr (.inl ⟨⟨xs,ys,e3.sq,e4.sq,.inr (by rw[<-rr'.length];exact pW.mp hu)⟩,by simp[nextOf,qi,hw,hu]⟩)
   |some u=>
    obtain⟨vx,hx,rx⟩:=rr.get hw;obtain⟨vy,hy,ry⟩:=rr'.get hu;refine .inr (.inr ⟨.tup [w,u],by simp[nextOf,qi,hw,hu],⟨xs,ys,vx,vy,e3.sq,e4.sq,hx,hy⟩,fun v H' hv=>?_⟩);obtain⟨tt,x',y',rfl,fresh,rfl,hxy⟩:=hv;obtain⟨g1,g2⟩:=hxy xs ys e3.sq e4.sq;rw[hx] at g1;cases g1;rw[hy] at g2;cases g2;obtain⟨r4,x4⟩:=r.grow (o:=.tup [vx,vy]) fresh;have k4:=x4.keeps r;exact⟨r4,x4,.tup (.inl aM) (.cons (rx.keep k4) (.cons (ry.keep k4) .nil))⟩
 .cases hw:ws[i]? with
  |none=>exact .inr (.inl ⟨⟨xs,e3.sq,by rw[<-rr.length];exact pW.mp hw⟩,by show some (Tw.gF 0 ws)[i]?=_;rw[pI,hw];rfl⟩)
  |some w=>
   obtain⟨v,hv,rv⟩:=rr.get hw;refine .inr (.inr ⟨.tup [.int i,w],by show some (Tw.gF 0 ws)[i]?=_;rw[pI,hw];simp,⟨xs,v,e3.sq,hv⟩,fun x H' hx=>?_⟩);obtain⟨tt,x',rfl,fresh,rfl,hxy⟩:=hx;have g1:=hxy xs e3.sq;rw[hv] at g1;cases g1;obtain⟨r4,x4⟩:=r.grow (o:=.tup [.int i,v]) fresh;exact⟨r4,x4,.tup (.inl aM) (.cons (.int _) (.cons (rv.keep (x4.keeps r)) .nil))⟩
 .by_cases hin:i<n
  .cases e:Tw.bg h j with
   |none=>exact .inl (by simp[nextOf,e,hin])
   |some ws=>
    obtain⟨xs,sq,rr⟩:=r.at e;cases hw:ws[n-1-i]? with
    |none=>exact .inl (by simp[nextOf,e,hin,hw])
    |some w=>
     obtain⟨v,hv,rv⟩:=rr.get hw;refine .inr (.inr ⟨w,by simp[nextOf,e,hin,hw],⟨xs,v,hin,sq,hv⟩,fun x H' ⟨eH,hx⟩=>?_⟩);have:=hx xs sq;rw[hv] at this;cases this;subst eH;exact fT rv
  .exact .inr (.inl ⟨lE.mp hin,by simp[nextOf,hin]⟩)
 .cases e:Tw.bg h j with
  |none=>exact .inl (by simp[nextOf,e])
  |some ws=>
   obtain⟨xs,sq,rr⟩:=r.at e;cases hw:ws[i]? with
   |none=>exact .inr (.inl ⟨⟨xs,sq,by rw[<-rr.length];exact pW.mp hw⟩,by simp[nextOf,e,hw]⟩)
   |some w=>
    obtain⟨v,hv,rv⟩:=rr.get hw;refine .inr (.inr ⟨.tup [.int i,w],by simp[nextOf,e,hw],⟨xs,v,sq,hv⟩,fun x H' hx=>?_⟩);obtain⟨tt,x',rfl,fresh,rfl,hxy⟩:=hx;have g1:=hxy xs sq;rw[hv] at g1;cases g1;obtain⟨r4,x4⟩:=r.grow (o:=.tup [.int i,v]) fresh;exact⟨r4,x4,.tup (.inl aM) (.cons (.int _) (.cons (rv.keep (x4.keeps r)) .nil))⟩
def cnt(src:Tw.Src)(i m:Nat):Prop:=match src with
 |.fix ws=>m=ws.length-i
 |.rv _ n=>m=n-i
 |_=>True
noncomputable def k8:Tw.Src->Nat
 |.fix ws=>ws.length
 |.at _ n=>n
 |.rv _ n=>n
 |.ea _ n=>n
theorem u0(src:Tw.Src):cnt src 0 (k8 src):=by cases src<;>simp[cnt,k8]
theorem xE(h:cnt src i (m+1)):cnt src (i+1) m:=by cases src<;>simp only[cnt] at h⊢<;>first|trivial|omega
def wk(src:Tw.Src)(k:Tw.W->List Tw.W->Tw.Hp->Tw.R (List Tw.W))(i m:Nat)(acc:List Tw.W)(h:Tw.Hp):Tw.R (List Tw.W):=match src with
 |.fix ws=>Tw.ig k (ws.drop i) acc h
 |.at a _=>Tw.cW a k m i acc h
 |.rv _ _=>.bad
 |.ea a _=>Tw.cF a k m i acc h
theorem Fd(src:Tw.Src)(k:Tw.W->List Tw.W->Tw.Hp->Tw.R (List Tw.W))(h:Tw.Hp):Tw.walk src k h=wk src k 0 (k8 src) [] h:=by cases src<;>rfl
theorem Jl{k:Tw.W->List Tw.W->Tw.Hp->Tw.R (List Tw.W)}(hm:cnt src i m):
  wk src k i m acc h=.bad\/(nextOf src i h=some none/\wk src k i m acc h=.ok acc h)\/∃w m',nextOf src i h=some (some w)/\m=m'+1/\wk src k i m acc h=(k w acc h).bind fun acc h=>wk src k (i+1) m' acc h:=by
 cases src with
 |fix ws=>
  have hm:m=ws.length-i:=hm;cases hw:ws[i]? with
  |none=>
   have hl:=pW.mp hw;refine .inr (.inl ⟨by simp[nextOf,hw],?_⟩);show Tw.ig k (ws.drop i) acc h=_;rw[List.drop_eq_nil_of_le hl];rfl
  |some w=>
   have hl:=(eK.mp hw).1;refine .inr (.inr ⟨w,ws.length-(i+1),by simp[nextOf,hw],by omega,?_⟩);show Tw.ig k (ws.drop i) acc h=_;rw[Ae hw];rfl
 | «at» a n=>
  cases e:Tw.bg h a with
  |none=>refine .inl ?_;show Tw.cW a k m i acc h=_;unfold Tw.cW;rw[e]
  |some ws=>
   cases hw:ws[i]? with
   |none=>refine .inr (.inl ⟨by simp[nextOf,e,hw],?_⟩);show Tw.cW a k m i acc h=_;unfold Tw.cW;simp only[e,hw]
   |some w=>
    cases m with
    |zero=>refine .inl ?_;show Tw.cW a k 0 i acc h=_;unfold Tw.cW;simp only[e,hw]
    |succ m=>
     refine .inr (.inr ⟨w,m,by simp[nextOf,e,hw],rfl,?_⟩);show Tw.cW a k (m+1) i acc h=_
     conv=>lhs;unfold Tw.cW
     simp only[e,hw];rfl
 |rv a n=>exact .inl rfl
 |ea a n=>
  cases e:Tw.bg h a with
  |none=>refine .inl ?_;show Tw.cF a k m i acc h=_;unfold Tw.cF;rw[e]
  |some ws=>
   cases hw:ws[i]? with
   |none=>refine .inr (.inl ⟨by simp[nextOf,e,hw],?_⟩);show Tw.cF a k m i acc h=_;unfold Tw.cF;simp only[e,hw]
   |some w=>
    cases m with
    |zero=>refine .inl ?_;show Tw.cF a k 0 i acc h=_;unfold Tw.cF;simp only[e,hw]
    |succ m=>
     refine .inr (.inr ⟨.tup [.int i,w],m,by simp[nextOf,e,hw],rfl,?_⟩);show Tw.cF a k (m+1) i acc h=_
     conv=>lhs;unfold Tw.cF
     simp only[e,hw];rfl
theorem JI{K:Zk}{J:It}{src:Tw.Src}{ι:Nat->Addr}{h:Tw.Hp}{H:L2.Hp}(r:HR K ι h H)(f:gH K.K J src ι h.length H)(k:Tw.W->List Tw.W->Tw.Hp->Tw.R (List Tw.W))(i m:Nat)(acc:List Tw.W)(hm:cnt src i m):
  wk src k i m acc h=.bad\/(J.stop i H/\wk src k i m acc h=.ok acc h)\/
   ∃w m',m=m'+1/\J.go i H/\(∀x H',J.HA i H x H'->HR K ι h H'/\Ext ι h H ι h H'/\RW K.K ι h.length H' w x)/\cnt src (i+1) m'/\wk src k i m acc h=(k w acc h).bind fun acc h=>wk src k (i+1) m' acc h:=by
 rcases Jl (k:=k) (acc:=acc) (h:=h) hm with e|⟨e1,e2⟩|⟨w,m',e1,e2,e3⟩
 .exact .inl e
 .rcases kA r f i with q|⟨st,q⟩|⟨w,q,_⟩
  .rw[e1] at q;cases q
  .exact .inr (.inl ⟨st,e2⟩)
  .rw[e1] at q;cases q
 .rcases kA r f i with q|⟨st,q⟩|⟨w',q,go,hy⟩
  .rw[e1] at q;cases q
  .rw[e1] at q;cases q
  .rw[e1] at q;cases q;exact .inr (.inr ⟨w,m',e2,go,hy,xE (by rw[<-e2];exact hm),e3⟩)
noncomputable def eJ(env:Env):List (Str×NameKind)->List (Str×Addr)->List (Str×Addr)
 |[],cs=>cs
 |(n,k)::r,cs=>eJ env r (if k== .free then (n,(env.cells.lookup n).getD 0)::cs else cs)
theorem Cm(h:∀y∈scope.names,y.2=.free->∃c,env.cells.lookup y.1=some c):closureFor scope env=pure (eJ env scope.names []):=by
 have key:∀(names:List (Str×NameKind))(cs:List (Str×Addr)),(∀y∈names,y.2=.free->∃c,env.cells.lookup y.1=some c)->
   (forIn (m:=Sem) names cs fun x r=>match x with
    |(name,kind)=>if (kind== NameKind.free)=true then do let c <-cellOf env name;pure (ForInStep.yield ((name,c)::r)) else pure (ForInStep.yield r))=pure (eJ env names cs):=by
  intro names
  induction names with
  |nil=>intro cs _;rfl
  |cons y r ih=>
   intro cs h;obtain⟨n,k⟩:=y;have ih:=fun cs=>ih cs fun z hz=>h z (fK _ hz);rw[List.forIn_cons];by_cases hk:k=.free
   .subst hk;obtain⟨c,hc⟩:=h (n,.free) rE rfl;have e:cellOf env n=pure c:=by unfold cellOf;rw[hc]
    have t:eJ env ((n,NameKind.free)::r) cs=eJ env r ((n,c)::cs):=by rw[eJ,hc];rfl
    rw[t,<-ih];dsimp only;rw[e];rfl
   .have hb:(k== NameKind.free)=false:=by simpa using hk
    have t:eJ env ((n,k)::r) cs=eJ env r cs:=by rw[eJ,hb];rfl
    rw[t,<-ih];dsimp only;rw[hb];rfl
 unfold closureFor;have k2:=key scope.names [] h;exact (eN (fun m:Sem (List (Str×Addr))=>m >>= fun cs=>pure cs) k2).trans rfl
theorem vg:∀{names:List (Str×NameKind)}{cs:List (Str×Addr)}{y:Str}{c:Addr},(eJ env names cs).lookup y=some c->
  cs.lookup y=some c\/((y,NameKind.free)∈names/\(env.cells.lookup y).getD 0=c)
 |[],cs,y,c,e=>.inl e
 |(n,k)::r,cs,y,c,e=>by
  rw[eJ] at e;rcases vg e with e|⟨h1,h2⟩
  .by_cases hk:k=.free
   .subst hk;rw[if_pos (by rfl),fi] at e;by_cases hy:(y== n)=true
    .rw[hy] at e;have:y=n:=by simpa using hy
     subst this;cases e;exact .inr ⟨rE,rfl⟩
    .rw[zk] at hy;rw[hy] at e;exact .inl e
   .rw[if_neg (by simpa using hk)] at e;exact .inl e
  .exact .inr ⟨fK _ h1,h2⟩
theorem r8:∀{names:List (Str×NameKind)}{cs:List (Str×Addr)}{y:Str},((y,NameKind.free)∈names\/∃c,cs.lookup y=some c)->∃c,(eJ env names cs).lookup y=some c
 |[],cs,y,h=>by
  rcases h with h|h
  .cases h
  .exact h
 |(n,k)::r,cs,y,h=>by
  rw[eJ];refine r8 ?_;rcases h with h|⟨c,h⟩
  .rcases cQ.mp h with h|h
   .cases h;refine .inr ⟨(env.cells.lookup n).getD 0,?_⟩;rw[if_pos (by rfl),fi];simp
   .exact .inl h
  .refine .inr ?_;by_cases hk:(k== NameKind.free)=true
   .rw[if_pos hk,fi];by_cases hy:(y== n)=true
    .rw[hy];exact⟨_,rfl⟩
    .rw[zk] at hy;rw[hy];exact⟨c,h⟩
   .rw[if_neg hk];exact⟨c,h⟩
noncomputable def bP(N:List Str)(x:List Str):List Str:=(N.map fun y=>if y∈x then ("" : Str) else y)++x
structure gk(N:List Str)(outer:Scope)(x:List Str)(sc:Scope):Prop where
 kind:sc.kind=.function
 Vv:outer.kind=.function
 xA:∀y∈sc.names,y.2≠.cell
 locs:∀y∈sc.names,y.2=.local->sc.names.lookup y.1=some .local
 i4:∀y∈x,sc.names.lookup y=some .local
 only:∀y k,sc.names.lookup y=some k->k=.local->y∈N->y∈x
 free:∀y∈sc.names,y.2=.free->outer.names.lookup y.1=some .cell\/outer.names.lookup y.1=some .free
 N6:sc.names.lookup ("" : Str)=none
def bq(X:Cx)(scope:Scope)(C:Addr)(x:List Str)(s:Shared)(H:L2.Hp)(pins:aO)(fp:List Addr):Cx:=
 {X with N:=bP X.N x,aR:=s,mY:=H,env:=compEnvC scope (eJ X.env scope.names []) C X.env,outer:=X.stack,stack:=X.stack,ex:=fp,fn:=fun _=>false,pn:=X.pn++pins,xe:=fun _ _=>False}
theorem lookup_mem{l:List (Str×NameKind)}{y:Str}{k:NameKind}(h:l.lookup y=some k):(y,k)∈l:=kC h
theorem iV{env:Env}{y:Str}{k:NameKind}:∀{names:List (Str×NameKind)},(names.map fun (n,k)=>if (k== NameKind.free&&env.scope.kind== .function&&env.kindOf n== some .cell) then (n,NameKind.cell) else (n,k)).lookup y=some k->
  ∃k',names.lookup y=some k'/\(k=k'\/(k=.cell/\k'=.free))
 |[],h=>by simp at h
 |(n,j)::r,h=>by
  rw[aX,fi] at h;by_cases hc:(j== NameKind.free&&env.scope.kind== .function&&env.kindOf n== some .cell)=true
  .rw[if_pos hc] at h;by_cases hy:(y== n)=true
   .simp only[hy] at h;cases h;refine⟨j,by rw[fi,hy],.inr ⟨rfl,?_⟩⟩;simp only[aB,jb] at hc;exact hc.1.1
   .rw[zk] at hy;simp only[hy] at h;obtain⟨k',h1,h2⟩:=iV h;exact⟨k',by rw[fi,hy];exact h1,h2⟩
  .rw[if_neg hc] at h;by_cases hy:(y== n)=true
   .simp only[hy] at h;cases h;exact⟨_,by rw[fi,hy],.inl rfl⟩
   .rw[zk] at hy;simp only[hy] at h;obtain⟨k',h1,h2⟩:=iV h;exact⟨k',by rw[fi,hy];exact h1,h2⟩
section
variable {X:Cx}{E:XK}{pins:aO}{σ:L2.St}{H:L2.Hp}{s:Shared}{scope:Scope}{x:List Str}
theorem zm(I:Inv X pins σ H s)(cs:gk X.N X.env.scope x scope):∀y∈scope.names,y.2=.free->∃c,X.env.cells.lookup y.1=some c:=fun y hy hf=>by
 rcases cs.free y hy hf with h|h
 .exact I.ok.has y.1 (.inl h)
 .exact I.ok.has y.1 (.inr h)
theorem f9(I:Inv X pins σ H s)(cs:gk X.N X.env.scope x scope)(e:(eJ X.env scope.names []).lookup y=some c):X.env.cells.lookup y=some c:=by
 rcases vg e with e|⟨h1,h2⟩
 .simp at e
 .obtain⟨c',hc⟩:=zm I cs _ h1 rfl;dsimp only at hc;rw[hc] at h2⊢;cases h2;rfl
theorem CY{h':Heap}{t':Nat}(I:Inv X pins σ H s)(cs:gk X.N X.env.scope x scope){fp:List Addr}(hf:∀b∈fp,fO X pins H b)(hlt:∀b∈fp,b<s.heap.objs.size)
  (ns:h'.Ns s.heap.objs.size fun _=>none) (kp:∀b o,s.heap.get? b=some o->h'.get? b=some o):
  Inv (bq X scope s.heap.objs.size x s H pins fp) [] (σ++List.replicate x.length none) H {s with heap:=h',toks:=t'} where
 ok:={
  mod:=I.ok.mod
  kind:=cs.kind
  glob:=I.ok.glob
  blt:=I.ok.blt
  above:=aG _
  inj:=fun y z c h1 h2=>I.ok.inj y z c (f9 I cs h1) (f9 I cs h2)
  has:=fun y hy=>by
   have hy:(relabel scope X.env).names.lookup y=some .cell\/(relabel scope X.env).names.lookup y=some .free:=hy;refine r8 (.inl ?_);have fr:∀k,(k=.cell\/k=.free)->(relabel scope X.env).names.lookup y=some k->(y,NameKind.free)∈scope.names:=fun k hk e=>by
    obtain⟨k',e',h⟩:=iV (env:=X.env) e;have m:=lookup_mem e';rcases h with h|⟨_,h⟩
    .subst h;rcases hk with hk|hk
     .exact absurd hk (cs.xA _ m)
     .rw[<-hk];exact m
    .rw[<-h];exact m
   rcases hy with hy|hy
   .exact fr _ (.inl rfl) hy
   .exact fr _ (.inr rfl) hy
  uf:=fun y c h=>nomatch h
  hd:=I.ok.hd
  frames:=I.ok.frames
  vo:=.inl rfl
  zP:=fun b hb=>⟨b7 (hlt b hb),fun y c e=>(hf b hb).2.2.2.2.1 y c (f9 I cs e)⟩
  bs:=I.bs
  nM:=cS I.ok.nM I.sz
  oR:=fun b o e z=>by
   rcases (hf b z).2.2.2.1 with w|w
   .exact I.ok.oR b o e w
   .exact absurd (cU (bp e) (cS I.ok.nM w)) (uT _)
  p6:=fun b hb z=>by
   rcases cQ.mp (I.m5 b z) with w|w
   .exact (hf b hb).2.1 w
   .exact (hf b hb).2.2.1 w
  gX:=I.stack
  pv:=I.kG}
 os:=rfl
 bare:=I.bare
 base:=Un.kept kp
 loc:=by
  refine⟨_,ns,fun i y v e1 e2 e3=>?_⟩;have hl:i<σ.length:=by
   rcases xU i σ.length with z|z
   .exact z
   .rw[om z,FJ] at e2;split at e2<;>cases e2
  rw[ja hl] at e2;have hN:i<X.N.length:=by rw[<-I.len];exact hl
  have e1:(bP X.N x)[i]?=some y:=e1;unfold bP at e1;rw[ja (by simpa using hN),oy,mL hN] at e1;have e1:(if X.N[i]∈x then ("" : Str) else X.N[i])=y:=by simpa using e1
  have hv:∃k,(relabel scope X.env).names.lookup y=some k:=by
   rcases e3 with e3|e3|e3
   .exact⟨_,e3⟩
   .exact⟨_,e3⟩
   .exact⟨_,e3⟩
  obtain⟨k,hk⟩:=hv;obtain⟨k',hk',hkk⟩:=iV (env:=X.env) hk;by_cases hx:X.N[i]∈x
  .rw[if_pos hx] at e1;rw[<-e1,cs.N6] at hk';cases hk'
  .rw[if_neg hx] at e1;have yN:y∈X.N:=by rw[<-e1];exact AR _
   have hfree:k'=.free/\(k=.cell\/k=.free):=by
    have hne:k'≠.local:=fun z=>hx (by rw[e1];exact cs.only y k' hk' z yN);have hnc:k'≠.cell:=fun z=>cs.xA _ (lookup_mem hk') z;rcases e3 with e3|e3|e3
    .have e3:(relabel scope X.env).names.lookup y=some .local:=e3;rw[hk] at e3;cases e3;rcases hkk with z|⟨z,_⟩
     .exact absurd z.symm hne
     .cases z
    .have e3:(relabel scope X.env).names.lookup y=some .cell:=e3;rw[hk] at e3;cases e3;rcases hkk with z|⟨_,z⟩
     .exact absurd z.symm hnc
     .exact⟨z,.inl rfl⟩
    .have e3:(relabel scope X.env).names.lookup y=some .free:=e3;rw[hk] at e3;cases e3;rcases hkk with z|⟨z,_⟩
     .exact⟨z.symm,.inr rfl⟩
     .cases z
   have m:=lookup_mem hk';rw[hfree.1] at m;have pD:jP X.env.scope y:=by
    rcases cs.free _ m rfl with z|z
    .exact .inr (.inl z)
    .exact .inr (.inr z)
   obtain⟨mm,hns,hl⟩:=I.loc;obtain⟨u,ru,lk⟩:=hl i y v (by rw[mL hN,e1]) e2 pD;refine⟨u,ru,.inr ⟨?_,?_⟩⟩
   .rcases hfree.2 with z|z
    .exact .inl (by rw[<-z];exact hk)
    .exact .inr (by rw[<-z];exact hk)
   .rcases lk with ⟨z,_⟩|⟨_,c,ec,hc⟩
    .exfalso;have z:X.env.scope.names.lookup y=some .local:=z;rcases cs.free _ m rfl with w|w
     .have w:X.env.scope.names.lookup y=some .cell:=w;rw[z] at w;cases w
     .have w:X.env.scope.names.lookup y=some .free:=w;rw[z] at w;cases w
    .obtain⟨c',ec'⟩:=r8 (env:=X.env) (names:=scope.names) (cs:=[]) (y:=y) (.inl m);have:=f9 I cs ec';rw[ec] at this;cases this;refine⟨c,ec',?_⟩;obtain⟨o,ho,hd⟩:=hc;exact⟨o,kp _ _ ho,hd⟩
 cell:=fun y c e=>by
  obtain⟨v,o,ho,hd⟩:=I.cell y c (f9 I cs e);exact⟨v,o,kp _ _ ho,hd⟩
 free:=I.av.fresh (aG _)
 eY:=fun y c e=>I.eY y c (f9 I cs e)
 pin:=fun p hp=>by
  have hp:p∈(X.pn++pins)++[]:=hp;rw[jf] at hp;obtain⟨h1,h2,h3,h4,h5⟩:=I.pin p hp;refine⟨kp _ _ h1,h2,b7 (bp h1),fun z=>?_,h5⟩;rcases cQ.mp (I.m5 p.1 z) with w|w
  .exact h3 w
  .exact h4 w
 av:=I.av.kept kp
 len:=by show (σ++List.replicate x.length none).length=(bP X.N x).length;unfold bP;simp[I.len]
end
abbrev tI(K:Zk)(d:Tw.Env->Tw.Hp->Tw.R Tw.Src):TI:=tG K (fun K ι n H src J=>gH K J src ι n H) d
section
variable {X:Cx}{E:XK}{a b:Expr}{pos:Pos}{da db:Tw.Env->Tw.Hp->Tw.R Tw.W}
theorem PI.imp(p:PI X tg iter w)(f:∀σ H R,w' σ H R->w σ H R):PI X tg iter w':=fun pins s σ H R I q=>p pins s σ H R I (f σ H R q)
theorem Qm(ha:PE X a (tE (zx X E) da)):PI X tg a (tI (zx X E) fun ρ h=>(da ρ h).bind fun x h=>Tw.R.of (Tw.src h x) h):=by
 refine PI.imp (PI.or (Jv ha) (Lu ha)) fun σ H R Z=>Z.g fun ρ Z=>Z.g fun h Z=>Z.g fun ι Z=>Z.g fun at' p=>?_;dsimp only at p;cases e0:da ρ h with
 |bad=>rw[e0] at p;exact p.elim
 |au=>rw[e0] at p;refine .inr ⟨ρ,h,ι,at',?_⟩;rw[e0];exact p
 |ok w h1=>
  rw[e0] at p;simp only[Tw.R.ak] at p;cases w with
  |tup ws=>
   refine .inr ⟨ρ,h,ι,at',?_⟩;rw[e0];intro ι1 H1 x e1 r1 rx;cases rx with
   | @tup ad xs _ ea ra=>exact⟨ad,rfl,⟨xs,TupAt.sq ea⟩,p ι1 H1 _ e1 r1 (.inl ⟨ad,xs,ws,rfl,rfl,ea,ra⟩)⟩
  |ref i=>
   cases e2:Tw.bg h1 i with
   |none=>
    have:Tw.src h1 (.ref i)=none:=by
     unfold Tw.bg at e2;simp only[Tw.src];split at e2
     .cases e2
     .cases e2
     .rfl
    rw[this] at p;exact p.elim
   |some ws0=>
    have:Tw.src h1 (.ref i)=some (.at i ws0.length):=by
     unfold Tw.bg at e2;simp only[Tw.src];split at e2
     .cases e2;rfl
     .cases e2;rfl
     .cases e2
    rw[this] at p;refine .inl ⟨ρ,h,ι,at',?_⟩;rw[e0];intro ι1 H1 x e1 r1 rx;cases rx with
    |ref hi=>
     obtain⟨xs0,sq0,_⟩:=r1.at e2;exact⟨_,rfl,⟨xs0,sq0⟩,p ι1 H1 _ e1 r1 (.inr (.inr (.inl ⟨i,_,_,rfl,rfl,rfl,hi⟩)))⟩
  |_=>exact p.elim
theorem Qz(hgl:Gl X "range")(hm:X.mg "range" = none)(ha:PE X a (tE (zx X E) da))(hst:starEach [a] X.env=[(false,eval a X.env)]):
  PI X tg (.Call (.Name "range" p1) [a] [] pos2) (tI (zx X E) fun ρ h=>(da ρ h).bind fun x h=>match x with
   |.int j=>if Tw.fW j then .ok (.fix (Tw.upTo 0 j.toNat)) h else .bad
   |_=>.bad):=by
 refine PI.imp (CM hgl hm (bA ha cy hst) hst) fun σ H R Z=>Z.g fun ρ Z=>Z.g fun h Z=>Z.g fun ι Z=>Z.g fun at' p=>?_;refine⟨ρ,h,ι,at',(step at' p).mono fun x H1 Z=>Z.g fun w Z=>Z.g fun h1 Z=>Z.g fun ι1 Z=>Z.g fun at1 Z=>Z.g fun e1 Z=>Z.g fun r1 p1=>?_⟩;cases r1 with
 |int j=>
  dsimp only at p1;by_cases c:Tw.fW j=true
  .rw[if_pos c] at p1;simp only[Tw.fW,aB,aN] at c;exact⟨j,rfl,c.1,c.2,ai.self (a:=Tw.Src.fix (Tw.upTo 0 j.toNat)) p1 at1.hr (.inr (.inl ⟨0,j.toNat,rfl,rfl⟩))⟩
  .rw[if_neg c] at p1;exact p1.elim
 |_=>exact p1.elim
end
theorem vq{k:Tw.W->List Tw.W->Tw.Hp->Tw.R (List Tw.W)}(hk:∀w acc h acc' h',k w acc h=.ok acc' h'->acc.length<=acc'.length):
  ∀(ws acc:List Tw.W)(h:Tw.Hp)(acc':List Tw.W)(h':Tw.Hp),Tw.ig k ws acc h=.ok acc' h'->acc.length<=acc'.length
 |[],acc,h,acc',h',e=>by cases e;exact aG _
 |w::ws,acc,h,acc',h',e=>by
  rw[Tw.ig] at e;cases e1:k w acc h with
  |bad=>rw[e1] at e;cases e
  |au=>rw[e1] at e;cases e
  |ok acc1 h1=>
   rw[e1] at e;exact cS (hk _ _ _ _ _ e1) (vq hk ws acc1 h1 acc' h' e)
theorem EM{k:Tw.W->List Tw.W->Tw.Hp->Tw.R (List Tw.W)}(hk:∀w acc h acc' h',k w acc h=.ok acc' h'->acc.length<=acc'.length):
  ∀(m i:Nat)(acc:List Tw.W)(h:Tw.Hp)(acc':List Tw.W)(h':Tw.Hp),Tw.cW a k m i acc h=.ok acc' h'->acc.length<=acc'.length:=by
 intro m
 induction m with
 |zero=>
  intro i acc h acc' h' e;unfold Tw.cW at e;split at e
  .cases e
  .split at e
   .cases e;exact aG _
   .cases e
 |succ m ih=>
  intro i acc h acc' h' e;unfold Tw.cW at e;split at e
  .cases e
  .split at e
   .cases e;exact aG _
   .next w _=>
    dsimp only at e;cases e1:k w acc h with
    |bad=>rw[e1] at e;cases e
    |au=>rw[e1] at e;cases e
    |ok acc1 h1=>
     rw[e1] at e;exact cS (hk _ _ _ _ _ e1) (ih (i+1) acc1 h1 acc' h' e)
theorem Em{k:Tw.W->List Tw.W->Tw.Hp->Tw.R (List Tw.W)}(hk:∀w acc h acc' h',k w acc h=.ok acc' h'->acc.length<=acc'.length):
  ∀(m i:Nat)(acc:List Tw.W)(h:Tw.Hp)(acc':List Tw.W)(h':Tw.Hp),Tw.cF a k m i acc h=.ok acc' h'->acc.length<=acc'.length:=by
 intro m
 induction m with
 |zero=>
  intro i acc h acc' h' e;unfold Tw.cF at e;split at e
  .cases e
  .split at e
   .cases e;exact aG _
   .cases e
 |succ m ih=>
  intro i acc h acc' h' e;unfold Tw.cF at e;split at e
  .cases e
  .split at e
   .cases e;exact aG _
   .next w _=>
    dsimp only at e;cases e1:k (.tup [.int i,w]) acc h with
    |bad=>rw[e1] at e;cases e
    |au=>rw[e1] at e;cases e
    |ok acc1 h1=>
     rw[e1] at e;exact cS (hk _ _ _ _ _ e1) (ih (i+1) acc1 h1 acc' h' e)
theorem MT{k:Tw.W->List Tw.W->Tw.Hp->Tw.R (List Tw.W)}(hk:∀w acc h acc' h',k w acc h=.ok acc' h'->acc.length<=acc'.length)
  (e:wk src k i m acc h=.ok acc' h'):acc.length<=acc'.length:=by
 cases src with
 |fix ws=>exact vq hk _ _ _ _ _ e
 | «at» a n=>exact EM hk _ _ _ _ _ _ e
 |rv a n=>cases e
 |ea a n=>exact Em hk _ _ _ _ _ _ e
noncomputable def cO(un:Tw.W->Option (List Tw.W))(c:Tw.Env->Tw.Hp->Tw.R (Option Tw.W))(elt:Tw.Env->Tw.Hp->Tw.R Tw.W)(σ:Tw.Env)(x:Tw.W)(acc:List Tw.W)(h:Tw.Hp):Tw.R (List Tw.W):=match un x with
 |none=>.bad
 |some ws=>(c (σ++ws.map some) h).gS.bind fun t h=>match Tw.tj h t with
  |none=>.bad
  |some true=>(elt (σ++ws.map some) h).gS.bind fun y h=>.ok (acc++[y]) h
  |some false=>.ok acc h
def CV(w:Tw.W):Option (List Tw.W):=some [w]
noncomputable def o9:Tw.W->Option (List Tw.W)
 |.tup [u,v]=>some [u,v]
 |_=>none
theorem va(elt:Tw.Env->Tw.Hp->Tw.R Tw.W)(σ:Tw.Env):Tw.fE elt σ=cO o9 (fun _ h=>.ok none h) elt σ:=by
 funext x acc h;unfold Tw.fE cO
 match x with
 |.tup [u,v]=>rfl
 |.tup []=>rfl
 |.tup [_]=>rfl
 |.tup (_::_::_::_)=>rfl
 |.aq=>rfl
 |.bl _=>rfl
 |.int _=>rfl
 |.str _=>rfl
 |.ref _=>rfl
 |.lst _=>rfl
theorem Dr{un:Tw.W->Option (List Tw.W)}{dc:Tw.Env->Tw.Hp->Tw.R (Option Tw.W)}{de:Tw.Env->Tw.Hp->Tw.R Tw.W}(w:Tw.W)(acc:List Tw.W)(h:Tw.Hp)(acc':List Tw.W)(h':Tw.Hp)(e:cO un dc de ρ w acc h=.ok acc' h'):acc.length<=acc'.length:=by
 unfold cO at e;cases e0:un w with
 |none=>rw[e0] at e;cases e
 |some ws=>
  rw[e0] at e;dsimp only at e;cases e1:dc (ρ++ws.map some) h with
  |bad=>rw[e1] at e;cases e
  |au=>rw[e1] at e;cases e
  |ok t h1=>
   rw[e1] at e;simp only[Tw.R.gw,Tw.R.ak] at e;split at e
   .cases e
   .cases e2:de (ρ++ws.map some) h1 with
    |bad=>rw[e2] at e;cases e
    |au=>rw[e2] at e;cases e
    |ok y h2=>rw[e2] at e;cases e;simp
   .cases e;exact aG _
theorem vO{k:Tw.W->List Tw.W->Tw.Hp->Tw.R (List Tw.W)}(hk:∀w acc h a h',k w acc h≠.au a h'):∀(ws acc:List Tw.W)(h:Tw.Hp)(a:Nat)(h':Tw.Hp),Tw.ig k ws acc h≠.au a h'
 |[],acc,h,a,h',e=>by cases e
 |w::ws,acc,h,a,h',e=>by
  rw[Tw.ig] at e;cases e1:k w acc h with
  |bad=>rw[e1] at e;cases e
  |au b g=>exact hk _ _ _ _ _ e1
  |ok acc1 h1=>rw[e1] at e;exact vO hk ws acc1 h1 a h' e
theorem Er{k:Tw.W->List Tw.W->Tw.Hp->Tw.R (List Tw.W)}(hk:∀w acc h a h',k w acc h≠.au a h'):∀(m i:Nat)(acc:List Tw.W)(h:Tw.Hp)(b:Nat)(h':Tw.Hp),Tw.cW a k m i acc h≠.au b h':=by
 intro m
 induction m with
 |zero=>
  intro i acc h b h' e;unfold Tw.cW at e;split at e
  .cases e
  .split at e<;>cases e
 |succ m ih=>
  intro i acc h b h' e;unfold Tw.cW at e;split at e
  .cases e
  .split at e
   .cases e
   .next w _=>
    dsimp only at e;cases e1:k w acc h with
    |bad=>rw[e1] at e;cases e
    |au c g=>exact hk _ _ _ _ _ e1
    |ok acc1 h1=>rw[e1] at e;exact ih (i+1) acc1 h1 b h' e
theorem C4{k:Tw.W->List Tw.W->Tw.Hp->Tw.R (List Tw.W)}(hk:∀w acc h a h',k w acc h≠.au a h'):∀(m i:Nat)(acc:List Tw.W)(h:Tw.Hp)(b:Nat)(h':Tw.Hp),Tw.cF a k m i acc h≠.au b h':=by
 intro m
 induction m with
 |zero=>
  intro i acc h b h' e;unfold Tw.cF at e;split at e
  .cases e
  .split at e<;>cases e
 |succ m ih=>
  intro i acc h b h' e;unfold Tw.cF at e;split at e
  .cases e
  .split at e
   .cases e
   .next w _=>
    dsimp only at e;cases e1:k (.tup [.int i,w]) acc h with
    |bad=>rw[e1] at e;cases e
    |au c g=>exact hk _ _ _ _ _ e1
    |ok acc1 h1=>rw[e1] at e;exact ih (i+1) acc1 h1 b h' e
theorem pU{un:Tw.W->Option (List Tw.W)}{dc:Tw.Env->Tw.Hp->Tw.R (Option Tw.W)}{de:Tw.Env->Tw.Hp->Tw.R Tw.W}(w:Tw.W)(acc:List Tw.W)(h:Tw.Hp)(a:Nat)(h':Tw.Hp):cO un dc de ρ w acc h≠.au a h':=by
 intro e;unfold cO at e;split at e
 .cases e
 .next ws _=>
  cases e1:dc (ρ++ws.map some) h with
  |bad=>rw[e1] at e;cases e
  |au=>rw[e1] at e;cases e
  |ok t h1=>
   rw[e1] at e;simp only[Tw.R.gw,Tw.R.ak] at e;split at e
   .cases e
   .cases e2:de (ρ++ws.map some) h1<;>rw[e2] at e<;>cases e
   .cases e
theorem MO{un:Tw.W->Option (List Tw.W)}{dc:Tw.Env->Tw.Hp->Tw.R (Option Tw.W)}{de:Tw.Env->Tw.Hp->Tw.R Tw.W}:wk src (cO un dc de ρ) i m acc h≠.au a h':=by
 cases src with
 |fix ws=>exact vO pU _ _ _ _ _
 | «at» b n=>exact Er pU _ _ _ _ _ _
 |rv b n=>exact fun e=>nomatch e
 |ea b n=>exact C4 pU _ _ _ _ _ _
theorem At.Qx{K:Zk}{ι:Nat->Addr}{h:Tw.Hp}{H:L2.Hp}{ρ:Tw.Env}{σ:L2.St}{ws:List Tw.W}{vs:List V}(a:At K ι h H ρ σ)(r:aT K.K ι h.length H ws vs):At K ι h H (ρ++ws.map some) (σ++vs.map some) where
 hr:=a.hr
 len:=by simp[a.len,r.length]
 st:=fun i u e=>by
  rcases xU i ρ.length with hi|hi
  .rw[ja hi] at e;rw[ja (by rw[a.len];exact hi)];exact a.st i u e
  .rw[om hi,oy] at e;rw[om (by rw[a.len];exact hi),a.len,oy];cases q:ws[i-ρ.length]? with
   |none=>rw[q] at e;cases e
   |some w=>
    rw[q] at e;cases e;obtain⟨v,hv,rv⟩:=r.get q;exact⟨v,by rw[hv];rfl,rv⟩
theorem HR.ex{K:W.Frag}{mg:Str->Option Value}{E E':XK}{ι:Nat->Addr}{h:Tw.Hp}{H:L2.Hp}(r:HR ⟨K,mg,E⟩ ι h H):HR ⟨K,mg,E'⟩ ι h H:=⟨fun i o e=>by
 have q:=r.obj i o e;cases o<;>exact q,r.inj⟩
theorem At.ex{K:W.Frag}{mg:Str->Option Value}{E E':XK}{ι:Nat->Addr}{h:Tw.Hp}{H:L2.Hp}{ρ:Tw.Env}{σ:L2.St}(a:At ⟨K,mg,E⟩ ι h H ρ σ):At ⟨K,mg,E'⟩ ι h H ρ σ:=⟨a.hr.ex,a.len,a.st⟩
def nI(K:Zk)(n k:Nat)(g:TG)(un:Tw.W->Option (List Tw.W)):Prop:=∀(ι:Nat->Addr)(h:Tw.Hp)(H:L2.Hp)(σ os:L2.St)(w:Tw.W)(v:V)(ws:List Tw.W)(Q:L2.St->L2.Hp->Prop),
 σ.length=n->os.length=k->RW K.K ι h.length H w v->un w=some ws->(∀vs,aT K.K ι h.length H ws vs->vs.length=k->Q (σ++vs.map some) H)->g v (σ++os) H Q
theorem xJ(K:Zk)(n:Nat):nI K n 1 (gL n) CV:=fun ι h H σ os w v ws Q h1 h2 r e q=>by
 cases e
 match os,h2 with
 |[o],_=>
  show Q _ H;rw[<-h1,Cn _ _ (aG _)];simpa using q [v] (.cons r .nil) rfl
theorem xj(K:Zk)(n:Nat):nI K n 2 (Co K.K 2 (nY (gL n) (nY (gL (n+1)) Bj))) o9:=fun ι h H σ os w v ws Q h1 h2 r e q=>by
 cases r with
 | @tup ad xs us ea ra=>
  cases ra with
  |nil=>cases e
  |cons r1 ra=>
   cases ra with
   |nil=>cases e
   |cons r2 ra=>
    cases ra with
    |nil=>
     cases e
     match os,h2 with
     |[o1,o2],_=>
      refine⟨ad,_,rfl,ea.sq,rfl,_,_,rfl,_,_,rfl,rfl,?_⟩;rw[<-h1,Cn _ _ (aG _),Cn _ _ (jx _)];simpa using q _ (.cons r1 (.cons r2 .nil)) rfl
    |cons r3 ra=>cases e
 |_=>cases e
section
variable {X:Cx}{E:XK}{pins:aO}{σ σ':L2.St}{H Hc:L2.Hp}{s s1:Shared}{scope:Scope}{x:List Str}{fp:List Addr}
theorem vT(I:Inv X pins σ H s)(hf:∀b∈fp,fO X pins H b)(J:Inv (bq X scope s.heap.objs.size x s H pins fp) [] σ' Hc s1)(hs:Heap.SameBut s.heap.objs.size s1.heap h'):Inv X pins σ Hc {s1 with heap:=h'}:=by
 have ne:∀b o,s.heap.get? b=some o->b≠s.heap.objs.size:=fun b o e=>b7 (bp e);have to':∀b o,b≠s.heap.objs.size->s1.heap.get? b=some o->h'.get? b=some o:=fun b o n e=>hs.extBut b o n e;have B:=J.base;have hC:Hc s.heap.objs.size=none:=J.free;have u:Un (bL X.stack) fp H Hc s.heap h':=by
  refine⟨fun b o e n h1 h2=>to' b o (ne b o e) (B.keep b o e n h1 h2),fun b o e n h1 h2=>?_,B.free,fun b o e h2=>?_,B.f6,B.fP,B.gB⟩
  .obtain⟨sl,q⟩:=B.slot b o e n h1 h2;exact⟨sl,to' b _ (ne b o e) q⟩
  .obtain⟨o',q⟩:=B.there b o e h2;exact⟨o',to' b o' (ne b o e) q⟩
 have av:di X.prog X.w Hc h':=fun b v e=>by
  refine (J.av b v e).fT (fun c w hc q=>to' c w ?_ q) (fun _ q=>q) fun _ _ q=>q;rcases hc with z|z
  .rw[z];intro z';rw[z',hC] at e;cases e
  .intro z';rw[z',hC] at z;cases z
 have os:s1.os=s.os:=J.os;obtain⟨hh,g,d,t,os'⟩:=s1;cases os;have fin:=L2.Inv.call (s:=s) (h':=h') (g':=g) (d':=d) (t':=t) (ch:=fp) I u av J.bare fun b hb=>⟨(hf b hb).2.2.2.1,(hf b hb).2.1,(hf b hb).2.2.2.2.1,(hf b hb).2.2.2.2.2⟩;exact fin
end
def sP(X:Cx)(scope:Scope)(x:List Str)(ifs:List Expr)(dc:Tw.Env->Tw.Hp->Tw.R (Option Tw.W)):Prop:=
 (ifs=[]/\∀ρ h,dc ρ h=.ok none h)\/∃c d,ifs=[c]/\(∀ρ h,dc ρ h=(d ρ h).bind fun w h=>.ok (some w) h)/\∀C s H pins fp,PT (bq X scope C x s H pins fp) c (tT (zx X E0) d)
section
variable {X:Cx}{E:XK}{elt iter tg:Expr}{x:List Str}{pos:Pos}{g:TG}{un:Tw.W->Option (List Tw.W)}{ifs:List Expr}{scope:Scope}{dit:Tw.Env->Tw.Hp->Tw.R Tw.Src}{dc:Tw.Env->Tw.Hp->Tw.R (Option Tw.W)}{de:Tw.Env->Tw.Hp->Tw.R Tw.W}
theorem ID(I:Inv X pins σ H3 s3)(cs:gk X.N X.env.scope x scope)(f3:∀b∈fp,fO X pins H3 b)(lt3:∀b∈fp,b<s3.heap.objs.size)(fz:∀b∈fp,Hc b=none):
  ∀b∈fp,fO (bq X scope s3.heap.objs.size x s3 H3 pins fp) [] Hc b:=fun b hb=>by
 obtain⟨_,f1,f2,_,f4,f5⟩:=f3 b hb;refine⟨fz b hb,b7 (lt3 b hb),fun z=>?_,.inl hb,fun y c e=>f4 y c (f9 I cs e),fun p hp=>?_⟩
 .rcases cQ.mp (I.m5 b z) with w|w
  .exact f1 w
  .exact f2 w
 .have hp:p∈(X.pn++pins)++[]:=hp;rw[jf] at hp;exact f5 p hp
theorem xI{K K':Zk}{α β γ δ:Type}{R:Rl α β}{R':Rl γ δ}{ι ι0:Nat->Addr}{h h0:Tw.Hp}{H H0:L2.Hp}{m:Tw.R α}{k:α->Tw.Hp->Tw.R γ}{Q:δ->L2.Hp->Prop}(p:ai K R' ι0 h0 H0 (m.gS.bind k) Q):
  ai K' R ι h H m (fun b H'=>∃a h' ι',m=.ok a h'/\Ext ι h H ι' h' H'/\HR K' ι' h' H'/\R K'.K ι' h'.length H' a b):=by
 cases m with
 |ok w h1=>exact fun ι' H' b e r q=>⟨w,h1,ι',rfl,e,r,q⟩
 |au=>exact p.elim
 |bad=>exact p
theorem wD{K:Zk}{α β γ δ:Type}{R':Rl γ δ}{ι0:Nat->Addr}{h0:Tw.Hp}{H0:L2.Hp}{m:Tw.R α}{f:α->Tw.Hp->Tw.R β}{g:β->Tw.Hp->Tw.R γ}{Q:δ->L2.Hp->Prop}(p:ai K R' ι0 h0 H0 ((m.bind f).bind g) Q):ai K R' ι0 h0 H0 (m.bind fun a h=>(f a h).bind g) Q:=by cases m<;>exact p
theorem A3{R:Result->Shared->Prop}(I:Nat->Shared->Prop)
  (turn:∀n s,I n s->wpAny (model prog w) A (pyNext it) (fun r s1=>match r with
   |none=>R (.ok .next) s1
   |some v=>wpAny (model prog w) A (letOwnedTupleGo target it v) (fun _ sg=>wpAny (model prog w) A (assign target env v) (fun _ s2=>
     wpAny (model prog w) A (forIn ifs true fun c r=>if r=true then do let ok <-isTrue c env (eval c env);pure (ForInStep.yield ok) else pure (ForInStep.yield r)) (fun ok s3=>
      if ok=true then wpAny (model prog w) A (eval elt env) (fun x s4=>
       wpAny (model prog w) A (call (.builtin "list.append") [acc,x]) (fun _ s5=>∃m,m<n/\I m s5) (fun _ _=>False) s4) (fun _ _=>False) s3
      else ∃m,m<n/\I m s3) (fun _ _=>False) s2) (fun _ _=>False) sg) (fun _ _=>False) s1) (fun _ _=>False) s)
  (n:Nat) (h:I n s):codeAny (model prog w) A (.compLoop (.ListComp elt [⟨target,iter,ifs,0⟩] scope pos) 0 it acc env) R s:=by
 have no:∀{α:Type}{t:Sem α}{Q1:α->Shared->Prop}{E1:aJ}{s0:Shared},wpAny (model prog w) A t Q1 (fun _ _=>False) s0->wpAny (model prog w) A t Q1 E1 s0:=fun h=>fj h (fun _ _ q=>q) fun _ _ f=>f.elim;refine codeAny_loop rfl I (fun n s hI=>?_) n h;show wpAny _ A ((compTurn (.ListComp elt [⟨target,iter,ifs,0⟩] scope pos) 0 it acc env).onRaise (fun x=>do noteFrame x env;theTreesLotGoes x)) _ _ s;refine wpAny_noted ?_;rw[compTurn_list];refine af (nO (af (aF (no (turn n s hI)) fun r s1 h1=>?_)));cases r with
 |none=>exact ah h1
 |some v=>
  refine af (aF (no h1) fun _ sg hg=>af (aF (no hg) fun _ s2 h2=>af (aF (no h2) fun ok s3 h3=>?_)));cases ok with
  |false=>exact ah ⟨rfl,h3⟩
  |true=>exact af (af (aF (no h3) fun x s4 h4=>af (aF (no h4) fun _ s5 h5=>ah (ah ⟨rfl,h5⟩))))
theorem Keeps.trans{ι ι1 ι2:Nat->Addr}(a:Keeps ι n H ι1 n1 H1)(b:Keeps ι1 n1 H1 ι2 n2 H2):Keeps ι n H ι2 n2 H2:=
 ⟨cS a.le b.le,fun i hi=>(b.same i (cU hi a.le)).trans (a.same i hi),fun c xs e=>b.tup c xs (a.tup c xs e)⟩
theorem BM{pins:aO}{s3:Shared}{H2 H3:L2.Hp}{fp:List Addr}{σ:L2.St}{ρ:Tw.Env}{ι1:Nat->Addr}{h1:Tw.Hp}{D it:Addr}{tn:Nat->Heap->Prop}{J:It}{src:Tw.Src}{Q:VK}{h4:Heap}{t4:Nat}
  (hc:X.calm=true) (cs:gk X.N X.env.scope x scope) (hpg:∀C s H pins fp,PG (bq X scope C x s H pins fp) tg g) (hbd:nI (zx X E) X.N.length x.length g un) (hel:∀C s H pins fp,PE (bq X scope C x s H pins fp) elt (tE (zx X E0) de)) (hts:sP X scope x ifs dc)
  (I3:Inv X pins σ H3 s3) (hD:H3 D=some (.lst [])) (fresh:H2 D=none) (x3:Ext ι1 h1 H2 ι1 h1 H3) (at3:At (zx X E) ι1 h1 H3 ρ σ) (pT:gQ ι1 h1 D) (fd3:gH X.K J src ι1 h1.length H3)
  (p1:ai (zx X E) RE ι1 h1 H2 ((wk src (cO un dc de ρ) 0 (k8 src) [] h1).bind Tw.eD) Q) (T:Turn X.prog X.w X.K tg J fp it tn) (st3:tn 0 s3.heap) (f3:∀b∈fp,fO X pins H3 b) (lt3:∀b∈fp,b<s3.heap.objs.size)
  (ns:h4.Ns s3.heap.objs.size fun _=>none) (kp:∀b o,s3.heap.get? b=some o->h4.get? b=some o)
  {RR:Result->Shared->Prop} (hR:∀s1 Hc σ',Inv (bq X scope s3.heap.objs.size x s3 H3 pins fp) [] σ' Hc s1->Q (.ref D) Hc->RR (.ok .next) s1):
  codeAny (model X.prog X.w) X.A (.compStart (.ListComp elt [⟨tg,iter,ifs,0⟩] scope pos) 0 (.ref it) (.ref D) (compEnvC scope (eJ X.env scope.names []) s3.heap.objs.size X.env))
   RR {s3 with heap:=h4,toks:=t4}:=by
 have I4:Inv (bq X scope s3.heap.objs.size x s3 H3 pins fp) [] (σ++List.replicate x.length none) H3 {s3 with heap:=h4,toks:=t4}:=CY I3 cs f3 lt3 ns kp;have st4:tn 0 h4:=T.keep 0 _ _ st3 fun b _ o e=>kp b o e;have loop:codeAny (model X.prog X.w) X.A (.compLoop (.ListComp elt [⟨tg,iter,ifs,0⟩] scope pos) 0 (.ref it) (.ref D) (compEnvC scope (eJ X.env scope.names []) s3.heap.objs.size X.env))
   RR {s3 with heap:=h4,toks:=t4}:=by
  refine A3 (fun n s'=>∃i acc ys hh ι' Hc o,Inv (bq X scope s3.heap.objs.size x s3 H3 pins fp) [] (σ++o) Hc s'/\o.length=x.length/\tn i s'.heap/\(∀b∈fp,Hc b=none)/\Hc D=some (.lst ys)/\gQ ι' hh D/\
   At (zx X E) ι' hh Hc ρ σ/\Ext ι1 h1 H2 ι' hh Hc/\aT X.K ι' hh.length Hc acc ys/\gH X.K J src ι' hh.length Hc/\cnt src i n/\
   ai (zx X E) RE ι1 h1 H2 ((wk src (cO un dc de ρ) i n acc hh).bind Tw.eD) Q) ?_ (k8 src)
   ⟨0,[],[],h1,ι1,H3,_,I4,by simp,st4,fun b hb=>(f3 b hb).1,hD,pT,at3,x3,.nil,fd3,u0 src,p1⟩
  rintro n s' ⟨i,acc,ys,hh,ι',Hc0,o,J1,lo,tn1,fz,hDc0,u6,at50,ex0,rr0,fd0,hm,pp⟩
  have fpo:=ID (Hc:=Hc0) I3 cs f3 lt3 fz;rcases JI at50.hr fd0 (cO un dc de ρ) i n acc hm with bad|⟨stop,e⟩|⟨w,m,em,go,hy,hm',e⟩
  .rw[bad] at pp;exact pp.elim
  . -- the end
   refine aF (T.done (bq X scope s3.heap.objs.size x s3 H3 pins fp) rfl rfl rfl hc i [] s' _ Hc0 _ J1 fpo tn1 stop) fun r s1 Z=>Z.g fun er J2=>?_;subst er;rw[e] at pp;refine hR s1 Hc0 _ J2 ?_;have pp:ai (zx X E) RE ι1 h1 H2 (if acc.length<=Tw.SZ then Tw.new (.lst acc) hh else .bad) Q:=pp;by_cases c:acc.length<=Tw.SZ
   .rw[if_pos c] at pp;have hr':=at50.hr.adopt (u:=.lst acc) u6 hDc0 rfl fun ι'' n'' k=>⟨ys,hDc0,rr0.keep k⟩;have z:RW X.K (fR ι' hh.length D) (hh++[Tw.O.lst acc]).length Hc0 (.ref hh.length) (.ref (fR ι' hh.length D hh.length)):=.ref (by simp);rw[cY] at z;exact pp _ _ _ (ex0.adopt fresh) hr' z
   .rw[if_neg c] at pp;exact pp.elim
  . -- a turn
   subst em;refine aF (T.item (bq X scope s3.heap.objs.size x s3 H3 pins fp) rfl rfl rfl hc i [] s' _ Hc0 _ J1 fpo tn1 go) fun r s1 Z=>Z.g fun u Z=>Z.g fun er hl=>?_;subst er;refine aF hl fun _ s1 Z=>Z.g fun v Z=>Z.g fun Hc Z=>Z.g fun J2 Z=>Z.g fun rv Z=>Z.g fun yl Z=>Z.g fun tn2 fz2=>?_;obtain⟨ry,xy,rw'⟩:=hy v Hc yl;have ky:=xy.keeps at50.hr;have hDc:Hc D=some (.lst ys):=xy.fr D _ hDc0 u6;have al:gQ ι' hh D:=u6;have at5:At (zx X E) ι' hh Hc ρ σ:=at50.later xy ry;have ex:=ex0.trans xy;have rr:=rr0.keep ky;have fd:=fd0.later ky;have fpo:=ID (Hc:=Hc) I3 cs f3 lt3 fz2;have J3:=J2.pinned fpo (T.obj _ _ tn2);rw[e] at pp;have pp:=wD pp;have pp':=pp;obtain⟨ws,eu⟩:∃ws,un w=some ws:=by
    cases eu:un w with
    |none=>rw[show cO un dc de ρ w acc hh=.bad by unfold cO;rw[eu]] at pp';exact pp'.elim
    |some ws=>exact⟨ws,rfl⟩
   have q0:cO un dc de ρ w acc hh=((dc (ρ++ws.map some) hh).gS.bind fun t h=>match Tw.tj h t with
     |none=>.bad
     |some true=>(de (ρ++ws.map some) h).gS.bind fun y h=>.ok (acc++[y]) h
     |some false=>.ok acc h):=by
    unfold cO;rw[eu]<;>rfl
   rw[q0] at pp';refine fj (hpg _ _ _ _ _ _ s1 _ Hc v u (fun σ2 H2'=>∃vs,aT X.K ι' hh.length Hc ws vs/\vs.length=x.length/\σ2=σ++vs.map some/\H2'=Hc) J3 rv (hbd ι' hh Hc σ o w v ws _ I3.len lo rw' eu fun vs q1 q2=>⟨vs,q1,q2,rfl,rfl⟩)) (fun _ sa Z=>Z.g fun σ2 Z=>Z.g fun Ha Z=>Z.g fun Ja Z=>Z.g fun vs Z=>Z.g fun rws Z=>Z.g fun lvs Z=>Z.g fun e1 e2=>?_) fun _ _ f=>f.elim;subst e1 e2;have at6:At (zx X E) ι' hh Ha (ρ++ws.map some) (σ++vs.map some):=at5.Qx rws;have back:∀{Hb:L2.Hp}{sb:Shared}{acc':List Tw.W}{ys':List V}{hb:Tw.Hp}{ι2:Nat->Addr},Inv (bq X scope s3.heap.objs.size x s3 H3 pins fp) ([]++lb fp s1.heap) (σ++vs.map some) Hb sb->Hb D=some (.lst ys')->gQ ι2 hb D->
     HR (zx X E) ι2 hb Hb->Ext ι1 h1 H2 ι2 hb Hb->Keeps ι' hh.length Ha ι2 hb.length Hb->aT X.K ι2 hb.length Hb acc' ys'->ai (zx X E) RE ι1 h1 H2 ((wk src (cO un dc de ρ) (i+1) m acc' hb).bind Tw.eD) Q->
     ∃k,k<m+1/\∃i acc ys hh ι' Hc o,Inv (bq X scope s3.heap.objs.size x s3 H3 pins fp) [] (σ++o) Hc sb/\o.length=x.length/\tn i sb.heap/\(∀b∈fp,Hc b=none)/\Hc D=some (.lst ys)/\gQ ι' hh D/\
      At (zx X E) ι' hh Hc ρ σ/\Ext ι1 h1 H2 ι' hh Hc/\aT X.K ι' hh.length Hc acc ys/\gH X.K J src ι' hh.length Hc/\cnt src i k/\
      ai (zx X E) RE ι1 h1 H2 ((wk src (cO un dc de ρ) i k acc hh).bind Tw.eD) Q:=fun {Hb sb acc' ys' hb ι2} Jb hDb alb rb exb kb rrb pb=>by
    refine⟨m,uS _,i+1,acc',ys',hb,ι2,Hb,vs.map some,Jb.lH,by rw[j3];exact lvs,T.keep _ _ _ tn2 fun b hb o e=>(Jb.pin (b,o) (j8 _ (j8 _ (iT hb e)))).1,fun b hb=>?_,hDb,alb,⟨rb,at5.len,fun j u q=>?_⟩,exb,rrb,fd.later kb,hm',pb⟩
    .obtain⟨o,e,d⟩:=T.obj _ _ tn2 b hb;exact (Jb.pin (b,o) (j8 _ (j8 _ (iT hb e)))).2.1
    .obtain⟨v',q1,q2⟩:=at5.st j u q;exact⟨v',q1,q2.keep kb⟩
   have elem:∀{Hb:L2.Hp}{sb:Shared}{hb:Tw.Hp}{ι2:Nat->Addr},Inv (bq X scope s3.heap.objs.size x s3 H3 pins fp) ([]++lb fp s1.heap) (σ++vs.map some) Hb sb->Ext ι' hh Ha ι2 hb Hb->HR (zx X E) ι2 hb Hb->
     ai (zx X E) RE ι1 h1 H2 (((de (ρ++ws.map some) hb).gS.bind fun y h=>(.ok (acc++[y]) h:Tw.R (List Tw.W))).bind fun acc h=>(wk src (cO un dc de ρ) (i+1) m acc h).bind Tw.eD) Q->
     wpAny (model X.prog X.w) X.A (eval elt (compEnvC scope (eJ X.env scope.names []) s3.heap.objs.size X.env)) (fun xq s₄=>
      wpAny (model X.prog X.w) X.A (call (.builtin "list.append") [.ref D,xq]) (fun _ s₅=>∃k,k<m+1/\∃i acc ys hh ι' Hc o,Inv (bq X scope s3.heap.objs.size x s3 H3 pins fp) [] (σ++o) Hc s₅/\o.length=x.length/\tn i s₅.heap/\(∀b∈fp,Hc b=none)/\Hc D=some (.lst ys)/\gQ ι' hh D/\
      At (zx X E) ι' hh Hc ρ σ/\Ext ι1 h1 H2 ι' hh Hc/\aT X.K ι' hh.length Hc acc ys/\gH X.K J src ι' hh.length Hc/\cnt src i k/\
      ai (zx X E) RE ι1 h1 H2 ((wk src (cO un dc de ρ) i k acc hh).bind Tw.eD) Q) (fun _ _=>False) s₄) (fun _ _=>False) sb:=fun {Hb sb hb ι2} Jb eb rb pb=>by
    have atb:At (zx X E) ι2 hb Hb (ρ++ws.map some) (σ++vs.map some):=at6.later eb rb;have pb':=wD pb;refine aF (hel _ _ _ _ _ _ sb _ Hb _ Jb ⟨_,hb,ι2,atb.ex,xI pb'⟩) fun xv s4 Z=>Z.g fun y Z=>Z.g fun Hd Z=>Z.g fun Jd Z=>Z.g fun ry Z=>Z.g fun yw Z=>Z.g fun hd Z=>Z.g fun ι3 Z=>Z.g fun ed Z=>Z.g fun exd Z=>Z.g fun rd rwd=>?_;have rd:HR (zx X E) ι3 hd Hd:=rd.ex;rw[ed] at pb';have pb':ai (zx X E) RE ι1 h1 H2 ((wk src (cO un dc de ρ) (i+1) m (acc++[yw]) hd).bind Tw.eD) Q:=pb';have e3:Ext ι' hh Ha ι3 hd Hd:=eb.trans exd;have hDd:Hd D=some (.lst ys):=e3.fr D _ hDc al;have ald:gQ ι3 hd D:=al.later e3 (by rw[hDc];exact fun z=>nomatch z);have hlen:acc.length+1<=Tw.SZ:=by
     cases q:wk src (cO un dc de ρ) (i+1) m (acc++[yw]) hd with
     |bad=>rw[q] at pb';exact pb'.elim
     |au=>exact absurd q MO
     |ok acc' h'=>
      rw[q] at pb';have pb':ai (zx X E) RE ι1 h1 H2 (if acc'.length<=Tw.SZ then Tw.new (.lst acc') h' else .bad) Q:=pb';by_cases c:acc'.length<=Tw.SZ
      .have:=MT Dr q;rw[n5,List.length_singleton] at this;omega
      .rw[if_neg c] at pb';exact pb'.elim
    have kd:Keeps ι3 hd.length Hd ι3 hd.length (upd Hd D (.lst (ys++[y]))):=⟨aG _,fun _ _=>rfl,fun b xs e=>by
     rw[az (fun z=>by rw[z,hDd] at e;cases e)];exact e⟩
    refine aF (vP (X:=bq X scope s3.heap.objs.size x s3 H3 pins fp) _ s4 _ Hd (.ref D) [y] (.ref D) [xv] (fun _ Hn=>Hn=upd Hd D (.lst (ys++[y]))) Jd rfl (.cons ry .nil) ⟨D,ys,y,rfl,rfl,hDd,?_,rfl⟩) fun _ s5 Z=>Z.g fun _ Z=>Z.g fun Hn Z=>Z.g fun Jn Z=>Z.g fun _ eHn=>?_
    .rw[<-rr.length,fI];omega
    .subst eHn;have kk:Keeps ι' hh.length Ha ι3 hd.length (upd Hd D (.lst (ys++[y]))):=(e3.keeps at5.hr).trans kd;exact back Jn aM ald (rd.other ald hDd (fun _ z=>nomatch z) fun _ _ z=>nomatch z) ((ex.trans e3).other fresh hDd) kk ((rr.keep kk).append (.cons (rwd.keep kd) .nil)) pb'
   rcases hts with ⟨rfl,hd0⟩|⟨c,d,rfl,hd1,hpt⟩
   .refine wpAny_tests_nil ?_;rw[if_pos rfl];refine elem Ja (Ext.refl _ _ _) at5.hr ?_;rw[hd0] at pp';exact pp'
   .refine wpAny_tests_one ?_;rw[hd1] at pp';have pt:ai (zx X E) RE ι1 h1 H2 ((dT d (ρ++ws.map some) hh).gS.bind fun b h=>((match b with
      |true=>(de (ρ++ws.map some) h).gS.bind fun y h=>(.ok (acc++[y]) h:Tw.R (List Tw.W))
      |false=>.ok acc h).bind fun acc h=>(wk src (cO un dc de ρ) (i+1) m acc h).bind Tw.eD)) Q:=by
     cases q:d (ρ++ws.map some) hh with
     |bad=>rw[q] at pp';exact pp'.elim
     |au=>rw[q] at pp';exact pp'.elim
     |ok u hu=>
      rw[q] at pp';simp only[dT,q,Tw.R.ak,Tw.R.gw,Tw.tj] at pp'⊢;cases q2:Tw.truth hu u with
      |none=>rw[q2] at pp';exact pp'.elim
      |some b=>
       rw[q2] at pp';cases b<;>exact pp'
    refine aF (hpt _ _ _ _ _ _ sa _ Ha _ Ja ⟨_,hh,ι',at6.ex,xI pt⟩) fun bb s4 Z=>Z.g fun Hd Z=>Z.g fun Jd Z=>Z.g fun b Z=>Z.g fun hd Z=>Z.g fun ι3 Z=>Z.g fun ed Z=>Z.g fun exd Z=>Z.g fun rd eb=>?_;have rd:HR (zx X E) ι3 hd Hd:=rd.ex;rw[ed] at pt;have eb:b=bb:=eb;subst eb;cases b with
    |true=>
     rw[if_pos rfl];exact elem Jd exd rd pt
    |false=>
     rw[if_neg (by decide)];exact back Jd (exd.fr D _ hDc al) (al.later exd (by rw[hDc];exact fun z=>nomatch z)) rd (ex.trans exd) (exd.keeps at5.hr) (rr.keep (exd.keeps at5.hr)) pt
 exact codeAny_compStart_list loop (T.self _ 0 _ _ _ st4 loop)
end
section
variable {X:Cx}{E:XK}{elt iter tg:Expr}{x:List Str}{pos:Pos}{g:TG}{un:Tw.W->Option (List Tw.W)}{ifs:List Expr}{scope:Scope}{dit:Tw.Env->Tw.Hp->Tw.R Tw.Src}{dc:Tw.Env->Tw.Hp->Tw.R (Option Tw.W)}{de:Tw.Env->Tw.Hp->Tw.R Tw.W}
def oh(un:Tw.W->Option (List Tw.W))(dit:Tw.Env->Tw.Hp->Tw.R Tw.Src)(dc:Tw.Env->Tw.Hp->Tw.R (Option Tw.W))(de:Tw.Env->Tw.Hp->Tw.R Tw.W):Tw.Env->Tw.Hp->Tw.R Tw.W:=
 fun ρ h=>(dit ρ h).bind fun s h=>(Tw.walk s (cO un dc de ρ) h).bind Tw.eD
theorem AA{use:Option (Value->Sem Unit)}{QQ:aJ}(I:Inv X pins σ H s)
  (hc:X.calm=true) (cs:gk X.N X.env.scope x scope) (hpg:∀C s H pins fp,PG (bq X scope C x s H pins fp) tg g) (hbd:nI (zx X E) X.N.length x.length g un) (hi:PI X tg iter (tI (zx X E) dit)) (hs:∀v,foldedSetIterable iter X.env v=pure v)
  (hel:∀C s H pins fp,PE (bq X scope C x s H pins fp) elt (tE (zx X E0) de)) (hts:sP X scope x ifs dc) (q:tE (zx X E) (oh un dit dc de) σ H Q)
  (hR:∀s3 H3 fp D,Inv X pins σ H3 s3->(∀b∈fp,fO X pins H3 b)->∀s1 Hc σ',Inv (bq X scope s3.heap.objs.size x s3 H3 pins fp) [] σ' Hc s1->Q (.ref D) Hc->compPost (model X.prog X.w) X.A X.xe use QQ (.ref D) s3.heap.objs.size (.ok .next) s1):
  wpAny (model X.prog X.w) X.A (comprehension (.ListComp elt [⟨tg,iter,ifs,0⟩] scope pos) scope X.env (firstIterPos [⟨tg,iter,ifs,0⟩] pos) (newList []) false (eval iter X.env) use) QQ X.xe s:=by
 obtain⟨ρ,h,ι,at',p⟩:=q;refine wpAny_comprehension_free rfl hs (Cm (zm I cs)) cs.kind cs.locs (aF (hi pins s σ H (fun J H'=>∃src h1 ι1,At (zx X E) ι1 h1 H' ρ σ/\Ext ι h H ι1 h1 H'/\gH X.K J src ι1 h1.length H'/\ai (zx X E) RE ι1 h1 H' ((Tw.walk src (cO un dc de ρ) h1).bind Tw.eD) Q) I ⟨ρ,h,ι,at',?_⟩) fun xv s1 h1=>aF h1 fun it s2 h2=>?_)
 .exact step at' p
 .obtain⟨it',fp,tn,J,H2,rfl,I2,T,tn0,fpo,src,h1',ι1,at1,e1,fd,p1⟩:=h2;have hf:H2 s2.heap.objs.size=none:=I2.av.fresh (aG _);have I3:Inv X pins σ (upd H2 s2.heap.objs.size (.lst [])) {s2 with heap:=s2.heap.push {cls:=.type "list",data:=.seq #[]},toks:=s2.toks}:=
   I2.laid (fun b u e=>bj _ e) (aG _) ⟨sT _,[],0,.nil,dC _ rfl⟩
  have lt2:∀b∈fp,b<s2.heap.objs.size:=fun b hb=>by
   obtain⟨o,e,_⟩:=T.obj _ _ tn0 b hb;exact bp e
  have f3:∀b∈fp,fO X pins (upd H2 s2.heap.objs.size (.lst [])) b:=fun b hb=>by
   obtain⟨g0,g1⟩:=fpo b hb;exact⟨by rw[az (b7 (lt2 b hb))];exact g0,g1⟩
  refine kq (wpAny_newFunctionEnv cs.xA (by intro y hy;simp at hy) (fun h₁ hns₁ hsb₁=>?_) cs.kind);dsimp only at hns₁ hsb₁⊢;obtain⟨r3,x3⟩:=at1.hr.grow (o:=.lst []) hf;have al:gQ ι1 h1' s2.heap.objs.size:=fun i o ei m z=>by
   obtain⟨u,q,_,_⟩:=at1.hr.there ei m;rw[z,hf] at q;cases q
  rw[Fd] at p1;have sz:(s2.heap.push {cls:=.type "list",data:=.seq ([]:List Value).toArray}).objs.size=s2.heap.objs.size+1:=jE _ _;exact BM (h4:=h₁) hc cs hpg hbd hel hts I3 aM hf x3 (at1.later x3 r3) al (fd.later (x3.keeps at1.hr)) p1 T (T.keep 0 _ _ tn0 fun b _ o e=>bj _ e) f3 (fun b hb=>by
    show b<(s2.heap.push _).objs.size;rw[sz];exact A8 (lt2 b hb)) hns₁
   (fun b o e=>hsb₁.extBut b o (b7 (bp e)) (bj _ e)) (hR _ _ fp _ I3 f3)
theorem Dg(hc:X.calm=true)(cs:gk X.N X.env.scope x scope)(hpg:∀C s H pins fp,PG (bq X scope C x s H pins fp) tg g)(hbd:nI (zx X E) X.N.length x.length g un)(hi:PI X tg iter (tI (zx X E) dit))(hs:∀v,foldedSetIterable iter X.env v=pure v)
  (hel:∀C s H pins fp,PE (bq X scope C x s H pins fp) elt (tE (zx X E0) de)) (hts:sP X scope x ifs dc):
  PE X (.ListComp elt [⟨tg,iter,ifs,0⟩] scope pos) (tE (zx X E) (oh un dit dc de)):=by
 intro pins s σ H Q I q;rw[eval_ListComp];refine AA (use:=none) I hc cs hpg hbd hi hs hel hts q fun s3 H3 fp D I3 f3 s1 Hc σ' J q=>?_;obtain⟨mm,hns2,_⟩:=J.loc;exact⟨mm,hns2,fun h' hs'=>⟨.ref D,Hc,vT I3 f3 J hs',rfl,q⟩⟩
theorem Eh(hc:X.calm=true)(cs:gk X.N X.env.scope x scope)(hpg:∀C s H pins fp,PG (bq X scope C x s H pins fp) tg g)(hbd:nI (zx X E) X.N.length x.length g un)(hi:PI X tg iter (tI (zx X E) dit))(hs:∀v,foldedSetIterable iter X.env v=pure v)
  (hel:∀C s H pins fp,PE (bq X scope C x s H pins fp) elt (tE (zx X E0) de)) (hts:sP X scope x ifs dc) (hN:X.N.Nodup) (hy:X.N[i]?=some y) (hl:X.env.scope.names.lookup y=some .local)
  (hsw:swapsWith (.ListComp elt [⟨tg,iter,ifs,0⟩] scope pos) (some (.Name y py)) spos.line X.env=pure true):
  PS X (.Assign [.Name y py] (.ListComp elt [⟨tg,iter,ifs,0⟩] scope pos) spos) (dq (zx X E) fun ρ h=>(oh un dit dc de ρ h).bind fun w h=>.ok (.next (ρ.set i (some w))) h):=by
 intro pins s σ H D I ⟨ρ,h,ι,at',p⟩;rw[exec_Assign_Name_used _ _ _ _ hsw];refine af (nO (af ?_));show wpAny _ _ (do let _ <-comprehension (.ListComp elt [⟨tg,iter,ifs,0⟩] scope pos) scope X.env (firstIterPos [⟨tg,iter,ifs,0⟩] pos) (newList []) false (eval iter X.env) (some (assign (.Name y py) X.env))) _ _ s;refine af (aF (AA (use:=some (assign (.Name y py) X.env)) (QQ:=fun _ s'=>SP X pins D .next s') (Q:=fun v H1=>D.nx (σ.set i (some v)) H1) I hc cs hpg hbd hi hs hel hts ⟨ρ,h,ι,at',(ik at' p).mono fun v H1 Z=>Z.g6 fun w h1 ι1 at1 e1 r1 p1=>p1.next (at1.set r1 i)⟩ fun s3 H3 fp A I3 f3 s1 Hc σ' J q=>?_) fun _ s' hq=>ah (ah hq));have I1:Inv X pins σ Hc s1:=vT I3 f3 J (Heap.SameBut.refl _ _);have hC:fO X pins Hc s3.heap.objs.size:=I3.pV (aG _) J.free;obtain⟨mm,⟨o,es,ep,ho,hr⟩,_⟩:=J.loc;have I2:Inv X (pins++lb [s3.heap.objs.size] s1.heap) σ Hc s1:=I1.pinned (fun b hb=>by
   rw[pS] at hb;subst hb;exact hC) fun b hb=>by
  rw[pS] at hb;subst hb;exact⟨o,ho,fun v z=>by rw[hr.1] at z;cases z⟩
 refine aF ((nA (i:=i) (pos:=py) hN hy (.inl hl) (.inr hl):PG X (.Name y py) (gL i)) _ s1 σ Hc (.ref A) (.ref A) (fun σ2 H2=>σ2=σ.set i (some (.ref A))/\H2=Hc) I2 rfl ⟨rfl,rfl⟩) fun _ s2 Z=>Z.g4 fun σ2 H2 J2 e1 e2=>?_;subst e1 e2;have ho2:s2.heap.get? s3.heap.objs.size=some o:=(J2.pin (_,o) (j8 _ (j8 _ (iT (pS.mpr rfl) ho)))).1;refine⟨mm,⟨o,es,ep,ho2,hr⟩,fun h' hs'=>?_⟩;have J3:=J2.lH;have nm:∀{b:Addr},b∉ [s3.heap.objs.size]->b≠s3.heap.objs.size:=fun hb z=>hb (pS.mpr z);have hf2:H2 s3.heap.objs.size=none:=hC.1;have u:Un (bL X.stack) [s3.heap.objs.size] H2 H2 s2.heap h':=
  ⟨fun b o e _ _ h2=>hs'.extBut b o (nm h2) e,fun b o e _ _ h2=>⟨o.slots,hs'.extBut b o (nm h2) e⟩,fun b o _ n _=>n,fun b o e h2=>⟨o,hs'.extBut b o (nm h2) e⟩,fun _ _ q=>q,fun _ _ _ q=>q,fun _ ps q=>⟨#[],by rw[q];simp⟩⟩
 have av:di X.prog X.w H2 h':=fun b v e=>by
  refine (J3.av b v e).fT (fun c w hc q=>hs'.extBut c w ?_ q) (fun _ q=>q) fun _ _ q=>q;rcases hc with z|z
  .rw[z];intro z';rw[z',hf2] at e;cases e
  .intro z';rw[z',hf2] at z;cases z
 have fin:=J3.call (h':=h') (g':=s2.gens) (d':=s2.drawn) (t':=s2.toks) (ch:=[s3.heap.objs.size]) u av J3.bare fun b hb=>by
  rw[pS] at hb;subst hb;exact⟨hC.2.2.2.1,hC.2.1,hC.2.2.2.2.1,hC.2.2.2.2.2⟩
 exact⟨_,_,fin,q⟩
end
abbrev DE:=Tw.Env->Tw.Hp->Tw.R Tw.W
noncomputable def Du:List (DE×DE)->Tw.Env->Tw.Hp->Tw.R (List Tw.W)
 |[],_,h=>.ok [] h
 |(dk,dv)::r,ρ,h=>(dk ρ h).bind fun x h=>(dv ρ h).bind fun y h=>(Du r ρ h).bind fun xs h=>.ok (x::y::xs) h
section
variable {K:Zk}
end
def Sb(prs:List (DE×DE)):DE:=fun ρ h=>(Du prs ρ h).bind fun xs h=>match Tw.wA xs [] with
 |some kvs=>Tw.new (.aj kvs) h
 |none=>.bad
def tk(src:Tw.Src)(t:Tw.Tg)(k:Tw.Env->Tw.Hp->Tw.R Tw.Fl)(i m:Nat)(ρ:Tw.Env)(h:Tw.Hp):Tw.R Tw.Fl:=match src with
 |.fix ws=>Tw.je t k (ws.drop i) ρ h
 |.at a _=>Tw.bO a t k m i ρ h
 |.rv a _=>Tw.eS a t k m ρ h
 |.ea a _=>Tw.gC a t k m i ρ h
theorem GQ(src:Tw.Src)(t:Tw.Tg)(k:Tw.Env->Tw.Hp->Tw.R Tw.Fl)(ρ:Tw.Env)(h:Tw.Hp):Tw.turns src t k ρ h=tk src t k 0 (k8 src) ρ h:=by cases src<;>rfl
theorem KO{k:Tw.Env->Tw.Hp->Tw.R Tw.Fl}(hm:cnt src i m):
  tk src t k i m ρ h=.bad\/(nextOf src i h=some none/\tk src t k i m ρ h=.ok (.next ρ) h)\/∃w m',nextOf src i h=some (some w)/\m=m'+1/\tk src t k i m ρ h=Tw.turn t k w ρ h fun ρ h=>tk src t k (i+1) m' ρ h:=by
 cases src with
 |fix ws=>
  have hm:m=ws.length-i:=hm;cases hw:ws[i]? with
  |none=>
   have hl:=pW.mp hw;refine .inr (.inl ⟨by simp[nextOf,hw],?_⟩);show Tw.je t k (ws.drop i) ρ h=_;rw[List.drop_eq_nil_of_le hl];rfl
  |some w=>
   have hl:=(eK.mp hw).1;refine .inr (.inr ⟨w,ws.length-(i+1),by simp[nextOf,hw],by omega,?_⟩);show Tw.je t k (ws.drop i) ρ h=_;rw[Ae hw];rfl
 | «at» a n=>
  cases e:Tw.bg h a with
  |none=>refine .inl ?_;show Tw.bO a t k m i ρ h=_;unfold Tw.bO;rw[e]
  |some ws=>
   cases hw:ws[i]? with
   |none=>refine .inr (.inl ⟨by simp[nextOf,e,hw],?_⟩);show Tw.bO a t k m i ρ h=_;unfold Tw.bO;simp only[e,hw]
   |some w=>
    cases m with
    |zero=>refine .inl ?_;show Tw.bO a t k 0 i ρ h=_;unfold Tw.bO;simp only[e,hw]
    |succ m=>
     refine .inr (.inr ⟨w,m,by simp[nextOf,e,hw],rfl,?_⟩);show Tw.bO a t k (m+1) i ρ h=_
     conv=>lhs;unfold Tw.bO
     simp only[e,hw];rfl
 |rv a n=>
  have hm:m=n-i:=hm;cases m with
  |zero=>exact .inr (.inl ⟨by simp[nextOf];omega,rfl⟩)
  |succ m=>
   have hi:i<n:=by omega
   have em:n-1-i=m:=by omega
   cases e:Tw.bg h a with
   |none=>refine .inl ?_;show Tw.eS a t k (m+1) ρ h=_;unfold Tw.eS;rw[e]
   |some ws=>
    cases hw:ws[m]? with
    |none=>refine .inl ?_;show Tw.eS a t k (m+1) ρ h=_;unfold Tw.eS;simp only[e,hw]
    |some w=>
     refine .inr (.inr ⟨w,m,by simp[nextOf,e,hi,em,hw],rfl,?_⟩);show Tw.eS a t k (m+1) ρ h=_
     conv=>lhs;unfold Tw.eS
     simp only[e,hw];rfl
 |ea a n=>
  cases e:Tw.bg h a with
  |none=>refine .inl ?_;show Tw.gC a t k m i ρ h=_;unfold Tw.gC;rw[e]
  |some ws=>
   cases hw:ws[i]? with
   |none=>refine .inr (.inl ⟨by simp[nextOf,e,hw],?_⟩);show Tw.gC a t k m i ρ h=_;unfold Tw.gC;simp only[e,hw]
   |some w=>
    cases m with
    |zero=>refine .inl ?_;show Tw.gC a t k 0 i ρ h=_;unfold Tw.gC;simp only[e,hw]
    |succ m=>
     refine .inr (.inr ⟨.tup [.int i,w],m,by simp[nextOf,e,hw],rfl,?_⟩);show Tw.gC a t k (m+1) i ρ h=_
     conv=>lhs;unfold Tw.gC
     simp only[e,hw];rfl
theorem Dk{dit:Tw.Env->Tw.Hp->Tw.R Tw.Src}{tb:Tw.Env->Tw.Hp->Tw.R Tw.Fl}(hp:PassesOwn (model X.prog X.w) X.A X.env X.xe)(hc:X.calm=true)(hi:PI X tg iter (tI (zx X E) dit))(hg:PG X tg g)(ht:AK (zx X E) t g)
  (hb:ff X body (dq (zx X E) tb)) (hs:∀x,foldedSetIterable iter X.env x=pure x):
  PS X (.For tg iter body [] pos) (dq (zx X E) fun ρ h=>(dit ρ h).bind fun s h=>Tw.turns s t tb ρ h):=by
 refine PS.imp (N8 hp hc hi hg hb hs) fun D σ H ⟨ρ,h,ι,at',p⟩=>⟨ρ,h,ι,at',(ik at' p).mono fun J H1 ⟨src,h1,ι1,at1,e1,fd,p1⟩=>?_⟩;rw[GQ] at p1;refine⟨fun i m σ' H'=>∃ρ h ι,At (zx X E) ι h H' ρ σ'/\gH X.K J src ι h.length H'/\cnt src i m/\bU (zx X E) ι h H' (tk src t tb i m ρ h) D,⟨k8 src,ρ,h1,ι1,at1,fd,u0 src,p1⟩,?_⟩
 rintro i m σ2 H2 ⟨ρ2,h2,ι2,at2,fd2,hm,p2⟩
 rcases KO (t:=t) (k:=tb) (ρ:=ρ2) (h:=h2) hm with e|⟨e1,e⟩|⟨w,m',e1,rfl,e⟩
 .rw[e] at p2;exact p2.elim
 .rw[e] at p2;rcases kA at2.hr fd2 i with q|⟨st,q⟩|⟨w,q,_⟩
  .rw[e1] at q;cases q
  .exact .inl ⟨st,p2.next at2⟩
  .rw[e1] at q;cases q
 .rw[e,Tw.turn] at p2;rcases kA at2.hr fd2 i with q|⟨st,q⟩|⟨w',q,go,hy⟩
  .rw[e1] at q;cases q
  .rw[e1] at q;cases q
  .rw[e1] at q;cases q;refine .inr ⟨go,fun σ' H'=>∃ρ h ι,At (zx X E) ι h H' ρ σ'/\gH X.K J src ι h.length H'/\cnt src (i+1) m'/\bU (zx X E) ι h H' (tk src t tb (i+1) m' ρ h) D,fun σ' H' q=>⟨m',uS _,q⟩,fun x H' hx=>?_⟩;obtain⟨ry,xy,rv⟩:=hy x H' hx;have aty:=at2.later xy ry;cases es:Tw.iu t w ρ2 with
   |none=>rw[es] at p2;exact p2.elim
   |some ρ3=>
    rw[es] at p2;dsimp only at p2;exact ht ι2 h2 _ ρ2 ρ3 σ2 w x _ aty rv es fun σ3 at3=>⟨ρ3,h2,ι2,at3,vi (bU.later p2 xy) fun ρ4 h4 ι4 H4 σ4 e4 at4 p4=>⟨ρ4,h4,ι4,at4,fd2.later ((xy.trans e4).keeps at2.hr),xE hm,p4⟩⟩
section
variable {X:Cx}{E:XK}{a b:Expr}{p pos p1:Pos}{es:List Expr}{n:Nat}{da db:Tw.Env->Tw.Hp->Tw.R Tw.W}
theorem Qa(hgl:Gl X "zip")(hm:X.mg "zip" = none)(ha:PE X a (tE (zx X E) da))(hb':PE X b (tE (zx X E) db))(hst:starEach [a,b] X.env=[(false,eval a X.env),(false,eval b X.env)])(hst2:starEach [b] X.env=[(false,eval b X.env)]):
  PI X (.Tuple es n p1) (.Call (.Name "zip" p) [a,b] [] pos) (tI (zx X E) fun ρ h=>(da ρ h).bind fun x h=>(db ρ h).bind fun y h=>match x,y with
   |.tup xs,.tup ys=>.ok (.fix (Tw.pC xs ys)) h
   |_,_=>.bad):=by
 refine PI.imp (Of true true hgl hm (bA ha (bA hb' cy hst2) (by rw[hst,hst2])) hst hst2) fun σ H R ⟨ρ,h,ι,at',p⟩=>?_;refine⟨ρ,h,ι,at',(step at' p).mono fun x H1 ⟨w,h1,ι1,at1,e1,r1,p1⟩=>⟨ρ,h1,ι1,at1,(step at1 p1).mono fun y H2 ⟨u,h2,ι2,at2,e2,r2,p2⟩=>?_⟩⟩;have r1:=r1.keep (e2.keeps at1.hr);cases r1 with
 | @tup c xs ws ea ra=>
  cases r2 with
  | @tup d ys us eb rb=>exact⟨c,d,rfl,⟨xs,ea.sq⟩,⟨ys,eb.sq⟩,ai.self (a:=Tw.Src.fix (Tw.pC ws us)) p2 at2.hr (.inr (.inr (.inr (.inl ⟨c,d,xs,ys,ws,us,rfl,rfl,ea,eb,ra,rb⟩))))⟩
  |_=>exact p2.elim
 |_=>cases u<;>exact p2.elim
theorem Mo(hgl:Gl X "enumerate")(hm:X.mg "enumerate" = none)(ha:PE X a (tE (zx X E) da))(hst:starEach [a] X.env=[(false,eval a X.env)]):
  PI X (.Tuple es n p1) (.Call (.Name "enumerate" p) [a] [] pos) (tI (zx X E) fun ρ h=>(da ρ h).bind fun x h=>match x with
   |.tup xs=>.ok (.fix (Tw.gF 0 xs)) h
   |.ref a=>match h[a]? with
    |some (.lst xs)=>.ok (.ea a xs.length) h
    |_=>.bad
   |_=>.bad):=by
 refine PI.imp (PI.or (zQ true hgl hm (bA ha cy hst) hst) (zQ false hgl hm (bA ha cy hst) hst)) fun σ H R ⟨ρ,h,ι,at',p⟩=>?_;dsimp only at p;cases e0:da ρ h with
 |bad=>rw[e0] at p;exact p.elim
 |au=>rw[e0] at p;refine .inr ⟨ρ,h,ι,at',?_⟩;rw[e0];exact p
 |ok w h1=>
  rw[e0] at p;simp only[Tw.R.ak] at p;cases w with
  |tup ws=>
   refine .inl ⟨ρ,h,ι,at',?_⟩;rw[e0];intro ι1 H1 x e1 r1 rx;cases rx with
   | @tup ad xs _ ea ra=>exact⟨ad,rfl,⟨xs,ea.sq⟩,p ι1 H1 _ e1 r1 (.inr (.inr (.inr (.inr (.inl ⟨ad,xs,ws,rfl,rfl,ea,ra⟩)))))⟩
  |ref i=>
   dsimp only at p;cases ei:h1[i]? with
   |none=>rw[ei] at p;exact p.elim
   |some o=>
    rw[ei] at p;cases o with
    |lst ws=>
     refine .inr ⟨ρ,h,ι,at',?_⟩;rw[e0];intro ι1 H1 x e1 r1 rx;cases rx with
     |ref hi=>
      obtain⟨xs,q1,q2⟩:=r1.lst ei;exact⟨_,rfl,⟨xs,bJ.of q1⟩,p ι1 H1 _ e1 r1 (.inr (.inr (.inr (.inr (.inr (.inr ⟨i,_,_,rfl,rfl,rfl,hi⟩))))))⟩
    |_=>exact p.elim
  |_=>exact p.elim
theorem PC(hgl:Gl X "reversed")(hm:X.mg "reversed" = none)(ha:PE X a (tE (zx X E) da))(hst:starEach [a] X.env=[(false,eval a X.env)]):
  PI X tg (.Call (.Name "reversed" p) [a] [] pos) (tI (zx X E) fun ρ h=>(da ρ h).bind fun x h=>match x with
   |.ref a=>match h[a]? with
    |some (.lst xs)=>.ok (.rv a xs.length) h
    |_=>.bad
   |_=>.bad):=by
 refine PI.imp (OG hgl hm (bA ha cy hst) hst) fun σ H R ⟨ρ,h,ι,at',p⟩=>?_;refine⟨ρ,h,ι,at',(step at' p).mono fun x H1 ⟨w,h1,ι1,at1,e1,r1,p1⟩=>?_⟩;cases r1 with
 | @ref i hi=>
  dsimp only at p1;cases ei:h1[i]? with
  |none=>rw[ei] at p1;exact p1.elim
  |some o=>
   rw[ei] at p1;cases o with
   |lst ws=>
    obtain⟨xs,q1,q2⟩:=at1.hr.lst ei;refine⟨_,xs,rfl,bJ.of q1,?_⟩;rw[<-q2.length];exact ai.self (a:=Tw.Src.rv i ws.length) p1 at1.hr (.inr (.inr (.inr (.inr (.inr (.inl ⟨i,_,_,rfl,rfl,rfl,hi⟩))))))
   |_=>exact p1.elim
 |_=>exact p1.elim
end
noncomputable def aI:Expr->Bool
 |.Name .. => true | .Constant .. => true | .Tuple .. => true | .List .. => true | .Dict .. => true | .BinOp .. => true | .Compare .. => true | .BoolOp .. => true
 |.UnaryOp .. => true | .IfExp .. => true | .Subscript .. => true | .Call .. => true | .Attribute .. => true | .ListComp .. => true
 |_=>false
noncomputable def sY:Expr->Bool
 |.ListComp .. => true
 |_=>false
noncomputable def kF:Expr->Bool
 |.Call (.Name _ _) [] [] _=>false
 |_=>true
noncomputable def IZ:Expr->Bool
 |.UnaryOp .Not _ _=>false | .BoolOp .. => false | .IfExp .. => false | .Compare .. => false
 |_=>true
section
variable {a b:Expr}{es:List Expr}{env:Env}
theorem bf(h:aI a=true):starEach (a::es) env=(false,eval a env)::starEach es env:=by cases a<;>first|rfl|cases h
theorem yp(h:aI b=true):uI b:=by cases b<;>first|(intro _ _;rfl)|cases h
theorem za(o:CmpOp)(h:aI b=true):behindInMarks o b=false:=by cases b<;>first|rfl|cases h
theorem fc(h:aI b=true):∀x,foldedSetIterable b env x=pure x:=by cases b<;>first|(intro _;rfl)|cases h
theorem jJ(h:aI a=true)(hn:sY a=false):swapsWith a t l env=pure false:=by cases a<;>first|rfl|exact absurd (show false=true from h) e9|exact absurd (show false=true from hn) e9|exact absurd (show true=false from hn) (by decide)
theorem nU(h:aI a=true)(hn:kF a=true):attributeBase a m env (eval a env)=eval a env:=by
 cases a with
 |Call f as ks p=>
  cases f with
  |Name x q=>
   cases as with
   |nil=>
    cases ks with
    |nil=>cases hn
    |cons _ _=>rfl
   |cons _ _=>rfl
  |_=>rfl
 |_=>first|rfl|cases h
theorem Dt(h:aI a=true)(hn:IZ a=true)(whole:Sem Value):isTrue a env whole=(do let v <-whole;standAt a.pos;holding [v] (truthy v)):=by
 cases a with
 |UnaryOp o x p=>
  cases o with
  |Not=>cases hn
  |_=>rfl
 |_=>first|rfl|exact absurd (show false=true from h) e9|exact absurd (show false=true from hn) e9|exact absurd (show true=false from hn) (by decide)
end
noncomputable abbrev Sc:=List (Str×NameKind)
def uQ(sc:Sc)(x:Str):Bool:=match sc.lookup x with
 |some .local=>true|some .cell=>true|some .free=>true
 |_=>false
def j7(sc:Sc)(x:Str):Bool:=match sc.lookup x with
 |some .local=>true|some .cell=>true
 |_=>false
def Ir(sc:Sc)(x:Str):Bool:=match sc.lookup x with
 |some .cell=>true|some .free=>true
 |_=>false
def jo(sc:Sc)(x:Str):Bool:=match sc.lookup x with
 |some .globalImplicit=>true
 |_=>false
structure dA(sc:Sc)(N:List Str)(X:Cx):Prop where
 n:X.N=N
 kind:X.env.scope.kind=.function
 pD:∀x,uQ sc x=true->jP X.env.scope x
 gl:∀x,jo sc x=true->Gl X x
 cf:∀x,Ir sc x=true->X.env.scope.names.lookup x=some .cell\/X.env.scope.names.lookup x=some .free
theorem nJ{scope:Scope}{env:Env}{y:Str}{k:NameKind}:∀{names:List (Str×NameKind)},names.lookup y=some k->
  (names.map fun (n,k)=>if (k== NameKind.free&&env.scope.kind== .function&&env.kindOf n== some .cell) then (n,NameKind.cell) else (n,k)).lookup y=some k\/
  (k=.free/\(names.map fun (n,k)=>if (k== NameKind.free&&env.scope.kind== .function&&env.kindOf n== some .cell) then (n,NameKind.cell) else (n,k)).lookup y=some .cell)
 |[],h=>by simp at h
 |(n,j)::r,h=>by
  rw[fi] at h;by_cases hy:(y== n)=true
  .simp only[hy] at h;cases h;rw[aX];dsimp only;by_cases hc:(k== NameKind.free&&env.scope.kind== .function&&env.kindOf n== some .cell)=true
   .refine .inr ⟨?_,?_⟩
    .simp only[aB,jb] at hc;exact hc.1.1
    .rw[if_pos hc,fi];simp only[hy]
   .refine .inl ?_;rw[if_neg hc,fi];simp only[hy]
  .rw[zk] at hy;simp only[hy] at h;rw[aX];dsimp only;have ih:=nJ (scope:=scope) (env:=env) h;by_cases hc:(j== NameKind.free&&env.scope.kind== .function&&env.kindOf n== some .cell)=true
   .rw[if_pos hc,fi];simp only[hy];exact ih
   .rw[if_neg hc,fi];simp only[hy];exact ih
theorem kM{scope:Scope}{env:Env}{y:Str}{k:NameKind}(h:scope.names.lookup y=some k):(relabel scope env).names.lookup y=some k\/(k=.free/\(relabel scope env).names.lookup y=some .cell):=
 nJ (scope:=scope) h
theorem dA.comp(hk:scope.kind=.function):
  dA scope.names (bP X.N x) (bq X scope C x s H pins fp) where
 n:=rfl
 kind:=hk
 pD:=fun y hy=>by
  show jP (relabel scope X.env) y;unfold uQ at hy;cases e:scope.names.lookup y with
  |none=>rw[e] at hy;cases hy
  |some k=>
   rcases kM (env:=X.env) e with q|⟨_,q⟩
   .rw[e] at hy;cases k with
    | «local» => exact .inl q
    |cell=>exact .inr (.inl q)
    |free=>exact .inr (.inr q)
    |_=>cases hy
   .exact .inr (.inl q)
 gl:=fun y hy=>by
  show (relabel scope X.env).names.lookup y=some .globalImplicit;unfold jo at hy;cases e:scope.names.lookup y with
  |none=>rw[e] at hy;cases hy
  |some k=>
   rw[e] at hy;cases k with
   |globalImplicit=>
    rcases kM (env:=X.env) e with q|⟨q,_⟩
    .exact q
    .cases q
   |_=>cases hy
 cf:=fun y hy=>by
  show (relabel scope X.env).names.lookup y=some .cell\/(relabel scope X.env).names.lookup y=some .free;unfold Ir at hy;cases e:scope.names.lookup y with
  |none=>rw[e] at hy;cases hy
  |some k=>
   rw[e] at hy;rcases kM (env:=X.env) e with q|⟨_,q⟩
   .cases k with
    |cell=>exact .inl q
    |free=>exact .inr q
    |_=>cases hy
   .exact .inl q
noncomputable def yC(N:List Str)(sc:Sc)(x:List Str)(scope:Scope):Bool:=
 decide (scope.kind=.function)&&scope.names.all (fun y=>(match y.2 with
  |.cell=>false
  |.local=>(match scope.names.lookup y.1 with|some .local=>true|_=>false)&&(x.contains y.1 || !(N.contains y.1))
  |.free=>Ir sc y.1
  |_=>true)&&!(y.1== ("" : Str)))&&x.all (fun y=>match scope.names.lookup y with|some .local=>true|_=>false)
theorem tJ(S:dA sc N X)(h:yC N sc x scope=true):gk X.N X.env.scope x scope:=by
 unfold yC at h;simp only[aB,aN,kS] at h;obtain⟨⟨h1,h2⟩,h3⟩:=h;have i4:∀y∈x,scope.names.lookup y=some .local:=fun y hy=>by
  have h3:=h3 y hy;cases e:scope.names.lookup y with
  |none=>rw[e] at h3;cases h3
  |some k=>rw[e] at h3;cases k<;>first|rfl|cases h3
 refine⟨h1,S.kind,fun y hy z=>?_,fun y hy z=>?_,i4,fun y k e z hN=>?_,fun y hy z=>?_,?_⟩
 .obtain⟨q,_⟩:=h2 y hy;rw[z] at q;cases q
 .obtain⟨q,_⟩:=h2 y hy;rw[z] at q;simp only[aB] at q;cases e:scope.names.lookup y.1 with
  |none=>rw[e] at q;cases q.1
  |some k=>rw[e] at q;cases k<;>first|rfl|cases q.1
 .subst z;obtain⟨q,_⟩:=h2 (y,.local) (kC e);simp only[aB,Ih,mI] at q;rcases q.2 with q|q
  .rw[B0] at q;simpa using q
  .rw[S.n] at hN;rw[B0] at q;exact absurd hN (by simpa using q)
 .obtain⟨q,_⟩:=h2 y hy;rw[z] at q;exact S.cf _ q
 .cases e:scope.names.lookup ("" : Str) with
  |none=>rfl
  |some k=>
   obtain⟨_,q⟩:=h2 ("",k) (kC e);simp at q
theorem str_inj{x y:Tw.S}:((⟨x.toArray⟩:Str)=⟨y.toArray⟩)↔x=y:=by
 constructor
 .intro h;have:=eN (fun s:Str=>s.cps.toList) h;simpa using this
 .intro h;rw[h]
section
variable {K:W.Frag}{ι:Nat->Addr}{n:Nat}{H:L2.Hp}
theorem str_beq(x y:Tw.S):((⟨x.toArray⟩:Str)== ⟨y.toArray⟩)=(x== y):=by
 by_cases h:x=y
 .subst h;simp
 .rw[gG.mpr h];exact gG.mpr fun z=>h (str_inj.mp z)
theorem RF.look:∀{fs:List (Tw.S×Tw.W)}{gs:List (Str×V)},RF K ι n H fs gs->(fs.lookup x=none/\gs.lookup ⟨x.toArray⟩=none)\/∃w v,fs.lookup x=some w/\gs.lookup ⟨x.toArray⟩=some v/\RW K ι n H w v
 |_,_,.nil=>.inl ⟨rfl,rfl⟩
 |_,_,.cons (x:=y) (w:=w) (v:=v) a r=>by
  rw[fi,fi,str_beq];cases e:x== y with
  |true=>exact .inr ⟨w,v,rfl,rfl,a⟩
  |false=>exact RF.look r
theorem RF.put(a:RW K ι n H w v):∀{fs:List (Tw.S×Tw.W)}{gs:List (Str×V)},RF K ι n H fs gs->RF K ι n H (Tw.fX x w fs) (dU ⟨x.toArray⟩ v gs)
 |_,_,.nil=>.cons a .nil
 |_,_,.cons (x:=y) b r=>by
  unfold Tw.fX L2.dU;by_cases e:y=x
  .subst e;rw[if_pos rfl,if_pos rfl];exact .cons a r
  .rw[if_neg e,if_neg (fun z=>e (str_inj.mp z))];exact .cons b (RF.put a r)
end
theorem fk:∀{ys:List Expr},ys.all aI=true->starEach ys env=ys.map fun y=>(false,eval y env)
 |[],_=>rfl
 |y::r,h=>by
  rw[fL,aB] at h;rw[bf h.1,fk h.2,aX]
section
variable {X:Cx}{E:XK}{a b c o e f:Expr}{pos apos cpos pos':Pos}{da db dc dv:Tw.Env->Tw.Hp->Tw.R Tw.W}
theorem HR.ins{K:Zk}{ι:Nat->Addr}{h:Tw.Hp}{H:L2.Hp}(r:HR K ι h H){i:Nat}{c:Tw.S}{fs:List (Tw.S×Tw.W)}(e:h[i]?=some (.ins c fs)):
  ∃C dx gs,(K.mg ⟨c.toArray⟩=some (.ref C)/\GoodC K.K C)/\H (ι i)=some (.ins C dx gs)/\RF K.K ι h.length H fs gs:=r.obj i _ e
theorem Pj{x:Tw.S}(hx:(⟨x.toArray⟩:Str)∈Ai)(hb:attributeBase a ⟨x.toArray⟩ X.env (eval a X.env)=eval a X.env)(ha:PE X a (tE (zx X E) da)):
  PE X (.Attribute a ⟨x.toArray⟩ pos) (tE (zx X E) fun ρ h=>(da ρ h).bind fun w h=>Tw.R.of (Tw.field w x h) h):=by
 refine PE.imp (K4 ha hb) fun σ H Q Z=>Z.g fun ρ Z=>Z.g fun h Z=>Z.g fun ι Z=>Z.g fun at' p=>⟨ρ,h,ι,at',(step at' p).mono fun v H1 Z=>Z.g fun w Z=>Z.g fun h1 Z=>Z.g fun ι1 Z=>Z.g fun at1 Z=>Z.g fun e1 Z=>Z.g fun r1 p1=>?_⟩;cases r1 with
 | @ref i hi=>
  cases ei:h1[i]? with
  |none=>simp only[Tw.field,ei] at p1;exact p1.elim
  |some ob=>
   cases ob with
   |ins c fs=>
    simp only[Tw.field,ei] at p1;obtain⟨C,dx,gs,⟨_,gc⟩,q1,q2⟩:=at1.hr.ins ei;rcases q2.look (x:=x) with ⟨z,_⟩|⟨u,v,z1,z2,z3⟩
    .rw[z] at p1;exact p1.elim
    .rw[z1] at p1;exact⟨_,C,dx,gs,v,rfl,q1,gc.cls,gc.no _ hx,z2,ai.self (a:=u) p1 at1.hr z3⟩
   |_=>simp only[Tw.field,ei] at p1;exact p1.elim
 |_=>exact p1.elim
theorem MI{x:Tw.S}(hx:(⟨x.toArray⟩:Str)∈Ai)(hv:PE X b (tE (zx X E) dv))(ho:PE X o (tE (zx X E) da))(hs:swapsWith b (some (.Attribute o ⟨x.toArray⟩ pos')) pos.line X.env=pure false):
  PS X (.Assign [.Attribute o ⟨x.toArray⟩ pos'] b pos) (dq (zx X E) fun ρ h=>(dv ρ h).bind fun v h=>(da ρ h).bind fun w h=>(Tw.putField w x v h).bind fun _ h=>.ok (.next ρ) h):=by
 refine PS.imp (NT ho hv hs) fun D σ H Z=>Z.g fun ρ Z=>Z.g fun h Z=>Z.g fun ι Z=>Z.g fun at' p=>⟨ρ,h,ι,at',(ik at' p).mono fun y H1 Z=>Z.g fun wy Z=>Z.g fun h1 Z=>Z.g fun ι1 Z=>Z.g fun at1 Z=>Z.g fun e1 Z=>Z.g fun r1 p1=>⟨ρ,h1,ι1,at1,(ik at1 p1).mono fun z H2 Z=>Z.g fun w Z=>Z.g fun h2 Z=>Z.g fun ι2 Z=>Z.g fun at2 Z=>Z.g fun e2 Z=>Z.g fun r2 p2=>?_⟩⟩;cases r2 with
 | @ref i hi=>
  cases ei:h2[i]? with
  |none=>simp only[Tw.putField,ei] at p2;exact p2.elim
  |some ob=>
   cases ob with
   |ins c fs=>
    simp only[Tw.putField,ei] at p2;obtain⟨C,dx,gs,⟨mc,gc⟩,q1,q2⟩:=at2.hr.ins ei;by_cases cc:fs.length<1000
    .rw[if_pos cc] at p2;refine⟨_,C,dx,gs,rfl,q1,gc.cls,gc.no _ hx,by rw[<-q2.length];exact cc,?_⟩;have ry:=r1.keep (e2.keeps at1.hr);obtain⟨hr',ex⟩:=at2.hr.put (o:=.ins C dx (dU ⟨x.toArray⟩ y gs)) (u:=.ins c (Tw.fX x wy fs)) ei rfl rfl (fun _ z=>nomatch z) fun H' kp z=>⟨C,dx,_,⟨mc,gc⟩,z,((q2.keep kp).put (ry.keep kp))⟩;exact p2 ι2 _ σ ex (at2.later ex hr')
    .rw[if_neg cc] at p2;exact p2.elim
   |_=>simp only[Tw.putField,ei] at p2;exact p2.elim
 |_=>exact p2.elim
theorem zC{F:List Tw.W->Tw.Hp->Tw.R Tw.W}(hm:X.mg ⟨cn.toArray⟩=some (.ref C))(gc:GoodC X.K C){ι1:Nat->Addr}(r:HR (zx X E) ι1 h1 H1)(rs:aT X.K ι1 h1.length H1 ws vs)
  (p:ai (zx X E) RE ι1 h1 H1 ((F (.ref h1.length::ws) (h1++[.ins cn []])).bind fun r h'=>match r with
   |.aq=>.ok (.ref h1.length) h'
   |_=>.bad) Q) (x dx:Addr) (hx:H1 x=none) (hdx:H1 dx=none) (ne:dx≠x):
  iz X.K X.mg F (.ref x::(vs++[])) (upd (upd H1 dx (.own x)) x (.ins C dx [])) (fun v H2=>v=.aq/\Q (.ref x) H2) E:=by
 obtain⟨r2,x2⟩:=r.grow (o:=.own x) hdx;have hx2:upd H1 dx (.own x) x=none:=by rw[az ne.symm];exact hx
 obtain⟨r3,x3⟩:=r2.new (o:=.ins C dx []) (u:=.ins cn []) hx2 rfl fun ι' n' H' kp z=>⟨C,dx,[],⟨hm,gc⟩,z,.nil⟩;have x23:=x2.trans x3;have p':=ai.later p x23;refine⟨.ref h1.length::ws,_,_,r3,.cons ?_ (by rw[jf];exact rs.keep (x23.keeps r)),?_⟩
 .have z:RW X.K (fR ι1 h1.length x) (h1++[Tw.O.ins cn []]).length (upd (upd H1 dx (.own x)) x (.ins C dx [])) (.ref h1.length) (.ref (fR ι1 h1.length x h1.length)):=.ref (by simp);rw[cY] at z;exact z
 .cases e:F (.ref h1.length::ws) (h1++[.ins cn []]) with
  |bad=>rw[e] at p';exact p'.elim
  |au a h'=>rw[e] at p';exact p'
  |ok u h2=>
   rw[e] at p';simp only[Tw.R.ak] at p';cases u with
   |aq=>
    intro ι4 H4 b e4 r4 rb;cases rb;refine⟨rfl,?_⟩;have hl:h1.length<(h1++[Tw.O.ins cn []]).length:=by simp
    have z:RW X.K ι4 h2.length H4 (.ref h1.length) (.ref (ι4 h1.length)):=.ref (cU hl e4.len);rw[e4.same _ hl,cY] at z;exact p' ι4 H4 _ e4 r4 z
   |_=>exact p'.elim
theorem SR{F:List Tw.W->Tw.Hp->Tw.R Tw.W}{ds:Tw.Env->Tw.Hp->Tw.R (List Tw.W)}(M:Mk X.K C g)(gc:GoodC X.K C)
  (G:cv X.prog X.w X.K X.mg X.base CX k g fd ps (iz X.K X.mg F)) (hx:Passes CX X E) (hr:bZ (k+1) X.A) (hg:Gl X ⟨cn.toArray⟩) (hm:X.mg ⟨cn.toArray⟩=some (.ref C)) (hb:Binds X.K fd ps [])
  (hs:PA X es (tA (zx X E) n ds)) (hd:((⟨cn.toArray⟩:Str)== ("__debug__" : Str))=false) (hpl:es.all aI=true):
  PE X (.Call (.Name ⟨cn.toArray⟩ p) es [] pos) (tE (zx X E) fun ρ h=>(ds ρ h).bind fun xs h=>(F (.ref h.length::xs) (h++[.ins cn []])).bind fun r h'=>match r with
   |.aq=>.ok (.ref h.length) h'
   |_=>.bad):=by
 cases es with
 |nil=>
  intro pins s σ H Q I ⟨ρ,h,ι,at',p⟩;have z:=hs ⟨0,0,0,0⟩ pins s σ H (fun vs H1=>∀x dx,H1 x=none->H1 dx=none->dx≠x->iz X.K X.mg F (.ref x::(vs++[])) (upd (upd H1 dx (.own x)) x (.ins C dx [])) (fun v H2=>v=.aq/\Q (.ref x) H2) E) I
   ⟨ρ,h,ι,at',(step at' p).mono fun xs H1 ⟨ws,h1,ι1,at1,e1,r1,p1⟩ x dx q1 q2 q3=>zC hm gc at1.hr r1.1 p1 x dx q1 q2 q3⟩
  refine oJ (gE I hg hm ?_ hd);refine W.callWith_K0 I.bE M.kp ?_;have z:wpAny (model X.prog X.w) X.A (pure []) _ _ s:=z;refine pj (v:=[]) z fun Z=>Z.g fun vs Z=>Z.g fun H1 Z=>Z.g fun I1 Z=>Z.g fun r1 q=>?_;cases r1;exact wZ (us:=[]) M G hr hb .nil hx I1 .nil q
 |cons e es=>
  refine PE.imp (Kl (dvs:=[]) (ds:=[]) (E:=E) M G hr hg hm hb .nil hx hs hd (bf (by rw[fL,aB] at hpl;exact hpl.1)) ?_) fun σ H Q Z=>Z.g fun ρ Z=>Z.g fun h Z=>Z.g fun ι Z=>Z.g fun at' p=>⟨ρ,h,ι,at',(step at' p).mono fun xs H1 ⟨ws,h1,ι1,at1,e1,r1,p1⟩ x dx q1 q2 q3=>zC hm gc at1.hr r1.1 p1 x dx q1 q2 q3⟩;rw[fk (by rw[fL,aB] at hpl;exact hpl.2)];simp[backTo]
theorem pB(hb:attributeBase o m env (eval o env)=eval o env)
  (hf:methodCallForm (es.length+([]:List Keyword).length) (backTo pos (starEach es env)) (backToKw pos (keywordEach [] env))=true) (hl:(apos.endLine== pos.line)=true):
  eval (.Call (.Attribute o m apos) es [] pos) env=(do
   let ov <-eval o env
   standAt apos.atName
   let (f,first) <-holding [ov] (getMethod ov m (do return (<-importBound o env).getD true))
   callWith pos f first (backTo pos (starEach es env)) (backToKw pos (keywordEach [] env))):=by
 rw[arm_eval_Call,hb];unfold methodCall calleeOf methodCallPos;rw[hf,hl];rfl
theorem PJ{CX:iH}{k n:Nat}{C g:Addr}{fd:FuncData}{ps:List Str}{F:List Tw.W->Tw.Hp->Tw.R Tw.W}{cn m:Tw.S}{es:List Expr}{ds:Tw.Env->Tw.Hp->Tw.R (List Tw.W)}(hme:Meth X.K C ⟨m.toArray⟩ g)
  (G:cv X.prog X.w X.K X.mg X.base CX k g fd ps (iz X.K X.mg F)) (hx:Passes CX X E) (hr:bZ k X.A) (hm:X.mg ⟨cn.toArray⟩=some (.ref C)) (gc:GoodC X.K C) (hb:Binds X.K fd ps [])
  (ho:PE X o (tE (zx X E) da)) (hs:PA X es (tA (zx X E) n ds)) (me:Me X o ⟨m.toArray⟩ apos es cpos) (hpl:es.all aI=true):
  PE X (.Call (.Attribute o ⟨m.toArray⟩ apos) es [] cpos) (tE (zx X E) fun ρ h=>(da ρ h).bind fun x h=>if Tw.eW x cn m h then (ds ρ h).bind fun xs h=>F (x::xs) h else .bad):=by
 have fin:∀σ H Q,tE (zx X E) (fun ρ h=>(da ρ h).bind fun x h=>if Tw.eW x cn m h then (ds ρ h).bind fun xs h=>F (x::xs) h else .bad) σ H Q->AL C ⟨m.toArray⟩ (iz X.K X.mg F) [] E (tE (zx X E) da) (tA (zx X E) n ds) σ H Q:=fun σ H Q Z=>Z.g fun ρ Z=>Z.g fun h Z=>Z.g fun ι Z=>Z.g fun at' p=>by
  refine⟨ρ,h,ι,at',(step at' p).mono fun x H1 Z=>Z.g fun w Z=>Z.g fun h1 Z=>Z.g fun ι1 Z=>Z.g fun at1 Z=>Z.g fun e1 Z=>Z.g fun r1 p1=>?_⟩;obtain⟨c1,pp⟩:=ai.ite p1;clear p1;cases r1 with
  | @ref i hi=>
   cases ei:h1[i]? with
   |none=>simp[Tw.eW,ei] at c1
   |some ob=>
    cases ob with
    |ins c' fs=>
     simp only[Tw.eW,ei,aB,aN] at c1;obtain⟨rfl,c2⟩:=c1;obtain⟨C',dx,gs,⟨mc,gc'⟩,q1,q2⟩:=at1.hr.ins ei;have ec:C'=C:=by have mc:X.mg ⟨c'.toArray⟩=some (.ref C'):=mc;rw[hm] at mc;cases mc;rfl
     subst ec;refine⟨_,dx,gs,rfl,q1,?_,ρ,h1,ι1,at1,(step at1 pp).mono fun xs H2 Z=>Z.g fun ws Z=>Z.g fun h2 Z=>Z.g fun ι2 Z=>Z.g fun at2 Z=>Z.g fun e2 Z=>Z.g fun r2 p2=>?_⟩
     .rcases q2.look (x:=m) with ⟨_,z⟩|⟨u,v,z,_⟩
      .exact z
      .rw[z] at c2;cases c2
     .rw[jf];exact⟨_,h2,ι2,at2.hr,.cons ((RW.ref hi).keep (e2.keeps at1.hr)) r2.1,p2⟩
    |_=>simp[Tw.eW,ei] at c1
  |_=>cases c1
 have ht:=pB (apos:=apos) (pos:=cpos) me.base me.m8 me.line;cases es with
 |nil=>
  intro pins s σ H Q I h;have q:=fin σ H Q h;refine wu (aF (ho pins s σ H _ I q) fun u s1 Z=>Z.g fun x Z=>Z.g fun H1 Z=>Z.g fun I1 Z=>Z.g fun rx Z=>Z.g fun a Z=>Z.g fun dx Z=>Z.g fun fs Z=>Z.g fun ex Z=>Z.g fun ea Z=>Z.g fun l q=>?_) ht;subst ex;obtain rfl:u=Value.ref a:=rx;refine n6 I1 ea gc.cls hme l ?_;have z:wpAny (model X.prog X.w) X.A (pure []) _ _ s1:=hs ⟨0,0,0,0⟩ pins s1 σ H1 _ I1 q;refine pj (v:=[]) z fun Z=>Z.g fun vs Z=>Z.g fun H2 Z=>Z.g fun I2 Z=>Z.g fun r2 q2=>?_;cases r2;exact W.callWith_K0 (first:=[.ref a]) I2.bE hme.kp (pe (us:=[.ref a]) (vs:=[.ref a]) G hr hb .nil hx I2 (.cons rfl .nil) q2)
 |cons e es=>
  refine PE.imp (Kh (dvs:=[]) (ds:=[]) (E:=E) ho gc.cls hme G hr hb .nil hx hs (bf (by rw[fL,aB] at hpl;exact hpl.1)) ?_ ht) fin;rw[fk (by rw[fL,aB] at hpl;exact hpl.2)];simp[backTo]
end
noncomputable abbrev ay{α:Type}{p:α->Bool}{x:Option α}(e:x.any p=true):∃a,x=some a/\p a=true:=W.any_some e
theorem bI{α:Type}{l:List α}(h:l.isEmpty=true):l=[]:=List.isEmpty_iff.mp h
theorem pL{α:Type}{l:List α}(h:l.isEmpty=false):∃x r,l=x::r:=by
 cases l with
 |nil=>cases h
 |cons x r=>exact⟨x,r,rfl⟩
theorem dv{c:Prop}[Decidable c]{α:Type}{f:c->Option α}{r:α}(h:(if h:c then f h else none)=some r):∃hc,f hc=some r:=by
 by_cases hc:c
 .rw[dif_pos hc] at h;exact⟨hc,h⟩
 .rw[dif_neg hc] at h;cases h
noncomputable def zN(e:Expr)(h:e.ctorIdx=23):Option (Str):=Expr.Name.elim (motive_1:=fun _=>Option (Str)) e h fun x p=>some x
def bB(e:Expr):Option (Str):=if h:e.ctorIdx=23 then zN e h else none
theorem aL{e:Expr}{r:Str}(h:bB e=some r):∃p,e=.Name r p:=
 let ⟨c,h⟩:=dv h
 Expr.Name.elim (motive_1:=fun e=>∀c,zN e c=some r->∃p,e=.Name r p) e c (fun x p _ h=>by cases h;exact⟨p,rfl⟩) c h
noncomputable def xX(e:Expr)(h:e.ctorIdx=19):Option (Const):=Expr.Constant.elim (motive_1:=fun _=>Option (Const)) e h fun x k p=>some x
def nq(e:Expr):Option (Const):=if h:e.ctorIdx=19 then xX e h else none
theorem mK{e:Expr}{r:Const}(h:nq e=some r):∃k p,e=.Constant r k p:=
 let ⟨c,h⟩:=dv h
 Expr.Constant.elim (motive_1:=fun e=>∀c,xX e c=some r->∃k p,e=.Constant r k p) e c (fun x k p _ h=>by cases h;exact⟨k,p,rfl⟩) c h
noncomputable def D5(e:Expr)(h:e.ctorIdx=25):Option (List Expr):=Expr.Tuple.elim (motive_1:=fun _=>Option (List Expr)) e h fun x k p=>some x
def n9(e:Expr):Option (List Expr):=if h:e.ctorIdx=25 then D5 e h else none
theorem iK{e:Expr}{r:List Expr}(h:n9 e=some r):∃k p,e=.Tuple r k p:=
 let ⟨c,h⟩:=dv h
 Expr.Tuple.elim (motive_1:=fun e=>∀c,D5 e c=some r->∃k p,e=.Tuple r k p) e c (fun x k p _ h=>by cases h;exact⟨k,p,rfl⟩) c h
noncomputable def CI(e:Expr)(h:e.ctorIdx=24):Option (List Expr):=Expr.List.elim (motive_1:=fun _=>Option (List Expr)) e h fun x p=>some x
def Iu(e:Expr):Option (List Expr):=if h:e.ctorIdx=24 then CI e h else none
theorem DF{e:Expr}{r:List Expr}(h:Iu e=some r):∃p,e=.List r p:=
 let ⟨c,h⟩:=dv h
 Expr.List.elim (motive_1:=fun e=>∀c,CI e c=some r->∃p,e=.List r p) e c (fun x p _ h=>by cases h;exact⟨p,rfl⟩) c h
noncomputable def zu(e:Expr)(h:e.ctorIdx=6):Option (List (Option Expr)×List Expr):=Expr.Dict.elim (motive_1:=fun _=>Option (List (Option Expr)×List Expr)) e h fun ks vs p=>some (ks,vs)
def Dx(e:Expr):Option (List (Option Expr)×List Expr):=if h:e.ctorIdx=6 then zu e h else none
theorem BK{e:Expr}{r:List (Option Expr)×List Expr}(h:Dx e=some r):∃p,e=.Dict r.1 r.2 p:=
 let ⟨c,h⟩:=dv h
 Expr.Dict.elim (motive_1:=fun e=>∀c,zu e c=some r->∃p,e=.Dict r.1 r.2 p) e c (fun ks vs p _ h=>by cases h;exact⟨p,rfl⟩) c h
noncomputable def D8(e:Expr)(h:e.ctorIdx=2):Option (Expr×Operator×Expr):=Expr.BinOp.elim (motive_1:=fun _=>Option (Expr×Operator×Expr)) e h fun x o y p=>some (x,o,y)
def HZ(e:Expr):Option (Expr×Operator×Expr):=if h:e.ctorIdx=2 then D8 e h else none
theorem Ed{e:Expr}{r:Expr×Operator×Expr}(h:HZ e=some r):∃p,e=.BinOp r.1 r.2.1 r.2.2 p:=
 let ⟨c,h⟩:=dv h
 Expr.BinOp.elim (motive_1:=fun e=>∀c,D8 e c=some r->∃p,e=.BinOp r.1 r.2.1 r.2.2 p) e c (fun x o y p _ h=>by cases h;exact⟨p,rfl⟩) c h
noncomputable def D2(e:Expr)(h:e.ctorIdx=15):Option (Expr×List CmpOp×List Expr):=Expr.Compare.elim (motive_1:=fun _=>Option (Expr×List CmpOp×List Expr)) e h fun x os ys p=>some (x,os,ys)
def BH(e:Expr):Option (Expr×List CmpOp×List Expr):=if h:e.ctorIdx=15 then D2 e h else none
theorem vU{e:Expr}{r:Expr×List CmpOp×List Expr}(h:BH e=some r):∃p,e=.Compare r.1 r.2.1 r.2.2 p:=
 let ⟨c,h⟩:=dv h
 Expr.Compare.elim (motive_1:=fun e=>∀c,D2 e c=some r->∃p,e=.Compare r.1 r.2.1 r.2.2 p) e c (fun x os ys p _ h=>by cases h;exact⟨p,rfl⟩) c h
noncomputable def zI(e:Expr)(h:e.ctorIdx=0):Option (BoolOp×List Expr×Pos):=Expr.BoolOp.elim (motive_1:=fun _=>Option (BoolOp×List Expr×Pos)) e h fun o xs p=>some (o,xs,p)
def wV(e:Expr):Option (BoolOp×List Expr×Pos):=if h:e.ctorIdx=0 then zI e h else none
theorem t8{e:Expr}{r:BoolOp×List Expr×Pos}(h:wV e=some r):e=.BoolOp r.1 r.2.1 r.2.2:=
 let ⟨c,h⟩:=dv h
 Expr.BoolOp.elim (motive_1:=fun e=>∀c,zI e c=some r->e=.BoolOp r.1 r.2.1 r.2.2) e c (fun o xs p _ h=>by cases h;exact rfl) c h
noncomputable def Jc(e:Expr)(h:e.ctorIdx=3):Option (UnaryOp×Expr):=Expr.UnaryOp.elim (motive_1:=fun _=>Option (UnaryOp×Expr)) e h fun o x p=>some (o,x)
def Ox(e:Expr):Option (UnaryOp×Expr):=if h:e.ctorIdx=3 then Jc e h else none
theorem FA{e:Expr}{r:UnaryOp×Expr}(h:Ox e=some r):∃p,e=.UnaryOp r.1 r.2 p:=
 let ⟨c,h⟩:=dv h
 Expr.UnaryOp.elim (motive_1:=fun e=>∀c,Jc e c=some r->∃p,e=.UnaryOp r.1 r.2 p) e c (fun o x p _ h=>by cases h;exact⟨p,rfl⟩) c h
noncomputable def II(e:Expr)(h:e.ctorIdx=5):Option (Expr×Expr×Expr):=Expr.IfExp.elim (motive_1:=fun _=>Option (Expr×Expr×Expr)) e h fun z x y p=>some (z,x,y)
def L8(e:Expr):Option (Expr×Expr×Expr):=if h:e.ctorIdx=5 then II e h else none
theorem GD{e:Expr}{r:Expr×Expr×Expr}(h:L8 e=some r):∃p,e=.IfExp r.1 r.2.1 r.2.2 p:=
 let ⟨c,h⟩:=dv h
 Expr.IfExp.elim (motive_1:=fun e=>∀c,II e c=some r->∃p,e=.IfExp r.1 r.2.1 r.2.2 p) e c (fun z x y p _ h=>by cases h;exact⟨p,rfl⟩) c h
noncomputable def Eb(e:Expr)(h:e.ctorIdx=21):Option (Expr×Expr):=Expr.Subscript.elim (motive_1:=fun _=>Option (Expr×Expr)) e h fun x y p=>some (x,y)
def nS(e:Expr):Option (Expr×Expr):=if h:e.ctorIdx=21 then Eb e h else none
theorem mH{e:Expr}{r:Expr×Expr}(h:nS e=some r):∃p,e=.Subscript r.1 r.2 p:=
 let ⟨c,h⟩:=dv h
 Expr.Subscript.elim (motive_1:=fun e=>∀c,Eb e c=some r->∃p,e=.Subscript r.1 r.2 p) e c (fun x y p _ h=>by cases h;exact⟨p,rfl⟩) c h
noncomputable def EI(e:Expr)(h:e.ctorIdx=26):Option (Option Expr×Option Expr×Option Expr):=Expr.Slice.elim (motive_1:=fun _=>Option (Option Expr×Option Expr×Option Expr)) e h fun l u s p=>some (l,u,s)
def Iy(e:Expr):Option (Option Expr×Option Expr×Option Expr):=if h:e.ctorIdx=26 then EI e h else none
theorem C6{e:Expr}{r:Option Expr×Option Expr×Option Expr}(h:Iy e=some r):∃p,e=.Slice r.1 r.2.1 r.2.2 p:=
 let ⟨c,h⟩:=dv h
 Expr.Slice.elim (motive_1:=fun e=>∀c,EI e c=some r->∃p,e=.Slice r.1 r.2.1 r.2.2 p) e c (fun l u s p _ h=>by cases h;exact⟨p,rfl⟩) c h
noncomputable def zO(e:Expr)(h:e.ctorIdx=16):Option (Expr×List Expr×List Keyword×Pos):=Expr.Call.elim (motive_1:=fun _=>Option (Expr×List Expr×List Keyword×Pos)) e h fun f as ks p=>some (f,as,ks,p)
def sV(e:Expr):Option (Expr×List Expr×List Keyword×Pos):=if h:e.ctorIdx=16 then zO e h else none
theorem oA{e:Expr}{r:Expr×List Expr×List Keyword×Pos}(h:sV e=some r):e=.Call r.1 r.2.1 r.2.2.1 r.2.2.2:=
 let ⟨c,h⟩:=dv h
 Expr.Call.elim (motive_1:=fun e=>∀c,zO e c=some r->e=.Call r.1 r.2.1 r.2.2.1 r.2.2.2) e c (fun f as ks p _ h=>by cases h;exact rfl) c h
noncomputable def zZ(e:Expr)(h:e.ctorIdx=20):Option (Expr×Str×Pos):=Expr.Attribute.elim (motive_1:=fun _=>Option (Expr×Str×Pos)) e h fun v x p=>some (v,x,p)
def lA(e:Expr):Option (Expr×Str×Pos):=if h:e.ctorIdx=20 then zZ e h else none
theorem iR{e:Expr}{r:Expr×Str×Pos}(h:lA e=some r):e=.Attribute r.1 r.2.1 r.2.2:=
 let ⟨c,h⟩:=dv h
 Expr.Attribute.elim (motive_1:=fun e=>∀c,zZ e c=some r->e=.Attribute r.1 r.2.1 r.2.2) e c (fun v x p _ h=>by cases h;exact rfl) c h
noncomputable def zz(e:Expr)(h:e.ctorIdx=8):Option (Expr×List Comprehension×Scope×Pos):=Expr.ListComp.elim (motive_1:=fun _=>Option (Expr×List Comprehension×Scope×Pos)) e h fun y g scope p=>some (y,g,scope,p)
def sI(e:Expr):Option (Expr×List Comprehension×Scope×Pos):=if h:e.ctorIdx=8 then zz e h else none
theorem kl{e:Expr}{r:Expr×List Comprehension×Scope×Pos}(h:sI e=some r):e=.ListComp r.1 r.2.1 r.2.2.1 r.2.2.2:=
 let ⟨c,h⟩:=dv h
 Expr.ListComp.elim (motive_1:=fun e=>∀c,zz e c=some r->e=.ListComp r.1 r.2.1 r.2.2.1 r.2.2.2) e c (fun y g scope p _ h=>by cases h;exact rfl) c h
noncomputable def v3:BoolOp->Bool
 |.And=>true
 |.Or=>false
noncomputable def Io:UnaryOp->Bool
 |.Not=>true
 |_=>false
theorem De{o:UnaryOp}(h:Io o=true):o=.Not:=by cases o<;>first|rfl|cases h
def fN{α:Type}:List α->Option α
 |[x]=>some x
 |_=>none
theorem cZ{α:Type}{l:List α}{x:α}(h:fN l=some x):l=[x]:=by rcases l with _|⟨a,_|⟨b,r⟩⟩<;>first|(cases h;rfl)|cases h
def rW{α:Type}:List α->Option (α×α)
 |[x,y]=>some (x,y)
 |_=>none
theorem iG{α:Type}{l:List α}{r:α×α}(h:rW l=some r):l=[r.1,r.2]:=by rcases l with _|⟨a,_|⟨b,_|⟨c,q⟩⟩⟩<;>first|(cases h;rfl)|cases h
def nC{α:Type}:List α->Option (α×List α)
 |x::r=>some (x,r)
 |[]=>none
theorem dQ{α:Type}{l:List α}{r:α×List α}(h:nC l=some r):l=r.1::r.2:=by cases l<;>first|(cases h;rfl)|cases h
def mS(e:Expr):Option (Str×List Expr):=(sV e).bind fun r=>if r.2.2.1.isEmpty then (bB r.1).map fun x=>(x,r.2.1) else none
theorem fq{e:Expr}{r:Str×List Expr}(h:mS e=some r):∃p q,e=.Call (.Name r.1 p) r.2 [] q:=by
 obtain⟨⟨f,as,ks,q⟩,e1,e2⟩:=dy.mp h;have z:=oA e1;dsimp only at e2 z;cases ks with
 |cons _ _=>cases e2
 |nil=>
  obtain⟨x,e3,rfl⟩:=iQ.mp e2;obtain⟨p,rfl⟩:=aL e3;exact⟨p,q,z⟩
def yP(e:Expr):Option (Expr×Str×Pos×List Expr×Pos):=(sV e).bind fun r=>if r.2.2.1.isEmpty then (lA r.1).map fun a=>(a.1,a.2.1,a.2.2,r.2.1,r.2.2.2) else none
theorem jy{e:Expr}{r:Expr×Str×Pos×List Expr×Pos}(h:yP e=some r):e=.Call (.Attribute r.1 r.2.1 r.2.2.1) r.2.2.2.1 [] r.2.2.2.2:=by
 obtain⟨⟨f,as,ks,q⟩,e1,e2⟩:=dy.mp h;have z:=oA e1;dsimp only at e2 z;cases ks with
 |cons _ _=>cases e2
 |nil=>
  obtain⟨a,e3,rfl⟩:=iQ.mp e2;rw[iR e3] at z;exact z
noncomputable def wz(g:List Comprehension):Option (Expr×Expr×List Expr):=(fN g).bind fun c=>match c with
 |⟨t,it,ifs,n⟩=>if n=0 then some (t,it,ifs) else none
theorem mB{g:List Comprehension}{r:Expr×Expr×List Expr}(h:wz g=some r):g=[⟨r.1,r.2.1,r.2.2,0⟩]:=by
 obtain⟨⟨t,it,ifs,n⟩,e1,e2⟩:=dy.mp h;rw[cZ e1];dsimp only at e2;by_cases c:n=0
 .rw[if_pos c] at e2;cases e2;rw[c]
 .rw[if_neg c] at e2;cases e2
noncomputable def Ek(e:Stmt)(h:e.ctorIdx=24):Option (Expr):=Stmt.Expr.elim (motive_2:=fun _=>Option (Expr)) e h fun x p=>some x
def v9(e:Stmt):Option (Expr):=if h:e.ctorIdx=24 then Ek e h else none
theorem pF{e:Stmt}{r:Expr}(h:v9 e=some r):∃p,e=.Expr r p:=
 let ⟨c,h⟩:=dv h
 Stmt.Expr.elim (motive_2:=fun e=>∀c,Ek e c=some r->∃p,e=.Expr r p) e c (fun x p _ h=>by cases h;exact⟨p,rfl⟩) c h
noncomputable def HQ(e:Stmt)(h:e.ctorIdx=3):Option (Option Expr):=Stmt.Return.elim (motive_2:=fun _=>Option (Option Expr)) e h fun x p=>some x
def rQ(e:Stmt):Option (Option Expr):=if h:e.ctorIdx=3 then HQ e h else none
theorem jz{e:Stmt}{r:Option Expr}(h:rQ e=some r):∃p,e=.Return r p:=
 let ⟨c,h⟩:=dv h
 Stmt.Return.elim (motive_2:=fun e=>∀c,HQ e c=some r->∃p,e=.Return r p) e c (fun x p _ h=>by cases h;exact⟨p,rfl⟩) c h
noncomputable def IL(e:Stmt)(h:e.ctorIdx=5):Option (List Expr×Expr×Pos):=Stmt.Assign.elim (motive_2:=fun _=>Option (List Expr×Expr×Pos)) e h fun ts v p=>some (ts,v,p)
def Fu(e:Stmt):Option (List Expr×Expr×Pos):=if h:e.ctorIdx=5 then IL e h else none
theorem ya{e:Stmt}{r:List Expr×Expr×Pos}(h:Fu e=some r):e=.Assign r.1 r.2.1 r.2.2:=
 let ⟨c,h⟩:=dv h
 Stmt.Assign.elim (motive_2:=fun e=>∀c,IL e c=some r->e=.Assign r.1 r.2.1 r.2.2) e c (fun ts v p _ h=>by cases h;exact rfl) c h
noncomputable def K0(e:Stmt)(h:e.ctorIdx=12):Option (Expr×List Stmt×List Stmt):=Stmt.If.elim (motive_2:=fun _=>Option (Expr×List Stmt×List Stmt)) e h fun x ys zs p=>some (x,ys,zs)
def sX(e:Stmt):Option (Expr×List Stmt×List Stmt):=if h:e.ctorIdx=12 then K0 e h else none
theorem zY{e:Stmt}{r:Expr×List Stmt×List Stmt}(h:sX e=some r):∃p,e=.If r.1 r.2.1 r.2.2 p:=
 let ⟨c,h⟩:=dv h
 Stmt.If.elim (motive_2:=fun e=>∀c,K0 e c=some r->∃p,e=.If r.1 r.2.1 r.2.2 p) e c (fun x ys zs p _ h=>by cases h;exact⟨p,rfl⟩) c h
noncomputable def IQ(e:Stmt)(h:e.ctorIdx=9):Option (Expr×Expr×List Stmt×List Stmt):=Stmt.For.elim (motive_2:=fun _=>Option (Expr×Expr×List Stmt×List Stmt)) e h fun t i ys zs p=>some (t,i,ys,zs)
def Nq(e:Stmt):Option (Expr×Expr×List Stmt×List Stmt):=if h:e.ctorIdx=9 then IQ e h else none
theorem Ge{e:Stmt}{r:Expr×Expr×List Stmt×List Stmt}(h:Nq e=some r):∃p,e=.For r.1 r.2.1 r.2.2.1 r.2.2.2 p:=
 let ⟨c,h⟩:=dv h
 Stmt.For.elim (motive_2:=fun e=>∀c,IQ e c=some r->∃p,e=.For r.1 r.2.1 r.2.2.1 r.2.2.2 p) e c (fun t i ys zs p _ h=>by cases h;exact⟨p,rfl⟩) c h
noncomputable def DZ(e:Stmt)(h:e.ctorIdx=25):Option (Unit):=Stmt.Pass.elim (motive_2:=fun _=>Option (Unit)) e h fun p=>some ()
def HK(e:Stmt):Option (Unit):=if h:e.ctorIdx=25 then DZ e h else none
theorem C5{e:Stmt}{r:Unit}(h:HK e=some r):∃p,e=.Pass p:=
 let ⟨c,h⟩:=dv h
 Stmt.Pass.elim (motive_2:=fun e=>∀c,DZ e c=some r->∃p,e=.Pass p) e c (fun p _ h=>by cases h;exact⟨p,rfl⟩) c h
noncomputable def Ik(e:Stmt)(h:e.ctorIdx=26):Option (Unit):=Stmt.Break.elim (motive_2:=fun _=>Option (Unit)) e h fun p=>some ()
def OB(e:Stmt):Option (Unit):=if h:e.ctorIdx=26 then Ik e h else none
theorem G7{e:Stmt}{r:Unit}(h:OB e=some r):∃p,e=.Break p:=
 let ⟨c,h⟩:=dv h
 Stmt.Break.elim (motive_2:=fun e=>∀c,Ik e c=some r->∃p,e=.Break p) e c (fun p _ h=>by cases h;exact⟨p,rfl⟩) c h
noncomputable def EC(e:Stmt)(h:e.ctorIdx=27):Option (Unit):=Stmt.Continue.elim (motive_2:=fun _=>Option (Unit)) e h fun p=>some ()
def HU(e:Stmt):Option (Unit):=if h:e.ctorIdx=27 then EC e h else none
theorem Dq{e:Stmt}{r:Unit}(h:HU e=some r):∃p,e=.Continue p:=
 let ⟨c,h⟩:=dv h
 Stmt.Continue.elim (motive_2:=fun e=>∀c,EC e c=some r->∃p,e=.Continue p) e c (fun p _ h=>by cases h;exact⟨p,rfl⟩) c h
noncomputable def HS(e:Stmt)(h:e.ctorIdx=11):Option (Expr×List Stmt×List Stmt):=Stmt.While.elim (motive_2:=fun _=>Option (Expr×List Stmt×List Stmt)) e h fun x ys zs p=>some (x,ys,zs)
def K9(e:Stmt):Option (Expr×List Stmt×List Stmt):=if h:e.ctorIdx=11 then HS e h else none
theorem GR{e:Stmt}{r:Expr×List Stmt×List Stmt}(h:K9 e=some r):∃p,e=.While r.1 r.2.1 r.2.2 p:=
 let ⟨c,h⟩:=dv h
 Stmt.While.elim (motive_2:=fun e=>∀c,HS e c=some r->∃p,e=.While r.1 r.2.1 r.2.2 p) e c (fun x ys zs p _ h=>by cases h;exact⟨p,rfl⟩) c h
noncomputable def An(e:Stmt)(h:e.ctorIdx=16):Option (Option Expr×Option Expr):=Stmt.Raise.elim (motive_2:=fun _=>Option (Option Expr×Option Expr)) e h fun x c p=>some (x,c)
def C8(e:Stmt):Option (Option Expr×Option Expr):=if h:e.ctorIdx=16 then An e h else none
theorem Bb{e:Stmt}{r:Option Expr×Option Expr}(h:C8 e=some r):∃p,e=.Raise r.1 r.2 p:=
 let ⟨c,h⟩:=dv h
 Stmt.Raise.elim (motive_2:=fun e=>∀c,An e c=some r->∃p,e=.Raise r.1 r.2 p) e c (fun x c p _ h=>by cases h;exact⟨p,rfl⟩) c h
noncomputable def Iw(e:Stmt)(h:e.ctorIdx=17):Option (List Stmt×List ExceptHandler×List Stmt×List Stmt):=Stmt.Try.elim (motive_2:=fun _=>Option (List Stmt×List ExceptHandler×List Stmt×List Stmt)) e h fun b hs o f p=>some (b,hs,o,f)
def MN(e:Stmt):Option (List Stmt×List ExceptHandler×List Stmt×List Stmt):=if h:e.ctorIdx=17 then Iw e h else none
theorem FX{e:Stmt}{r:List Stmt×List ExceptHandler×List Stmt×List Stmt}(h:MN e=some r):∃p,e=.Try r.1 r.2.1 r.2.2.1 r.2.2.2 p:=
 let ⟨c,h⟩:=dv h
 Stmt.Try.elim (motive_2:=fun e=>∀c,Iw e c=some r->∃p,e=.Try r.1 r.2.1 r.2.2.1 r.2.2.2 p) e c (fun b hs o f p _ h=>by cases h;exact⟨p,rfl⟩) c h
theorem yK:∀{gs:List (Str×V)},f∉gs.map (·.1)->dU f v gs=gs++[(f,v)]
 |[],_=>rfl
 |(k,x)::r,h=>by
  have h1:¬ k=f:=fun z=>h (by simp[z]);have h2:f∉r.map (·.1):=fun z=>h (by simp[z]);unfold dU;rw[if_neg h1,yK h2];rfl
def Dd(K:W.Frag):Nat->List Str->TS
 |_,[]=>Bs
 |j,p::ps=>Fi (tX K j p) (Dd K (j+1) ps)
theorem yB{K:W.Frag}{C e dx:Addr}{D:Ends}{σ:L2.St}(c:XC K C)(h0:σ[0]?=some (some (.ref e))):∀(ps:List Str)(us:List V)(j:Nat)(gs:List (Str×V))(H:L2.Hp),us.length=ps.length->(∀i u,us[i]?=some u->σ[j+i]?=some (some u))->(∀p∈ps,aZ K C p)->ps.Nodup->
  (∀p∈ps,p∉gs.map (·.1))->gs.length+ps.length<=1000->H e=some (gU C (some dx) e)->H dx=some (.xd gs)->dx≠e->D.nx σ (upd H dx (.xd (gs++ps.zip us)))->Dd K j ps D σ H
 |[],us,j,gs,H,hl,hs,hn,nd,ng,hz,he,hd,ne,q=>by
  show D.nx σ H;have:upd H dx (.xd (gs++([]:List Str).zip us))=H:=by
   funext b;unfold upd;by_cases z:b=dx
   .subst z;simp[hd]
   .simp[z]
  rw[this] at q;exact q
 |p::ps,[],j,gs,H,hl,_,_,_,_,_,_,_,_,_=>by cases hl
 |p::ps,u::us,j,gs,H,hl,hs,hn,nd,ng,hz,he,hd,ne,q=>by
  have np:=ng p (by simp);have nd':=oo.mp nd;refine⟨e,u,C,h0,by simpa using hs 0 u rfl,c,hn p (by simp),.inr ⟨dx,gs,he,hd,by simp at hz;omega,?_⟩⟩;rw[yK np];refine yB c h0 ps us (j+1) (gs++[(p,u)]) _ (by simpa using hl) (fun i v hv=>by rw[show j+1+i=j+(i+1) by omega];exact hs (i+1) v (by simpa using hv)) (fun p' hp=>hn p' (by simp[hp])) nd'.2 (fun p' hp=>?_) (by simp at hz⊢;omega) (by rw[az (bc ne)];exact he) aM ne ?_
  .have:=ng p' (by simp[hp]);simp only[List.map_append,sx,aX,eM,pS]
   rintro (z|z)
   .exact this z
   .subst z;exact nd'.1 hp
  .rw[qt];simpa using q
def nK(K:W.Frag)(fs:List Str):Sp:=fun vs H Q _=>∃e C us,vs=.ref e::us/\us.length=fs.length/\XC K C/\(∀f∈fs,aZ K C f)/\H e=some (gU C none e)/\∀dx,H dx=none->dx≠e->Q .aq (upd (upd H dx (.xd (fs.zip us))) e (gU C (some dx) e))
theorem nK.len{K:W.Frag}{sf:Str}{fs:List Str}:∀vs H Q E,nK K fs vs H Q E->vs.length=(sf::fs).length:=fun vs H Q E Z=>Z.g fun e Z=>Z.g fun C Z=>Z.g fun us Z=>Z.g fun h1 Z=>Z.g fun h2 _=>by subst h1;simp[h2]
noncomputable def okN(x:Str):Bool:=!(x== ("__debug__" : Str))&&!(x== ("__classdict__" : Str))
def K3(s:Stmt):Option (Str×Str×Str):=(Fu s).bind fun r=>(fN r.1).bind fun t=>(lA t).bind fun q=>(bB q.1).bind fun a=>(bB r.2.1).map fun y=>(a,q.2.1,y)
theorem Fs(h:K3 s=some r):∃p1 p2 p3 p4,s=.Assign [.Attribute (.Name r.1 p1) r.2.1 p2] (.Name r.2.2 p3) p4:=by obtain⟨⟨ts,v,p4⟩,e1,h⟩:=dy.mp h;obtain⟨t,e2,h⟩:=dy.mp h;obtain⟨⟨w,f,p2⟩,e3,h⟩:=dy.mp h;obtain⟨a,e4,h⟩:=dy.mp h;obtain⟨y,e5,rfl⟩:=iQ.mp h;obtain⟨p1,z1⟩:=aL e4;obtain⟨p3,z2⟩:=aL e5;have z3:=iR e3;have z4:=cZ e2;have z5:=ya e1;dsimp only at z1 z2 z3 z4 z5⊢;exact⟨p1,p2,p3,p4,by rw[z5,z4,z3,z1,z2]⟩
def qJ(sf:Str):List Str->List Stmt->Bool
 |[],ss=>ss.isEmpty
 |p::ps,ss=>(nC ss).any fun r=>(K3 r.1).any fun q=>decide (q.1=sf)&&decide (q.2.1=p)&&decide (q.2.2=p)&&okN p&&qJ sf ps r.2
theorem okN.d(h:okN x=true):(x== ("__debug__" : Str))=false/\(x== ("__classdict__" : Str))=false:=by unfold okN at h;simpa using h
section
variable {X:Cx}
theorem wI(h0:X.N[0]?=some sf)(v0:jP X.env.scope sf)(o0:okN sf=true):∀(ps:List Str)(ss:List Stmt)(j:Nat),qJ sf ps ss=true->(∀i p,ps[i]?=some p->X.N[j+i]?=some p)->(∀p∈ps,jP X.env.scope p)->ff X ss (Dd X.K j ps)
 |[],ss,j,h,_,_=>by
  unfold qJ at h;rw[bI h];exact Ax
 |p::ps,ss,j,h,hN,hv=>by
  unfold qJ at h;replace h:=ay h;obtain⟨⟨s,r⟩,e1,h⟩:=h;obtain rfl:=dQ e1;replace h:=ay h;obtain⟨⟨a,f,y⟩,e2,h⟩:=h;obtain⟨p1,p2,p3,p4,z⟩:=Fs e2;dsimp only at z h⊢;simp only[aB,aN] at h;obtain⟨⟨⟨⟨rfl,rfl⟩,rfl⟩,ho⟩,hr⟩:=h;rw[z];exact rX (TV h0 v0 (by simpa using hN 0 _ rfl) (hv _ (by simp)) (okN.d o0).1 (okN.d o0).2 (okN.d ho).1 (okN.d ho).2) (wI h0 v0 o0 ps r (j+1) hr (fun i q hq=>by rw[show j+1+i=j+(i+1) by omega];exact hN (i+1) q (by simpa using hq)) fun q hq=>hv q (by simp[hq]))
structure jS(K:W.Frag)(R f:Addr):Prop where
 ga:W.specialIn K (.ref R) "__getattribute__" = some (some (.builtin "type.__getattribute__"))
 rd:W.readsIn K R (.type "type")=true
 at_:W.findCls K (.ref R) (.type "type") "__init__" = some (.val (.ref f))
 kp:W.keepIn K (.ref f)=true
theorem Kx(B:jS X.K R f)(F:cv X.prog X.w X.K X.mg X.base CX k f fd ps sp)(hr:bZ k X.A)(hg:Gl X x)(hm:X.mg x=some (.ref R))(hb:Binds X.K fd ps [])(hx:Passes CX X E)(ha:PA X (e::es) t)
  (hdb:(x== ("__debug__" : Str))=false) (hst:starEach (e::es) X.env=(false,eval e X.env)::starEach es X.env) (hpl:(backTo pos (starEach es X.env)).any (·.1)=false)
  (ht:eval (.Call (.Attribute (.Name x p) "__init__" apos) (e::es) [] pos) X.env=(do
   let ov <-eval (.Name x p) X.env
   standAt apos.atName
   let (f,first) <-holding [ov] (getMethod ov "__init__" pl)
   callWith pos f first (backTo pos (starEach (e::es) X.env)) (backToKw pos (keywordEach [] X.env)))):
  PE X (.Call (.Attribute (.Name x p) "__init__" apos) (e::es) [] pos) (AS sp [] E t):=by
 intro pins s σ H Q I h;refine wu (pl:=pl) (gE I hg hm (W.method_cls I.bE B.ga (W.cls_value I.bE B.rd B.at_ rfl ?_)) hdb) ht;have I1:=I.tok (s.toks+1);refine mC (first:=[]) (h₀:=X.base) I.ok.mod.rq B.kp (aF (ha pos pins _ σ H _ I1 h) fun us s2 Z=>Z.g4 fun vs H2 I2 r q2=>⟨I2.bE,?_⟩) hst hpl;exact pe (us:=us) (vs:=vs) F hr hb .nil hx I2 r q2
end
def yR(d:Stmt)(N:List Str):Bool:=match N with
 |sf::p::ps=>decide ((ao d).kind=.function)&&!(ao d).isCoroutine&&!(ao d).isGenerator&&decide N.Nodup&&N.all (fun x=>decide ((ao d).names.lookup x=some .local))&&(ao d).names.all (fun y=>decide (y.2≠.free))&&N.all okN&&decide (ps.length<=100)&&qJ sf (p::ps) (cg d)
 |_=>false
section
variable {P:Program}{w:World}{K:W.Frag}{mg:Str->Option Value}{base:Heap}
theorem f7{N:List Str}{vs:List V}{i:Nat}{v:V}(h:vs[i]?=some v):(start N vs)[i]?=some (some v):=by unfold L2.start;have hi:i<vs.length:=(eK.mp h).1;rw[ja (by simpa using hi),oy,h];rfl
theorem xD{k:Nat}{x qual:Str}{st:Stmt}{f:Addr}{fd:FuncData}{sf p:Str}{ps:List Str}(F:t7 K x qual st f fd)(h:yR st (sf::p::ps)=true):cv P w K mg base (dP P w) (k+1) f fd (sf::p::ps) (nK K (p::ps)):=by
 unfold yR at h;simp only[aB,aN,mI,kS] at h;obtain⟨⟨⟨⟨⟨⟨⟨⟨h1,h2⟩,h3⟩,h4⟩,h5⟩,h6⟩,h7⟩,hz⟩,h8⟩:=h;have S:kE (sf::p::ps) (sf::p::ps) (ao st):=⟨h1,h2,h3,h4,List.take_length,fun y hy=>.inl (h5 y hy),h6⟩;obtain⟨oc,od,kV,doc,pm,an,cdv,ct,osl,rfl,lk,hcd⟩:=F.ex;refine Cz lk hcd S nK.len fun A outer s H vs Q E hr Z=>Z.g6 fun e C us e1 e2 c Z=>Z.g fun n Z=>Z.g fun he q=>⟨Dd K 1 (p::ps),?_,?_⟩
 .exact wI (X:=mO (dP P w) P w K mg base (sf::p::ps) qual (ao st) f cdv A outer s H E) rfl (.inl (h5 sf (by simp))) (h7 sf (by simp)) (p::ps) _ 1 h8 (fun i q hq=>by rw[show 1+i=i+1 by omega];exact hq) fun q hq=>.inl (h5 q (fK _ hq))
 .subst e1;cases us with
  |nil=>cases e2
  |cons u us=>
   have nd:=oo.mp (oo.mp h4).2;refine⟨e,u,C,f7 rfl,f7 rfl,c,n p (by simp),.inl ⟨he,fun dx z1 z2=>?_⟩⟩;refine yB (dx:=dx) c (f7 rfl) ps us 2 [(p,u)] _ (by simpa using e2) (fun i v hv=>f7 (by rw[show 2+i=i+2 by omega];simpa using hv)) (fun p' hp=>n p' (by simp[hp])) nd.2 (fun p' hp=>?_) (by simp;omega) aM (by rw[az z2,aM]) z2 ?_
   .simp;intro z;subst z;exact nd.1 hp
   .have:=q dx z1 z2;rw[CL z2];simpa using this
def Ms(s:Stmt):Option (Str×Str×Pos×Str×Str×Pos):=(v9 s).bind fun e=>(yP e).bind fun q=>(bB q.1).bind fun a=>(rW q.2.2.2.1).bind fun z=>(bB z.1).bind fun b=>(bB z.2).map fun c=>(a,q.2.1,q.2.2.1,b,c,q.2.2.2.2)
theorem Hw(h:Ms s=some r):∃p1 p2 p3 p4,s=.Expr (.Call (.Attribute (.Name r.1 p1) r.2.1 r.2.2.1) [.Name r.2.2.2.1 p2,.Name r.2.2.2.2.1 p3] [] r.2.2.2.2.2) p4:=by obtain⟨e,e1,h⟩:=dy.mp h;obtain⟨⟨v,m,ap,as,cp⟩,e2,h⟩:=dy.mp h;obtain⟨a,e3,h⟩:=dy.mp h;obtain⟨⟨x,y⟩,e4,h⟩:=dy.mp h;obtain⟨b,e5,h⟩:=dy.mp h;obtain⟨c,e6,rfl⟩:=iQ.mp h;obtain⟨p4,z1⟩:=pF e1;have z2:=jy e2;obtain⟨p1,z3⟩:=aL e3;have z4:=iG e4;obtain⟨p2,z5⟩:=aL e5;obtain⟨p3,z6⟩:=aL e6;dsimp only at z1 z2 z3 z4 z5 z6⊢;exact⟨p1,p2,p3,p4,by rw[z1,z2,z3,z4,z5,z6]⟩
def BZ(r:Str)(d:Stmt)(N:List Str):Bool:=match N with
 |sf::p::ps=>decide ((ao d).kind=.function)&&!(ao d).isCoroutine&&!(ao d).isGenerator&&decide N.Nodup&&N.all (fun x=>decide ((ao d).names.lookup x=some .local))&&(ao d).names.all (fun y=>decide (y.2≠.free))&&N.all okN&&decide (ps.length<=100)&&decide ((ao d).names.lookup r=some .globalImplicit)&&okN r&&
  ((nC (cg d)).any fun t=>(Ms t.1).any fun q=>decide (q.1=r)&&decide (q.2.1=("__init__" : Str))&&decide (q.2.2.2.1=sf)&&decide (q.2.2.2.2.1=p)&&(q.2.2.1.endLine== q.2.2.2.2.2.line)&&qJ sf ps t.2)
 |_=>false
theorem Hu{k:Nat}{x qual r:Str}{st:Stmt}{f g R:Addr}{fd fb:FuncData}{sf p sb pb:Str}{ps:List Str}(F:t7 K x qual st f fd)(h:BZ r st (sf::p::ps)=true)(hm:mg r=some (.ref R))(B:jS K R g)(G:cv P w K mg base (dP P w) k g fb [sb,pb] (nK K [p]))(hb:Binds K fb [sb,pb] []):
  cv P w K mg base (dP P w) (k+1) f fd (sf::p::ps) (nK K (p::ps)):=by
 unfold BZ at h;simp only[aB,aN,mI,kS] at h;obtain⟨⟨⟨⟨⟨⟨⟨⟨⟨⟨h1,h2⟩,h3⟩,h4⟩,h5⟩,h6⟩,h7⟩,hz⟩,hg⟩,hr0⟩,h8⟩:=h;have S:kE (sf::p::ps) (sf::p::ps) (ao st):=⟨h1,h2,h3,h4,List.take_length,fun y hy=>.inl (h5 y hy),h6⟩;obtain⟨oc,od,kV,doc,pm,an,cdv,ct,osl,rfl,lk,hcd⟩:=F.ex
 .replace h8:=ay h8;obtain⟨⟨s0,rest⟩,g1,h8⟩:=h8;replace h8:=ay h8;obtain⟨⟨a,m,ap,b,c,cp⟩,g2,h8⟩:=h8;obtain⟨p1,p2,p3,ep,g3⟩:=Hw g2;have hbody:=dQ g1;dsimp only at g3 hbody h8;rw[g3] at hbody;simp only[aB,aN] at h8;obtain⟨⟨⟨⟨⟨rfl,rfl⟩,rfl⟩,rfl⟩,hl⟩,h9⟩:=h8;refine Cz lk hcd S nK.len fun A outer s H vs Q E hr Z=>Z.g6 fun e C us e1 e2 c' Z=>Z.g fun n Z=>Z.g fun he q=>⟨Fi (IC (AS (nK K [c]) [] E (lR (wU 0) (lR (wU 1) uR)))) (Dd K 2 ps),?_,?_⟩
  .rw[hbody];have v0:jP (ao st) b:=.inl (h5 b (by simp));have v1:jP (ao st) c:=.inl (h5 c (by simp));have ha:PA (mO (dP P w) P w K mg base (b::c::ps) qual (ao st) f cdv A outer s H E) [.Name b p2,.Name c p3] (lR (wU 0) (lR (wU 1) uR)):=
    bA (jU rfl v0 (okN.d (h7 b (by simp))).1 (okN.d (h7 b (by simp))).2) (bA (jU rfl v1 (okN.d (h7 c (by simp))).1 (okN.d (h7 c (by simp))).2) cy rfl) rfl
   refine rX (Av (Kx B G hr hg hm hb (Ig rfl rfl rfl rfl) ha (okN.d hr0).1 rfl rfl (pB (apos:=ap) (pos:=cp) rfl rfl hl)) rfl) (wI (X:=mO (dP P w) P w K mg base (b::c::ps) qual (ao st) f cdv A outer s H E) rfl v0 (h7 b (by simp)) ps _ 2 h9 (fun i q hq=>by rw[show 2+i=i+2 by omega];exact hq) fun q hq=>.inl (h5 q (fK _ (fK _ hq))))
  .subst e1;cases us with
   |nil=>cases e2
   |cons u us=>
    have nd:=oo.mp (oo.mp h4).2;refine⟨.ref e,f7 rfl,u,f7 rfl,e,C,[u],rfl,rfl,c',fun f hf=>n f (by simp at hf;simp[hf]),he,fun dx z1 z2=>?_⟩;refine yB (dx:=dx) c' (f7 rfl) ps us 2 [(c,u)] _ (by simpa using e2) (fun i v hv=>f7 (by rw[show 2+i=i+2 by omega];simpa using hv)) (fun p' hp=>n p' (by simp[hp])) nd.2 (fun p' hp=>?_) (by simp;omega) aM (by rw[az z2,aM];rfl) z2 ?_
    .simp;intro z;subst z;exact nd.1 hp
    .have:=q dx z1 z2;rw[CL z2];simpa using this
end
section
variable {prog:Program}{w:World}{A:Around}{R:Result->Shared->Prop}{E:aJ}{h:Heap}{g:Array GenState}{d:Drawn}{t:Nat}{os:OsState}{M:Model}
variable {nm q:Str}{C N:Addr}{bs bm:List Value}{hdct:Bool}{sn:List Str}{sub:List Value}{ab:Bool}{col:Option Bool}{dd:Option Addr}{k0 k1 k2 k3 k5:Option Value}{Bn newId inN:String}{bmN:List Value}
structure jO(C:Addr)(bm:List Value)(Bn:String):Prop where
 b:(Value.ref C::bm).contains (.type Bn)=true
 e:(Value.ref C::bm).contains (.type "BaseException")=true
 a:(Value.ref C::bm).contains (.type "AttributeError")=false
 n:(Value.ref C::bm).contains (.type "NameError")=false
theorem Al{rest:List Value}{Q:Unit->Shared->Prop}(F:ExcBaseFacts Bn newId inN bmN)(m:jO C bm Bn)(hC:h.get? C=some (excClassObj nm q C N bs bm hdct sn sub ab col dd k0 k1 k2 k3 k5 newId))(hq:Q () ⟨h,g,d,t,os⟩):
  wpAny M A (checkBuiltinCall newId ⟨.ref C::rest,[]⟩) Q E ⟨h,g,d,t,os⟩:=by
 have z:=F.noStar;have c:=m.b;simp only[checkBuiltinCall,F.newKind,F.newSplit,F.newRow];repeat (first|refine ie hC ?_|(refine qy hC ?_;rw[c])|refine wpAny_staticBase_exc hC ?_|refine Bv hC ?_|simp only[bne_self_eq_false,x9,i7]|wp_step)
 exact hq
noncomputable abbrev fU(us:List Value):Obj:={cls:=.type "tuple",data:=.seq us.toArray}
noncomputable abbrev eh(C t:Addr):Obj:={cls:=.ref C,data:=.fields #[.ref t,.none,.none,.none,.bool false,.none]}
theorem Il{rest:List Value}(F:ExcBaseFacts Bn newId inN bmN)(m:jO C bm Bn)(hC:h.get? C=some (excClassObj nm q C N bs bm hdct sn sub ab col dd k0 k1 k2 k3 k5 newId))
  (hq:R (.ok (.ret (.ref (h.objs.size+1)))) ⟨(h.push (fU rest)).push (eh C h.objs.size),g,d,t,os⟩) (hr:rest.length<=sizeLine):codeAny (model prog w) A (.builtin newId ⟨.ref C::rest,[]⟩) R ⟨h,g,d,t,os⟩:=by
 have z:=F.ends;have cb:=m.b;have ca:=m.a;have cn:=m.n;refine codeAny_builtinAt F.entry ?_;unfold Builtin.«BaseException.__new__»;refine PySem.wpAt_bind ?_;show PySem.wpAt _ _ _ (stack >>= _) _ _ _;refine PySem.wpAt_bind (PySem.wpAt_stack fun p below=>PySem.wpAt_of_wpAny ?_)
 wp_walk
 refine PySem.wpAt_of_wpAny ?_;rw[F.owner];repeat (first|with_reducible refine wpAny_madeHere_exc F.canon hC ?_|with_reducible refine ie hC ?_|(with_reducible refine qy hC ?_;first|rw[cb]|rw[ca]|rw[cn])|wp_step)
 show R _ _;rw[jE];exact hq
theorem MG{K:W.Frag}{rest:List Value}{f:Addr}{Q:Fin->Shared->Prop}(X:K.In h)(F:ExcBaseFacts Bn newId inN bmN)(m:jO C bm Bn)(hC:h.get? C=some (excClassObj nm q C N bs bm hdct sn sub ab col dd k0 k1 k2 k3 k5 newId))
  (hi:W.findIn K (.ref C) "__init__" = some (some (.ref f))) (hf:W.isFn K (.ref f)=true) (hr:rest.length<=sizeLine)
  (hq:wpAny (model prog w) A (call (.ref f) (.ref (h.objs.size+1)::rest)) (fun r s'=>r=.none/\Q (.done (.ret (.ref (h.objs.size+1)))) s') E ⟨(h.push (fU rest)).push (eh C h.objs.size),g,d,t,os⟩):
  wpAny (model prog w) A (Builtin.«type.__call__» ⟨.ref C::rest,[]⟩) Q E ⟨h,g,d,t,os⟩:=by
 repeat (first|with_reducible refine ie hC ?_|with_reducible refine Bv hC ?_|wp_step)
 refine codeAny_call_builtin_code (Ca _ F.quiet) (Al F m hC ?_);refine Il F m hC ?_ hr;show wpAny _ _ _ _ _ _;have kp:∀b o,h.get? b=some o->((h.push (fU rest)).push (eh C h.objs.size)).get? b=some o:=fun b o e=>bj _ (bj _ e);have hC1:=kp _ _ hC;have X1:K.In ((h.push (fU rest)).push (eh C h.objs.size)):=X.keeps kp;have he:((h.push (fU rest)).push (eh C h.objs.size)).get? (h.objs.size+1)=some (eh C h.objs.size):=by
  have:=dC (h.push (fU rest)) (o:=eh C h.objs.size) rfl
  rwa [jE] at this
 have cC:(Value.ref C::bm).contains (.ref C)=true:=by simp
 unfold isInstance;repeat (first|with_reducible refine ie he ?_|(with_reducible refine qy hC1 ?_;rw[cC])|wp_step)
 show wpAny _ _ (typeLookup (.ref C) _) _ _ _;refine (mG X1 hi).at ?_;refine eX (af ((W.bind_fn X1 _ (jb.mp hf)).at ?_));refine af (fj hq (fun r s' z=>?_) fun _ _ x=>x);obtain⟨rfl,z⟩:=z
 wp_walk
 exact z
theorem x_call{K:W.Frag}{rest:List Value}{f:Addr}{Q:aJ}(X:K.In h)(F:ExcBaseFacts Bn newId inN bmN)(m:jO C bm Bn)(hC:h.get? C=some (excClassObj nm q C N bs bm hdct sn sub ab col dd k0 k1 k2 k3 k5 newId))
  (hi:W.findIn K (.ref C) "__init__" = some (some (.ref f))) (hf:W.isFn K (.ref f)=true) (hr:rest.length<=sizeLine)
  (hq:wpAny (model prog w) (A.under (.builtin "type.__call__" ⟨.ref C::rest,[]⟩)) (call (.ref f) (.ref (h.objs.size+1)::rest)) (fun r s'=>r=.none/\Q (.ref (h.objs.size+1)) s') E ⟨(h.push (fU rest)).push (eh C h.objs.size),g,d,t,os⟩):
  wpAny (model prog w) A (call (.ref C) rest) Q E ⟨h,g,d,t,os⟩:=by
 have f1:=tc_lookup;have f2:=tc_bind (.ref C);have hT:(⟨h,g,d,t,os⟩:Shared).TypeIs (.ref C) "type" := ⟨_,hC,rfl⟩;refine jI (codeAny_of_tree ?_);show wpAny _ _ (callAny (.ref C) _) _ _ _;repeat (any_goals (first|assumption|with_reducible refine ie hC ?_|wp_step))
 refine⟨rfl,?_⟩;exact codeAny_call_builtin_at (Ca _ (by decide+kernel)) entry_typeCall (wpAny_check_type_call_sub hC (MG X F m hC hi hf hr hq))
theorem Mq{e:Addr}{oe:Obj}{rest:List Value}{Q:Unit->Shared->Prop}(F:ExcBaseFacts Bn newId inN bmN)(m:jO C bm Bn)(hC:h.get? C=some (excClassObj nm q C N bs bm hdct sn sub ab col dd k0 k1 k2 k3 k5 newId))(he:h.get? e=some oe)(hcls:oe.cls=.ref C)(hq:Q () ⟨h,g,d,t,os⟩):
  wpAny M A (checkBuiltinCall inN ⟨.ref e::rest,[]⟩) Q E ⟨h,g,d,t,os⟩:=by
 have cb:=m.b;have z:=F.noStar;simp only[checkBuiltinCall,F.initKind,F.initSplit,F.initRow];repeat (first|(with_reducible refine ie he ?_;rw[hcls])|with_reducible refine ie hC ?_|(with_reducible refine qy hC ?_;rw[cb])|wp_step)
 refine qu ?_;rw[show ∀(a b:String)(n:Nat),Bind.check ⟨.positional, "*",Bn,.self,[⟨"args",.varPos,false⟩]⟩ a b n (List.map (fun x=>x.fst) ({pos:=Value.ref e::rest}:Args).kw)=pure () from fun a b n=>check_star_args _ _ _ _ _ _];exact ah hq
theorem Jw{K:W.Frag}{rest:List Value}{Q:Fin->Shared->Prop}(X:K.In h)(F:ExcBaseFacts Bn newId inN bmN)(m:jO C bm Bn)(hC:h.get? C=some (excClassObj nm q C N bs bm hdct sn sub ab col dd k0 k1 k2 k3 k5 newId))
  (hi:W.findIn K (.ref C) "__init__" = some (some (.builtin inN))) (hr:rest.length<=sizeLine)
  (hq:∀h',(∀b o,h.get? b=some o->h'.get? b=some o)->(∃t,h'.get? (h.objs.size+1)=some (eh C t))->Q (.done (.ret (.ref (h.objs.size+1)))) ⟨h',g,d,t,os⟩):
  wpAny (model prog w) A (Builtin.«type.__call__» ⟨.ref C::rest,[]⟩) Q E ⟨h,g,d,t,os⟩:=by
 repeat (first|with_reducible refine ie hC ?_|with_reducible refine Bv hC ?_|wp_step)
 refine codeAny_call_builtin_code (Ca _ F.quiet) (Al F m hC ?_);refine Il F m hC ?_ hr;show wpAny _ _ _ _ _ _;have kp:∀b o,h.get? b=some o->((h.push (fU rest)).push (eh C h.objs.size)).get? b=some o:=fun b o e=>bj _ (bj _ e);have hC1:=kp _ _ hC;have X1:K.In ((h.push (fU rest)).push (eh C h.objs.size)):=X.keeps kp;have he:((h.push (fU rest)).push (eh C h.objs.size)).get? (h.objs.size+1)=some (eh C h.objs.size):=by
  have:=dC (h.push (fU rest)) (o:=eh C h.objs.size) rfl
  rwa [jE] at this
 have cC:(Value.ref C::bm).contains (.ref C)=true:=by simp
 unfold isInstance;repeat (first|with_reducible refine ie he ?_|(with_reducible refine qy hC1 ?_;rw[cC])|wp_step)
 show wpAny _ _ (typeLookup (.ref C) _) _ _ _;refine (mG X1 hi).at ?_;refine eX (af (wpAny_of_eq (F.init.bind _) ?_));refine af (jI (v8 F.init.plain F.initEntry (Mq F m hC1 he rfl ?_)))
 wp_walk
 refine hq _ (fun b o hb=>?_) ⟨h.objs.size+2,?_⟩
 .rw[mQ _ _ (rJ (A8 (bp hb)))];exact bj _ (kp _ _ hb)
 .rw[uz _ (bj _ he) rfl];simp only[jE];rfl
theorem Je{K:W.Frag}{rest:List Value}{Q:aJ}(X:K.In h)(F:ExcBaseFacts Bn newId inN bmN)(m:jO C bm Bn)(hC:h.get? C=some (excClassObj nm q C N bs bm hdct sn sub ab col dd k0 k1 k2 k3 k5 newId))
  (hi:W.findIn K (.ref C) "__init__" = some (some (.builtin inN))) (hr:rest.length<=sizeLine)
  (hq:∀h',(∀b o,h.get? b=some o->h'.get? b=some o)->(∃t,h'.get? (h.objs.size+1)=some (eh C t))->Q (.ref (h.objs.size+1)) ⟨h',g,d,t,os⟩):
  wpAny (model prog w) A (call (.ref C) rest) Q E ⟨h,g,d,t,os⟩:=by
 have f1:=tc_lookup;have f2:=tc_bind (.ref C);have hT:(⟨h,g,d,t,os⟩:Shared).TypeIs (.ref C) "type" := ⟨_,hC,rfl⟩;refine jI (codeAny_of_tree ?_);show wpAny _ _ (callAny (.ref C) _) _ _ _;repeat (any_goals (first|assumption|with_reducible refine ie hC ?_|wp_step))
 refine⟨rfl,?_⟩;exact codeAny_call_builtin_at (Ca _ (by decide+kernel)) entry_typeCall (wpAny_check_type_call_sub hC (Jw X F m hC hi hr hq))
theorem EJ{Q:Flow->Shared->Prop}(m:jO C bm Bn)(hh:A.handled=none)
  (h:wpAny M A x (fun v s1=>∃e oe vs,v=.ref e/\s1.heap.get? C=some (excClassObj nm q C N bs bm hdct sn sub ab col dd k0 k1 k2 k3 k5 newId)/\s1.heap.get? e=some oe/\oe.cls=.ref C/\oe.data=.fields vs/\vs[1]?=some .none/\E (.ref e) s1) E s):wpAny M A (raiseStmt env (some x) none) Q E s:=by
 have cB:=m.e;unfold raiseStmt;refine af (fj h (fun v s1 z=>?_) fun _ _ x=>x);obtain⟨e,⟨oc,od,oda,osl⟩,vs,rfl,hC,he,hc,hd,h1,hE⟩:=z;simp only at hc hd;subst hc hd;obtain⟨hp,g,d,tk,os⟩:=s1;repeat (first|with_reducible refine ie he ?_|with_reducible refine ie hC ?_|(with_reducible refine qy hC ?_;rw[cB])|wp_step)
 rw[h1];refine ah ?_;rw[if_neg (by decide)];exact ah (wpAny_raiseNew_none hh hE)
end
structure sZ(K:W.Frag)(C f:Addr):Prop where
 obj:∃(nm q:Str) (N:Addr) (bs bm:List Value) (hdct:Bool) (sn:List Str) (sub:List Value) (ab:Bool) (col:Option Bool) (dd:Option Addr) (k0 k1 k2 k3 k5:Option Value),
  K.lookup C=some (excClassObj nm q C N bs bm hdct sn sub ab col dd k0 k1 k2 k3 k5 "ValueError.__new__")/\jO C bm "ValueError"
 init:W.findIn K (.ref C) "__init__" = some (some (.ref f))
 fn:W.isFn K (.ref f)=true
 kp:W.keepIn K (.ref C)=true
structure sF(K:W.Frag)(C:Addr):Prop where
 obj:∃(nm q:Str) (N:Addr) (bs bm:List Value) (hdct:Bool) (sn:List Str) (sub:List Value) (ab:Bool) (col:Option Bool) (dd:Option Addr) (k0 k1 k2 k3 k5:Option Value),
  K.lookup C=some (excClassObj nm q C N bs bm hdct sn sub ab col dd k0 k1 k2 k3 k5 "ValueError.__new__")/\jO C bm "ValueError"
 init:W.findIn K (.ref C) "__init__" = some (some (.builtin "ValueError.__init__"))
 kp:W.keepIn K (.ref C)=true
section
variable {X:Cx}{pins:aO}{σ:L2.St}{H:L2.Hp}{s:Shared}{C f:Addr}{E:XK}
theorem Qu{Q:aJ}(M:sZ X.K C f)(c:XC X.K C)(n:∀g∈fs,aZ X.K C g)(F:cv X.prog X.w X.K X.mg X.base (dP X.prog X.w) k f fd ps (nK X.K fs))(hr:bZ (k+1) X.A)(hb:Binds X.K fd ps [])(I:Inv X pins σ H s)(r:Vals vs us)(hl:vs.length=fs.length)(hz:vs.length<=1000)
  (h:∀e dx s' oe ws,H e=none->H dx=none->dx≠e->Fly0 X.prog X.w (bL X.stack) H s e C (some dx) (upd (upd H dx (.xd (fs.zip vs))) e (jV C (some dx) e)) s'->s'.heap.get? e=some oe->oe.cls=.ref C->oe.data=.fields ws->ws[1]?=some .none->Q (.ref e) s'):
  wpAny (model X.prog X.w) X.A (call (.ref C) us) Q X.xe s:=by
 obtain⟨nm,q,N,bs,bm,hdct,sn,sub,ab,col,dd,k0,k1,k2,k3,k5,lk,mo⟩:=M.obj;obtain⟨hp,g,d,t,os⟩:=s;have hus:us.length=fs.length:=r.length.symm.trans hl;have kp:∀b o,hp.get? b=some o->((hp.push (fU us)).push (eh C hp.objs.size)).get? b=some o:=fun b o e=>bj _ (bj _ e);have he:((hp.push (fU us)).push (eh C hp.objs.size)).get? (hp.objs.size+1)=some (eh C hp.objs.size):=by
  have:=dC (hp.push (fU us)) (o:=eh C hp.objs.size) rfl
  rwa [jE] at this
 have hf:H (hp.objs.size+1)=none:=I.av.fresh (jx _);have ok:bT X.prog X.w (upd H (hp.objs.size+1) (gU C none (hp.objs.size+1))) ((hp.push (fU us)).push (eh C hp.objs.size)) (hp.objs.size+1) (gU C none (hp.objs.size+1)):=gU.ok he rfl rfl rfl rfl;have I2:Inv X pins σ (upd H (hp.objs.size+1) (gU C none (hp.objs.size+1))) ⟨(hp.push (fU us)).push (eh C hp.objs.size),g,d,t,os⟩:=I.laid (a:=hp.objs.size+1) (o:=gU C none (hp.objs.size+1)) (h':=(hp.push (fU us)).push (eh C hp.objs.size)) (t':=t) kp (jx _) ok;have CV:Un (bL X.stack) [] H (upd H (hp.objs.size+1) (gU C none (hp.objs.size+1))) hp ((hp.push (fU us)).push (eh C hp.objs.size)):=Un.laid kp (jx _) hf;refine x_call I.bE PySem.F.excBase_ValueError mo (I.bE _ _ lk) M.init M.fn (by rw[hus,<-hl,fA];omega) ?_;have r2:Vals (V.ref (hp.objs.size+1)::vs) (Value.ref (hp.objs.size+1)::us):=.cons rfl r;have hq:nK X.K fs (V.ref (hp.objs.size+1)::vs) (upd H (hp.objs.size+1) (gU C none (hp.objs.size+1))) (fun v H3=>v=.aq/\∃dx,H dx=none/\dx≠hp.objs.size+1/\H3=upd (upd H dx (.xd (fs.zip vs))) (hp.objs.size+1) (gU C (some dx) (hp.objs.size+1))) E0:=
  ⟨_,C,vs,rfl,hl,c,n,aM,fun dx z1 z2=>⟨rfl,dx,by rw[az z2] at z1;exact z1,z2,Gd z2⟩⟩
 have hln:(Value.ref (hp.objs.size+1)::us++[]).length=ps.length:=by have e:=r2.length;rw[F.len _ _ _ _ hq] at e;rw[jf];exact e.symm
 refine jI (oa (F.run _ X.stack _ _ ⟨Value.ref (hp.objs.size+1)::us,[]⟩ (Value.ref (hp.objs.size+1)::us) _ _ E0 (hr.make C us []) (I2.AY.make C us []) (by have:=hb _ (Value.ref (hp.objs.size+1)::us) I2.bE hln;rwa [jf] at this) r2 hq) fun rr s' hq'=>?_);cases rr with
 |error e=>exact (dP.never _ _ _ _ _ hq').elim
 |ok fl=>
  cases fl with
  |next=>exact False.elim hq'
  |brk=>exact False.elim hq'
  |cont=>exact False.elim hq'
  |ret u=>
   obtain⟨v,H3,os3,bare3,un3,hok3,rv,ev,dx,z1,z2,e3⟩:=hq';subst ev;refine⟨rv,?_⟩;have t3:H3 (hp.objs.size+1)=some (gU C (some dx) (hp.objs.size+1)):=by rw[e3,aM]
   obtain⟨⟨oe,ws,a1,a2,a3,a4,a5⟩,_,_⟩:=hok3 _ _ t3;have h4:upd (upd H dx (.xd (fs.zip vs))) (hp.objs.size+1) (jV C (some dx) (hp.objs.size+1))=upd H3 (hp.objs.size+1) (jV C (some dx) (hp.objs.size+1)):=by rw[e3,qt]
   have un:=CV.trans un3;have nx:∀b u,H3 b=some u->(∀φ,u≠.ext φ)->b≠hp.objs.size+1:=fun b u q n z=>by rw[z,t3] at q;cases q;exact n _ rfl
   refine h _ dx s' oe ws hf z1 z2 ⟨os3,bare3,?_,?_,aM,Gm (jx _)⟩ a1 a2 a4 a5
   .rw[h4];refine⟨un.keep,un.slot,fun b o q n hx=>?_,un.there,fun b xs q=>?_,fun b o u q=>?_,fun b ps q=>?_⟩
    .rw[az (b7 (A8 (bp q)))];exact un.free b o q n hx
    .have:=un.f6 b xs q;rw[az (nx b _ this fun _ z=>nomatch z)];exact this
    .have:=un.fP b o u q;rw[az (nx b _ this fun _ z=>nomatch z)];exact this
    .obtain⟨m,this⟩:=un.gB b ps q;exact⟨m,by rw[az (nx b _ this fun _ z=>nomatch z)];exact this⟩
   .rw[h4];intro a o q;by_cases z:a=hp.objs.size+1
    .subst z;rw[aM] at q;cases q;exact⟨⟨oe,ws,a1,a2,a3,a4⟩,⟨oe,a1⟩,fun h1 h2 ⟨o,vs,a,b⟩ k=>⟨o,vs,k o a,b⟩⟩
    .rw[az z] at q;refine (hok3 a o q).fT (fun b u _ r=>r) (fun b hb=>?_) fun b xs hb=>?_
     .rw[az (nx b _ hb fun _ z=>nomatch z)];exact hb
     .rw[az (nx b _ hb fun _ z=>nomatch z)];exact hb
def MM(C:Addr)(fs:List Str)(E:XK)(t:TA):TS:=fun _ σ H=>t σ H fun vs H1=>vs.length=fs.length/\∀e dx,H1 e=none->H1 dx=none->dx≠e->E (.ref e) none (upd (upd H1 dx (.xd (fs.zip vs))) e (jV C (some dx) e))
theorem G9(hx:X.ex=[])(hs:X.stack=X.env::X.outer)(hfm:X.env.frame=some X.env.locals)(hxe:X.xe=og X E)
  (M:sZ X.K C f) (c:XC X.K C) (n:∀g∈fs,aZ X.K C g) (hz:fs.length<=1000) (F:cv X.prog X.w X.K X.mg X.base (dP X.prog X.w) k f fd ps (nK X.K fs)) (hr:bZ (k+1) X.A) (hg:Gl X x) (hm:X.mg x=some (.ref C)) (hb:Binds X.K fd ps [])
  (ha:PA X (e::es) t) (hdb:(x== ("__debug__" : Str))=false) (hst:starEach (e::es) X.env=(false,eval e X.env)::starEach es X.env) (hpl:(backTo cpos (starEach es X.env)).any (·.1)=false):
  PS X (.Raise (some (.Call (.Name x np) (e::es) [] cpos)) none pos) (MM C fs E t):=by
 intro pins s σ H D I h;obtain⟨nm,q,N,bs,bm,hdct,sn,sub,ab,col,dd,k0,k1,k2,k3,k5,lk,mo⟩:=id M.obj;have key:wpAny (model X.prog X.w) X.A (eval (.Call (.Name x np) (e::es) [] cpos) X.env) (fun v s1=>∃e oe vs,v=.ref e/\s1.heap.get? C=some (excClassObj nm q C N bs bm hdct sn sub ab col dd k0 k1 k2 k3 k5 "ValueError.__new__")/\s1.heap.get? e=some oe/\oe.cls=.ref C/\oe.data=.fields vs/\vs[1]?=some .none/\X.xe (.ref e) s1) X.xe s:=by refine oJ (gE I hg hm ?_ hdb);refine mC (h₀:=X.base) I.ok.mod.rq M.kp (aF (ha cpos pins s σ H _ I h) fun us s1 ⟨vs,H1,I1,r,q1,q2⟩=>⟨I1.bE,?_⟩) hst hpl;refine Qu M c n F hr hb I1 r q1 (by omega) fun ea dx s2 oe ws z1 z2 z3 F2 a1 a2 a3 a4=>⟨ea,oe,ws,rfl,?_,a1,a2,a3,a4,Ex hx hs hfm hxe I1 F2 a1 a3 a4 (q2 ea dx z1 z2 z3)⟩;exact (F2.inv I1).bE _ _ lk
 rw[arm_exec_Raise];exact af (nO (EJ mo hr.hd (af (fj key (fun v s1 z=>af (nO (ah z))) fun _ _ z=>z))))
theorem MC{Q:aJ}(M:sF X.K C)(I:Inv X pins σ H s)(hz:us.length<=1000)
  (h:∀e s' oe ws,H e=none->Fly0 X.prog X.w (bL X.stack) H s e C none (upd H e (jV C none e)) s'->s'.heap.get? e=some oe->oe.cls=.ref C->oe.data=.fields ws->ws[1]?=some .none->Q (.ref e) s'):
  wpAny (model X.prog X.w) X.A (call (.ref C) us) Q X.xe s:=by
 obtain⟨nm,q,N,bs,bm,hdct,sn,sub,ab,col,dd,k0,k1,k2,k3,k5,lk,mo⟩:=M.obj;obtain⟨hp,g,d,t,os⟩:=s;refine Je I.bE PySem.F.excBase_ValueError mo (I.bE _ _ lk) M.init (by rw[fA];omega) fun h' kp ⟨t',he⟩=>?_;have hf:H (hp.objs.size+1)=none:=I.av.fresh (jx _);have ok:bT X.prog X.w (upd H (hp.objs.size+1) (jV C none (hp.objs.size+1))) h' (hp.objs.size+1) (jV C none (hp.objs.size+1)):=⟨⟨_,_,he,rfl,rfl,rfl⟩,⟨_,he⟩,fun h1 h2 ⟨o,vs,a,b⟩ k=>⟨o,vs,k o a,b⟩⟩;have I2:Inv X pins σ (upd H (hp.objs.size+1) (jV C none (hp.objs.size+1))) ⟨h',g,d,t,os⟩:=I.laid (a:=hp.objs.size+1) (o:=jV C none (hp.objs.size+1)) (h':=h') (t':=t) kp (jx _) ok;exact h _ _ _ _ hf ⟨rfl,I2.bare,Un.laid kp (jx _) hf,I2.av,aM,Gm (jx _)⟩ he rfl rfl rfl
def Kq(C:Addr)(E:XK)(t:TA):TS:=fun _ σ H=>t σ H fun vs H1=>vs.length<=1000/\∀e,H1 e=none->E (.ref e) none (upd H1 e (jV C none e))
theorem C2(hx:X.ex=[])(hs:X.stack=X.env::X.outer)(hfm:X.env.frame=some X.env.locals)(hxe:X.xe=og X E)
  (M:sF X.K C) (cal:X.calm=true) (hg:Gl X x) (hm:X.mg x=some (.ref C))
  (ha:PA X (e::es) t) (hdb:(x== ("__debug__" : Str))=false) (hst:starEach (e::es) X.env=(false,eval e X.env)::starEach es X.env) (hpl:(backTo cpos (starEach es X.env)).any (·.1)=false):
  PS X (.Raise (some (.Call (.Name x np) (e::es) [] cpos)) none pos) (Kq C E t):=by
 intro pins s σ H D I h;obtain⟨nm,q,N,bs,bm,hdct,sn,sub,ab,col,dd,k0,k1,k2,k3,k5,lk,mo⟩:=id M.obj;have key:wpAny (model X.prog X.w) X.A (eval (.Call (.Name x np) (e::es) [] cpos) X.env) (fun v s1=>∃e oe vs,v=.ref e/\s1.heap.get? C=some (excClassObj nm q C N bs bm hdct sn sub ab col dd k0 k1 k2 k3 k5 "ValueError.__new__")/\s1.heap.get? e=some oe/\oe.cls=.ref C/\oe.data=.fields vs/\vs[1]?=some .none/\X.xe (.ref e) s1) X.xe s:=by refine oJ (gE I hg hm ?_ hdb);refine mC (h₀:=X.base) I.ok.mod.rq M.kp (aF (ha cpos pins s σ H _ I h) fun us s1 ⟨vs,H1,I1,r,q1,q2⟩=>⟨I1.bE,?_⟩) hst hpl;refine MC M I1 (by rw[jw,<-r.length];exact q1) fun ea s2 oe ws z1 F2 a1 a2 a3 a4=>⟨ea,oe,ws,rfl,?_,a1,a2,a3,a4,Ex hx hs hfm hxe I1 F2 a1 a3 a4 (q2 ea z1)⟩;exact (F2.inv I1).bE _ _ lk
 rw[arm_exec_Raise];exact af (nO (EJ mo (I.ok.hd cal) (af (fj key (fun v s1 z=>af (nO (ah z))) fun _ _ z=>z))))
end
noncomputable abbrev hX(X:Cx)(v:Value):Cx:={X with A:=X.A.mark (some v),calm:=false,xe:=fun _ _=>False}
section
variable {X:Cx}{pins:aO}{σ:L2.St}{H:L2.Hp}{s:Shared}
theorem Inv.mark(I:Inv X pins σ H s)(v:Value):Inv (hX X v) pins σ H s:=
 ⟨⟨I.ok.mod,I.ok.kind,I.ok.glob,I.ok.blt,I.ok.above,I.ok.inj,I.ok.has,I.ok.uf,fun z=>(nomatch z),I.ok.frames,I.ok.vo,I.ok.zP,I.ok.bs,I.ok.nM,I.ok.oR,I.ok.p6,I.ok.gX,I.ok.pv⟩,I.os,I.bare,I.base,I.loc,I.cell,I.free,I.eY,I.pin,I.av,I.len⟩
theorem Inv.unmark(I:Inv (hX X v) pins σ H s)(hd:X.calm=true->X.A.handled=none):Inv X pins σ H s:=
 ⟨⟨I.ok.mod,I.ok.kind,I.ok.glob,I.ok.blt,I.ok.above,I.ok.inj,I.ok.has,I.ok.uf,hd,I.ok.frames,I.ok.vo,I.ok.zP,I.ok.bs,I.ok.nM,I.ok.oR,I.ok.p6,I.ok.gX,I.ok.pv⟩,I.os,I.bare,I.base,I.loc,I.cell,I.free,I.eY,I.pin,I.av,I.len⟩
def UO(K:W.Frag)(j:Nat)(f:Str):TE:=fun σ H Q=>∃e C dx gs v,σ[j]?=some (some (.ref e))/\XC K C/\aZ K C f/\H e=some (jV C (some dx) e)/\H dx=some (.xd gs)/\gs.lookup f=some v/\Q v H
theorem P7(hj:X.N[j]?=some y)(vj:jP X.env.scope y)(oj:okN y=true):PE X (.Attribute (.Name y p1) f p2) (UO X.K j f):=by intro pins s σ H Q I ⟨e,C,dx,gs,v,q0,c,n,he,hd,hl,q⟩;refine Aa rfl (aF (jU hj vj (okN.d oj).1 (okN.d oj).2 pins s σ H (fun x' H1=>x'=.ref e/\H1=H) I ⟨_,q0,rfl,rfl⟩) fun ov s1 ⟨x',H1,I1,rx,e1,e2⟩=>?_);subst e1 e2;obtain rfl:ov=Value.ref e:=rx;obtain⟨⟨o,vs,a1,a2,a3,a4⟩,_,_⟩:=I1.av e _ he;obtain⟨mA,n1,r1⟩:=I1.av dx _ hd;obtain⟨od,ho,lk⟩:=pA n1;obtain⟨u,hu,ru⟩:=eU.some_of (v:=v) (o:=mA f) (by rw[<-hl];exact r1 f);exact Pu I1.bE ⟨a1,a2,by unfold W.notCls;rw[a4],by rw[a3];exact ho⟩ c n (by rw[lk,hu]) (vF ru) ⟨v,_,I1.tok _,ru,q⟩
def LR(e:Expr):Option (Str×Str):=(lA e).bind fun q=>(bB q.1).map fun a=>(a,q.2.1)
theorem Gb(h:LR e=some r):∃p1 p2,e=.Attribute (.Name r.1 p1) r.2 p2:=by obtain⟨⟨v,g,p2⟩,e1,h⟩:=dy.mp h;obtain⟨a,e2,rfl⟩:=iQ.mp h;obtain⟨p1,z⟩:=aL e2;have z1:=iR e1;dsimp only at z z1⊢;exact⟨p1,p2,by rw[z1,z]⟩
theorem mj{E:aJ}{Q:Unit->Shared->Prop}(I:Inv X pins σ H s)(hN:X.N.Nodup)(hj:X.N[j]?=some n)(hl:X.env.scope.names.lookup n=some .local)
  (h:∀s',Inv X pins (σ.set j none) H s'->Q () s'):wpAny M A (do bindName X.env n .none;unbindBehindTheSuite X.env n pos) Q E s:=by
 have hp:(X.env.scope.kind== .class || (X.env.scope.kind== .module&&X.env.locals != X.env.globals))=false:=by rw[I.ok.kind];rfl
 have hk:X.env.kindOf n=some .local:=hl;refine af (wpAny_bindName (nP (v:=.aq) I hN hj (.inl hl) rfl (fun s1 I1=>?_) (.inr hl)));obtain⟨m,hn,lo⟩:=I1.loc;have jl:j<σ.length:=by rw[I.len];exact (eK.mp hj).1
 have hm:∃u,m n=some u:=by
  obtain⟨u,_,l⟩:=lo j n .aq hj (by rw[jC jl]) (.inl hl);rcases l with ⟨_,z⟩|⟨z,_⟩
  .exact⟨u,z⟩
  .rw[hk] at z;rcases z with z|z<;>cases z
 obtain⟨u,hm⟩:=hm;unfold unbindBehindTheSuite;refine qu ?_;unfold unbindName;refine af (wpAny_point (af ?_));unfold deleteName;simp only[hk,hp];rw[if_neg (by decide)];refine af (wpAny_nsDel_keeps hn fun h2 v hn2 hs=>?_);rw[hm];simp only[Option.isSome_some,Bool.not_true,x9,i7,fZ];refine ah (wpAny_point (h _ ?_));have above:=I1.ok.above;have ne:∀b o,X.aR.heap.get? b=some o->b≠X.env.locals:=fun b o e=>b7 (cU (bp e) above);have rC:∀y c,X.env.cells.lookup y=some c->c≠X.env.locals:=fun y c e z=>by
  obtain⟨w',oc,hoc,hcd⟩:=I1.cell y c e;obtain⟨ol,es,ep,hol,hld,_⟩:=hn;rw[z,hol] at hoc;cases hoc;rw[hld] at hcd;cases hcd
 refine⟨I1.ok,I1.os,I1.bare,⟨fun b o e n hb hx=>(hs.2 b (ne b o e)).trans (I1.base.keep b o e n hb hx),fun b o e n hb hx=>?_,I1.base.free,fun b o e hx=>?_,I1.base.f6,I1.base.fP,I1.base.gB⟩,⟨_,hn2,fun i y v' e1 e2 e3=>?_⟩,fun y c e=>?_,I1.free,I1.eY,fun p hp=>?_,fun a o q=>?_,by simpa using I.len⟩
 .obtain⟨sl,q⟩:=I1.base.slot b o e n hb hx;exact⟨sl,(hs.2 b (ne b o e)).trans q⟩
 .obtain⟨o',q⟩:=I1.base.there b o e hx;exact⟨o',(hs.2 b (ne b o e)).trans q⟩
 .by_cases z:i=j
  .subst z;rw[jC jl] at e2;cases e2
  .rw[iE (bc z)] at e2;have ny:y≠n:=fun w=>z (by subst w;exact sj hN e1 hj);obtain⟨u',r',l⟩:=lo i y v' e1 (by rw[iE (bc z)];exact e2) e3;refine⟨u',r',?_⟩;rcases l with ⟨k1,k2⟩|⟨k1,c,k2,k3⟩
   .exact .inl ⟨k1,by show (if y=n then v else m y)=some u';rw[if_neg ny];exact k2⟩
   .exact .inr ⟨k1,c,k2,k3.sameBut hs (rC y c k2)⟩
 .obtain⟨w',z⟩:=I1.cell y c e;exact⟨w',z.sameBut hs (rC y c e)⟩
 .obtain⟨e,n1,n2,n3,d⟩:=I1.pin p hp;exact⟨(hs.2 p.1 n2).trans e,n1,n2,n3,d⟩
 .have nt:∀b u,H b=some u->b≠X.env.locals:=fun b u e z=>by rw[z,I1.free] at e;cases e
  refine (I1.av a o q).fT (fun b u hb r=>(hs.2 b ?_).trans r) (fun _ q=>q) fun _ _ q=>q;rcases hb with rfl|hb
  .exact nt b o q
  .exact nt b _ hb
theorem Ho{xe:aJ}(I:Inv X pins σ H s)(he:PE X.qZ o ta)(c:rg X.K C)(hm:Meth X.K C m f)
  (F:cv X.prog X.w X.K X.mg X.base CX k f fd ps sp) (hr:bZ k X.A) (hb:Binds X.K fd ps []) (ha:PA X.qZ (e::es) t) (hst:starEach (e::es) X.env=(false,eval e X.env)::starEach es X.env) (hpl:(backTo pos (starEach es X.env)).any (·.1)=false)
  (ht:eval (.Call (.Attribute o m apos) (e::es) [] pos) X.env=(do
   let ov <-eval o X.env
   standAt apos.atName
   let (f,first) <-holding [ov] (getMethod ov m pl)
   callWith pos f first (backTo pos (starEach (e::es) X.env)) (backToKw pos (keywordEach [] X.env))))
  (hx:∀H1 s1 ex s',Inv X pins σ H1 s1->CX X.stack H1 s1 E ex s'->xe ex s') (h:AL C m sp [] E ta t σ H Q):
  wpAny (model X.prog X.w) X.A (eval (.Call (.Attribute o m apos) (e::es) [] pos) X.env) (EP X pins σ Q) xe s:=by
 refine wu (pl:=pl) (fj (he pins s σ H _ (I.lg _) h) (fun u s1 ⟨x,H1,I1,rx,a,dx,fs,ex,ea,l,q⟩=>?_) fun _ _ z=>False.elim z) ht;subst ex;obtain rfl:u=Value.ref a:=rx;have J1:Inv X pins σ H1 s1:=I1.kZ;refine n6 J1 ea c hm l ?_;refine mC (first:=[.ref a]) (h₀:=X.base) I.ok.mod.rq hm.kp (fj (ha pos pins s1 σ H1 _ I1 q) (fun us s2 ⟨vs,H2,I2,r,q2⟩=>⟨(I2.kZ:Inv X pins σ H2 s2).bE,?_⟩) fun _ _ z=>False.elim z) hst hpl;have J2:Inv X pins σ H2 s2:=I2.kZ;dsimp only at q2;rw[jf] at q2;have r2:Vals (V.ref a::vs) (Value.ref a::us):=.cons rfl r;have hl:(Value.ref a::us++[]).length=ps.length:=by rw[jf,<-r2.length];exact F.len _ _ _ _ q2
 refine jI (oa (F.run X.A X.stack s2 H2 ⟨Value.ref a::us,[]⟩ (Value.ref a::us) (V.ref a::vs) Q E hr J2.AY (by have:=hb s2 (Value.ref a::us) J2.bE hl;rwa [jf] at this) r2 q2) fun r s' hq=>?_);cases r with
 |error e=>exact hx H2 s2 e s' J2 hq
 |ok fl=>
  cases fl with
  |ret u=>exact J2.after hq
  |next=>exact False.elim hq
  |brk=>exact False.elim hq
  |cont=>exact False.elim hq
theorem Jt{Q:Shared->Prop}(I:Inv X pins σ H s)(hs:X.stack=X.env::X.outer)(hfm:X.env.frame=some X.env.locals)(F:gW X.prog X.w (bL X.stack) H s ea C dx .none H' s'){E:aJ}(k:∀s3,gW X.prog X.w (bL X.stack) H s ea C dx .none H' s3->Q s3):
  wpAny (model X.prog X.w) X.A (noteFrame (.ref ea) X.env) (fun _ s2=>wpAny (model X.prog X.w) X.A (setFlight (.ref ea) none) (fun _ s3=>Q s3) E s2) E s':=by
 have J:=F.toFly0.inv I;have fr:=J.kG;have st:=J.stack;have fm:=J.ok.frames;rw[hs] at fr st fm F;refine F.note (base:=X.base) fm st hfm fr fun s2 F2=>F2.land fr fun s3 F3=>k s3 ?_;rw[hs];exact F3
theorem gW.cls(F:gW X.prog X.w (bL X.stack) H s ea C dx fl H' s'):W.Looks (model X.prog X.w) s'.heap (typeOf (.ref ea)) (.ref C):=by obtain⟨⟨o,ws,b1,b2,_⟩,_,_⟩:=F.av ea _ F.tr;exact b2▸(W.Looks.ld b1).andThen .now
section
variable {ea C Mx:Addr}{dx:Option Addr}{H':L2.Hp}{s':Shared}{x n:Str}{p hp:Pos}{j:Nat}{rest:List ExceptHandler}{Q:Flow->Shared->Prop}
theorem Kg(I:Inv X pins σ H s)(F:gW X.prog X.w (bL X.stack) H s ea C dx .none H' s')(hg:Gl X x)(hm:X.mg x=some (.ref Mx))(hdb:(x== ("__debug__" : Str))=false)(hxm:W.exmOne X.K (.ref C) (.ref Mx)=some false)
  (k:wpAny (model X.prog X.w) X.A (handleBy (.ref ea) X.env rest) Q X.xe s'):wpAny (model X.prog X.w) X.A (handleBy (.ref ea) X.env (.ExceptHandler (some (.Name x p)) nm suite hp::rest)) Q X.xe s':=by
 have I3:=F.toFly0.inv I;refine wpAny_handleBy_cons (codeAny_handlers_test (gE (X:=hX X (.ref ea)) (Inv.mark I3 _) hg hm ?_ hdb)) (by intro q;cases q);exact (W.exm_one I3.bE F.cls hxm).here k
theorem MR(I:Inv X pins σ H s)(F:gW X.prog X.w (bL X.stack) H s ea C dx .none H' s')
  (hg:Gl X x) (hm:X.mg x=some (.ref Mx)) (hdb:(x== ("__debug__" : Str))=false) (hxm:W.exmOne X.K (.ref C) (.ref Mx)=some true) (hN:X.N.Nodup) (hj:X.N[j]?=some n) (hl:X.env.scope.names.lookup n=some .local)
  (hb:∀v,ff (hX X v) (b₀::suite) t) (D:Ends) (ht:t D (σ.set j (some (.ref ea))) H') (hD:∀f s2,SP X pins D f s2->wpAny (model X.prog X.w) X.A (do bindName X.env n .none;unbindBehindTheSuite X.env n hp) (fun _ s3=>Q f s3) X.xe s2):
  wpAny (model X.prog X.w) X.A (handleBy (.ref ea) X.env (.ExceptHandler (some (.Name x p)) (some n) (b₀::suite) hp::rest)) Q X.xe s':=by
 have I3:=F.toFly0.inv I;have fr0:=I3.kG;refine wpAny_handleBy_cons (codeAny_handlers_test (gE (X:=hX X (.ref ea)) (Inv.mark I3 _) hg hm ?_ hdb)) (by intro q;cases q);refine (W.exm_one I3.bE F.cls hxm).here ?_;refine codeAny_handlers_suite_as (F.land fr0 fun s4 F4=>?_);have I4:=F4.toFly0.inv I;refine nP (X:=hX X (.ref ea)) (v:=.ref ea) (Inv.mark I4 _) hN hj (.inl hl) rfl (fun s5 I5=>?_) (.inr hl);refine fj (hb _ pins s5 _ H' D I5 ht) (fun f s6 z=>hD f s6 ?_) fun _ _ z=>False.elim z;cases f with
 |next=>obtain⟨σ',H'',J,q⟩:=z;exact⟨σ',H'',Inv.unmark J I.ok.hd,q⟩
 |brk=>obtain⟨σ',H'',J,q⟩:=z;exact⟨σ',H'',Inv.unmark J I.ok.hd,q⟩
 |cont=>obtain⟨σ',H'',J,q⟩:=z;exact⟨σ',H'',Inv.unmark J I.ok.hd,q⟩
 |ret u=>obtain⟨v,σ',H'',J,r,q⟩:=z;exact⟨v,σ',H'',Inv.unmark J I.ok.hd,r,q⟩
end
end
abbrev IsT(h:Heap)(a:Addr)(D:List (Str×Addr)):Prop:=KTD.TabOf (fun d v=>v=.ref d) h a D
section
variable {prog:Program}{w:World}{A:Around}{E:aJ}{s:Shared}{a:Addr}{D:List (Str×Addr)}{k:Str}{tk:Tok}
theorem IsT.ty(T:IsT s.heap a D):s.TypeIs (.ref a) "dict" := let ⟨_,o,_,_,ho,hc,_⟩:=T;⟨o,ho,hc.1⟩
theorem yH{Q:Option Value->Shared->Prop}(T:IsT s.heap a D)(h:Q ((KTD.datumAt k D).map Value.ref) {s with toks:=s.toks+1}):wpAny (model prog w) A (dictGet a (.str k tk)) Q E s:=by
 obtain⟨_,o,es,ep,ho,hc,hd,hr⟩:=T;unfold dictGet
 try with_reducible refine eX ?_
 refine af (wpAny_pyHash_str (af (KTD.kt_dictFind_strs (s:={s with toks:=s.toks+1}) ho hd (by obtain⟨l⟩:=es;simpa using hr.exact) ?_)));have q:Q (findBy (fun k v=>v.isStr k) es k) {s with toks:=s.toks+1}:=by
  rw[show findBy (fun k v=>v.isStr k) es k=(es.toList.find? fun e=>e.key.isStr k).map (·.val) by obtain⟨l⟩:=es;simp[findBy]];cases z:KTD.datumAt k D with
  |some d=>
   obtain⟨v,hv,rfl⟩:=hr.find_some z;rw[hv];rw[z] at h;exact h
  |none=>rw[hr.find_none z];rw[z] at h;exact h
 rw[findBy_of_findIdx?] at q;cases i:es.findIdx? fun e=>e.key.isStr k with
 |none=>rw[i] at q;exact ah q
 |some i'=>rw[i] at q;exact af (wpAny_dictEntries (s:={s with toks:=s.toks+1}) ho hd (ah q))
theorem Fo{Q:aJ}(T:IsT s.heap a D)(hk:KTD.datumAt k D=some d)(h:Q (.ref d) {s with toks:=s.toks+1}):wpAny (model prog w) A (getItem (.ref a) (.str k tk)) Q E s:=by
 unfold getItem
 try with_reducible refine eX ?_
 refine af (wpAny_sequenceKey T.ty (by decide) ?_);refine af (qc (name:=Str.ofString "__getitem__") T.ty Bh (nX Bh T.ty entry_dict_getitem ?_ (args_dict_getitem _ _)));show wpAny _ _ (dictGet a (.str k tk) >>= _) _ _ s;refine af (yH T ?_);rw[hk];exact ah ⟨_,rfl,ah h⟩
theorem Oi{Q:aJ}(T:IsT s.heap a D)(h:Q (.bool (KTD.inKeys k D)) {s with toks:=s.toks+1}):wpAny (model prog w) A (compareOp .In (.str k tk) (.ref a)) Q E s:=by
 show wpAny _ _ (do return .bool (<-contains (.ref a) (.str k tk))) Q E s;refine af ?_;unfold contains
 try with_reducible refine eX ?_
 refine af (wpAny_specialOf T.ty BO.lookup ?_);show wpAny _ _ (if (some (Value.builtin "dict.__contains__")== some Value.none)=true then _ else _) _ E s;rw[if_neg (by rw[beq_builtin_none];exact e9)];refine af (wpAny_callSpecialUnlessNone?_slot (name:=Str.ofString "__contains__") T.ty BO (nX BO T.ty entry_dict_contains ?_ (args_dict_contains _ _)));show wpAny _ _ (dictGet a (.str k tk) >>= _) _ _ s;refine af (yH T ?_);cases z:KTD.datumAt k D with
 |some d=>
  rw[show KTD.inKeys k D=true by rw[<-KTD.isSome_datumAt,z];rfl] at h;show wpAny _ _ (ret (.bool true)) _ _ _;exact ah ⟨_,rfl,qv (ah h)⟩
 |none=>
  rw[show KTD.inKeys k D=false by rw[<-KTD.isSome_datumAt,z];rfl] at h;show wpAny _ _ (Builtin.Dict.pendingKey? a (.str k tk) >>= _) _ _ _;exact af (wpAny_pendingKey_other T.1 (ah ⟨_,rfl,qv (ah h)⟩))
end
def oP(K:W.Frag)(a:Addr)(D:List (Str×Addr)):Prop:=∀h:Heap,K.In h->IsT h a D
section
variable {X:Cx}{E:XK}{a b c e y:Expr}{pos p1 p2:Pos}{da db dk:Tw.Env->Tw.Hp->Tw.R Tw.W}{t:Addr}{D:List (Str×Addr)}
theorem L9(T:oP X.K t D):pH X (fun x y H Q=>∃s d,x=.ref t/\y=.str s/\KTD.datumAt s D=some d/\Q (.ref d) H):=by intro value slice pins s σ H x y v u Q I rx ry ⟨z,d,ex,ey,hk,q⟩ hs;subst ex ey;cases rx;obtain⟨tk,rfl⟩:=(show ∃t,u=Value.str z t from ry);have T':=T s.heap I.bE;exact tail_any (ops:=[.str z tk,.ref t]) T'.ty Bh.lookup (Fo T' hk ⟨.ref d,H,I.tok _,rfl,q⟩) hs
theorem xk(T:oP X.K t D):c7 X (compareOp .In) (fun x y H Q=>∃s,x=.str s/\y=.ref t/\Q (.bl (KTD.inKeys s D)) H):=by intro pins s σ H x y v u Q I rx ry ⟨z,ex,ey,q⟩;subst ex ey;cases ry;obtain⟨tk,rfl⟩:=(show ∃t,v=Value.str z t from rx);exact Oi (T s.heap I.bE) ⟨.bl _,H,I.tok _,rfl,q⟩
theorem Ny{CX:iH}{n:Nat}{G:Str}{g:List (Tw.S×Nat)}{C:Tw.Or}{e:Expr}{es:List Expr}{ds:Tw.Env->Tw.Hp->Tw.R (List Tw.W)}(hg:Gl X G)(hm:X.mg G=some (.ref t))(hd:(G== ("__debug__" : Str))=false)(T:oP X.K t D)
  (own:∀s f,g.lookup s=some f->∃ga k fd ps,KTD.datumAt ⟨s.toArray⟩ D=some ga/\cv X.prog X.w X.K X.mg X.base CX k ga fd ps (iz X.K X.mg (C f))/\bZ k X.A/\W.keepIn X.K (.ref ga)=true/\Binds X.K fd ps [])
  (hx:Passes CX X E) (hy:PE X y (tE (zx X E) dk)) (hpy:aI y=true) (hs:PA X (e::es) (tA (zx X E) n ds)) (hpl:(e::es).all aI=true):
  PE X (.Call (.Subscript (.Name G p1) y p2) (e::es) [] pos) (tE (zx X E) fun ρ h=>(dk ρ h).bind fun x h=>match Tw.pick g x with
   |some f=>(ds ρ h).bind fun xs h=>C f xs h
   |none=>.bad):=by
 have hf:PE X (.Subscript (.Name G p1) y p2) _:=Ic (L9 T) (m6 (v:=.ref t) hg hm rfl hd) hy (yp hpy);have hst:starEach (e::es) X.env=(false,eval e X.env)::starEach es X.env:=bf (by rw[fL,aB] at hpl;exact hpl.1);intro pins s σ H Q I ⟨ρ,h,ι,at',p⟩;refine Call_ (aF (hf pins s σ H (fun v H1=>∃f ga k fd ps w h1 ι1,v=.ref ga/\cv X.prog X.w X.K X.mg X.base CX k ga fd ps (iz X.K X.mg (C f))/\bZ k X.A/\W.keepIn X.K (.ref ga)=true/\Binds X.K fd ps []/\
   At (zx X E) ι1 h1 H1 ρ σ/\ai (zx X E) RE ι1 h1 H1 ((ds ρ h1).bind fun xs h=>C f xs h) Q/\w=f) I ⟨ρ,h,ι,at',(step at' p).mono fun x H1 Z=>Z.g fun w Z=>Z.g fun h1 Z=>Z.g fun ι1 Z=>Z.g fun at1 Z=>Z.g fun e1 Z=>Z.g fun r1 p1=>?_⟩) fun fv s1 Z=>Z.g fun v Z=>Z.g fun H1 Z=>Z.g fun I1 Z=>Z.g fun rv Z=>Z.g fun f Z=>Z.g fun ga Z=>Z.g fun k Z=>Z.g fun fd Z=>Z.g fun ps Z=>Z.g fun w Z=>Z.g fun h1 Z=>Z.g fun ι1 Z=>Z.g fun ev Z=>Z.g fun G' Z=>Z.g fun hr Z=>Z.g fun hk Z=>Z.g fun hb Z=>Z.g fun at1 Z=>Z.g fun p1 _=>?_)
 .cases r1 with
  |str z hz=>
   cases ef:Tw.pick g (.str z) with
   |none=>rw[ef] at p1;exact p1.elim
   |some f=>
    rw[ef] at p1;obtain⟨ga,k,fd,ps,z1,z2,z3,z4,z5⟩:=own z f ef;exact⟨_,ga,rfl,rfl,z1,f,ga,k,fd,ps,f,h1,ι1,rfl,z2,z3,z4,z5,at1,p1,rfl⟩
  |_=>exact p1.elim
 .subst ev;cases rv;refine mC (h₀:=X.base) I.ok.mod.rq hk (aF (hs pos pins s1 σ H1 _ I1 ⟨ρ,h1,ι1,at1,step at1 p1⟩) fun us s2 Z=>Z.g fun vs Z=>Z.g fun H2 Z=>Z.g fun I2 Z=>Z.g fun r2 Z=>Z.g fun ws Z=>Z.g fun h2 Z=>Z.g fun ι2 Z=>Z.g fun at2 Z=>Z.g fun e2 Z=>Z.g fun rr p2=>⟨I2.bE,?_⟩) hst ?_
  .exact pe (ds:=[]) (dvs:=[]) G' hr hb .nil hx I2 r2 (by rw[jf];exact⟨ws,h2,ι2,at2.hr,rr.1,p2⟩)
  .rw[fk (by rw[fL,aB] at hpl;exact hpl.2)];simp[backTo]
theorem PU{G:Str}{g:List Tw.S}(hg:Gl X G)(hm:X.mg G=some (.ref t))(hd:(G== ("__debug__" : Str))=false)(T:oP X.K t D)(hk:∀s:Tw.S,KTD.inKeys ⟨s.toArray⟩ D=g.contains s)(hy:PE X y (tE (zx X E) dk)):
  PE X (.Compare y [.In] [.Name G p1] pos) (tE (zx X E) fun ρ h=>(dk ρ h).bind fun x h=>match x with
   |.str s=>.ok (.bl (g.contains s)) h
   |_=>.bad)/\PT X (.Compare y [.In] [.Name G p1] pos) (tT (zx X E) fun ρ h=>(dk ρ h).bind fun x h=>match x with
   |.str s=>.ok (.bl (g.contains s)) h
   |_=>.bad):=by
 have fin:∀σ H Q,tE (zx X E) (fun ρ h=>(dk ρ h).bind fun x h=>match x with
   |.str s=>.ok (.bl (g.contains s)) h
   |_=>.bad) σ H Q->zt (fun x y H Q=>∃s,x=.str s/\y=.ref t/\Q (.bl (KTD.inKeys s D)) H) (tE (zx X E) dk) (tC (.ref t)) σ H Q:=fun σ H Q Z=>Z.g fun ρ Z=>Z.g fun h Z=>Z.g fun ι Z=>Z.g fun at' p=>by
  refine⟨ρ,h,ι,at',(step at' p).mono fun x H1 Z=>Z.g fun w Z=>Z.g fun h1 Z=>Z.g fun ι1 Z=>Z.g fun at1 Z=>Z.g fun e1 Z=>Z.g fun r1 p1=>?_⟩;cases r1 with
  |str z hz=>exact⟨_,rfl,rfl,by rw[hk];exact ai.self (a:=Tw.W.bl (g.contains z)) p1 at1.hr (.bl _)⟩
  |_=>exact p1.elim
 have hG:PE X (.Name G p1) (tC (.ref t)):=m6 (v:=.ref t) hg hm rfl hd;refine⟨PE.imp (Af (xk T) hy hG rfl) fin,?_⟩;refine PT.imp (Au (xk T) hy hG rfl) fun σ H Q Z=>Z.g fun ρ Z=>Z.g fun h Z=>Z.g fun ι Z=>Z.g fun at' p=>?_;simp only[dT,bind_assoc] at p;refine⟨ρ,h,ι,at',(step at' p).mono fun x H1 Z=>Z.g fun w Z=>Z.g fun h1 Z=>Z.g fun ι1 Z=>Z.g fun at1 Z=>Z.g fun e1 Z=>Z.g fun r1 p1=>?_⟩;cases r1 with
 |str z hz=>exact⟨_,rfl,rfl,_,rfl,by rw[hk];exact ai.self (a:=g.contains z) p1 at1.hr rfl⟩
 |_=>exact p1.elim
theorem aT.rev{K:W.Frag}{ι:Nat->Addr}{n:Nat}{H:L2.Hp}:∀{ws:List Tw.W}{vs:List V},aT K ι n H ws vs->aT K ι n H ws.reverse vs.reverse
 |_,_,.nil=>.nil
 |_,_,.cons a r=>by
  rw[Bg,Bg];exact (aT.rev r).append (.cons a .nil)
def HG(m:Tw.Mt)(da:Tw.Env->Tw.Hp->Tw.R Tw.W):Tw.Env->Tw.Hp->Tw.R Tw.W:=fun ρ h=>(da ρ h).bind fun x h=>if Tw.i6 m x h then Tw.method m x [] h else .bad
theorem Ac(hm:m=.rev\/m=.pop\/m=.index)(e:Tw.i6 m w h=true):∃i ws,w=.ref i/\h[i]?=some (.lst ws):=by
 have e:Tw.i6 .append w h=true:=by rcases hm with rfl|rfl|rfl<;>cases w<;>exact e
 exact C3 e
theorem P8(hb:attributeBase o "reverse" X.env (eval o X.env)=eval o X.env)(hl:(apos.endLine== cpos.line)=true)(ho:PE X o (tE (zx X E) da)):
  PE X (.Call (.Attribute o "reverse" apos) [] [] cpos) (tE (zx X E) (HG .rev da)):=by
 refine PE.imp (Lc BY PySem.F.slot_list_reverse PySem.F.type_list_reverse BE ho hb hl) fun σ H Q Z=>Z.g fun ρ Z=>Z.g fun h Z=>Z.g fun ι Z=>Z.g fun at' p=>?_;unfold HG at p;refine⟨ρ,h,ι,at',(step at' p).mono fun x H1 Z=>Z.g fun w Z=>Z.g fun h1 Z=>Z.g fun ι1 Z=>Z.g fun at1 Z=>Z.g fun e1 Z=>Z.g fun r1 p1=>?_⟩;obtain⟨c1,pp⟩:=ai.ite p1;clear p1;obtain⟨i,ws,rfl,ei⟩:=Ac (.inl rfl) c1;cases r1;obtain⟨xs,q1,q2⟩:=at1.hr.lst ei;refine⟨.inl ⟨rfl,xs,bJ.of q1⟩,_,xs,rfl,rfl,q1,?_⟩
 .simp only[Tw.method,ei] at pp;obtain⟨hr',ex⟩:=at1.hr.put (o:=.lst xs.reverse) (u:=.lst ws.reverse) ei rfl rfl (fun _ z=>nomatch z) fun H' kp z=>⟨_,z,(q2.rev).keep kp⟩;exact pp ι1 _ .aq ex hr' .aq
def Mc:V->List V->L2.Hp->VK->Prop:=fun x vs H Q=>∃(l:Addr) (xs:List V) (k:Key) (j:Nat),x=.ref l/\vs=[kV k]/\H l=some (.lst xs)/\(∀y∈xs,∃z,y=kV z)/\xs[j]?=some (kV k)/\(∀m,m<j->xs[m]?≠some (kV k))/\Q (.int j) H
theorem wJ{A:Around}{s:Shared}{z k:Key}{y u:Value}(hy:RelV (kV z) y)(hu:RelV (kV k) u):SeqAt.EqAt A s y u (jj k y)/\jj k y=decide (z=k):=by
 cases z with
 |inl i=>
  obtain⟨t,rfl⟩:=(show ∃t,y=Value.int i t from hy);cases k with
  |inl j=>obtain⟨t',rfl⟩:=(show ∃t,u=Value.int j t from hu);exact⟨SeqAt.EqAt.int_int i t j t',by rw[xh];rfl⟩
  |inr x=>obtain⟨t',rfl⟩:=(show ∃t,u=Value.str x t from hu);exact⟨BJ i t x t',by rw[w8];rfl⟩
 |inr x=>
  obtain⟨t,rfl⟩:=(show ∃t,y=Value.str x t from hy);cases k with
  |inl j=>obtain⟨t',rfl⟩:=(show ∃t,u=Value.int j t from hu);exact⟨Bf x t j t',by rw[yM];rfl⟩
  |inr x'=>
   obtain⟨t',rfl⟩:=(show ∃t,u=Value.str x' t from hu);have e:jj (.inr x') (.str x t)=(x== x'):=rfl;exact⟨by rw[e];exact SeqAt.EqAt.str_str x t x' t',by rw[e,xr];by_cases z:x=x'<;>simp[z]⟩
theorem FQ:Mp X "list.index" Mc:=by
 intro pins s σ H x vs v us Q I rx rv ⟨l,xs,k,j,ex,ev,hH,hall,hj,hno,q⟩;subst ex ev;cases rx;obtain⟨u,rfl,ru⟩:=rv.one;obtain⟨Z,its,n,r,hl,e⟩:=I.ux hH;have alS:∀{i:Nat}{y:Value},its[i]?=some y->∃z,RelV (kV z) y/\xs[i]?=some (kV z):=fun {i y} hy=>by
  have hi:i<xs.length:=by rw[hl];exact (eK.mp hy).1
  obtain⟨z,hz⟩:=hall _ (AR hi);have hx:xs[i]?=some (kV z):=by rw[mL hi,hz]
  obtain⟨u',hu,ru'⟩:=r.get hx;rw[hy] at hu;cases hu;exact⟨z,ru',hx⟩
 have hjl:j<its.toArray.size:=by rw[cR,<-hl];exact (eK.mp hj).1
 have size:xs.length<=16777216:=by rw[<-sizeLine_eq];exact Z
 refine oq F.slot_list_index ⟨_,e,rfl⟩ F.entry_list_index (F.args_list_index_2 _ _) (SeqAt.list_indexAt l its.toArray n none #[] u (jj k) j hjl (by have:j<xs.length:=(eK.mp hj).1;omega) ?_ ?_) ⟨e,?_,?_⟩
 .obtain⟨z,e1,e2⟩:=alS (i:=j) (y:=its.toArray[j]) (by simp);rw[hj] at e2;rw[(wJ (A:=X.A) (s:=s) e1 ru).2];exact ub (EZ (eO e2)).symm
 .intro m hm hlt;obtain⟨z,e1,e2⟩:=alS (i:=m) (y:=its.toArray[m]) (by simp);rw[(wJ (A:=X.A) (s:=s) e1 ru).2];exact dz fun q=>hno m hlt (by rw[e2,q])
 .intro y hy;obtain⟨i,hi,rfl⟩:=List.getElem_of_mem (by simpa using hy);obtain⟨z,e1,e2⟩:=alS (i:=i) (y:=its[i]) (by simp);exact (wJ e1 ru).1
 .exact⟨.int j,H,I.tok _,⟨_,rfl⟩,q⟩
theorem yS{K:W.Frag}{ι:Nat->Addr}{n:Nat}{H:L2.Hp}{u:Tw.W}{k:Key}(b:RW K ι n H u (kV k)):∀{ys:List Tw.W}{zs:List V}{j:Nat},aT K ι n H ys zs->ys.all Tw.isKey=true->Tw.hV u ys=some j->zs[j]?=some (kV k)/\(∀m,m<j->zs[m]?≠some (kV k))
 |_,_,j,.nil,_,h=>by simp[Tw.hV] at h
 |y::ys,z::zs,j,.cons a r,ha,h=>by
  rw[fL,aB] at ha;obtain⟨q,rfl⟩:=iO a ha.1;unfold Tw.hV at h;rw[yt a b] at h;by_cases c:q=k
  .subst c;simp at h;subst h;exact⟨rfl,fun m hm=>absurd hm (Nat.not_lt_zero _)⟩
  .rw[dz c] at h;simp only[x9,i7] at h;obtain⟨j',h1,rfl⟩:=iQ.mp h;obtain⟨q1,q2⟩:=yS b r ha.2 h1;refine⟨by simpa using q1,fun m hm=>?_⟩;cases m with
   |zero=>exact fun e=>c (EZ (eO e))
   |succ m=>simpa using q2 m (by omega)
theorem xo{K:W.Frag}{ι:Nat->Addr}{n:Nat}{H:L2.Hp}:∀{ys:List Tw.W}{zs:List V},aT K ι n H ys zs->ys.all Tw.isKey=true->∀v∈zs,∃q,v=kV q
 |_,_,.nil,_=>fun v hv=>by simp at hv
 |y::ys,z::zs,.cons a r,h=>fun v hv=>by
  rw[fL,aB] at h;rcases cQ.mp hv with rfl|hv
  .exact iO a h.1
  .exact xo r h.2 v hv
theorem Jx(me:Me X o "index" apos [e] cpos)(hst:starEach [e] X.env=[(false,eval e X.env)])(ho:PE X o (tE (zx X E) da))(he:PE X e (tE (zx X E) db)):
  PE X (.Call (.Attribute o "index" apos) [e] [] cpos) (tE (zx X E) (yk .index da db)):=by
 refine PE.imp (A1 BY PySem.F.slot_list_index PySem.F.type_list_index FQ ho (bA he cy hst) me.base me.m8 me.line hst rfl) fun σ H Q Z=>Z.g fun ρ Z=>Z.g fun h Z=>Z.g fun ι Z=>Z.g fun at' p=>?_;unfold yk at p;refine⟨ρ,h,ι,at',(step at' p).mono fun x H1 Z=>Z.g fun w Z=>Z.g fun h1 Z=>Z.g fun ι1 Z=>Z.g fun at1 Z=>Z.g fun e1 Z=>Z.g fun r1 p1=>?_⟩;obtain⟨c1,pp⟩:=ai.ite p1;clear p1;obtain⟨i,ws,rfl,ei⟩:=Ac (.inr (.inr rfl)) c1;cases r1 with
 |ref hi=>
  obtain⟨xs,q1,q2⟩:=at1.hr.lst ei;refine⟨.inl ⟨rfl,xs,bJ.of q1⟩,ρ,h1,ι1,at1,(step at1 pp).mono fun y H2 Z=>Z.g fun u Z=>Z.g fun h2 Z=>Z.g fun ι2 Z=>Z.g fun at2 Z=>Z.g fun e2 Z=>Z.g fun r2 p2=>?_⟩;have same:ι2 i=ι1 i:=e2.same i hi;cases ej:h2[i]? with
  |none=>simp only[Tw.method,ej] at p2;exact p2.elim
  |some oj=>
   cases oj with
   |lst ys=>
    simp only[Tw.method,ej] at p2;obtain⟨zs,z1,z2⟩:=at2.hr.lst ej;by_cases c:(Tw.isKey u&&ys.all Tw.isKey)=true
    .rw[if_pos c] at p2;simp only[aB] at c;obtain⟨k,rfl⟩:=iO r2 c.1;cases eo:Tw.hV u ys with
     |none=>rw[eo] at p2;exact p2.elim
     |some j=>
      rw[eo] at p2;obtain⟨g1,g2⟩:=yS r2 z2 c.2 eo;rw[same] at z1;exact⟨_,zs,k,j,rfl,rfl,z1,xo z2 c.2,g1,g2,ai.self (a:=Tw.W.int j) p2 at2.hr (.int _)⟩
    .rw[if_neg c] at p2;exact p2.elim
   |_=>simp only[Tw.method,ej] at p2;exact p2.elim
end
section
variable {X:Cx}{E:XK}{a b c e:Expr}{pos pos' p1 p2 pos2:Pos}{da db dc:Tw.Env->Tw.Hp->Tw.R Tw.W}
noncomputable def isCall:Expr->Bool
 |.Call .. => true
 |_=>false
theorem EX(h:isCall a=true):swapsWithSole [.Tuple [x,y] k p] a l env=pure false:=by cases a<;>first|rfl|cases h
theorem yZ(h:isCall a=true):swappedStores [.Tuple [x,y] k p] a env=pure none:=by cases a<;>first|rfl|cases h
theorem OJ(hg:PG X (.Tuple [x,y] k p) g)(ht:AK (zx X E) (.two i j) g)(ha:PE X a (tE (zx X E) da))(hc:isCall a=true):
  PS X (.Assign [.Tuple [x,y] k p] a pos) (dq (zx X E) fun ρ h=>(da ρ h).bind fun x h=>match x with
   |.tup [u,v]=>.ok (.next ((ρ.set i (some u)).set j (some v))) h
   |_=>.bad):=by
 refine PS.imp (EK ha hg (EX hc) (yZ hc)) fun D σ H ⟨ρ,h,ι,at',p⟩=>⟨ρ,h,ι,at',(ik at' p).mono fun x H1 ⟨w,h1,ι1,at1,e1,r1,p1⟩=>?_⟩;split at p1
 .next u v=>exact ht ι1 h1 H1 ρ _ σ (.tup [u,v]) x _ at1 r1 rfl fun σ1 at2=>p1.next at2
 .exact p1.elim
theorem Pn{tb:Tw.Env->Tw.Hp->Tw.R Tw.Fl}(hp:PassesOwn (model X.prog X.w) X.A X.env X.xe)(hc:PT X c (tT (zx X E) dc))(hb:ff X body (dq (zx X E) tb)):
  PS X (.While c body [] pos) (dq (zx X E) fun ρ h=>Tw.lT dc tb n ρ h):=by
 refine PS.imp (GF hp hc hb) fun D σ H Z=>Z.g fun ρ Z=>Z.g fun h Z=>Z.g fun ι Z=>Z.g fun at' p=>?_;refine⟨fun m σ H=>∃ρ h ι,At (zx X E) ι h H ρ σ/\bU (zx X E) ι h H (Tw.lT dc tb m ρ h) D,⟨n,ρ,h,ι,at',p⟩,?_⟩
 rintro m σ2 H2 ⟨ρ2,h2,ι2,at2,p2⟩
 cases m with
 |zero=>exact p2.elim
 |succ m=>
  unfold Tw.lT at p2;refine⟨ρ2,h2,ι2,at2,?_⟩;simp only[dT];cases e0:dc ρ2 h2 with
  |bad=>rw[e0] at p2;exact p2.elim
  |au=>rw[e0] at p2;exact p2
  |ok w h3=>
   simp only[e0,Tw.R.ak] at p2⊢;cases et:Tw.truth h3 w with
   |none=>rw[et] at p2;exact p2.elim
   |some k=>
    rw[et] at p2;intro ι3 H3 k' e3 r3 q;cases q;have at3:=at2.later e3 r3;cases k with
    |false=>rw[if_neg (by decide)];exact (bU.later p2 e3).next at3
    |true=>
     rw[if_pos rfl];refine⟨fun σ H=>∃ρ h ι,At (zx X E) ι h H ρ σ/\bU (zx X E) ι h H (Tw.lT dc tb m ρ h) D,fun σ' H' q=>⟨m,uS _,q⟩,ρ2,h3,ι3,at3,?_⟩;exact vi (go:=Tw.lT dc tb m) (bU.later p2 e3) fun ρ4 h4 ι4 H4 σ4 e4 at4 p4=>⟨ρ4,h4,ι4,at4,p4⟩
end
end TwS
namespace TwS
open PySem L2 PyProof.Rows Builtin Builtin.ObjectAttr
abbrev str(x:Tw.S):Str:=⟨x.toArray⟩
structure XT(K:W.Frag)(C:Addr):Prop where
 ha:W.findIn K (.ref C) "__class__" = some (some (.builtin "object.__class__"))
 hn:W.specialIn K (.builtin "object.__class__") "__get__" = some (some (.builtin "getset_descriptor.__get__"))
 ht:W.takesIn K (.builtin "object.__class__")=some true
section
variable {prog:Program}{w:World}{A:Around}{E:aJ}{s:Shared}{K:W.Frag}{x C:Addr}{ox:Obj}
theorem Kv{Q:Option Value->Shared->Prop}(X:K.In s.heap)(I:W.InstAt s.heap x ox C od)(c:XC K C)(t:XT K C)(h:Q (some (.ref C)) {s with toks:=s.toks+1}):wpAny (model prog w) A (getAttr? (.ref x) "__class__") Q E s:=by
 obtain⟨cd,os,e1,e2,e3⟩:=c.mro;obtain⟨hh,g,d,tk,ost⟩:=s;have L0:=I.type (M:=model prog w);have L1:=mG (M:=model prog w) X c.ga;have L2:=mG (M:=model prog w) X c.gh;have hf:W.findObj K C od "__class__" = some (.bind (.builtin "getset_descriptor.__get__") (.builtin "object.__class__")):=by unfold W.findObj;rw[e1,qO,t.ha,qO];simp[t.hn,t.ht]
 have L3:=W.looks_find (M:=model prog w) X I hf;have LB:W.Looks (model prog w) hh (isInstance (.ref x) (.type "BaseException")) true:=L0.andThen (AZ X (c.sub (by decide)));have G:=PySem.F.excAttr_ValueError.ga;unfold getAttr? getAttrBy? getAttrBy;refine af (wpAny_mkText (af (ug (eX (af (L0.at (af (L1.at ?_))))))));show wpAny _ _ (getAttrByItsOwn _ _ _ _ _ _) _ _ _;unfold getAttrByItsOwn;refine af (L2.at (af (ug (eX ?_))));show wpAny _ _ (boundAndCalled _ _ _) _ _ _;unfold boundAndCalled;rw[G.bind];refine af (ah (jI (v8 G.plain PySem.F.entry_bexc_ga (@A0 (model prog w) _ _ _ "BaseException.__getattribute__" "BaseException" "__getattribute__" (.ref x) [.str "__class__" tk] [] _ (by decide+kernel) (by decide+kernel) LB (PySem.F.args_bexc_ga _ _) ?_))));refine af (ah (af (ah (af (L0.at (af (L3.at ?_)))))));show wpAny _ _ (holding [_] (call _ [_,.ref x,.ref C]) >>= ret) _ _ _;refine af (eX (jI (W.class_get (ox:=ox) (od:=od) X I (c.sub (by decide)) ?_)));refine ah ?_;show wpAny _ _ (handedOut (.ref C)) _ _ _;rw[W.handedOut_of rfl];exact ah (ah h)
theorem wL(c:XC K C)(t:XT K C):W.KitX K (.ref x) (.ref C) (fun h=>W.InstAt h x ox C od) where
 ty:=fun _ _ _ I=>I.type
 it:=fun _ _ X _=>by
  obtain⟨cd,os,e1,_⟩:=c.mro;unfold W.clsIn at e1;split at e1
  .rename_i c' d' cd' sl' ho;intro A' Q' E' s' k q;unfold isType loadHead;exact af (wd (k _ _ (X _ _ ho)) (ah q))
  .cases e1
 ne:=fun h tp dd its n sl X htp=>by
  obtain⟨cd,os,e1,_⟩:=c.mro;refine Bool.eq_false_iff.mpr fun q=>?_;have e:C=tp:=Value.ref.inj (jb.mp q);subst e;unfold W.clsIn at e1;split at e1
  .rename_i c' d' cd' sl' ho;have z:=(X _ _ ho).symm.trans htp;cases z
  .cases e1
 ca:=fun X I k=>Kv X I c t k
end
section
variable {X:Cx}{pins:aO}{σ:L2.St}{H:L2.Hp}{s:Shared}
theorem Nd(I:Inv X pins σ H s)(he:H e=some (jV C dx e))(hd:XD H gs dx):∃o od,W.InstAt s.heap e o C od:=by
 obtain⟨⟨o,vs,a1,a2,a3,a4⟩,_,_⟩:=I.av e _ he;have nc:W.notCls o:=by unfold W.notCls;rw[a4]
 cases dx with
 |none=>exact⟨o,none,a1,a2,nc,by rw[a3];trivial⟩
 |some d=>
  obtain⟨mA,n1,r1⟩:=I.av d _ hd;obtain⟨od,ho,lk⟩:=pA n1;exact⟨o,some od,a1,a2,nc,by rw[a3];exact ho⟩
theorem vn:∀{ds:List Addr}{us:List Value},Vals (ds.map V.ref) us->us=ds.map Value.ref
 |[],us,r=>by cases r;rfl
 |d::ds,us,r=>by
  cases r with
  |cons a r=>cases a;rw[vn r];rfl
def Vi(K:W.Frag):List V->L2.Hp->VK->Prop:=fun xs H Q=>∃e C dx gs y b,xs=[V.ref e,y]/\H e=some (jV C dx e)/\XD H gs dx/\XC K C/\XT K C/\
 ((∃D,y=V.ref D/\W.kitOne K (.ref C) (.ref D)=some b)\/(∃T,y=V.ty T/\W.kitOne K (.ref C) (.type T)=some b)\/∃(p:Addr) (ds:List Addr),y=V.ref p/\H p=some (.tup (ds.map V.ref))/\W.kitAny K (.ref C) (ds.map Value.ref)=some b)/\Q (.bl b) H
theorem yj:eI X (.builtin "isinstance") (Vi X.K):=by
 intro pins s σ H xs us Q I r ⟨e,C,dx,gs,y,b,ex,he,hd,c,t,k,q⟩;subst ex;obtain⟨u,w',rfl,ru,rw'⟩:=vals2 r;cases ru;obtain⟨o,od,J⟩:=Nd I he hd;have fin:∀tk,EP X pins σ Q (Value.bool b) {s with toks:=tk}:=fun tk=>⟨.bl b,H,I.tok tk,rfl,q⟩;rcases k with ⟨D,rfl,k⟩|⟨T,rfl,k⟩|⟨p,ds,rfl,hp,k⟩
 .cases rw';exact W.kia_one (wL c t) I.bE J k (fun z=>nomatch z) fin
 .cases rw';exact W.kia_one (wL c t) I.bE J k (fun z=>nomatch z) fin
 .cases rw';obtain⟨z,vs,rv,⟨oc,od',oda,osl⟩,h1,h2,n,h3⟩:=I.av p _ hp;have ev:=vn rv;simp only at h2 h3;subst h2 h3 ev;exact W.kia_tup (wL c t) I.bE J h1 k (fun z=>nomatch z) fin
end
theorem JB:bootBuiltins "ValueError" = some (.type "ValueError"):=by decide+kernel
noncomputable def Ie:List V->TA
 |[]=>uR
 |v::r=>lR (tC v) (Ie r)
theorem DC:∀(vs:List V){Q:List V->L2.Hp->Prop},Q vs H->Ie vs σ H Q
 |[],Q,q=>q
 |v::vs,Q,q=>DC (σ:=σ) vs (Q:=fun xs H2=>Q (v::xs) H2) q
theorem wK(h:n<=100):n<=sizeLine:=by rw[fA];omega
def Mg(e:Expr):Option (Str×Expr):=(mS e).bind fun r=>if r.1=("isinstance" : Str) then (rW r.2).bind fun q=>(bB q.1).map fun a=>(a,q.2) else none
theorem Hx(h:Mg e=some r):∃p p2 pos,e=.Call (.Name "isinstance" p) [.Name r.1 p2,r.2] [] pos:=by
 obtain⟨⟨f,as⟩,e1,h⟩:=dy.mp h;dsimp only at h;by_cases c:f=("isinstance" : Str)
 .rw[if_pos c] at h;obtain⟨⟨x,y⟩,e2,h⟩:=dy.mp h;obtain⟨a,e3,rfl⟩:=iQ.mp h;obtain⟨p,pos,z1⟩:=fq e1;have z2:=iG e2;obtain⟨p2,z3⟩:=aL e3;dsimp only at z1 z2 z3⊢;exact⟨p,p2,pos,by rw[z1,z2,z3,c]⟩
 .rw[if_neg c] at h;cases h
noncomputable def tF:List Str->List Expr->Bool
 |[],es=>es.isEmpty
 |n::ns,es=>(nC es).any fun r=>decide (bB r.1=some n)&&tF ns r.2
end TwS
namespace TwS
open PySem L2 PyProof.Rows
section
variable {X:Cx}{E:XK}
theorem Pc{i:Nat}{x:Tw.S}{ds:List Tw.S}{y:Str}{p1 p2:Pos}(hj:X.N[i]?=some y)(vj:jP X.env.scope y)(oj:okN y=true)(hx:∀d∈ds,∃C,X.mg (str d)=some (.ref C)/\XC X.K C/\aZ X.K C (str x)):
  PE X (.Attribute (.Name y p1) (str x) p2) (tE (zx X E) fun ρ h=>(match ρ[i]? with|some (some w)=>Tw.R.ok w h|_=>.bad).bind fun w h=>Tw.R.of (Tw.lq w x ds h) h):=by
 refine PE.imp (P7 hj vj oj) fun σ H Q ⟨ρ,h,ι,at',p⟩=>?_;dsimp only at p;cases e:ρ[i]? with
 |none=>rw[e] at p;exact p.elim
 |some ow=>
  cases ow with
  |none=>rw[e] at p;exact p.elim
  |some w=>
   simp only[e,Tw.R.ak] at p;obtain⟨v,s1,rv⟩:=at'.st i w e;cases rv with
   | @ref a ha=>
    cases ea:h[a]? with
    |none=>simp only[Tw.lq,ea] at p;exact p.elim
    |some ob=>
     cases ob with
     |au c fs=>
      simp only[Tw.lq,ea] at p;by_cases cd:ds.contains c=true
      .rw[if_pos cd] at p;obtain⟨C,m,xc,na⟩:=hx c (uB.mp cd);obtain⟨C0,dx,gs,m0,t0,d0,rf⟩:=at'.hr.obj a _ ea;have em:C0=C:=by
        have m0:X.mg (str c)=some (.ref C0):=m0;rw[m] at m0;cases m0;rfl
       subst em;rcases rf.look (x:=x) with ⟨z,_⟩|⟨wp,vp,z1,z2,z3⟩
       .rw[z] at p;exact p.elim
       .rw[z1] at p;cases dx with
        |none=>obtain rfl:gs=[]:=d0;cases z2
        |some d=>exact⟨ι a,C0,d,gs,vp,s1,xc,na,t0,d0,z2,ai.self (a:=wp) p at'.hr z3⟩
      .rw[if_neg cd] at p;exact p.elim
     |_=>simp only[Tw.lq,ea] at p;exact p.elim
   |_=>exact p.elim
end
section
variable {X:Cx}{E:XK}
theorem DW{i:Nat}{ds cs:List Tw.S}{y:Str}{ye:Expr}{v0:V}{p p2 pos:Pos}(hg:Gl X "isinstance")(hm:X.mg "isinstance" = none)(hj:X.N[i]?=some y)(vj:jP X.env.scope y)(oj:okN y=true)(he:PE X ye (tC v0))(hst:starEach [ye] X.env=(false,eval ye X.env)::starEach [] X.env)
  (hk:∀d∈ds,∃C,X.mg (str d)=some (.ref C)/\XC X.K C/\XT X.K C/\((∃D,v0=V.ref D/\W.kitOne X.K (.ref C) (.ref D)=some (cs.contains d))\/∃T,v0=V.ty T/\W.kitOne X.K (.ref C) (.type T)=some (cs.contains d))):
  PE X (.Call (.Name "isinstance" p) [.Name y p2,ye] [] pos) (tE (zx X E) fun ρ h=>(match ρ[i]? with|some (some w)=>Tw.R.ok w h|_=>.bad).bind fun w h=>Tw.R.of ((Tw.pQ w ds cs h).map .bl) h):=by
 refine PE.imp (rU yj hg hm PyProof.Rows.boot_isinstance (bA (jU (i:=i) hj vj (okN.d oj).1 (okN.d oj).2) (bA he cy hst) rfl) (he:=rfl) (hpl:=by rw[hst];rfl)) fun σ H Q ⟨ρ,h,ι,at',p⟩=>?_;dsimp only at p;cases e:ρ[i]? with
 |none=>rw[e] at p;exact p.elim
 |some ow=>
  cases ow with
  |none=>rw[e] at p;exact p.elim
  |some w=>
   simp only[e,Tw.R.ak] at p;obtain⟨v,s1,rv⟩:=at'.st i w e;cases rv with
   | @ref a ha=>
    cases ea:h[a]? with
    |none=>simp only[Tw.pQ,ea] at p;exact p.elim
    |some ob=>
     cases ob with
     |au c fs=>
      simp only[Tw.pQ,ea] at p;by_cases cd:ds.contains c=true
      .rw[if_pos cd] at p;obtain⟨C,m,xc,xt,k⟩:=hk c (uB.mp cd);obtain⟨C0,dx,gs,m0,t0,d0,rf⟩:=at'.hr.obj a _ ea;have em:C0=C:=by
        have m0:X.mg (str c)=some (.ref C0):=m0;rw[m] at m0;cases m0;rfl
       subst em;refine⟨_,s1,ι a,C0,dx,gs,v0,cs.contains c,rfl,t0,d0,xc,xt,?_,ai.self (a:=Tw.W.bl (cs.contains c)) p at'.hr (.bl _)⟩;rcases k with k|k
       .exact .inl k
       .exact .inr (.inl k)
      .rw[if_neg cd] at p;exact p.elim
     |_=>simp only[Tw.pQ,ea] at p;exact p.elim
   |_=>exact p.elim
theorem Nn{i:Nat}{ds cs:List Tw.S}{y:Str}{ye:Expr}{as:List Addr}{p p2 pos:Pos}(hg:Gl X "isinstance")(hm:X.mg "isinstance" = none)(hj:X.N[i]?=some y)(vj:jP X.env.scope y)(oj:okN y=true)(he:PE X ye (MX (Ie (as.map V.ref))))(hl:as.length<=100)(hst:starEach [ye] X.env=(false,eval ye X.env)::starEach [] X.env)
  (hk:∀d∈ds,∃C,X.mg (str d)=some (.ref C)/\XC X.K C/\XT X.K C/\W.kitAny X.K (.ref C) (as.map Value.ref)=some (cs.contains d)):
  PE X (.Call (.Name "isinstance" p) [.Name y p2,ye] [] pos) (tE (zx X E) fun ρ h=>(match ρ[i]? with|some (some w)=>Tw.R.ok w h|_=>.bad).bind fun w h=>Tw.R.of ((Tw.pQ w ds cs h).map .bl) h):=by
 refine PE.imp (rU yj hg hm PyProof.Rows.boot_isinstance (bA (jU (i:=i) hj vj (okN.d oj).1 (okN.d oj).2) (bA he cy hst) rfl) (he:=rfl) (hpl:=by rw[hst];rfl)) fun σ H Q ⟨ρ,h,ι,at',p⟩=>?_;dsimp only at p;cases e:ρ[i]? with
 |none=>rw[e] at p;exact p.elim
 |some ow=>
  cases ow with
  |none=>rw[e] at p;exact p.elim
  |some w=>
   simp only[e,Tw.R.ak] at p;obtain⟨v,s1,rv⟩:=at'.st i w e;cases rv with
   | @ref a ha=>
    cases ea:h[a]? with
    |none=>simp only[Tw.pQ,ea] at p;exact p.elim
    |some ob=>
     cases ob with
     |au c fs=>
      simp only[Tw.pQ,ea] at p;by_cases cd:ds.contains c=true
      .rw[if_pos cd] at p;obtain⟨C,m,xc,xt,k⟩:=hk c (uB.mp cd);obtain⟨C0,dx,gs,m0,t0,d0,rf⟩:=at'.hr.obj a _ ea;have em:C0=C:=by
        have m0:X.mg (str c)=some (.ref C0):=m0;rw[m] at m0;cases m0;rfl
       subst em;replace p:ai (zx X E) RE ι h H (Tw.R.ok (Tw.W.bl (cs.contains c)) h) Q:=p;refine⟨_,s1,DC _ ⟨wK (by simpa using hl),fun a4 z4=>?_⟩⟩;obtain⟨r4,e4⟩:=at'.hr.grow (o:=.tup (as.map V.ref)) z4;exact⟨ι a,C0,dx,gs,.ref a4,cs.contains c,rfl,lQ (o:=.tup (as.map V.ref)) z4 _ _ t0,XD.keep d0 (fun b u _=>lQ (o:=.tup (as.map V.ref)) z4 b u),xc,xt,.inr (.inr ⟨a4,as,rfl,aM,k⟩),p _ _ _ e4 r4 (.bl _)⟩
      .rw[if_neg cd] at p;exact p.elim
     |_=>simp only[Tw.pQ,ea] at p;exact p.elim
   |_=>exact p.elim
theorem HN:∀(ns:List Tw.S)(as:List Addr)(es:List Expr),tF (ns.map str) es=true->(∀n∈ns,Gl X (str n)/\(str n== ("__debug__" : Str))=false)->(ns.map fun n=>X.mg (str n))=(as.map fun a=>some (Value.ref a))->PA X es (Ie (as.map V.ref))
 |[],[],es,h,_,_=>by
  rw[eM,tF] at h;rw[bI h];exact cy
 |[],_::_,_,_,_,e=>nomatch e
 |_::_,[],_,_,_,e=>nomatch e
 |n::ns,a::as,es,h,g,e=>by
  rw[aX,tF] at h;replace h:=ay h;obtain⟨⟨x,r⟩,e1,h⟩:=h;obtain rfl:=dQ e1;simp only[aB,aN] at h;obtain⟨p3,z⟩:=aL h.1;dsimp only at z⊢;rw[z];simp only[aX,List.cons.injEq] at e;have gn:=g n (by simp);exact bA (m6 gn.1 e.1 rfl gn.2) (HN ns as r h.2 (fun m hm=>g m (by simp[hm])) e.2) rfl
end
inductive Fk where
 |fn (x:Str)
 |me (c m:Tw.S)
 deriving DecidableEq
structure Cfg where
 fns:List Fk
 tabs:List (Str×List (Tw.S×Nat)):=[]
 keys:List (Str×List Tw.S):=[]
 cons:List (Str×Tw.W):=[]
 cG:List (Tw.S×List Tw.S):=[]
 hd:Bool:=false
 ib:List (Tw.S×List Tw.S):=[]
 lY:List (List Tw.S×List Tw.S):=[]
mutual
noncomputable def same:Tw.W->Tw.W->Bool
 |.aq,.aq=>true
 |.bl a,.bl b=>decide (a=b)
 |.int a,.int b=>decide (a=b)
 |.str a,.str b=>decide (a=b)
 |.tup xs,.tup ys=>ql xs ys
 |_,_=>false
noncomputable def ql:List Tw.W->List Tw.W->Bool
 |[],[]=>true
 |x::xs,y::ys=>same x y&&ql xs ys
 |_,_=>false
end
mutual
theorem Ay:∀(x y:Tw.W),same x y=true->x=y
 |.aq,y,h=>by cases y<;>first|rfl|(simp[same] at h)
 |.bl a,y,h=>by cases y<;>simp[same] at h;rw[h]
 |.int a,y,h=>by cases y<;>simp[same] at h;rw[h]
 |.str a,y,h=>by cases y<;>simp[same] at h;rw[h]
 |.tup xs,y,h=>by
  cases y with
  |tup ys=>rw[same] at h;rw[w6 xs ys h]
  |_=>simp[same] at h
 |.ref a,y,h=>by cases y<;>simp[same] at h
 |.lst a,y,h=>by cases y<;>simp[same] at h
theorem w6:∀(xs ys:List Tw.W),ql xs ys=true->xs=ys
 |[],[],_=>rfl
 |[],_::_,h=>by simp[ql] at h
 |_::_,[],h=>by simp[ql] at h
 |x::xs,y::ys,h=>by
  rw[ql,aB] at h;rw[Ay x y h.1,w6 xs ys h.2]
end
def Fb(cf:Cfg)(x:Str)(w:Tw.W):Bool:=match cf.cons.lookup x with
 |some u=>same u w
 |none=>false
def gD:Tw.S:=[95,95,105,110,105,116,95,95]
noncomputable def RG:Tw.Op->Operator
 |.add=>.Add | .sub=>.Sub | .mul=>.Mult | .fdiv=>.FloorDiv | .mod=>.Mod | .pow=>.Pow
noncomputable def IK:Tw.Cp->CmpOp
 |.eq=>.Eq | .ne=>.NotEq | .lt=>.Lt | .le=>.LtE | .gt=>.Gt | .ge=>.GtE | .isin=>.In | .notin=>.NotIn | .isN=>.Is | .notN=>.IsNot
noncomputable def Ft:Tw.W->Const->Bool
 |.aq,.none=>true
 |.bl b,.bool c=>b== c
 |.int i,.int j=>decide (i=j)
 |.str x,.str y=>decide (y.cps.toList=x)&&x.all (fun c=>decide (c<0x110000))
 |_,_=>false
noncomputable def bN:Tw.B->Str
 |.len=> "len" | .list=> "list" | .tuple=> "tuple" | .dict=> "dict" | .int=> "int" | .listE=> "" | .listR=> "" | .dictP=> "dict" | .listS=> "list"
noncomputable def mN:Tw.Mt->Str
 |.append=> "append" | .get=> "get" | .join=> "join" | .index=> "index" | .pop=> "pop" | .rev=> "reverse"
noncomputable def QG:Tw.Cp->Bool
 |.eq | .ne | .gt | .isin | .notin | .isN | .notN=>true
 |_=>false
noncomputable def m8:Tw.Mt->Nat->Bool
 |.append,1=>true | .get,1=>true | .get,2=>true | .join,1=>true | .index,1=>true | .rev,0=>true
 |_,_=>false
noncomputable def Ly:Expr->Bool
 |.IfExp .. => false
 |_=>true
def eT(e:Expr):Bool:=aI e&&Ly e
def oV(x:Str):Bool:=!(x== ("__debug__" : Str))
theorem fD(h:oV x=true):(x== ("__debug__" : Str))=false:=by unfold oV at h;simpa using h
noncomputable def isNil:Tw.Es->Bool
 |.nil=>true
 |_=>false
mutual
noncomputable def aS(cf:Cfg)(sc:Sc)(N:List Str):Tw.E->Expr->Bool
 |.var i,e=>(bB e).any fun x=>decide (N[i]?=some x)&&uQ sc x&&oV x&&!(x== ("__classdict__" : Str))
 |.cst w,e=>(nq e).any (fun c=>Ft w c) || (bB e).any fun x=>jo sc x&&oV x&&Fb cf x w
 |.tup es,e=>(n9 e).any fun xs=>fV cf sc N es xs&&decide (xs.length<=1000)
 |.lst es,e=>(Iu e).any fun xs=>fV cf sc N es xs&&decide (xs.length<=1000)
 |.aj es,e=>(Dx e).any fun r=>r.1.isEmpty&&r.2.isEmpty&&isNil es
 |.bin op a b,e=>(HZ e).any fun r=>decide (r.2.1=RG op)&&aS cf sc N a r.1&&aS cf sc N b r.2.2
 |.cmp op a b,e=>(BH e).any fun r=>QG op&&decide (r.2.1=[IK op])&&(fN r.2.2).any fun y=>aI y&&aS cf sc N a r.1&&aS cf sc N b y
 |.and a b,e=>(wV e).any fun r=>v3 r.1&&(nC r.2.1).any fun q=>(nC q.2).any fun s=>eT q.1&&aS cf sc N a q.1&&(if s.2.isEmpty then eT s.1&&aS cf sc N b s.1 else aS cf sc N b (.BoolOp .And (s.1::s.2) r.2.2))
 |.or a b,e=>(wV e).any fun r=>!(v3 r.1)&&(nC r.2.1).any fun q=>(nC q.2).any fun s=>eT q.1&&aS cf sc N a q.1&&(if s.2.isEmpty then eT s.1&&aS cf sc N b s.1 else aS cf sc N b (.BoolOp .Or (s.1::s.2) r.2.2))
 |.not a,e=>(Ox e).any fun r=>Io r.1&&eT r.2&&aS cf sc N a r.2
 |.ite c a b,e=>(L8 e).any fun r=>eT r.1&&aS cf sc N c r.1&&aS cf sc N a r.2.1&&aS cf sc N b r.2.2
 |.idx a b,e=>(nS e).any fun r=>aI r.2&&aS cf sc N a r.1&&aS cf sc N b r.2
 |.sl a lo hi,e=>(nS e).any fun r=>(Iy r.2).any fun s=>s.2.2.isNone&&aS cf sc N a r.1&&Bo cf sc N lo s.1&&Bo cf sc N hi s.2.1
 |.call f es,e=>(mS e).any fun r=>decide (cf.fns[f]?=some (.fn r.1))&&jo sc r.1&&oV r.1&&!(r.2.isEmpty)&&fV cf sc N es r.2
 |.blt b a,e=>!cf.hd&&(mS e).any fun r=>(fN r.2).any fun y=>match b with
  |.listR=>false
  |.listE=>false
  |b=>decide (r.1=bN b)&&decide (b≠.int/\b≠.listS)&&jo sc r.1&&aI y&&aS cf sc N a y
 |.ji m o es,e=>(yP e).any fun r=>decide (r.2.1=mN m)&&m8 m r.2.2.2.1.length&&(r.2.2.1.endLine== r.2.2.2.2.line)&&aI r.1&&kF r.1&&aS cf sc N o r.1&&fV cf sc N es r.2.2.2.1
 |.wF a t,_=>false
 |.comp el it c,e=>!cf.hd&&(sI e).any fun r=>(wz r.2.1).any fun g=>(bB g.1).any fun x=>yC N sc [x] r.2.2.1&&decide (bP N [x]).Nodup&&aI g.2.1&&yi cf sc N false it g.2.1&&aS cf r.2.2.1.names (bP N [x]) el r.1&&
   (match c with
    |.none=>g.2.2.isEmpty
    |.some d=>(fN g.2.2).any fun z=>eT z&&aS cf r.2.2.1.names (bP N [x]) d z)
 |.ij el it,e=>!cf.hd&&(sI e).any fun r=>(wz r.2.1).any fun g=>g.2.2.isEmpty&&(n9 g.1).any fun ts=>(rW ts).any fun q=>(bB q.1).any fun x=>(bB q.2).any fun z=>yC N sc [x,z] r.2.2.1&&decide (bP N [x,z]).Nodup&&aI g.2.1&&yi cf sc N true it g.2.1&&aS cf r.2.2.1.names (bP N [x,z]) el r.1
 |.bad,_=>true
 |.fld a x,e=>(lA e).any fun r=>decide (r.2.1=⟨x.toArray⟩)&&Ai.contains r.2.1&&aI r.1&&kF r.1&&aS cf sc N a r.1
 |.mk c f es,e=>(mS e).any fun r=>decide (r.1=⟨c.toArray⟩)&&decide (cf.fns[f]?=some (.me c gD))&&jo sc r.1&&oV r.1&&fV cf sc N es r.2
 |.own o c m f es,e=>(yP e).any fun r=>decide (r.2.1=⟨m.toArray⟩)&&decide (cf.fns[f]?=some (.me c m))&&decide (m≠gD)&&(r.2.2.1.endLine== r.2.2.2.2.line)&&decide (r.2.2.2.1.length<20)&&aI r.1&&kF r.1&&aS cf sc N o r.1&&fV cf sc N es r.2.2.2.1
 |.sA g k es,e=>(sV e).any fun r=>r.2.2.1.isEmpty&&!(r.2.1.isEmpty)&&(nS r.1).any fun s=>(bB s.1).any fun x=>decide (cf.tabs.lookup x=some g)&&jo sc x&&oV x&&aI s.2&&aS cf sc N k s.2&&fV cf sc N es r.2.1
 |.Ab k g,e=>(BH e).any fun r=>decide (r.2.1=[.In])&&(fN r.2.2).any fun y=>(bB y).any fun x=>decide (cf.keys.lookup x=some g)&&jo sc x&&oV x&&aS cf sc N k r.1
 |.i4 a ns ds cs,e=>match a with
  |.var i=>(Mg e).any fun r=>decide (N[i]?=some r.1)&&uQ sc r.1&&okN r.1&&jo sc "isinstance" && decide ((ns,cs)∈cf.lY)&&ds.all (fun d=>(cf.cG.lookup d).isSome)&&((bB r.2).any (fun x=>decide (ns.map str=[x])&&jo sc x&&oV x) || (n9 r.2).any fun es=>decide (2<=ns.length)&&decide (ns.length<=100)&&tF (ns.map str) es&&ns.all fun n=>jo sc (str n)&&oV (str n))
  |_=>false
 |.rm a x ds,e=>match a with
  |.var i=>(LR e).any fun r=>decide (N[i]?=some r.1)&&uQ sc r.1&&okN r.1&&decide (r.2=str x)&&ds.all fun d=>(cf.cG.lookup d).any fun fs=>fs.contains x
  |_=>false
noncomputable def fV(cf:Cfg)(sc:Sc)(N:List Str):Tw.Es->List Expr->Bool
 |.nil,xs=>xs.isEmpty
 |.cons e es,xs=>(nC xs).any fun r=>aI r.1&&aS cf sc N e r.1&&fV cf sc N es r.2
noncomputable def Bo(cf:Cfg)(sc:Sc)(N:List Str):Tw.Eo->Option Expr->Bool
 |.none,o=>o.isNone
 |.some e,o=>o.any fun x=>aS cf sc N e x
noncomputable def yi(cf:Cfg)(sc:Sc)(N:List Str)(tp:Bool):Tw.It->Expr->Bool
 |.seq a,e=>aS cf sc N a e
 |.kj a,e=>(mS e).any fun r=>(fN r.2).any fun y=>decide (r.1=("range" : Str))&&jo sc r.1&&aI y&&aS cf sc N a y
 |.Cb a b,_=>false
 |.zip a b,e=>(mS e).any fun r=>(rW r.2).any fun q=>tp&&decide (r.1=("zip" : Str))&&jo sc r.1&&aI q.1&&aI q.2&&aS cf sc N a q.1&&aS cf sc N b q.2
 |.enum a,e=>(mS e).any fun r=>(fN r.2).any fun y=>tp&&decide (r.1=("enumerate" : Str))&&jo sc r.1&&aI y&&aS cf sc N a y
 |.rev a,e=>(mS e).any fun r=>(fN r.2).any fun y=>decide (r.1=("reversed" : Str))&&jo sc r.1&&aI y&&aS cf sc N a y
end
noncomputable def df:List Str:=["len", "list", "tuple", "dict", "int", "str", "bool", "isinstance", "range", "zip", "enumerate", "reversed"]
structure xK(K:W.Frag)(mg:Str->Option Value)(cf:Cfg):Prop where
 exc:∀c fs,cf.cG.lookup c=some fs->∃C,mg (str c)=some (.ref C)/\XC K C/\XT K C/\∀g∈fs,aZ K C (str g)
 ib:∀n cs,(n,cs)∈cf.ib->∃D,mg (str n)=some (.ref D)/\∀c fs C,cf.cG.lookup c=some fs->mg (str c)=some (.ref C)->W.exmOne K (.ref C) (.ref D)=some (cs.contains c)
 lY:∀ns cs,(ns,cs)∈cf.lY->(∃n D,ns=[n]/\mg (str n)=some (.ref D)/\∀c fs C,cf.cG.lookup c=some fs->mg (str c)=some (.ref C)->W.kitOne K (.ref C) (.ref D)=some (cs.contains c))\/
  (ns.map str=[("ValueError" : Str)]/\mg "ValueError" = none/\∀c fs C,cf.cG.lookup c=some fs->mg (str c)=some (.ref C)->W.kitOne K (.ref C) (.type "ValueError")=some (cs.contains c))\/
  ∃as:List Addr,2<=ns.length/\(ns.map fun n=>mg (str n))=(as.map fun a=>some (Value.ref a))/\∀c fs C,cf.cG.lookup c=some fs->mg (str c)=some (.ref C)->W.kitAny K (.ref C) (as.map Value.ref)=some (cs.contains c)
structure fY(cf:Cfg)(C:Tw.Or)(CX:iH)(E:XK)(X:Cx):Prop where
 calm:cf.hd=false->X.calm=true
 units:X.A.units+100<cLine
 own:∀f x,cf.fns[f]?=some (.fn x)->∃k g fd ps,cv X.prog X.w X.K X.mg X.base CX k g fd ps (iz X.K X.mg (C f))/\bZ k X.A/\X.mg x=some (.ref g)/\W.keepIn X.K (.ref g)=true/\Binds X.K fd ps []
 me:∀f c m,cf.fns[f]?=some (.me c m)->∃k g fd ps A,cv X.prog X.w X.K X.mg X.base CX k g fd ps (iz X.K X.mg (C f))/\bZ (k+1) X.A/\X.mg ⟨c.toArray⟩=some (.ref A)/\GoodC X.K A/\(m=gD->Mk X.K A g)/\(m≠gD->Meth X.K A ⟨m.toArray⟩ g)/\Binds X.K fd ps []
 tab:∀x g,cf.tabs.lookup x=some g->∃t D,X.mg x=some (.ref t)/\oP X.K t D/\(∀s f,g.lookup s=some f->∃y ga,cf.fns[f]?=some (.fn y)/\X.mg y=some (.ref ga)/\KTD.datumAt (⟨s.toArray⟩:Str) D=some ga)
 key:∀x g,cf.keys.lookup x=some g->∃t D,X.mg x=some (.ref t)/\oP X.K t D/\∀s:Tw.S,KTD.inKeys (⟨s.toArray⟩:Str) D=g.contains s
 con:∀x w,cf.cons.lookup x=some w->∃v u,X.mg x=some u/\RelV v u/\∀ι n H,RW X.K ι n H w v
 blt:∀x∈df,X.mg x=none
 xf:xK X.K X.mg cf
 pass:Passes CX X E
 never:∀outer H s e s',¬ CX outer H s E0 e s'
theorem fY.comp(r:fY cf C CX E X):fY cf C CX E0 (bq X scope c x s H pins fp):=
 ⟨r.calm,r.units,r.own,r.me,r.tab,r.key,r.con,r.blt,r.xf,fun _ _ _ _ _ _ _ h=>(r.never _ _ _ _ _ h).elim,r.never⟩
theorem fY.qZ(r:fY cf C CX E X):fY cf C CX E0 X.qZ:=
 ⟨r.calm,r.units,r.own,r.me,r.tab,r.key,r.con,r.blt,r.xf,fun _ _ _ _ _ _ _ h=>(r.never _ _ _ _ _ h).elim,r.never⟩
noncomputable abbrev QS(cf:Cfg):Cfg:={cf with fns:=[],tabs:=[],keys:=[],hd:=true}
theorem fY.hd(r:fY cf C CX E X)(v:Value):fY (QS cf) C CX E0 (hX X v):=
 ⟨fun z=>(nomatch z),r.units,fun f x e=>(by simp at e),fun f c m e=>(by simp at e),fun x g e=>(nomatch e),fun x g e=>(nomatch e),r.con,r.blt,⟨r.xf.exc,r.xf.ib,r.xf.lY⟩,fun _ _ _ _ _ _ _ h=>(r.never _ _ _ _ _ h).elim,r.never⟩
theorem lX:plainId "dict.update.loop" = true:=by decide+kernel
theorem vv:entryFor table "dict.update.loop" = some Builtin.«dict.update.loop» := entryFor_of_fast (by kernel_rfl)
theorem Jg:typeLookup (.type "list") "keys" = pure none:=by rw[typeLookup_type,builtinLookup_eq_fast];kernel_rfl
theorem ED{E:aJ}{Q:Option Value->Shared->Prop}
  (hx:s.heap.get? a=some {cls:=.type "list",data:=.seq xs k}) (hA:A.handled=none)
  (h:∀h' tk,(∀b o,s.heap.get? b=some o->h'.get? b=some o)->Q none {s with heap:=h',toks:=tk}):
  wpAny (model prog w) A (getAttr? (.ref a) "keys") Q E s:=by
 obtain⟨hp,g,d,tk,os⟩:=s;have hT:∀tk',(⟨hp,g,d,tk',os⟩:Shared).TypeIs (.ref a) "list" := fun _=>⟨_,hx,rfl⟩;have f1:=sub_AttributeError;have f3:=Gh.lookup;have f4:=Gh.bind (.ref a);have f5:=am_list_getattr_none;unfold getAttr? getAttrBy? getAttrBy;repeat (any_goals (first|assumption|exact hT _|((with_reducible show wpAny _ _ (call (Value.builtin "list.__getattribute__") _ _) _ _ _);refine oq Gh (hT _) am_entry_list_getattribute (F.args_list_getattribute_2 _ _) (meets_getattribute_miss_list a xs k #[] "keys" _ Jg (by decide) (by size_fits)) ⟨hx,hA,fun h' tk' e hx'=>?_⟩)|wp_step))
 obtain⟨t',u',he⟩:=hx'.there;show wpAny _ _ (getattributeRaised _ _ _ _ _ _ _) _ _ _;unfold getattributeRaised;repeat (any_goals (first|assumption|wp_step))
 exact h _ _ hx'.keeps
def Pr(K:W.Frag)(H:L2.Hp):List V->List (Key×V)->Prop
 |[],[]=>True
 |x::xs,(k,v)::ps=>(∃t,x=.ref t/\TupAt K H t [kV k,v])/\Pr K H xs ps
 |_,_=>False
theorem Pr.upd{K:W.Frag}{H:L2.Hp}{d:Addr}{o:HO}(hd:∀xs,H d≠some (.tup xs)):∀{xs:List V}{ps:List (Key×V)},Pr K H xs ps->Pr K (upd H d o) xs ps
 |[],[],_=>trivial
 |x::xs,(k,v)::ps,⟨⟨t,e,ta⟩,r⟩=>⟨⟨t,e,ta.imp (fun z=>(az (fun q=>hd _ (q▸z))).trans z) id⟩,Pr.upd hd r⟩
section
variable {X:Cx}{pins:aO}{σ:L2.St}
theorem Qk{E:aJ}{Q:Unit->Shared->Prop}(I:L2.Inv X pins σ H s)(e:H a=some (.dK kvs))(l:kvs.length<sizeLine)(ry:RelV (kV k) u)(rv:RelV v r)(h:∀s',L2.Inv X pins σ (upd H a (.dK (putK kvs k v))) s'->(∀b o,b≠a->s.heap.get? b=some o->s'.heap.get? b=some o)->Q () s'):
  wpAny (model X.prog X.w) A (dictSet a u r) Q E s:=by
 obtain⟨z,hd,vs,rel,dd⟩:=Bq I.av e;have hz:vs.length<=sizeLine:=by rw[<-rel.length];exact z
 have hl:(putK kvs k v).length<=sizeLine:=by have:=jH kvs k v;omega
 refine wpAny_dictSet_pairs (hsz:=hz) (mf ry) dd fun h' dd' hs=>h _ ?_ fun b o hb e=>(hs.2 b hb).trans e;have he:∃q,h'.get? a=some q:=let ⟨q,_,_,hq,_⟩:=dd';⟨q,hq⟩
 exact uy I (by rw[e];exact oN) hs he (tU hl hd (rel.put k rv) dd')
def qw(kvs:List (Key×V)):List (Key×V)->List (Key×V)
 |[]=>kvs
 |(k,v)::r=>qw (putK kvs k v) r
theorem FP{ys:List V}{a it d:Addr}(hc:X.calm=true):∀(rest pre:List V)(ps kvs:List (Key×V))(H:L2.Hp)(s:Shared)(i:Int)(tk:Tok),ys=pre++rest->L2.Inv (dn X) pins σ H s->s.heap.IsListIter it a pre.length->fO (dn X) pins H it->H a=some (.lst ys)->H d=some (.dK kvs)->kvs.length+rest.length<=sizeLine->Pr X.K H rest ps->
  codeAny (model X.prog X.w) X.A (.builtin "dict.update.loop" ⟨[.ref d,.ref it,.int i tk,.none],[]⟩) (fun r s2=>r=.ok (.ret .none)/\L2.Inv (dn X) pins σ (upd H d (.dK (qw kvs ps))) s2) s:=by
 intro rest;have T:=vG (P:=X.prog) (w:=X.w) (K:=X.K) (tg:=.Name "x" default) a it
 induction rest with
 |nil=>
  intro pre ps kvs H s i tk ey I Z hf ha hd hl hp;cases ps with
  |cons _ _=>exact hp.elim
  |nil=>
   refine codeAny_builtin vv ?_;rw[Around.under_plainId lX _];unfold Builtin.«dict.update.loop»;refine af (aF (T.done (dn X) rfl rfl rfl hc pre.length pins s σ H _ I (fun b hb=>by rw[pS.mp hb];exact hf) Z ⟨ys,bJ.of ha,by rw[ey];simp⟩) fun r s1 Y=>Y.g fun er I1=>?_);subst er;have e:upd H d (.dK (qw kvs []))=H:=by
    funext b;unfold upd;split
    .rename_i z;rw[z,hd];rfl
    .rfl
   rw[e];exact af (ah (ah ⟨rfl,I1⟩))
 |cons x rest ih=>
  intro pre ps kvs H s i tk ey I Z hf ha hd hl hp;cases ps with
  |nil=>exact hp.elim
  |cons kv ps=>
   obtain⟨k,v⟩:=kv;obtain⟨⟨t,ex,ta⟩,hp'⟩:=hp;refine codeAny_builtin vv ?_;rw[Around.under_plainId lX _];unfold Builtin.«dict.update.loop»;have hx:ys[pre.length]?=some x:=by rw[ey];simp
   refine af (aF (T.item (dn X) rfl rfl rfl hc pre.length pins s σ H _ I (fun b hb=>by rw[pS.mp hb];exact hf) Z ⟨ys,x,bJ.of ha,hx⟩) fun r s1 Y=>Y.g fun u Y=>Y.g fun er hg=>?_);subst er;have hg:wpAny (model X.prog X.w) (dn X).A (pure ()) _ _ s1:=hg;refine pj (v:=()) hg fun⟨x',H',I1,rx,⟨eH,yl⟩,Z1,fz⟩=>?_;subst eH;have:x'=x:=by have:=yl ys (bJ.of ha);rw[hx] at this;exact (eO this).symm
   subst this;subst ex;cases rx;obtain⟨its,rv,tp,_⟩:=I1.tuple ta.sq;obtain⟨o,e1,e2,n,e3⟩:=tp;cases rv with
   | @cons _ u1 _ us r1 rv=>
    cases rv with
    | @cons _ u2 _ us r2 rv=>
     cases rv;refine af (eX (af (wpAny_tryCatch ?_)));unfold Builtin.Dict.pairItems;refine af (wpAny_typeOf ⟨o,e1,e2⟩ ?_);rw[if_pos (by decide)];refine af ?_;unfold seqItems?;refine af (wpAny_load e1 ?_);rw[e3];refine ah (ah ?_);have ne:it≠d:=fun z=>by have:=hf.1;rw[z,hd] at this;cases this
     show wpAny _ _ (holding [u1,u2] (dictSet d u1 u2)) _ _ _;simp only[dX] at hl;refine eX (Qk (X:=dn X) I1 hd (by omega) r1 r2 fun s2 I2 kp=>?_);have ad:a≠d:=fun z=>by rw[z,hd] at ha;cases ha
     have lp:=jH kvs k v;have hz:=ih (pre++[.ref t]) ps (putK kvs k v) (upd H' d (.dK (putK kvs k v))) s2 (i+1) 0 (by rw[ey];simp) I2 (by
      have:(pre++[V.ref t]).length=pre.length+1:=by simp
      rw[this];exact Z1.at fun o e=>kp it o ne e) ⟨by rw[az ne];exact hf.1,hf.2⟩ (by rw[az ad];exact ha) aM (by omega) (hp'.upd fun xs z=>by rw[hd] at z;cases z)
     rw[qt] at hz;exact ah ⟨plainId_quiet lX _,hz⟩
theorem BP(hc:X.calm=true):eI X (.type "dict") (fun xs H Q=>∃a ys ps,xs=[V.ref a]/\H a=some (.lst ys)/\Pr X.K H ys ps/\∀l,H l=none->Q (.ref l) (upd H l (.dK (qw [] ps)))):=by
 intro pins s σ H xs us Q I r ⟨a,ys,ps,ex,ea,hp,q⟩;subst ex;obtain⟨u,rfl,ru⟩:=vals1 r;cases ru;obtain⟨Z,its,n,rr,hl',e⟩:=I.ux ea;refine callType_codes (Q₁:=fun obj s₁=>obj=.ref s.heap.objs.size/\s₁={s with heap:=s.heap.push {cls:=.type "dict",data:=.dict #[]}}) F.kt_called_dict (F.kt_typeCall_dict_1 _) F.entry_dict_init (kt_code_dict_new _ ⟨rfl,rfl⟩) ?_
 rintro obj s₁ ⟨rfl,rfl⟩
 have hnew:(s.heap.push {cls:=.type "dict",data:=.dict #[]}).DictOf (bS X.prog X.w) s.heap.objs.size []:=Heap.DictOf.new s.heap;have kp:∀b o,s.heap.get? b=some o->(s.heap.push {cls:=.type "dict",data:=.dict #[]}).get? b=some o:=fun b o e=>bj _ e;have I1:L2.Inv X pins σ (upd H s.heap.objs.size (.dK [])) {s with heap:=s.heap.push {cls:=.type "dict",data:=.dict #[]}}:=I.laid (a:=s.heap.objs.size) (o:=.dK []) (t':=s.toks) kp (aG _) (tU (sT _) (gG.mpr (bc (b7 I.big))) .nil hnew);have hn:H s.heap.objs.size=none:=I.av.fresh (aG _);have na:a≠s.heap.objs.size:=fun z=>by rw[z,hn] at ea;cases ea
 refine⟨hnew.typeIs,F.args_dict_init_2 _ _,?_⟩;unfold Builtin.«dict.__init__»;refine af ?_;unfold Builtin.Dict.selfAndRest;refine af (wpAny_notOrdered_dict hnew.typeIs ?_);show wpAny _ _ (pure (s.heap.objs.size,[Value.ref a])) _ _ _;refine ah ?_;show wpAny _ _ (Builtin.Dict.updateFrom "dict.__init__" s.heap.objs.size (.ref a) [] .none) _ _ _;unfold Builtin.Dict.updateFrom;refine af (wpAny_typeOf ⟨_,kp _ _ e,rfl⟩ ?_);rw[if_pos (by decide)];refine af (ED (kp _ _ e) (I.ok.hd hc) fun h' tk k2=>?_);rw[if_pos (by rfl)];refine af (qA ?_);have I2:L2.Inv X pins σ (upd H s.heap.objs.size (.dK [])) {s with heap:=h',toks:=tk}:=I1.kept (t':=tk) k2;refine af (lV (items:=its.toArray) ⟨_,k2 _ _ (kp _ _ e),rfl,n,rfl⟩ ?_);have k3:∀b o,h'.get? b=some o->(h'.push {cls:=.type "list_iterator",data:=.fields #[.ref a,.int 0 0]}).get? b=some o:=fun b o e=>bj _ e;have I3:L2.Inv X pins σ (upd H s.heap.objs.size (.dK [])) {s with heap:=h'.push {cls:=.type "list_iterator",data:=.fields #[.ref a,.int 0 0]},toks:=tk}:=I2.kept (t':=tk) k3;have f0:fO X pins (upd H s.heap.objs.size (.dK [])) h'.objs.size:=I2.pV (aG _) (I2.av.fresh (aG _));refine ah ⟨plainId_quiet lX _,oa (FP (X:=dn X) (ys:=ys) (a:=a) (it:=h'.objs.size) (d:=s.heap.objs.size) hc ys [] ps [] _ _ 0 0 rfl (Inv.Ob (Inv.Ob I3)) ⟨_,dC _ rfl,rfl,rfl⟩ f0 (by rw[az na];exact ea) aM (by simpa using Z) (hp.upd fun xs z=>by rw[hn] at z;cases z)) fun r s2 Z=>Z.g fun er I4=>?_⟩;subst er;rw[qt] at I4;exact⟨rfl,.ref s.heap.objs.size,_,Inv.out I.ok (Inv.out (Inv.Ob I).ok I4),rfl,q _ hn⟩
end
section
variable {X:Cx}{E:XK}
theorem CH{K:W.Frag}{ι:Nat->Addr}{n:Nat}{H:L2.Hp}:∀{xs:List Tw.W}{zs:List V}{acc kvs:List (Tw.W×Tw.W)}{as:List (Key×V)},aT K ι n H xs zs->RD K ι n H acc as->Tw.sE acc xs=some kvs->∃ps,Pr K H zs ps/\RD K ι n H kvs (qw as ps)
 |_,_,_,_,_,.nil,d,e=>by
  simp at e;subst e;exact⟨[],trivial,d⟩
 |_,_,acc,kvs,as,.cons a r,d,e=>by
  cases a with
  | @tup t ys ws ta rr=>
   cases rr with
   |nil=>simp at e
   |cons b rr=>
    cases rr with
    |nil=>simp at e
    |cons b' rr=>
     cases rr with
     |cons _ _=>simp at e
     |nil=>
      simp only[Tw.sE] at e;split at e
      .rename_i hk;obtain⟨q,rfl⟩:=iO b hk;obtain⟨ps,p1,p2⟩:=CH r (d.put b b') e;exact⟨(q,_)::ps,⟨⟨t,rfl,ta⟩,p1⟩,p2⟩
      .cases e
  |_=>simp at e
theorem Hf(ι:Nat->Addr)(h:Tw.Hp)(H:L2.Hp)(w:Tw.W)(x:V)(Q:VK)(r:HR (zx X E) ι h H)(rx:RW X.K ι h.length H w x)(p:ai (zx X E) RE ι h H (Tw.builtin .dictP w h) Q):
  ∃a ys ps,[x]=[V.ref a]/\H a=some (.lst ys)/\Pr X.K H ys ps/\∀l,H l=none->Q (.ref l) (upd H l (.dK (qw [] ps))):=by
 unfold Tw.builtin at p;dsimp only at p;cases rx with
 | @ref k hk=>
  dsimp only at p;cases ei:h[k]? with
  |none=>rw[ei] at p;exact p.elim
  |some o=>
   rw[ei] at p;cases o with
   |lst ws=>
    dsimp only at p;obtain⟨xs,q1,q2⟩:=r.obj k _ ei;by_cases c:ws.length<=1000
    .rw[if_pos c] at p;cases ep:Tw.sE [] ws with
     |none=>rw[ep] at p;exact p.elim
     |some kvs=>
      rw[ep] at p;obtain⟨ps,p1,p2⟩:=CH q2 .nil ep;exact⟨_,xs,ps,rfl,q1,p1,p.aj r p2⟩
    .rw[if_neg c] at p;exact p.elim
   |_=>exact p.elim
 |_=>exact p.elim
end
section
variable {cf:Cfg}{C:Tw.Or}{CX:iH}{E:XK}
def SE(C:Tw.Or)(E:XK)(X:Cx)(t:Tw.E)(e:Expr):Prop:=PE X e (tE (zx X E) (Tw.ag C t))/\(eT e=true->PT X e (tT (zx X E) (Tw.ag C t)))
theorem EB(h:eT e=true):aI e=true:=by unfold eT at h;rw[aB] at h;exact h.1
theorem SE.val(h:PE X e (tE (zx X E) (Tw.ag C t)))(hv:IZ e=true):SE C E X t e:=⟨h,fun hp=>Ka h (Dt (EB hp) hv)⟩
theorem EH(h:Ft w c=true):SE C E X (.cst w) (.Constant c k p):=by
 refine SE.val ?_ rfl;rw[show Tw.ag C (.cst w)=fun _ h=>.ok w h from by funext ρ h;rw[Tw.fH]];cases w with
 |aq=>cases c<;>first|exact tY MU fun _ _ _=>.aq|exact absurd (show false=true from h) e9
 |bl b=>
  cases c with
  |bool b'=>
   have h:(b== b')=true:=h;rw[jb] at h;subst h;exact tY Pz fun _ _ _=>.bl _
  |_=>exact absurd (show false=true from h) e9
 |int i=>
  cases c with
  |int j=>
   have h:decide (i=j)=true:=h;rw[aN] at h;subst h;exact tY OA fun _ _ _=>.int _
  |_=>exact absurd (show false=true from h) e9
 |str x=>
  cases c with
  |str y=>
   have h:(decide (y.cps.toList=x)&&x.all (fun c=>decide (c<0x110000)))=true:=h;simp only[aB,aN,kS] at h;obtain⟨rfl,h2⟩:=h;obtain⟨y⟩:=y;exact tY DV fun ι n H=>by
    have:=RW.str (K:=X.K) (ι:=ι) (n:=n) (H:=H) y.toList h2;simpa using this
  |_=>exact absurd (show false=true from h) e9
 |_=>exact absurd (show false=true from h) e9
theorem Oo(R:fY cf C CX E X)(hg:Gl X x)(hd:(x== ("__debug__" : Str))=false)(h:Fb cf x w=true):SE C E X (.cst w) (.Name x p):=by
 unfold Fb at h;cases e:cf.cons.lookup x with
 |none=>rw[e] at h;exact absurd h e9
 |some u=>
  rw[e] at h;have e2:=Ay u w h;subst e2;obtain⟨v,val,hm,rv,rw'⟩:=R.con x u e;refine SE.val ?_ rfl;rw[show Tw.ag C (.cst u)=fun _ h=>.ok u h from by funext ρ h;rw[Tw.fH]];exact tY (m6 hg hm rv hd) rw'
theorem PT.bool(h:PT X (.BoolOp op xs p) t):PW X (.BoolOp op xs p) t:=fun _=>h
theorem no{P:Prop}(h:false=true):P:=absurd h e9
theorem OL(R:fY cf C CX E X)(ha:SE C E X a x)(hb:SE C E X b y)(hp:aI y=true)(hc:QG op=true):SE C E X (.cmp op a b) (.Compare x [IK op] [y] p):=by
 have hu:X.A.units+1<cLine:=by have:=R.units;omega
 have key:∀{r:R2},c7 X (compareOp (IK op)) r->(∀(ι:Nat->Addr)(h:Tw.Hp)(H:L2.Hp)(w u:Tw.W)(x y:V)(k:Bool)(Q:VK),HR (zx X E) ι h H->RW X.K ι h.length H w x->RW X.K ι h.length H u y->Tw.cmp op w u h=some k->Q (.bl k) H->r x y H Q)->SE C E X (.cmp op a b) (.Compare x [IK op] [y] p):=fun {r} ho hr=>by
  have z:=N3 (pos:=p) (op:=op) ho hr ha.1 hb.1 (za _ hp);have e:Tw.ag C (.cmp op a b)=fun ρ h=>(Tw.ag C a ρ h).bind fun x h=>(Tw.ag C b ρ h).bind fun y h=>Tw.R.of ((Tw.cmp op x y h).map .bl) h:=by funext ρ h;rw[Tw.Am]
  unfold SE;rw[e];exact⟨z.1,fun _=>z.2⟩
 cases op with
 |eq=>exact key (Lb (E:=E) R.units) T5
 |ne=>exact key (La (E:=E) R.units) R5
 |lt=>exact no hc
 |le=>exact no hc
 |gt=>exact key Qv (Pg (f:=fun i j=>decide (j<i)) fun w u h=>by cases w<;>cases u<;>rfl)
 |ge=>exact no hc
 |isin=>exact key (LA hu) Tt
 |notin=>exact key (CG hu) KD
 |isN=>exact key NL Qi
 |notN=>exact key Jp NJ
theorem MK(ha:SE C E X a x)(hb:SE C E X b y):SE C E X (.bin op a b) (.BinOp x (RG op) y p):=by
 refine SE.val ?_ rfl;rw[show Tw.ag C (.bin op a b)=fun ρ h=>(Tw.ag C a ρ h).bind fun x h=>(Tw.ag C b ρ h).bind fun y h=>Tw.bin op x y h from by funext ρ h;rw[Tw.KN]];cases op with
 |add=>exact PX ha.1 hb.1
 |sub=>exact Qc ha.1 hb.1
 |mul=>exact Pl ha.1 hb.1
 |fdiv=>exact Lg ha.1 hb.1
 |mod=>exact Ph ha.1 hb.1
 |pow=>exact PR ha.1 hb.1
theorem DI(ha:SE C E X a x)(hx:eT x=true)(hb:PE X (.BoolOp .And (y::r) p) (tE (zx X E) (Tw.ag C b)))(hw:PW X (.BoolOp .And (y::r) p) (tT (zx X E) (Tw.ag C b))):
  SE C E X (.and a b) (.BoolOp .And (x::y::r) p):=by
 have e:Tw.ag C (.and a b)=BX (Tw.ag C a) (Tw.ag C b):=by funext ρ h;rw[Tw.zB];rfl
 unfold SE;rw[e];exact⟨Pw ha.1 hb,fun _=>(w_and (ha.2 hx) hw).pt⟩
theorem HP(ha:SE C E X a x)(hx:eT x=true)(hb:PE X (.BoolOp .Or (y::r) p) (tE (zx X E) (Tw.ag C b)))(hw:PW X (.BoolOp .Or (y::r) p) (tT (zx X E) (Tw.ag C b))):
  SE C E X (.or a b) (.BoolOp .Or (x::y::r) p):=by
 have e:Tw.ag C (.or a b)=HH (Tw.ag C a) (Tw.ag C b):=by funext ρ h;rw[Tw.Na];rfl
 unfold SE;rw[e];exact⟨TJ ha.1 hb,fun _=>(w_or (ha.2 hx) hw).pt⟩
theorem Od(ha:SE C E X a x)(hx:eT x=true):SE C E X (.not a) (.UnaryOp .Not x p):=by
 have e:Tw.ag C (.not a)=fun ρ h=>(Tw.ag C a ρ h).bind fun x h=>Tw.R.of ((Tw.truth h x).map fun b=>.bl (!b)) h:=by funext ρ h;rw[Tw.KI]
 unfold SE;rw[e];have z:=Qo (pos:=p) ha.1 (ha.2 hx);exact⟨z.1,fun _=>z.2⟩
theorem Oq(R:fY cf C CX E X)(cal:X.calm=true)(hb:b≠.int/\b≠.listS)(hb1:b≠.listE)(hb2:b≠.listR)(hg:Gl X (bN b))(ha:SE C E X a y)(hy:aI y=true):SE C E X (.blt b a) (.Call (.Name (bN b) p) [y] [] pos):=by
 refine SE.val ?_ rfl;rw[show Tw.ag C (.blt b a)=fun ρ h=>(Tw.ag C a ρ h).bind fun x h=>Tw.builtin b x h from by funext ρ h;rw[Tw.qp]];have hst:starEach [y] X.env=(false,eval y X.env)::starEach [] X.env:=bf hy;cases b with
 |len=>exact sN (rU DO hg (R.blt _ (by simp[df,bN])) PySem.boot_len (bA ha.1 cy hst) (by decide) (by decide) hst rfl) Nr
 |list=>exact sN (md (Bd cal) hg (R.blt _ (by simp[df,bN])) PyProof.Rows.boot_list (bA ha.1 cy hst) (by decide) (by decide) hst rfl) JS
 |tuple=>exact sN (md Dn hg (R.blt _ (by simp[df,bN])) PyProof.Rows.boot_tuple (bA ha.1 cy hst) (by decide) (by decide) hst rfl) FW
 |dict=>exact sN (md BU hg (R.blt _ (by simp[df,bN])) PyProof.Rows.boot_dict (bA ha.1 cy hst) (by decide) (by decide) hst rfl) JL
 |int=>exact absurd rfl hb.1
 |dictP=>exact sN (md (BP cal) hg (R.blt _ (by simp[df,bN])) PyProof.Rows.boot_dict (bA ha.1 cy hst) (by decide) (by decide) hst rfl) Hf
 |listS=>exact absurd rfl hb.2
 |listE=>exact absurd rfl hb1
 |listR=>exact absurd rfl hb2
theorem wa(hv:aI v=true)(hn:kF v=true)(hl:(ap.endLine== cp.line)=true)(hst:starEach ys X.env=ys.map fun y=>(false,eval y X.env))(hy:ys.length<20):Me X v x ap ys cp:=by refine⟨nU hv hn,?_,hl⟩;rw[hst];simp only[backTo,uF,aB];refine⟨⟨by simp,rfl⟩,?_⟩;rw[aN];show ys.length+0+0<30;omega
end
section
variable {cf:Cfg}{C:Tw.Or}{CX:iH}{E:XK}
theorem AD(ha:SE C E X a x)(hx:eT x=true)(op:BoolOp):PE X (.BoolOp op [x] p) (tE (zx X E) (Tw.ag C a))/\PW X (.BoolOp op [x] p) (tT (zx X E) (Tw.ag C a)):=by
 refine⟨MQ ha.1,?_⟩;cases op with
 |And=>exact KL (ha.2 hx)
 |Or=>exact MZ (ha.2 hx)
theorem sd(N:List Str)(x:List Str)(i:Nat):(bP N x)[N.length+i]?=x[i]?:=by unfold bP;rw[om (by simp)];simp
theorem xg(hnd:(bP X.N [x]).Nodup)(cs:gk X.N X.env.scope [x] scope):∀C s H pins fp,PG (bq X scope C [x] s H pins fp) (.Name x px) (gL X.N.length):=fun C s H pins fp=>
 nA hnd (show (bP X.N [x])[X.N.length]?=some x by have:=sd X.N [x] 0;simpa using this) (.inl (qk (cs.i4 x (by simp)))) (.inr (qk (cs.i4 x (by simp))))
theorem yb(hc:X.calm=true)(hnd:(bP X.N [x,y]).Nodup)(cs:gk X.N X.env.scope [x,y] scope):
  ∀C s H pins fp,PG (bq X scope C [x,y] s H pins fp) (.Tuple [.Name x px,.Name y py] k pt) (Co X.K 2 (nY (gL X.N.length) (nY (gL (X.N.length+1)) Bj))):=fun C s H pins fp=>
 ym hc (jF (nA hnd (show (bP X.N [x,y])[X.N.length]?=some x by have:=sd X.N [x,y] 0;simpa using this) (.inl (qk (cs.i4 x (by simp)))) (.inr (qk (cs.i4 x (by simp)))))
  (jF (nA hnd (show (bP X.N [x,y])[X.N.length+1]?=some y by have:=sd X.N [x,y] 1;simpa using this) (.inl (qk (cs.i4 y (by simp)))) (.inr (qk (cs.i4 y (by simp))))) uo))
theorem CO(h:v3 o=true):o=.And:=by cases o<;>first|rfl|cases h
theorem Hg(h:v3 o=false):o=.Or:=by cases o<;>first|rfl|cases h
theorem cn(h:fV cf sc N .nil ys=true):ys=[]:=by exact bI h
theorem cc(h:fV cf sc N (.cons t ts) ys=true):∃y r,ys=y::r/\aI y=true/\aS cf sc N t y=true/\fV cf sc N ts r=true:=by replace h:=ay h;obtain⟨⟨x,r⟩,e1,h⟩:=h;simp only[aB] at h;exact⟨x,r,dQ e1,h.1.1,h.1.2,h.2⟩
theorem RX(m:Tw.Mt)(o:Tw.E):Tw.ag C (.ji m o .nil)=HG m (Tw.ag C o):=by
 funext ρ h;rw[Tw.uO];unfold HG
 congr 1
theorem Se(m:Tw.Mt)(o e1:Tw.E):Tw.ag C (.ji m o (.cons e1 .nil))=yk m (Tw.ag C o) (Tw.ag C e1):=by
 funext ρ h;rw[Tw.uO];unfold yk
 congr 1
 funext x h
 congr 1
 rw[Tw.bW];cases Tw.ag C e1 ρ h with
 |ok a h=>simp
 |_=>rfl
theorem Sg(m:Tw.Mt)(o e1 e2:Tw.E):Tw.ag C (.ji m o (.cons e1 (.cons e2 .nil)))=N0 m (Tw.ag C o) (Tw.ag C e1) (Tw.ag C e2):=by
 funext ρ h;rw[Tw.uO];unfold N0
 congr 1
 funext x h
 congr 1
 rw[Tw.bW];cases Tw.ag C e1 ρ h with
 |ok a h=>
  simp only[Tw.R.ak,Tw.bW];cases Tw.ag C e2 ρ h with
  |ok a h=>simp
  |_=>rfl
 |_=>rfl
theorem zA{sc:Sc}{N:List Str}{el:Tw.E}{it:Tw.It}{c:Tw.Eo}{e:Expr}(h:aS cf sc N (.comp el it c) e=true):(!cf.hd)=true/\((sI e).any fun r=>(wz r.2.1).any fun g=>(bB g.1).any fun x=>yC N sc [x] r.2.2.1&&decide (bP N [x]).Nodup&&aI g.2.1&&yi cf sc N false it g.2.1&&aS cf r.2.2.1.names (bP N [x]) el r.1&&
   (match c with
    |.none=>g.2.2.isEmpty
    |.some d=>(fN g.2.2).any fun z=>eT z&&aS cf r.2.2.1.names (bP N [x]) d z))=true:=by
 cases c<;>exact pT.mp h
mutual
theorem aQ:∀(t:Tw.E){E:XK}{sc:Sc}{N:List Str}{X:Cx}{e:Expr},fY cf C CX E X->dA sc N X->aS cf sc N t e=true->SE C E X t e
 |.var i,E,sc,N,X,e,R,S,h=>by
  replace h:=ay h;obtain⟨x,e1,h⟩:=h;obtain⟨p,rfl⟩:=aL e1;simp only[aB,aN,mI] at h;refine SE.val ?_ rfl;exact Qq (by rw[S.n];exact h.1.1.1) (S.pD x h.1.1.2) (fD h.1.2) h.2
 |.cst w,E,sc,N,X,e,R,S,h=>by
  replace h:=(Ih _ _).mp h;rcases h with h|h
  .replace h:=ay h;obtain⟨c,e1,h⟩:=h;obtain⟨k,p,rfl⟩:=mK e1;exact EH h
  .replace h:=ay h;obtain⟨x,e1,h⟩:=h;obtain⟨p,rfl⟩:=aL e1;simp only[aB] at h;exact Oo R (S.gl _ h.1.1) (fD h.1.2) h.2
 |.tup es,E,sc,N,X,e,R,S,h=>by
  replace h:=ay h;obtain⟨xs,e1,h⟩:=h;obtain⟨k,p,rfl⟩:=iK e1;simp only[aB,aN] at h;obtain⟨_,z⟩:=ko es R S h.1;refine SE.val ?_ rfl;exact Pm z (by rw[fA];omega)
 |.lst es,E,sc,N,X,e,R,S,h=>by
  replace h:=ay h;obtain⟨xs,e1,h⟩:=h;obtain⟨p,rfl⟩:=DF e1;simp only[aB,aN] at h;obtain⟨_,z⟩:=ko es R S h.1;refine SE.val ?_ rfl;exact PQ z (by rw[fA];omega)
 |.aj es,E,sc,N,X,e,R,S,h=>by
  replace h:=ay h;obtain⟨⟨ks,vs⟩,e1,h⟩:=h;obtain⟨p,rfl⟩:=BK e1;simp only[aB] at h;obtain⟨⟨h1,h2⟩,h3⟩:=h;obtain rfl:=bI (show ks.isEmpty=true from h1);obtain rfl:=bI (show vs.isEmpty=true from h2);cases es with
  |cons _ _=>exact no h3
  |nil=>
   refine SE.val ?_ rfl;have e:Tw.ag C (.aj .nil)=Sb []:=by funext ρ h;rw[Tw.Jh,Tw.cL];rfl
   rw[e];exact L4
 |.bin op a b,E,sc,N,X,e,R,S,h=>by
  replace h:=ay h;obtain⟨⟨x,o,y⟩,e1,h⟩:=h;obtain⟨p,rfl⟩:=Ed e1;simp only[aB,aN] at h;obtain⟨⟨rfl,h1⟩,h2⟩:=h;exact MK (aQ a R S h1) (aQ b R S h2)
 |.cmp op a b,E,sc,N,X,e,R,S,h=>by
  replace h:=ay h;obtain⟨⟨x,os,ys⟩,e1,h⟩:=h;obtain⟨p,rfl⟩:=vU e1;simp only[aB,aN] at h;obtain⟨⟨hc,rfl⟩,h⟩:=h;replace h:=ay h;obtain⟨y,e2,h⟩:=h;obtain rfl:=cZ e2;simp only[aB] at h;exact OL R (aQ a R S h.1.2) (aQ b R S h.2) h.1.1 hc
 |.and a b,E,sc,N,X,e,R,S,h=>by
  replace h:=ay h;obtain⟨⟨o,xs,p⟩,e1,h⟩:=h;obtain rfl:=t8 e1;simp only[aB] at h;obtain⟨h0,h⟩:=h;obtain rfl:=CO h0;replace h:=ay h;obtain⟨⟨x,r⟩,e2,h⟩:=h;obtain rfl:=dQ e2;replace h:=ay h;obtain⟨⟨y,r⟩,e3,h⟩:=h;obtain rfl:=dQ e3;simp only[aB] at h;obtain⟨⟨h0,h1⟩,h2⟩:=h;cases c:r.isEmpty with
  |true=>
   obtain rfl:=bI c;have h2:(eT y&&aS cf sc N b y)=true:=h2;rw[aB] at h2;have z:=AD (p:=p) (aQ b R S h2.2) h2.1 .And;exact DI (aQ a R S h1) h0 z.1 z.2
  |false=>
   rw[c,if_neg (by decide)] at h2;have z:=aQ b R S h2;exact DI (aQ a R S h1) h0 z.1 (PT.bool (z.2 rfl))
 |.or a b,E,sc,N,X,e,R,S,h=>by
  replace h:=ay h;obtain⟨⟨o,xs,p⟩,e1,h⟩:=h;obtain rfl:=t8 e1;simp only[aB,mI] at h;obtain⟨h0,h⟩:=h;obtain rfl:=Hg h0;replace h:=ay h;obtain⟨⟨x,r⟩,e2,h⟩:=h;obtain rfl:=dQ e2;replace h:=ay h;obtain⟨⟨y,r⟩,e3,h⟩:=h;obtain rfl:=dQ e3;simp only[aB] at h;obtain⟨⟨h0,h1⟩,h2⟩:=h;cases c:r.isEmpty with
  |true=>
   obtain rfl:=bI c;have h2:(eT y&&aS cf sc N b y)=true:=h2;rw[aB] at h2;have z:=AD (p:=p) (aQ b R S h2.2) h2.1 .Or;exact HP (aQ a R S h1) h0 z.1 z.2
  |false=>
   rw[c,if_neg (by decide)] at h2;have z:=aQ b R S h2;exact HP (aQ a R S h1) h0 z.1 (PT.bool (z.2 rfl))
 |.not a,E,sc,N,X,e,R,S,h=>by
  replace h:=ay h;obtain⟨⟨o,x⟩,e1,h⟩:=h;obtain⟨p,rfl⟩:=FA e1;simp only[aB] at h;obtain⟨⟨h0,h1⟩,h2⟩:=h;obtain rfl:=De h0;exact Od (aQ a R S h2) h1
 |.ite c a b,E,sc,N,X,e,R,S,h=>by
  replace h:=ay h;obtain⟨⟨z,x,y⟩,e1,h⟩:=h;obtain⟨p,rfl⟩:=GD e1;simp only[aB] at h;obtain⟨⟨⟨h0,h1⟩,h2⟩,h3⟩:=h;refine⟨?_,fun z=>?_⟩
  .rw[show Tw.ag C (.ite c a b)=fun ρ h=>(Tw.ag C c ρ h).bind fun x h=>match Tw.truth h x with
    |some true=>Tw.ag C a ρ h
    |some false=>Tw.ag C b ρ h
    |none=>.bad from by funext ρ h;rw[Tw.JY]<;>rfl]
   exact Qb ((aQ c R S h1).2 h0) (aQ a R S h2).1 (aQ b R S h3).1
  .simp[eT,Ly] at z
 |.idx a b,E,sc,N,X,e,R,S,h=>by
  replace h:=ay h;obtain⟨⟨x,y⟩,e1,h⟩:=h;obtain⟨p,rfl⟩:=mH e1;simp only[aB] at h;refine SE.val ?_ rfl;exact PK (by have:=R.units;omega) (aQ a R S h.1.2).1 (aQ b R S h.2).1 (yp h.1.1)
 |.sl a lo hi,E,sc,N,X,e,R,S,h=>by
  replace h:=ay h;obtain⟨⟨x,y⟩,e1,h⟩:=h;obtain⟨p,rfl⟩:=mH e1;replace h:=ay h;obtain⟨⟨l,u,s⟩,e2,h⟩:=h;obtain⟨p2,rfl⟩:=C6 e2;simp only[aB,wj] at h;obtain⟨⟨⟨rfl,h1⟩,h2⟩,h3⟩:=h;refine SE.val ?_ rfl;exact Jf (aQ a R S h1).1 (IT lo R S h2) (IT hi R S h3)
 |.call f es,E,sc,N,X,e,R,S,h=>by
  replace h:=ay h;obtain⟨⟨x,as⟩,e1,h⟩:=h;obtain⟨p,pos,rfl⟩:=fq e1;simp only[aB,aN,mI] at h;obtain⟨⟨⟨⟨h0,h1⟩,h2⟩,hn⟩,h3⟩:=h;obtain⟨y,ys,rfl⟩:=pL hn;obtain⟨hp,z⟩:=ko es R S h3;obtain⟨k,g,fd,ps,G,hr,hm,hk,hb⟩:=R.own f x h0;refine SE.val ?_ rfl;have hp':aI y=true/\ys.all aI=true:=by rw[fL,aB] at hp;exact hp
  refine s_call G R.pass hr (S.gl x h1) hm hk hb z (fD h2) (bf hp'.1) ?_;rw[fk hp'.2];simp[backTo]
 |.blt b a,E,sc,N,X,e,R,S,h=>by
  replace h:=pT.mp h;obtain⟨hd,h⟩:=h;have cal:=R.calm (by simpa using hd);replace h:=ay h;obtain⟨⟨x,as⟩,e1,h⟩:=h;obtain⟨p,pos,rfl⟩:=fq e1;replace h:=ay h;obtain⟨y,e2,h⟩:=h;obtain rfl:=cZ e2;split at h
  .exact no h
  .exact no h
  .next n1 n2=>
   simp only[aB,aN] at h;obtain⟨⟨⟨⟨rfl,hb⟩,h2⟩,h3⟩,h4⟩:=h;exact Oq R cal hb n2 n1 (S.gl _ h2) (aQ a R S h4) h3
 |.ji m o es,E,sc,N,X,e,R,S,h=>by
  replace h:=ay h;obtain⟨⟨v,x,ap,ys,cp⟩,e1,h⟩:=h;obtain rfl:=jy e1;simp only[aB,aN] at h;obtain⟨⟨⟨⟨⟨⟨rfl,h1⟩,h2⟩,h3⟩,h4⟩,h5⟩,h6⟩:=h;have ho:=(aQ o R S h5).1;have hu:X.A.units+1<cLine:=by have:=R.units;omega
  refine SE.val ?_ rfl;cases es with
  |nil=>
   obtain rfl:=cn h6;rw[RX];cases m with
   |rev=>exact P8 (nU h3 h4) h2 ho
   |_=>exact no h1
  |cons t1 es=>
   obtain⟨y,r,rfl,p1,q1,q2⟩:=cc h6;cases es with
   |nil=>
    obtain rfl:=cn q2;have hst:starEach [y] X.env=[(false,eval y X.env)]:=bf p1;have he:=(aQ t1 R S q1).1;have me:Me X v (mN m) ap [y] cp:=wa h3 h4 h2 (by rw[hst];rfl) (by simp);rw[Se];cases m with
    |append=>exact GI me hst ho he
    |get=>exact N1 hu me (by rw[hst];rfl) ho he
    |join=>exact LC me hst ho he
    |index=>exact Jx me hst ho he
    |_=>exact no h1
   |cons t2 es=>
    obtain⟨y2,r,rfl,p2,q4,q3⟩:=cc q2;cases es with
    |nil=>
     obtain rfl:=cn q3;have hst2:starEach [y2] X.env=[(false,eval y2 X.env)]:=bf p2;have hst:starEach [y,y2] X.env=[(false,eval y X.env),(false,eval y2 X.env)]:=by rw[bf p1,hst2]
     have me:Me X v (mN m) ap [y,y2] cp:=wa h3 h4 h2 (by rw[hst];rfl) (by simp);rw[Sg];cases m with
     |get=>exact Lv hu me (by rw[hst];rfl) ho (aQ t1 R S q1).1 (aQ t2 R S q4).1
     |_=>exact no h1
    |cons e3 es=>
     obtain⟨y3,r,rfl,_⟩:=cc q3;cases m<;>exact no h1
 |.wF a t,E,sc,N,X,e,R,S,h=>by
  exact no h
 |.comp el it c,E,sc,N,X,e,R,S,h=>by
  replace h:=zA h;obtain⟨hd,h⟩:=h;have cal:=R.calm (by simpa using hd);replace h:=ay h;obtain⟨⟨y,gs,scope,pos⟩,e1,h⟩:=h;obtain rfl:=kl e1;replace h:=ay h;obtain⟨⟨tg,iter,ifs⟩,e2,h⟩:=h;obtain rfl:=mB e2;replace h:=ay h;obtain⟨x,e3,h⟩:=h;obtain⟨px,rfl⟩:=aL e3;simp only[aB,aN] at h;obtain⟨⟨⟨⟨⟨h0,h1⟩,h2⟩,h3⟩,h4⟩,h5⟩:=h;have cs:=tJ S h0;have hk:scope.kind=.function:=cs.kind;have hnd:(bP X.N [x]).Nodup:=by rw[S.n];exact h1
  have sees:∀{Cc:Addr}{s:Shared}{H:L2.Hp}{pins:aO}{fp:List Addr},dA scope.names (bP N [x]) (bq X scope Cc [x] s H pins fp):=fun {Cc s H pins fp}=>by
   have z:=dA.comp (X:=X) (scope:=scope) (C:=Cc) (x:=[x]) (s:=s) (H:=H) (pins:=pins) (fp:=fp) hk;rw[S.n] at z;exact z
  refine SE.val ?_ rfl;have hev:Tw.ag C (.comp el it c)=oh CV (Tw.eE C it) (Tw.iB C c) (Tw.ag C el):=by funext ρ h;rw[Tw.jt];rfl
  rw[hev];refine Dg cal cs (xg hnd cs) (xJ _ _) (uu it R S h3 (fun z=>nomatch z)) (fc h2) (fun Cc s H pins fp=>(aQ el R.comp sees h4).1) ?_;cases c with
  |none=>
   obtain rfl:=bI (show ifs.isEmpty=true from h5);exact .inl ⟨rfl,fun ρ h=>by rw[Tw.pM]⟩
  |some d=>
   replace h5:=ay h5;obtain⟨z,e4,h5⟩:=h5;obtain rfl:=cZ (show fN ifs=some z from e4);rw[aB] at h5;exact .inr ⟨z,Tw.ag C d,rfl,fun ρ h=>by rw[Tw.vw],fun Cc s H pins fp=>(aQ d R.comp sees h5.2).2 h5.1⟩
 |.ij el it,E,sc,N,X,e,R,S,h=>by
  replace h:=pT.mp h;obtain⟨hd,h⟩:=h;have cal:=R.calm (by simpa using hd);replace h:=ay h;obtain⟨⟨y,gs,scope,pos⟩,e1,h⟩:=h;obtain rfl:=kl e1;replace h:=ay h;obtain⟨⟨tg,iter,ifs⟩,e2,h⟩:=h;obtain rfl:=mB e2;rw[aB] at h;obtain⟨hi,h⟩:=h;obtain rfl:=bI (show ifs.isEmpty=true from hi);replace h:=ay h;obtain⟨ts,e3,h⟩:=h;obtain⟨kt,pt,rfl⟩:=iK e3;replace h:=ay h;obtain⟨⟨n1,n2⟩,e4,h⟩:=h;obtain rfl:=iG e4;replace h:=ay h;obtain⟨x,e5,h⟩:=h;obtain⟨px,rfl⟩:=aL e5;replace h:=ay h;obtain⟨x2,e6,h⟩:=h;obtain⟨px2,rfl⟩:=aL e6;simp only[aB,aN] at h;obtain⟨⟨⟨⟨h0,h1⟩,h2⟩,h3⟩,h4⟩:=h;have cs:=tJ S h0;have hk:scope.kind=.function:=cs.kind;have hnd:(bP X.N [x,x2]).Nodup:=by rw[S.n];exact h1
  have sees:∀{Cc:Addr}{s:Shared}{H:L2.Hp}{pins:aO}{fp:List Addr},dA scope.names (bP N [x,x2]) (bq X scope Cc [x,x2] s H pins fp):=fun {Cc s H pins fp}=>by
   have z:=dA.comp (X:=X) (scope:=scope) (C:=Cc) (x:=[x,x2]) (s:=s) (H:=H) (pins:=pins) (fp:=fp) hk;rw[S.n] at z;exact z
  refine SE.val ?_ rfl;have hev:Tw.ag C (.ij el it)=oh o9 (Tw.eE C it) (fun _ h=>.ok none h) (Tw.ag C el):=by
   funext ρ h;rw[Tw.iL];unfold oh
   congr 1
   funext s h;rw[va]
  rw[hev];exact Dg cal cs (yb cal hnd cs) (xj _ _) (uu it R S h3 (fun _=>⟨_,_,_,rfl⟩)) (fc h2) (fun Cc s H pins fp=>(aQ el R.comp sees h4).1) (.inl ⟨rfl,fun _ _=>rfl⟩)
 |.bad,E,sc,N,X,e,R,S,h=>by
  refine⟨?_,fun _=>?_⟩
  .rw[show Tw.ag C .bad=fun _ _=>.bad from by funext ρ h;rw[Tw.um]];exact fun pins s σ H Q I ⟨ρ,h,ι,at',p⟩=>p.elim
  .rw[show Tw.ag C .bad=fun _ _=>.bad from by funext ρ h;rw[Tw.um]];exact fun pins s σ H Q I ⟨ρ,h,ι,at',p⟩=>p.elim
 |.fld a x,E,sc,N,X,e,R,S,h=>by
  replace h:=ay h;obtain⟨⟨v,y,p⟩,e1,h⟩:=h;obtain rfl:=iR e1;simp only[aB,aN] at h;obtain⟨⟨⟨⟨rfl,h1⟩,h2⟩,h3⟩,h4⟩:=h;refine SE.val ?_ rfl;exact Pj (by rw[B0] at h1;simpa using h1) (nU h2 h3) (aQ a R S h4).1
 |.mk c f es,E,sc,N,X,e,R,S,h=>by
  replace h:=ay h;obtain⟨⟨x,ys⟩,e1,h⟩:=h;obtain⟨p,pos,rfl⟩:=fq e1;simp only[aB,aN] at h;obtain⟨⟨⟨⟨rfl,h0⟩,h1⟩,h2⟩,h3⟩:=h;obtain⟨hp,z⟩:=ko es R S h3;obtain⟨k,g,fd,ps,A,G,hr,hm,gc,hmk,_,hb⟩:=R.me f c gD h0;refine SE.val ?_ rfl;rw[show Tw.ag C (.mk c f es)=fun ρ h=>(Tw.cw C es ρ h).bind fun xs h=>(C f (.ref h.length::xs) (h++[.ins c []])).bind fun r h'=>match r with
   |.aq=>.ok (.ref h.length) h'
   |_=>.bad from by funext ρ h;rw[Tw.CT]<;>rfl]
  exact SR (hmk rfl) gc G R.pass hr (S.gl _ h1) hm hb z (fD h2) hp
 |.own o c m f es,E,sc,N,X,e,R,S,h=>by
  replace h:=ay h;obtain⟨⟨v,x,ap,ys,cp⟩,e1,h⟩:=h;obtain rfl:=jy e1;simp only[aB,aN] at h;obtain⟨⟨⟨⟨⟨⟨⟨⟨rfl,h0⟩,h1⟩,h2⟩,h3⟩,h4⟩,h5⟩,h6⟩,h7⟩:=h;obtain⟨hp,z⟩:=ko es R S h7;obtain⟨k,g,fd,ps,A,G,hr,hm,gc,_,hme,hb⟩:=R.me f c m h0;refine SE.val ?_ rfl;exact PJ (hme h1) G R.pass (hr.mono (jx k)) hm gc hb (aQ o R S h6).1 z (wa h4 h5 h2 (fk hp) h3) hp
 |.sA g k es,E,sc,N,X,e,R,S,h=>by
  replace h:=ay h;obtain⟨⟨fn,as,ks,pos⟩,e1,h⟩:=h;obtain rfl:=oA e1;simp only[aB,mI] at h;obtain⟨⟨hk0,hn⟩,h⟩:=h;obtain rfl:=bI (show ks.isEmpty=true from hk0);obtain⟨z,zs,rfl⟩:=pL (show as.isEmpty=false from hn);replace h:=ay h;obtain⟨⟨s1,y⟩,e2,h⟩:=h;obtain⟨p2,rfl⟩:=mH (show nS fn=some (s1,y) from e2);replace h:=ay h;obtain⟨x,e3,h⟩:=h;obtain⟨p1,rfl⟩:=aL (show bB s1=some x from e3);simp only[aB,aN] at h;obtain⟨⟨⟨⟨⟨h0,h1⟩,h2⟩,h3⟩,h4⟩,h5⟩:=h;obtain⟨hp,Z⟩:=ko es R S h5;obtain⟨t,D,hm,T,hg⟩:=R.tab x g h0;refine SE.val ?_ rfl;rw[show Tw.ag C (.sA g k es)=fun ρ h=>(Tw.ag C k ρ h).bind fun x h=>match Tw.pick g x with
   |some f=>(Tw.cw C es ρ h).bind fun xs h=>C f xs h
   |none=>.bad from by funext ρ h;rw[Tw.wR]<;>rfl]
  refine Ny (S.gl x h1) hm (fD h2) T (fun s f e=>?_) R.pass (aQ k R S h4).1 h3 Z hp;obtain⟨yy,ga,q1,q2,q3⟩:=hg s f e;obtain⟨k',g2,fd,ps,G,hr,hm',hk',hb⟩:=R.own f yy q1;have eg:g2=ga:=by rw[hm'] at q2;exact Value.ref.inj (eO q2)
  subst eg;exact⟨g2,k',fd,ps,q3,G,hr,hk',hb⟩
 |.i4 a ns ds cs,E,sc,N,X,e,R,S,h=>by
  cases a with
  |var i=>
   replace h:=ay h;obtain⟨⟨y,ye⟩,e1,h⟩:=h;obtain⟨p,p2,pos,rfl⟩:=Hx e1;rw[aB] at h;obtain⟨h,h7⟩:=h;simp only[aB,aN] at h;obtain⟨⟨⟨⟨⟨h1,h2⟩,h3⟩,h4⟩,h5⟩,h6⟩:=h;refine SE.val ?_ rfl;rw[show Tw.ag C (.i4 (.var i) ns ds cs)=fun ρ h=>(match ρ[i]? with|some (some w)=>Tw.R.ok w h|_=>.bad).bind fun w h=>Tw.R.of ((Tw.pQ w ds cs h).map .bl) h from by funext ρ h;rw[Tw.J6,Tw.aW]<;>rfl];have hi:X.N[i]?=some y:=by rw[S.n];exact h1
   have hd:∀d∈ds,∃fs,cf.cG.lookup d=some fs:=fun d hd=>qm.mp (kS.mp h6 d hd);have mi:X.mg "isinstance" = none:=R.blt _ (by simp[df]);replace h7:=(Ih _ _).mp h7;rcases h7 with h7|h7
   .replace h7:=ay h7;obtain⟨x,e2,h7⟩:=h7;obtain⟨px,rfl⟩:=aL (show bB ye=some x from e2);simp only[aB,aN] at h7;obtain⟨⟨h8,h9⟩,h10⟩:=h7;have hI:=R.xf.lY ns cs h5;rcases hI with ⟨n,D,rfl,m,k⟩|⟨en,m,k⟩|⟨as,l2,_⟩
    .obtain rfl:str n=x:=by simpa using h8
     refine DW (v0:=.ref D) (S.gl _ h4) mi hi (S.pD _ h2) h3 (m6 (S.gl _ h9) m rfl (fD h10)) rfl fun d hd'=>?_;obtain⟨fs,ef⟩:=hd d hd';obtain⟨Cx,m1,xc,xt,_⟩:=R.xf.exc d fs ef;exact⟨Cx,m1,xc,xt,.inl ⟨D,rfl,k d fs Cx ef m1⟩⟩
    .obtain rfl:x= "ValueError" := by rw[en] at h8;exact (List.cons.inj h8).1.symm
     refine DW (v0:=.ty "ValueError") (S.gl _ h4) mi hi (S.pD _ h2) h3 (Ki (S.gl _ h9) m JB rfl (by decide) (by decide)) rfl fun d hd'=>?_;obtain⟨fs,ef⟩:=hd d hd';obtain⟨Cx,m1,xc,xt,_⟩:=R.xf.exc d fs ef;exact⟨Cx,m1,xc,xt,.inr ⟨_,rfl,k d fs Cx ef m1⟩⟩
    .have:=eN List.length h8;simp at this;omega
   .replace h7:=ay h7;obtain⟨es,e2,h7⟩:=h7;obtain⟨kt,pt,rfl⟩:=iK (show n9 ye=some es from e2);simp only[aB,aN,kS] at h7;obtain⟨⟨⟨h8,h9⟩,h10⟩,h11⟩:=h7;have hI:=R.xf.lY ns cs h5;rcases hI with ⟨n,D,rfl,_⟩|⟨en,_⟩|⟨as,_,ea,k⟩
    .simp at h8
    .have:=eN List.length en;simp at this;omega
    .refine Nn (as:=as) (S.gl _ h4) mi hi (S.pD _ h2) h3 (EA (HN ns as es h10 (fun n hn=>⟨S.gl _ (h11 n hn).1,fD (h11 n hn).2⟩) ea)) (by have:=eN List.length ea;simp at this;omega) rfl fun d hd'=>?_;obtain⟨fs,ef⟩:=hd d hd';obtain⟨Cx,m1,xc,xt,_⟩:=R.xf.exc d fs ef;exact⟨Cx,m1,xc,xt,k d fs Cx ef m1⟩
  |_=>exact no h
 |.rm a x ds,E,sc,N,X,e,R,S,h=>by
  cases a with
  |var i=>
   replace h:=ay h;obtain⟨⟨y,f⟩,e1,h⟩:=h;obtain⟨p1,p2,rfl⟩:=Gb e1;simp only[aB,aN,kS] at h;obtain⟨⟨⟨⟨h1,h2⟩,h3⟩,rfl⟩,h5⟩:=h;refine SE.val ?_ rfl;rw[show Tw.ag C (.rm (.var i) x ds)=fun ρ h=>(match ρ[i]? with|some (some w)=>Tw.R.ok w h|_=>.bad).bind fun w h=>Tw.R.of (Tw.lq w x ds h) h from by funext ρ h;rw[Tw.Jq,Tw.aW]<;>rfl];refine Pc (by rw[S.n];exact h1) (S.pD _ h2) h3 fun d hd=>?_;obtain⟨fs,ef,hx⟩:=ay (h5 d hd);obtain⟨Cx,m,xc,_,na⟩:=R.xf.exc d fs ef;exact⟨Cx,m,xc,na x (by simpa using hx)⟩
  |_=>exact no h
 |.Ab k g,E,sc,N,X,e,R,S,h=>by
  replace h:=ay h;obtain⟨⟨y,os,ys⟩,e1,h⟩:=h;obtain⟨pos,rfl⟩:=vU e1;simp only[aB,aN] at h;obtain⟨rfl,h⟩:=h;replace h:=ay h;obtain⟨z,e2,h⟩:=h;obtain rfl:=cZ e2;replace h:=ay h;obtain⟨x,e3,h⟩:=h;obtain⟨p,rfl⟩:=aL e3;simp only[aB,aN] at h;obtain⟨⟨⟨h0,h1⟩,h2⟩,h3⟩:=h;obtain⟨t,D,hm,T,hk⟩:=R.key x g h0;have z:=PU (p1:=p) (pos:=pos) (g:=g) (S.gl x h1) hm (fD h2) T hk (aQ k R S h3).1;have hev:Tw.ag C (.Ab k g)=fun ρ h=>(Tw.ag C k ρ h).bind fun x h=>match x with
   |.str s=>.ok (.bl (g.contains s)) h
   |_=>.bad:=by funext ρ h;rw[Tw.uk]<;>rfl
  unfold SE;rw[hev];exact⟨z.1,fun _=>z.2⟩
theorem ko:∀(ts:Tw.Es){E:XK}{sc:Sc}{N:List Str}{X:Cx}{es:List Expr},fY cf C CX E X->dA sc N X->fV cf sc N ts es=true->es.all aI=true/\PA X es (tA (zx X E) es.length (Tw.cw C ts))
 |.nil,E,sc,N,X,es,R,S,h=>by
  obtain rfl:=bI h;refine⟨rfl,?_⟩;rw[show Tw.cw C .nil=fun _ h=>.ok [] h from by funext ρ h;rw[Tw.cL]];exact PB
 |.cons t ts,E,sc,N,X,es,R,S,h=>by
  replace h:=ay h;obtain⟨⟨x,r⟩,e1,h⟩:=h;obtain rfl:=dQ e1;simp only[aB] at h;obtain⟨⟨h0,h1⟩,h2⟩:=h;obtain⟨z1,z2⟩:=ko ts R S h2;refine⟨by rw[fL,h0,z1];rfl,?_⟩;exact OF (aQ t R S h1).1 z2 (bf h0)
theorem IT:∀(t:Tw.Eo){E:XK}{sc:Sc}{N:List Str}{X:Cx}{o:Option Expr},fY cf C CX E X->dA sc N X->Bo cf sc N t o=true->PO X o (CJ (zx X E) (Tw.iB C t))
 |.none,E,sc,N,X,o,R,S,h=>by
  obtain rfl:=wj.mp h;rw[show Tw.iB C .none=fun _ h=>.ok none h from by funext ρ h;rw[Tw.pM]];exact E8
 |.some t,E,sc,N,X,o,R,S,h=>by
  replace h:=ay h;obtain⟨x,rfl,h⟩:=h;exact GH (aQ t R S h).1
theorem uu:∀(t:Tw.It){E:XK}{sc:Sc}{N:List Str}{X:Cx}{tp:Bool}{tg e:Expr},fY cf C CX E X->dA sc N X->yi cf sc N tp t e=true->(tp=true->∃es n p,tg=.Tuple es n p)->PI X tg e (tI (zx X E) (Tw.eE C t))
 |.seq a,E,sc,N,X,tp,tg,e,R,S,h,ht=>by
  exact Qm (aQ a R S h).1
 |.kj a,E,sc,N,X,tp,tg,e,R,S,h,ht=>by
  replace h:=ay h;obtain⟨⟨x,as⟩,e1,h⟩:=h;obtain⟨p,pos,rfl⟩:=fq e1;replace h:=ay h;obtain⟨y,e2,h⟩:=h;obtain rfl:=cZ e2;simp only[aB,aN] at h;obtain⟨⟨⟨rfl,h1⟩,h2⟩,h3⟩:=h;rw[show Tw.eE C (.kj a)=fun ρ h=>(Tw.ag C a ρ h).bind fun x h=>match x with
   |.int j=>if Tw.fW j then .ok (.fix (Tw.upTo 0 j.toNat)) h else .bad
   |_=>.bad from by funext ρ h;rw[Tw.GL]<;>rfl]
  exact Qz (S.gl _ h1) (R.blt _ (by simp[df])) (aQ a R S h3).1 (bf h2)
 |.Cb a b,E,sc,N,X,tp,tg,e,R,S,h,ht=>by
  exact no h
 |.zip a b,E,sc,N,X,tp,tg,e,R,S,h,ht=>by
  replace h:=ay h;obtain⟨⟨x,as⟩,e1,h⟩:=h;obtain⟨p,pos,rfl⟩:=fq e1;replace h:=ay h;obtain⟨⟨y,y2⟩,e2,h⟩:=h;obtain rfl:=iG e2;simp only[aB,aN] at h;obtain⟨⟨⟨⟨⟨⟨h0,rfl⟩,h1⟩,h2⟩,h3⟩,h4⟩,h5⟩:=h;obtain⟨es,n,p,rfl⟩:=ht h0;rw[show Tw.eE C (.zip a b)=fun ρ h=>(Tw.ag C a ρ h).bind fun x h=>(Tw.ag C b ρ h).bind fun y h=>match x,y with
   |.tup xs,.tup ys=>.ok (.fix (Tw.pC xs ys)) h
   |_,_=>.bad from by funext ρ h;rw[Tw.E6]<;>rfl]
  exact Qa (S.gl _ h1) (R.blt _ (by simp[df])) (aQ a R S h4).1 (aQ b R S h5).1 (by rw[bf h2,bf h3];rfl) (bf h3)
 |.enum a,E,sc,N,X,tp,tg,e,R,S,h,ht=>by
  replace h:=ay h;obtain⟨⟨x,as⟩,e1,h⟩:=h;obtain⟨p,pos,rfl⟩:=fq e1;replace h:=ay h;obtain⟨y,e2,h⟩:=h;obtain rfl:=cZ e2;simp only[aB,aN] at h;obtain⟨⟨⟨⟨h0,rfl⟩,h1⟩,h2⟩,h3⟩:=h;obtain⟨es,n,p,rfl⟩:=ht h0;rw[show Tw.eE C (.enum a)=fun ρ h=>(Tw.ag C a ρ h).bind fun x h=>match x with
   |.tup xs=>.ok (.fix (Tw.gF 0 xs)) h
   |.ref a=>match h[a]? with
    |some (.lst xs)=>.ok (.ea a xs.length) h
    |_=>.bad
   |_=>.bad from by funext ρ h;rw[Tw.pN]<;>rfl]
  exact Mo (S.gl _ h1) (R.blt _ (by simp[df])) (aQ a R S h3).1 (bf h2)
 |.rev a,E,sc,N,X,tp,tg,e,R,S,h,ht=>by
  replace h:=ay h;obtain⟨⟨x,as⟩,e1,h⟩:=h;obtain⟨p,pos,rfl⟩:=fq e1;replace h:=ay h;obtain⟨y,e2,h⟩:=h;obtain rfl:=cZ e2;simp only[aB,aN] at h;obtain⟨⟨⟨rfl,h1⟩,h2⟩,h3⟩:=h;rw[show Tw.eE C (.rev a)=fun ρ h=>(Tw.ag C a ρ h).bind fun x h=>match x with
   |.ref a=>match h[a]? with
    |some (.lst xs)=>.ok (.rv a xs.length) h
    |_=>.bad
   |_=>.bad from by funext ρ h;rw[Tw.yg]<;>rfl]
  exact PC (S.gl _ h1) (R.blt _ (by simp[df])) (aQ a R S h3).1 (bf h2)
end
end
def IX(X:Cx)(c:Tw.S)(fs:List Tw.S):Prop:=∃C,X.mg (str c)=some (.ref C)/\((fs=[]/\sF X.K C)\/∃f k fd ps,fs≠ []/\sZ X.K C f/\XC X.K C/\(∀g∈fs.map str,aZ X.K C g)/\fs.length<=1000/\
 cv X.prog X.w X.K X.mg X.base (dP X.prog X.w) k f fd ps (nK X.K (fs.map str))/\bZ (k+1) X.A/\Binds X.K fd ps [])
theorem RF.zip{K:W.Frag}{ι:Nat->Addr}{n:Nat}{H:L2.Hp}:∀{xs:List Tw.S}{ws:List Tw.W}{vs:List V},aT K ι n H ws vs->ws.length=xs.length->RF K ι n H (xs.zip ws) ((xs.map str).zip vs)
 |[],_,_,.nil,_=>.nil
 |x::xs,_,_,.cons a r,h=>.cons a (RF.zip r (by simpa using h))
 |[],_,_,.cons _ _,h=>by cases h
 |_::_,_,_,.nil,h=>by cases h
section
variable {X:Cx}{E:XK}
theorem JU{ds:Tw.Env->Tw.Hp->Tw.R (List Tw.W)}(hx:X.ex=[])(hs:X.stack=X.env::X.outer)(hfm:X.env.frame=some X.env.locals)(hxe:X.xe=og X E)(ok:IX X c xs)(ne:xs≠ [])(hg:Gl X (str c))
  (ha:PA X (e::es) (tA (zx X E) n ds)) (hdb:(str c== ("__debug__" : Str))=false) (hst:starEach (e::es) X.env=(false,eval e X.env)::starEach es X.env) (hpl:(backTo cpos (starEach es X.env)).any (·.1)=false):
  PS X (.Raise (some (.Call (.Name (str c) np) (e::es) [] cpos)) none pos) (dq (zx X E) fun ρ h=>(ds ρ h).bind fun ws h=>Tw.jr c xs ws h):=by
 obtain⟨C,hm,⟨z,_⟩|⟨f,k,fd,ps,_,M,xc,na,hz,F,hr,hb⟩⟩:=ok
 .exact absurd z ne
 refine PS.imp (G9 hx hs hfm hxe M xc na (by simpa using hz) F hr hg hm hb ha hdb hst hpl) fun D σ H ⟨ρ,h,ι,at',p⟩=>⟨ρ,h,ι,at',(ik at' p).mono fun vs H1 ⟨ws,h1,ι1,at1,e1,r1,p1⟩=>?_⟩;unfold Tw.jr at p1;by_cases c1:ws.length=xs.length
 .rw[if_pos c1] at p1;refine⟨by rw[<-r1.1.length,c1];simp,fun ea dx z1 z2 z3=>?_⟩;obtain⟨r2,e2⟩:=at1.hr.grow (o:=.xd ((xs.map str).zip vs)) z2;have z1':upd H1 dx (.xd ((xs.map str).zip vs)) ea=none:=by rw[az (bc z3)];exact z1
  obtain⟨r3,e3⟩:=r2.Fp (u:=.au c (xs.zip ws)) (o:=jV C (some dx) ea) z1' fun ι' n' H' kp fr eq=>⟨C,some dx,(xs.map str).zip vs,hm,eq,fr _ _ aM,((RF.zip r1.1 c1).keep (e2.keeps at1.hr)).keep kp⟩;have:=p1 _ _ (e2.trans e3) r3;rw[cY] at this;exact this
 .rw[if_neg c1] at p1;exact p1.elim
theorem Gf(hx:X.ex=[])(hs:X.stack=X.env::X.outer)(hfm:X.env.frame=some X.env.locals)(hxe:X.xe=og X E)(cal:X.calm=true)(hm:X.mg (str c)=some (.ref C))(M:sF X.K C)(hg:Gl X (str c))(hdb:(str c== ("__debug__" : Str))=false):
  PS X (.Raise (some (.Call (.Name (str c) np) [.Constant (.str y) k p] [] cpos)) none pos) (dq (zx X E) fun _ h=>Tw.jr c [] [] h):=by
 refine PS.imp (C2 (t:=lR (tC (.str y)) uR) hx hs hfm hxe M cal hg hm (bA DV cy rfl) hdb rfl rfl) fun D σ H ⟨ρ,h,ι,at',p⟩=>⟨by simp,fun ea z1=>?_⟩;obtain⟨r3,e3⟩:=at'.hr.Fp (u:=.au c []) (o:=jV C none ea) z1 fun ι' n' H' kp fr eq=>⟨C,none,[],hm,eq,rfl,.nil⟩;have:=p _ _ e3 r3;rw[cY] at this;exact this
theorem At.GU{K:Zk}{ι:Nat->Addr}{h:Tw.Hp}{H:L2.Hp}{ρ:Tw.Env}{σ:L2.St}(a:At K ι h H ρ σ)(j:Nat)(x:Option V):At K ι h H (ρ.set j none) (σ.set j x) where
 hr:=a.hr
 len:=by rw[xb,xb];exact a.len
 st:=fun i u e=>by
  by_cases z:j=i
  .subst z;have hi:j<ρ.length:=by
    have:=(eK.mp e).1;simpa using this
   rw[jC hi] at e;cases e
  .rw[iE z] at e;obtain⟨v',h1,h2⟩:=a.st i u e;exact⟨v',by rw[iE z];exact h1,h2⟩
end
def Ci(cf:Cfg)(sc:Sc)(N:List Str)(o:Tw.E)(c m:Tw.S)(f:Nat)(es:Tw.Es)(e:Expr):Bool:=(yP e).any fun q=>!(q.2.2.2.1.isEmpty)&&decide (q.2.1=str m)&&decide (cf.fns[f]?=some (.me c m))&&decide (m≠gD)&&(q.2.2.1.endLine== q.2.2.2.2.line)&&decide (q.2.2.2.1.length<20)&&aI q.1&&kF q.1&&aS cf sc N o q.1&&fV cf sc N es q.2.2.2.1
def IM(cf:Cfg)(sc:Sc)(N:List Str)(t:Tw.Tb)(s:Stmt):Bool:=match t with
 |.call o c m f es u=>(match u with
  |none=>(v9 s).any fun e=>Ci cf sc N o c m f es e
  |some z=>(rQ s).any fun r=>r.any fun e=>(n9 e).any fun xs=>(rW xs).any fun q=>Ci cf sc N o c m f es q.1&&(nq q.2).any fun k=>Ft z k)
 |.ret e=>(rQ s).any fun r=>r.any fun x=>aS cf sc N e x
noncomputable def m7(cf:Cfg)(sc:Sc)(N:List Str):List Tw.Tb->List Stmt->Bool
 |[],ss=>ss.isEmpty
 |t::ts,ss=>(nC ss).any fun r=>IM cf sc N t r.1&&m7 cf sc N ts r.2
def HC(cf:Cfg)(sc:Sc)(N:List Str)(t:Tw.Hs)(s:Stmt):Bool:=match t with
 |.ret e=>(rQ s).any fun r=>r.any fun x=>aS cf sc N e x
 |.AQ c e=>(sX s).any fun r=>eT r.1&&aS cf sc N c r.1&&r.2.2.isEmpty&&(fN r.2.1).any fun t=>(rQ t).any fun r=>r.any fun x=>aS cf sc N e x
noncomputable def qx(cf:Cfg)(sc:Sc)(N:List Str):List Tw.Hs->List Stmt->Bool
 |[],ss=>ss.isEmpty
 |t::ts,ss=>(nC ss).any fun r=>HC cf sc N t r.1&&qx cf sc N ts r.2
noncomputable def E9:ExceptHandler->Option (Str×Str×List Stmt)
 |.ExceptHandler (some t) (some n) b _=>(bB t).map fun x=>(x,n,b)
 |_=>none
theorem Hm(h:E9 l=some r):∃p q,l=.ExceptHandler (some (.Name r.1 p)) (some r.2.1) r.2.2 q:=by
 obtain⟨t,n,b,q⟩:=l;cases t with
 |none=>cases h
 |some t=>
  cases n with
  |none=>cases h
  |some n=>
   obtain⟨x,e1,rfl⟩:=iQ.mp h;obtain⟨p,rfl⟩:=aL e1;exact⟨p,q,rfl⟩
noncomputable def ot(cf:Cfg)(sc:Sc)(N:List Str):List Tw.Hd->List ExceptHandler->Bool
 |[],l=>l.isEmpty
 |t::ts,l=>(nC l).any fun r=>(E9 r.1).any fun h=>decide (h.1=str t.1)&&decide ((t.1,t.2.1)∈cf.ib)&&t.2.1.all (fun c=>(cf.cG.lookup c).isSome)&&jo sc h.1&&oV h.1&&decide (N[t.2.2.1]?=some h.2.1)&&decide (sc.lookup h.2.1=some .local)&&!(t.2.2.2.isEmpty)&&qx (QS cf) sc N t.2.2.2 h.2.2&&ot cf sc N ts r.2
section
variable {cf:Cfg}{C:Tw.Or}{CX:iH}{E:XK}{sc:Sc}{N:List Str}{X:Cx}
theorem P2(R:fY cf C CX E X)(S:dA sc N X)(h:HC cf sc N t s=true):PS X s (dq (zx X E) fun ρ h=>Tw.NQ C ρ h t):=by
 cases t with
 |ret e=>
  replace h:=ay h;obtain⟨o,e1,h⟩:=h;obtain⟨p,rfl⟩:=jz e1;replace h:=ay h;obtain⟨x,rfl,h⟩:=h;exact B4 (aQ e R S h).1
 |AQ c e=>
  replace h:=ay h;obtain⟨⟨x,ys,zs⟩,e1,h⟩:=h;obtain⟨p,rfl⟩:=zY e1;simp only[aB] at h;obtain⟨⟨⟨h1,h2⟩,h3⟩,h⟩:=h;obtain rfl:=bI (show zs.isEmpty=true from h3);replace h:=ay h;obtain⟨t,e2,h⟩:=h;obtain rfl:=cZ (show fN ys=some t from e2);replace h:=ay h;obtain⟨o,e3,h⟩:=h;obtain⟨p2,rfl⟩:=jz e3;replace h:=ay h;obtain⟨y,rfl,h⟩:=h;exact Oh ((aQ c R S h2).2 h1) (JK (B4 (aQ e R S h).1)) xO
theorem Ij(R:fY cf C CX E X)(S:dA sc N X):∀(ts:List Tw.Hs){ss:List Stmt},qx cf sc N ts ss=true->ff X ss (dq (zx X E) (Tw.rO C ts))
 |[],ss,h=>by
  rw[qx] at h;obtain rfl:=bI h;exact xO
 |t::ts,ss,h=>by
  rw[qx] at h;replace h:=ay h;obtain⟨⟨s,r⟩,e1,h⟩:=h;obtain rfl:=dQ e1;rw[aB] at h;exact zR (P2 R S h.1) (Ij R S ts h.2)
abbrev XB(X:Cx)(pins:aO)(σ:L2.St)(EE:XK):aJ:=fun ex s'=>∃H1 s1,Inv X pins σ H1 s1/\dP X.prog X.w X.stack H1 s1 EE ex s'
variable {pins:aO}{σ:L2.St}{H:L2.Hp}{s:Shared}{EE:XK}
theorem IY(R:fY cf C (dP X.prog X.w) E X)(S:dA sc N X)(hc:Ci cf sc N o c m f es e=true)(I:Inv X pins σ H s)(h:tE ⟨X.K,X.mg,EE⟩ (Tw.xV C o c m f es) σ H Q):
  wpAny (model X.prog X.w) X.A (eval e X.env) (EP X pins σ Q) (XB X pins σ EE) s:=by
 replace hc:=ay hc;obtain⟨⟨v,a,ap,as,cp⟩,e4,hc⟩:=hc;obtain rfl:=jy e4;simp only[aB,aN,mI] at hc;obtain⟨⟨⟨⟨⟨⟨⟨⟨⟨hy,rfl⟩,g1⟩,g2⟩,g3⟩,g4⟩,g5⟩,g6⟩,g7⟩,g8⟩:=hc;obtain⟨y,ys,rfl⟩:=pL hy;obtain⟨k,g,fd,ps,A,G,hr,hm,gc,_,hme,hb⟩:=R.me f c m g1;have S0:dA sc N X.qZ:=⟨S.n,S.kind,S.pD,S.gl,S.cf⟩;obtain⟨hp,z⟩:=ko es R.qZ S0 g8;have me:=wa (X:=X) (x:=str m) g5 g6 g3 (fk hp) g4;have ht:=pB (apos:=ap) (pos:=cp) me.base me.m8 me.line;have hp2:=hp;rw[fL,aB] at hp2;refine Ho (E:=EE) I (aQ o R.qZ S0 g7).1 gc.cls (hme g2) G (hr.mono (jx k)) hb z (bf hp2.1) (by rw[fk hp2.2];simp[backTo]) ht (fun H1 s1 ex s2 J z=>⟨H1,s1,J,z⟩) ?_;obtain⟨ρ,h,ι,at',p⟩:=h;unfold Tw.xV at p;refine⟨ρ,h,ι,at'.ex,?_⟩;cases e0:Tw.ag C o ρ h with
 |bad=>rw[e0] at p;exact p.elim
 |au=>rw[e0] at p;exact p.elim
 |ok w h1=>
  simp only[e0,Tw.R.gw,Tw.R.ak] at p;cases c1:Tw.eW w c m h1 with
  |false=>rw[c1,if_neg (by decide)] at p;exact p.elim
  |true=>
   rw[c1,if_pos rfl] at p;intro ι1 H1 v1 ex1 r1 q1;have at1:At ⟨X.K,X.mg,EE⟩ ι1 h1 H1 ρ σ:=at'.later ex1 (HR.ex (E':=EE) r1);cases q1 with
   | @ref i hi=>
    cases ei:h1[i]? with
    |none=>simp[Tw.eW,ei] at c1
    |some ob=>
     cases ob with
     |ins c' gs=>
      simp only[Tw.eW,ei,aB,aN] at c1;obtain⟨rfl,c2⟩:=c1;obtain⟨C',dx,gs',⟨mc,gc'⟩,q1,q2⟩:=at1.hr.ins ei;have ec:C'=A:=by have mc:X.mg (str c')=some (.ref C'):=mc;rw[hm] at mc;cases mc;rfl
      subst ec;refine⟨_,dx,gs',rfl,q1,?_,ρ,h1,ι1,at1.ex,?_⟩
      .rcases q2.look (x:=m) with ⟨_,z⟩|⟨u,v,z,_⟩
       .exact z
       .rw[z] at c2;cases c2
      .cases e1:Tw.cw C es ρ h1 with
       |bad=>rw[e1] at p;exact p.elim
       |au=>rw[e1] at p;exact p.elim
       |ok ws h2=>
        simp only[e1,Tw.R.gw,Tw.R.ak] at p;intro ι2 H2 vs ex2 r2 q2';rw[jf];exact⟨.ref i::ws,h2,ι2,HR.ex (E':=EE) r2,.cons ((RW.ref hi).keep (ex2.keeps at1.hr)) q2'.1,ai.later p (ex1.trans ex2)⟩
     |_=>simp[Tw.eW,ei] at c1
   |_=>cases c1
theorem Mz{xe:aJ}(h:wpAny (model X.prog X.w) X.A (spliced (backTo tp (starEach es X.env))) (AP X pins σ fun xs H1=>xs.length<=sizeLine/\∀p,H1 p=none->Q (.ref p) (upd H1 p (.tup xs))) xe s):
  wpAny (model X.prog X.w) X.A (eval (.Tuple es k tp) X.env) (EP X pins σ Q) xe s:=by
 refine wpAny_Tuple_spliced (aF h fun us s1 ⟨xs,H1,I1,r,z,q⟩=>⟨by rw[<-r.length];exact z,?_⟩);have hf:H1 s1.heap.objs.size=none:=I1.av.fresh (aG _);refine⟨.ref s1.heap.objs.size,upd H1 s1.heap.objs.size (.tup xs),I1.laid (t':=s1.toks) (fun b u e=>bj _ e) (aG _) ?_,rfl,q _ hf⟩;exact⟨z,us,r,⟨_,dC _ rfl,rfl,_,rfl⟩⟩
def jc(K:Zk)(ι:Nat->Addr)(h:Tw.Hp)(H:L2.Hp)(ρ:Tw.Env)(σ:L2.St)(m:Tw.R Tw.Fl)(nx:L2.Hp->Prop)(rt:VK):Prop:=match m with
 |.ok (.next _) h'=>∀ι' H',Ext ι h H ι' h' H'->At K ι' h' H' ρ σ->nx H'
 |.ok (.ret w) h'=>∀ι' H' v,Ext ι h H ι' h' H'->HR K ι' h' H'->RW K.K ι' h'.length H' w v->rt v H'
 |.au a h'=>∀ι' H',Ext ι h H ι' h' H'->HR K ι' h' H'->K.ex (.ref (ι' a)) none H'
 |_=>False
def Ri(X:Cx)(pins:aO)(σ:L2.St)(nx:L2.Hp->Prop)(rt:VK)(f:Flow)(s':Shared):Prop:=match f with
 |.next=>∃H',Inv X pins σ H' s'/\nx H'
 |.ret u=>∃v H',Inv X pins σ H' s'/\RelV v u/\rt v H'
 |_=>False
theorem jc.later{K:Zk}{ι ι1:Nat->Addr}{h h1:Tw.Hp}{H H1:L2.Hp}{ρ:Tw.Env}{σ:L2.St}{m:Tw.R Tw.Fl}{nx:L2.Hp->Prop}{rt:VK}(p:jc K ι h H ρ σ m nx rt)(e:Ext ι h H ι1 h1 H1):jc K ι1 h1 H1 ρ σ m nx rt:=by
 cases m with
 |ok f h'=>
  cases f with
  |next _=>exact fun ι' H' e'=>p ι' H' (e.trans e')
  |ret w=>exact fun ι' H' v e'=>p ι' H' v (e.trans e')
  |_=>exact p
 |au a h'=>exact fun ι' H' e' r=>p ι' H' (e.trans e') r
 |bad=>exact p
theorem Im{K:Zk}{α β:Type}{Rr:Rl α β}{ι:Nat->Addr}{h:Tw.Hp}{H:L2.Hp}{ρ:Tw.Env}{σ:L2.St}{m:Tw.R α}{k:α->Tw.Hp->Tw.R Tw.Fl}{nx:L2.Hp->Prop}{rt:VK}(a:At K ι h H ρ σ)(p:jc K ι h H ρ σ (m.bind k) nx rt):
  ai K Rr ι h H m (fun x H1=>∃w h1 ι1,At K ι1 h1 H1 ρ σ/\Ext ι h H ι1 h1 H1/\Rr K.K ι1 h1.length H1 w x/\jc K ι1 h1 H1 ρ σ (k w h1) nx rt):=by
 cases m with
 |ok w h1=>exact fun ι' H' b e r q=>⟨w,h1,ι',a.later e r,e,q,jc.later p e⟩
 |au=>exact p
 |bad=>exact p
variable {ρ:Tw.Env}{h:Tw.Hp}{ι:Nat->Addr}{nx:L2.Hp->Prop}{rt:VK}
theorem Qy(R:fY cf C (dP X.prog X.w) E X)(S:dA sc N X){t:Tw.Tb}{st:Stmt}(hc:IM cf sc N t st=true)(I:Inv X pins σ H s)(at':At ⟨X.K,X.mg,EE⟩ ι h H ρ σ)(p:jc ⟨X.K,X.mg,EE⟩ ι h H ρ σ (Tw.uM C ρ h t) nx rt):
  wpAny (model X.prog X.w) X.A (exec st X.env) (Ri X pins σ nx rt) (XB X pins σ EE) s:=by
 have S0:dA sc N X.qZ:=⟨S.n,S.kind,S.pD,S.gl,S.cf⟩;cases t with
 |call o c m f es u=>
  cases u with
  |none=>
   replace hc:=ay hc;obtain⟨e,e1,hc⟩:=hc;obtain⟨ep,rfl⟩:=pF e1;have sw:swapsWith e none ep.line X.env=pure false:=by replace hc:=ay hc;obtain⟨q,e4,_⟩:=hc;obtain rfl:=jy e4;exact jJ rfl rfl
   refine wpAny_Expr_any (aF (IY R S hc I (Q:=fun _ H1=>nx H1) ⟨ρ,h,ι,at',(Im at' p).mono fun x H1 ⟨w,h1,ι1,at1,e1,r1,p1⟩=>?_⟩) fun v s1 ⟨x,H1,I1,r1,q1⟩=>⟨H1,I1,q1⟩) I.quiet sw;exact p1 ι1 H1 (Ext.refl _ _ _) at1
  |some z=>
   replace hc:=ay hc;obtain⟨r,e1,hc⟩:=hc;obtain⟨rp,rfl⟩:=jz e1;replace hc:=ay hc;obtain⟨e,rfl,hc⟩:=hc;replace hc:=ay hc;obtain⟨xs,e2,hc⟩:=hc;obtain⟨kt,tp,rfl⟩:=iK e2;replace hc:=ay hc;obtain⟨⟨e,y⟩,e3,hc⟩:=hc;obtain rfl:=iG e3;rw[aB] at hc;obtain⟨hc,hk⟩:=hc;replace hk:=ay hk;obtain⟨k,e4,hk⟩:=hk;obtain⟨kk,kp,rfl⟩:=mK (show nq y=some k from e4);have hp:aI e=true:=by replace hc:=ay hc;obtain⟨q,e4,_⟩:=hc;obtain rfl:=jy e4;rfl
   refine Cu (aF (Mz (Q:=rt) ?_) fun v s1 ⟨x,H1,I1,r1,q1⟩=>⟨x,H1,I1,r1,q1⟩);rw[bf hp];show wpAny _ _ (spliced ((false,eval e X.env)::backTo tp (starEach [.Constant k kk kp] X.env))) _ _ s;refine w9 (aF (IY R S hc I (Q:=fun x H1=>∃w h1 ι1,At ⟨X.K,X.mg,EE⟩ ι1 h1 H1 ρ σ/\RW X.K ι1 h1.length H1 w x/\jc ⟨X.K,X.mg,EE⟩ ι1 h1 H1 ρ σ (.ok (.ret (.tup [w,z])) h1) nx rt) ⟨ρ,h,ι,at',(Im at' p).mono fun x H1 ⟨w,h1,ι1,at1,e1,r1,p1⟩=>⟨w,h1,ι1,at1,r1,p1⟩⟩) fun u s1 ⟨x,H1,I1,r1,w,h1,ι1,at1,rw1,p1⟩=>?_);refine fj ((bA (EH (C:=C) (E:=E0) (X:=X.qZ) hk).1 cy rfl) tp pins s1 σ H1 (fun xs H2=>∃y ι2,xs=[y]/\Ext ι1 h1 H1 ι2 h1 H2/\HR ⟨X.K,X.mg,EE⟩ ι2 h1 H2/\RW X.K ι2 h1.length H2 z y) (I1.lg _) ⟨ρ,h1,ι1,at1.ex,?_⟩) (fun us s2 ⟨xs,H2,I2,r2,y,ι2,ey,ex2,hr2,ry⟩=>?_) fun _ _ z=>False.elim z
   .rw[Tw.fH];exact fun ι' H' b e r w=>⟨b,ι',rfl,e,HR.ex r,w⟩
   .subst ey;refine⟨[x,y],H2,I2.kZ,.cons r1 r2,wK (by simp),fun p hp=>?_⟩;obtain⟨r4,e4⟩:=hr2.grow (o:=.tup [x,y]) hp;exact p1 ι2 _ _ (ex2.trans e4) r4 (.tup (.inl aM) (.cons ((rw1.keep (ex2.keeps at1.hr)).keep (e4.keeps hr2)) (.cons (ry.keep (e4.keeps hr2)) .nil)))
 |ret e=>
  replace hc:=ay hc;obtain⟨o,e1,hc⟩:=hc;obtain⟨rp,rfl⟩:=jz e1;replace hc:=ay hc;obtain⟨x,rfl,hc⟩:=hc;refine Cu (fj ((aQ e R.qZ S0 hc).1 pins s σ H rt (I.lg _) ⟨ρ,h,ι,at'.ex,?_⟩) (fun v s1 ⟨x,H1,I1,r1,q1⟩=>⟨x,H1,I1.kZ,r1,q1⟩) fun _ _ z=>False.elim z);dsimp only[Tw.uM] at p;cases e0:Tw.ag C e ρ h with
  |bad=>rw[e0] at p;exact p.elim
  |au=>rw[e0] at p;exact p.elim
  |ok w h1=>
   rw[e0] at p;exact fun ι' H' v ex r rw=>p ι' H' v ex (HR.ex (E':=EE) r) rw
theorem CZ(R:fY cf C (dP X.prog X.w) E X)(S:dA sc N X):∀(ts:List Tw.Tb){ss:List Stmt}{H:L2.Hp}{s:Shared}{h:Tw.Hp}{ι:Nat->Addr},m7 cf sc N ts ss=true->Inv X pins σ H s->At ⟨X.K,X.mg,EE⟩ ι h H ρ σ->jc ⟨X.K,X.mg,EE⟩ ι h H ρ σ (Tw.iW C ρ ts h) nx rt->
  wpAny (model X.prog X.w) X.A (execs ss X.env) (Ri X pins σ nx rt) (XB X pins σ EE) s
 |[],ss,H,s,h,ι,hc,I,at',p=>by
  rw[m7] at hc;obtain rfl:=bI hc;exact qj ⟨H,I,p ι H (Ext.refl _ _ _) at'⟩
 |t::ts,ss,H,s,h,ι,hc,I,at',p=>by
  rw[m7] at hc;replace hc:=ay hc;obtain⟨⟨s0,r⟩,e1,hc⟩:=hc;obtain rfl:=dQ e1;rw[aB] at hc;rw[Tw.iW] at p;refine Cy (aF (Qy (nx:=fun H'=>∃h1 ι',At ⟨X.K,X.mg,EE⟩ ι' h1 H' ρ σ/\jc ⟨X.K,X.mg,EE⟩ ι' h1 H' ρ σ (Tw.iW C ρ ts h1) nx rt) (rt:=rt) R S hc.1 I at' ?_) fun f s1 z=>?_)
  .cases e0:Tw.uM C ρ h t with
   |bad=>rw[e0] at p;exact p.elim
   |au a h1=>rw[e0] at p;exact p
   |ok f h1=>
    rw[e0] at p;cases f with
    |next ρ'=>exact fun ι' H' e a=>⟨h1,ι',a,jc.later p e⟩
    |ret w=>exact p
    |brk _=>exact p.elim
    |cont _=>exact p.elim
  .cases f with
   |next=>obtain⟨H',I',h1,ι',a,q⟩:=z;exact CZ R S ts hc.2 I' a q
   |ret u=>exact z
   |brk=>exact z.elim
   |cont=>exact z.elim
theorem Ad:∀{hs:List Tw.Hd}{l:List ExceptHandler},ot cf sc N hs l=true->Tw.oz c hs=some r->∃fs,cf.cG.lookup c=some fs
 |[],_,_,e=>nomatch e
 |(n,cs,j,act)::hs,l,h,e=>by
  rw[ot] at h;replace h:=ay h;obtain⟨⟨x,r'⟩,e1,h⟩:=h;replace h:=ay h;obtain⟨y,e2,h⟩:=h;simp only[aB,aN,kS] at h;rw[Tw.oz] at e;by_cases hc:cs.contains c=true
  .exact qm.mp (h.1.1.1.1.1.1.1.2 c (uB.mp hc))
  .rw[if_neg hc] at e;exact Ad h.2 e
theorem AF(R:fY cf C CX E X)(S:dA sc N X)(same:X.env.scope.names=sc)(nd:N.Nodup){ι3:Nat->Addr}(I:Inv X pins σ H s)(F:gW X.prog X.w (bL X.stack) H s ea Ce dx .none H' s')(ef:cf.cG.lookup c=some fs)(hm:X.mg (str c)=some (.ref Ce))
  (ia:ι3 a=ea) (al:a<h3.length) (at3:At (zx X E) ι3 h3 H' ρ σ) (p:bU (zx X E) ι3 h3 H' ((Tw.rO C act (ρ.set j (some (.ref a))) h3).gS.bind fun fl h=>.ok (Tw.QE j fl) h) D):
  ∀{hs:List Tw.Hd}{l:List ExceptHandler},ot cf sc N hs l=true->Tw.oz c hs=some (j,act)->wpAny (model X.prog X.w) X.A (handleBy (.ref ea) X.env l) (SP X pins D) X.xe s'
 |[],_,_,e=>nomatch e
 |(n,cs,j',act')::hs,l,h,e=>by
  rw[ot] at h;replace h:=ay h;obtain⟨⟨x,r'⟩,e1,h⟩:=h;obtain rfl:=dQ e1;replace h:=ay h;obtain⟨⟨y,hn,suite⟩,e2,h⟩:=h;obtain⟨py,ph,rfl⟩:=Hm (show E9 x=some (y,hn,suite) from e2);simp only[aB,aN,mI] at h;obtain⟨⟨⟨⟨⟨⟨⟨⟨⟨rfl,h2⟩,h3'⟩,h4⟩,h5⟩,h6⟩,h7⟩,h8⟩,h9⟩,h10⟩:=h;obtain⟨Mx,mm,ex⟩:=R.xf.ib n cs h2;have exm:=ex c fs Ce ef hm;rw[Tw.oz] at e;by_cases hc:cs.contains c=true
  .rw[if_pos hc] at e;cases e;rw[hc] at exm;have hN:X.N.Nodup:=by rw[S.n];exact nd
   have hj:X.N[j]?=some hn:=by rw[S.n];exact h6
   have hl:X.env.scope.names.lookup hn=some .local:=by rw[same];exact h7
   have jl:j<σ.length:=by rw[I.len];exact (eK.mp hj).1
   have hsu:∀v,ff (hX X v) suite (dq (zx (hX X v) E0) (Tw.rO C act)):=fun v=>Ij (R.hd v) ⟨S.n,S.kind,S.pD,S.gl,S.cf⟩ act h9;cases suite with
   |nil=>
    obtain⟨b,bs,rfl⟩:=pL h8;rw[qx] at h9;exact no h9
   |cons b₀ bs=>
    refine MR (t:=dq ⟨X.K,X.mg,E0⟩ (Tw.rO C act)) I F (S.gl _ h4) mm (fD h5) exm hN hj hl hsu {nx:=fun σ2 H2=>D.nx (σ2.set j none) H2,rt:=D.rt,bk:=fun σ2 H2=>D.bk (σ2.set j none) H2,ct:=fun σ2 H2=>D.ct (σ2.set j none) H2} ⟨ρ.set j (some (.ref a)),h3,ι3,?_,?_⟩ fun f s3 z=>?_
    .have:=(at3.ex (E':=E0)).set (w:=.ref a) (v:=.ref (ι3 a)) (.ref al) j;rw[ia] at this;exact this
    .cases e0:Tw.rO C act (ρ.set j (some (.ref a))) h3 with
     |bad=>rw[e0] at p;exact p.elim
     |au=>rw[e0] at p;exact p.elim
     |ok fl h4=>
      rw[e0] at p;cases fl with
      |next ρ'=>exact fun ι' H'' σ' ex a=>p ι' H'' (σ'.set j none) ex (At.GU a.ex j none)
      |brk ρ'=>exact fun ι' H'' σ' ex a=>p ι' H'' (σ'.set j none) ex (At.GU a.ex j none)
      |cont ρ'=>exact fun ι' H'' σ' ex a=>p ι' H'' (σ'.set j none) ex (At.GU a.ex j none)
      |ret w=>exact fun ι' H'' v ex r rw=>p ι' H'' v ex r.ex rw
    .cases f with
     |next=>obtain⟨σ',H'',K1,q⟩:=z;exact mj K1 hN hj hl fun s4 K2=>⟨_,H'',K2,q⟩
     |brk=>obtain⟨σ',H'',K1,q⟩:=z;exact mj K1 hN hj hl fun s4 K2=>⟨_,H'',K2,q⟩
     |cont=>obtain⟨σ',H'',K1,q⟩:=z;exact mj K1 hN hj hl fun s4 K2=>⟨_,H'',K2,q⟩
     |ret u=>obtain⟨v,σ',H'',K1,r,q⟩:=z;exact mj K1 hN hj hl fun s4 K2=>⟨v,_,H'',K2,r,q⟩
  .rw[if_neg hc] at e;rw[zk] at hc;rw[hc] at exm;exact Kg I F (S.gl _ h4) mm (fD h5) exm (AF R S same nd I F ef hm ia al at3 p h10 e)
theorem LK(R:fY cf C (dP X.prog X.w) E X)(S:dA sc N X)(same:X.env.scope.names=sc)(nd:N.Nodup)(hs:X.stack=X.env::X.outer)(hfm:X.env.frame=some X.env.locals)(hb:m7 cf sc N b bd=true)(hh:ot cf sc N ib l=true)(ne:l≠ []):
  PS X (.Try bd l [] [] pos) (dq (zx X E) fun ρ h=>Tw.gp ib C ρ (Tw.iW C ρ b h)):=by
 intro pins s σ H D I ⟨ρ,h,ι,at',p⟩;dsimp only at p;obtain⟨l0,lr,rfl⟩:∃l0 lr,l=l0::lr:=by
  cases l with
  |nil=>exact absurd rfl ne
  |cons x r=>exact⟨x,r,rfl⟩
 let EE:XK:=fun v _ H'=>∃a h3 ι3,Tw.iW C ρ b h=.au a h3/\v=.ref (ι3 a)/\Ext ι h H ι3 h3 H'/\HR (zx X E) ι3 h3 H'
 refine wpAny_Try_except (fj (CZ (EE:=EE) (nx:=fun H'=>D.nx σ H') (rt:=D.rt) R S b hb I at'.ex ?_) (fun f s1 z=>?_) fun ex s2 z=>?_)
 .cases e0:Tw.iW C ρ b h with
  |bad=>rw[e0] at p;exact p.elim
  |au a h3=>exact fun ι' H' ex r=>⟨a,h3,ι',e0,rfl,ex,HR.ex (E':=E) r⟩
  |ok f h1=>
   rw[e0] at p;cases f with
   |next ρ'=>exact fun ι' H' ex a=>p ι' H' σ ex a.ex
   |ret w=>exact fun ι' H' v ex r rw=>p ι' H' v ex (HR.ex (E':=E) r) rw
   |brk _=>exact p.elim
   |cont _=>exact p.elim
 .cases f with
  |next=>obtain⟨H',I',q⟩:=z;exact qj ⟨σ,H',I',q⟩
  |ret u=>obtain⟨v,H',I',r,q⟩:=z;exact⟨v,σ,H',I',r,q⟩
  |brk=>exact z.elim
  |cont=>exact z.elim
 .obtain⟨H1,s1,J,ea,Ce,dx,H',rfl,Fl,a,h3,ι3,eF,ev,ex3,r3⟩:=z;rw[eF] at p;simp only[Tw.gp] at p;cases ea':h3[a]? with
  |none=>rw[ea'] at p;exact p.elim
  |some ob=>
   rw[ea'] at p;cases ob with
   |au c gs=>
    dsimp only at p;cases ep:Tw.oz c ib with
    |none=>rw[ep] at p;exact p.elim
    |some r=>
     obtain⟨j,act⟩:=r;rw[ep] at p;dsimp only at p;obtain⟨fs,ef⟩:=Ad hh ep;obtain⟨C0,dx0,gs',m0,t0,d0,rf⟩:=r3.obj a _ ea';have ev:ι3 a=ea:=(Value.ref.inj ev).symm;have ei:Ce=C0:=by obtain⟨⟨o1,v1,b1,b2,b3,_⟩,_,_⟩:=Fl.av _ _ Fl.tr;obtain⟨⟨o2,v2,c1,c2,c3,_⟩,_,_⟩:=Fl.av _ _ t0;rw[ev,b1] at c1;cases c1;rw[b2] at c2;cases c2;rfl
     subst ei;exact Jt J hs hfm Fl fun s3 F3=>AF R S same nd J F3 ef m0 ev (kr ea') (at'.later ex3 r3) (bU.later p ex3) hh ep
   |_=>exact p.elim
end
def yz(e:Expr):Option (Str×Str):=(n9 e).bind fun ts=>(rW ts).bind fun q=>(bB q.1).bind fun x=>(bB q.2).map fun y=>(x,y)
theorem xT(h:yz e=some r):∃p1 p2 k p,e=.Tuple [.Name r.1 p1,.Name r.2 p2] k p:=by obtain⟨ts,e1,h⟩:=dy.mp h;obtain⟨⟨a,b⟩,e2,h⟩:=dy.mp h;obtain⟨x,e3,h⟩:=dy.mp h;obtain⟨y,e4,rfl⟩:=iQ.mp h;obtain⟨k,p,z1⟩:=iK e1;have z2:=iG e2;obtain⟨p1,z3⟩:=aL e3;obtain⟨p2,z4⟩:=aL e4;dsimp only at z1 z2 z3 z4⊢;exact⟨p1,p2,k,p,by rw[z1,z2,z3,z4]⟩
def yO(s:Stmt):Option (Expr×Expr):=(Fu s).bind fun r=>(fN r.1).map fun t=>(t,r.2.1)
theorem n8(h:yO s=some r):∃p,s=.Assign [r.1] r.2 p:=by obtain⟨⟨ts,v,p⟩,e1,h⟩:=dy.mp h;obtain⟨t,e2,rfl⟩:=iQ.mp h;have z1:=ya e1;have z2:=cZ e2;dsimp only at z1 z2⊢;exact⟨p,by rw[z1,z2]⟩
def UW(sc:Sc)(N:List Str)(t:Tw.Tg)(tg:Expr):Bool:=match t with
 |.var i=>(bB tg).any fun x=>decide (N[i]?=some x)&&j7 sc x
 |.two i j=>(yz tg).any fun r=>decide (N[i]?=some r.1)&&j7 sc r.1&&decide (N[j]?=some r.2)&&j7 sc r.2
noncomputable def R6:Const->Bool
 |.str _=>true
 |_=>false
noncomputable def Tv:Tw.Es->Bool
 |.nil=>true
 |_=>false
def isTup(e:Expr):Bool:=decide (e.ctorIdx=25)
mutual
noncomputable def OM(cf:Cfg)(sc:Sc)(N:List Str):Tw.St->Stmt->Bool
 |.expr e,s=>(v9 s).any fun x=>aI x&&!(sY x)&&aS cf sc N e x
 |.ret e,s=>(rQ s).any fun o=>o.any fun x=>aS cf sc N e x
 |.CC,s=>(rQ s).any fun o=>o.isNone
 |.set i e,s=>(yO s).any fun r=>(bB r.1).any fun y=>decide (N[i]?=some y)&&j7 sc y&&aI r.2&&aS cf sc N e r.2
 |.put o k e,s=>(yO s).any fun r=>(nS r.1).any fun q=>aI q.2&&aS cf sc N o q.1&&aS cf sc N k q.2&&aS cf sc N e r.2
 |.iff c a b,s=>(sX s).any fun r=>eT r.1&&aS cf sc N c r.1&&oF cf sc N a r.2.1&&oF cf sc N b r.2.2
 |.for t it b,s=>(Nq s).any fun r=>r.2.2.2.isEmpty&&aI r.2.1&&yi cf sc N (isTup r.1) it r.2.1&&oF cf sc N b r.2.2.1&&UW sc N t r.1
 |.pass,s=>(HK s).isSome
 |.brk,s=>(OB s).isSome
 |.cont,s=>(HU s).isSome
 |.bad,_=>true
 |.kO i j e,s=>(yO s).any fun r=>(yz r.1).any fun q=>decide (N[i]?=some q.1)&&j7 sc q.1&&decide (N[j]?=some q.2)&&j7 sc q.2&&isCall r.2&&aS cf sc N e r.2
 |.gm o x e,s=>(yO s).any fun r=>(lA r.1).any fun q=>decide (q.2.1=⟨x.toArray⟩)&&Ai.contains q.2.1&&aI r.2&&!(sY r.2)&&aS cf sc N o q.1&&aS cf sc N e r.2
 |.aug _ _ _,_=>false
 |.Dj c b,s=>(K9 s).any fun r=>r.2.2.isEmpty&&eT r.1&&aS cf sc N c r.1&&oF cf sc N b r.2.1
 |.raise c xs es,s=>(C8 s).any fun r=>r.2.isNone&&r.1.any fun e=>(mS e).any fun q=>!(q.2.isEmpty)&&decide (q.1=str c)&&decide (cf.cG.lookup c=some xs)&&jo sc q.1&&oV q.1&&(if xs.isEmpty then Tv es&&(fN q.2).any fun y=>(nq y).any R6 else fV cf sc N es q.2)
 |.se b hs,s=>(MN s).any fun r=>r.2.2.1.isEmpty&&r.2.2.2.isEmpty&&!(r.2.1.isEmpty)&&m7 cf sc N b r.1&&ot cf sc N hs r.2.1
noncomputable def oF(cf:Cfg)(sc:Sc)(N:List Str):List Tw.St->List Stmt->Bool
 |[],ss=>ss.isEmpty
 |t::ts,ss=>(nC ss).any fun r=>OM cf sc N t r.1&&oF cf sc N ts r.2
end
structure pR(cf:Cfg)(C:Tw.Or)(CX:iH)(E:XK)(sc:Sc)(N:List Str)(X:Cx):Prop where
 eP:fY cf C CX E X
 sees:dA sc N X
 same:X.env.scope.names=sc
 nd:N.Nodup
 fn:∀x,X.fn x=true
 pass:PassesOwn (model X.prog X.w) X.A X.env X.xe
 block:X.env.blockKind=.function
 ex:X.ex=[]
 st:X.stack=X.env::X.outer
 fm:X.env.frame=some X.env.locals
 xe:X.xe=og X E
 cx:CX=dP X.prog X.w
 err:∀c fs,cf.cG.lookup c=some fs->IX X c fs
 hd:cf.hd=false
section
variable {cf:Cfg}{C:Tw.Or}{CX:iH}{E:XK}{sc:Sc}{N:List Str}{X:Cx}
theorem pR.loc(R:pR cf C CX E sc N X)(h:j7 sc x=true):Loc X.env.scope x:=by
 unfold j7 at h;rw[<-R.same] at h;cases e:X.env.scope.names.lookup x with
 |none=>rw[e] at h;exact no h
 |some k=>
  rw[e] at h;cases k with
  | «local» => exact .inl e
  |cell=>exact .inr e
  |_=>exact no h
theorem pR.EN(R:pR cf C CX E sc N X)(h1:N[i]?=some x)(h2:j7 sc x=true):PG X (.Name x p) (gL i):=
 nA (by rw[R.sees.n];exact R.nd) (by rw[R.sees.n];exact h1) (R.loc h2) (.inl (R.fn x))
theorem A4(hk:aI k=true)(v:Value):assign (.Subscript o k pos') env v=(do
   let ov <-holding [v] (eval o env)
   let iv <-holding [v,ov] (eval k env)
   standAt pos'
   holding [v,ov,iv] (setItem ov iv v)
   release [v,ov,iv] []):=by
 cases k<;>first|rfl|exact absurd (show false=true from hk) e9
theorem OC(R:pR cf C CX E sc N X)(h1:N[i]?=some y)(h2:j7 sc y=true)(h3:aI x=true)(h4:aS cf sc N e x=true):
  PS X (.Assign [.Name y py] x p) (dq (zx X E) fun ρ h=>(Tw.ag C e ρ h).bind fun w h=>.ok (.next (ρ.set i (some w))) h):=by
 have plain:swapsWith x (some (.Name y py)) p.line X.env=pure false->PS X (.Assign [.Name y py] x p) (dq (zx X E) fun ρ h=>(Tw.ag C e ρ h).bind fun w h=>.ok (.next (ρ.set i (some w))) h):=fun hs=>
  P6 (by rw[R.sees.n];exact R.nd) (by rw[R.sees.n];exact h1) (R.loc h2) (aQ e R.eP R.sees h4).1 hs (R.fn y)
 by_cases hc:sY x=true
 .cases x with
  |ListComp elt gens scope pos=>
   have hsw:swapsWith (.ListComp elt gens scope pos) (some (.Name y py)) p.line X.env=pure (X.env.blockKind== .function&&X.env.kindOf y== some .local&&py.line== pos.line&&!(scope.names.any fun (n,k)=>n== y&&(k== .local || k== .cell))):=rfl;cases hb:(X.env.blockKind== .function&&X.env.kindOf y== some .local&&py.line== pos.line&&!(scope.names.any fun (n,k)=>n== y&&(k== .local || k== .cell))) with
   |false=>rw[hb] at hsw;exact plain hsw
   |true=>
    rw[hb] at hsw;have hl:X.env.scope.names.lookup y=some .local:=by simp only[aB,jb] at hb;exact hb.1.1.2
    cases e with
    |comp el it c=>
     replace h4:=zA h4;replace h4:=h4.2
     .replace h4:=ay h4;obtain⟨⟨yy,gs,scope,pos⟩,e1,h4⟩:=h4;cases kl e1;replace h4:=ay h4;obtain⟨⟨tg,iter,ifs⟩,e2,h4⟩:=h4;obtain rfl:=mB e2;replace h4:=ay h4;obtain⟨xx,e3,h4⟩:=h4;obtain⟨px,rfl⟩:=aL e3;simp only[aB,aN] at h4;obtain⟨⟨⟨⟨⟨h0,h1'⟩,h2'⟩,h3'⟩,h4⟩,h5⟩:=h4;have S:=R.sees;have cs:=tJ S h0;have hk:scope.kind=.function:=cs.kind;have hnd:(bP X.N [xx]).Nodup:=by rw[S.n];exact h1'
      have sees:∀{Cc:Addr}{s:Shared}{H:L2.Hp}{pins:aO}{fp:List Addr},dA scope.names (bP N [xx]) (bq X scope Cc [xx] s H pins fp):=fun {Cc s H pins fp}=>by
       have z:=dA.comp (X:=X) (scope:=scope) (C:=Cc) (x:=[xx]) (s:=s) (H:=H) (pins:=pins) (fp:=fp) hk;rw[S.n] at z;exact z
      have hev:Tw.ag C (.comp el it c)=oh CV (Tw.eE C it) (Tw.iB C c) (Tw.ag C el):=by funext ρ h;rw[Tw.jt];rfl
      rw[hev];refine Eh (R.eP.calm R.hd) cs (xg hnd cs) (xJ _ _) (uu it R.eP S h3' (fun z=>nomatch z)) (fc h2') (fun Cc s H pins fp=>(aQ el R.eP.comp sees h4).1) ?_ (by rw[S.n];exact R.nd) (by rw[S.n];exact h1) hl hsw;cases c with
      |none=>
       obtain rfl:=bI (show ifs.isEmpty=true from h5);exact .inl ⟨rfl,fun ρ h=>by rw[Tw.pM]⟩
      |some d=>
       replace h5:=ay h5;obtain⟨z,e4,h5⟩:=h5;obtain rfl:=cZ (show fN ifs=some z from e4);rw[aB] at h5;exact .inr ⟨z,Tw.ag C d,rfl,fun ρ h=>by rw[Tw.vw],fun Cc s H pins fp=>(aQ d R.eP.comp sees h5.2).2 h5.1⟩
    |ij el it=>
     replace h4:=pT.mp h4;replace h4:=h4.2
     .replace h4:=ay h4;obtain⟨⟨yy,gs,scope,pos⟩,e1,h4⟩:=h4;cases kl e1;replace h4:=ay h4;obtain⟨⟨tg,iter,ifs⟩,e2,h4⟩:=h4;obtain rfl:=mB e2;rw[aB] at h4;obtain⟨hi,h4⟩:=h4;obtain rfl:=bI (show ifs.isEmpty=true from hi);replace h4:=ay h4;obtain⟨ts,e3,h4⟩:=h4;obtain⟨kt,pt,rfl⟩:=iK e3;replace h4:=ay h4;obtain⟨⟨n1,n2⟩,e4,h4⟩:=h4;obtain rfl:=iG e4;replace h4:=ay h4;obtain⟨xx,e5,h4⟩:=h4;obtain⟨px,rfl⟩:=aL e5;replace h4:=ay h4;obtain⟨x2,e6,h4⟩:=h4;obtain⟨px2,rfl⟩:=aL e6;simp only[aB,aN] at h4;obtain⟨⟨⟨⟨h0,h1'⟩,h2'⟩,h3'⟩,h4⟩:=h4;have S:=R.sees;have cs:=tJ S h0;have hk:scope.kind=.function:=cs.kind;have hnd:(bP X.N [xx,x2]).Nodup:=by rw[S.n];exact h1'
      have sees:∀{Cc:Addr}{s:Shared}{H:L2.Hp}{pins:aO}{fp:List Addr},dA scope.names (bP N [xx,x2]) (bq X scope Cc [xx,x2] s H pins fp):=fun {Cc s H pins fp}=>by
       have z:=dA.comp (X:=X) (scope:=scope) (C:=Cc) (x:=[xx,x2]) (s:=s) (H:=H) (pins:=pins) (fp:=fp) hk;rw[S.n] at z;exact z
      have hev:Tw.ag C (.ij el it)=oh o9 (Tw.eE C it) (fun _ h=>.ok none h) (Tw.ag C el):=by
       funext ρ h;rw[Tw.iL];unfold oh
       congr 1
       funext s h;rw[va]
      rw[hev];exact Eh (R.eP.calm R.hd) cs (yb (R.eP.calm R.hd) hnd cs) (xj _ _) (uu it R.eP S h3' (fun _=>⟨_,_,_,rfl⟩)) (fc h2') (fun Cc s H pins fp=>(aQ el R.eP.comp sees h4).1) (.inl ⟨rfl,fun _ _=>rfl⟩) (by rw[S.n];exact R.nd) (by rw[S.n];exact h1) hl hsw
    |bad=>
     refine fun pins s σ H D I ⟨ρ,h,ι,at',p⟩=>?_;simp only[Tw.um] at p;exact p.elim
    |i4 a ns ds cs=>cases a<;>exact no h4
    |rm a x ds=>cases a<;>exact no h4
    |_=>first|exact no h4|exact no (pT.mp h4).2
  |_=>exact no hc
 .exact plain (jJ h3 (by simpa using hc))
mutual
theorem Sv(R:pR cf C CX E sc N X):∀(t:Tw.St){s:Stmt},OM cf sc N t s=true->PS X s (dq (zx X E) (Tw.dD C t))
 |.expr e,s,h=>by
  replace h:=ay h;obtain⟨x,e1,h⟩:=h;obtain⟨p,rfl⟩:=pF e1;simp only[aB,mI] at h;exact NU (aQ e R.eP R.sees h.2).1 (jJ h.1.1 h.1.2)
 |.ret e,s,h=>by
  replace h:=ay h;obtain⟨o,e1,h⟩:=h;obtain⟨p,rfl⟩:=jz e1;replace h:=ay h;obtain⟨x,rfl,h⟩:=h;exact B4 (aQ e R.eP R.sees h).1
 |.CC,s,h=>by
  replace h:=ay h;obtain⟨o,e1,h⟩:=h;obtain⟨p,rfl⟩:=jz e1;obtain rfl:=wj.mp h;exact Lz
 |.set i e,s,h=>by
  replace h:=ay h;obtain⟨⟨t,v⟩,e1,h⟩:=h;obtain⟨p,rfl⟩:=n8 e1;replace h:=ay h;obtain⟨y,e2,h⟩:=h;obtain⟨py,rfl⟩:=aL (show bB t=some y from e2);simp only[aB,aN] at h;exact OC R h.1.1.1 h.1.1.2 h.1.2 h.2
 |.put o k e,s,h=>by
  replace h:=ay h;obtain⟨⟨t,v⟩,e1,h⟩:=h;obtain⟨p,rfl⟩:=n8 e1;replace h:=ay h;obtain⟨⟨x,y⟩,e2,h⟩:=h;obtain⟨p2,rfl⟩:=mH (show nS t=some (x,y) from e2);simp only[aB] at h;exact Pp (by have:=R.eP.units;omega) (aQ e R.eP R.sees h.2).1 (aQ o R.eP R.sees h.1.1.2).1 (aQ k R.eP R.sees h.1.2).1 (A4 h.1.1.1)
 |.iff c a b,s,h=>by
  replace h:=ay h;obtain⟨⟨x,ys,zs⟩,e1,h⟩:=h;obtain⟨p,rfl⟩:=zY e1;simp only[aB] at h;rw[show Tw.dD C (.iff c a b)=fun ρ h=>(Tw.ag C c ρ h).bind fun x h=>match Tw.truth h x with
   |some true=>Tw.aH C a ρ h
   |some false=>Tw.aH C b ρ h
   |none=>.bad from by funext ρ h;rw[Tw.iM]<;>rfl]
  exact Oh ((aQ c R.eP R.sees h.1.1.2).2 h.1.1.1) (nW R a h.1.2) (nW R b h.2)
 |.for t it b,s,h=>by
  replace h:=ay h;obtain⟨⟨tg,iter,ys,zs⟩,e1,h⟩:=h;obtain⟨p,rfl⟩:=Ge e1;simp only[aB] at h;obtain⟨⟨⟨⟨hz,h0⟩,h1⟩,h2⟩,h3⟩:=h;obtain rfl:=bI (show zs.isEmpty=true from hz);cases t with
  |var i=>
   replace h3:=ay h3;obtain⟨x,e2,h3⟩:=h3;obtain⟨px,rfl⟩:=aL (show bB tg=some x from e2);simp only[aB,aN] at h3;exact Dk R.pass (R.eP.calm R.hd) (uu it R.eP R.sees h1 (fun z=>nomatch z)) (R.EN h3.1 h3.2) (K8 _ _) (nW R b h2) (fc h0)
  |two i j=>
   replace h3:=ay h3;obtain⟨⟨x,y⟩,e2,h3⟩:=h3;obtain⟨p1,p2,kt,pt,rfl⟩:=xT (show yz tg=some (x,y) from e2);simp only[aB,aN] at h3;exact Dk R.pass (R.eP.calm R.hd) (uu it R.eP R.sees h1 (fun _=>⟨_,_,_,rfl⟩)) (ym (R.eP.calm R.hd) (jF (R.EN h3.1.1.1 h3.1.1.2) (jF (R.EN h3.1.2 h3.2) uo))) (El _ _ _) (nW R b h2) (fc h0)
 |.pass,s,h=>by
  obtain⟨_,e1⟩:=qm.mp h;obtain⟨p,rfl⟩:=C5 e1;exact KR
 |.brk,s,h=>by
  obtain⟨_,e1⟩:=qm.mp h;obtain⟨p,rfl⟩:=G7 e1;exact Qt
 |.cont,s,h=>by
  obtain⟨_,e1⟩:=qm.mp h;obtain⟨p,rfl⟩:=Dq e1;exact Nf
 |.bad,s,h=>by
  exact fun pins s σ H D I ⟨ρ,h,ι,at',p⟩=>p.elim
 |.kO i j e,s,h=>by
  replace h:=ay h;obtain⟨⟨t,v⟩,e1,h⟩:=h;obtain⟨p,rfl⟩:=n8 e1;replace h:=ay h;obtain⟨⟨x,y⟩,e2,h⟩:=h;obtain⟨p1,p2,kt,pt,rfl⟩:=xT (show yz t=some (x,y) from e2);simp only[aB,aN] at h;obtain⟨⟨⟨⟨⟨h1,h2⟩,h3⟩,h4⟩,h5⟩,h6⟩:=h;rw[show Tw.dD C (.kO i j e)=fun ρ h=>(Tw.ag C e ρ h).bind fun x h=>match x with
   |.tup [u,v]=>.ok (.next ((ρ.set i (some u)).set j (some v))) h
   |_=>.bad from by funext ρ h;rw[Tw.rF]<;>rfl]
  exact OJ (ym (R.eP.calm R.hd) (jF (R.EN h1 h2) (jF (R.EN h3 h4) uo))) (El _ _ _) (aQ e R.eP R.sees h6).1 h5
 |.gm o x e,s,h=>by
  replace h:=ay h;obtain⟨⟨t,z⟩,e1,h⟩:=h;obtain⟨p,rfl⟩:=n8 e1;replace h:=ay h;obtain⟨⟨v,y,p2⟩,e2,h⟩:=h;obtain rfl:=iR (show lA t=some (v,y,p2) from e2);simp only[aB,aN,mI] at h;obtain⟨⟨⟨⟨⟨rfl,h1⟩,h2⟩,h3⟩,h4⟩,h5⟩:=h;exact MI (by rw[B0] at h1;simpa using h1) (aQ e R.eP R.sees h5).1 (aQ o R.eP R.sees h4).1 (jJ h2 h3)
 |.aug i op e,s,h=>by
  exact no h
 |.Dj c b,s,h=>by
  replace h:=ay h;obtain⟨⟨x,ys,zs⟩,e1,h⟩:=h;obtain⟨p,rfl⟩:=GR e1;simp only[aB] at h;obtain⟨⟨⟨hz,h0⟩,h1⟩,h2⟩:=h;obtain rfl:=bI (show zs.isEmpty=true from hz);exact Pn R.pass ((aQ c R.eP R.sees h1).2 h0) (nW R b h2)
 |.raise c xs es,s,h=>by
  replace h:=ay h;obtain⟨⟨o,cs⟩,e1,h⟩:=h;obtain⟨p,rfl⟩:=Bb e1;rw[aB] at h;obtain⟨hn,h⟩:=h;obtain rfl:=wj.mp (show cs.isNone=true from hn);replace h:=ay h;obtain⟨e,z,h⟩:=h;obtain rfl:o=some e:=z;replace h:=ay h;obtain⟨⟨x,ys⟩,e3,h⟩:=h;obtain⟨np,cp,rfl⟩:=fq e3;simp only[aB,aN,mI] at h;obtain⟨⟨⟨⟨⟨hy,rfl⟩,h1⟩,h2⟩,h3⟩,h4⟩:=h;by_cases xe:xs.isEmpty=true
  .rw[if_pos xe,aB] at h4;obtain rfl:=bI xe;obtain⟨h4,h5⟩:=h4;cases es with
   |cons _ _=>exact no h4
   |nil=>
    replace h5:=ay h5;obtain⟨y,e5,h5⟩:=h5;obtain rfl:=cZ (show fN ys=some y from e5);replace h5:=ay h5;obtain⟨k,e6,h5⟩:=h5;obtain⟨kk,kp,rfl⟩:=mK e6;cases k with
    |str z=>
     obtain⟨Ce,hm,⟨_,M⟩|⟨f,k,fd,ps,z0,_⟩⟩:=R.err c [] h1
     .show PS X _ (dq (zx X E) fun _ h=>Tw.jr c [] [] h);exact Gf R.ex R.st R.fm R.xe (R.eP.calm R.hd) hm M (R.sees.gl _ h2) (fD h3)
     .exact absurd rfl z0
    |_=>exact no h5
  .rw[if_neg xe] at h4;obtain⟨y,ys,rfl⟩:=pL hy;obtain⟨hp,z⟩:=ko es R.eP R.sees h4;rw[fL,aB] at hp;exact JU R.ex R.st R.fm R.xe (R.err c xs h1) (fun z=>xe (by rw[z];rfl)) (R.sees.gl _ h2) z (fD h3) (bf hp.1) (by rw[fk hp.2];simp[backTo])
 |.se b hs,s,h=>by
  replace h:=ay h;obtain⟨⟨bd,l,oe,fb⟩,e1,h⟩:=h;obtain⟨p,rfl⟩:=FX e1;simp only[aB,mI] at h;obtain⟨⟨⟨⟨w1,w2⟩,w3⟩,h1⟩,h2⟩:=h;obtain rfl:=bI (show oe.isEmpty=true from w1);obtain rfl:=bI (show fb.isEmpty=true from w2);have cx:=R.cx;subst cx;exact LK R.eP R.sees R.same R.nd R.st R.fm h1 h2 (fun z=>by rw[show l=[] from z] at w3;cases w3)
theorem nW(R:pR cf C CX E sc N X):∀(ts:List Tw.St){ss:List Stmt},oF cf sc N ts ss=true->ff X ss (dq (zx X E) (Tw.aH C ts))
 |[],ss,h=>by
  obtain rfl:=bI h;exact xO
 |t::ts,ss,h=>by
  replace h:=ay h;obtain⟨⟨s,r⟩,e1,h⟩:=h;obtain rfl:=dQ e1;simp only[aB] at h;rw[show Tw.aH C (t::ts)=fun ρ h=>(Tw.dD C t ρ h).bind fun f h=>match f with
   |.next ρ=>Tw.aH C ts ρ h
   |f=>.ok f h from by funext ρ h;rw[Tw.bH]<;>rfl]
  exact zR (Sv R t h.1) (nW R ts h.2)
end
end
structure bG where
 key:Fk
 name:Str
 qual:Str
 st:Stmt
 N:List Str
 ps:List Str
def By(cf:Cfg)(d:bG)(fn:Tw.Fn):Bool:=
 decide ((ao d.st).kind=.function)&&!(ao d.st).isCoroutine&&!(ao d.st).isGenerator&&decide d.N.Nodup&&decide (d.N.take d.ps.length=d.ps)&&
 d.ps.all (j7 (ao d.st).names)&&(ao d.st).names.all (fun y=>decide (y.2≠.free))&&decide (fn.ps=d.ps.length)&&decide (fn.ns=d.N.length)&&oF cf (ao d.st).names d.N fn.body (cg d.st)
noncomputable def Iq(K:W.Frag)(mg:Str->Option Value)(g:Addr):Fk->Prop
 |.fn x=>mg x=some (.ref g)
 |.me c m=>∃A,mg ⟨c.toArray⟩=some (.ref A)/\GoodC K A/\(m=gD->Mk K A g)/\(m≠gD->Meth K A ⟨m.toArray⟩ g)
structure mE(K:W.Frag)(mg:Str->Option Value)(d:bG)(g:Addr)(fd:FuncData):Prop where
 F:t7 K d.name d.qual d.st g fd
 m:Iq K mg g d.key
 b:∀us:List Value,us.length=d.ps.length->bindArgs fd ⟨us,[]⟩=pure (d.ps.zip us)
def TabAt(K:W.Frag)(mg:Str->Option Value)(fns:List Fk)(x:Str)(g:List (Tw.S×Nat)):Prop:=
 ∃t D,mg x=some (.ref t)/\oP K t D/\(∀s f,g.lookup s=some f->∃y ga,fns[f]?=some (.fn y)/\mg y=some (.ref ga)/\KTD.datumAt (⟨s.toArray⟩:Str) D=some ga)
def pY(K:W.Frag)(mg:Str->Option Value)(x:Str)(g:List Tw.S):Prop:=∃t D,mg x=some (.ref t)/\oP K t D/\∀s:Tw.S,KTD.inKeys (⟨s.toArray⟩:Str) D=g.contains s
def ue(K:W.Frag)(mg:Str->Option Value)(x:Str)(w:Tw.W):Prop:=∃v u,mg x=some u/\RelV v u/\∀ι n H,RW K ι n H w v
structure lZ(K:W.Frag)(mg:Str->Option Value)(c:Tw.S)(fs:List Tw.S):Prop where
 ex:∃C,mg (str c)=some (.ref C)/\((fs=[]/\sF K C)\/∃f fd sf x qual st,fs≠ []/\sZ K C f/\XC K C/\(∀g∈fs.map str,aZ K C g)/\t7 K x qual st f fd/\Binds K fd (sf::fs.map str) []/\fs.length<=100/\
  (yR st (sf::fs.map str)=true\/∃r R g gd gx gq gs sb p ps,fs.map str=p::ps/\BZ r st (sf::fs.map str)=true/\mg r=some (.ref R)/\jS K R g/\t7 K gx gq gs g gd/\yR gs [sb,p]=true/\Binds K gd [sb,p] []))
theorem lZ.ok{P:Program}{w:World}{K:W.Frag}{mg:Str->Option Value}{base:Heap}{c:Tw.S}{fs:List Tw.S}(E:lZ K mg c fs):∃C,mg (str c)=some (.ref C)/\((fs=[]/\sF K C)\/∃f fd ps,fs≠ []/\sZ K C f/\XC K C/\(∀g∈fs.map str,aZ K C g)/\fs.length<=1000/\
  cv P w K mg base (dP P w) 2 f fd ps (nK K (fs.map str))/\Binds K fd ps []):=by
 obtain⟨C,h1,h|⟨f,fd,sf,x,qual,st,h0,h2,h3,h4,F,hb,hl,h⟩⟩:=E.ex
 .exact⟨C,h1,.inl h⟩
 refine⟨C,h1,.inr ⟨f,fd,sf::fs.map str,h0,h2,h3,h4,by omega,?_,hb⟩⟩;rcases h with h|⟨r,R,g,gd,gx,gq,gs,sb,p,ps,e,hB,hm,B,G,gA,gb⟩
 .cases e:fs.map str with
  |nil=>rw[e] at h;cases h
  |cons p ps=>rw[e] at h;exact xD F h
 .rw[e] at hB⊢;exact Hu F hB hm B (xD (k:=0) G gA) gb
section
variable {P:Program}{w:World}{K:W.Frag}{mg:Str->Option Value}{base:Heap}{cf:Cfg}{C:Tw.Or}
theorem t7.U6{x qual:Str}{st:Stmt}{f:Addr}{fd:FuncData}{N ps:List Str}{k:Nat}{sp:Sp}(F:t7 K x qual st f fd)(S:kE N ps (ao st))(len:∀vs H Q E,sp vs H Q E->vs.length=ps.length)
  (hb:∀(cdv:Value)(A:Around)(outer:List Env)(s:Shared)(H:L2.Hp)(vs:List V)(Q:VK)(E:XK),bZ k (A.deeper (envOfC qual (ao st) s.heap.objs.size f cdv))->sp vs H Q E->
   ∃t,ff (mO (dP P w) P w K mg base N qual (ao st) f cdv A outer s H E) (cg st) t/\t {nx:=fun _ H'=>Q .aq H',rt:=Q} (start N vs) H):cv P w K mg base (dP P w) (k+1) f fd ps sp:=by
 obtain⟨oc,od,kV,doc,pm,an,cdv,ct,osl,rfl,lk,hcd⟩:=F.ex;exact Cz lk hcd S len fun A outer s H vs Q E hr hsp=>hb cdv A outer s H vs Q E hr hsp
theorem F6{K:Zk}{ι:Nat->Addr}{h:Tw.Hp}{H:L2.Hp}{ws:List Tw.W}{vs:List V}{N:List Str}(r:HR K ι h H)(rw':aT K.K ι h.length H ws vs)(hl:vs.length<=N.length):
  At K ι h H (ws.map some++List.replicate (N.length-ws.length) none) (start N vs):=by
 refine⟨r,?_,fun i w e=>?_⟩
 .unfold L2.start;simp only[n5,j3,List.length_replicate,rw'.length]
 .have hi:i<ws.length:=by
   by_cases hi:i<ws.length
   .exact hi
   .rw[om (by simpa using hi),FJ] at e;split at e<;>cases e
  rw[ja (by simpa using hi),oy] at e;cases e1:ws[i]? with
  |none=>rw[e1] at e;cases e
  |some u=>
   rw[e1] at e;cases e;obtain⟨v,g1,g2⟩:=rw'.get e1;refine⟨v,?_,g2⟩;unfold L2.start;rw[ja (by rw[j3,<-rw'.length];exact hi),oy,g1];rfl
theorem Px(D:mE K mg d g fd)(h:By cf d fn=true)(hb:∀x∈df,mg x=none)
  (own:∀f kk,cf.fns[f]?=some kk->∃g fd ps,cv P w K mg base (dP P w) k g fd ps (iz K mg (C f))/\Iq K mg g kk/\W.keepIn K (.ref g)=true/\Binds K fd ps [])
  (tab:∀x g,cf.tabs.lookup x=some g->TabAt K mg cf.fns x g) (key:∀x g,cf.keys.lookup x=some g->pY K mg x g) (con:∀x w,cf.cons.lookup x=some w->ue K mg x w) (err:∀c fs,cf.cG.lookup c=some fs->lZ K mg c fs) (xf:xK K mg cf) (hdf:cf.hd=false) (hk2:2<=k):
  cv P w K mg base (dP P w) (k+2) g fd d.ps (iz K mg (Tw.bY C fn)):=by
 unfold By at h;simp only[aB,aN,mI,kS] at h;obtain⟨⟨⟨⟨⟨⟨⟨⟨⟨h1,h2⟩,h3⟩,h4⟩,h5⟩,h6⟩,h7⟩,h8⟩,h9⟩,h10⟩:=h;have S:kE d.N d.ps (ao d.st):=⟨h1,h2,h3,h4,h5,fun x hx=>by
  have z:=h6 x hx;unfold j7 at z;cases e:(ao d.st).names.lookup x with
  |none=>rw[e] at z;exact no z
  |some k=>
   rw[e] at z;cases k with
   | «local» => exact .inl rfl
   |cell=>exact .inr rfl
   |_=>exact no z,h7⟩
 have hpl:d.ps.length<=d.N.length:=by have:=eN List.length h5;rw[yJ] at this;omega
 have len:∀vs H Q E,iz K mg (Tw.bY C fn) vs H Q E->vs.length=d.ps.length:=fun vs H Q E ⟨ws,h,ι,hr,rr,p⟩=>by
  unfold Tw.bY at p;by_cases c:ws.length=fn.ps
  .rw[<-rr.length,c,h8]
  .rw[if_neg c] at p;exact p.elim
 refine t7.U6 D.F S len fun cdv A outer s H vs Q E hr hsp=>⟨dq ⟨K,mg,E⟩ (Tw.aH C fn.body),?_,?_⟩
 .have R:pR cf C (dP P w) E (ao d.st).names d.N (mO (dP P w) P w K mg base d.N d.qual (ao d.st) g cdv A outer s H E):=by
   refine⟨⟨fun _=>rfl,?_,fun f x e=>?_,fun f c m e=>?_,tab,key,con,hb,xf,Ig rfl rfl rfl rfl,dP.never⟩,⟨rfl,h1,fun x hx=>?_,fun x hx=>?_,fun x hx=>?_⟩,rfl,h4,fun _=>rfl,PassesOwn.leaving,?_,rfl,rfl,rfl,rfl,rfl,fun c fs e=>?_,hdf⟩
   .have:=hr.un;show (A.deeper (envOfC d.qual (ao d.st) s.heap.objs.size g cdv)).units+100<cLine;omega
   .obtain⟨g',fd',ps',z1,z2,z3,z4⟩:=own f (.fn x) e;exact⟨k,g',fd',ps',z1,hr.mono (jx k),z2,z3,z4⟩
   .obtain⟨g',fd',ps',z1,⟨A',y1,y2,y3,y4⟩,z3,z4⟩:=own f (.me c m) e;exact⟨k,g',fd',ps',A',z1,hr,y1,y2,y3,y4,z4⟩
   .show jP (ao d.st) x;unfold uQ at hx;cases e:(ao d.st).names.lookup x with
    |none=>rw[e] at hx;exact no hx
    |some k=>
     rw[e] at hx;cases k with
     | «local» => exact .inl e
     |cell=>exact .inr (.inl e)
     |free=>exact .inr (.inr e)
     |_=>exact no hx
   .show (ao d.st).names.lookup x=some .globalImplicit;unfold jo at hx;cases e:(ao d.st).names.lookup x with
    |none=>rw[e] at hx;exact no hx
    |some k=>
     rw[e] at hx;cases k with
     |globalImplicit=>rfl
     |_=>exact no hx
   .show (ao d.st).names.lookup x=some .cell\/(ao d.st).names.lookup x=some .free;unfold Ir at hx;cases e:(ao d.st).names.lookup x with
    |none=>rw[e] at hx;exact no hx
    |some k=>
     rw[e] at hx;cases k with
     |cell=>exact .inl rfl
     |free=>exact .inr rfl
     |_=>exact no hx
   .show Env.blockKind (envOfC d.qual (ao d.st) s.heap.objs.size g cdv)=.function;unfold Env.blockKind;have hk:(envOfC d.qual (ao d.st) s.heap.objs.size g cdv).scope.kind=.function:=h1;rw[hk];exact ite_self _
   .obtain⟨C',e1,h|⟨f,fd',ps',e0,e2,e3,e4,e5,e6,e7⟩⟩:=(err c fs e).ok (P:=P) (w:=w) (base:=base)
    .exact⟨C',e1,.inl h⟩
    .exact⟨C',e1,.inr ⟨f,2,fd',ps',e0,e2,e3,e4,e5,e6,hr.mono (by omega),e7⟩⟩
  exact nW R fn.body h10
 .obtain⟨ws,h,ι,hr',rr,p⟩:=hsp;unfold Tw.bY at p;by_cases c:ws.length=fn.ps
  .rw[if_pos c] at p;refine⟨_,h,ι,F6 (K:=⟨K,mg,E⟩) (N:=d.N) hr' rr (by rw[<-rr.length,c,h8];exact hpl),?_⟩;rw[show d.N.length-ws.length=fn.ns-fn.ps by rw[h9,c]];cases e:Tw.aH C fn.body (ws.map some++List.replicate (fn.ns-fn.ps) none) h with
   |bad=>rw[e] at p;exact p.elim
   |au=>rw[e] at p;exact p
   |ok fl h'=>
    rw[e] at p;cases fl with
    |next ρ=>exact fun ι' H' σ' ex a=>p ι' H' .aq ex a.hr .aq
    |ret u=>exact p
    |brk ρ=>exact p.elim
    |cont ρ=>exact p.elim
  .rw[if_neg c] at p;exact p.elim
def kL(cf:Cfg):List bG->List Tw.Fn->Bool
 |[],[]=>true
 |d::ds,f::fs=>By cf d f&&kL cf ds fs
 |_,_=>false
theorem vL:∀{ds:List bG}{fs:List Tw.Fn},kL cf ds fs=true->∀{i:Nat}{d:bG},ds[i]?=some d->∃f,fs[i]?=some f/\By cf d f=true
 |[],[],_,i,d,e=>by simp at e
 |[],_::_,h,_,_,_=>by exact no h
 |_::_,[],h,_,_,_=>by exact no h
 |a::ds,f::fs,h,0,d,e=>by
  rw[kL,aB] at h;simp at e;subst e;exact⟨f,rfl,h.1⟩
 |a::ds,f::fs,h,i+1,d,e=>by
  rw[kL,aB] at h;obtain⟨f',z1,z2⟩:=vL h.2 (i:=i) (d:=d) (by simpa using e);exact⟨f',by simpa using z1,z2⟩
theorem J9(h:kL ⟨Ds.map (·.key),tabs,keys,cons,cG,false,ib,lY⟩ Ds T=true)(hD:∀d∈Ds,∃g fd,mE K mg d g fd)(hb:∀x∈df,mg x=none)
  (hT:∀x g,tabs.lookup x=some g->TabAt K mg (Ds.map (·.key)) x g) (hK:∀x g,keys.lookup x=some g->pY K mg x g) (hC:∀x w,cons.lookup x=some w->ue K mg x w) (hE:∀c fs,cG.lookup c=some fs->lZ K mg c fs) (hX:xK K mg ⟨Ds.map (·.key),tabs,keys,cons,cG,false,ib,lY⟩):
  ∀(k i:Nat)(d:bG),Ds[i]?=some d->∀g fd,mE K mg d g fd->cv P w K mg base (dP P w) (2 * k+4) g fd d.ps (iz K mg (Tw.run T k i)):=by
 intro k
 induction k with
 |zero=>
  intro i d e g fd D;have bad:∀vs H Q E,¬ iz K mg (Tw.run T 0 i) vs H Q E:=fun vs H Q E ⟨ws,h,ι,hr,rr,p⟩=>p.elim;exact⟨fun vs H Q E q=>(bad vs H Q E q).elim,fun A outer s H args us vs Q E _ _ _ _ q=>(bad vs H Q E q).elim⟩
 |succ k ih=>
  intro i d e g fd D;obtain⟨f,z1,z2⟩:=vL h e;have er:Tw.run T (k+1) i=Tw.bY (Tw.run T k) f:=by funext xs hh;show (match T[i]? with|some fn=>Tw.bY (Tw.run T k) fn xs hh|none=>.bad)=_;rw[z1]
  rw[er,show 2 * (k+1)+4=(2 * k+4)+2 by omega];refine Px D z2 hb (fun j x ex=>?_) hT hK hC hE hX rfl (by omega);have ex:(Ds.map (·.key))[j]?=some x:=ex;rw[oy] at ex;cases ed:Ds[j]? with
  |none=>rw[ed] at ex;cases ex
  |some d'=>
   rw[ed] at ex;cases ex;obtain⟨g',fd',D'⟩:=hD d' (xS ed);exact⟨g',fd',d'.ps,ih j d' ed g' fd' D',D'.m,D'.F.kp,.all D'.b⟩
end
end TwS
namespace TwS
open PySem PySem.W PyProof.Rows
noncomputable def qG(bt:String->Option Builtin)(p:Program)(w:World)(low:Nat)(nt:Option Value):Nat->SharedT->Thread->Option SharedT
 |0,_,_=>none
 |n+1,s,t=>match through t with
  |true=>some s
  |false=>match stepOk low nt t with
   |false=>none
   |true=>match stepT (denote bt) p w s t with
    |some (s',t')=>qG bt p w low nt n s' t'
    |none=>none
theorem CB{bt:String->Option Builtin}:∀{n:Nat}{s r:SharedT}{t:Thread},qG bt p w low nt n s t=some r->topRun bt p w low nt n s.abs t=some r.abs:=by
 intro n
 induction n with
 |zero=>intro s r t h;cases h
 |succ n ih=>
  intro s r t h;rw[qG] at h;rw[topRun];cases a:through t with
  |true=>rw[a] at h;cases h;rfl
  |false=>
   rw[a] at h;cases b:stepOk low nt t with
   |false=>rw[b] at h;cases h
   |true=>
    rw[b] at h;cases c:stepT (denote bt) p w s t with
    |none=>rw[c] at h;cases h
    |some q=>
     obtain⟨s',t'⟩:=q;rw[c] at h;rw[stepT_spec c];exact ih h
noncomputable def grow:List Obj->BT->Nat->Option (BT×Nat)
 |[],t,n=>some (t,n)
 |o::l,t,n=>match ((t.ins n o).get n).isSome with
  |true=>grow l (t.ins n o) (n+1)
  |false=>none
theorem x6:∀{l:List Obj}{t t':BT}{n n':Nat}{xs:List Obj},(absHeap t n life).objs.toList=xs->grow l t n=some (t',n')->absHeap t' n' life=⟨(xs++l).toArray,life⟩
 |[],t,t',n,n',xs,e,h=>by
  cases h;subst e;show Heap.mk _ _=Heap.mk _ _;simp[absHeap]
 |o::l,t,t',n,n',xs,e,h=>by
  rw[grow] at h;cases c:((t.ins n o).get n).isSome with
  |false=>rw[c] at h;cases h
  |true=>
   rw[c] at h;have z:=x6 (life:=life) (xs:=xs++[o]) (by rw[absHeap_ins (life:=life) c];exact (Array.toList_push (xs:=(absHeap t n life).objs) (x:=o)).trans (by rw[e])) h;rw[z,xl];rfl
def wm{α:Type}(p:Program)(N:Nat)(F:Shared->α)(w:World):Option α:=(fencedOpening treeTable p w N).bind fun aR=>match aR.heap.isNs mainGlobals&&aR.gens.size== 0 with
 |false=>none
 |true=>(grow aR.heap.objs.toList .nil 0).bind fun T=>(qG treeTable p w aR.heap.objs.size (aR.heap.nsMap mainGlobals "__annotations__") N ⟨T.1,T.2,aR.heap.life,aR.gens,aR.drawn,aR.toks,aR.os⟩ (topStub p)).bind fun s₁=>
  match staticsOk (importedModules p.main.body) aR.heap s₁.abs.heap&&namesBound p s₁.abs.heap&&gensDone s₁.abs&&laidKept aR.heap s₁.abs.heap with
   |true=>some (F s₁.abs)
   |false=>none
theorem Aw{α:Type}{p:Program}{N:Nat}{F:Shared->α}{w:World}{r:α}(h:wm p N F w=some r):(openEnds treeTable p w N).map F=some r:=by
 unfold wm at h;unfold openEnds;cases a:fencedOpening treeTable p w N with
 |none=>rw[a] at h;cases h
 |some aR=>
  rw[a] at h;simp only[qO] at h⊢;unfold topFrom;cases b:(aR.heap.isNs mainGlobals&&aR.gens.size== 0) with
  |false=>rw[b] at h;cases h
  |true=>
   rw[b] at h;dsimp only at h⊢;cases c:grow aR.heap.objs.toList .nil 0 with
   |none=>rw[c] at h;cases h
   |some T=>
    rw[c] at h;simp only[qO] at h;obtain⟨s₁,e1,e2⟩:=dy.mp h;have z:=x6 (life:=aR.heap.life) (xs:=[]) (by rfl) c;have e3:=CB e1;have ea:(⟨T.1,T.2,aR.heap.life,aR.gens,aR.drawn,aR.toks,aR.os⟩:SharedT).abs=aR:=by show Shared.mk _ _ _ _ _=_;rw[z];simp
    rw[ea] at e3;rw[e3];simp only[qO];cases d:(staticsOk (importedModules p.main.body) aR.heap s₁.abs.heap&&namesBound p s₁.abs.heap&&gensDone s₁.abs&&laidKept aR.heap s₁.abs.heap) with
    |false=>rw[d] at e2;cases e2
    |true=>rw[d] at e2;cases e2;rfl
end TwS
namespace TwS
open PySem L2 PyProof.Rows
theorem bx{K:W.Frag}{h:Heap}{mg:Str->Option Value}{x:Str}{st:Stmt}{N ps:List Str}{f:Addr}{od an:Option Addr}{sl:Array (Option Value)}{oc kV dc pm cd ct:Value}(X:K.In h)(G:h.Ns mainGlobals mg)(l:K.lookup f=some ⟨oc,od,.func (W.fnOf x x (dr st) (cg st) (ao st) .none kV dc pm an cd ct),sl⟩)(b:∀(kV doc pm:Value)(an:Option Addr)(cdv ct:Value)(us:List Value),us.length=ps.length->bindArgs (W.fnOf x x (dr st) (cg st) (ao st) .none kV doc pm an cdv ct) ⟨us,[]⟩=pure (ps.zip us))(a:W.nsIn K mainGlobals x=some (some (.ref f)):=by kernel_rfl)(c:W.codeIn K cd x=true:=by kernel_rfl)(k:W.keepIn K (.ref f)=true:=by kernel_rfl):
  ∃g fd,mE K mg ⟨.fn x,x,x,st,N,ps⟩ g fd:=
 have F:=pE (st:=st) l c k
 ⟨f,_,F,dG X G a,fun us hl=>b _ _ _ _ _ _ us hl⟩
theorem U1{P:List Value->Prop}(h:P []):∀us:List Value,us.length=0->P us:=fun us hl=>by cases us with|nil=>exact h|cons _ _=>cases hl
theorem qY{P:List Value->Prop}(h:∀a0,P [a0]):∀us:List Value,us.length=1->P us:=fun us hl=>by cases us with|nil=>cases hl|cons a r=>exact U1 (P:=fun r=>P (a::r)) (h a) r (rS hl)
theorem oU{P:List Value->Prop}(h:∀a0 a1,P [a0,a1]):∀us:List Value,us.length=2->P us:=fun us hl=>by cases us with|nil=>cases hl|cons a r=>exact qY (P:=fun r=>P (a::r)) (fun b0=>h a b0) r (rS hl)
theorem kc{P:List Value->Prop}(h:∀a0 a1 a2,P [a0,a1,a2]):∀us:List Value,us.length=3->P us:=fun us hl=>by cases us with|nil=>cases hl|cons a r=>exact oU (P:=fun r=>P (a::r)) (fun b0 b1=>h a b0 b1) r (rS hl)
theorem pk{P:List Value->Prop}(h:∀a0 a1 a2 a3,P [a0,a1,a2,a3]):∀us:List Value,us.length=4->P us:=fun us hl=>by cases us with|nil=>cases hl|cons a r=>exact kc (P:=fun r=>P (a::r)) (fun b0 b1 b2=>h a b0 b1 b2) r (rS hl)
theorem HM{P:List Value->Prop}(h:∀a0 a1 a2 a3 a4,P [a0,a1,a2,a3,a4]):∀us:List Value,us.length=5->P us:=fun us hl=>by cases us with|nil=>cases hl|cons a r=>exact pk (P:=fun r=>P (a::r)) (fun b0 b1 b2 b3=>h a b0 b1 b2 b3) r (rS hl)
theorem HV{P:List Value->Prop}(h:∀a0 a1 a2 a3 a4 a5,P [a0,a1,a2,a3,a4,a5]):∀us:List Value,us.length=6->P us:=fun us hl=>by cases us with|nil=>cases hl|cons a r=>exact HM (P:=fun r=>P (a::r)) (fun b0 b1 b2 b3 b4=>h a b0 b1 b2 b3 b4) r (rS hl)
theorem Vx{P:List Value->Prop}(h:∀a0 a1 a2 a3 a4 a5 a6,P [a0,a1,a2,a3,a4,a5,a6]):∀us:List Value,us.length=7->P us:=fun us hl=>by cases us with|nil=>cases hl|cons a r=>exact HV (P:=fun r=>P (a::r)) (fun b0 b1 b2 b3 b4 b5=>h a b0 b1 b2 b3 b4 b5) r (rS hl)
theorem sy{β:Type}{P:Str->β->Prop}:∀x g,([]:List (Str×β)).lookup x=some g->P x g:=fun _ _ e=>nomatch e
theorem jQ{β:Type}{P:Str->β->Prop}{y:Str}{b:β}{r:List (Str×β)}(h:P y b)(k:∀x g,r.lookup x=some g->P x g):∀x g,((y,b)::r).lookup x=some g->P x g:=by
 intro x g e;rw[fi] at e;cases c:x== y with
 |true=>rw[c] at e;cases e;rw[show x=y by simpa using c];exact h
 |false=>rw[c] at e;exact k x g e
def clsAt(s:Stmt)(j:Nat):Stmt:=match s with
 |.ClassDef _ _ _ b _ _ _ _ _ _ _=>b.getD j (.Pass ⟨0,0,0,0⟩)
 |s=>s
theorem uq{K:W.Frag}{C:Addr}(g1:W.plainGet K C Str.empty=true:=by kernel_rfl)(g2:W.hasDictIn K C=true:=by kernel_rfl)(g3:W.plainOver K C=true:=by kernel_rfl)(g4:W.findIn K (.ref C) "__setattr__" = some (some (.builtin "object.__setattr__")):=by kernel_rfl)(a0:W.findIn K (.ref C) "shelf" = some none:=by kernel_rfl)(a1:W.findIn K (.ref C) "free" = some none:=by kernel_rfl)(a2:W.findIn K (.ref C) "needs" = some none:=by kernel_rfl)(a3:W.findIn K (.ref C) "bound" = some none:=by kernel_rfl)(a4:W.findIn K (.ref C) "definitions" = some none:=by kernel_rfl)(a5:W.findIn K (.ref C) "numbers" = some none:=by kernel_rfl)(a6:W.findIn K (.ref C) "kind" = some none:=by kernel_rfl)(a7:W.findIn K (.ref C) "core" = some none:=by kernel_rfl)(a8:W.findIn K (.ref C) "whole_kind" = some none:=by kernel_rfl)(a9:W.findIn K (.ref C) "part" = some none:=by kernel_rfl)(a10:W.findIn K (.ref C) "around" = some none:=by kernel_rfl):GoodC K C:=by refine⟨⟨g1,g2,g3,g4⟩,?_⟩;unfold Ai;simp only[uv];exact⟨a0,a1,a2,a3,a4,a5,a6,a7,a8,a9,a10,fun _ h=>nomatch h⟩
theorem uV{K:W.Frag}{h:Heap}{mg:Str->Option Value}{cn:Tw.S}{qual:Str}{st:Stmt}{N ps:List Str}{C f:Addr}{od an:Option Addr}{sl:Array (Option Value)}{oc kV dc pm cd ct:Value}(X:K.In h)(G:h.Ns mainGlobals mg)(l:K.lookup f=some ⟨oc,od,.func (W.fnOf "__init__" qual (dr st) (cg st) (ao st) .none kV dc pm an cd ct),sl⟩)(g:GoodC K C)(b:∀(kV doc pm:Value)(an:Option Addr)(cdv ct:Value)(us:List Value),us.length=ps.length->bindArgs (W.fnOf "__init__" qual (dr st) (cg st) (ao st) .none kV doc pm an cdv ct) ⟨us,[]⟩=pure (ps.zip us))(a:W.nsIn K mainGlobals ⟨cn.toArray⟩=some (some (.ref C)):=by kernel_rfl)(m2:W.findIn K (.ref C) "__init__" = some (some (.ref f)):=by kernel_rfl)(c:W.codeIn K cd qual=true:=by kernel_rfl)(k:W.keepIn K (.ref f)=true:=by kernel_rfl)(m1:W.makesIn K C=true:=by kernel_rfl)(m3:W.isFn K (.ref f)=true:=by kernel_rfl)(m4:W.keepIn K (.ref C)=true:=by kernel_rfl):
  ∃g fd,mE K mg ⟨.me cn gD, "__init__",qual,st,N,ps⟩ g fd:=
 have F:=pE (st:=st) l c k
 ⟨f,_,F,⟨C,dG X G a,g,fun _=>⟨m1,m2,m3,m4⟩,fun z=>absurd rfl z⟩,fun us hl=>b _ _ _ _ _ _ us hl⟩
theorem mq{K:W.Frag}{h:Heap}{mg:Str->Option Value}{cn mn:Tw.S}{name qual:Str}{st:Stmt}{N ps:List Str}{C f:Addr}{od an:Option Addr}{sl:Array (Option Value)}{oc kV dc pm cd ct:Value}(X:K.In h)(G:h.Ns mainGlobals mg)(l:K.lookup f=some ⟨oc,od,.func (W.fnOf name qual (dr st) (cg st) (ao st) .none kV dc pm an cd ct),sl⟩)(g:GoodC K C)(b:∀(kV doc pm:Value)(an:Option Addr)(cdv ct:Value)(us:List Value),us.length=ps.length->bindArgs (W.fnOf name qual (dr st) (cg st) (ao st) .none kV doc pm an cdv ct) ⟨us,[]⟩=pure (ps.zip us))(a:W.nsIn K mainGlobals ⟨cn.toArray⟩=some (some (.ref C)):=by kernel_rfl)(m2:W.findIn K (.ref C) ⟨mn.toArray⟩=some (some (.ref f)):=by kernel_rfl)(c:W.codeIn K cd qual=true:=by kernel_rfl)(k:W.keepIn K (.ref f)=true:=by kernel_rfl)(m3:W.isFn K (.ref f)=true:=by kernel_rfl)(ni:mn≠gD:=by decide):
  ∃g fd,mE K mg ⟨.me cn mn,name,qual,st,N,ps⟩ g fd:=
 have F:=pE (st:=st) l c k
 ⟨f,_,F,⟨C,dG X G a,g,fun z=>absurd z ni,fun _=>⟨m2,m3,k⟩⟩,fun us hl=>b _ _ _ _ _ _ us hl⟩
inductive oK(K:W.Frag):List DictEntry->List (Tw.S×Str)->Prop
 |nil:oK K [] []
 |cons {hash:Int}{tk:Tok}{a:Addr}{s:Tw.S}{y:Str}{es:List DictEntry}{l:List (Tw.S×Str)}:W.nsIn K mainGlobals y=some (some (.ref a))->oK K es l->oK K (⟨hash,.str ⟨s.toArray⟩ tk,.ref a⟩::es) ((s,y)::l)
noncomputable def r9(es:List DictEntry):List (Str×Addr):=es.map fun e=>(match e.key with | .str x _=>x|_=> "",match e.val with | .ref a=>a|_=>0)
theorem Kf{K:W.Frag}{es:List DictEntry}{l:List (Tw.S×Str)}(h:oK K es l):KTD.Rows (fun d v=>v=Value.ref d) es (r9 es):=by
 induction h with
 |nil=>exact .nil
 |cons _ _ ih=>exact .cons rfl rfl ih
theorem yY{K:W.Frag}{h:Heap}{mg:Str->Option Value}(X:K.In h)(G:h.Ns mainGlobals mg){es:List DictEntry}{l:List (Tw.S×Str)}(r:oK K es l):∀{s:Tw.S}{y:Str},l.lookup s=some y->∃ga,mg y=some (.ref ga)/\KTD.datumAt (⟨s.toArray⟩:Str) (r9 es)=some ga:=by
 induction r with
 |nil=>intro s y e;simp at e
 | @cons hash tk a s' y' es l h1 _ ih=>
  intro s y el;rw[fi] at el;show ∃ga,mg y=some (.ref ga)/\(if decide ((⟨s.toArray⟩:Str)=⟨s'.toArray⟩)=true then some a else KTD.datumAt (⟨s.toArray⟩:Str) (r9 es))=some ga;by_cases c:s=s'
  .subst c;simp only[beq_self_eq_true] at el;cases el;exact⟨a,dG X G h1,by simp⟩
  .rw[gG.mpr c] at el;obtain⟨ga,q1,q2⟩:=ih el;exact⟨ga,q1,by rw[if_neg (by simpa using fun z=>c (str_inj.mp z))];exact q2⟩
theorem Dz{K:W.Frag}{es:List DictEntry}{l:List (Tw.S×Str)}(r:oK K es l)(s:Tw.S):KTD.inKeys (⟨s.toArray⟩:Str) (r9 es)=(l.map (·.1)).contains s:=by
 induction r with
 |nil=>rfl
 | @cons hash tk a s' y' es l h1 _ ih=>
  show (decide ((⟨s.toArray⟩:Str)=⟨s'.toArray⟩) || KTD.inKeys (⟨s.toArray⟩:Str) (r9 es))=_;rw[ih,aX,List.contains_cons]
  congr 1
  by_cases c:s=s'
  .subst c;simp
  .rw[gG.mpr c];simpa using fun z=>c (str_inj.mp z)
noncomputable def Mw(fns:List Fk)(g:List (Tw.S×Nat))(l:List (Tw.S×Str)):Bool:=g.all fun p=>match l.lookup p.1 with
 |some y=>decide (fns[p.2]?=some (.fn y))
 |none=>false
theorem si{β:Type}{s:Tw.S}{f:β}:∀{g:List (Tw.S×β)},g.lookup s=some f->(s,f)∈g
 |[],e=>by simp at e
 |(a,b)::g,e=>by
  rw[fi] at e;cases c:s== a with
  |true=>
   rw[c] at e;cases e;have:s=a:=by simpa using c
   subst this;exact rE
  |false=>rw[c] at e;exact fK _ (si e)
theorem F9{fns:List Fk}{g:List (Tw.S×Nat)}{l:List (Tw.S×Str)}(h:Mw fns g l=true){s:Tw.S}{f:Nat}(e:g.lookup s=some f):∃y,l.lookup s=some y/\fns[f]?=some (.fn y):=by
 have m:=si e;have z:=(kS.mp h) _ m;dsimp only at z;cases q:l.lookup s with
 |none=>rw[q] at z;exact no z
 |some y=>rw[q] at z;exact⟨y,rfl,by simpa using z⟩
theorem Ef{K:W.Frag}{h:Heap}{mg:Str->Option Value}{x:Str}{t:Addr}{od:Option Addr}{es:Array DictEntry}{ep:Nat}{sl:Array (Option Value)}{fns:List Fk}{g:List (Tw.S×Nat)}{ks:List Tw.S}(l:List (Tw.S×Str))(X:K.In h)(G:h.Ns mainGlobals mg)
  (a:W.nsIn K mainGlobals x=some (some (.ref t))) (lk:K.lookup t=some ⟨.type "dict",od,.dict es ep,sl⟩) (ex:(⟨.type "dict",od,.dict es ep,sl⟩:Obj).ExactDict) (hs:(t== sysModules)=false) (r:oK K es.toList l) (n:Mw fns g l=true) (nk:ks=l.map (·.1)):TabAt K mg fns x g/\pY K mg x ks:=by
 have T:oP K t (r9 es.toList):=fun h' X'=>⟨hs,_,es,ep,X' _ _ lk,ex,rfl,Kf r⟩;refine⟨⟨t,r9 es.toList,dG X G a,T,fun s f e=>?_⟩,t,_,dG X G a,T,fun s=>by rw[Dz r,nk]⟩;obtain⟨y,q1,q2⟩:=F9 n e;obtain⟨ga,q3,q4⟩:=yY X G r q1;exact⟨y,ga,q2,q3,q4⟩
theorem MD{K:W.Frag}{h:Heap}{mg:Str->Option Value}{x:Str}{t:Addr}{od:Option Addr}{z:Tw.S}{tk:Tok}{n:Nat}{sl:Array (Option Value)}(X:K.In h)(G:h.Ns mainGlobals mg)
  (a:W.nsIn K mainGlobals x=some (some (.ref t))) (lk:K.lookup t=some ⟨.type "tuple",od,.seq #[.str ⟨z.toArray⟩ tk] n,sl⟩) (hz:z.all (fun c=>decide (c<0x110000))=true):ue K mg x (.tup [.str z]):=by
 refine⟨.ref t,.ref t,dG X G a,rfl,fun ι n' H=>.tup (xs:=[.str ⟨z.toArray⟩]) (.inr ⟨_,_,n,lk,rfl,rfl,by show 1<=sizeLine;rw[fA];decide,.cons ⟨tk,rfl⟩ .nil⟩) (.cons (.str z ?_) .nil)⟩;intro c hc;have:=(kS.mp hz) c hc;simpa using this
theorem K6{K:W.Frag}{h:Heap}{mg:Str->Option Value}(X:K.In h)(G:h.Ns mainGlobals mg)(z0:W.nsIn K mainGlobals "len" = some none:=by kernel_rfl)(z1:W.nsIn K mainGlobals "list" = some none:=by kernel_rfl)(z2:W.nsIn K mainGlobals "tuple" = some none:=by kernel_rfl)(z3:W.nsIn K mainGlobals "dict" = some none:=by kernel_rfl)(z4:W.nsIn K mainGlobals "int" = some none:=by kernel_rfl)(z5:W.nsIn K mainGlobals "str" = some none:=by kernel_rfl)(z6:W.nsIn K mainGlobals "bool" = some none:=by kernel_rfl)(z7:W.nsIn K mainGlobals "isinstance" = some none:=by kernel_rfl)(z8:W.nsIn K mainGlobals "range" = some none:=by kernel_rfl)(z9:W.nsIn K mainGlobals "zip" = some none:=by kernel_rfl)(z10:W.nsIn K mainGlobals "enumerate" = some none:=by kernel_rfl)(z11:W.nsIn K mainGlobals "reversed" = some none:=by kernel_rfl):∀x∈df,mg x=none:=by unfold df;simp only[uv];exact⟨gR X G z0,gR X G z1,gR X G z2,gR X G z3,gR X G z4,gR X G z5,gR X G z6,gR X G z7,gR X G z8,gR X G z9,gR X G z10,gR X G z11,fun _ h=>nomatch h⟩
theorem yL{K:W.Frag}{h:Heap}{mg:Str->Option Value}{c:Tw.S}{fs:List Tw.S}{C f R g:Addr}{sf sb r qual gq p:Str}{ps:List Str}{st gs:Stmt}{od an od' an':Option Addr}{sl sl':Array (Option Value)}{oc kV dc pm cd ct oc' kV' dc' pm' cd' ct':Value}(X:K.In h)(G:h.Ns mainGlobals mg)(M:sZ K C f)(xc:XC K C)(na:∀g∈fs.map str,aZ K C g)(l:K.lookup f=some ⟨oc,od,.func (W.fnOf "__init__" qual (dr st) (cg st) (ao st) .none kV dc pm an cd ct),sl⟩)(b1:∀(kV doc pm:Value)(an:Option Addr)(cdv ct:Value)(us:List Value),us.length=(sf::fs.map str).length->bindArgs (W.fnOf "__init__" qual (dr st) (cg st) (ao st) .none kV doc pm an cdv ct) ⟨us,[]⟩=pure ((sf::fs.map str).zip us))(hl:fs.length<=100)(ef:fs.map str=p::ps)(cB:BZ r st (sf::fs.map str)=true)(B:jS K R g)(l':K.lookup g=some ⟨oc',od',.func (W.fnOf "__init__" gq (dr gs) (cg gs) (ao gs) .none kV' dc' pm' an' cd' ct'),sl'⟩)(cA:yR gs [sb,p]=true)(b2:∀(kV doc pm:Value)(an:Option Addr)(cdv ct:Value)(us:List Value),us.length=2->bindArgs (W.fnOf "__init__" gq (dr gs) (cg gs) (ao gs) .none kV doc pm an cdv ct) ⟨us,[]⟩=pure ([sb,p].zip us))(a:W.nsIn K mainGlobals (str c)=some (some (.ref C)):=by kernel_rfl)(c1:W.codeIn K cd qual=true:=by kernel_rfl)(k1:W.keepIn K (.ref f)=true:=by kernel_rfl)(ar:W.nsIn K mainGlobals r=some (some (.ref R)):=by kernel_rfl)(c2:W.codeIn K cd' gq=true:=by kernel_rfl):lZ K mg c fs:=
 ⟨C,dG X G a,.inr ⟨f,_,sf,_,qual,st,(fun z=>by rw[z] at ef;cases ef),M,xc,na,pE (st:=st) l c1 k1,.all (b1 _ _ _ _ _ _),hl,.inr ⟨r,R,g,_,_,gq,gs,sb,p,ps,ef,cB,dG X G ar,B,pE (st:=gs) l' c2 B.kp,cA,.all (b2 _ _ _ _ _ _)⟩⟩⟩
theorem Ah{K:W.Frag}{h:Heap}{mg:Str->Option Value}{c:Tw.S}{C:Addr}(X:K.In h)(G:h.Ns mainGlobals mg)(M:sF K C)(a:W.nsIn K mainGlobals (str c)=some (some (.ref C)):=by kernel_rfl):lZ K mg c []:=⟨C,dG X G a,.inl ⟨rfl,M⟩⟩
theorem pz{K:W.Frag}{h:Heap}{mg:Str->Option Value}{c:Tw.S}{fs:List Tw.S}{C:Addr}(X:K.In h)(G:h.Ns mainGlobals mg)(xc:XC K C)(na:∀g∈fs.map str,aZ K C g)(t1:W.findIn K (.ref C) "__class__" = some (some (.builtin "object.__class__")):=by kernel_rfl)(t2:W.specialIn K (.builtin "object.__class__") "__get__" = some (some (.builtin "getset_descriptor.__get__")):=by kernel_rfl)(t3:W.takesIn K (.builtin "object.__class__")=some true:=by kernel_rfl)(a:W.nsIn K mainGlobals (str c)=some (some (.ref C)):=by kernel_rfl):∃C,mg (str c)=some (.ref C)/\XC K C/\XT K C/\∀g∈fs,aZ K C (str g):=
 ⟨C,dG X G a,xc,⟨t1,t2,t3⟩,fun g hg=>na _ (pP.mpr ⟨g,hg,rfl⟩)⟩
theorem Cw{K:W.Frag}{R f:Addr}(ga:W.specialIn K (.ref R) "__getattribute__" = some (some (.builtin "type.__getattribute__")):=by kernel_rfl)(rd:W.readsIn K R (.type "type")=true:=by kernel_rfl)(at_:W.findCls K (.ref R) (.type "type") "__init__" = some (.val (.ref f)):=by kernel_rfl)(kp:W.keepIn K (.ref f)=true:=by kernel_rfl):jS K R f:=⟨ga,rd,at_,kp⟩
theorem Ak{α β:Type}{P:α->β->Prop}:∀x y,(x,y)∈([]:List (α×β))->P x y:=fun _ _ e=>nomatch e
theorem mem_cons{α β:Type}{P:α->β->Prop}{a:α}{b:β}{r:List (α×β)}(h:P a b)(k:∀x y,(x,y)∈r->P x y):∀x y,(x,y)∈(a,b)::r->P x y:=fun x y e=>by
 rcases cQ.mp e with e|e
 .cases e;exact h
 .exact k x y e
theorem each{K:W.Frag}{h:Heap}{mg:Str->Option Value}{cG:List (Tw.S×List Tw.S)}{es:List (Tw.S×Addr)}(X:K.In h)(G:h.Ns mainGlobals mg)(ee:cG.map (·.1)=es.map (·.1))(en:(es.map fun p=>W.nsIn K mainGlobals (str p.1))=es.map fun p=>some (some (Value.ref p.2)))
  {P:Addr->Option Bool}{cs:List Tw.S} (k:(es.map fun p=>P p.2)=es.map fun p=>some (cs.contains p.1)):∀c fs C,cG.lookup c=some fs->mg (str c)=some (.ref C)->P C=some (cs.contains c):=by
 intro c fs C e m;have hc:c∈es.map (·.1):=by rw[<-ee];exact pP.mpr ⟨(c,fs),si e,rfl⟩
 obtain⟨⟨c',A⟩,hm,rfl⟩:=pP.mp hc;have:=dG X G (List.map_inj_left.mp en _ hm);rw[m] at this;cases this;exact List.map_inj_left.mp k _ hm
theorem yv{K:W.Frag}{h:Heap}{mg:Str->Option Value}(X:K.In h)(G:h.Ns mainGlobals mg):∀{ns:List Tw.S}{as:List Addr},(ns.map fun n=>W.nsIn K mainGlobals (str n))=(as.map fun a=>some (some (Value.ref a)))->(ns.map fun n=>mg (str n))=(as.map fun a=>some (Value.ref a))
 |[],[],_=>rfl
 |[],_::_,e=>nomatch e
 |_::_,[],e=>nomatch e
 |n::ns,a::as,e=>by
  simp only[aX,List.cons.injEq] at e;rw[aX,aX,dG X G e.1,yv X G e.2]
theorem xp{P:Tw.S->List Tw.S->Prop}:∀c fs,([]:List (Tw.S×List Tw.S)).lookup c=some fs->P c fs:=fun _ _ e=>nomatch e
theorem dO{P:Tw.S->List Tw.S->Prop}(h:P y b)(k:∀c fs,r.lookup c=some fs->P c fs):∀c fs,((y,b)::r).lookup c=some fs->P c fs:=by
 intro x g e;rw[fi] at e;cases c:x== y with
 |true=>rw[c] at e;cases e;rw[show x=y by simpa using c];exact h
 |false=>rw[c] at e;exact k x g e
theorem x8{K:W.Frag}{ι:Nat->Addr}{n:Nat}{H:L2.Hp}:∀ns:List Int,aT K ι n H (ns.map Tw.W.int) (ns.map V.int)
 |[]=>.nil
 |i::r=>.cons (.int i) (x8 r)
theorem Fm{T:List Tw.Fn}{Ds:List bG}{tabs:List (Str×List (Tw.S×Nat))}{keys:List (Str×List Tw.S)}{cons:List (Str×Tw.W)}{cG ib:List (Tw.S×List Tw.S)}{lY:List (List Tw.S×List Tw.S)}{i k:Nat}{st:Stmt}{N:List Str}{l:W.OpenLaw}{q:Program}{loose:List Str}{XP:(Str->Option Value)->Heap->Prop}{YP:World->Heap->Prop}{d:DefRec}{K:Params->W.Frag}{x:Str}
  (hc:kL ⟨Ds.map (·.key),tabs,keys,cons,cG,false,ib,lY⟩ Ds T=true) (hi:Ds[i]?=some ⟨.fn "law", "law", "law",st,N,[x]⟩) (hn:l.most=some 63) (hdf:d.params.defaults=[])
  (hY:∀(w:World)(h:Heap),YP w h->(K w.params).In h) (hd:d.name= "law")
  (F:∀(w:World)(mg:Str->Option Value)(h:Heap),(K w.params).In h->h.Ns mainGlobals mg->(∀d∈Ds,∃g fd,mE (K w.params) mg d g fd)/\(∀x∈df,mg x=none)/\(∀x g,tabs.lookup x=some g->TabAt (K w.params) mg (Ds.map (·.key)) x g)/\(∀x g,keys.lookup x=some g->pY (K w.params) mg x g)/\(∀x w',cons.lookup x=some w'->ue (K w.params) mg x w')/\(∀c fs,cG.lookup c=some fs->lZ (K w.params) mg c fs)/\xK (K w.params) mg ⟨Ds.map (·.key),tabs,keys,cons,cG,false,ib,lY⟩)
  (hr:bZ (2 * k+4) callerA) (law:∀ns:List Int,ns.length<=63->∃h',Tw.run T k i [.ref 0] [.bR (ns.map .int)]=.ok (.bl true) h'):
  W.WalkO q loose XP YP l.row.toRowW d [] (fun f vs=>PySem.call f vs):=by
 refine L2.JN (n:=63) (k:=2 * k+4) (x:=x) (K:=K) (CX:=fun w=>dP l.prog w) (sp:=fun w vs H Q E=>∃(ns:List Int) (a:Addr),ns.length<=63/\vs=[.ref a]/\vA (K w.params) H a (ns.map V.int)/\∀H',Q (.bl true) H') hn (by decide) hdf hr hY (fun w mg fa h KX G hmg=>?_) (fun w H a ns hl hO hS=>?_) fun w H s e s' z=>dP.never _ _ _ _ _ z
 .obtain⟨hD,hb,hT,hK,hC,hE,hX⟩:=F w mg h KX G;obtain⟨g,fd,D⟩:=hD _ (xS hi);rw[hd] at hmg;have dm:mg "law" = some (.ref g):=D.m;have e:Value.ref fa=Value.ref g:=eO (hmg.symm.trans dm);cases e;refine⟨fd,fun s u=>?_,fun base _ _=>(J9 hc hD hb hT hK hC hE hX k i _ hi _ fd D).imp fun vs H Q E ⟨ns,a,hl,ev,sq,q⟩=>?_⟩
  .exact .of_eq (D.b [u] rfl)
  .subst ev;obtain⟨h',e⟩:=law ns hl;refine⟨[.ref 0],[.bR (ns.map .int)],fun _=>a,⟨fun j o ej=>?_,fun j j' o u ej ej' m=>?_⟩,.cons (.ref (by simp)) .nil,?_⟩
   .cases j with
    |zero=>simp at ej;subst ej;exact⟨_,sq,x8 ns⟩
    |succ j=>simp at ej
   .cases j with
    |zero=>simp at ej;subst ej;cases m
    |succ j=>simp at ej
   .rw[e];intro ι' H' b _ _ r;cases r;exact q H'
 .refine⟨ns,a,hl,rfl,?_,fun _=>rfl⟩;rcases hS with (h|h)|h
  .rcases hO a with z|⟨o,xs,z⟩
   .rw[h] at z;cases z
   .rw[h] at z;cases z
  .exact .inl h
  .exact .inr h
end TwS
namespace Tw
theorem aK{h:Hp}{a:Nat}{o:O}(x:List O)(e:h[a]?=some o):(h++x)[a]?=some o:=by
 have:a<h.length:=by
  rcases xU a h.length with q|q
  .exact q
  .rw[Ff q] at e;cases e
 rw[ja this];exact e
theorem dR{h:Hp}{a:Nat}{o:O}(e:h[a]?=some o):a<h.length:=by
 rcases xU a h.length with q|q
 .exact q
 .rw[Ff q] at e;cases e
@[simp] theorem aU(h:Hp)(o:O):(h++[o])[h.length]?=some o:=by simp
theorem bV{h:Hp}{a b:Nat}{o u:O}(n:a≠b)(e:h[b]?=some u):(h.set a o)[b]?=some u:=by rw[iE n];exact e
theorem cu{h:Hp}{a:Nat}{o u:O}(e:h[a]?=some u):(h.set a o)[a]?=some o:=by rw[jC (dR e)]
structure Ext(p:Nat)(h h':Hp):Prop where
 len:h.length<=h'.length
 keep:∀q o,h[q]?=some o->q≠p->h'[q]?=some o
theorem Ext.refl(p:Nat)(h:Hp):Ext p h h:=⟨aG _,fun _ _ e _=>e⟩
theorem Ext.trans(a:Ext p h h1)(b:Ext p h1 h2):Ext p h h2:=
 ⟨cS a.len b.len,fun q o e n=>b.keep q o (a.keep q o e n) n⟩
theorem Ext.app(p:Nat)(h:Hp)(x:List O):Ext p h (h++x):=⟨by simp,fun _ _ e _=>aK x e⟩
theorem Ext.set(p:Nat)(h:Hp)(o:O):Ext p h (h.set p o):=⟨by simp,fun _ _ e n=>bV (bc n) e⟩
section
variable {C:Or}{σ σ':Env}{h h' h2:Hp}{s:St}{r a b:List St}{c:E}{w:W}{i:Nat}{z:R Fl}
theorem aC(e:dD C s σ h=.ok (.next σ') h')(k:aH C r σ' h'=z):aH C (s::r) σ h=z:=by rw[bH,e];exact k
theorem yU(e:dD C s σ h=.ok (.ret w) h'):aH C (s::r) σ h=.ok (.ret w) h':=by rw[bH,e];rfl
theorem ax(e:ag C c σ h=.ok w h')(k:aH C r (σ.set i (some w)) h'=z):aH C (.set i c::r) σ h=z:=by rw[bH,zq,e];exact k
theorem aP(e:ag C c σ h=.ok w h'):aH C (.ret c::r) σ h=.ok (.ret w) h':=by rw[bH,qD,e];rfl
theorem br(e:ag C c σ h=.ok (.bl false) h')(k:aH C r σ h'=z):aH C (.iff c a []::r) σ h=z:=by rw[bH,iM,e];show (aH C [] σ h').bind _=_;rw[cP];exact k
theorem lL(e:ag C c σ h=.ok (.bl true) h')(k:aH C a σ h'=.ok (.ret w) h2):aH C (.iff c a b::r) σ h=.ok (.ret w) h2:=by rw[bH,iM,e];show (aH C a σ h').bind _=_;rw[k];rfl
theorem A7(e:ag C c σ h=.ok (.bl true) h')(k1:aH C a σ h'=.ok (.next σ') h3)(k:aH C r σ' h3=z):aH C (.iff c a b::r) σ h=z:=by rw[bH,iM,e];show (aH C a σ h').bind _=_;rw[k1];exact k
theorem nG(e:ag C c σ h=.ok (.tup [u,v]) h')(k:aH C r ((σ.set i (some u)).set j (some v)) h'=z):aH C (.kO i j c::r) σ h=z:=by rw[bH,rF,e];exact k
theorem bw(σ:Env)(l:xs.length=f.ps)(eσ:xs.map some++List.replicate (f.ns-f.ps) none=σ)(e:aH C f.body σ h=.ok (.ret w) h'):bY C f xs h=.ok w h':=by unfold bY;rw[if_pos l,eσ,e];rfl
theorem k6(σ:Env)(l:xs.length=f.ps)(eσ:xs.map some++List.replicate (f.ns-f.ps) none=σ)(e:aH C f.body σ h=.ok (.next σ') h'):bY C f xs h=.ok .aq h':=by unfold bY;rw[if_pos l,eσ,e];rfl
end
theorem yA(h:Hp)(n:Nat):∀ns:List Int,i5 h n (ns.map W.int)=some (ns.map W.int)
 |[]=>by simp[i5]
 |x::r=>by simp[i5,rd,yA h n r]
theorem yQ(h:Hp)(n:Nat):∀ns:List S,i5 h n (ns.map W.str)=some (ns.map W.str)
 |[]=>by simp[i5]
 |x::r=>by simp[i5,rd,yQ h n r]
structure Gen(p:Nat)(h:Hp):Prop where
 ex:∃(a c:Int) (l:Nat) (ns:List Int),h[p]?=some (.lst [.int a,.ref l,.int c])/\h[l]?=some (.lst (ns.map W.int))/\l<p
theorem Gen.ext{p:Nat}{h:Hp}(g:Gen p h)(x:List O):Gen p (h++x):=by obtain⟨a,c,l,ns,e1,e2,e3⟩:=g.ex;exact⟨a,c,l,ns,aK x e1,aK x e2,e3⟩
noncomputable def ER:Fn:=⟨2,3,[
 .set 2 (.ite (.cmp .ne (.idx (.var 0) (.cst (.int 1))) (.lst .nil)) (.idx (.idx (.var 0) (.cst (.int 1))) (.bin .mod (.idx (.var 0) (.cst (.int 2))) (.blt .len (.idx (.var 0) (.cst (.int 1)))))) (.cst (.int 0))),
 .put (.var 0) (.cst (.int 0)) (.bin .mod (.bin .add (.bin .add (.bin .mul (.idx (.var 0) (.cst (.int 0))) (.cst (.int 48271))) (.bin .mul (.var 2) (.cst (.int 69621)))) (.cst (.int 11))) (.cst (.int 2147483647))),
 .put (.var 0) (.cst (.int 2)) (.bin .add (.idx (.var 0) (.cst (.int 2))) (.cst (.int 1))),
 .ret (.bin .mod (.bin .fdiv (.idx (.var 0) (.cst (.int 0))) (.cst (.int 7))) (.var 1))]⟩
theorem iI{α:Type}(xs:List α)(i:Nat)(h:i<xs.length):cH xs (i:Int)=some xs[i]:=by
 have e1:(0:Int)<=(i:Int):=by omega
 have e2:(i:Int)<(xs.length:Int):=by omega
 simp[cH,iX,e1,e2,mL h]
theorem Ke{α:Type}(xs:List α)(c:Int)(h:0<xs.length):∃x,x∈xs/\cH xs (c % (xs.length:Int))=some x:=by
 have e1:0<=c % (xs.length:Int):=Int.emod_nonneg _ (by omega);have e2:c % (xs.length:Int)<(xs.length:Int):=Int.emod_lt_of_pos _ (by omega);have e3:(c % (xs.length:Int)).toNat<xs.length:=by omega
 refine⟨xs[(c % (xs.length:Int)).toNat],AR _,?_⟩;have:=iI xs _ e3;rw[show (((c % (xs.length:Int)).toNat:Nat):Int)=c % (xs.length:Int) by omega] at this;exact this
@[simp] theorem HF{α:Type}(x:α)(xs:List α):cH (x::xs) 0=some x:=by
 have:((0:Nat):Int)<((xs.length:Int)+1):=by omega
 simp[cH,iX]
@[simp] theorem Vw{α:Type}(x y:α)(xs:List α):cH (x::y::xs) 1=some y:=by have:=iI (x::y::xs) 1 (by simp);simpa using this
@[simp] theorem Qp{α:Type}(x y z:α)(xs:List α):cH (x::y::z::xs) 2=some z:=by have:=iI (x::y::z::xs) 2 (by simp);simpa using this
@[simp] theorem Uc:iX 3 0=some 0:=rfl
@[simp] theorem Ul:iX 3 2=some 2:=rfl
@[simp] theorem Sa:small 48271=true:=by decide
@[simp] theorem Te:small 69621=true:=by decide
theorem KJ{C:Or}{p:Nat}{h:Hp}(g:Gen p h){m:Int}(hm:0<m):
  ∃v h',bY C ER [.ref p,.int m] h=.ok (.int v) h'/\0<=v/\v<m/\Ext p h h'/\Gen p h':=by
 obtain⟨a,c,l,ns,e1,e2,e3⟩:=g.ex;have f1:=aK [O.lst []] e1;have f2:=aK [O.lst []] e2;have key:∃x:Int,ag C (.ite (.cmp .ne (.idx (.var 0) (.cst (.int 1))) (.lst .nil)) (.idx (.idx (.var 0) (.cst (.int 1))) (.bin .mod (.idx (.var 0) (.cst (.int 2))) (.blt .len (.idx (.var 0) (.cst (.int 1)))))) (.cst (.int 0)))
   [some (.ref p),some (.int m),none] h=.ok (.int x) (h++[O.lst []]):=by
  cases ns with
  |nil=>
   refine⟨0,?_⟩;simp[e1,f2,bX,bC]
  |cons n r=>
   obtain⟨x,hx,ex⟩:=Ke ((n::r).map W.int) c (by simp);obtain⟨y,_,rfl⟩:=pP.mp hx;refine⟨y,?_⟩;have pos:(0:Int)<(r.length:Int)+1:=by omega
   have t:=yA (h++[O.lst []]) 59 r;simp only[aX] at e2 f2 ex;simp only[dX,j3] at ex;push_cast at ex;simp[e1,f1,f2,t,pos,ex,bX,bC]
 obtain⟨x,ex⟩:=key;have g1:=cu (o:=O.lst [.int ((a * 48271+x * 69621+11) % 2147483647),.ref l,.int c]) f1;have g2:=cu (o:=O.lst [.int ((a * 48271+x * 69621+11) % 2147483647),.ref l,.int (c+1)]) g1;have g3:=bV (o:=O.lst [.int ((a * 48271+x * 69621+11) % 2147483647),.ref l,.int c]) (rJ e3) f2;have g4:=bV (o:=O.lst [.int ((a * 48271+x * 69621+11) % 2147483647),.ref l,.int (c+1)]) (rJ e3) g3;refine⟨(((a * 48271+x * 69621+11) % 2147483647) / 7) % m,(((h++[O.lst []]).set p (.lst [.int ((a * 48271+x * 69621+11) % 2147483647),.ref l,.int c]))).set p (.lst [.int ((a * 48271+x * 69621+11) % 2147483647),.ref l,.int (c+1)]),?_,Int.emod_nonneg _ (by omega),Int.emod_lt_of_pos _ hm,?_,?_⟩
 .exact bw [some (.ref p),some (.int m),none] rfl rfl (ax ex (aC (σ':=[some (.ref p),some (.int m),some (.int x)]) (h':=(h++[O.lst []]).set p (.lst [.int ((a * 48271+x * 69621+11) % 2147483647),.ref l,.int c])) (by simp[f1]) (aC (σ':=[some (.ref p),some (.int m),some (.int x)]) (by simp[g1, -List.set_set];rfl) (aP (by simp[g2,hm, -List.set_set])))))
 .exact ((Ext.app p h _).trans (Ext.set p _ _)).trans (Ext.set p _ _)
 .exact⟨_,_,_,_,g2,g4,e3⟩
inductive Kd where
 |num|tru|row (k:Kd)|pair (a b:Kd)|work (a b:Kd)|any (x:S)|gap (n:Int)
 deriving DecidableEq
abbrev qP:S:=[110,117,109,98,101,114]
abbrev c8:S:=[116,114,117,116,104]
abbrev nV:S:=[114,111,119]
abbrev qh:S:=[112,97,105,114]
abbrev bo:S:=[119,111,114,107]
abbrev bM:S:=[97,110,121]
abbrev uG:S:=[103,97,112]
noncomputable def Kd.ae:Kd->W
 |.num=>.tup [.str qP]
 |.tru=>.tup [.str c8]
 |.row k=>.tup [.str nV,k.ae]
 |.pair a b=>.tup [.str qh,a.ae,b.ae]
 |.work a b=>.tup [.str bo,a.ae,b.ae]
 |.any x=>.tup [.str bM,.str x]
 |.gap n=>.tup [.str uG,.int n]
noncomputable def Kd.depth:Kd->Nat
 |.row k=>k.depth+1
 |.pair a b=>max a.depth b.depth+1
 |.work a b=>max a.depth b.depth+1
 |_=>0
theorem Kd.rd(h:Hp):∀(k:Kd)(n:Nat),k.depth+1<=n->Tw.rd h n k.ae=some k.ae
 |.num,n+1,_=>by simp[Kd.ae]
 |.tru,n+1,_=>by simp[Kd.ae]
 |.any x,n+1,_=>by simp[Kd.ae]
 |.gap x,n+1,_=>by simp[Kd.ae]
 |.row k,n+1,e=>by
  have:=Kd.rd h k n (by simp[Kd.depth] at e;omega);simp[Kd.ae,this]
 |.pair a b,n+1,e=>by
  have h1:=Kd.rd h a n (by simp[Kd.depth] at e;omega);have h2:=Kd.rd h b n (by simp[Kd.depth] at e;omega);simp[Kd.ae,h1,h2]
 |.work a b,n+1,e=>by
  have h1:=Kd.rd h a n (by simp[Kd.depth] at e;omega);have h2:=Kd.rd h b n (by simp[Kd.depth] at e;omega);simp[Kd.ae,h1,h2]
theorem Kd.bD:∀a b:Kd,Tw.bD a.ae b.ae=decide (a=b):=by
 intro a
 induction a with
 |num=>intro b;cases b<;>simp[Kd.ae]
 |tru=>intro b;cases b<;>simp[Kd.ae]
 |any x=>intro b;cases b<;>simp[Kd.ae,rB]
 |gap x=>intro b;cases b<;>simp[Kd.ae,rB]
 |row k ih=>intro b;cases b<;>simp[Kd.ae,ih]
 |pair a b iha ihb=>intro c;cases c<;>simp[Kd.ae,iha,ihb]
 |work a b iha ihb=>intro c;cases c<;>simp[Kd.ae,iha,ihb]
theorem Kd.bC(h:Hp)(k:Kd):Tw.bC h k.ae=none:=by cases k<;>simp[Kd.ae,Tw.bC]
theorem Kd.bX(h:Hp)(a b:Kd)(ha:a.depth<=50)(hb:b.depth<=50):Tw.bX h a.ae b.ae=some (decide (a=b)):=by simp[Tw.bX,Kd.bC,Kd.rd h a 60 (by omega),Kd.rd h b 60 (by omega),Kd.bD]
theorem run_eq(e:T[f]?=some fn)(k:Nat)(xs:List W)(h:Hp):run T (k+1) f xs h=bY (run T k) fn xs h:=by simp[run,e]
theorem DB{α:Type}(xs:List α)(i:Int)(h0:0<=i)(h:i<(xs.length:Int)):∃x,x∈xs/\cH xs i=some x:=by
 have e3:i.toNat<xs.length:=by omega
 refine⟨xs[i.toNat],AR _,?_⟩;have:=iI xs _ e3;rw[show ((i.toNat:Nat):Int)=i by omega] at this;exact this
abbrev LN(C:Or)(nx p:Nat):Prop:=∀(m:Int)(h:Hp),Gen p h->0<m->∃v h',C nx [.ref p,.int m] h=.ok (.int v) h'/\0<=v/\v<m/\Ext p h h'/\Gen p h'
theorem Jm(hn:T[nx]?=some ER)(k p:Nat):LN (run T (k+1)) nx p:=fun m h g hm=>by
 rw[run_eq hn];exact KJ g hm
noncomputable abbrev BR:S:=[97,98,99,100,101,102,103,104,105,106,107,108,109,110,111,112,113,114,115,116,117,118,119,120,121,122]
def DX(nx:Nat):Fn:=⟨1,2,[
 .set 1 (.cst (.str [97,98,99,100,101,102,103,104,105,106,107,108,109,110,111,112,113,114,115,116,117,118,119,120,121,122])),
 .ret (.ji .join (.cst (.str [])) (.cons (.comp (.idx (.var 1) (.call nx (.cons (.var 0) (.cons (.cst (.int 26)) .nil)))) (.kj (.bin .add (.cst (.int 1)) (.call nx (.cons (.var 0) (.cons (.cst (.int 8)) .nil))))) .none) .nil))]⟩
theorem q9:∀(n:Nat)(lo:Int),(upTo lo n).length=n
 |0,_=>rfl
 |n+1,lo=>by simp[upTo,q9 n]
theorem pq:∀ys:List Nat,texts (ys.map fun c=>W.str [c])=some (ys.map fun c=>[c])
 |[]=>by simp
 |c::r=>by simp[pq r]
theorem vH:∀ys:List S,gP [] ys=ys.flatten
 |[]=>rfl
 |[x]=>by simp
 |x::y::r=>by simp[gP,vH (y::r)]
theorem rn:∀ys:List Nat,(ys.map fun c=>[c]).flatten=ys
 |[]=>rfl
 |c::r=>by simp[rn r]
theorem Gen.LV(g:Gen p h):p≠h.length:=by obtain⟨_,_,_,_,e,_⟩:=g.ex;exact fun z=>absurd (dR e) (by rw[<-z];omega)
theorem uY{k:W->List W->Hp->R (List W)}
  (hk:∀x acc h,Gen p h->∃c h',k x acc h=.ok (acc++[W.str [c]]) h'/\Ext p h h'/\Gen p h'):
  ∀(l:List W)(acc:List W)(h:Hp),Gen p h->∃(ys:List Nat) (h':Hp),ig k l acc h=.ok (acc++ys.map fun c=>W.str [c]) h'/\ys.length=l.length/\Ext p h h'/\Gen p h'
 |[],acc,h,g=>⟨[],h,by simp,rfl,Ext.refl p h,g⟩
 |x::l,acc,h,g=>by
  obtain⟨c,h1,e1,x1,g1⟩:=hk x acc h g;obtain⟨ys,h2,e2,l2,x2,g2⟩:=uY hk l (acc++[W.str [c]]) h1 g1;exact⟨c::ys,h2,by simp[e1,e2],by simp[l2],x1.trans x2,g2⟩
theorem Ju(xn:LN C nx p)(h:Hp)(g:Gen p h):
  ∃x h',bY C (DX nx) [.ref p] h=.ok (.str x) h'/\x.length<=8/\Ext p h h'/\Gen p h':=by
 obtain⟨v,h1,r1,a1,b1,x1,g1⟩:=xn 8 h g (by decide);obtain⟨ys,h2,e2,l2,x2,g2⟩:=uY (p:=p) (k:=jM (iB C .none) (ag C (.idx (.var 1) (.call nx (.cons (.var 0) (.cons (.cst (.int 26)) .nil))))) [some (W.ref p),some (W.str BR)]) (fun x acc h g=>by
  obtain⟨v,h1,r1,a1,b1,x1,g1⟩:=xn 26 h g (by decide);obtain⟨c,hc,ec⟩:=DB BR v a1 b1;exact⟨c,h1,by simp[jM,r1,ec,SZ],x1,g1⟩) (upTo 0 (1+v).toNat) [] h1 g1
 rw[q9] at l2;have hr:fW (1+v)=true:=by simp[fW];omega
 have ly:ys.length<=8:=by omega
 refine⟨ys,h2++[.lst (ys.map fun c=>W.str [c])],?_,ly,(x1.trans x2).trans (Ext.app _ _ _),g2.ext _⟩;have z1:ys.length<=SZ:=cS ly (by decide);have ei:eE C (.kj (.bin .add (.cst (.int 1)) (.call nx (.cons (.var 0) (.cons (.cst (.int 8)) .nil))))) [some (W.ref p),some (W.str BR)] h=.ok (.fix (upTo 0 (1+v).toNat)) h1:=by simp[r1,hr]
 have ec:ag C (.comp (.idx (.var 1) (.call nx (.cons (.var 0) (.cons (.cst (.int 26)) .nil)))) (.kj (.bin .add (.cst (.int 1)) (.call nx (.cons (.var 0) (.cons (.cst (.int 8)) .nil))))) .none) [some (W.ref p),some (W.str BR)] h=.ok (.ref h2.length) (h2++[.lst (ys.map fun c=>W.str [c])]):=by rw[jt,ei,R.ak];simp only[walk];rw[e2];simp[eD,z1]
 unfold bY DX;have z2:((ys.map fun c=>[c]).map (·.length)).sum=ys.length:=by
  clear ec ei e2 l2 z1 ly
  induction ys with
  |nil=>rfl
  |cons c r ih=>simp only[aX,List.sum_cons,ih,dX,lO];omega
 simp only[uF] at z2;simp[ec,z1,z2,pq,vH,rn]
theorem Ej(e:h[q]?=some (.lst xs)):bC h (.ref q)=none:=by simp[bC,e]
theorem uU(x:S):∀l:List S,((l.map W.str).any fun z=>bD z (.str x))=decide (x∈l)
 |[]=>by simp
 |y::r=>by
  simp only[aX,mP,uU x r,mZ,cQ];by_cases e:y=x<;>by_cases f:x∈r<;>simp[e,f]<;>simp_all [eq_comm]
theorem rH:∀l:List S,(l.map W.str).all flat=true
 |[]=>rfl
 |x::r=>by simp[rH r]
theorem gv{h:Hp}{q:Nat}{l:List S}(e:h[q]?=some (.lst (l.map W.str)))(x:S):isIn (.str x) (.ref q) h=some (decide (x∈l)):=by unfold isIn;rw[Ej e];have:=rH l;simp only[BD,items,e,uU,this];simp
theorem Hi(x:S)(l:List S)(h:Hp):isIn (.str x) (.tup (l.map W.str)) h=some (decide (x∈l)):=by unfold isIn;have:=rH l;simp only[bC,BD,uU,this];simp
theorem J7(k:Kd):∃x r,k.ae=.tup (x::r):=by cases k<;>simp[Kd.ae]
structure aw(h h':Hp):Prop where
 len:h.length<=h'.length
 keep:∀(q:Nat)(o:O),h[q]?=some o->h'[q]?=some o
theorem aw.refl(h:Hp):aw h h:=⟨aG _,fun _ _ e=>e⟩
theorem aw.trans(a:aw h h1)(b:aw h1 h2):aw h h2:=⟨cS a.len b.len,fun q o e=>b.keep q o (a.keep q o e)⟩
theorem aw.app(h:Hp)(x:List O):aw h (h++x):=⟨by simp,fun _ _ e=>aK x e⟩
theorem aw.gen(g:Gen p h)(x:aw h h'):Gen p h':=by obtain⟨a,c,l,ns,e1,e2,e3⟩:=g.ex;exact⟨a,c,l,ns,x.keep _ _ e1,x.keep _ _ e2,e3⟩
mutual
noncomputable def W.pure:W->Bool
 |.tup xs=>dF xs
 |.ref _=>false
 |.lst _=>false
 |_=>true
noncomputable def dF:List W->Bool
 |[]=>true
 |x::xs=>x.pure&&dF xs
end
mutual
theorem uL(h:Hp):∀(w:W)(n:Nat),w.pure=true->w.deep<=n->rd h n w=some w
 |.aq,n,_,_=>by simp
 |.bl _,n,_,_=>by simp
 |.int _,n,_,_=>by simp
 |.str _,n,_,_=>by simp
 |.ref _,n,p,_=>by simp[W.pure] at p
 |.lst _,n,p,_=>by simp[W.pure] at p
 |.tup xs,0,_,d=>by simp[W.deep] at d
 |.tup xs,n+1,p,d=>by
  simp only[W.pure] at p;simp only[W.deep] at d;simp[sD h xs n p (by omega)]
theorem sD(h:Hp):∀(xs:List W)(n:Nat),dF xs=true->cV xs<=n->i5 h n xs=some xs
 |[],n,_,_=>by simp
 |x::xs,n,p,d=>by
  simp only[dF,aB] at p;simp only[cV] at d;simp[uL h x n p.1 (by omega),sD h xs n p.2 (by omega)]
end
mutual
theorem xu:∀(w:W),w.pure=true->bD w w=true
 |.aq,_=>by simp
 |.bl _,_=>by simp
 |.int _,_=>by simp
 |.str _,_=>by simp
 |.ref _,p=>by simp[W.pure] at p
 |.lst _,p=>by simp[W.pure] at p
 |.tup xs,p=>by
  simp only[W.pure] at p;simp[vd xs p]
theorem vd:∀(xs:List W),dF xs=true->nZ xs xs=true
 |[],_=>by simp
 |x::xs,p=>by
  simp only[dF,aB] at p;simp[xu x p.1,vd xs p.2]
end
theorem Ct(h:Hp)(p:w.pure=true):bC h w=none:=by cases w<;>simp[bC]<;>simp[W.pure] at p
theorem fo(h:Hp)(p:w.pure=true)(d:w.deep<=60):bX h w w=some true:=by simp[bX,Ct h p,uL h w 60 p d,xu w p]
theorem gf:∀k:Kd,k.ae.pure=true
 |.num=>rfl
 |.tru=>rfl
 |.any _=>rfl
 |.gap _=>rfl
 |.row k=>by simp[Kd.ae,W.pure,dF,gf k]
 |.pair a b=>by simp[Kd.ae,W.pure,dF,gf a,gf b]
 |.work a b=>by simp[Kd.ae,W.pure,dF,gf a,gf b]
theorem gr:∀k:Kd,k.ae.deep<=k.depth+1
 |.num=>by simp[Kd.ae,W.deep,cV]
 |.tru=>by simp[Kd.ae,W.deep,cV]
 |.any _=>by simp[Kd.ae,W.deep,cV]
 |.gap _=>by simp[Kd.ae,W.deep,cV]
 |.row k=>by have:=gr k;simp[Kd.ae,W.deep,cV,Kd.depth];omega
 |.pair a b=>by have:=gr a;have:=gr b;simp[Kd.ae,W.deep,cV,Kd.depth];omega
 |.work a b=>by have:=gr a;have:=gr b;simp[Kd.ae,W.deep,cV,Kd.depth];omega
theorem dM(x y:S):qE (.str x) (.str y)=decide (x=y):=by simp[qE,rB]
theorem Bc{k:Env->Hp->R Fl}(P:Nat->Env->Hp->Prop)(hl:∀i σ h,P i σ h->bg h a=some xs)
  (step:∀i σ h x,P i σ h->xs[i]?=some x->∃σ1,iu t x σ=some σ1/\∃σ' h',k σ1 h=.ok (.next σ') h'/\P (i+1) σ' h'):
  ∀n i σ h,i+n=xs.length->P i σ h->∃σ' h',bO a t k n i σ h=.ok (.next σ') h'/\P xs.length σ' h':=by
 intro n
 induction n with
 |zero=>
  intro i σ h e p;have ei:i=xs.length:=by omega
  refine⟨σ,h,?_,ei▸p⟩;unfold bO;have:xs[i]?=none:=Ff (by omega);simp only[hl i σ h p,this]
 |succ n ih=>
  intro i σ h e p;have hx:xs[i]?=some xs[i]:=mL (by omega);obtain⟨σ1,e1,σ2,h2,e2,p2⟩:=step i σ h _ p hx;obtain⟨σ3,h3,e3,p3⟩:=ih (i+1) σ2 h2 (by omega) p2;refine⟨σ3,h3,?_,p3⟩;unfold bO;simp only[hl i σ h p,hx,turn,e1,e2,R.ak,e3]
noncomputable def nv:Fn:=⟨1,1,[
 .iff (.cmp .isin (.idx (.var 0) (.cst (.int 0))) (.tup (.cons (.cst (.str [114,111,119])) (.cons (.cst (.str [112,97,105,114])) (.cons (.cst (.str [119,111,114,107])) .nil))))) [.ret (.sl (.var 0) (.some (.cst (.int 1))) .none)] [],
 .ret (.tup .nil)]⟩
noncomputable def i8:Kd->List Kd
 |.row k=>[k]
 |.pair a b=>[a,b]
 |.work a b=>[a,b]
 |_=>[]
theorem Ao(C:Or)(h:Hp)(x:S)(r:List W)(b:Bool)(e:decide (x∈ [nV,qh,bo])=b):ag C (.cmp .isin (.idx (.var 0) (.cst (.int 0))) (.tup (.cons (.cst (.str [114,111,119])) (.cons (.cst (.str [112,97,105,114])) (.cons (.cst (.str [119,111,114,107])) .nil))))) [some (.tup (.str x::r))] h=.ok (.bl b) h:=by have t:=Hi x [nV,qh,bo] h;rw[e] at t;simp only[aX,eM] at t;simp[t]
theorem Kp(C:Or)(h:Hp)(x:W)(r:List W)(l:r≠ []):ag C (.sl (.var 0) (.some (.cst (.int 1))) .none) [some (.tup (x::r))] h=.ok (.tup r) h:=by
 have:¬ (min 1 (r.length+1)=0):=by omega
 simp[cut,aV]
theorem kN(C:Or)(kd:Kd)(h:Hp):bY C nv [kd.ae] h=.ok (.tup ((i8 kd).map Kd.ae)) h:=by
 have no:∀(x:S)(r:List W),decide (x∈ [nV,qh,bo])=false->bY C nv [.tup (.str x::r)] h=.ok (.tup []) h:=fun x r e=>bw [some (.tup (.str x::r))] rfl rfl (br (Ao C h x r _ e) (aP (by simp)));have yes:∀(x:S)(r:List W),decide (x∈ [nV,qh,bo])=true->r≠ []->bY C nv [.tup (.str x::r)] h=.ok (.tup r) h:=fun x r e l=>bw [some (.tup (.str x::r))] rfl rfl (lL (Ao C h x r _ e) (aP (Kp C h _ r l)));cases kd with
 |num=>exact no _ _ (by decide)
 |tru=>exact no _ _ (by decide)
 |any x=>exact no _ _ (by decide)
 |gap n=>exact no _ _ (by decide)
 |row a=>exact yes _ _ (by decide) (by simp)
 |pair a b=>exact yes _ _ (by decide) (by simp)
 |work a b=>exact yes _ _ (by decide) (by simp)
theorem tup_ne(h:Hp)(x:W)(xs:List W)(p:x.pure=true)(q:dF xs=true)(d:max x.deep (cV xs)<=50):bX h (.tup (x::xs)) (.tup [])=some false:=by have h1:=uL h x 59 p (by omega);have h2:=sD h xs 59 q (by omega);simp[bX,bC,h1,h2]
def j0(l:List S)(x:S):List S:=if x∈l then l else l++[x]
noncomputable def Kd.put:Kd->List S->List S
 |.row k,l=>k.put l
 |.pair a b,l=>b.put (a.put l)
 |.work a b,l=>b.put (a.put l)
 |.any x,l=>j0 l x
 |_,l=>l
def dE(l:List S):List (W×W):=l.map fun x=>(.str x,.bl true)
theorem Dv(x:S):∀l:List S,dput (.str x) (.bl true) (dE l)=dE (j0 l x)
 |[]=>by simp[dE,j0]
 |y::r=>by
  have ih:=Dv x r;simp only[dE,aX,dput,dM] at ih⊢;by_cases e:y=x
  .subst e;simp[j0]
  .rw[if_neg (by simp[e]),ih];unfold j0;by_cases m:x∈r
   .simp[m]
   .have:x≠y:=fun z=>e z.symm;simp[m,this]
theorem FZ(l:List S)(x:S):(j0 l x).length<=l.length+1:=by unfold j0;split<;>simp
theorem zS:∀(kd:Kd)(l:List S),(kd.put l).length<=l.length+2 ^ kd.depth:=by
 intro kd
 induction kd with
 |any x=>intro l;have:=FZ l x;simpa [Kd.put,Kd.depth] using this
 |row a ih=>intro l;have:=ih l;simp only[Kd.put,Kd.depth,uE];omega
 |pair a b iha ihb=>
  intro l;have h1:=iha l;have h2:=ihb (a.put l);have c1:2 ^ a.depth<=2 ^ (max a.depth b.depth):=mR (by decide) (by omega);have c2:2 ^ b.depth<=2 ^ (max a.depth b.depth):=mR (by decide) (by omega);simp only[Kd.put,Kd.depth,uE];omega
 |work a b iha ihb=>
  intro l;have h1:=iha l;have h2:=ihb (a.put l);have c1:2 ^ a.depth<=2 ^ (max a.depth b.depth):=mR (by decide) (by omega);have c2:2 ^ b.depth<=2 ^ (max a.depth b.depth):=mR (by decide) (by omega);simp only[Kd.put,Kd.depth,uE];omega
 |_=>intro l;simp[Kd.put]
noncomputable def nN(self:Nat):List St:=[.expr (.call self (.cons (.var 2) (.cons (.var 1) .nil)))]
def HW(pt self:Nat):Fn:=⟨2,3,[
 .iff (.cmp .eq (.idx (.var 0) (.cst (.int 0))) (.cst (.str [97,110,121]))) [.put (.var 1) (.idx (.var 0) (.cst (.int 1))) (.cst (.bl true))] [],
 .for (.var 2) (.seq (.call pt (.cons (.var 0) .nil))) (nN self)]⟩
theorem rN{h:Hp}{q:Nat}{o:O}(e:h[q]?=some o):h.set q o=h:=by
 apply List.ext_getElem?;intro i;by_cases z:q=i
 .subst z;rw[jC (dR e),e]
 .rw[iE z]
theorem we(C:Or)(h:Hp)(x:S)(r:List W)(o:Option W)(u:Option W)(b:Bool)(e:decide (x=bM)=b):ag C (.cmp .eq (.idx (.var 0) (.cst (.int 0))) (.cst (.str [97,110,121]))) [some (.tup (.str x::r)),o,u] h=.ok (.bl b) h:=by subst e;simp
theorem v5{C:Or}{pt self:Nat}{σ:Env}{h:Hp}{w:W}{ws:List W}(s0:σ[0]?=some (some w))(e:C pt [w] h=.ok (.tup ws) h):dD C (.for (.var 2) (.seq (.call pt (.cons (.var 0) .nil))) (nN self)) σ h=je (.var 2) (aH C (nN self)) ws σ h:=by rw[bz];simp[s0,e]
theorem B5{C:Or}{self q:Nat}{h h':Hp}{x w:W}{o:Option W}(e:C self [x,.ref q] h=.ok .aq h'):aH C (nN self) [some w,some (.ref q),some x] h=.ok (.next [some w,some (.ref q),some x]) h':=by simp[nN,e]
theorem wH{T:List Fn}{pt self q:Nat}(hp:T[pt]?=some nv)(hs:T[self]?=some (HW pt self)):
  ∀(kd:Kd)(k:Nat)(h:Hp)(l:List S),kd.depth+2<=k->l.length+2 ^ kd.depth<=SZ->h[q]?=some (.aj (dE l))->run T k self [kd.ae,.ref q] h=.ok .aq (h.set q (.aj (dE (kd.put l)))):=by
 have none_:∀(kd:Kd)(x:S)(r:List W)(k:Nat)(h:Hp),kd.ae=.tup (.str x::r)->decide (x=bM)=false->i8 kd=[]->run T (k+2) self [kd.ae,.ref q] h=.ok .aq h:=by intro kd x r k h e1 e2 e3;have p:=kN (run T k) kd h;rw[<-run_eq hp,e3] at p;rw[run_eq hs];rw[e1] at p⊢;exact k6 [some (.tup (.str x::r)),some (.ref q),none] rfl rfl (br (we _ h x r _ _ _ e2) (aC (v5 rfl p) rfl))
 have two:∀(kd:Kd)(x:S)(a b:Kd)(k:Nat)(h h1 h2:Hp),kd.ae=.tup [.str x,a.ae,b.ae]->decide (x=bM)=false->i8 kd=[a,b]->run T (k+1) self [a.ae,.ref q] h=.ok .aq h1->run T (k+1) self [b.ae,.ref q] h1=.ok .aq h2->run T (k+2) self [kd.ae,.ref q] h=.ok .aq h2:=by intro kd x a b k h h1 h2 e1 e2 e3 ra rb;have p:=kN (run T k) kd h;rw[<-run_eq hp,e3] at p;rw[run_eq hs];rw[e1] at p⊢;refine k6 [some (.tup [.str x,a.ae,b.ae]),some (.ref q),none] rfl rfl (σ':=[some (.tup [.str x,a.ae,b.ae]),some (.ref q),some b.ae]) (br (we _ h x _ _ _ _ e2) (aC (σ':=[some (.tup [.str x,a.ae,b.ae]),some (.ref q),some b.ae]) (h':=h2) ((v5 rfl p).trans ?_) rfl));simp only[aX,eM,je,turn,iu,g9,gY,B5 (o:=none) ra,B5 (o:=none) rb,R.ak]
 intro kd
 induction kd with
 |num=>intro k h l hk hl e;obtain⟨k,rfl⟩:∃j,k=j+2:=⟨k-2,by omega⟩;rw[none_ .num _ _ k h rfl (by decide) rfl];simp[Kd.put,rN e]
 |tru=>intro k h l hk hl e;obtain⟨k,rfl⟩:∃j,k=j+2:=⟨k-2,by omega⟩;rw[none_ .tru _ _ k h rfl (by decide) rfl];simp[Kd.put,rN e]
 |gap n=>intro k h l hk hl e;obtain⟨k,rfl⟩:∃j,k=j+2:=⟨k-2,by omega⟩;rw[none_ (.gap n) _ _ k h rfl (by decide) rfl];simp[Kd.put,rN e]
 |any x=>
  intro k h l hk hl e;obtain⟨k,rfl⟩:∃j,k=j+2:=⟨k-2,by omega⟩;have p:=kN (run T k) (.any x) (h.set q (.aj (dE (j0 l x))));rw[<-run_eq hp] at p;rw[run_eq hs];have hl':(dE l).length<SZ:=by simp[dE,Kd.depth] at hl⊢;omega
  exact k6 [some (.tup [.str bM,.str x]),some (.ref q),none] rfl rfl (A7 (we _ h bM _ _ _ _ (by decide)) (h3:=h.set q (.aj (dE (j0 l x)))) (σ':=[some (.tup [.str bM,.str x]),some (.ref q),none]) (by simp[e,Dv,hl']) (aC (v5 rfl p) rfl))
 |row a iha=>
  intro k h l hk hl e;simp only[Kd.depth,uE] at hk hl;obtain⟨k,rfl⟩:∃j,k=j+2:=⟨k-2,by omega⟩;have p:=kN (run T k) (.row a) h;rw[<-run_eq hp] at p;have h1:=iha (k+1) h l (by omega) (by omega) e;rw[run_eq hs];refine k6 [some (.tup [.str nV,a.ae]),some (.ref q),none] rfl rfl (σ':=[some (.tup [.str nV,a.ae]),some (.ref q),some a.ae]) (br (we _ h nV _ _ _ _ (by decide)) (aC (σ':=[some (.tup [.str nV,a.ae]),some (.ref q),some a.ae]) (h':=h.set q (.aj (dE (a.put l)))) ((v5 rfl p).trans ?_) rfl));simp only[i8,aX,eM,je,turn,iu,g9,gY,B5 (o:=none) h1,R.ak]
 |pair a b iha ihb=>
  intro k h l hk hl e;have c1:2 ^ a.depth<=2 ^ (max a.depth b.depth):=mR (by decide) (by omega);have c2:2 ^ b.depth<=2 ^ (max a.depth b.depth):=mR (by decide) (by omega);simp only[Kd.depth,uE] at hk hl;obtain⟨k,rfl⟩:∃j,k=j+2:=⟨k-2,by omega⟩;have pl:=zS a l;have z:=two (.pair a b) _ a b k h _ _ rfl (by decide) rfl (iha (k+1) h l (by omega) (by omega) e) (ihb (k+1) (h.set q (.aj (dE (a.put l)))) (a.put l) (by omega) (by omega) (cu e));rw[yG] at z;exact z
 |work a b iha ihb=>
  intro k h l hk hl e;have c1:2 ^ a.depth<=2 ^ (max a.depth b.depth):=mR (by decide) (by omega);have c2:2 ^ b.depth<=2 ^ (max a.depth b.depth):=mR (by decide) (by omega);simp only[Kd.depth,uE] at hk hl;obtain⟨k,rfl⟩:∃j,k=j+2:=⟨k-2,by omega⟩;have pl:=zS a l;have z:=two (.work a b) _ a b k h _ _ rfl (by decide) rfl (iha (k+1) h l (by omega) (by omega) e) (ihb (k+1) (h.set q (.aj (dE (a.put l)))) (a.put l) (by omega) (by omega) (cu e));rw[yG] at z;exact z
def zX(pn:Nat):Fn:=⟨1,2,[
 .set 1 (.aj .nil),
 .expr (.call pn (.cons (.var 0) (.cons (.var 1) .nil))),
 .ret (.blt .list (.var 1))]⟩
theorem kW{T:List Fn}{pt pn self:Nat}(hp:T[pt]?=some nv)(hs:T[pn]?=some (HW pt pn))(hn:T[self]?=some (zX pn))(kd:Kd)(k:Nat)(h:Hp)(hk:kd.depth+3<=k)(hl:2 ^ kd.depth<=SZ):
  run T k self [kd.ae] h=.ok (.ref (h.length+1)) (h++[.aj (dE (kd.put [])),.lst ((kd.put []).map W.str)]):=by
 obtain⟨k,rfl⟩:∃j,k=j+1:=⟨k-1,by omega⟩;have p:=wH (q:=h.length) hp hs kd k (h++[.aj (dE [])]) [] (by omega) (by simpa using hl) (by simp);simp only[dE,eM] at p;rw[run_eq hn];unfold bY zX;have e1:(h++[O.aj []]).set h.length (O.aj (dE (kd.put [])))=h++[O.aj (dE (kd.put []))]:=by rw[Cn _ _ (aG _)];simp
 simp only[dE] at e1;simp[p,e1,dE,uF,yf]
noncomputable abbrev Es.c:=@Es.cons
noncomputable abbrev Es.n:=Es.nil
end Tw
namespace K11
open Tw
abbrev dS:Nat:=0
abbrev lD:Nat:=1
abbrev ic:Nat:=2
abbrev cK:Nat:=3
abbrev eQ:Nat:=4
abbrev dN:Nat:=5
abbrev lW:Nat:=6
abbrev pG:Nat:=7
abbrev gK:Nat:=8
abbrev oB:Nat:=9
abbrev iS:Nat:=10
abbrev gZ:Nat:=11
abbrev gg:Nat:=12
abbrev lC:Nat:=13
abbrev fB:Nat:=14
abbrev gJ:Nat:=15
abbrev cX:Nat:=16
abbrev dY:Nat:=17
abbrev iJ:Nat:=18
abbrev cE:Nat:=19
abbrev il:Nat:=20
abbrev fu:Nat:=21
abbrev ml:Nat:=22
abbrev jg:Nat:=23
abbrev mh:Nat:=24
abbrev jY:Nat:=25
abbrev fJ:Nat:=26
abbrev dB:Nat:=27
abbrev lB:Nat:=28
abbrev j5:Nat:=29
abbrev fS:Nat:=30
abbrev oQ:Nat:=31
abbrev jk:Nat:=32
abbrev iZ:Nat:=33
abbrev bF:Nat:=34
abbrev ir:Nat:=35
abbrev jd:Nat:=36
abbrev cz:Nat:=37
abbrev dZ:Nat:=38
abbrev jA:Nat:=39
abbrev aY:Nat:=40
abbrev eZ:Nat:=41
abbrev mz:Nat:=42
abbrev hU:Nat:=43
abbrev I9:Nat:=44
noncomputable abbrev tH:E:=.cst (.str [119,111,114,107])
noncomputable abbrev q8:E:=.cst (.str [97,110,121])
noncomputable abbrev Aq:E:=.cst (.str [102,117,110])
noncomputable abbrev DH:E:=.cst (.str [110,97,109,101])
noncomputable abbrev Dy:E:=.cst (.str [99,97,108,108])
noncomputable abbrev zD:E:=.cst (.str [122,122])
noncomputable abbrev I0:E:=.cst (.str [108,105,107,101])
noncomputable abbrev IW:E:=.cst (.str [112,97,105,114])
noncomputable abbrev Nv:E:=.cst (.str [110,117,109,98,101,114])
noncomputable abbrev zo:E:=.cst (.str [120])
noncomputable abbrev GY:E:=.cst (.str [116,111,108,100])
noncomputable abbrev Gk:E:=.cst (.str [121,101,115])
noncomputable abbrev FC:E:=.cst (.str [103,97,112])
noncomputable abbrev Oa:E:=.cst (.str [116,114,117,116,104])
noncomputable abbrev Lw:E:=.cst (.str [108,111,111,115,101])
noncomputable abbrev KZ:E:=.cst (.str [102,111,114,109])
noncomputable abbrev OE:E:=.cst (.str [100,111,110,101])
def zE:Fn:=⟨1,1,[
 .iff (.cmp .isin (.idx (.var 0) (.cst (.int 0))) (.tup (.c (.cst (.str [114,111,119])) (.c IW (.c tH .n))))) [.ret (.sl (.var 0) (.some (.cst (.int 1))) .none)] [],
 .ret (.tup .n)]⟩
def yx:Fn:=⟨2,2,[
 .ret (.call cK (.c (.var 0) (.c q8 (.c (.var 1) .n))))]⟩
def oY:Fn:=⟨2,2,[
 .ret (.call cK (.c (.var 0) (.c FC (.c (.var 1) .n))))]⟩
noncomputable def oS:List St:=[.set 4 (.bin .add (.var 4) (.tup (.c (.call cK (.c (.var 5) (.c (.var 1) (.c (.var 2) .n)))) .n)))]
def sO:Fn:=⟨3,6,[
 .iff (.cmp .eq (.idx (.var 0) (.cst (.int 0))) (.var 1)) [.ret (.ji .get (.var 2) (.c (.idx (.var 0) (.cst (.int 1))) (.c (.var 0) .n)))] [],
 .set 3 (.call dS (.c (.var 0) .n)),
 .iff (.cmp .eq (.var 3) (.tup .n)) [.bad] [],
 .set 4 (.tup (.c (.idx (.var 0) (.cst (.int 0))) .n)),
 .for (.var 5) (.seq (.var 3)) oS,
 .ret (.var 4)]⟩
noncomputable def ud:Fn:=⟨1,2,[
 .set 1 (.aj .n),
 .expr (.call dN (.c (.var 0) (.c (.var 1) .n))),
 .ret (.blt .list (.var 1))]⟩
noncomputable def uD:List St:=[.expr (.call dN (.c (.var 2) (.c (.var 1) .n)))]
def rl:Fn:=⟨2,3,[
 .iff (.cmp .eq (.idx (.var 0) (.cst (.int 0))) q8) [.put (.var 1) (.idx (.var 0) (.cst (.int 1))) (.cst (.bl true))] [],
 .for (.var 2) (.seq (.call dS (.c (.var 0) .n))) uD]⟩
noncomputable def xR:List St:=[.set 4 (.call lW (.c (.var 5) (.c (.var 6) (.c (.var 4) .n)))),.iff (.cmp .isN (.var 4) (.cst .aq)) [.bad] []]
def Hz:Fn:=⟨3,7,[
 .iff (.cmp .eq (.idx (.var 0) (.cst (.int 0))) FC) [.ret (.call pG (.c (.idx (.var 0) (.cst (.int 1))) (.c (.var 1) (.c (.var 2) .n))))] [],
 .set 3 (.call dS (.c (.var 0) .n)),
 .iff (.cmp .eq (.var 3) (.tup .n)) [.bad] [],
 .iff (.cmp .ne (.idx (.var 0) (.cst (.int 0))) (.idx (.var 1) (.cst (.int 0)))) [.bad] [],
 .set 4 (.var 2),
 .for (.two 5 6) (.zip (.var 3) (.call dS (.c (.var 1) .n))) xR,
 .ret (.var 4)]⟩
noncomputable def ve:Fn:=⟨3,4,[
 .iff (.cmp .ne (.ji .get (.var 2) (.c (.var 0) (.c (.var 1) .n))) (.var 1)) [.bad] [],
 .set 3 (.blt .dict (.var 2)),
 .put (.var 3) (.var 0) (.var 1),
 .ret (.var 3)]⟩
noncomputable def j4:List St:=[.set 3 (.call gK (.c (.var 2) (.c (.var 1) .n))),.iff (.cmp .notN (.var 3) (.cst .aq)) [.ret (.var 3)] []]
def tL:Fn:=⟨2,4,[
 .iff (.cmp .eq (.idx (.var 0) (.cst (.int 0))) tH) [.bad] [],
 .iff (.and (.cmp .eq (.idx (.var 0) (.cst (.int 0))) q8) (.cmp .notin (.idx (.var 0) (.cst (.int 1))) (.var 1))) [.ret (.var 0)] [],
 .for (.var 2) (.seq (.call dS (.c (.var 0) .n))) j4,
 .ret (.cst .aq)]⟩
def tN:Fn:=⟨2,2,[
 .iff (.cmp .isin (.idx (.var 0) (.cst (.int 0))) (.tup (.c Nv (.c Oa .n)))) [.ret (.tup (.c I0 (.c (.var 0) .n)))] [],
 .bad,
 .bad,
 .bad]⟩
def mF:Fn:=⟨1,1,[
 .ret (.tup (.c tH (.c (.var 0) (.c (.tup (.c tH (.c (.var 0) (.c (.cst (.tup [(.str [116,114,117,116,104])])) .n)))) .n))))]⟩
def ft:List St:=[.set 6 (.call iS (.c (.tup (.c q8 (.c (.var 5) .n))) .n)),.gm (.var 0) [99,111,114,101] (.tup (.c Aq (.c (.var 6) (.c (.fld (.var 0) [99,111,114,101]) .n)))),.gm (.var 0) [119,104,111,108,101,95,107,105,110,100] (.tup (.c tH (.c (.var 6) (.c (.fld (.var 0) [119,104,111,108,101,95,107,105,110,100]) .n))))]
def j9:Fn:=⟨5,7,[
 .gm (.var 0) [102,114,101,101] (.blt .list (.var 1)),
 .gm (.var 0) [110,101,101,100,115] (.blt .list (.var 2)),
 .gm (.var 0) [107,105,110,100] (.var 3),
 .gm (.var 0) [99,111,114,101] (.var 4),
 .gm (.var 0) [119,104,111,108,101,95,107,105,110,100] (.var 3),
 .for (.var 5) (.rev (.fld (.var 0) [110,101,101,100,115])) ft]⟩
noncomputable def kX:Fn:=⟨5,5,[
 .gm (.var 0) [115,104,101,108,102] (.var 1),
 .gm (.var 0) [102,114,101,101] (.var 2),
 .gm (.var 0) [110,101,101,100,115] (.var 3),
 .gm (.var 0) [98,111,117,110,100] (.var 4)]⟩
noncomputable def kP:Fn:=⟨3,3,[
 .ret (.mk [83,99,111,112,101] gg (.c (.fld (.var 0) [115,104,101,108,102]) (.c (.fld (.var 0) [102,114,101,101]) (.c (.fld (.var 0) [110,101,101,100,115]) (.c (.bin .add (.tup (.c (.tup (.c (.var 1) (.c (.var 2) .n))) .n)) (.fld (.var 0) [98,111,117,110,100])) .n)))))]⟩
noncomputable def fQ:E:=(.var 2)
def iC:Fn:=⟨2,2,[
 .ret (.cmp .isin (.var 1) (.ij fQ (.seq (.fld (.var 0) [98,111,117,110,100]))))]⟩
noncomputable def hJ:E:=(.var 3)
def ju:Fn:=⟨2,3,[
 .set 2 (.ji .index (.ij hJ (.seq (.fld (.var 0) [98,111,117,110,100]))) (.c (.var 1) .n)),
 .ret (.tup (.c (.tup (.c (.cst (.str [118,97,114])) (.c (.var 2) .n))) (.c (.idx (.idx (.fld (.var 0) [98,111,117,110,100]) (.var 2)) (.cst (.int 1))) .n)))]⟩
noncomputable def jn:Fn:=⟨3,4,[
 .set 3 (.call gK (.c (.var 1) (.c (.fld (.var 0) [110,101,101,100,115]) .n))),
 .iff (.cmp .notN (.var 3) (.cst .aq)) [.raise [78,111,82,117,108,101] [[112,108,97,99,101],[107,105,110,100]] (.c (.var 2) (.c (.var 3) .n))] [],
 .ret (.call oB (.c (.var 1) (.c (.own (.var 0) [83,99,111,112,101] [108,105,107,101,110,101,115,115,101,115,95,103,105,118,101,110] dY .n) .n)))]⟩
noncomputable def jT:List St:=[.bad,.bad]
def gy:Fn:=⟨1,4,[
 .set 1 (.aj .n),
 .set 2 (.blt .len (.fld (.var 0) [98,111,117,110,100])),
 .for (.var 3) (.rev (.fld (.var 0) [110,101,101,100,115])) jT,
 .ret (.var 1)]⟩
noncomputable def pO:Fn:=⟨3,3,[
 .ret (.sA [([121,101,115],fu),([110,111],fu),([110,97,109,101],fJ),([99,97,108,108],fJ),([116,111,108,100],ml),([108,105,107,101],jY)] (.idx (.var 0) (.cst (.int 0))) (.c (.var 0) (.c (.var 1) (.c (.var 2) .n))))]⟩
noncomputable def mD:Fn:=⟨4,4,[
 .iff (.Ab (.idx (.var 0) (.cst (.int 0))) [[110,97,109,101],[102,117,110],[99,97,108,108],[98,111,116,104],[114,111,119,111,102],[97,104,101,97,100],[105,102],[108,101,116]]) [.ret (.sA [([110,97,109,101],dB),([102,117,110],jg),([99,97,108,108],dB),([105,102],mh)] (.idx (.var 0) (.cst (.int 0))) (.c (.var 0) (.c (.var 1) (.c (.var 2) (.c (.var 3) .n)))))] [],
 .ret (.call il (.c (.var 0) (.c (.var 1) (.c (.var 2) (.c (.var 3) .n)))))]⟩
noncomputable def oW:Fn:=⟨4,6,[
 .kO 4 5 (.call iJ (.c (.var 0) (.c (.var 2) (.c (.var 3) .n)))),
 .iff (.cmp .ne (.var 5) (.var 1)) [.raise [85,110,109,101,116] [[112,108,97,99,101],[119,97,110,116,101,100],[102,111,117,110,100]] (.c (.var 2) (.c (.var 1) (.c (.var 5) .n)))] [],
 .ret (.var 4)]⟩
noncomputable def kx:Fn:=⟨3,3,[
 .ret (.tup (.c (.var 0) (.c (.cst (.tup [(.str [116,114,117,116,104])])) .n)))]⟩
noncomputable def iP:List St:=[.iff (.cmp .notin (.var 3) (.fld (.var 2) [102,114,101,101])) [.raise [85,110,98,111,117,110,100] [[112,108,97,99,101],[110,97,109,101]] (.c (.var 1) (.c (.var 3) .n))] []]
def vk:Fn:=⟨3,4,[
 .for (.var 3) (.seq (.call eQ (.c (.idx (.var 0) (.cst (.int 2))) .n))) iP,
 .bad]⟩
def tV:Fn:=⟨4,5,[
 .iff (.cmp .ne (.idx (.var 1) (.cst (.int 0))) tH) [.bad] [],
 .set 4 (.call cE (.c (.idx (.var 0) (.cst (.int 2))) (.c (.idx (.var 1) (.cst (.int 2))) (.c (.bin .add (.var 2) (.tup (.c (.cst (.int 0)) .n))) (.c (.own (.var 3) [83,99,111,112,101] [98,105,110,100] lC (.c (.idx (.var 0) (.cst (.int 1))) (.c (.idx (.var 1) (.cst (.int 1))) .n))) .n))))),
 .ret (.tup (.c Aq (.c (.idx (.var 1) (.cst (.int 1))) (.c (.var 4) .n))))]⟩
noncomputable def vB:Fn:=⟨4,7,[
 .set 4 (.call cE (.c (.idx (.var 0) (.cst (.int 1))) (.c (.cst (.tup [(.str [116,114,117,116,104])])) (.c (.bin .add (.var 2) (.tup (.c (.cst (.int 0)) .n))) (.c (.var 3) .n))))),
 .set 5 (.call cE (.c (.idx (.var 0) (.cst (.int 2))) (.c (.var 1) (.c (.bin .add (.var 2) (.tup (.c (.cst (.int 1)) .n))) (.c (.var 3) .n))))),
 .set 6 (.call cE (.c (.idx (.var 0) (.cst (.int 3))) (.c (.var 1) (.c (.bin .add (.var 2) (.tup (.c (.cst (.int 2)) .n))) (.c (.var 3) .n))))),
 .bad]⟩
def vb:Fn:=⟨3,6,[
 .kO 3 4 (.call iJ (.c (.idx (.var 0) (.cst (.int 1))) (.c (.bin .add (.var 1) (.tup (.c (.cst (.int 0)) .n))) (.c (.var 2) .n)))),
 .set 5 (.call cE (.c (.idx (.var 0) (.cst (.int 2))) (.c (.var 4) (.c (.bin .add (.var 1) (.tup (.c (.cst (.int 1)) .n))) (.c (.var 2) .n))))),
 .ret (.tup (.c (.tup (.c Dy (.c (.tup (.c Dy (.c (.own (.var 2) [83,99,111,112,101] [108,105,107,101,110,101,115,115,95,111,102] cX (.c (.var 4) (.c (.var 1) .n))) (.c (.var 3) .n)))) (.c (.var 5) .n)))) (.c (.cst (.tup [(.str [116,114,117,116,104])])) .n)))]⟩
noncomputable def mW:Fn:=⟨3,3,[
 .ret (.call lB (.c (.var 0) (.c (.cst .aq) (.c (.var 1) (.c (.var 2) .n)))))]⟩
noncomputable def oX:Fn:=⟨4,6,[
 .kO 4 5 (.call lB (.c (.var 0) (.c (.var 1) (.c (.var 2) (.c (.var 3) .n))))),
 .iff (.cmp .ne (.var 5) (.var 1)) [.bad] [],
 .ret (.var 4)]⟩
def hZ:E:=(.cmp .eq (.idx (.var 5) (.cst (.int 0))) Dy)
noncomputable def mM:List St:=[.bad,.bad,.bad]
def wG:Fn:=⟨4,9,[
 .set 4 (.lst .n),
 .set 5 (.var 0),
 .set 6 (.var 2),
 .Dj hZ mM,
 .expr (.ji .rev (.var 4) .n),
 .iff (.cmp .ne (.idx (.var 5) (.cst (.int 0))) DH) [.bad] [.iff (.own (.var 3) [83,99,111,112,101] [105,115,95,98,111,117,110,100] fB (.c (.idx (.var 5) (.cst (.int 1))) .n)) [.kO 7 8 (.own (.var 3) [83,99,111,112,101] [118,97,114,95,111,102] gJ (.c (.idx (.var 5) (.cst (.int 1))) .n))] [.ret (.call fS (.c (.idx (.var 5) (.cst (.int 1))) (.c (.var 6) (.c (.var 4) (.c (.var 1) (.c (.var 2) (.c (.var 3) .n)))))))]],
 .ret (.call j5 (.c (.var 7) (.c (.var 8) (.c (.var 4) (.c (.var 3) .n)))))]⟩
noncomputable def rP:List St:=[.bad,.bad,.bad]
def jZ:Fn:=⟨4,6,[
 .for (.two 4 5) (.seq (.var 2)) rP,
 .ret (.tup (.c (.var 0) (.c (.var 1) .n)))]⟩
def bh:E:=(.tup (.c (.var 15) (.c (.tup (.c FC (.c (.var 14) .n))) .n)))
noncomputable def mX:List St:=[.bad,.bad,.bad,.bad,.bad]
noncomputable def mV:List St:=[.bad]
def jq:Fn:=⟨6,14,[
 .iff (.cmp .notin (.var 0) (.fld (.fld (.var 5) [115,104,101,108,102]) [110,117,109,98,101,114,115])) [.bad] [],
 .set 6 (.idx (.fld (.fld (.var 5) [115,104,101,108,102]) [110,117,109,98,101,114,115]) (.var 0)),
 .set 7 (.idx (.fld (.fld (.var 5) [115,104,101,108,102]) [100,101,102,105,110,105,116,105,111,110,115]) (.var 6)),
 .set 8 (.call lD (.c (.fld (.var 7) [107,105,110,100]) (.c (.blt .dictP (.ij bh (.enum (.fld (.var 7) [102,114,101,101])))) .n))),
 .set 9 (.aj .n),
 .set 10 (.lst .n),
 .for (.two 11 12) (.seq (.var 2)) mX,
 .set 9 (.call oQ (.c (.var 8) (.c (.var 3) (.c (.var 9) (.c (.var 4) .n))))),
 .set 13 (.call jk (.c (.var 6) (.c (.var 7) (.c (.var 9) (.c (.var 1) (.c (.var 5) .n)))))),
 .for (.var 11) (.seq (.var 10)) mV,
 .ret (.tup (.c (.var 13) (.c (.call ic (.c (.var 8) (.c (.var 9) .n))) .n)))]⟩
noncomputable def tD:Fn:=⟨4,5,[
 .iff (.cmp .isN (.var 1) (.cst .aq)) [.bad,.bad] [],
 .set 4 (.call lW (.c (.var 0) (.c (.var 1) (.c (.var 2) .n)))),
 .iff (.cmp .isN (.var 4) (.cst .aq)) [.bad] [],
 .ret (.var 4)]⟩
noncomputable def dh:E:=(.idx (.var 2) (.var 8))
def jR:List St:=[.set 7 (.idx (.var 2) (.ji .index (.fld (.var 1) [102,114,101,101]) (.c (.var 6) .n))),.set 5 (.tup (.c Dy (.c (.var 5) (.c (.own (.var 4) [83,99,111,112,101] [108,105,107,101,110,101,115,115,95,111,102] cX (.c (.var 7) (.c (.var 3) .n))) .n))))]
def mr:Fn:=⟨5,8,[
 .set 5 (.tup (.c (.cst (.str [100,101,102])) (.c (.var 0) (.c (.blt .tuple (.comp dh (.kj (.blt .len (.fld (.var 1) [102,114,101,101]))) .none)) .n)))),
 .for (.var 6) (.seq (.fld (.var 1) [110,101,101,100,115])) jR,
 .ret (.var 5)]⟩
noncomputable def lu:Fn:=⟨1,1,[
 .gm (.var 0) [100,101,102,105,110,105,116,105,111,110,115] (.lst .n),
 .gm (.var 0) [110,117,109,98,101,114,115] (.aj .n)]⟩
noncomputable def p9:Fn:=⟨6,7,[
 .iff (.cmp .isin (.var 1) (.fld (.var 0) [110,117,109,98,101,114,115])) [.raise [84,111,108,100] [] .n] [],
 .expr (.call cz (.c (.var 2) (.c (.var 3) (.c (.var 4) .n)))),
 .set 6 (.call cE (.c (.var 5) (.c (.var 4) (.c (.tup .n) (.c (.mk [83,99,111,112,101] gg (.c (.var 0) (.c (.var 2) (.c (.var 3) (.c (.tup .n) .n))))) .n))))),
 .put (.fld (.var 0) [110,117,109,98,101,114,115]) (.var 1) (.blt .len (.fld (.var 0) [100,101,102,105,110,105,116,105,111,110,115])),
 .expr (.ji .append (.fld (.var 0) [100,101,102,105,110,105,116,105,111,110,115]) (.c (.mk [68,101,102,105,110,105,116,105,111,110] gZ (.c (.var 2) (.c (.var 3) (.c (.var 4) (.c (.var 6) .n))))) .n))]⟩
noncomputable def lJ:Fn:=⟨3,3,[
 .ret (.call cE (.c (.var 1) (.c (.var 2) (.c (.tup .n) (.c (.own (.var 0) [83,104,101,108,102] [111,117,116,115,105,100,101] jd .n) .n)))))]⟩
noncomputable def i3:Fn:=⟨1,1,[
 .ret (.mk [83,99,111,112,101] gg (.c (.var 0) (.c (.lst .n) (.c (.lst .n) (.c (.tup .n) .n)))))]⟩
noncomputable def qU:List St:=[.iff (.cmp .notin (.var 4) (.var 0)) [.raise [85,110,98,111,117,110,100] [[112,108,97,99,101],[110,97,109,101]] (.c (.tup .n) (.c (.var 4) .n))] []]
noncomputable def qS:List St:=[.iff (.cmp .notin (.var 4) (.var 3)) [.raise [76,111,111,115,101] [] .n] []]
noncomputable def qV:List St:=[.iff (.cmp .notin (.var 5) (.var 0)) [.raise [76,111,111,115,101] [] .n] []]
def nF:Fn:=⟨3,6,[
 .set 3 (.call eQ (.c (.var 2) .n)),
 .for (.var 4) (.seq (.var 3)) qU,
 .for (.var 4) (.seq (.var 0)) qS,
 .for (.var 5) (.seq (.var 1)) qV]⟩
noncomputable def xi:Fn:=⟨2,3,[
 .set 2 (.ite (.cmp .ne (.idx (.var 0) (.cst (.int 1))) (.lst .n)) (.idx (.idx (.var 0) (.cst (.int 1))) (.bin .mod (.idx (.var 0) (.cst (.int 2))) (.blt .len (.idx (.var 0) (.cst (.int 1)))))) (.cst (.int 0))),
 .put (.var 0) (.cst (.int 0)) (.bin .mod (.bin .add (.bin .add (.bin .mul (.idx (.var 0) (.cst (.int 0))) (.cst (.int 48271))) (.bin .mul (.var 2) (.cst (.int 69621)))) (.cst (.int 11))) (.cst (.int 2147483647))),
 .put (.var 0) (.cst (.int 2)) (.bin .add (.idx (.var 0) (.cst (.int 2))) (.cst (.int 1))),
 .ret (.bin .mod (.bin .fdiv (.idx (.var 0) (.cst (.int 0))) (.cst (.int 7))) (.var 1))]⟩
noncomputable def ze:E:=(.idx (.var 1) (.call dZ (.c (.var 0) (.c (.cst (.int 26)) .n))))
def w4:Fn:=⟨1,2,[
 .set 1 (.cst (.str [97,98,99,100,101,102,103,104,105,106,107,108,109,110,111,112,113,114,115,116,117,118,119,120,121,122])),
 .ret (.ji .join (.cst (.str [])) (.c (.comp ze (.kj (.bin .add (.cst (.int 1)) (.call dZ (.c (.var 0) (.c (.cst (.int 8)) .n))))) .none) .n))]⟩
def iF:Fn:=⟨6,7,[
 .se [.call (.var 0) [83,104,101,108,102] [116,101,108,108] bF (.c (.var 1) (.c (.var 2) (.c (.var 3) (.c (.var 4) (.c (.var 5) .n))))) (some (.str [100,111,110,101]))] [([85,110,98,111,117,110,100],[[85,110,98,111,117,110,100]],6,[.ret (.tup (.c (.rm (.var 6) [112,108,97,99,101] [[85,110,98,111,117,110,100]]) (.c (.rm (.var 6) [110,97,109,101] [[85,110,98,111,117,110,100]]) .n)))]),([84,111,108,100],[[84,111,108,100]],6,[.ret (.tup (.c GY (.c (.i4 (.var 6) [[82,101,102,117,115,101,100],[76,111,111,115,101],[83,116,114,97,121],[84,111,111,76,111,110,103]] [[84,111,108,100]] [[85,110,98,111,117,110,100],[76,111,111,115,101],[85,110,109,101,116],[78,111,82,117,108,101]]) .n)))]),([76,111,111,115,101],[[76,111,111,115,101]],6,[.ret (.tup (.c Lw (.c (.or (.i4 (.var 6) [[82,101,102,117,115,101,100],[84,111,108,100],[83,116,114,97,121],[84,111,111,76,111,110,103]] [[76,111,111,115,101]] [[85,110,98,111,117,110,100],[84,111,108,100],[85,110,109,101,116],[78,111,82,117,108,101]]) (.not (.i4 (.var 6) [[86,97,108,117,101,69,114,114,111,114]] [[76,111,111,115,101]] [[85,110,98,111,117,110,100],[84,111,108,100],[76,111,111,115,101],[85,110,109,101,116],[78,111,82,117,108,101]]))) .n)))]),([77,101,101,116,69,114,114,111,114],[[85,110,98,111,117,110,100],[84,111,108,100],[76,111,111,115,101],[85,110,109,101,116],[78,111,82,117,108,101]],6,[.ret (.tup (.c KZ (.c (.i4 (.var 6) [[85,110,109,101,116]] [[85,110,98,111,117,110,100],[84,111,108,100],[76,111,111,115,101],[85,110,109,101,116],[78,111,82,117,108,101]] [[85,110,109,101,116]]) .n)))])]]⟩
def ki:Fn:=⟨3,7,[
 .set 3 (.tup (.c IW (.c (.tup (.c q8 (.c (.idx (.var 2) (.cst (.int 1))) .n))) (.c (.tup (.c q8 (.c (.idx (.var 2) (.cst (.int 0))) .n))) .n)))),
 .set 4 (.tup (.c tH (.c (.var 3) (.c (.tup (.c Oa .n)) .n)))),
 .se [.call (.var 0) [83,104,101,108,102] [116,101,108,108] bF (.c (.var 1) (.c (.blt .list (.var 2)) (.c (.sl (.var 2) (.some (.cst (.int 1))) .none) (.c (.var 4) (.c (.tup (.c Aq (.c zo (.c (.tup (.c (.cst (.str [105,102])) (.c (.tup (.c Gk .n)) (.c (.tup (.c (.cst (.str [110,111])) .n)) (.c (.call mz (.c zo .n)) .n))))) .n)))) .n))))) none,.ret (.cst (.bl false))] [([78,111,82,117,108,101],[[78,111,82,117,108,101]],5,[.AQ (.or (.cmp .ne (.rm (.var 5) [112,108,97,99,101] [[78,111,82,117,108,101]]) (.tup (.c (.cst (.int 0)) (.c (.cst (.int 2)) .n)))) (.cmp .ne (.rm (.var 5) [107,105,110,100] [[78,111,82,117,108,101]]) (.tup (.c q8 (.c (.idx (.var 2) (.cst (.int 0))) .n))))) (.cst (.bl false))])],
 .set 6 (.tup (.c Aq (.c zo (.c (.tup (.c I0 (.c (.tup (.c GY (.c (.tup (.c Nv (.c (.cst (.int 1)) .n))) (.c (.tup (.c (.cst (.str [114,111,119])) (.c (.tup (.c q8 (.c zD .n))) .n))) .n)))) (.c (.tup (.c Gk .n)) .n)))) .n)))),
 .ret (.cmp .eq (.call aY (.c (.var 0) (.c (.var 1) (.c (.blt .list (.var 2)) (.c (.lst .n) (.c (.var 4) (.c (.var 6) .n))))))) (.tup (.c (.tup (.c (.cst (.int 0)) (.c (.cst (.int 0)) .n))) (.c zD .n))))]⟩
def vt:Fn:=⟨1,1,[
 .ret (.tup (.c I0 (.c (.tup (.c DH (.c (.var 0) .n))) (.c (.tup (.c DH (.c (.var 0) .n))) .n))))]⟩
def rh:Fn:=⟨4,7,[
 .set 4 (.tup (.c Nv .n)),
 .set 5 (.ite (.cmp .eq (.var 2) (.cst (.int 2))) (.tup (.c IW (.c (.var 4) (.c (.var 4) .n)))) (.var 4)),
 .set 6 (.tup (.c (.cst (.str [100,101,102])) (.c (.cst (.int 1)) (.c (.bin .mul (.tup (.c (.var 4) .n)) (.var 2)) .n)))),
 .iff (.var 3) [.set 6 (.tup (.c Dy (.c (.var 6) (.c (.tup (.c I0 (.c (.var 4) .n))) .n))))] [],
 .ret (.cmp .eq (.own (.var 0) [83,104,101,108,102] [119,114,105,116,101,95,97,115] ir (.c (.tup (.c DH (.c (.var 1) .n))) (.c (.tup (.c tH (.c (.var 5) (.c (.var 5) .n)))) .n))) (.var 6))]⟩
noncomputable def ip:E:=(.var 17)
noncomputable def iq:E:=(.cmp .ne (.var 17) (.var 13))
def rV:List St:=[.iff (.cmp .ne (.call aY (.c (.var 9) (.c (.var 11) (.c (.var 14) (.c (.var 15) (.c (.var 7) (.c (.idx (.lst (.c (.var 8) (.c (.var 12) .n))) (.call dZ (.c (.var 1) (.c (.cst (.int 2)) .n)))) .n))))))) (.tup (.c Lw (.c (.cst (.bl false)) .n)))) [.bad] []]
def AO:Fn:=⟨1,17,[
 .set 1 (.lst (.c (.cst (.int 73)) (.c (.blt .list (.var 0)) (.c (.cst (.int 0)) .n)))),
 .set 2 (.sl (.call jA (.c (.var 1) .n)) .none (.some (.cst (.int 7)))),
 .set 3 (.lst (.c (.bin .add (.var 2) (.cst (.str [112]))) (.c (.bin .add (.var 2) (.cst (.str [113]))) (.c (.bin .add (.var 2) (.cst (.str [114]))) .n)))),
 .set 4 (.bin .add (.cst (.int 1)) (.call dZ (.c (.var 1) (.c (.cst (.int 2)) .n)))),
 .set 5 (.tup (.c q8 (.c (.idx (.var 3) (.cst (.int 0))) .n))),
 .iff (.cmp .eq (.var 4) (.cst (.int 2))) [.set 5 (.tup (.c IW (.c (.tup (.c q8 (.c (.idx (.var 3) (.cst (.int 1))) .n))) (.c (.var 5) .n))))] [],
 .set 6 (.sl (.var 3) .none (.some (.var 4))),
 .set 7 (.tup (.c tH (.c (.var 5) (.c (.var 5) .n)))),
 .set 8 (.tup (.c Aq (.c zo (.c (.tup (.c DH (.c zo .n))) .n)))),
 .set 9 (.mk [83,104,101,108,102] iZ .n),
 .set 10 (.bin .add (.cst (.str [102])) (.sl (.call jA (.c (.var 1) .n)) .none (.some (.cst (.int 7))))),
 .iff (.cmp .ne (.call aY (.c (.var 9) (.c (.var 10) (.c (.var 6) (.c (.lst .n) (.c (.var 7) (.c (.var 8) .n))))))) (.tup (.c (.cst .aq) (.c OE .n)))) [.bad] [],
 .set 11 (.bin .add (.cst (.str [103])) (.var 2)),
 .set 12 (.tup (.c Aq (.c zo (.c (.tup (.c Gk .n)) .n)))),
 .set 13 (.idx (.var 3) (.bin .sub (.var 4) (.cst (.int 1)))),
 .iff (.cmp .ne (.call aY (.c (.var 9) (.c (.var 10) (.c (.lst .n) (.c (.lst (.c zD .n)) (.c (.var 7) (.c (.var 12) .n))))))) (.tup (.c GY (.c (.cst (.bl false)) .n)))) [.bad] [],
 .iff (.cmp .ne (.call aY (.c (.var 9) (.c (.var 11) (.c (.comp ip (.seq (.var 6)) (.some iq)) (.c (.lst (.c zD .n)) (.c (.var 7) (.c (.var 12) .n))))))) (.tup (.c (.tup .n) (.c (.var 13) .n)))) [.bad] [],
 .for (.two 14 15) (.seq (.lst (.c (.tup (.c (.bin .add (.var 6) (.lst (.c (.idx (.var 3) (.cst (.int 2))) .n))) (.c (.lst .n) .n))) (.c (.tup (.c (.var 6) (.c (.lst (.c (.idx (.var 3) (.cst (.int 2))) .n)) .n))) (.c (.tup (.c (.bin .add (.var 6) (.lst (.c (.idx (.var 3) (.cst (.int 2))) .n))) (.c (.lst (.c (.idx (.var 3) (.cst (.int 2))) .n)) .n))) .n))))) rV,
 .iff (.cmp .ne (.call aY (.c (.var 9) (.c (.var 11) (.c (.var 6) (.c (.var 6) (.c (.var 7) (.c (.var 12) .n))))))) (.tup (.c KZ (.c (.cst (.bl true)) .n)))) [.bad] [],
 .iff (.not (.call eZ (.c (.var 9) (.c (.var 11) (.c (.sl (.var 3) .none (.some (.cst (.int 2)))) .n))))) [.bad] [],
 .set 16 (.blt .list (.var 6)),
 .set 15 (.sl (.var 6) .none (.some (.call dZ (.c (.var 1) (.c (.cst (.int 2)) .n))))),
 .iff (.cmp .ne (.call aY (.c (.var 9) (.c (.var 11) (.c (.var 16) (.c (.var 15) (.c (.var 7) (.c (.var 8) .n))))))) (.tup (.c (.cst .aq) (.c OE .n)))) [.bad] [],
 .expr (.ji .append (.var 16) (.c zD .n)),
 .expr (.ji .append (.var 15) (.c zD .n)),
 .ret (.and (.call hU (.c (.var 9) (.c (.var 11) (.c (.var 4) (.c (.cmp .gt (.blt .len (.var 15)) (.cst (.int 1))) .n))))) (.cmp .eq (.var 6) (.sl (.var 3) .none (.some (.var 4)))))]⟩
def T:List Fn:=[zE,yx,oY,sO,ud,rl,Hz,ve,tL,tN,mF,j9,kX,kP,iC,ju,jn,gy,pO,mD,oW,kx,vk,tV,vB,vb,mW,oX,wG,jZ,jq,tD,mr,lu,p9,lJ,i3,nF,xi,w4,iF,ki,vt,rh,AO]
theorem Jy:T[dS]?=some zE:=rfl
theorem Ht:T[lD]?=some yx:=rfl
theorem vZ:T[ic]?=some oY:=rfl
theorem oE:T[cK]?=some sO:=rfl
theorem P0:T[eQ]?=some ud:=rfl
theorem OZ:T[dN]?=some rl:=rfl
theorem HE:T[lW]?=some Hz:=rfl
theorem D4:T[pG]?=some ve:=rfl
theorem kz:T[gK]?=some tL:=rfl
theorem BL:T[oB]?=some tN:=rfl
theorem t6:T[iS]?=some mF:=rfl
theorem qW:T[gZ]?=some j9:=rfl
theorem wO:T[gg]?=some kX:=rfl
theorem wW:T[lC]?=some kP:=rfl
theorem rM:T[fB]?=some iC:=rfl
theorem uH:T[gJ]?=some ju:=rfl
theorem jm:T[cX]?=some jn:=rfl
theorem kQ:T[dY]?=some gy:=rfl
theorem ET:T[iJ]?=some pO:=rfl
theorem vz:T[cE]?=some mD:=rfl
theorem j6:T[il]?=some oW:=rfl
theorem sL:T[fu]?=some kx:=rfl
theorem CQ:T[ml]?=some vk:=rfl
theorem tS:T[jg]?=some tV:=rfl
theorem EY:T[mh]?=some vB:=rfl
theorem vM:T[jY]?=some vb:=rfl
theorem zd:T[fJ]?=some mW:=rfl
theorem o8:T[dB]?=some oX:=rfl
theorem yc:T[lB]?=some wG:=rfl
theorem vW:T[j5]?=some jZ:=rfl
theorem pd:T[fS]?=some jq:=rfl
theorem Bz:T[oQ]?=some tD:=rfl
theorem my:T[jk]?=some mr:=rfl
theorem yI:T[iZ]?=some lu:=rfl
theorem iU:T[bF]?=some p9:=rfl
theorem sv:T[ir]?=some lJ:=rfl
theorem ua:T[jd]?=some i3:=rfl
theorem gN:T[cz]?=some nF:=rfl
theorem Tf:T[dZ]?=some xi:=rfl
theorem Fj:T[jA]?=some w4:=rfl
theorem FO:T[aY]?=some iF:=rfl
theorem qT:T[eZ]?=some ki:=rfl
theorem DL:T[mz]?=some vt:=rfl
theorem zc:T[hU]?=some rh:=rfl
theorem PH:T[I9]?=some AO:=rfl
abbrev fg:S:=[83,99,111,112,101]
abbrev fF:S:=[115,104,101,108,102]
abbrev b9:S:=[102,114,101,101]
abbrev cD:S:=[110,101,101,100,115]
abbrev fC:S:=[98,111,117,110,100]
abbrev bu:S:=[110,97,109,101]
abbrev iA:S:=[102,117,110]
abbrev mT:S:=[118,97,114]
abbrev lK:S:=[121,101,115]
abbrev C9:S:=[110,111]
abbrev sX:S:=[105,102]
abbrev wq:S:=[99,97,108,108]
abbrev jN:S:=[116,111,108,100]
abbrev Cx:=List (S×Kd)
def bd(b:S×Kd):W:=.tup [.str b.1,b.2.ae]
abbrev qC:S:=[83,104,101,108,102]
noncomputable abbrev BV:S:=[100,101,102,105,110,105,116,105,111,110,115]
abbrev Bx:S:=[110,117,109,98,101,114,115]
noncomputable abbrev km:S:=[68,101,102,105,110,105,116,105,111,110]
abbrev gO:S:=[107,105,110,100]
abbrev wt:S:=[99,111,114,101]
noncomputable abbrev yF:S:=[119,104,111,108,101,95,107,105,110,100]
structure Fx where
 fs:List S
 ns:List S
 told:List S
 z:Option (Nat×S)
def b8(i:Int):List S->List (W×W)
 |[]=>[]
 |x::r=>(.str x,.int i)::b8 (i+1) r
def CD(h:Hp)(r:Nat)(one:S):Prop:=
 ∃f e co wk,h[r]?=some (.ins km [(b9,.ref f),(cD,.ref e),(gO,(Kd.work (.any one) (.any one)).ae),(wt,co),(yF,wk)])/\h[f]?=some (.lst [.str one])/\h[e]?=some (.lst [])
theorem CD.grow(a:CD h r one)(g:aw h h'):CD h' r one:=
 let ⟨f,e,co,wk,x1,x2,x3⟩:=a;⟨f,e,co,wk,g.keep _ _ x1,g.keep _ _ x2,g.keep _ _ x3⟩
structure b6(h:Hp)(a d n:Nat)(rs:List Nat)(told:List S)(z:Option (Nat×S)):Prop where
 o:h[a]?=some (.ins qC [(BV,.ref d),(Bx,.ref n)])
 l:h[d]?=some (.lst (rs.map W.ref))
 m:h[n]?=some (.aj (b8 0 told))
 e:rs.length=told.length
 z:∀i one,z=some (i,one)->∃r,rs[i]?=some r/\CD h r one
theorem b6.grow{h h':Hp}{a d n:Nat}{rs:List Nat}{told:List S}{z:Option (Nat×S)}(s:b6 h a d n rs told z)(g:aw h h'):b6 h' a d n rs told z:=
 ⟨g.keep _ _ s.o,g.keep _ _ s.l,g.keep _ _ s.m,s.e,fun i one e=>let ⟨r,x,y⟩:=s.z i one e;⟨r,x,y.grow g⟩⟩
structure dH(h:Hp)(q:Nat)(sh:W)(fr nd:Nat)(fs:Fx)(Γ:Cx):Prop where
 o:h[q]?=some (.ins fg [(fF,sh),(b9,.ref fr),(cD,.ref nd),(fC,.tup (Γ.map bd))])
 f:h[fr]?=some (.lst (fs.fs.map W.str))
 n:h[nd]?=some (.lst (fs.ns.map W.str))
 d:∃a d n rs,sh=.ref a/\b6 h a d n rs fs.told fs.z
theorem dH.grow(s:dH h q sh fr nd fs Γ)(g:aw h h'):dH h' q sh fr nd fs Γ:=
 ⟨g.keep _ _ s.o,g.keep _ _ s.f,g.keep _ _ s.n,let ⟨a,d,n,rs,x,y⟩:=s.d;⟨a,d,n,rs,x,y.grow g⟩⟩
theorem aE(e:T[f]?=some fn)(k:Nat)(xs:List W)(h:Hp):run T (k+1) f xs h=bY (run T k) fn xs h:=run_eq e k xs h
theorem ou(k:Nat)(h:Hp)(sh a b c:W):run T (k+1) gg [.ref h.length,sh,a,b,c] (h++[.ins fg []])=.ok .aq (h++[.ins fg [(fF,sh),(b9,a),(cD,b),(fC,c)]]):=by rw[aE wO];unfold bY kX;simp[fX]
theorem xa(k:Nat)(s:dH h q sh fr nd fs Γ)(x:S)(a:Kd)(hl:Γ.length+1<=SZ):
  run T (k+2) lC [.ref q,.str x,a.ae] h=.ok (.ref h.length) (h++[.ins fg [(fF,sh),(b9,.ref fr),(cD,.ref nd),(fC,.tup (((x,a)::Γ).map bd))]]):=by
 rw[aE wW];unfold bY kP;have hl':1+Γ.length<=SZ:=by omega
 have i:=ou k h sh (.ref fr) (.ref nd) (.tup (((x,a)::Γ).map bd));simp only[aX,bd] at i;simp[s.o,hl',i,List.lookup,bd]
theorem dH.bind(s:dH h q sh fr nd fs Γ)(x:S)(a:Kd):dH (h++[.ins fg [(fF,sh),(b9,.ref fr),(cD,.ref nd),(fC,.tup (((x,a)::Γ).map bd))]]) h.length sh fr nd fs ((x,a)::Γ):=
 ⟨by simp,aK _ s.f,aK _ s.n,(s.grow (aw.app _ _)).d⟩
theorem rR(elt:Env->Hp->R W)(σ:Env)(hk:∀(x:S)(a:Kd)(h:Hp),elt (σ++[some (.str x),some a.ae]) h=.ok (.str x) h):∀(Γ:Cx)(acc:List W)(h:Hp),ig (fE elt σ) (Γ.map bd) acc h=.ok (acc++Γ.map fun b=>W.str b.1) h
 |[],acc,h=>by simp
 |b::Γ,acc,h=>by
  have ih:=rR elt σ hk Γ (acc++[W.str b.1]) h;have e:fE elt σ (bd b) acc h=.ok (acc++[W.str b.1]) h:=by simp[bd,fE,hk]
  simp only[aX,ig,e,R.ak,ih];simp
theorem zK(k:Nat)(s:dH h q sh fr nd fs Γ)(x:S)(hl:Γ.length<=SZ):
  run T (k+1) fB [.ref q,.str x] h=.ok (.bl (decide (x∈Γ.map (·.1)))) (h++[.lst ((Γ.map (·.1)).map W.str)]):=by
 rw[aE rM];unfold bY iC;have w:=rR (ag (run T k) fQ) [some (.ref q),some (.str x)] (fun y a h=>by simp[fQ]) Γ [] h;have i:=gv (h:=h++[.lst ((Γ.map (·.1)).map W.str)]) (q:=h.length) (l:=Γ.map (·.1)) (by simp) x;simp only[uF,yf] at i;simp[s.o,List.lookup,iL,w,eD,hl,i,yf]
def o7(x:S):Cx->Option (Nat×Kd)
 |[]=>none
 |(y,a)::Γ=>if y=x then some (0,a) else (o7 x Γ).map fun r=>(r.1+1,r.2)
theorem pX:∀{Γ:Cx}{n:Nat},o7 x Γ=some (n,a)->hV (.str x) (Γ.map fun b=>W.str b.1)=some n/\Γ[n]?=some (x,a)/\x∈Γ.map (·.1)
 |[],n,e=>by simp[o7] at e
 |(y,b)::Γ,n,e=>by
  unfold o7 at e;by_cases c:y=x
  .subst c;simp at e;obtain⟨rfl,rfl⟩:=e;simp[hV]
  .rw[if_neg c] at e;cases g:o7 x Γ with
   |none=>rw[g] at e;simp at e
   |some r=>
    rw[g] at e;simp at e;obtain⟨rfl,rfl⟩:=e;obtain⟨h1,h2,h3⟩:=pX (Γ:=Γ) (n:=r.1) g;have c':¬ x=y:=fun z=>c z.symm;refine⟨by simp[hV,c,h1],by simpa using h2,?_⟩;rw[aX];exact fK _ h3
theorem Az:∀Γ:Cx,(Γ.map fun b=>W.str b.1).all isKey=true
 |[]=>rfl
 |b::Γ=>by simp[isKey,Az Γ]
theorem J0(k:Nat)(s:dH h q sh fr nd fs Γ)(e:o7 x Γ=some (n,a))(hl:Γ.length<=SZ):
  run T (k+1) gJ [.ref q,.str x] h=.ok (.tup [.tup [.str mT,.int n],a.ae]) (h++[.lst ((Γ.map (·.1)).map W.str)]):=by
 obtain⟨h1,h2,h3⟩:=pX e;rw[aE uH];unfold bY ju;have w:=rR (ag (run T k) hJ) [some (.ref q),some (.str x),none] (fun y a h=>by simp[hJ]) Γ [] h;have o:=aK [O.lst ((Γ.map (·.1)).map W.str)] s.o;simp only[uF,yf] at o;have hn:n<Γ.length:=(eK.mp h2).1;have at1:cH (Γ.map bd) (n:Int)=some (bd (x,a)):=by rw[iI _ n (by simpa using hn)];have:=(eK.mp h2).2;simp[this]
 have m:method .index (.ref h.length) [.str x] (h++[O.lst (Γ.map fun b=>W.str b.1)])=.ok (.int n) (h++[O.lst (Γ.map fun b=>W.str b.1)]):=by
  have c:(isKey (.str x)&&(Γ.map fun b=>W.str b.1).all isKey)=true:=by rw[Az];rfl
  unfold method;simp only[aU,c,fZ,h1];rfl
 simp[-method,s.o,List.lookup,iL,w,eD,hl,yf,m,o,at1,bd]
def Goes(fs:Fx)(Γ:Cx)(n:Nat)(f:W)(kd:Kd)(c:W):Prop:=
 ∀k,n<=k->∀(pl:List W)(q:Nat)(sh:W)(fr nd:Nat)(h:Hp),pl.length+n<=SZ->Γ.length+n<=SZ->dH h q sh fr nd fs Γ->∃h',run T k cE [f,kd.ae,.tup pl,.ref q] h=.ok c h'/\aw h h'
def Comes(fs:Fx)(Γ:Cx)(n:Nat)(f:W)(kd:Kd)(c:W):Prop:=
 ∀k,n<=k->∀(pl:List W)(q:Nat)(sh:W)(fr nd:Nat)(h:Hp),pl.length+n<=SZ->Γ.length+n<=SZ->dH h q sh fr nd fs Γ->∃h',run T k iJ [f,.tup pl,.ref q] h=.ok (.tup [c,kd.ae]) h'/\aw h h'
section
variable {fs:Fx}{Γ:Cx}
theorem Goes.mono(g:Goes fs Γ n f kd c)(l:n<=m):Goes fs Γ m f kd c:=
 fun k hk pl q sh fr nd h hp hg s=>g k (by omega) pl q sh fr nd h (by omega) (by omega) s
noncomputable abbrev IS:List (S×Nat):=[([121,101,115],fu),([110,111],fu),([110,97,109,101],fJ),([99,97,108,108],fJ),([116,111,108,100],ml),([108,105,107,101],jY)]
theorem up_eq(k:Nat)(e:IS.lookup t=some g)(r:List W)(a b:W)(h:Hp):run T (k+1) iJ [.tup (.str t::r),a,b] h=run T k g [.tup (.str t::r),a,b] h:=by rw[aE ET];unfold bY pO;have e':pick IS (.str t)=some g:=e;simp[-pick,e'];cases run T k g [W.tup (W.str t::r),a,b] h<;>simp
noncomputable abbrev kK:List S:=[[110,97,109,101],[102,117,110],[99,97,108,108],[98,111,116,104],[114,111,119,111,102],[97,104,101,97,100],[105,102],[108,101,116]]
noncomputable abbrev HL:List (S×Nat):=[([110,97,109,101],dB),([102,117,110],jg),([99,97,108,108],dB),([105,102],mh)]
theorem down_eq(k:Nat)(e:HL.lookup t=some g)(m:t∈kK)(r:List W)(a b d:W)(h:Hp):run T (k+1) cE [.tup (.str t::r),a,b,d] h=run T k g [.tup (.str t::r),a,b,d] h:=by rw[aE vz];unfold bY mD;have e':pick HL (.str t)=some g:=e;have m':kK.contains t=true:=uB.mpr m;simp only[dX,lO,fZ,bH,cP,iM,qD,uk,uN,aW,fH,wR,bW,cL,aX,eM,pf,jw,List.replicate,c6,fM,R.ak,idx,HF,R.bK,e',m',truth];cases run T k g [W.tup (W.str t::r),a,b,d] h<;>simp
theorem uW(k:Nat)(m:t∉kK)(r:List W)(a b d:W)(h:Hp):run T (k+1) cE [.tup (.str t::r),a,b,d] h=run T k il [.tup (.str t::r),a,b,d] h:=by
 rw[aE vz];unfold bY mD;have m':kK.contains t=false:=by
  cases z:kK.contains t with
  |false=>rfl
  |true=>exact absurd (uB.mp z) m
 simp only[dX,lO,fZ,bH,cP,iM,qD,uk,uN,aW,fH,jB,bW,cL,aX,eM,pf,jw,List.replicate,c6,fM,R.ak,idx,HF,R.bK,m',truth];cases run T k il [W.tup (W.str t::r),a,b,d] h<;>simp
theorem NX(s1:σ[1]?=some (some (.tup (.str x::r))))(e:(!decide (x=y))=b):ag C (.cmp .ne (.idx (.var 1) (.cst (.int 0))) (.cst (.str y))) σ h=.ok (.bl b) h:=by subst e;simp[s1]
theorem vJ:Comes fs Γ 2 (.tup [.str lK]) .tru (.tup [.str lK]):=by intro k hk pl q sh fr nd h hp hg s;obtain⟨j,rfl⟩:∃j,k=j+2:=⟨k-2,by omega⟩;refine⟨h,?_,aw.refl h⟩;rw[up_eq (j+1) (g:=fu) rfl,aE sL];unfold bY kx;simp[Kd.ae]
theorem Gr:Comes fs Γ 2 (.tup [.str C9]) .tru (.tup [.str C9]):=by intro k hk pl q sh fr nd h hp hg s;obtain⟨j,rfl⟩:∃j,k=j+2:=⟨k-2,by omega⟩;refine⟨h,?_,aw.refl h⟩;rw[up_eq (j+1) (g:=fu) rfl,aE sL];unfold bY kx;simp[Kd.ae]
theorem qz(h:Hp)(a:Kd)(ha:a.depth<=50):bX h a.ae a.ae=some true:=fo h (gf a) (by have:=gr a;omega)
theorem tu(m:t∉kK)(hd:kd.depth<=50)(g:Comes fs Γ n (.tup (.str t::r)) kd c):Goes fs Γ (n+2) (.tup (.str t::r)) kd c:=by intro k hk pl q sh fr nd h hp hg s;obtain⟨j,rfl⟩:∃j,k=j+2:=⟨k-2,by omega⟩;obtain⟨h',e,x⟩:=g j (by omega) pl q sh fr nd h (by omega) (by omega) s;refine⟨h',?_,x⟩;rw[uW (j+1) m,aE j6];have qq:=qz h' kd hd;exact bw [some (.tup (.str t::r)),some (kd.ae),some (.tup pl),some (.ref q),none,none] rfl rfl (nG (u:=c) (v:=kd.ae) (h':=h') (by simp[e]) (br (h':=h') (by simp[qq]) (aP (by simp))))
theorem Fg:Goes fs Γ 4 (.tup [.str lK]) .tru (.tup [.str lK]):=tu (by decide) (by decide) vJ
theorem Kn:Goes fs Γ 4 (.tup [.str C9]) .tru (.tup [.str C9]):=tu (by decide) (by decide) Gr
theorem GJ(h2:2<=n)(g:Goes fs ((x,a)::Γ) n f b c):Goes fs Γ (n+2) (.tup [.str iA,.str x,f]) (.work a b) (.tup [.str iA,a.ae,c]):=by
 intro k hk pl q sh fr nd h hp hg s;obtain⟨j,rfl⟩:∃j,k=j+4:=⟨k-4,by omega⟩;have b1:=xa j s x a (by omega);obtain⟨h',e,y⟩:=g (j+2) (by omega) (pl++[.int 0]) h.length sh fr nd _ (by simp;omega) (by simp;omega) (s.bind x a);refine⟨h',?_,(aw.app h _).trans y⟩;have hp':pl.length+1<=SZ:=by omega
 simp only[aX] at e b1;rw[down_eq (j+3) (g:=jg) rfl (by decide),aE tS];have so:=s.o;exact bw [some (.tup [.str iA,.str x,f]),some ((Kd.work a b).ae),some (.tup pl),some (.ref q),none] rfl rfl (br (NX (x:=bo) rfl rfl) (ax (w:=c) (h':=h') (by simp[Kd.ae,so,List.lookup,b1,e,hp']) (aP (by simp[Kd.ae]))))
theorem F8(c:Env->Hp->R W)(b:Env->Hp->R Fl)(n:Nat)(σ:Env)(h:Hp):lT c b (n+1) σ h=((c σ h).bind fun x h=>match truth h x with
  |some true=>(b σ h).bind fun f h=>match f with
   |.next σ=>lT c b n σ h
   |.cont σ=>lT c b n σ h
   |.brk σ=>.ok (.next σ) h
   |.ret w=>.ok (.ret w) h
  |some false=>.ok (.next σ) h
  |none=>.bad):=by rw[lT]<;>rfl
theorem IV{c:Env->Hp->R W}{b:Env->Hp->R Fl}(hn:0<n)(e:c σ h=.ok (.bl false) h'):lT c b n σ h=.ok (.next σ) h':=by obtain⟨m,rfl⟩:∃m,n=m+1:=⟨n-1,by omega⟩;rw[F8,e];simp
theorem kB{k:Env->Hp->R Fl}(e:h[a]?=some (.lst [])):bO a t k 0 0 σ h=.ok (.next σ) h:=by rw[bO];simp[bg,e]
theorem M3(k:Nat)(s:dH h q sh fr nd fs Γ)(x:S)(hl:Γ.length<=SZ):
  ∃h',run T (k+1) fB [.ref q,.str x] h=.ok (.bl (decide (x∈Γ.map (·.1)))) h'/\aw h h':=⟨_,zK k s x hl,aw.app _ _⟩
theorem Ol(k:Nat)(s:dH h q sh fr nd fs Γ)(e:o7 x Γ=some (n,a))(hl:Γ.length<=SZ):
  ∃h',run T (k+1) gJ [.ref q,.str x] h=.ok (.tup [.tup [.str mT,.int n],a.ae]) h'/\aw h h':=⟨_,J0 k s e hl,aw.app _ _⟩
theorem tf(j:Nat)(e:o7 x Γ=some (n,a))(told:W)(pl:List W)(hg:Γ.length<=SZ)(s:dH h q sh fr nd fs Γ):
  ∃h',run T (j+2) lB [.tup [.str bu,.str x],told,.tup pl,.ref q] h=.ok (.tup [.tup [.str mT,.int n],a.ae]) h'/\aw h h':=by
 obtain⟨_,_,m⟩:=pX e;have s1:dH (h++[O.lst []]) q sh fr nd fs Γ:=s.grow (aw.app h _);obtain⟨h2,i1,g2⟩:=M3 j s1 x hg;have s2:=s1.grow g2;obtain⟨h3,v1,g3⟩:=Ol j s2 e hg;have l3:h3[h.length]?=some (.lst []):=g3.keep _ _ (g2.keep _ _ (aU h _));have w:run T (j+1) j5 [.tup [.str mT,.int n],a.ae,.ref h.length,.ref q] h3=.ok (.tup [.tup [.str mT,.int n],a.ae]) h3:=by rw[aE vW];unfold bY jZ;simp[bz,l3,kB l3]
 refine⟨h3,?_,(aw.app h _).trans (g2.trans g3)⟩;rw[aE yc];have wh:=IV (n:=FU) (c:=ag (run T (j+1)) hZ) (b:=aH (run T (j+1)) mM) (σ:=[some (.tup [.str bu,.str x]),some told,some (.tup pl),some (.ref q),some (.ref h.length),some (.tup [.str bu,.str x]),some (.tup pl),none,none]) (h:=h++[O.lst []]) (h':=h++[O.lst []]) (by decide) (by simp[hZ]);have mm:decide (x∈Γ.map (·.1))=true:=by simpa using m
 rw[mm] at i1;have so1:=s1.o;have so2:=s2.o;exact bw [some (.tup [.str bu,.str x]),some told,some (.tup pl),some (.ref q),none,none,none,none,none] rfl rfl (ax (w:=.ref h.length) (h':=h++[O.lst []]) (by simp) (ax (w:=.tup [.str bu,.str x]) (h':=h++[O.lst []]) (by simp) (ax (w:=.tup pl) (h':=h++[O.lst []]) (by simp) (aC (by rw[zW];exact wh) (aC (σ':=[some (.tup [.str bu,.str x]),some told,some (.tup pl),some (.ref q),some (.ref h.length),some (.tup [.str bu,.str x]),some (.tup pl),none,none]) (h':=h++[O.lst []]) (by simp) (aC (σ':=[some (.tup [.str bu,.str x]),some told,some (.tup pl),some (.ref q),some (.ref h.length),some (.tup [.str bu,.str x]),some (.tup pl),some (.tup [.str mT,.int n]),some a.ae]) (h':=h3) (by simp[so1,i1,so2,v1,List.lookup]) (aP (by simp[w]))))))))
theorem uZ(hd:a.depth<=50)(e:o7 x Γ=some (n,a)):Goes fs Γ 4 (.tup [.str bu,.str x]) a (.tup [.str mT,.int n]):=by intro k hk pl q sh fr nd h hp hg s;obtain⟨j,rfl⟩:∃j,k=j+4:=⟨k-4,by omega⟩;obtain⟨h',c,y⟩:=tf j e a.ae pl (by omega) s;refine⟨h',?_,y⟩;rw[down_eq (j+3) (g:=dB) rfl (by decide),aE o8];have qq:=qz h' a hd;exact bw [some (.tup [.str bu,.str x]),some (a.ae),some (.tup pl),some (.ref q),none,none] rfl rfl (nG (u:=.tup [.str mT,.int n]) (v:=a.ae) (h':=h') (by simp[c]) (br (h':=h') (by simp[qq]) (aP (by simp))))
theorem Bi(e:o7 x Γ=some (n,a)):Comes fs Γ 4 (.tup [.str bu,.str x]) a (.tup [.str mT,.int n]):=by intro k hk pl q sh fr nd h hp hg s;obtain⟨j,rfl⟩:∃j,k=j+4:=⟨k-4,by omega⟩;obtain⟨h',c,y⟩:=tf j e .aq pl (by omega) s;refine⟨h',?_,y⟩;rw[up_eq (j+3) (g:=fJ) rfl,aE zd];unfold bY mW;simp[c]
end
end K11
namespace Tw
section
variable {C:Or}{σ:Env}{h h':Hp}{s:St}{r b:List St}{c:E}{i a:Nat}{l:List St}
theorem JA(e:ag C c σ h=.au a h'):aH C (.ret c::r) σ h=.au a h':=by rw[bH,qD,e];rfl
theorem nu(e:ag C c σ h=.ok (.bl true) h1)(k:aH C l σ h1=.au a h'):aH C (.iff c l b::r) σ h=.au a h':=by rw[bH,iM,e];show (aH C l σ h1).bind _=_;rw[k];rfl
theorem iw(e:cw C es σ h=.ok ws h')(l:ws.length=xs.length):aH C (.raise x xs es::r) σ h=.au h'.length (h'++[.au x (xs.zip ws)]):=by rw[bH,CP,e];simp[jr,l]
theorem k9(e:dD C s σ h=.au a h'):aH C (s::r) σ h=.au a h':=by rw[bH,e];rfl
theorem uw(e:ag C c σ h=.au a h'):aH C (.set i c::r) σ h=.au a h':=by rw[bH,zq,e];rfl
theorem wB(e:ag C c σ h=.au a h'):aH C (.kO i j c::r) σ h=.au a h':=by rw[bH,rF,e];rfl
theorem eR(σ:Env)(l:xs.length=f.ps)(eσ:xs.map some++List.replicate (f.ns-f.ps) none=σ)(e:aH C f.body σ h=.au a h'):bY C f xs h=.au a h':=by unfold bY;rw[if_pos l,eσ,e];rfl
end
end Tw
namespace K11
open Tw
abbrev eV:S:=[108,105,107,101]
abbrev TR:S:=[100,101,102]
abbrev cm:S:=[112,108,97,99,101]
abbrev jv:S:=[85,110,98,111,117,110,100]
abbrev Ii:S:=[84,111,108,100]
abbrev fe:S:=[76,111,111,115,101]
abbrev yq:S:=[85,110,109,101,116]
abbrev kH:S:=[78,111,82,117,108,101]
theorem uc:∀(l:List S)(k:Int),x∉l->c9 (.str x) (b8 k l)=none
 |[],k,_=>rfl
 |y::l,k,n=>by
  have n1:¬ y=x:=fun z=>n (by simp[z]);simp only[b8,c9,dM,n1,qN,x9,i7];exact uc l (k+1) fun z=>n (fK _ z)
theorem D7:∀(l:List S)(k:Int)(i:Nat),l[i]?=some x->x∉l.take i->c9 (.str x) (b8 k l)=some (.int (k+i))
 |[],k,i,e,_=>by simp at e
 |y::l,k,0,e,_=>by simp at e;subst e;simp[b8]
 |y::l,k,i+1,e,n=>by
  simp only[List.take_succ_cons,cQ,not_or] at n;have n1:¬ y=x:=fun z=>n.1 z.symm;simp only[b8,c9,dM,n1,qN,x9,i7];rw[D7 l (k+1) i (by simpa using e) n.2]
  congr 2;push_cast;omega
theorem AE:∀(l:List S)(k:Int),x∉l->dput (.str x) (.int (k+l.length)) (b8 k l)=b8 k (l++[x])
 |[],k,_=>by simp[b8]
 |y::l,k,n=>by
  have n1:¬ y=x:=fun z=>n (by simp[z]);have ih:=AE l (k+1) fun z=>n (fK _ z);simp only[pf,b8,dput,dM,n1,qN,x9,i7];rw[<-ih];congr 2;simp only[dX];push_cast;congr 1;omega
theorem AG:∀(l:List S)(k:Int),(b8 k l).length=l.length
 |[],_=>rfl
 |x::l,k=>by simp[b8,AG l]
theorem NV(k:Nat)(w:W)(h:Hp):run T (k+1) iS [w] h=.ok (.tup [.str bo,w,.tup [.str bo,w,.tup [.str c8]]]) h:=by rw[aE t6];exact bw [some w] rfl rfl (aP (by simp))
abbrev dW(f e:Nat)(kw co wk:W):O:=.ins km [(b9,.ref f),(cD,.ref e),(gO,kw),(wt,co),(yF,wk)]
theorem yE(k:Nat){r f e:Nat}{kw a1 a2 a3 a4:W}{ns:List S}(ne:e≠r):∀(n:Nat)(co wk:W)(o5 o6:Option W)(h:Hp),n<=ns.length->h[e]?=some (.lst (ns.map W.str))->h[r]?=some (dW f e kw co wk)->
  ∃co' wk' o5' o6' h',eS e (.var 5) (aH (run T (k+1)) ft) n [some (.ref r),some a1,some a2,some a3,some a4,o5,o6] h=.ok (.next [some (.ref r),some a1,some a2,some a3,some a4,o5',o6']) h'/\h'[r]?=some (dW f e kw co' wk')/\Ext r h h'/\(n=0->h'=h)
 |0,co,wk,o5,o6,h,_,_,er=>⟨co,wk,o5,o6,h,by simp[eS],er,Ext.refl r h,fun _=>rfl⟩
 |n+1,co,wk,o5,o6,h,l,en,er=>by
  have hn:n<ns.length:=by omega
  obtain⟨z,hz⟩:∃z,ns[n]?=some z:=⟨ns[n],mL hn⟩;have lk:=NV k (.tup [.str bM,.str z]) h;have g1:=cu (o:=dW f e kw (.tup [.str iA,.tup [.str bo,.tup [.str bM,.str z],.tup [.str bo,.tup [.str bM,.str z],.tup [.str c8]]],co]) wk) er;have g2:=cu (o:=dW f e kw (.tup [.str iA,.tup [.str bo,.tup [.str bM,.str z],.tup [.str bo,.tup [.str bM,.str z],.tup [.str c8]]],co]) (.tup [.str bo,.tup [.str bo,.tup [.str bM,.str z],.tup [.str bo,.tup [.str bM,.str z],.tup [.str c8]]],wk])) g1;obtain⟨co',wk',o5',o6',h',t,q1,q2,_⟩:=yE k ne n _ _ (some (.str z)) (some (.tup [.str bo,.tup [.str bM,.str z],.tup [.str bo,.tup [.str bM,.str z],.tup [.str c8]]])) _ (by omega) (bV (bc ne) (bV (bc ne) en)) g2;refine⟨co',wk',o5',o6',h',?_,q1,((Ext.set r h _).trans (Ext.set r _ _)).trans q2,fun Z=>by cases Z⟩;have bdy:aH (run T (k+1)) ft [some (.ref r),some a1,some a2,some a3,some a4,some (.str z),o6] h=.ok (.next [some (.ref r),some a1,some a2,some a3,some a4,some (.str z),some (.tup [.str bo,.tup [.str bM,.str z],.tup [.str bo,.tup [.str bM,.str z],.tup [.str c8]]])]) _:=
   ax (w:=.tup [.str bo,.tup [.str bM,.str z],.tup [.str bo,.tup [.str bM,.str z],.tup [.str c8]]]) (h':=h) (by simp[lk]) (aC (σ':=[some (.ref r),some a1,some a2,some a3,some a4,some (.str z),some (.tup [.str bo,.tup [.str bM,.str z],.tup [.str bo,.tup [.str bM,.str z],.tup [.str c8]]])]) (h':=h.set r (dW f e kw (.tup [.str iA,.tup [.str bo,.tup [.str bM,.str z],.tup [.str bo,.tup [.str bM,.str z],.tup [.str c8]]],co]) wk)) (by simp[er,List.lookup,fX]) (aC (σ':=[some (.ref r),some a1,some a2,some a3,some a4,some (.str z),some (.tup [.str bo,.tup [.str bM,.str z],.tup [.str bo,.tup [.str bM,.str z],.tup [.str c8]]])]) (h':=(h.set r (dW f e kw (.tup [.str iA,.tup [.str bo,.tup [.str bM,.str z],.tup [.str bo,.tup [.str bM,.str z],.tup [.str c8]]],co]) wk)).set r (dW f e kw (.tup [.str iA,.tup [.str bo,.tup [.str bM,.str z],.tup [.str bo,.tup [.str bM,.str z],.tup [.str c8]]],co]) (.tup [.str bo,.tup [.str bo,.tup [.str bM,.str z],.tup [.str bo,.tup [.str bM,.str z],.tup [.str c8]]],wk]))) (by simp[g1,List.lookup,fX, -List.set_set]) (cP _ _ _)))
  rw[eS];simp only[bg,en,oy,hz,Option.map_some,turn,iu,g9,gY,bdy,R.ak];exact t
theorem NM(k:Nat){fr nd:Nat}{fs ns:List S}{h:Hp}(ef:h[fr]?=some (.lst (fs.map W.str)))(en:h[nd]?=some (.lst (ns.map W.str)))(kw c:W):
  ∃co wk h',run T (k+2) gZ [.ref h.length,.ref fr,.ref nd,kw,c] (h++[.ins km []])=.ok .aq h'/\h'[h.length]?=some (dW (h.length+1) (h.length+2) kw co wk)/\h'[h.length+1]?=some (.lst (fs.map W.str))/\h'[h.length+2]?=some (.lst (ns.map W.str))/\aw h h':=by
 have e1:=aK [O.ins km []] ef;have e2:=aK [O.ins km [(b9,.ref (h.length+1))],O.lst (fs.map W.str)] en;generalize hF:fs.map W.str=F at *;have r0:(h++[dW (h.length+1) (h.length+2) kw c kw,.lst F,.lst (ns.map W.str)])[h.length]?=some (dW (h.length+1) (h.length+2) kw c kw):=by simp
 have r1:(h++[dW (h.length+1) (h.length+2) kw c kw,.lst F,.lst (ns.map W.str)])[h.length+1]?=some (.lst F):=by simp
 have r2:(h++[dW (h.length+1) (h.length+2) kw c kw,.lst F,.lst (ns.map W.str)])[h.length+2]?=some (.lst (ns.map W.str)):=by simp
 obtain⟨co,wk,o5,o6,h',t,q1,q2,_⟩:=yE k (r:=h.length) (f:=h.length+1) (e:=h.length+2) (a1:=.ref fr) (a2:=.ref nd) (a3:=kw) (a4:=c) (ns:=ns) (by omega) ns.length c kw none none _ (aG _) r2 r0;refine⟨co,wk,h',?_,q1,q2.keep _ _ r1 (by omega),q2.keep _ _ r2 (by omega),⟨by have:=q2.len;simp at this;omega,fun p o e=>q2.keep _ _ (aK _ e) (fun z=>absurd (dR e) (by omega))⟩⟩;have ln:(ns.map W.str).length=ns.length:=by simp
 rw[aE qW];generalize ns.map W.str=N at *;refine k6 (σ':=[some (.ref h.length),some (.ref fr),some (.ref nd),some kw,some c,o5,o6]) [some (.ref h.length),some (.ref fr),some (.ref nd),some kw,some c,none,none] rfl rfl (aC (σ':=[some (.ref h.length),some (.ref fr),some (.ref nd),some kw,some c,none,none]) (h':=h++[O.ins km [(b9,.ref (h.length+1))],O.lst F]) (by simp[e1,fX]) (aC (σ':=[some (.ref h.length),some (.ref fr),some (.ref nd),some kw,some c,none,none]) (h':=h++[O.ins km [(b9,.ref (h.length+1)),(cD,.ref (h.length+2))],O.lst F,O.lst N]) (by simp[e2,fX]) (aC (σ':=[some (.ref h.length),some (.ref fr),some (.ref nd),some kw,some c,none,none]) (h':=h++[O.ins km [(b9,.ref (h.length+1)),(cD,.ref (h.length+2)),(gO,kw)],O.lst F,O.lst N]) (by simp[fX]) (aC (σ':=[some (.ref h.length),some (.ref fr),some (.ref nd),some kw,some c,none,none]) (h':=h++[O.ins km [(b9,.ref (h.length+1)),(cD,.ref (h.length+2)),(gO,kw),(wt,c)],O.lst F,O.lst N]) (by simp[fX]) (aC (σ':=[some (.ref h.length),some (.ref fr),some (.ref nd),some kw,some c,none,none]) (h':=h++[dW (h.length+1) (h.length+2) kw c kw,O.lst F,O.lst N]) (by simp[fX]) (aC (σ':=[some (.ref h.length),some (.ref fr),some (.ref nd),some kw,some c,o5,o6]) (h':=h') ?_ (cP _ _ _)))))));rw[bz];have lk:List.lookup cD [(b9,W.ref (h.length+1)),(cD,.ref (h.length+2)),(gO,kw),(wt,c),(yF,kw)]=some (.ref (h.length+2)):=rfl;simp only[yg,nD,aW,c6,R.ak,field,r0,dW,lk,R.bK,r2,turns,ln];exact t
theorem kD(C:Or){a b v:Nat}{xs ys:List S}{h:Hp}{B:List St}{u:Nat}(ea:h[a]?=some (.lst (xs.map W.str)))(eb:h[b]?=some (.lst (ys.map W.str)))(sub:∀x∈xs,x∈ys)(σ:Env)(hv:v<σ.length)(hu:u≠v)(su:σ[u]?=some (some (.ref b))):
  ∃o,bO a (.var v) (aH C [.iff (.cmp .notin (.var v) (.var u)) B []]) xs.length 0 σ h=.ok (.next (σ.set v o)) h:=by
 obtain⟨σ',h',t,o,p1,p2⟩:=Bc (xs:=xs.map W.str) (a:=a) (t:=.var v) (k:=aH C [.iff (.cmp .notin (.var v) (.var u)) B []]) (fun _ σ' h'=>∃o,σ'=σ.set v o/\h'=h) (fun i σ h' ⟨_,_,z⟩=>by subst z;simp[bg,ea])
  (fun i σ' h' x ⟨o,z1,z2⟩ ex=>by
   subst z1;subst z2;obtain⟨y,hy,rfl⟩:=pP.mp (xS ex);refine⟨_,rfl,σ.set v (some (.str y)),h',?_,_,rfl,rfl⟩;have i:=gv eb y;have a1:((σ.set v o).set v (some (W.str y)))=σ.set v (some (.str y)):=yG ..;have a2:(σ.set v (some (W.str y)))[v]?=some (some (.str y)):=jC hv;have a3:(σ.set v (some (W.str y)))[u]?=some (some (.ref b)):=by rw[iE (bc hu)];exact su
   simp only[a1];exact br (h':=h') (by simp[a2,a3,i,sub y hy]) (cP _ _ _)) xs.length 0 σ h (by simp) ⟨σ[v],by simp,rfl⟩
 subst p1;subst p2;exact⟨o,t⟩
theorem t9(k:Nat){fr nd:Nat}{fs ns:List S}{h:Hp}{kd:Kd}(ef:h[fr]?=some (.lst (fs.map W.str)))(en:h[nd]?=some (.lst (ns.map W.str)))(hk:kd.depth+3<=k)(hd:2 ^ kd.depth<=SZ)(s1:∀x∈kd.put [],x∈fs)(s2:∀x∈fs,x∈kd.put [])(s3:∀x∈ns,x∈fs):
  ∃h',run T (k+1) cz [.ref fr,.ref nd,kd.ae] h=.ok .aq h'/\aw h h':=by
 have nm:=kW (T:=T) (pt:=dS) (pn:=dN) (self:=eQ) rfl rfl rfl kd k h hk hd;have l1:(h++[.aj (dE (kd.put [])),.lst ((kd.put []).map W.str)])[h.length+1]?=some (.lst ((kd.put []).map W.str)):=by simp
 have f1:=aK [O.aj (dE (kd.put [])),O.lst ((kd.put []).map W.str)] ef;have n1:=aK [O.aj (dE (kd.put [])),O.lst ((kd.put []).map W.str)] en;obtain⟨o1,t1⟩:=kD (run T k) (v:=4) (u:=0) (B:=[.raise jv [cm,bu] (.cons (.tup .nil) (.cons (.var 4) .nil))]) l1 f1 s1 [some (.ref fr),some (.ref nd),some kd.ae,some (.ref (h.length+1)),none,none] (by simp) (by decide) rfl;obtain⟨o2,t2⟩:=kD (run T k) (v:=4) (u:=3) (B:=[.raise fe [] .nil]) f1 l1 s2 [some (.ref fr),some (.ref nd),some kd.ae,some (.ref (h.length+1)),o1,none] (by simp) (by decide) rfl;obtain⟨o3,t3⟩:=kD (run T k) (v:=5) (u:=0) (B:=[.raise fe [] .nil]) n1 f1 s3 [some (.ref fr),some (.ref nd),some kd.ae,some (.ref (h.length+1)),o2,none] (by simp) (by decide) rfl;refine⟨h++[.aj (dE (kd.put [])),.lst ((kd.put []).map W.str)],?_,aw.app _ _⟩;rw[aE gN];have lI:((kd.put []).map W.str).length=(kd.put []).length:=by simp
 have lF:(fs.map W.str).length=fs.length:=by simp
 have lN:(ns.map W.str).length=ns.length:=by simp
 refine k6 (σ':=[some (.ref fr),some (.ref nd),some kd.ae,some (.ref (h.length+1)),o2,o3]) [some (.ref fr),some (.ref nd),some kd.ae,none,none,none] rfl rfl (ax (w:=.ref (h.length+1)) (h':=h++[.aj (dE (kd.put [])),.lst ((kd.put []).map W.str)]) (by simp[nm]) (aC (σ':=[some (.ref fr),some (.ref nd),some kd.ae,some (.ref (h.length+1)),o1,none]) (h':=h++[.aj (dE (kd.put [])),.lst ((kd.put []).map W.str)]) ?_ (aC (σ':=[some (.ref fr),some (.ref nd),some kd.ae,some (.ref (h.length+1)),o2,none]) (h':=h++[.aj (dE (kd.put [])),.lst ((kd.put []).map W.str)]) ?_ (aC (σ':=[some (.ref fr),some (.ref nd),some kd.ae,some (.ref (h.length+1)),o2,o3]) (h':=h++[.aj (dE (kd.put [])),.lst ((kd.put []).map W.str)]) ?_ (cP _ _ _)))))
 .rw[bz];simp only[cM,aW,g9,gY,c6,fM,R.ak,src,l1,R.bK,turns,lI];exact t1
 .rw[bz];simp only[cM,aW,c6,R.ak,src,f1,R.bK,turns,lF];exact t2
 .rw[bz];simp only[cM,aW,c6,fM,R.ak,src,n1,R.bK,turns,lN];exact t3
structure xM(d n:Nat)(h h':Hp):Prop where
 len:h.length<=h'.length
 keep:∀(p:Nat)(o:O),h[p]?=some o->p≠d->p≠n->h'[p]?=some o
theorem Jk{k N:Nat}{h:Hp}{a d n fr nd:Nat}{rs:List Nat}{told fs ns:List S}{z:Option (Nat×S)}{kd:Kd}{name:S}{term c:W}(D:b6 h a d n rs told z)(nn:name∉told)(ef:h[fr]?=some (.lst (fs.map W.str)))(en:h[nd]?=some (.lst (ns.map W.str)))
  (nf:fr≠d) (ne:nd≠d) (hl:told.length+1<SZ) (hk:kd.depth+4<=k) (h3:3<=k) (hN:N<=k) (hN2:N<=SZ) (hd:2 ^ kd.depth<=SZ) (s1:∀x∈kd.put [],x∈fs) (s2:∀x∈fs,x∈kd.put []) (s3:∀x∈ns,x∈fs) (g:Goes ⟨fs,ns,told,z⟩ [] N term kd c):
  ∃r h',run T (k+1) bF [.ref a,.str name,.ref fr,.ref nd,kd.ae,term] h=.ok .aq h'/\b6 h' a d n (rs++[r]) (told++[name]) z/\xM d n h h'/\∃f e co wk,(h.length<=r/\h.length<=f/\h.length<=e)/\h'[r]?=some (dW f e kd.ae co wk)/\h'[f]?=some (.lst (fs.map W.str))/\h'[e]?=some (.lst (ns.map W.str)):=by
 obtain⟨k,rfl⟩:∃j,k=j+2:=⟨k-2,by omega⟩;have D0:=D.o;obtain⟨h1,r1,y1⟩:=t9 (k+1) ef en (by omega) hd s1 s2 s3;have DA:=D.grow y1;have D1:=DA.o;have i0:=ou (k+1) h1 (.ref a) (.ref fr) (.ref nd) (.tup []);have y2:aw h1 (h1++[O.ins fg [(fF,.ref a),(b9,.ref fr),(cD,.ref nd),(fC,.tup [])]]):=aw.app _ _;have sc:dH (h1++[O.ins fg [(fF,.ref a),(b9,.ref fr),(cD,.ref nd),(fC,.tup [])]]) h1.length (.ref a) fr nd ⟨fs,ns,told,z⟩ []:=⟨by simp,y2.keep _ _ (y1.keep _ _ ef),y2.keep _ _ (y1.keep _ _ en),a,d,n,rs,rfl,DA.grow y2⟩;obtain⟨h3,r3,y3⟩:=g (k+2) hN [] h1.length (.ref a) fr nd _ (by simpa using hN2) (by simpa using hN2) sc;have y13:aw h h3:=(y1.trans y2).trans y3;have D3:=D.grow y13;have o3:=D3.o;have l3:=D3.l;have m3:=D3.m;have na:a≠n:=fun Z=>by subst Z;rw[o3] at m3;cases m3
 have nad:a≠d:=fun Z=>by subst Z;rw[o3] at l3;cases l3
 have ndn:d≠n:=fun Z=>by subst Z;rw[l3] at m3;cases m3
 have nfn:fr≠n:=fun Z=>by have q:=y13.keep _ _ ef;rw[Z,m3] at q;cases q
 have nnn:nd≠n:=fun Z=>by have q:=y13.keep _ _ en;rw[Z,m3] at q;cases q
 have ap:=AE told 0 nn;rw[Int.zero_add] at ap;have e4:xM n n h3 (h3.set n (.aj (b8 0 (told++[name])))):=⟨by simp,fun p o e q _=>bV (bc q) e⟩;have o4:=bV (o:=O.aj (b8 0 (told++[name]))) na.symm o3;have l4:=bV (o:=O.aj (b8 0 (told++[name]))) ndn.symm l3;have m4:=cu (o:=O.aj (b8 0 (told++[name]))) m3;have f4:=bV (o:=O.aj (b8 0 (told++[name]))) nfn.symm (y13.keep _ _ ef);have n4:=bV (o:=O.aj (b8 0 (told++[name]))) nnn.symm (y13.keep _ _ en);obtain⟨co,wk,h5,r5,q5,qf,qe,y5⟩:=NM k f4 n4 kd.ae c;have l5:=y5.keep _ _ l4;have lenr:(rs.map W.ref).length<SZ:=by have:=D.e;simp;omega
 have E:xM d n h (h5.set d (.lst (rs.map W.ref++[.ref h3.length]))):=⟨by have:=y13.len;have:=y5.len;simp at this⊢;omega,fun p o e q1 q2=>bV (bc q1) (y5.keep _ _ (e4.keep _ _ (y13.keep _ _ e) q2 q2))⟩;have lt3:(h3.set n (O.aj (b8 0 (told++[name])))).length=h3.length:=by simp
 rw[lt3] at q5 qf qe r5;have dlt:d<h3.length:=dR l3;refine⟨h3.length,h5.set d (.lst (rs.map W.ref++[.ref h3.length])),?_,⟨E.keep _ _ D0 nad na,by rw[cu l5];simp,bV ndn (y5.keep _ _ m4),by simp[D.e],fun i one ez=>?_⟩,E,?_⟩
 .rw[aE iU];have isn:isIn (.str name) (.ref n) h=some false:=by simp[isIn,bC,D.m,uc told 0 nn]
  have ln:((rs.map W.ref).length:Int)=told.length:=by simp[D.e]
  have nl:(b8 0 told).length<SZ:=by rw[AG];omega
  refine k6 (σ':=[some (.ref a),some (.str name),some (.ref fr),some (.ref nd),some kd.ae,some term,some c]) [some (.ref a),some (.str name),some (.ref fr),some (.ref nd),some kd.ae,some term,none] rfl rfl (br (h':=h) (by simp[D0,List.lookup,isn]) (aC (σ':=[some (.ref a),some (.str name),some (.ref fr),some (.ref nd),some kd.ae,some term,none]) (h':=h1) (by simp[r1]) (ax (w:=c) (h':=h3) (by simp[i0,r3]) (aC (σ':=[some (.ref a),some (.str name),some (.ref fr),some (.ref nd),some kd.ae,some term,some c]) (h':=h3.set n (.aj (b8 0 (told++[name])))) ?_ (aC (σ':=[some (.ref a),some (.str name),some (.ref fr),some (.ref nd),some kd.ae,some term,some c]) (h':=h5.set d (.lst (rs.map W.ref++[.ref h3.length]))) ?_ (cP _ _ _))))))
  .generalize rs.map W.ref=RS at *;generalize b8 0 told=ND at *;generalize b8 0 (told++[name])=ND' at *;simp[o3,List.lookup,l3,ln,m3,nl,ap]
  .generalize rs.map W.ref=RS at *;generalize b8 0 (told++[name])=ND' at *;simp[o4,List.lookup,l4,lt3,r5,l5,lenr]
 .obtain⟨r',er,I⟩:=D.z i one ez;obtain⟨f,e,co',wk',I1,I2,I3⟩:=I;have hi:i<rs.length:=(eK.mp er).1;refine⟨r',by rw[ja hi];exact er,f,e,co',wk',E.keep _ _ I1 (fun Z=>?_) (fun Z=>?_),E.keep _ _ I2 (fun Z=>?_) (fun Z=>?_),E.keep _ _ I3 (fun Z=>?_) (fun Z=>?_)⟩
  .rw[Z,D.l] at I1;cases I1
  .rw[Z,D.m] at I1;cases I1
  .rw[Z,D.l] at I2;cases rs with
   |nil=>simp at hi
   |cons _ _=>simp at I2
  .rw[Z,D.m] at I2;cases I2
  .rw[Z,D.l] at I3;cases rs with
   |nil=>simp at hi
   |cons _ _=>simp at I3
  .rw[Z,D.m] at I3;cases I3
 .have yl:=y13.len;exact⟨h3.length+1,h3.length+2,co,wk,⟨by omega,by omega,by omega⟩,bV (by omega) q5,bV (by omega) qf,bV (by omega) qe⟩
theorem jD{k:Env->Hp->R Fl}(e:h[A]?=some (.lst ys))(hx:ys[i]?=some x):bO A t k (n+1) i σ h=turn t k x σ h (bO A t k n (i+1)):=by rw[bO];simp[bg,e,hx]
theorem sr(C:Or){a b v:Nat}{ys:List S}{h:Hp}{B:List St}{u:Nat}{x:S}{post:List S}{m:Nat}{h':Hp}(eb:h[b]?=some (.lst (ys.map W.str)))(nx:x∉ys)(σ:Env)(hv:v<σ.length)(hu:u≠v)(su:σ[u]?=some (some (.ref b)))
  (eB:aH C B (σ.set v (some (.str x))) h=.au m h'):∀(pre xs:List S)(o:Option W),(∀z∈pre,z∈ys)->h[a]?=some (.lst ((xs++(pre++x::post)).map W.str))->
  bO a (.var v) (aH C [.iff (.cmp .notin (.var v) (.var u)) B []]) (pre++x::post).length xs.length (σ.set v o) h=.au m h':=by
 have key:∀(z:S)(o:Option W),((σ.set v o).set v (some (W.str z)))=σ.set v (some (.str z)):=fun _ _=>yG ..;have g1:∀z:S,(σ.set v (some (W.str z)))[v]?=some (some (.str z)):=fun _=>jC hv;have g2:∀z:S,(σ.set v (some (W.str z)))[u]?=some (some (.ref b)):=fun _=>by rw[iE (bc hu)];exact su
 intro pre
 induction pre with
 |nil=>
  intro xs o _ ea;have i:=gv eb x;rw[jw,dX,jD ea (x:=.str x) (by simp)];have bd:aH C [.iff (.cmp .notin (.var v) (.var u)) B []] (σ.set v (some (.str x))) h=.au m h':=nu (h1:=h) (by simp[g1,g2,i,nx]) eB;simp only[turn,iu,key,bd,R.rL]
 |cons z pre ih=>
  intro xs o hp ea;have i:=gv eb z;have hz:=hp z rE;rw[pf,dX,jD ea (x:=.str z) (by simp)];have bd:aH C [.iff (.cmp .notin (.var v) (.var u)) B []] (σ.set v (some (.str z))) h=.ok (.next (σ.set v (some (.str z)))) h:=br (h':=h) (by simp[g1,g2,i,hz]) (cP _ _ _);have t:=ih (xs++[z]) (some (.str z)) (fun y hy=>hp y (fK _ hy)) (by simpa using ea);simp only[turn,iu,key,bd,R.ak];simpa using t
section
variable {k:Nat}{fr nd:Nat}{fs ns:List S}{h:Hp}{kd:Kd}
noncomputable abbrev hN(h:Hp)(kd:Kd):Hp:=h++[.aj (dE (kd.put [])),.lst ((kd.put []).map W.str)]
theorem qF:(hN h kd)[h.length+1]?=some (.lst ((kd.put []).map W.str)):=by simp
theorem G0{x:S}{pre post:List S}(ef:h[fr]?=some (.lst (fs.map W.str)))(hk:kd.depth+3<=k)(hd:2 ^ kd.depth<=SZ)(e:kd.put []=pre++x::post)(s1:∀z∈pre,z∈fs)(nx:x∉fs)(nw:W):
  run T (k+1) cz [.ref fr,nw,kd.ae] h=.au (hN h kd).length (hN h kd++[.au jv [(cm,.tup []),(bu,.str x)]]):=by
 have nm:=kW (T:=T) (pt:=dS) (pn:=dN) (self:=eQ) rfl rfl rfl kd k h hk hd;have f1:=aK [O.aj (dE (kd.put [])),O.lst ((kd.put []).map W.str)] ef;have l1:(hN h kd)[h.length+1]?=some (.lst ((kd.put []).map W.str)):=qF;have t:=sr (run T k) (a:=h.length+1) (v:=4) (u:=0) (B:=[.raise jv [cm,bu] (.cons (.tup .nil) (.cons (.var 4) .nil))]) (post:=post) f1 nx [some (.ref fr),some nw,some kd.ae,some (.ref (h.length+1)),none,none] (by simp) (by decide) rfl (iw (ws:=[.tup [],.str x]) (h':=hN h kd) (by simp) rfl) pre [] none s1 (by rw[jw,<-e];exact l1);rw[<-e] at t;have lI:((kd.put []).map W.str).length=(kd.put []).length:=by simp
 rw[aE gN];refine eR [some (.ref fr),some nw,some kd.ae,none,none,none] rfl rfl (ax (w:=.ref (h.length+1)) (h':=hN h kd) (by simp[nm]) (k9 ?_));rw[bz];simp only[cM,aW,g9,gY,c6,fM,R.ak,src,l1,R.bK,turns,lI];exact t
theorem Fw{x:S}{pre post:List S}(ef:h[fr]?=some (.lst (fs.map W.str)))(hk:kd.depth+3<=k)(hd:2 ^ kd.depth<=SZ)(s1:∀z∈kd.put [],z∈fs)(e:fs=pre++x::post)(s2:∀z∈pre,z∈kd.put [])(nx:x∉kd.put [])(nw:W):
  run T (k+1) cz [.ref fr,nw,kd.ae] h=.au (hN h kd).length (hN h kd++[.au fe []]):=by
 have nm:=kW (T:=T) (pt:=dS) (pn:=dN) (self:=eQ) rfl rfl rfl kd k h hk hd;have f1:=aK [O.aj (dE (kd.put [])),O.lst ((kd.put []).map W.str)] ef;have l1:(hN h kd)[h.length+1]?=some (.lst ((kd.put []).map W.str)):=qF;obtain⟨o1,t1⟩:=kD (run T k) (v:=4) (u:=0) (B:=[.raise jv [cm,bu] (.cons (.tup .nil) (.cons (.var 4) .nil))]) l1 f1 s1 [some (.ref fr),some nw,some kd.ae,some (.ref (h.length+1)),none,none] (by simp) (by decide) rfl;have t:=sr (run T k) (a:=fr) (v:=4) (u:=3) (B:=[.raise fe [] .nil]) (post:=post) l1 nx [some (.ref fr),some nw,some kd.ae,some (.ref (h.length+1)),o1,none] (by simp) (by decide) rfl (iw (ws:=[]) (h':=hN h kd) (by simp) rfl) pre [] o1 s2 (by rw[jw,<-e];exact f1);rw[<-e] at t;have lI:((kd.put []).map W.str).length=(kd.put []).length:=by simp
 have lF:(fs.map W.str).length=fs.length:=by simp
 rw[aE gN];refine eR [some (.ref fr),some nw,some kd.ae,none,none,none] rfl rfl (ax (w:=.ref (h.length+1)) (h':=hN h kd) (by simp[nm]) (aC (σ':=[some (.ref fr),some nw,some kd.ae,some (.ref (h.length+1)),o1,none]) (h':=hN h kd) ?_ (k9 ?_)))
 .rw[bz];simp only[cM,aW,g9,gY,c6,fM,R.ak,src,l1,R.bK,turns,lI];exact t1
 .rw[bz];simp only[cM,aW,c6,R.ak,src,f1,R.bK,turns,lF];exact t
theorem F0{x:S}{pre post:List S}(ef:h[fr]?=some (.lst (fs.map W.str)))(en:h[nd]?=some (.lst (ns.map W.str)))(hk:kd.depth+3<=k)(hd:2 ^ kd.depth<=SZ)(s1:∀z∈kd.put [],z∈fs)(s2:∀z∈fs,z∈kd.put [])(e:ns=pre++x::post)(s3:∀z∈pre,z∈fs)(nx:x∉fs):
  run T (k+1) cz [.ref fr,.ref nd,kd.ae] h=.au (hN h kd).length (hN h kd++[.au fe []]):=by
 have nm:=kW (T:=T) (pt:=dS) (pn:=dN) (self:=eQ) rfl rfl rfl kd k h hk hd;have f1:=aK [O.aj (dE (kd.put [])),O.lst ((kd.put []).map W.str)] ef;have n1:=aK [O.aj (dE (kd.put [])),O.lst ((kd.put []).map W.str)] en;have l1:(hN h kd)[h.length+1]?=some (.lst ((kd.put []).map W.str)):=qF;obtain⟨o1,t1⟩:=kD (run T k) (v:=4) (u:=0) (B:=[.raise jv [cm,bu] (.cons (.tup .nil) (.cons (.var 4) .nil))]) l1 f1 s1 [some (.ref fr),some (.ref nd),some kd.ae,some (.ref (h.length+1)),none,none] (by simp) (by decide) rfl;obtain⟨o2,t2⟩:=kD (run T k) (v:=4) (u:=3) (B:=[.raise fe [] .nil]) f1 l1 s2 [some (.ref fr),some (.ref nd),some kd.ae,some (.ref (h.length+1)),o1,none] (by simp) (by decide) rfl;have t:=sr (run T k) (a:=nd) (v:=5) (u:=0) (B:=[.raise fe [] .nil]) (post:=post) f1 nx [some (.ref fr),some (.ref nd),some kd.ae,some (.ref (h.length+1)),o2,none] (by simp) (by decide) rfl (iw (ws:=[]) (h':=hN h kd) (by simp) rfl) pre [] none s3 (by rw[jw,<-e];exact n1);rw[<-e] at t;have lI:((kd.put []).map W.str).length=(kd.put []).length:=by simp
 have lF:(fs.map W.str).length=fs.length:=by simp
 have lN:(ns.map W.str).length=ns.length:=by simp
 rw[aE gN];refine eR [some (.ref fr),some (.ref nd),some kd.ae,none,none,none] rfl rfl (ax (w:=.ref (h.length+1)) (h':=hN h kd) (by simp[nm]) (aC (σ':=[some (.ref fr),some (.ref nd),some kd.ae,some (.ref (h.length+1)),o1,none]) (h':=hN h kd) ?_ (aC (σ':=[some (.ref fr),some (.ref nd),some kd.ae,some (.ref (h.length+1)),o2,none]) (h':=hN h kd) ?_ (k9 ?_))))
 .rw[bz];simp only[cM,aW,g9,gY,c6,fM,R.ak,src,l1,R.bK,turns,lI];exact t1
 .rw[bz];simp only[cM,aW,c6,R.ak,src,f1,R.bK,turns,lF];exact t2
 .rw[bz];simp only[cM,aW,c6,fM,R.ak,src,n1,R.bK,turns,lN];exact t
end
theorem Aj:∀(l:List S)(k:Int),x∈l->(c9 (.str x) (b8 k l)).isSome=true
 |[],_,m=>by simp at m
 |y::l,k,m=>by
  by_cases e:y=x
  .simp[b8,dM,e]
  .have m':x∈l:=by
    rcases cQ.mp m with z|z
    .exact absurd z.symm e
    .exact z
   simp only[b8,c9,dM,e,qN,x9,i7];exact Aj l (k+1) m'
section
variable {k:Nat}{h:Hp}{a d n:Nat}{rs:List Nat}{told:List S}{z:Option (Nat×S)}{name:S}
theorem CN(D:b6 h a d n rs told z)(m:name∈told)(f e kw t:W):run T (k+1) bF [.ref a,.str name,f,e,kw,t] h=.au h.length (h++[.au Ii []]):=by
 have D0:=D.o;have isn:isIn (.str name) (.ref n) h=some true:=by simp[isIn,bC,D.m,Aj told 0 m]
 rw[aE iU];exact eR [some (.ref a),some (.str name),some f,some e,some kw,some t,none] rfl rfl (nu (h1:=h) (by simp[D0,List.lookup,isn]) (iw (ws:=[]) (h':=h) (by simp) rfl))
theorem tW(D:b6 h a d n rs told z)(nn:name∉told)(r:run T k cz [f,e,kw] h=.au b h'):run T (k+1) bF [.ref a,.str name,f,e,kw,t] h=.au b h':=by
 have D0:=D.o;have isn:isIn (.str name) (.ref n) h=some false:=by simp[isIn,bC,D.m,uc told 0 nn]
 rw[aE iU];exact eR [some (.ref a),some (.str name),some f,some e,some kw,some t,none] rfl rfl (br (h':=h) (by simp[D0,List.lookup,isn]) (k9 (by simp[r])))
def lP(fs:Fx)(Γ:Cx)(n:Nat)(f:W)(kd:Kd)(c:S)(gs:List W->List (S×W)):Prop:=
 ∀k,n<=k->∀(pl:List W)(q:Nat)(sh:W)(fr nd:Nat)(h:Hp),pl.length+n<=SZ->Γ.length+n<=SZ->dH h q sh fr nd fs Γ->
  ∃b h',run T k cE [f,kd.ae,.tup pl,.ref q] h=.au b h'/\aw h h'/\h'[b]?=some (.au c (gs pl))
def yT(fs:Fx)(Γ:Cx)(n:Nat)(f:W)(c:S)(gs:List W->List (S×W)):Prop:=
 ∀k,n<=k->∀(pl:List W)(q:Nat)(sh:W)(fr nd:Nat)(h:Hp),pl.length+n<=SZ->Γ.length+n<=SZ->dH h q sh fr nd fs Γ->
  ∃b h',run T k iJ [f,.tup pl,.ref q] h=.au b h'/\aw h h'/\h'[b]?=some (.au c (gs pl))
theorem p0{gs:List W->List (S×W)}(D:b6 h a d n rs told z)(nn:name∉told)(ef:h[fr]?=some (.lst (fs.map W.str)))(en:h[nd]?=some (.lst (ns.map W.str)))
  (hk:kd.depth+4<=k) (h3:3<=k) (hN:N<=k) (hN2:N<=SZ) (hd:2 ^ kd.depth<=SZ) (s1:∀x∈kd.put [],x∈fs) (s2:∀x∈fs,x∈kd.put []) (s3:∀x∈ns,x∈fs) (g:lP ⟨fs,ns,told,z⟩ [] N term kd c gs):
  ∃b h',run T (k+1) bF [.ref a,.str name,.ref fr,.ref nd,kd.ae,term] h=.au b h'/\aw h h'/\h'[b]?=some (.au c (gs [])):=by
 obtain⟨k,rfl⟩:∃j,k=j+2:=⟨k-2,by omega⟩;have D0:=D.o;obtain⟨h1,r1,y1⟩:=t9 (k+1) ef en (by omega) hd s1 s2 s3;have DA:=D.grow y1;have i0:=ou (k+1) h1 (.ref a) (.ref fr) (.ref nd) (.tup []);have y2:aw h1 (h1++[O.ins fg [(fF,.ref a),(b9,.ref fr),(cD,.ref nd),(fC,.tup [])]]):=aw.app _ _;have sc:dH (h1++[O.ins fg [(fF,.ref a),(b9,.ref fr),(cD,.ref nd),(fC,.tup [])]]) h1.length (.ref a) fr nd ⟨fs,ns,told,z⟩ []:=⟨by simp,y2.keep _ _ (y1.keep _ _ ef),y2.keep _ _ (y1.keep _ _ en),a,d,n,rs,rfl,DA.grow y2⟩;obtain⟨b,h3,r3,y3,z3⟩:=g (k+2) hN [] h1.length (.ref a) fr nd _ (by simpa using hN2) (by simpa using hN2) sc;refine⟨b,h3,?_,(y1.trans y2).trans y3,z3⟩;have isn:isIn (.str name) (.ref n) h=some false:=by simp[isIn,bC,D.m,uc told 0 nn]
 rw[aE iU];exact eR [some (.ref a),some (.str name),some (.ref fr),some (.ref nd),some kd.ae,some term,none] rfl rfl (br (h':=h) (by simp[D0,List.lookup,isn]) (aC (σ':=[some (.ref a),some (.str name),some (.ref fr),some (.ref nd),some kd.ae,some term,none]) (h':=h1) (by simp[r1]) (uw (by simp[i0,r3]))))
end
section
variable {fs:Fx}{Γ:Cx}
theorem Qj(hd:kd.depth<=50)(ne:kd≠.tru):lP fs Γ 4 (.tup [.str lK]) kd yq fun pl=>[(cm,.tup pl),([119,97,110,116,101,100],kd.ae),([102,111,117,110,100],.tup [.str c8])]:=by intro k hk pl q sh fr nd h hp hg s;obtain⟨j,rfl⟩:∃j,k=j+4:=⟨k-4,by omega⟩;obtain⟨h1,e1,y1⟩:=vJ (j+2) (by omega) pl q sh fr nd h (by omega) (by omega) s;refine⟨h1.length,_,?_,y1.trans (aw.app h1 _),aU _ _⟩;rw[uW (j+3) (by decide),aE j6];have qq:=Kd.bX h1 .tru kd (by decide) hd;rw[dz (bc ne)] at qq;exact eR [some (.tup [.str lK]),some kd.ae,some (.tup pl),some (.ref q),none,none] rfl rfl (nG (u:=.tup [.str lK]) (v:=Kd.tru.ae) (h':=h1) (by simp[e1]) (nu (h1:=h1) (by simp[qq]) (iw (ws:=[.tup pl,kd.ae,.tup [.str c8]]) (h':=h1) (by simp[Kd.ae]) rfl)))
theorem BQ{gs:List W->List (S×W)}(h2:2<=n)(g:lP fs ((x,a)::Γ) n f b c gs):lP fs Γ (n+2) (.tup [.str iA,.str x,f]) (.work a b) c fun pl=>gs (pl++[.int 0]):=by
 intro k hk pl q sh fr nd h hp hg s;obtain⟨j,rfl⟩:∃j,k=j+4:=⟨k-4,by omega⟩;have b1:=xa j s x a (by omega);obtain⟨m,h',e,y,z⟩:=g (j+2) (by omega) (pl++[.int 0]) h.length sh fr nd _ (by simp;omega) (by simp;omega) (s.bind x a);refine⟨m,h',?_,(aw.app h _).trans y,z⟩;have hp':pl.length+1<=SZ:=by omega
 simp only[aX] at e b1;rw[down_eq (j+3) (g:=jg) rfl (by decide),aE tS];have so:=s.o;exact eR [some (.tup [.str iA,.str x,f]),some ((Kd.work a b).ae),some (.tup pl),some (.ref q),none] rfl rfl (br (NX (x:=bo) rfl rfl) (uw (by simp[Kd.ae,so,List.lookup,b1,e,hp'])))
theorem R4{gs:List W->List (S×W)}(g0:Goes fs Γ n f0 .tru c0)(g1:Goes fs Γ n f1 kd c1)(g2:lP fs Γ n f2 kd c gs):lP fs Γ (n+2) (.tup [.str sX,f0,f1,f2]) kd c fun pl=>gs (pl++[.int 2]):=by
 intro k hk pl q sh fr nd h hp hg s;obtain⟨j,rfl⟩:∃j,k=j+2:=⟨k-2,by omega⟩;obtain⟨h0,e0,y0⟩:=g0 j (by omega) (pl++[.int 0]) q sh fr nd h (by simp;omega) (by omega) s;obtain⟨h1,e1,y1⟩:=g1 j (by omega) (pl++[.int 1]) q sh fr nd h0 (by simp;omega) (by omega) (s.grow y0);obtain⟨m,h2,e2,y2,z⟩:=g2 j (by omega) (pl++[.int 2]) q sh fr nd h1 (by simp;omega) (by omega) ((s.grow y0).grow y1);refine⟨m,h2,?_,(y0.trans y1).trans y2,z⟩;have hp':pl.length+1<=SZ:=by omega
 simp only[Kd.ae] at e0;have a3:cH [W.str sX,f0,f1,f2] 3=some f2:=iI [W.str sX,f0,f1,f2] 3 (by simp);rw[down_eq (j+1) (g:=mh) rfl (by decide),aE EY];exact eR [some (.tup [.str sX,f0,f1,f2]),some (kd.ae),some (.tup pl),some (.ref q),none,none,none] rfl rfl (ax (w:=c0) (h':=h0) (by simp[e0,hp']) (ax (w:=c1) (h':=h1) (by simp[e1,hp']) (uw (by simp[e2,hp',a3]))))
theorem AH{gs:List W->List (S×W)}(m:t∉kK)(g:yT fs Γ n (.tup (.str t::r)) c gs):lP fs Γ (n+2) (.tup (.str t::r)) kd c gs:=by intro k hk pl q sh fr nd h hp hg s;obtain⟨j,rfl⟩:∃j,k=j+2:=⟨k-2,by omega⟩;obtain⟨b,h',e,x,z⟩:=g j (by omega) pl q sh fr nd h (by omega) (by omega) s;refine⟨b,h',?_,x,z⟩;rw[uW (j+1) m,aE j6];exact eR [some (.tup (.str t::r)),some (kd.ae),some (.tup pl),some (.ref q),none,none] rfl rfl (wB (by simp[e]))
end
theorem lU(k:Nat)(kd:Kd)(h:Hp):run T (k+1) dS [kd.ae] h=.ok (.tup ((i8 kd).map Kd.ae)) h:=by rw[aE Jy];exact kN (run T k) kd h
section
variable {fs:Fx}{Γ:Cx}
theorem Ji{x:S}{post:List S}{kd:Kd}{f:W}(e:kd.put []=x::post)(nx:x∉fs.fs)(hd:2 ^ kd.depth<=SZ):yT fs Γ (kd.depth+5) (.tup [.str jN,f,kd.ae]) jv fun pl=>[(cm,.tup pl),(bu,.str x)]:=by
 intro k hk pl q sh fr nd h hp hg s;obtain⟨j,rfl⟩:∃j,k=j+2:=⟨k-2,by omega⟩;have nm:=kW (T:=T) (pt:=dS) (pn:=dN) (self:=eQ) rfl rfl rfl kd j h (by omega) hd;have l1:(hN h kd)[h.length+1]?=some (.lst ((kd.put []).map W.str)):=qF;have y0:aw h (hN h kd):=aw.app _ _;have s0:=s.grow y0;refine⟨(hN h kd).length,hN h kd++[.au jv [(cm,.tup pl),(bu,.str x)]],?_,y0.trans (aw.app _ _),aU _ _⟩;have lI:((kd.put []).map W.str).length=post.length+1:=by rw[e];simp
 have so:=s0.o;have i:=gv s0.f x;have t:bO (h.length+1) (.var 3) (aH (run T j) iP) (post.length+1) 0 [some (.tup [.str jN,f,kd.ae]),some (.tup pl),some (.ref q),none] (hN h kd)=.au (hN h kd).length (hN h kd++[.au jv [(cm,.tup pl),(bu,.str x)]]):=by
  rw[jD l1 (x:=.str x) (by rw[e];simp)];have bd:aH (run T j) iP [some (.tup [.str jN,f,kd.ae]),some (.tup pl),some (.ref q),some (.str x)] (hN h kd)=.au (hN h kd).length (hN h kd++[.au jv [(cm,.tup pl),(bu,.str x)]]):=by unfold iP;generalize hN h kd=h1 at *;exact nu (h1:=h1) (by simp[so,List.lookup,i,nx]) (iw (ws:=[.tup pl,.str x]) (h':=h1) (by simp) rfl)
  simp only[turn,iu,g9,gY,bd,R.rL]
 rw[up_eq (j+1) (g:=ml) rfl,aE CQ];refine eR [some (.tup [.str jN,f,kd.ae]),some (.tup pl),some (.ref q),none] rfl rfl (k9 ?_);rw[bz];simp only[cM,jB,bW,cL,uN,aW,fH,c6,fM,R.ak,idx,Qp,R.bK,nm,src,l1,turns,lI,t]
theorem Ga{gs:List W->List (S×W)}(g:yT fs Γ n f1 c gs):yT fs Γ (n+2) (.tup [.str eV,f1,f2]) c fun pl=>gs (pl++[.int 0]):=by
 intro k hk pl q sh fr nd h hp hg s;obtain⟨j,rfl⟩:∃j,k=j+2:=⟨k-2,by omega⟩;obtain⟨b,h1,e1,y1,z1⟩:=g j (by omega) (pl++[.int 0]) q sh fr nd h (by simp;omega) (by omega) s;refine⟨b,h1,?_,y1,z1⟩;have hp':pl.length+1<=SZ:=by omega
 rw[up_eq (j+1) (g:=jY) rfl,aE vM];exact eR [some (.tup [.str eV,f1,f2]),some (.tup pl),some (.ref q),none,none,none] rfl rfl (wB (by simp[e1,hp']))
def Bl(ns:List S)(n:Nat)(kd:Kd)(lk:Kd):Prop:=∀k,n<=k->∀(nd:Nat)(h:Hp),h[nd]?=some (.lst (ns.map W.str))->run T k gK [kd.ae,.ref nd] h=.ok lk.ae h
theorem Fq(g1:Comes fs Γ n f1 kd c1)(g2:Goes fs Γ n f2 kd c2)(l:Bl fs.ns n kd lk):yT fs Γ (n+4) (.tup [.str eV,f1,f2]) kH fun pl=>[(cm,.tup pl),(gO,lk.ae)]:=by
 intro k hk pl q sh fr nd h hp hg s;obtain⟨j,rfl⟩:∃j,k=j+4:=⟨k-4,by omega⟩;obtain⟨h1,e1,y1⟩:=g1 (j+2) (by omega) (pl++[.int 0]) q sh fr nd h (by simp;omega) (by omega) s;obtain⟨h2,e2,y2⟩:=g2 (j+2) (by omega) (pl++[.int 1]) q sh fr nd h1 (by simp;omega) (by omega) (s.grow y1);have s2:=(s.grow y1).grow y2;have so:=s2.o;have u:=l (j+1) (by omega) nd h2 s2.n;have hp':pl.length+1<=SZ:=by omega
 obtain⟨x0,r0,ek⟩:=J7 lk;have lkr:run T (j+2) cX [.ref q,kd.ae,.tup pl] h2=.au h2.length (h2++[.au kH [(cm,.tup pl),(gO,lk.ae)]]):=by rw[aE jm];exact eR [some (.ref q),some kd.ae,some (.tup pl),none] rfl rfl (ax (w:=lk.ae) (h':=h2) (by simp[so,List.lookup,u]) (nu (h1:=h2) (by simp[ek]) (iw (ws:=[.tup pl,lk.ae]) (h':=h2) (by simp) rfl)))
 refine⟨h2.length,h2++[.au kH [(cm,.tup pl),(gO,lk.ae)]],?_,(y1.trans y2).trans (aw.app h2 _),aU _ _⟩;rw[up_eq (j+3) (g:=jY) rfl,aE vM];exact eR [some (.tup [.str eV,f1,f2]),some (.tup pl),some (.ref q),none,none,none] rfl rfl (nG (u:=c1) (v:=kd.ae) (h':=h1) (by simp[e1,hp']) (ax (w:=c2) (h':=h2) (by simp[e2,hp']) (JA (by simp[so,List.lookup,lkr]))))
end
theorem JQ(nx:x∉ns):Bl ns 1 (.any x) (.any x):=by intro k hk nd h en;obtain⟨j,rfl⟩:∃j,k=j+1:=⟨k-1,by omega⟩;have i:=gv en x;rw[aE kz];exact bw [some (Kd.any x).ae,some (.ref nd),none,none] rfl rfl (br (h':=h) (by simp[Kd.ae]) (lL (h':=h) (by simp[Kd.ae,i,nx]) (aP (by simp))))
theorem OK{ns:List S}{x:S}(mx:x∈ns)(k nd:Nat){h:Hp}(en:h[nd]?=some (.lst (ns.map W.str))):run T (k+2) gK [(Kd.any x).ae,.ref nd] h=.ok .aq h:=by have i:=gv en x;have p:=lU k (.any x) h;rw[aE kz];exact bw [some (Kd.any x).ae,some (.ref nd),none,none] rfl rfl (br (h':=h) (by simp[Kd.ae]) (br (h':=h) (by simp[Kd.ae,i,mx]) (aC (σ':=[some (Kd.any x).ae,some (.ref nd),none,none]) (h':=h) (by rw[bz];simp[p,i8]) (aP (by simp)))))
theorem Kb(nw:W)(k:Nat)(h:Hp):run T (k+2) gK [Kd.num.ae,nw] h=.ok .aq h:=by have p:=lU k .num h;rw[aE kz];exact bw [some Kd.num.ae,some nw,none,none] rfl rfl (br (h':=h) (by simp[Kd.ae]) (br (h':=h) (by simp[Kd.ae]) (aC (σ':=[some Kd.num.ae,some nw,none,none]) (h':=h) (by rw[bz];simp[p,i8]) (aP (by simp)))))
theorem Fe{ns:List S}{x y:S}(mx:x∈ns)(ny:y∉ns):Bl ns 4 (.pair (.any x) (.any y)) (.any y):=by
 intro k hk nd h en;obtain⟨j,rfl⟩:∃j,k=j+4:=⟨k-4,by omega⟩;have p:=lU (j+2) (.pair (.any x) (.any y)) h;have u1:=OK mx (j+1) nd en;have u2:=JQ ny (j+3) (by omega) nd h en;rw[aE kz];refine bw [some (Kd.pair (.any x) (.any y)).ae,some (.ref nd),none,none] rfl rfl (br (h':=h) (by simp[Kd.ae]) (br (h':=h) (by simp[Kd.ae]) (yU (h':=h) ?_)));rw[bz];have b1:aH (run T (j+3)) j4 [some (Kd.pair (.any x) (.any y)).ae,some (.ref nd),some (Kd.any x).ae,none] h=.ok (.next [some (Kd.pair (.any x) (.any y)).ae,some (.ref nd),some (Kd.any x).ae,some .aq]) h:=
  ax (w:=.aq) (h':=h) (by simp[u1]) (br (h':=h) (by simp) (cP _ _ _))
 have b2:aH (run T (j+3)) j4 [some (Kd.pair (.any x) (.any y)).ae,some (.ref nd),some (Kd.any y).ae,some .aq] h=.ok (.ret (Kd.any y).ae) h:=
  ax (w:=(Kd.any y).ae) (h':=h) (by simp[u2]) (lL (h':=h) (by simp[Kd.ae]) (aP (by simp)))
 simp only[cM,jB,bW,cL,aW,c6,R.ak,p,i8,aX,eM,src,R.bK,turns,je,turn,iu,g9,gY,b1,b2]
def tw(b:Bool)(x y:Kd):Kd:=if b then .pair x y else .work x y
def lj(b:Bool):S:=if b then qh else bo
theorem i9(b:Bool)(x y:Kd):(tw b x y).ae=.tup [.str (lj b),x.ae,y.ae]:=by cases b<;>rfl
theorem sC(b:Bool)(k:Nat)(x y:Kd)(h:Hp):run T (k+1) dS [.tup [.str (lj b),x.ae,y.ae]] h=.ok (.tup [x.ae,y.ae]) h:=by have:=lU k (tw b x y) h;rw[i9] at this;cases b<;>simpa [tw,i8] using this
theorem DP(h:Hp)(x y:Kd)(hx:x.depth<=40)(hy:y.depth<=40):bX h (.tup [x.ae,y.ae]) (.tup [])=some false:=by have a:=gr x;have b:=gr y;exact tup_ne h x.ae [y.ae] (gf x) (by simp[dF,gf y]) (by simp[cV];omega)
section
variable {h:Hp}{F:Nat}{kvs:List (W×W)}
theorem yD(k:Nat)(e:h[F]?=some (.aj kvs))(g:c9 (.str x) kvs=some v):run T (k+1) cK [(Kd.any x).ae,.str bM,.ref F] h=.ok v h:=by rw[aE oE];exact bw [some (Kd.any x).ae,some (.str bM),some (.ref F),none,none,none] rfl rfl (lL (h':=h) (by simp[Kd.ae]) (aP (by simp[Kd.ae,e,g])))
theorem xP(k:Nat)(e:h[F]?=some (.aj kvs))(g:c9 (.int i) kvs=some v):run T (k+1) cK [(Kd.gap i).ae,.str uG,.ref F] h=.ok v h:=by rw[aE oE];exact bw [some (Kd.gap i).ae,some (.str uG),some (.ref F),none,none,none] rfl rfl (lL (h':=h) (by simp[Kd.ae]) (aP (by simp[Kd.ae,e,g])))
theorem nE(b:Bool)(k:Nat)(hw:lj b≠w)(hx:x.depth<=40)(hy:y.depth<=40)(r1:run T (k+1) cK [x.ae,.str w,.ref F] h=.ok x'.ae h)(r2:run T (k+1) cK [y.ae,.str w,.ref F] h=.ok y'.ae h):
  run T (k+2) cK [(tw b x y).ae,.str w,.ref F] h=.ok (tw b x' y').ae h:=by
 have p:=sC b k x y h;have q:=DP h x y hx hy;have s1:1+1<=SZ:=by decide
 have s2:2+1<=SZ:=by decide
 rw[i9,i9,aE oE];generalize x.ae=X at *;generalize y.ae=Y at *;refine bw [some (.tup [.str (lj b),X,Y]),some (.str w),some (.ref F),none,none,none] rfl rfl (br (h':=h) (by simp[hw]) (ax (w:=.tup [X,Y]) (h':=h) (by simp[p]) (br (h':=h) (by simp[q]) (ax (w:=.tup [.str (lj b)]) (h':=h) (by simp) (aC (σ':=[some (.tup [.str (lj b),X,Y]),some (.str w),some (.ref F),some (.tup [X,Y]),some (.tup [.str (lj b),x'.ae,y'.ae]),some Y]) (h':=h) ?_ (aP (by simp)))))));rw[bz];simp[oS,r1,r2,s1,s2]
theorem nh(k:Nat)(kd:Kd)(hd:kd.depth<=50)(e:h[F]?=some (.aj kvs))(l:kvs.length<SZ)(g:(c9 (.int i) kvs).getD kd.ae=kd.ae):run T (k+2) lW [(Kd.gap i).ae,kd.ae,.ref F] h=.ok (.ref h.length) (h++[.aj (dput (.int i) kd.ae kvs)]):=by
 have r:run T (k+1) pG [.int i,kd.ae,.ref F] h=.ok (.ref h.length) (h++[.aj (dput (.int i) kd.ae kvs)]):=by have q:=qz h kd hd;rw[aE D4];exact bw [some (.int i),some kd.ae,some (.ref F),none] rfl rfl (br (h':=h) (by simp[e,g,q]) (ax (w:=.ref h.length) (h':=h++[.aj kvs]) (by simp[e]) (aC (σ':=[some (.int i),some kd.ae,some (.ref F),some (.ref h.length)]) (h':=h++[.aj (dput (.int i) kd.ae kvs)]) (by simp[l]) (aP (by simp)))))
 rw[aE HE];exact bw [some (Kd.gap i).ae,some kd.ae,some (.ref F),none,none,none,none] rfl rfl (lL (h':=h) (by simp[Kd.ae]) (aP (by simp[Kd.ae,r])))
theorem sW(b:Bool)(k:Nat)(hx:x.depth<=40)(hy:y.depth<=40)(r1:run T (k+1) lW [x.ae,c.ae,.ref F] h=.ok (.ref F1) h1)(r2:run T (k+1) lW [y.ae,d.ae,.ref F1] h1=.ok (.ref F2) h2):
  run T (k+2) lW [(tw b x y).ae,(tw b c d).ae,.ref F] h=.ok (.ref F2) h2:=by
 have p:=sC b k x y h;have p2:=sC b k c d h;have q:=DP h x y hx hy;have ng:lj b≠uG:=by cases b<;>decide
 rw[i9,i9,aE HE];generalize x.ae=X at *;generalize y.ae=Y at *;generalize c.ae=C at *;generalize d.ae=D at *;refine bw [some (.tup [.str (lj b),X,Y]),some (.tup [.str (lj b),C,D]),some (.ref F),none,none,none,none] rfl rfl (br (h':=h) (by simp[ng]) (ax (w:=.tup [X,Y]) (h':=h) (by simp[p]) (br (h':=h) (by simp[q]) (br (h':=h) (by simp) (ax (w:=.ref F) (h':=h) (by simp) (aC (σ':=[some (.tup [.str (lj b),X,Y]),some (.tup [.str (lj b),C,D]),some (.ref F),some (.tup [X,Y]),some (.ref F2),some Y,some D]) (h':=h2) ?_ (aP (by simp))))))));rw[bz];simp[p2,xR,r1,r2]
end
structure Case(p q:S) where
 free:List S
 A:Kd
 G:Kd
 Wh:Kd
 iD:List (W×W)
 found:List (W×W)
noncomputable def aD(p q:S):Case p q:=⟨[p],.any p,.gap 0,.num,[(.str p,(Kd.gap 0).ae)],[(.int 0,Kd.num.ae)]⟩
noncomputable def aA(p q:S):Case p q:=⟨[p,q],tw true (.any q) (.any p),tw true (.gap 1) (.gap 0),tw true .num .num,[(.str p,(Kd.gap 0).ae),(.str q,(Kd.gap 1).ae)],[(.int 1,Kd.num.ae),(.int 0,Kd.num.ae)]⟩
structure jX{p q:S}(c:Case p q):Prop where
 fill:∀(k F:Nat)(h:Hp),h[F]?=some (.aj c.iD)->run T (k+5) lD [(tw false c.A c.A).ae,.ref F] h=.ok (tw false c.G c.G).ae h
 met:∀(k F:Nat)(h:Hp),h[F]?=some (.aj [])->∃F' h',run T (k+6) lW [(tw false c.G c.G).ae,(tw false c.Wh c.Wh).ae,.ref F] h=.ok (.ref F') h'/\h'[F']?=some (.aj c.found)/\aw h h'
 back:∀(k F:Nat)(h:Hp),h[F]?=some (.aj c.found)->run T (k+5) ic [(tw false c.G c.G).ae,.ref F] h=.ok (tw false c.Wh c.Wh).ae h
theorem vD(r:run T k cK [a,.str bM,.ref F] h=.ok b h):run T (k+1) lD [a,.ref F] h=.ok b h:=by rw[aE Ht];exact bw [some a,some (.ref F)] rfl rfl (aP (by simp[r]))
theorem sH(r:run T k cK [a,.str uG,.ref F] h=.ok b h):run T (k+1) ic [a,.ref F] h=.ok b h:=by rw[aE vZ];exact bw [some a,some (.ref F)] rfl rfl (aP (by simp[r]))
theorem Gs(p q:S):jX (aD p q) where
 fill:=fun k F h e=>by
  have r:=yD (k+2) (v:=(Kd.gap 0).ae) e (x:=p) (by simp[aD,dM]);exact vD (nE false (k+2) (x:=.any p) (y:=.any p) (x':=.gap 0) (y':=.gap 0) (by decide) (by simp[aD,aA,tw,Kd.depth]) (by simp[aD,aA,tw,Kd.depth]) r r)
 met:=fun k F h e=>by
  have r1:=nh (k+3) (i:=0) .num (by decide) e (by decide) rfl;have r2:=nh (h:=h++[.aj [(.int 0,Kd.num.ae)]]) (F:=h.length) (kvs:=[(.int 0,Kd.num.ae)]) (k+3) (i:=0) .num (by decide) (aU _ _) (by decide) rfl;exact⟨_,_,sW false (k+4) (x:=.gap 0) (y:=.gap 0) (c:=.num) (d:=.num) (by simp[aD,aA,tw,Kd.depth]) (by simp[aD,aA,tw,Kd.depth]) r1 r2,aU _ _,(aw.app _ _).trans (aw.app _ _)⟩
 back:=fun k F h e=>by
  have r:=xP (k+2) (v:=Kd.num.ae) e (i:=0) (by simp[aD]);exact sH (nE false (k+2) (x:=.gap 0) (y:=.gap 0) (x':=.num) (y':=.num) (by decide) (by simp[aD,aA,tw,Kd.depth]) (by simp[aD,aA,tw,Kd.depth]) r r)
theorem Gj(ne:p≠q):jX (aA p q) where
 fill:=fun k F h e=>by
  have ra:=yD (k+1) (v:=(Kd.gap 0).ae) e (x:=p) (by simp[aA,dM]);have rb:=yD (k+1) (v:=(Kd.gap 1).ae) e (x:=q) (by simp[aA,dM,ne]);have r:=nE true (k+1) (x:=.any q) (y:=.any p) (x':=.gap 1) (y':=.gap 0) (w:=bM) (by decide) (by simp[aD,aA,tw,Kd.depth]) (by simp[aD,aA,tw,Kd.depth]) rb ra;exact vD (nE false (k+2) (by decide) (by simp[aD,aA,tw,Kd.depth]) (by simp[aD,aA,tw,Kd.depth]) r r)
 met:=fun k F h e=>by
  have a1:=nh (k+2) (i:=1) .num (by decide) e (by decide) rfl;have a2:=nh (h:=h++[.aj [(.int 1,Kd.num.ae)]]) (F:=h.length) (kvs:=[(.int 1,Kd.num.ae)]) (k+2) (i:=0) .num (by decide) (aU _ _) (by decide) rfl;have r1:=sW true (k+3) (x:=.gap 1) (y:=.gap 0) (c:=.num) (d:=.num) (by simp[aD,aA,tw,Kd.depth]) (by simp[aD,aA,tw,Kd.depth]) a1 a2;have b1:=nh (h:=h++[.aj [(.int 1,Kd.num.ae)]]++[.aj [(.int 1,Kd.num.ae),(.int 0,Kd.num.ae)]]) (F:=(h++[O.aj [(.int 1,Kd.num.ae)]]).length) (kvs:=[(.int 1,Kd.num.ae),(.int 0,Kd.num.ae)]) (k+2) (i:=1) .num (by decide) (aU _ _) (by decide) rfl;have b2:=nh (h:=h++[.aj [(.int 1,Kd.num.ae)]]++[.aj [(.int 1,Kd.num.ae),(.int 0,Kd.num.ae)]]++[.aj [(.int 1,Kd.num.ae),(.int 0,Kd.num.ae)]]) (F:=(h++[O.aj [(.int 1,Kd.num.ae)]]++[O.aj [(.int 1,Kd.num.ae),(.int 0,Kd.num.ae)]]).length) (kvs:=[(.int 1,Kd.num.ae),(.int 0,Kd.num.ae)]) (k+2) (i:=0) .num (by decide) (aU _ _) (by decide) rfl;have r2:=sW true (k+3) (x:=.gap 1) (y:=.gap 0) (c:=.num) (d:=.num) (by simp[aD,aA,tw,Kd.depth]) (by simp[aD,aA,tw,Kd.depth]) b1 b2;exact⟨_,_,sW false (k+4) (by simp[aD,aA,tw,Kd.depth]) (by simp[aD,aA,tw,Kd.depth]) r1 r2,aU _ _,((aw.app _ _).trans (aw.app _ _)).trans ((aw.app _ _).trans (aw.app _ _))⟩
 back:=fun k F h e=>by
  have ra:=xP (k+1) (v:=Kd.num.ae) e (i:=0) (by simp[aA]);have rb:=xP (k+1) (v:=Kd.num.ae) e (i:=1) (by simp[aA]);have r:=nE true (k+1) (x:=.gap 1) (y:=.gap 0) (x':=.num) (y':=.num) (w:=uG) (by decide) (by simp[aD,aA,tw,Kd.depth]) (by simp[aD,aA,tw,Kd.depth]) rb ra;exact sH (nE false (k+2) (by decide) (by simp[aD,aA,tw,Kd.depth]) (by simp[aD,aA,tw,Kd.depth]) r r)
section
variable {h:Hp}{q fr nd:Nat}{sh:W}{fs:Fx}{Γ:Cx}
theorem OI{k:Env->Hp->R Fl}:eS a t k 0 σ h=.ok (.next σ) h:=by rw[eS]
theorem JO(k:Nat)(s:dH h q sh fr nd fs Γ)(e:fs.ns=[]):run T (k+1) dY [.ref q] h=.ok (.ref h.length) (h++[.aj []]):=by have so:=s.o;have s1:=s.grow (aw.app h [O.aj []]);have so1:=s1.o;have n1:=s1.n;rw[e] at n1;rw[aE kQ];refine bw [some (.ref q),none,none,none] rfl rfl (ax (w:=.ref h.length) (h':=h++[.aj []]) (by simp) (ax (w:=.int (Γ.map bd).length) (h':=h++[.aj []]) (by simp[so1,List.lookup]) (aC (σ':=[some (.ref q),some (.ref h.length),some (.int (Γ.map bd).length),none]) (h':=h++[.aj []]) ?_ (aP (by simp)))));rw[bz];simp[so1,List.lookup,n1,OI]
theorem Gn(k:Nat)(s:dH h q sh fr nd fs Γ)(e:fs.ns=[])(pl:W):run T (k+3) cX [.ref q,Kd.num.ae,pl] h=.ok (.tup [.str eV,Kd.num.ae]) (h++[.aj []]):=by
 have so:=s.o;have u:=Kb (.ref nd) k h;have g:=JO (k+1) s e;have l:run T (k+2) oB [Kd.num.ae,.ref h.length] (h++[.aj []])=.ok (.tup [.str eV,Kd.num.ae]) (h++[.aj []]):=by rw[aE BL];exact bw [some Kd.num.ae,some (.ref h.length)] rfl rfl (lL (h':=h++[.aj []]) (by simp[Kd.ae,isIn,bC]) (aP (by simp)))
 rw[aE jm];exact bw [some (.ref q),some Kd.num.ae,some pl,none] rfl rfl (ax (w:=.aq) (h':=h) (by simp[so,List.lookup,u]) (br (h':=h) (by simp) (aP (by simp[so,List.lookup,g,l]))))
end
def core0(i:Int)(n:Nat):W:=.tup [.str TR,.int i,.tup (List.replicate n Kd.num.ae)]
def eG(i:Int)(n m:Nat):W:=if m=0 then core0 i n else .tup [.str wq,core0 i n,.tup [.str eV,Kd.num.ae]]
section
variable {h:Hp}{q fr nd:Nat}{sh:W}{fs:Fx}{Γ:Cx}{p p2:S}
theorem Oz(k:Nat)(c:Case p p2)(hc:c=aD p p2\/c=aA p p2)(i:Int)(pl:W)(hm:m<=1)(d1:h[r]?=some (dW f e kw co wk))(d2:h[f]?=some (.lst (c.free.map W.str)))(d3:h[e]?=some (.lst ((c.free.take m).map W.str)))(ef:h[F]?=some (.aj c.found))(s:dH h q sh fr nd fs Γ)(en:fs.ns=[]):
  ∃h',run T (k+4) jk [.int i,.ref r,.ref F,pl,.ref q] h=.ok (eG i c.free.length m) h'/\aw h h':=by
 have cmp:ag (run T (k+3)) (.comp dh (.kj (.blt .len (.fld (.var 1) b9))) .none) [some (.int i),some (.ref r),some (.ref F),some pl,some (.ref q),none,none,none] h=.ok (.ref h.length) (h++[.lst (List.replicate c.free.length Kd.num.ae)]):=by
  have s1:1<=SZ:=by decide
  have s2:2<=SZ:=by decide
  have r1:fW 1=true:=by decide
  have r2:fW 2=true:=by decide
  have u1:upTo 0 1=[.int 0]:=rfl;have u2:upTo 0 2=[.int 0,.int 1]:=rfl;rcases hc with rfl|rfl
  .simp only[aD,aX,eM] at d2 ef;simp[jt,d1,d2,List.lookup,r1,u1,jM,dh,ef,eD,aD,s1]
  .simp only[aA,aX,eM] at d2 ef;simp[jt,d1,d2,List.lookup,r2,u2,jM,dh,ef,eD,aA,s2,List.replicate]
 have y1:aw h (h++[.lst (List.replicate c.free.length Kd.num.ae)]):=aw.app _ _;have e1:=y1.keep _ _ d1;have e2:=y1.keep _ _ d2;have e3:=y1.keep _ _ d3;have e4:=y1.keep _ _ ef;have s1:=s.grow y1;have ln:(h++[O.lst (List.replicate c.free.length Kd.num.ae)])[h.length]?=some (.lst (List.replicate c.free.length Kd.num.ae)):=aU _ _;have st:ag (run T (k+3)) (.tup (.cons (.cst (.str [100,101,102])) (.cons (.var 0) (.cons (.blt .tuple (.comp dh (.kj (.blt .len (.fld (.var 1) b9))) .none)) .nil)))) [some (.int i),some (.ref r),some (.ref F),some pl,some (.ref q),none,none,none] h=.ok (core0 i c.free.length) (h++[.lst (List.replicate c.free.length Kd.num.ae)]):=by simp only[qB,bW,cL,fH,aW,qp,cmp,builtin,ln,c6,R.ak];rfl
 generalize h++[O.lst (List.replicate c.free.length Kd.num.ae)]=h1 at *;have:m=0\/m=1:=by omega
 rcases this with rfl|rfl
 .refine⟨h1,?_,y1⟩;simp only[List.take_zero,eM] at e3;rw[aE my];refine bw [some (.int i),some (.ref r),some (.ref F),some pl,some (.ref q),none,none,none] rfl rfl (ax st (aC (σ':=[some (.int i),some (.ref r),some (.ref F),some pl,some (.ref q),some (core0 i c.free.length),none,none]) (h':=h1) ?_ (aP (by simp[eG]))));rw[bz];simp[e1,List.lookup,e3,kB e3]
 .have l:=Gn k s1 en pl;have tk:(c.free.take 1).map W.str=[.str p]:=by rcases hc with rfl|rfl<;>rfl
  rw[tk] at e3;have ix:method .index (.ref f) [.str p] h1=.ok (.int 0) h1:=by rcases hc with rfl|rfl<;>simp[aD,aA] at e2<;>simp[method,e2,hV,aD,aA]
  have fd:c9 (.int 0) c.found=some Kd.num.ae:=by rcases hc with rfl|rfl<;>simp[aD,aA]
  have mo:i6 .index (.ref f) h1=true:=by simp[i6,e2]
  refine⟨h1++[.aj []],?_,y1.trans (aw.app _ _)⟩;have so:=s1.o;rw[aE my];refine bw [some (.int i),some (.ref r),some (.ref F),some pl,some (.ref q),none,none,none] rfl rfl (ax st (aC (σ':=[some (.int i),some (.ref r),some (.ref F),some pl,some (.ref q),some (.tup [.str wq,core0 i c.free.length,.tup [.str eV,Kd.num.ae]]),some (.str p),some Kd.num.ae]) (h':=h1++[.aj []]) ?_ (aP (by simp[eG]))));rw[bz];have b1:aH (run T (k+3)) jR [some (.int i),some (.ref r),some (.ref F),some pl,some (.ref q),some (core0 i c.free.length),some (.str p),none] h1=.ok (.next [some (.int i),some (.ref r),some (.ref F),some pl,some (.ref q),some (.tup [.str wq,core0 i c.free.length,.tup [.str eV,Kd.num.ae]]),some (.str p),some Kd.num.ae]) (h1++[.aj []]):=
   ax (w:=Kd.num.ae) (h':=h1) (by simp[-method, -i6,e1,List.lookup,mo,ix,e4,fd]) (ax (w:=.tup [.str wq,core0 i c.free.length,.tup [.str eV,Kd.num.ae]]) (h':=h1++[.aj []]) (by simp[so,List.lookup,l]) (cP _ _ _))
  have e5:=aK [O.aj []] e3;simp only[cM,nD,aW,g9,gY,c6,fM,R.ak,field,e1,dW,List.lookup,R.bK,src,turns];rw[show (cD== b9)=false from rfl];simp only[BEq.rfl,R.bK,R.ak,e3,src,turns,dX,lO];rw[show 0+1=1 from rfl,show (1:Nat)=0+1 from rfl,jD e3 (x:=.str p) rfl];simp only[turn,iu,g9,gY,b1,R.ak];rw[bO];simp[bg,e5]
end
section
variable {h:Hp}{q fr nd:Nat}{sh:W}{fs:Fx}{p p2:S}
theorem OH(k:Nat)(c:Case p p2)(ok:jX c)(e:h[F]?=some (.aj []))(pl:W):
  ∃F' h',run T (k+7) oQ [(tw false c.G c.G).ae,(tw false c.Wh c.Wh).ae,.ref F,pl] h=.ok (.ref F') h'/\h'[F']?=some (.aj c.found)/\aw h h':=by
 obtain⟨F',h',r,z,y⟩:=ok.met k F h e;refine⟨F',h',?_,z,y⟩;rw[aE Bz];rw[i9,i9] at r⊢;exact bw [some (.tup [.str (lj false),c.G.ae,c.G.ae]),some (.tup [.str (lj false),c.Wh.ae,c.Wh.ae]),some (.ref F),some pl,none] rfl rfl (br (h':=h) (by simp) (ax (w:=.ref F') (h':=h') (by simp[r]) (br (h':=h') (by simp) (aP (by simp)))))
theorem JT(C:Or)(c:Case p p2)(hc:c=aD p p2\/c=aA p p2)(ne:p≠p2)(σ:Env)(ls:σ.length=14)(s7:σ[7]?=some (some (.ref r)))(d1:h[r]?=some (dW f e kw co wk))(d2:h[f]?=some (.lst (c.free.map W.str))):
  ∃ps,ag C (.blt .dictP (.ij bh (.enum (.fld (.var 7) b9)))) σ h=.ok (.ref (h.length+1)) (h++[.lst ps,.aj c.iD]):=by
 have i14:∀u v:W,(σ++[some u,some v])[14]?=some (some u):=fun u v=>by rw[om (by omega),ls];rfl
 have i15:∀u v:W,(σ++[some u,some v])[15]?=some (some v):=fun u v=>by rw[om (by omega),ls];rfl
 have s1:1<=SZ:=by decide
 have s2:2<=SZ:=by decide
 have d:field (.ref r) b9 h=some (.ref f):=by simp[d1,List.lookup]
 rcases hc with rfl|rfl
 .refine⟨[.tup [.str p,(Kd.gap 0).ae]],?_⟩;simp only[aD,aX,eM] at d2;have w:cF f (fE (ag C bh) σ) 1 0 [] h=.ok [.tup [.str p,(Kd.gap 0).ae]] h:=by
   rw[cF];simp only[bg,d2];simp only[c6,fE,bh,qB,bW,cL,aW,fH,i14,i15,R.ak,R.gw,jw];rw[cF];simp[bg,d2,Kd.ae]
  rw[qp,iL];simp only[pN,nD,aW,s7,R.ak,d,R.bK,d2,dX,lO,walk,w,eD,s1,fZ,new,builtin,aU];simp[sE,isKey,dput,aD]
 .refine⟨[.tup [.str p,(Kd.gap 0).ae],.tup [.str p2,(Kd.gap 1).ae]],?_⟩;simp only[aA,aX,eM] at d2;have w:cF f (fE (ag C bh) σ) 2 0 [] h=.ok [.tup [.str p,(Kd.gap 0).ae],.tup [.str p2,(Kd.gap 1).ae]] h:=by
   rw[cF];simp only[bg,d2];simp only[c6,fE,bh,qB,bW,cL,aW,fH,i14,i15,R.ak,R.gw,jw];rw[cF];simp only[bg,d2];simp only[Nat.zero_add,fM,c6,fE,bh,qB,bW,cL,aW,fH,i14,i15,R.ak,R.gw];rw[cF];simp[bg,d2,Kd.ae]
  rw[qp,iL];simp only[pN,nD,aW,s7,R.ak,d,R.bK,d2,dX,lO,walk,w,eD,s2,fZ,new,builtin,aU];simp[sE,isKey,dput,aA,dM,ne]
theorem Ml(k:Nat)(c:Case p p2)(hc:c=aD p p2\/c=aA p p2)(ok:jX c)(ne:p≠p2){a d n A i r f e m:Nat}{rs:List Nat}{x:S}{co wk:W}(hm:m<=1)(D:b6 h a d n rs fs.told fs.z)(esh:sh=.ref a)(hx:c9 (.str x) (b8 0 fs.told)=some (.int i))(er:rs[i]?=some r)
  (d1:h[r]?=some (dW f e (tw false c.A c.A).ae co wk)) (d2:h[f]?=some (.lst (c.free.map W.str))) (d3:h[e]?=some (.lst ((c.free.take m).map W.str))) (hA:h[A]?=some (.lst [])) (s:dH h q sh fr nd fs []) (en:fs.ns=[]) (np pl:W):
  ∃h',run T (k+9) fS [.str x,np,.ref A,(tw false c.Wh c.Wh).ae,pl,.ref q] h=.ok (.tup [eG i c.free.length m,(tw false c.Wh c.Wh).ae]) h'/\aw h h':=by
 subst esh;have so:=s.o;have D0:=D.o;have Dl:=D.l;have Dm:=D.m;have isn:isIn (.str x) (.ref n) h=some true:=by simp[isIn,bC,Dm,hx]
 have al:cH (rs.map W.ref) (i:Int)=some (.ref r):=by
  have hi:i<(rs.map W.ref).length:=by simpa using (eK.mp er).1
  rw[iI _ i hi];have:=(eK.mp er).2;simp[this]
 obtain⟨ps,g1⟩:=JT (run T (k+8)) c hc ne [some (.str x),some np,some (.ref A),some (tw false c.Wh c.Wh).ae,some pl,some (.ref q),some (.int i),some (.ref r),none,none,none,none,none,none] rfl rfl d1 d2;have y1:aw h (h++[.lst ps,.aj c.iD]):=aw.app _ _;have g2:=ok.fill (k+3) (h.length+1) (h++[.lst ps,.aj c.iD]) (by simp);have y2:aw h (h++[.lst ps,.aj c.iD]++[.aj []]++[.lst []]):=(y1.trans (aw.app _ _)).trans (aw.app _ _);have eF:(h++[.lst ps,.aj c.iD]++[.aj []]++[.lst []])[(h++[O.lst ps,.aj c.iD]).length]?=some (.aj []):=aK _ (aU _ _);have eL:(h++[.lst ps,.aj c.iD]++[.aj []]++[.lst []])[(h++[O.lst ps,.aj c.iD]++[O.aj []]).length]?=some (.lst []):=aU _ _;have eA:=y2.keep _ _ hA;obtain⟨F',h3,g3,z3,y3⟩:=OH (k+1) c ok eF pl;have y13:=y2.trans y3;obtain⟨h4,g4,y4⟩:=Oz (k+4) c hc (i:Int) np hm (y13.keep _ _ d1) (y13.keep _ _ d2) (y13.keep _ _ d3) z3 (s.grow y13) en;have g5:=ok.back (k+3) F' h4 (y4.keep _ _ z3);have eL4:=y4.keep _ _ (y3.keep _ _ eL);refine⟨h4,?_,y13.trans y4⟩;generalize (tw false c.G c.G).ae=GW at *;generalize (tw false c.Wh c.Wh).ae=WW at *;generalize eG i c.free.length m=CW at *;generalize hl5:(h++[O.lst ps,.aj c.iD]).length=l5 at *;generalize hl6:(h++[O.lst ps,.aj c.iD]++[O.aj []]).length=l6 at *;rw[aE pd];refine bw [some (.str x),some np,some (.ref A),some WW,some pl,some (.ref q),none,none,none,none,none,none,none,none] rfl rfl ?_;refine br (h':=h) (by simp[so,D0,List.lookup,isn]) ?_;refine ax (w:=.int i) (h':=h) (by simp[so,D0,List.lookup,Dm,hx]) ?_;refine ax (w:=.ref r) (h':=h) (by simp[so,D0,List.lookup,Dl,al]) ?_;refine ax (w:=GW) (h':=h++[.lst ps,.aj c.iD]) ?_ ?_
 .have kf:ag (run T (k+8)) (.fld (.var 7) gO) [some (.str x),some np,some (.ref A),some WW,some pl,some (.ref q),some (.int i),some (.ref r),none,none,none,none,none,none] h=.ok (tw false c.A c.A).ae h:=by
   rw[nD,aW];simp only[fM,c6,R.ak,field,d1,dW];rfl
  show ag (run T (k+8)) (.call lD (.cons (.fld (.var 7) gO) (.cons (.blt .dictP (.ij bh (.enum (.fld (.var 7) b9)))) .nil))) [some (.str x),some np,some (.ref A),some WW,some pl,some (.ref q),some (.int i),some (.ref r),none,none,none,none,none,none] h=_;simp only[jB,bW,cL,kf,g1,R.ak];exact g2
 refine ax (w:=.ref l5) (h':=h++[.lst ps,.aj c.iD]++[.aj []]) (by simp[<-hl5]) ?_;refine ax (w:=.ref l6) (h':=h++[.lst ps,.aj c.iD]++[.aj []]++[.lst []]) (by simp[<-hl6]) ?_;generalize h++[.lst ps,.aj c.iD]++[.aj []]++[.lst []]=h2 at *;refine aC (σ':=[some (.str x),some np,some (.ref A),some WW,some pl,some (.ref q),some (.int i),some (.ref r),some GW,some (.ref l5),some (.ref l6),none,none,none]) (h':=h2) (by rw[bz];simp[eA,kB eA]) ?_;refine ax (w:=.ref F') (h':=h3) (by simp[g3]) ?_;refine ax (w:=CW) (h':=h4) (by simp[g4]) ?_;refine aC (σ':=[some (.str x),some np,some (.ref A),some WW,some pl,some (.ref q),some (.int i),some (.ref r),some GW,some (.ref F'),some (.ref l6),none,none,some CW]) (h':=h4) (by rw[bz];simp[eL4,kB eL4]) ?_;exact aP (by simp[g5])
end
section
variable {h:Hp}{p p2:S}
theorem LQ(c:Case p p2)(hc:c=aD p p2\/c=aA p p2):(tw false c.Wh c.Wh).depth<=50:=by rcases hc with rfl|rfl<;>simp[aD,aA,tw,Kd.depth]
theorem KA(k:Nat)(h:Hp)(q:Nat):run T (k+2) jd [.ref q] h=.ok (.ref (h.length+2)) (h++[.lst [],.lst [],.ins fg [(fF,.ref q),(b9,.ref h.length),(cD,.ref (h.length+1)),(fC,.tup [])]]):=by have i:=ou k (h++[.lst [],.lst []]) (.ref q) (.ref h.length) (.ref (h.length+1)) (.tup []);rw[aE ua];unfold bY i3;simp only[n5,dX,lO,xl,pf,jw] at i;simp[i]
theorem JM(k:Nat)(c:Case p p2)(hc:c=aD p p2\/c=aA p p2)(ok:jX c)(ne:p≠p2){a d n i r f e m:Nat}{rs:List Nat}{told:List S}{z:Option (Nat×S)}{x:S}{co wk:W}(hm:m<=1)(D:b6 h a d n rs told z)(hx:c9 (.str x) (b8 0 told)=some (.int i))(er:rs[i]?=some r)
  (d1:h[r]?=some (dW f e (tw false c.A c.A).ae co wk)) (d2:h[f]?=some (.lst (c.free.map W.str))) (d3:h[e]?=some (.lst ((c.free.take m).map W.str))):
  ∃h',run T (k+13) ir [.ref a,.tup [.str bu,.str x],(tw false c.Wh c.Wh).ae] h=.ok (eG i c.free.length m) h'/\aw h h':=by
 have D0:=D.o;have o:=KA (k+10) h a;have y0:aw h (h++[.lst [],.lst [],.ins fg [(fF,.ref a),(b9,.ref h.length),(cD,.ref (h.length+1)),(fC,.tup [])]]):=aw.app _ _;have s0:dH (h++[.lst [],.lst [],.ins fg [(fF,.ref a),(b9,.ref h.length),(cD,.ref (h.length+1)),(fC,.tup [])]]) (h.length+2) (.ref a) h.length (h.length+1) ⟨[],[],told,z⟩ []:=⟨by simp,by simp,by simp,a,d,n,rs,rfl,D.grow y0⟩;generalize hq:h.length+2=q at *;generalize h.length+1=nd at *;generalize hh:h++[.lst [],.lst [],.ins fg [(fF,.ref a),(b9,.ref h.length),(cD,.ref nd),(fC,.tup [])]]=h0 at *;have y1:aw h0 (h0++[O.lst []]):=aw.app _ _;have s1:=s0.grow y1;have i1:=zK (k+8) s1 x (by decide);have y2:aw h0 (h0++[O.lst []]++[.lst ((([]:Cx).map (·.1)).map W.str)]):=y1.trans (aw.app _ _);have s2:=s0.grow y2;have yh:=y0.trans y2;obtain⟨h3,r3,y3⟩:=Ml k c hc ok ne (fs:=⟨[],[],told,z⟩) (A:=h0.length) hm (D.grow yh) rfl hx er (yh.keep _ _ d1) (yh.keep _ _ d2) (yh.keep _ _ d3) (aK _ (aU h0 _)) s2 rfl (.tup []) (.tup []);have so1:=s1.o;have wh:=IV (n:=FU) (c:=ag (run T (k+9)) hZ) (b:=aH (run T (k+9)) mM) (σ:=[some (.tup [.str bu,.str x]),some (tw false c.Wh c.Wh).ae,some (.tup []),some (.ref q),some (.ref h0.length),some (.tup [.str bu,.str x]),some (.tup []),none,none]) (h:=h0++[O.lst []]) (h':=h0++[O.lst []]) (by decide) (by simp[hZ]);have ce:run T (k+10) lB [.tup [.str bu,.str x],(tw false c.Wh c.Wh).ae,.tup [],.ref q] h0=.ok (.tup [eG i c.free.length m,(tw false c.Wh c.Wh).ae]) h3:=by rw[aE yc];refine bw [some (.tup [.str bu,.str x]),some (tw false c.Wh c.Wh).ae,some (.tup []),some (.ref q),none,none,none,none,none] rfl rfl (ax (w:=.ref h0.length) (h':=h0++[O.lst []]) (by simp) (ax (w:=.tup [.str bu,.str x]) (h':=h0++[O.lst []]) (by simp) (ax (w:=.tup []) (h':=h0++[O.lst []]) (by simp) (aC (by rw[zW];exact wh) (aC (σ':=[some (.tup [.str bu,.str x]),some (tw false c.Wh c.Wh).ae,some (.tup []),some (.ref q),some (.ref h0.length),some (.tup [.str bu,.str x]),some (.tup []),none,none]) (h':=h0++[O.lst []]) (by simp) (yU ?_))))));clear wh;generalize (tw false c.Wh c.Wh).ae=WW at *;generalize eG i c.free.length m=CW at *;simp only[eM,kR,qN] at i1 r3 so1;generalize h0++[O.lst []]=h1 at *;simp[so1,i1,List.lookup,r3]
 have q3:=qz h3 _ (LQ c hc);have de:run T (k+12) cE [.tup [.str bu,.str x],(tw false c.Wh c.Wh).ae,.tup [],.ref q] h0=.ok (eG i c.free.length m) h3:=by rw[down_eq (k+11) (g:=dB) rfl (by decide),aE o8];exact bw [some (.tup [.str bu,.str x]),some (tw false c.Wh c.Wh).ae,some (.tup []),some (.ref q),none,none] rfl rfl (nG (u:=eG i c.free.length m) (v:=(tw false c.Wh c.Wh).ae) (h':=h3) (by simp[ce]) (br (h':=h3) (by simp[q3]) (aP (by simp))))
 refine⟨h3,?_,(y0.trans y2).trans y3⟩;rw[aE sv];exact bw [some (.ref a),some (.tup [.str bu,.str x]),some (tw false c.Wh c.Wh).ae] rfl rfl (aP (by simp[D0,List.lookup,o,de]))
end
abbrev sG:S:=[100,111,110,101]
abbrev Ea:S:=[108,111,111,115,101]
abbrev Ip:S:=[102,111,114,109]
section
variable {k:Nat}{h h':Hp}{a d n b:Nat}{rs:List Nat}{told:List S}{z:Option (Nat×S)}{x f e kw t:W}
theorem nL(D:b6 h a d n rs told z)(m:R W)(r:run T k bF [.ref a,x,f,e,kw,t] h=m)
  (q:∀hs,hs=(match iF.body with | [.se _ hs]=>hs|_=>[])->gp hs (run T k) [some (.ref a),some x,some f,some e,some kw,some t,none] (m.bind fun v h=>.ok (.ret (.tup [v,.str sG])) h)=.ok (.ret w) h'):
  run T (k+1) aY [.ref a,x,f,e,kw,t] h=.ok w h':=by
 have D0:=D.o;rw[aE FO];refine bw [some (.ref a),some x,some f,some e,some kw,some t,none] rfl rfl (yU (h':=h') ?_);rw[wQ];have is:eW (.ref a) [83,104,101,108,102] [116,101,108,108] h=true:=by simp only[eW,D0];rfl
 simp only[iW,uM,xV,GZ,aW,c6,R.gw,R.ak,is,fZ,bW,cL,fM,r];have:=q _ rfl;cases m<;>exact this
theorem DU(D:b6 h a d n rs told z)(r:run T k bF [.ref a,x,f,e,kw,t] h=.ok .aq h'):run T (k+1) aY [.ref a,x,f,e,kw,t] h=.ok (.tup [.aq,.str sG]) h':=
 nL D _ r fun hs _=>by simp[gp]
theorem yr(D:b6 h a d n rs told z)(r:run T k bF [.ref a,x,f,e,kw,t] h=.au b h')(q:h'[b]?=some (.au jv [(cm,w1),(bu,w2)])):run T (k+1) aY [.ref a,x,f,e,kw,t] h=.ok (.tup [w1,w2]) h':=
 nL D _ r fun hs e=>by subst e;simp[gp,q,iF,List.lookup]
theorem Ep(D:b6 h a d n rs told z)(r:run T k bF [.ref a,x,f,e,kw,t] h=.au b h')(q:h'[b]?=some (.au Ii gs)):run T (k+1) aY [.ref a,x,f,e,kw,t] h=.ok (.tup [.str jN,.bl false]) h':=
 nL D _ r fun hs e=>by subst e;simp[gp,q,iF,List.lookup]
theorem CA(D:b6 h a d n rs told z)(r:run T k bF [.ref a,x,f,e,kw,t] h=.au b h')(q:h'[b]?=some (.au fe gs)):run T (k+1) aY [.ref a,x,f,e,kw,t] h=.ok (.tup [.str Ea,.bl false]) h':=
 nL D _ r fun hs e=>by subst e;simp[gp,q,iF,List.lookup]
theorem BW(D:b6 h a d n rs told z)(r:run T k bF [.ref a,x,f,e,kw,t] h=.au b h')(q:h'[b]?=some (.au yq gs)):run T (k+1) aY [.ref a,x,f,e,kw,t] h=.ok (.tup [.str Ip,.bl true]) h':=
 nL D _ r fun hs e=>by subst e;simp[gp,q,iF,List.lookup]
end
noncomputable abbrev vX:W:=.tup [.str bu,.str [120]]
abbrev fh:S:=[122,122]
def tm:W:=.tup [.str iA,.str [120],.tup [.str sX,.tup [.str lK],.tup [.str C9],.tup [.str eV,vX,vX]]]
noncomputable def m9:W:=.tup [.str iA,.str [120],.tup [.str eV,.tup [.str jN,.tup [.str qP,.int 1],(Kd.row (.any fh)).ae],.tup [.str lK]]]
theorem lP.mono{gs:List W->List (S×W)}(g:lP fs Γ n f kd c gs)(l:n<=m):lP fs Γ m f kd c gs:=
 fun k hk pl q sh fr nd h hp hg s=>g k (by omega) pl q sh fr nd h (by omega) (by omega) s
section
variable {p q:S}{told:List S}{z:Option (Nat×S)}
theorem Oc(ne:p≠q):lP ⟨[p,q],[q],told,z⟩ [] 16 tm (.work (.pair (.any q) (.any p)) .tru) kH fun pl=>[(cm,.tup ((pl++[.int 0])++[.int 2])),(gO,(Kd.any p).ae)]:=by
 have fa:o7 [120] [([120],Kd.pair (.any q) (.any p))]=some (0,Kd.pair (.any q) (.any p)):=rfl;have L:yT ⟨[p,q],[q],told,z⟩ [([120],Kd.pair (.any q) (.any p))] 8 (.tup [.str eV,vX,vX]) kH fun pl=>[(cm,.tup pl),(gO,(Kd.any p).ae)]:=
  Fq (n:=4) (Bi fa) (uZ (by simp[Kd.depth]) fa) (Fe (by simp) (by simpa using ne))
 have F:lP ⟨[p,q],[q],told,z⟩ [([120],Kd.pair (.any q) (.any p))] 10 (.tup [.str eV,vX,vX]) .tru kH fun pl=>[(cm,.tup pl),(gO,(Kd.any p).ae)]:=AH (by decide) L;exact BQ (n:=14) (by decide) (R4 (n:=12) (Fg.mono (by decide)) (Kn.mono (by decide)) (F.mono (by decide)))
theorem N7(n1:fh≠p)(n2:fh≠q):lP ⟨[p,q],[],told,z⟩ [] 16 m9 (.work (.pair (.any q) (.any p)) .tru) jv fun pl=>[(cm,.tup ((pl++[.int 0])++[.int 0])),(bu,.str fh)]:=by
 have L:yT ⟨[p,q],[],told,z⟩ [([120],Kd.pair (.any q) (.any p))] 6 (.tup [.str jN,.tup [.str qP,.int 1],(Kd.row (.any fh)).ae]) jv fun pl=>[(cm,.tup pl),(bu,.str fh)]:=
  Ji (x:=fh) (post:=[]) (kd:=.row (.any fh)) rfl (by simp[n1,n2]) (by decide)
 have F:lP ⟨[p,q],[],told,z⟩ [([120],Kd.pair (.any q) (.any p))] 10 (.tup [.str eV,.tup [.str jN,.tup [.str qP,.int 1],(Kd.row (.any fh)).ae],.tup [.str lK]]) .tru jv fun pl=>[(cm,.tup (pl++[.int 0])),(bu,.str fh)]:=AH (by decide) (Ga L);exact BQ (n:=14) (by decide) (F.mono (by decide))
end
def bE(p q:S):Kd:=.work (.pair (.any q) (.any p)) .tru
theorem Jj(ne:p≠q):(bE p q).put []=[q,p]:=by have:¬ q=p:=fun z=>ne z.symm;simp[bE,Kd.put,j0,this,ne]
theorem Dp(k:Nat)(h:Hp):run T (k+1) mz [.str [120]] h=.ok (.tup [.str eV,vX,vX]) h:=by rw[aE DL];exact bw [some (.str [120])] rfl rfl (aP (by simp))
section
variable {h:Hp}{a d n L:Nat}{rs:List Nat}{told:List S}{z:Option (Nat×S)}{p q g:S}
theorem Ei(D:b6 h a d n rs told z)(nn:g∉told)(eL:h[L]?=some (.lst [.str p,.str q]))(ne:p≠q)(n1:fh≠p)(n2:fh≠q):
  ∃h',run T 44 eZ [.ref a,.str g,.ref L] h=.ok (.bl true) h'/\aw h h':=by
 have pt:=Jj ne;have s1:∀x∈(bE p q).put [],x∈ [p,q]:=by rw[pt];intro x hx;simp at hx⊢;exact hx.symm
 have s2:∀x∈ [p,q],x∈(bE p q).put []:=by rw[pt];intro x hx;simp at hx⊢;exact hx.symm
 have dd:(bE p q).depth=2:=rfl;have y2:aw h (h++[.lst [.str p,.str q]]++[.lst [.str q]]):=(aw.app _ _).trans (aw.app _ _);obtain⟨b,h3,r3,y3,z3⟩:=p0 (k:=42) (N:=16) (fs:=[p,q]) (ns:=[q]) (kd:=bE p q) (term:=tm) (name:=g) (fr:=h.length) (nd:=h.length+1) (D.grow y2) nn (by simp) (by simp) (by rw[dd];decide) (by decide) (by decide) (by decide) (by rw[dd];decide) s1 s2 (by simp) (Oc ne);have D3:=(D.grow y2).grow y3;have L3:=y3.keep _ _ (y2.keep _ _ eL);have L1:=aK [O.lst [.str p,.str q]] eL;have y4:aw h3 (h3++[.lst [.str p,.str q]]++[.lst []]):=(aw.app _ _).trans (aw.app _ _);obtain⟨b5,h5,r5,y5,z5⟩:=p0 (k:=41) (N:=16) (fs:=[p,q]) (ns:=[]) (kd:=bE p q) (term:=m9) (name:=g) (fr:=h3.length) (nd:=h3.length+1) (D3.grow y4) nn (by simp) (by simp) (by rw[dd];decide) (by decide) (by decide) (by decide) (by rw[dd];decide) s1 s2 (by simp) (N7 n1 n2);have t5:=yr (D3.grow y4) r5 z5;have q5:=fo h5 (w:=.tup [.tup [.int 0,.int 0],.str fh]) (by simp[W.pure,dF]) (by simp[W.deep,cV]);have e1:=fo h3 (w:=.tup [.int 0,.int 2]) (by simp[W.pure,dF]) (by simp[W.deep,cV]);have e2:=fo h3 (w:=.tup [.str bM,.str p]) (by simp[W.pure,dF]) (by simp[W.deep,cV]);refine⟨h5,?_,(((y2.trans y3).trans y4).trans y5)⟩;have D0:=D.o;have is:eW (.ref a) [83,104,101,108,102] [116,101,108,108] h=true:=by simp only[eW,D0];rfl
 rw[aE qT];refine bw [some (.ref a),some (.str g),some (.ref L),none,none,none,none] rfl rfl ?_;refine ax (w:=(Kd.pair (.any q) (.any p)).ae) (h':=h) (by simp[eL,Kd.ae]) ?_;refine ax (w:=(bE p q).ae) (h':=h) (by simp[bE,Kd.ae]) ?_;refine aC (σ':=[some (.ref a),some (.str g),some (.ref L),some (Kd.pair (.any q) (.any p)).ae,some (bE p q).ae,none,none]) (h':=h3) ?_ ?_
 .rw[wQ];have lk:=Dp 42 (h++[.lst [.str p,.str q]]++[.lst [.str q]]);have ct:cut [W.str p,.str q] (some 1) none=[.str q]:=rfl;have args:∀σ,σ=[some (.ref a),some (.str g),some (.ref L),some (Kd.pair (.any q) (.any p)).ae,some (bE p q).ae,none,none]->cw (run T 43) (.cons (.var 1) (.cons (.blt .list (.var 2)) (.cons (.sl (.var 2) (.some (.cst (.int 1))) .none) (.cons (.var 4) (.cons (.tup (.cons (.cst (.str [102,117,110])) (.cons (.cst (.str [120])) (.cons (.tup (.cons (.cst (.str [105,102])) (.cons (.tup (.cons (.cst (.str [121,101,115])) .nil)) (.cons (.tup (.cons (.cst (.str [110,111])) .nil)) (.cons (.call mz (.cons (.cst (.str [120])) .nil)) .nil))))) .nil)))) .nil))))) σ h=.ok [.str g,.ref h.length,.ref (h.length+1),(bE p q).ae,tm] (h++[.lst [.str p,.str q]]++[.lst [.str q]]):=by
   intro σ e;subst e;generalize (bE p q).ae=KW at *;have lk':=lk;simp only[xl,pf,jw] at lk';simp[eL,L1,ct,lk',tm]
  simp only[iW,uM,xV,GZ,g9,gY,aW,c6,R.gw,R.ak,is,fZ,args _ rfl,r3,R.rL];simp[gp,z3,List.lookup,L3,e1,e2,Kd.ae]
 refine ax (w:=m9) (h':=h3) (by simp[m9,Kd.ae]) ?_;refine aP (w:=.bl true) (h':=h5) ?_;have r5':=t5;simp only[xl,pf,jw] at r5';generalize (bE p q).ae=KW at *;generalize m9=FF at *;simp[L3,r5',q5]
end
theorem xn(k p:Nat):LN (run T (k+1)) dZ p:=Jm (nx:=dZ) rfl k p
theorem yd(k p:Nat)(h:Hp)(g:Gen p h):∃x h',run T (k+2) jA [.ref p] h=.ok (.str x) h'/\x.length<=8/\Ext p h h'/\Gen p h':=by rw[aE Fj];exact Ju (nx:=dZ) (xn k p) h g
theorem EU(k:Nat)(h:Hp):run T (k+1) iZ [.ref h.length] (h++[.ins qC []])=.ok .aq (h++[.ins qC [(BV,.ref (h.length+1)),(Bx,.ref (h.length+2))],.lst [],.aj []]):=by rw[aE yI];unfold bY lu;simp[fX]
abbrev oZ:W:=.tup [.str iA,.str [120],vX]
noncomputable abbrev iy:W:=.tup [.str iA,.str [120],.tup [.str lK]]
structure Inv(NA GA a d n:Nat)(p q r:S)(fr:List S)(rs:List Nat)(told:List S)(h:Hp):Prop where
 g:Gen 2 h
 na:h[NA]?=some (.lst [.str p,.str q,.str r])
 ga:h[GA]?=some (.lst (fr.map W.str))
 D:b6 h a d n rs told none
 n2:NA≠2/\GA≠2/\a≠2/\d≠2/\n≠2
section
variable {NA GA a d n:Nat}{p q r:S}{fr told:List S}{rs:List Nat}{h h':Hp}
theorem Inv.grow(I:Inv NA GA a d n p q r fr rs told h)(y:aw h h'):Inv NA GA a d n p q r fr rs told h':=⟨y.gen I.g,y.keep _ _ I.na,y.keep _ _ I.ga,I.D.grow y,I.n2⟩
theorem Inv.ext(I:Inv NA GA a d n p q r fr rs told h)(x:Ext 2 h h')(g:Gen 2 h'):Inv NA GA a d n p q r fr rs told h':=
 ⟨g,x.keep _ _ I.na I.n2.1,x.keep _ _ I.ga I.n2.2.1,⟨x.keep _ _ I.D.o I.n2.2.2.1,x.keep _ _ I.D.l I.n2.2.2.2.1,x.keep _ _ I.D.m I.n2.2.2.2.2,I.D.e,fun _ _ z=>by cases z⟩,I.n2⟩
end
theorem D9(i:Int)(c n:Nat)(hn:n<=2):(eG i n c).pure=true/\(eG i n c).deep<=60:=by
 have:n=0\/n=1\/n=2:=by omega
 rcases this with rfl|rfl|rfl<;>(by_cases z:c=0<;>simp[eG,core0,z,List.replicate,Kd.ae,W.pure,dF,W.deep,cV])
theorem zb(c:Case p p2)(hc:c=aD p p2\/c=aA p p2)(ok:jX c)(ne:p≠p2)(hm:m<=1)(D:b6 h a d n rs told z)(hx:c9 (.str x) (b8 0 told)=some (.int 1))(er:rs[1]?=some r)
  (d1:h[r]?=some (dW f e (tw false c.A c.A).ae co wk)) (d2:h[f]?=some (.lst (c.free.map W.str))) (d3:h[e]?=some (.lst ((c.free.take m).map W.str))):
  ∃h',run T 44 hU [.ref a,.str x,.int c.free.length,.bl (decide (m=1))] h=.ok (.bl true) h'/\aw h h':=by
 obtain⟨h',w,y⟩:=JM 30 c hc ok ne (i:=1) hm D hx er d1 d2 d3;refine⟨h',?_,y⟩;have D0:=D.o;have ln:c.free.length<=2:=by rcases hc with rfl|rfl<;>simp[aD,aA]
 have cp:=D9 1 m c.free.length ln;have q:=fo h' cp.1 cp.2;have wh:(c.Wh).ae=if c.free.length=2 then (Kd.pair .num .num).ae else Kd.num.ae:=by rcases hc with rfl|rfl<;>rfl
 have m0:m=0\/m=1:=by omega
 rw[i9,show lj false=bo from rfl,show ((1:Nat):Int)=1 from rfl] at w;rw[aE zc];refine bw [some (.ref a),some (.str x),some (.int c.free.length),some (.bl (decide (m=1))),none,none,none] rfl rfl ?_;refine ax (w:=Kd.num.ae) (h':=h) (by simp[Kd.ae]) ?_;refine ax (w:=c.Wh.ae) (h':=h) ?_ ?_
 .rcases hc with rfl|rfl
  .simp[aD]
  .simp[aA,tw,Kd.ae]
 refine ax (w:=core0 1 c.free.length) (h':=h) ?_ ?_
 .rcases hc with rfl|rfl
  .simp[aD,core0]
  .simp[aA,core0,List.replicate]
 rcases m0 with rfl|rfl
 .refine br (h':=h) (by simp) (aP (w:=.bl true) (h':=h') ?_);have cN:eG 1 c.free.length 0=core0 1 c.free.length:=rfl;rw[cN] at w q;generalize core0 1 c.free.length=CW at *;generalize c.Wh.ae=WW at *;simp[D0,List.lookup,w,q]
 .refine A7 (h':=h) (h3:=h) (σ':=[some (.ref a),some (.str x),some (.int c.free.length),some (.bl (decide (1=1))),some Kd.num.ae,some c.Wh.ae,some (eG 1 c.free.length 1)]) (by simp) (ax (w:=eG 1 c.free.length 1) (h':=h) (by simp[eG]) (cP _ _ _)) (aP (w:=.bl true) (h':=h') ?_);generalize eG 1 c.free.length 1=CW at *;generalize c.Wh.ae=WW at *;simp[D0,List.lookup,w,q]
theorem ask(e1:cw C es σ h=.ok ws h1)(e2:C aY ws h1=.ok res h2)(e3:ag C ex σ h2=.ok res h2)(e4:bX h2 res res=some true):ag C (.cmp .ne (.call aY es) ex) σ h=.ok (.bl false) h2:=by simp only[Am,jB,e1,R.ak,e2,e3,cmp,e4,Option.map_some,R.bK,Bool.not_true]
structure CF{p q:S}(c:Case p q)(l:S)(fr:List S):Prop where
 s1:∀x∈(tw false c.A c.A).put [],x∈c.free
 s2:∀x∈c.free,x∈(tw false c.A c.A).put []
 s0:∀r,r≠p->r≠q->r∉c.free/\r∉(tw false c.A c.A).put []
 dep:(tw false c.A c.A).depth<=2
 LG:c.A.depth<=50
 nt:c.A≠.tru
 l0:∃post,(tw false c.A c.A).put []=l::post
 ln:l∉fr
theorem U8(p q:S):CF (aD p q) p []:=by
 have pt:(tw false (aD p q).A (aD p q).A).put []=[p]:=by simp[aD,tw,Kd.put,j0]
 refine⟨by rw[pt];simp[aD],by rw[pt];simp[aD],fun r h1 h2=>by rw[pt];simp[aD,h1],by simp[aD,tw,Kd.depth],by simp[aD,Kd.depth],by simp[aD],⟨[],pt⟩,by simp⟩
theorem Vb(ne:p≠q):CF (aA p q) q [p]:=by
 have ne':¬ q=p:=fun z=>ne z.symm;have pt:(tw false (aA p q).A (aA p q).A).put []=[q,p]:=by simp[aA,tw,Kd.put,j0,ne,ne']
 refine⟨by rw[pt];simp[aA],by rw[pt];simp[aA],fun r h1 h2=>by rw[pt];simp[aA,h1,h2],by simp[aA,tw,Kd.depth],by simp[aA,tw,Kd.depth],by simp[aA,tw],⟨[p],pt⟩,by simpa using ne'⟩
theorem J8(C:Or)(ne:p≠q)(c:Case p q)(hc:(c=aD p q/\l=p/\fr=[])\/(c=aA p q/\l=q/\fr=[p]))(σ:Env)(ls:σ.length=17)(s6:σ[6]?=some (some (.ref GA)))(zT:σ[13]?=some (some (.str l)))(e:h[GA]?=some (.lst (c.free.map W.str))):
  ag C (.comp ip (.seq (.var 6)) (.some iq)) σ h=.ok (.ref h.length) (h++[.lst (fr.map W.str)]):=by
 have i17:∀u:W,(σ++[some u])[17]?=some (some u):=fun u=>by rw[om (by omega),ls];rfl
 have i13:∀u:W,(σ++[some u])[13]?=some (some (.str l)):=fun u=>by rw[ja (by omega)];exact zT
 have s0:0<=SZ:=by decide
 have s1:1<=SZ:=by decide
 have ka:∀(x:S)(acc:List W),x≠l->jM (iB C (.some iq)) (ag C ip) σ (.str x) acc h=.ok (acc++[.str x]) h:=fun x acc hx=>by
  simp[jM,iq,ip,i17,i13,hx]
 have kb:∀(acc:List W),jM (iB C (.some iq)) (ag C ip) σ (.str l) acc h=.ok acc h:=fun acc=>by
  simp[jM,iq,ip,i17,i13]
 rw[jt];rcases hc with ⟨rfl,rfl,rfl⟩|⟨rfl,rfl,rfl⟩
 .simp only[aD,aX,eM] at e;simp only[cM,aW,s6,R.ak,src,e,R.bK,walk,dX,lO];rw[cW];simp only[bg,e,c6,kb,R.ak];rw[cW];simp[bg,e,eD,s0]
 .simp only[aA,aX,eM] at e;simp only[cM,aW,s6,R.ak,src,e,R.bK,walk,dX,lO];rw[cW];simp only[bg,e,c6,ka p [] ne,R.ak];rw[cW];simp only[bg,e,Nat.zero_add,fM,c6,kb,R.ak];rw[cW];simp[bg,e,eD,s1]
abbrev env(y:S)(NA GA a:Nat)(m:Int)(A Wk:W)(first name l:S)(o14 o15 o16:Option W):Env:=
 [some (.ref 0),some (.ref 2),some (.str y),some (.ref NA),some (.int m),some A,some (.ref GA),some Wk,some oZ,some (.ref a),some (.str first),some (.str name),some iy,some (.str l),o14,o15,o16]
section
variable {NA GA a d n:Nat}{y p q r first name l:S}{fr told:List S}{rs:List Nat}{h:Hp}{m:Int}{o14 o15 o16:Option W}{c:Case p q}
theorem oM(cf:CF c l fr)(I:Inv NA GA a d n p q r c.free rs told h)(nn:name∉told)(hp:r≠p)(hq:r≠q)(fx:h[fa]?=some (.lst ((c.free++[r]).map W.str))\/(h[fa]?=some (.lst (c.free.map W.str))/\h[na]?=some (.lst [.str r]))):
  ∃h',aH (run T 44) rV (env y NA GA a m c.A.ae (tw false c.A c.A).ae first name l (some (.ref fa)) (some (.ref na)) o16) h=.ok (.next (env y NA GA a m c.A.ae (tw false c.A c.A).ae first name l (some (.ref fa)) (some (.ref na)) o16)) h'/\Inv NA GA a d n p q r c.free rs told h'/\Ext 2 h h':=by
 obtain⟨v,h1,r1,a1,b1,x1,g1⟩:=xn 43 2 2 (h++[.lst [oZ,iy]]) (I.grow (aw.app _ _)).g (by decide);have x0:Ext 2 h (h++[.lst [oZ,iy]]):=Ext.app _ _ _;have I1:=(I.grow (aw.app h [.lst [oZ,iy]])).ext x1 g1;have ll:h1[h.length]?=some (.lst [oZ,iy]):=x1.keep _ _ (aU _ _) (bc (Gen.LV I.g));obtain⟨t,ht⟩:∃t,cH [oZ,iy] v=some t:=by obtain⟨t,_,e⟩:=DB [oZ,iy] v a1 (by simpa using b1);exact⟨t,e⟩
 have kk:(tw false c.A c.A).depth+3<=41:=by have:=cf.dep;omega
 have k2:2 ^ (tw false c.A c.A).depth<=SZ:=cS (mR (by decide) cf.dep) (by decide);have nr:=cf.s0 r hp hq;have keepx:∀u o,h[u]?=some o->u≠2->h1[u]?=some o:=fun u o e z=>x1.keep _ _ (aK _ e) z;have nf:∀(u:Nat)(o:List S),h[u]?=some (.lst (o.map W.str))->u≠2:=fun u o e z=>by
  obtain⟨_,_,_,_,q2,_⟩:=I.g.ex;rw[z,q2] at e;cases o with
  |nil=>cases e
  |cons _ _=>cases e
 have rf:run T 42 cz [.ref fa,.ref na,(tw false c.A c.A).ae] h1=.au (hN h1 (tw false c.A c.A)).length (hN h1 (tw false c.A c.A)++[.au fe []]):=by
  rcases fx with fx|⟨fx,fy⟩
  .exact Fw (fs:=c.free++[r]) (pre:=c.free) (post:=[]) (x:=r) (keepx _ _ fx (nf _ _ fx)) kk k2 (fun z hz=>Hr _ (cf.s1 z hz)) rfl cf.s2 nr.2 (.ref na)
  .exact F0 (fs:=c.free) (ns:=[r]) (pre:=[]) (post:=[]) (x:=r) (keepx _ _ fx (nf _ _ fx)) (keepx _ _ fy (nf _ [r] fy)) kk k2 cf.s1 cf.s2 rfl (by simp) nr.1
 have tl:=tW I1.D nn (t:=t) rf;have tq:=CA I1.D tl (aU _ _);have y2:aw h1 (hN h1 (tw false c.A c.A)++[.au fe []]):=(aw.app _ _).trans (aw.app _ _);have qq:=fo (hN h1 (tw false c.A c.A)++[.au fe []]) (w:=.tup [.str Ea,.bl false]) (by simp[W.pure,dF]) (by simp[W.deep,cV]);refine⟨hN h1 (tw false c.A c.A)++[.au fe []],?_,I1.grow y2,(x0.trans x1).trans ⟨y2.len,fun u o e _=>y2.keep u o e⟩⟩;refine br (h':=hN h1 (tw false c.A c.A)++[.au fe []]) (ask (h1:=h1) (ws:=[.ref a,.str name,.ref fa,.ref na,(tw false c.A c.A).ae,t]) ?_ tq (by simp) qq) (cP _ _ _);generalize (tw false c.A c.A).ae=WW at *;generalize c.A.ae=AW at *;simp[r1,ll,ht]
end
section
variable {NA GA a d n:Nat}{y p q r first name l:S}{fr told:List S}{rs:List Nat}{h h':Hp}{m:Int}{o14 o15 o16:Option W}{c:Case p q}
theorem Inv.tell(I:Inv NA GA a d n p q r fs rs told h)(x:xM d n h h')(D:b6 h' a d n rs' told' none)(b:2<d/\2<n)(k:NA≠d/\NA≠n/\GA≠d/\GA≠n):Inv NA GA a d n p q r fs rs' told' h':=by obtain⟨A,C,L,N,e1,e2,e3⟩:=I.g.ex;exact⟨⟨A,C,L,N,x.keep _ _ e1 (by omega) (by omega),x.keep _ _ e2 (by omega) (by omega),e3⟩,x.keep _ _ I.na k.1 k.2.1,x.keep _ _ I.ga k.2.2.1 k.2.2.2,D,I.n2⟩
theorem Pf(cf:CF c l fr)(fs:Fx):Goes fs [] 8 oZ (tw false c.A c.A) (.tup [.str iA,c.A.ae,.tup [.str mT,.int 0]]):=
 (GJ (n:=4) (by decide) (uZ (x:=[120]) (n:=0) (a:=c.A) cf.LG (by simp[o7]))).mono (by decide)
theorem LM(cf:CF c l fr)(fs:Fx):lP fs [] 8 iy (tw false c.A c.A) yq fun pl=>[(cm,.tup (pl++[.int 0])),([119,97,110,116,101,100],c.A.ae),([102,111,117,110,100],.tup [.str c8])]:=
 (BQ (n:=4) (by decide) (Qj cf.LG cf.nt)).mono (by decide)
theorem AI(cf:CF c l fr):(tw false c.A c.A).depth+4<=42/\2 ^ (tw false c.A c.A).depth<=SZ:=⟨by have:=cf.dep;omega,cS (mR (by decide) cf.dep) (by decide)⟩
theorem xm(cf:CF c l fr)(I:Inv NA GA a d n p q r c.free rs told h){nm:S}(nn:nm∉told){fa na:Nat}{ns:List S}(hf:h[fa]?=some (.lst (c.free.map W.str)))(hn:h[na]?=some (.lst (ns.map W.str)))(sn:∀x∈ns,x∈c.free)(b:2<d/\2<n)(k:NA≠d/\NA≠n/\GA≠d/\GA≠n)(kf:fa≠d)(kn:na≠d)(tl:told.length<=5):
  ∃rr h',run T 44 aY [.ref a,.str nm,.ref fa,.ref na,(tw false c.A c.A).ae,oZ] h=.ok (.tup [.aq,.str sG]) h'/\Inv NA GA a d n p q r c.free (rs++[rr]) (told++[nm]) h'/\xM d n h h'/\∃f e co wk,(h.length<=rr/\h.length<=f/\h.length<=e)/\h'[rr]?=some (dW f e (tw false c.A c.A).ae co wk)/\h'[f]?=some (.lst (c.free.map W.str))/\h'[e]?=some (.lst (ns.map W.str)):=by
 have kd:=AI cf;obtain⟨rr,h',e,D',E,x⟩:=Jk (k:=42) (N:=8) I.D nn hf hn kf kn (FH (Hq tl 1) (by decide)) kd.1 (by decide) (by decide) (by decide) kd.2 cf.s1 cf.s2 sn (Pf cf _);exact⟨rr,h',DU I.D e,I.tell E D' b k,E,x⟩
theorem He(I:Inv NA GA a d n p q r c.free rs told h)(nn:nm∈told)(f e t:W):∃h',run T 44 aY [.ref a,.str nm,f,e,(tw false c.A c.A).ae,t] h=.ok (.tup [.str jN,.bl false]) h'/\aw h h':=
 ⟨_,Ep I.D (CN (k:=42) I.D nn f e _ t) (aU _ _),aw.app _ _⟩
theorem KQ(cf:CF c l fr)(I:Inv NA GA a d n p q r c.free rs told h)(nn:nm∉told)(hf:h[fa]?=some (.lst (fr.map W.str)))(e t:W):∃h',run T 44 aY [.ref a,.str nm,.ref fa,e,(tw false c.A c.A).ae,t] h=.ok (.tup [.tup [],.str l]) h'/\aw h h':=by obtain⟨post,ep⟩:=cf.l0;have kd:=AI cf;have rf:=G0 (k:=41) (fs:=fr) (pre:=[]) (post:=post) (x:=l) hf (by omega) kd.2 ep (by simp) cf.ln e;exact⟨_,yr I.D (tW I.D nn (t:=t) rf) (aU _ _),(aw.app _ _).trans (aw.app _ _)⟩
theorem FN(cf:CF c l fr)(I:Inv NA GA a d n p q r c.free rs told h)(nn:nm∉told):∃h',run T 44 aY [.ref a,.str nm,.ref GA,.ref GA,(tw false c.A c.A).ae,iy] h=.ok (.tup [.str Ip,.bl true]) h'/\aw h h':=by have kd:=AI cf;obtain⟨b,h',e,y,z⟩:=p0 (k:=42) (N:=8) I.D nn I.ga I.ga kd.1 (by decide) (by decide) (by decide) kd.2 cf.s1 cf.s2 (fun _ z=>z) (LM cf _);exact⟨h',BW I.D e z,y⟩
end
theorem G4{h:Hp}{a b:Nat}{l:List S}(e1:h[a]?=some (.lst (l.map W.str)))(e2:h[b]?=some (.lst (l.map W.str))):bX h (.ref a) (.ref b)=some true:=by
 have t:=yQ h 59 l;have q:∀l:List S,nZ (l.map W.str) (l.map W.str)=true:=fun l=>by induction l with
  |nil=>simp
  |cons x l ih=>simp[ih]
 simp[bX,bC,e1,e2,t,q]
theorem wY(h:Hp)(x:S)(b:Bool):bX h (.tup [.str x,.bl b]) (.tup [.str x,.bl b])=some true:=fo h (by simp[W.pure,dF]) (by simp[W.deep,cV])
theorem vQ(h:Hp):bX h (.tup [.aq,.str sG]) (.tup [.aq,.str sG])=some true:=fo h (by simp[W.pure,dF]) (by simp[W.deep,cV])
theorem FT(h:Hp)(x:S):bX h (.tup [.tup [],.str x]) (.tup [.tup [],.str x])=some true:=fo h (by simp[W.pure,dF]) (by simp[W.deep,cV])
noncomputable abbrev s1:St:=.set 1 (.lst (.cons (.cst (.int 73)) (.cons (.blt .list (.var 0)) (.cons (.cst (.int 0)) .nil))))
noncomputable abbrev s2:St:=.set 2 (.sl (.call jA (.cons (.var 1) .nil)) .none (.some (.cst (.int 7))))
noncomputable abbrev s3:St:=.set 3 (.lst (.cons (.bin .add (.var 2) (.cst (.str [112]))) (.cons (.bin .add (.var 2) (.cst (.str [113]))) (.cons (.bin .add (.var 2) (.cst (.str [114]))) .nil))))
noncomputable abbrev s4:St:=.set 4 (.bin .add (.cst (.int 1)) (.call dZ (.cons (.var 1) (.cons (.cst (.int 2)) .nil))))
noncomputable abbrev s5:St:=.set 5 (.tup (.cons (.cst (.str [97,110,121])) (.cons (.idx (.var 3) (.cst (.int 0))) .nil)))
noncomputable abbrev s6:St:=.iff (.cmp .eq (.var 4) (.cst (.int 2))) [.set 5 (.tup (.cons (.cst (.str [112,97,105,114])) (.cons (.tup (.cons (.cst (.str [97,110,121])) (.cons (.idx (.var 3) (.cst (.int 1))) .nil))) (.cons (.var 5) .nil))))] []
noncomputable abbrev s7:St:=.set 6 (.sl (.var 3) .none (.some (.var 4)))
noncomputable abbrev s8:St:=.set 7 (.tup (.cons (.cst (.str [119,111,114,107])) (.cons (.var 5) (.cons (.var 5) .nil))))
noncomputable abbrev s9:St:=.set 8 (.tup (.cons (.cst (.str [102,117,110])) (.cons (.cst (.str [120])) (.cons (.tup (.cons (.cst (.str [110,97,109,101])) (.cons (.cst (.str [120])) .nil))) .nil))))
noncomputable abbrev Ia:St:=.set 9 (.mk [83,104,101,108,102] iZ .nil)
noncomputable abbrev IA:St:=.set 10 (.bin .add (.cst (.str [102])) (.sl (.call jA (.cons (.var 1) .nil)) .none (.some (.cst (.int 7)))))
noncomputable abbrev HJ:St:=.iff (.cmp .ne (.call aY (.cons (.var 9) (.cons (.var 10) (.cons (.var 6) (.cons (.lst .nil) (.cons (.var 7) (.cons (.var 8) .nil))))))) (.tup (.cons (.cst .aq) (.cons (.cst (.str [100,111,110,101])) .nil)))) [.bad] []
noncomputable abbrev zT:St:=.set 11 (.bin .add (.cst (.str [103])) (.var 2))
noncomputable abbrev IP:St:=.set 12 (.tup (.cons (.cst (.str [102,117,110])) (.cons (.cst (.str [120])) (.cons (.tup (.cons (.cst (.str [121,101,115])) .nil)) .nil))))
noncomputable abbrev H9:St:=.set 13 (.idx (.var 3) (.bin .sub (.var 4) (.cst (.int 1))))
noncomputable abbrev zF:St:=.iff (.cmp .ne (.call aY (.cons (.var 9) (.cons (.var 10) (.cons (.lst .nil) (.cons (.lst (.cons (.cst (.str [122,122])) .nil)) (.cons (.var 7) (.cons (.var 12) .nil))))))) (.tup (.cons (.cst (.str [116,111,108,100])) (.cons (.cst (.bl false)) .nil)))) [.bad] []
abbrev zL:St:=.iff (.cmp .ne (.call aY (.cons (.var 9) (.cons (.var 11) (.cons (.comp ip (.seq (.var 6)) (.some iq)) (.cons (.lst (.cons (.cst (.str [122,122])) .nil)) (.cons (.var 7) (.cons (.var 12) .nil))))))) (.tup (.cons (.tup .nil) (.cons (.var 13) .nil)))) [.bad] []
abbrev zw:St:=.for (.two 14 15) (.seq (.lst (.cons (.tup (.cons (.bin .add (.var 6) (.lst (.cons (.idx (.var 3) (.cst (.int 2))) .nil))) (.cons (.lst .nil) .nil))) (.cons (.tup (.cons (.var 6) (.cons (.lst (.cons (.idx (.var 3) (.cst (.int 2))) .nil)) .nil))) (.cons (.tup (.cons (.bin .add (.var 6) (.lst (.cons (.idx (.var 3) (.cst (.int 2))) .nil))) (.cons (.lst (.cons (.idx (.var 3) (.cst (.int 2))) .nil)) .nil))) .nil))))) rV
noncomputable abbrev zJ:St:=.iff (.cmp .ne (.call aY (.cons (.var 9) (.cons (.var 11) (.cons (.var 6) (.cons (.var 6) (.cons (.var 7) (.cons (.var 12) .nil))))))) (.tup (.cons (.cst (.str [102,111,114,109])) (.cons (.cst (.bl true)) .nil)))) [.bad] []
noncomputable abbrev zH:St:=.iff (.not (.call eZ (.cons (.var 9) (.cons (.var 11) (.cons (.sl (.var 3) .none (.some (.cst (.int 2)))) .nil))))) [.bad] []
noncomputable abbrev zG:St:=.set 16 (.blt .list (.var 6))
noncomputable abbrev zj:St:=.set 15 (.sl (.var 6) .none (.some (.call dZ (.cons (.var 1) (.cons (.cst (.int 2)) .nil)))))
noncomputable abbrev zv:St:=.iff (.cmp .ne (.call aY (.cons (.var 9) (.cons (.var 11) (.cons (.var 16) (.cons (.var 15) (.cons (.var 7) (.cons (.var 8) .nil))))))) (.tup (.cons (.cst .aq) (.cons (.cst (.str [100,111,110,101])) .nil)))) [.bad] []
noncomputable abbrev AB:St:=.expr (.ji .append (.var 16) (.cons (.cst (.str [122,122])) .nil))
noncomputable abbrev Ar:St:=.expr (.ji .append (.var 15) (.cons (.cst (.str [122,122])) .nil))
noncomputable abbrev As:St:=.ret (.and (.call hU (.cons (.var 9) (.cons (.var 11) (.cons (.var 4) (.cons (.cmp .gt (.blt .len (.var 15)) (.cst (.int 1))) .nil))))) (.cmp .eq (.var 6) (.sl (.var 3) .none (.some (.var 4)))))
theorem Fz:AO.body=[s1,s2,s3,s4,s5,s6,s7,s8,s9,Ia,IA,HJ,zT,IP,H9,zF,zL,zw,zJ,zH,zG,zj,zv,AB,Ar,As]:=rfl
theorem AU(e:ag C c σ h=.ok (.bl false) h'):dD C (.iff c a []) σ h=.ok (.next σ) h':=by rw[iM,e];rfl
section
variable {NA GA a d n:Nat}{y p q r first name l:S}{fr told:List S}{rs:List Nat}{h:Hp}{m:Int}{o14 o15 o16:Option W}{c:Case p q}
theorem UI(I:Inv NA GA a d n p q r c.free rs told h)(nn:first∈told):
  ∃h',dD (run T 44) zF (env y NA GA a m c.A.ae (tw false c.A c.A).ae first name l none none none) h=.ok (.next (env y NA GA a m c.A.ae (tw false c.A c.A).ae first name l none none none)) h'/\Inv NA GA a d n p q r c.free rs told h':=by
 have y1:aw h (h++[.lst []]++[.lst [.str fh]]):=(aw.app _ _).trans (aw.app _ _);obtain⟨h2,e2,y2⟩:=He (I.grow y1) nn (.ref h.length) (.ref (h.length+1)) iy;refine⟨h2,AU ?_,(I.grow y1).grow y2⟩;refine ask (h1:=h++[.lst []]++[.lst [.str fh]]) (ws:=[.ref a,.str first,.ref h.length,.ref (h.length+1),(tw false c.A c.A).ae,iy]) (res:=.tup [.str jN,.bl false]) ?_ ?_ (by simp) (wY _ _ _)
 rotate_left
 .exact e2
 generalize (tw false c.A c.A).ae=WW at *;generalize c.A.ae=AW at *;simp
theorem Vl(ne:p≠q)(hc:(c=aD p q/\l=p/\fr=[])\/(c=aA p q/\l=q/\fr=[p]))(cf:CF c l fr)(I:Inv NA GA a d n p q r c.free rs told h)(nn:name∉told):
  ∃h',dD (run T 44) zL (env y NA GA a m c.A.ae (tw false c.A c.A).ae first name l none none none) h=.ok (.next (env y NA GA a m c.A.ae (tw false c.A c.A).ae first name l none none none)) h'/\Inv NA GA a d n p q r c.free rs told h':=by
 have y1:aw h (h++[.lst (fr.map W.str)]++[.lst [.str fh]]):=(aw.app _ _).trans (aw.app _ _);have b:=J8 (run T 44) ne c hc (env y NA GA a m c.A.ae (tw false c.A c.A).ae first name l none none none) rfl rfl rfl I.ga;obtain⟨h2,e2,y2⟩:=KQ cf (I.grow y1) nn (fa:=h.length) (by simp) (.ref (h.length+1)) iy;refine⟨h2,AU ?_,(I.grow y1).grow y2⟩;refine ask (h1:=h++[.lst (fr.map W.str)]++[.lst [.str fh]]) (ws:=[.ref a,.str name,.ref h.length,.ref (h.length+1),(tw false c.A c.A).ae,iy]) (res:=.tup [.tup [],.str l]) ?_ ?_ (by simp) (FT _ _)
 rotate_left
 .exact e2
 generalize (tw false c.A c.A).ae=WW at *;generalize c.A.ae=AW at *;simp only[bW,aW,c6,fM,R.ak,b];simp
theorem Vm(cf:CF c l fr)(I:Inv NA GA a d n p q r c.free rs told h)(nn:name∉told):
  ∃h',dD (run T 44) zJ (env y NA GA a m c.A.ae (tw false c.A c.A).ae first name l o14 o15 o16) h=.ok (.next (env y NA GA a m c.A.ae (tw false c.A c.A).ae first name l o14 o15 o16)) h'/\Inv NA GA a d n p q r c.free rs told h':=by
 obtain⟨h2,e2,y2⟩:=FN cf I nn;refine⟨h2,AU (ask (h1:=h) (ws:=[.ref a,.str name,.ref GA,.ref GA,(tw false c.A c.A).ae,iy]) ?_ e2 (by simp) (wY _ _ _)),I.grow y2⟩;generalize (tw false c.A c.A).ae=WW at *;generalize c.A.ae=AW at *;simp
theorem U4(ne:p≠q)(n1:fh≠p)(n2:fh≠q)(I:Inv NA GA a d n p q r c.free rs told h)(nn:name∉told):
  ∃h',dD (run T 44) zH (env y NA GA a m c.A.ae (tw false c.A c.A).ae first name l o14 o15 o16) h=.ok (.next (env y NA GA a m c.A.ae (tw false c.A c.A).ae first name l o14 o15 o16)) h'/\Inv NA GA a d n p q r c.free rs told h':=by
 have y1:aw h (h++[.lst [.str p,.str q]]):=aw.app _ _;obtain⟨h2,e2,y2⟩:=Ei (I.grow y1).D nn (L:=h.length) (aU _ _) ne n1 n2;refine⟨h2,AU ?_,(I.grow y1).grow y2⟩;have na:=I.na;have ct:cut [W.str p,.str q,.str r] none (some 2)=[.str p,.str q]:=rfl;generalize (tw false c.A c.A).ae=WW at *;generalize c.A.ae=AW at *;simp[na,ct,e2]
theorem UR(cf:CF c l fr)(hl:c.free.length<=2)(I:Inv NA GA a d n p q r c.free rs told h)(nn:name∉told)(hp:r≠p)(hq:r≠q):
  ∃o14 o15 h',dD (run T 44) zw (env y NA GA a m c.A.ae (tw false c.A c.A).ae first name l none none none) h=.ok (.next (env y NA GA a m c.A.ae (tw false c.A c.A).ae first name l o14 o15 none)) h'/\Inv NA GA a d n p q r c.free rs told h':=by
 obtain⟨H8,eH⟩:∃H8:Hp,H8=h++[.lst [.str r],.lst (c.free.map W.str++[.str r]),.lst [],.lst [.str r],.lst [.str r],.lst (c.free.map W.str++[.str r]),.lst [.str r],.lst [.tup [.ref (h.length+1),.ref (h.length+2)],.tup [.ref GA,.ref (h.length+3)],.tup [.ref (h.length+5),.ref (h.length+6)]]]:=⟨_,rfl⟩;have I8:Inv NA GA a d n p q r c.free rs told H8:=by rw[eH];exact I.grow (aw.app _ _)
 have l2:2<h.length:=by obtain⟨_,_,_,_,e,_⟩:=I.g.ex;exact dR e
 have k1:H8[h.length+1]?=some (.lst ((c.free++[r]).map W.str)):=by rw[eH];simp
 have k3:H8[h.length+3]?=some (.lst [.str r]):=by rw[eH];simp
 have k5:H8[h.length+5]?=some (.lst ((c.free++[r]).map W.str)):=by rw[eH];simp
 have k7:H8[h.length+7]?=some (.lst [.tup [.ref (h.length+1),.ref (h.length+2)],.tup [.ref GA,.ref (h.length+3)],.tup [.ref (h.length+5),.ref (h.length+6)]]):=by rw[eH];simp
 obtain⟨h1,r1,I1,x1⟩:=oM (y:=y) (first:=first) (m:=m) (o16:=none) cf I8 nn hp hq (fa:=h.length+1) (na:=h.length+2) (.inl k1);obtain⟨h2,r2,I2,x2⟩:=oM (y:=y) (first:=first) (m:=m) (o16:=none) cf I1 nn hp hq (fa:=GA) (na:=h.length+3) (.inr ⟨I1.ga,x1.keep _ _ k3 (by omega)⟩);have x12:=x1.trans x2;obtain⟨h3,r3,I3,x3⟩:=oM (y:=y) (first:=first) (m:=m) (o16:=none) cf I2 nn hp hq (fa:=h.length+5) (na:=h.length+6) (.inl (x12.keep _ _ k5 (by omega)));have e1:=x1.keep _ _ k7 (by omega);have e2:=x12.keep _ _ k7 (by omega);have e3:=(x12.trans x3).keep _ _ k7 (by omega);refine⟨some (.ref (h.length+5)),some (.ref (h.length+6)),h3,?_,I3⟩;have it:eE (run T 44) (.seq (.lst (.cons (.tup (.cons (.bin .add (.var 6) (.lst (.cons (.idx (.var 3) (.cst (.int 2))) .nil))) (.cons (.lst .nil) .nil))) (.cons (.tup (.cons (.var 6) (.cons (.lst (.cons (.idx (.var 3) (.cst (.int 2))) .nil)) .nil))) (.cons (.tup (.cons (.bin .add (.var 6) (.lst (.cons (.idx (.var 3) (.cst (.int 2))) .nil))) (.cons (.lst (.cons (.idx (.var 3) (.cst (.int 2))) .nil)) .nil))) .nil))))) (env y NA GA a m c.A.ae (tw false c.A c.A).ae first name l none none none) h=.ok (.at (h.length+7) 3) H8:=by have na:=fun X=>aK X I.na;have ga:=fun X=>aK X I.ga;have na0:=I.na;have ga0:=I.ga;have s3:c.free.length+1<=SZ:=cS (Hq hl 1) (by decide);subst eH;generalize (tw false c.A c.A).ae=WW at *;generalize c.A.ae=AW at *;simp[na,ga,na0,ga0,s3]
 rw[bz,it,R.ak,turns];rw[jD k7 rfl];simp only[turn,iu,g9,gY,r1,R.ak];rw[jD e1 rfl];simp only[turn,iu,g9,gY,r2,R.ak];rw[jD e2 rfl];simp only[turn,iu,g9,gY,r3,R.ak];rw[bO];simp[bg,e3]
end
section
variable {NA GA a d n:Nat}{y p q r first name l:S}{fr told:List S}{rs:List Nat}{h:Hp}{o14 o15 o16:Option W}{c:Case p q}
theorem FI(hc:c=aD p q\/c=aA p q){m:Nat}(hm:m<=1):cut (c.free.map W.str) none (some (m:Int))=(c.free.take m).map W.str:=by
 have:m=0\/m=1:=by omega
 rcases this with rfl|rfl<;>rcases hc with rfl|rfl<;>rfl
theorem vS(hc:c=aD p q\/c=aA p q)(r:S):cut [W.str p,.str q,.str r] none (some (c.free.length:Int))=c.free.map W.str:=by rcases hc with rfl|rfl<;>rfl
theorem Ap(hc:c=aD p q\/c=aA p q):c.free.length<=2:=by rcases hc with rfl|rfl<;>simp[aD,aA]
theorem N4(ne:p≠q)(hc:c=aD p q\/c=aA p q)(ok:jX c)(cf:CF c l fr){rr:Nat}(I:Inv NA GA a d n p q r c.free [rr] [first] h)(nn:name≠first)(b:2<d/\2<n)(k:NA≠d/\NA≠n/\GA≠d/\GA≠n):
  ∃h',aH (run T 44) [zG,zj,zv,AB,Ar,As] (env y NA GA a c.free.length c.A.ae (tw false c.A c.A).ae first name l o14 o15 o16) h=.ok (.ret (.bl true)) h':=by
 have l2:2<h.length:=by obtain⟨_,_,_,_,e,_⟩:=I.g.ex;exact dR e
 have ld:d<h.length:=dR I.D.l;have ln:n<h.length:=dR I.D.m;have la:a<h.length:=dR I.D.o;have lN:NA<h.length:=dR I.na;have lG:GA<h.length:=dR I.ga;have fl:=Ap hc;have I1:=I.grow (aw.app h [.lst (c.free.map W.str)]);have hh1:(h++[.lst (c.free.map W.str)])[h.length]?=some (.lst (c.free.map W.str)):=aU _ _;obtain⟨v,h2,e2,a2,b2,x2,g2⟩:=xn 43 2 2 _ I1.g (by decide);obtain⟨m,rfl⟩:∃m:Nat,v=m:=⟨v.toNat,by omega⟩;have hm:m<=1:=by omega
 have I2:=I1.ext x2 g2;have hh2:=x2.keep _ _ hh1 (by omega);have Ov:h.length+1<=h2.length:=by simpa using x2.len
 have I3:=I2.grow (aw.app h2 [.lst ((c.free.take m).map W.str)]);have hh3:=aK [O.lst ((c.free.take m).map W.str)] hh2;have hn3:(h2++[.lst ((c.free.take m).map W.str)])[h2.length]?=some (.lst ((c.free.take m).map W.str)):=aU _ _;obtain⟨rr2,h4,e4,I4,E4,f,e,co,wk,lt,d1,d2,d3⟩:=xm cf I3 (nm:=name) (by simpa using nn) hh3 hn3 (fun x hx=>List.mem_of_mem_take hx) b k (by omega) (by omega) (by simp);have hh4:=E4.keep _ _ hh3 (by omega) (by omega);have hn4:=E4.keep _ _ hn3 (by omega) (by omega);have lt':h2.length+1<=rr2/\h2.length+1<=f/\h2.length+1<=e:=by simpa using lt
 obtain⟨h5,eh5⟩:∃h5:Hp,h5=h4.set h.length (.lst (c.free.map W.str++[.str fh])):=⟨_,rfl⟩;have kp5:∀u o,h4[u]?=some o->u≠h.length->h5[u]?=some o:=fun u o z w=>by rw[eh5];exact bV (bc w) z
 have hn5:=kp5 _ _ hn4 (by omega);obtain⟨h6,eh6⟩:∃h6:Hp,h6=h5.set h2.length (.lst ((c.free.take m).map W.str++[.str fh])):=⟨_,rfl⟩;have kp6:∀u o,h4[u]?=some o->u≠h.length->u≠h2.length->h6[u]?=some o:=fun u o z w w2=>by rw[eh6];exact bV (bc w2) (kp5 _ _ z w)
 have hn6:h6[h2.length]?=some (.lst ((c.free.take m).map W.str++[.str fh])):=by rw[eh6];exact cu hn5
 have D6:b6 h6 a d n ([rr]++[rr2]) ([first]++[name]) none:=⟨kp6 _ _ I4.D.o (by omega) (by omega),kp6 _ _ I4.D.l (by omega) (by omega),kp6 _ _ I4.D.m (by omega) (by omega),I4.D.e,fun _ _ z=>by cases z⟩;have dg:c9 (.str name) (b8 0 ([first]++[name]))=some (.int 1):=by have:=D7 (x:=name) ([first]++[name]) 0 1 rfl (by simpa using nn);simpa using this
 obtain⟨h7,e7,y7⟩:=zb c hc ok ne hm D6 dg (r:=rr2) rfl (kp6 _ _ d1 (by omega) (by omega)) (kp6 _ _ d2 (by omega) (by omega)) (kp6 _ _ d3 (by omega) (by omega));have na7:=y7.keep _ _ (kp6 _ _ I4.na (by omega) (by omega));have ga7:=y7.keep _ _ (kp6 _ _ I4.ga (by omega) (by omega));have eqq:=G4 (h:=h7++[.lst (c.free.map W.str)]) (a:=GA) (b:=h7.length) (l:=c.free) (aK _ ga7) (aU _ _);have cn:=vS hc r;have ct:=FI hc hm;have ga0:=I.ga;have ga2:=I2.ga;have sz1:c.free.length<SZ:=FH fl (by decide);have sz0:c.free.length<=SZ:=AV sz1;have sz2:min m c.free.length<SZ:=FH (Nat.min_le_right _ _) sz1;have f1:1<=c.free.length:=by rcases hc with rfl|rfl<;>simp[aD,aA]
 have gt:decide ((1:Int)<((min m c.free.length:Nat):Int)+1)=decide (m=1):=by
  have:min m c.free.length=m:=by omega
  rw[this];congr 1;apply propext;omega
 refine⟨h7++[.lst (c.free.map W.str)],?_⟩;generalize (tw false c.A c.A).ae=WW at *;generalize c.A.ae=AW at *;refine ax (w:=.ref h.length) (h':=h++[.lst (c.free.map W.str)]) (by simp[ga0,sz0]) ?_;refine ax (w:=.ref h2.length) (h':=h2++[.lst ((c.free.take m).map W.str)]) (by simp[e2,ga2,ct,aK _ ga0]) ?_;refine br (h':=h4) (ask (h1:=h2++[.lst ((c.free.take m).map W.str)]) (ws:=[.ref a,.str name,.ref h.length,.ref h2.length,WW,oZ]) (by simp) e4 (by simp) (vQ _)) ?_;refine aC (σ':=env y NA GA a c.free.length AW WW first name l o14 (some (.ref h2.length)) (some (.ref h.length))) (h':=h5) (by simp[hh4,sz1,i6,eh5]) ?_;refine aC (σ':=env y NA GA a c.free.length AW WW first name l o14 (some (.ref h2.length)) (some (.ref h.length))) (h':=h6) (by simp[hn5,sz2,i6,eh6]) ?_;refine aP (w:=.bl true) ?_;have lx:ag (run T 44) (.cmp .gt (.blt .len (.var 15)) (.cst (.int 1))) (env y NA GA a c.free.length AW WW first name l o14 (some (.ref h2.length)) (some (.ref h.length))) h6=.ok (.bl (decide (m=1))) h6:=by rw[<-gt];simp[hn6]
 have wr:ag (run T 44) (.call hU (.cons (.var 9) (.cons (.var 11) (.cons (.var 4) (.cons (.cmp .gt (.blt .len (.var 15)) (.cst (.int 1))) .nil))))) (env y NA GA a c.free.length AW WW first name l o14 (some (.ref h2.length)) (some (.ref h.length))) h6=.ok (.bl true) h7:=by simp only[jB,bW,cL,aW,c6,fM,R.ak,lx,e7]
 rw[zB];simp only[g9,gY,wr,R.ak];simp[na7,cn,eqq]
end
section
variable {NA GA a d n:Nat}{y p q r first name l:S}{fr told:List S}{rs:List Nat}{h:Hp}{c:Case p q}
theorem HI(ne:p≠q)(hc:(c=aD p q/\l=p/\fr=[])\/(c=aA p q/\l=q/\fr=[p])):CF c l fr:=by
 rcases hc with ⟨rfl,rfl,rfl⟩|⟨rfl,rfl,rfl⟩
 .exact U8 _ _
 .exact Vb ne
theorem Mf(ne:p≠q)(hp:r≠p)(hq:r≠q)(n1:fh≠p)(n2:fh≠q)(hc:(c=aD p q/\l=p/\fr=[])\/(c=aA p q/\l=q/\fr=[p]))(I:Inv NA GA a d n p q r c.free [rr] [first] h)(nn:name≠first)(b:2<d/\2<n)(k:NA≠d/\NA≠n/\GA≠d/\GA≠n):
  ∃h',aH (run T 44) [zF,zL,zw,zJ,zH,zG,zj,zv,AB,Ar,As] (env y NA GA a c.free.length c.A.ae (tw false c.A c.A).ae first name l none none none) h=.ok (.ret (.bl true)) h':=by
 have hc':c=aD p q\/c=aA p q:=hc.imp (·.1) (·.1);have ok:jX c:=hc'.elim (fun z=>z▸Gs p q) (fun z=>z▸Gj ne);have cf:CF c l fr:=HI ne hc;have nt:name∉ [first]:=by simpa using nn
 obtain⟨h1,e1,I1⟩:=UI (y:=y) (name:=name) (l:=l) (m:=c.free.length) I (first:=first) (by simp);obtain⟨h2,e2,I2⟩:=Vl (y:=y) (first:=first) (m:=c.free.length) ne hc cf I1 nt;obtain⟨o14,o15,h3,e3,I3⟩:=UR (y:=y) (first:=first) (m:=c.free.length) cf (Ap hc') I2 nt hp hq;obtain⟨h4,e4,I4⟩:=Vm (y:=y) (first:=first) (m:=c.free.length) (o14:=o14) (o15:=o15) (o16:=none) cf I3 nt;obtain⟨h5,e5,I5⟩:=U4 (y:=y) (first:=first) (l:=l) (m:=c.free.length) (o14:=o14) (o15:=o15) (o16:=none) ne n1 n2 I4 nt;obtain⟨h6,e6⟩:=N4 (y:=y) (o14:=o14) (o15:=o15) (o16:=none) ne hc' ok cf I5 nn b k;exact⟨h6,aC e1 (aC e2 (aC e3 (aC e4 (aC e5 e6))))⟩
theorem Kj(hc:c=aD p q\/c=aA p q)(e:h[NA]?=some (.lst [.str p,.str q,.str r]))(s3':σ[3]?=some (some (.ref NA)))(s4':σ[4]?=some (some (.int c.free.length)))(l5:5<σ.length)(go:aH (run T 44) rest (σ.set 5 (some c.A.ae)) h=z):aH (run T 44) (s5::s6::rest) σ h=z:=by
 have g3:∀w,(σ.set 5 w)[3]?=some (some (.ref NA)):=fun w=>by rw[iE (by decide)];exact s3'
 have g4:∀w,(σ.set 5 w)[4]?=some (some (.int c.free.length)):=fun w=>by rw[iE (by decide)];exact s4'
 have g5:∀w,(σ.set 5 w)[5]?=some w:=fun w=>by rw[jC l5]
 refine ax (w:=(Kd.any p).ae) (h':=h) (by simp[s3',e,Kd.ae]) ?_;rcases hc with rfl|rfl
 .exact br (h':=h) (by simp[g4,aD]) go
 .refine A7 (h':=h) (h3:=h) (σ':=σ.set 5 (some (aA p q).A.ae)) (by simp[g4,aA]) ?_ go;refine ax (w:=(aA p q).A.ae) (h':=h) (by simp[g3,g5,e,aA,tw,Kd.ae]) ?_;rw[yG];exact cP _ _ _
end
theorem En(ns:List Int):∃h',run T 45 I9 [.ref 0] [.bR (ns.map .int)]=.ok (.bl true) h':=by
 rw[aE PH];have g0:Gen 2 [O.bR (ns.map .int),O.lst (ns.map .int),O.lst [.int 73,.ref 1,.int 0]]:=⟨73,0,1,ns,rfl,rfl,by decide⟩;obtain⟨x,h1,e1,lx,x1,g1⟩:=yd 42 2 _ g0;obtain⟨y,hy⟩:∃y:S,y=cut x none (some 7):=⟨_,rfl⟩;have ly:y.length<=7:=by rw[hy];unfold cut;simp[aV];omega
 obtain⟨p,ep⟩:∃p:S,p=y++[112]:=⟨_,rfl⟩;obtain⟨q,eq⟩:∃q:S,q=y++[113]:=⟨_,rfl⟩;obtain⟨r,er⟩:∃r:S,r=y++[114]:=⟨_,rfl⟩;have ne:p≠q:=by rw[ep,eq];intro z;have:=GS z;cases this
 have hp:r≠p:=by rw[ep,er];intro z;have:=GS z;cases this
 have hq:r≠q:=by rw[eq,er];intro z;have:=GS z;cases this
 have n1:fh≠p:=by rw[ep];intro z;have:=eN List.getLast? z;simp at this
 have n2:fh≠q:=by rw[eq];intro z;have:=eN List.getLast? z;simp at this
 have l1:2<h1.length:=by obtain⟨_,_,_,_,e,_⟩:=g1.ex;exact dR e
 obtain⟨v,h2,e2,a2,b2,x2,g2⟩:=xn 43 2 2 (h1++[.lst [.str p,.str q,.str r]]) (g1.ext _) (by decide);have na2:=x2.keep _ _ (aU h1 (.lst [.str p,.str q,.str r])) (by omega);have Ov:h1.length+1<=h2.length:=by simpa using x2.len
 obtain⟨c,l,fr,hc,hv⟩:∃(c:Case p q) (l:S) (fr:List S),((c=aD p q/\l=p/\fr=[])\/(c=aA p q/\l=q/\fr=[p]))/\1+v=(c.free.length:Int):=by
  have:v=0\/v=1:=by omega
  rcases this with rfl|rfl
  .exact⟨_,_,_,.inl ⟨rfl,rfl,rfl⟩,rfl⟩
  .exact⟨_,_,_,.inr ⟨rfl,rfl,rfl⟩,rfl⟩
 have hc':c=aD p q\/c=aA p q:=hc.imp (·.1) (·.1);have cf:CF c l fr:=HI ne hc;have cn:=vS hc' r;obtain⟨h4,eh4⟩:∃h4:Hp,h4=h2++[.lst (c.free.map W.str)]++[.ins qC [(BV,.ref (h2.length+2)),(Bx,.ref (h2.length+3))],.lst [],.aj []]:=⟨_,rfl⟩;have sh:=EU 43 (h2++[.lst (c.free.map W.str)]);have I4:Inv h1.length h2.length (h2.length+1) (h2.length+2) (h2.length+3) p q r c.free [] [] h4:=by rw[eh4];exact⟨(g2.ext _).ext _,aK _ (aK _ na2),aK _ (aU _ _),⟨by simp,by simp,by simp[b8],rfl,fun _ _ z=>by cases z⟩,by omega⟩
 obtain⟨x',h5,e5,lx',x5,g5⟩:=yd 42 2 _ I4.g;have I5:=I4.ext x5 g5;obtain⟨first,ef⟩:∃f:S,f=[102]++cut x' none (some 7):=⟨_,rfl⟩;have lc:(cut x' none (some 7)).length<=7:=by unfold cut;simp[aV];omega
 have bb:2<h2.length+2/\2<h2.length+3:=by omega
 have kk:h1.length≠h2.length+2/\h1.length≠h2.length+3/\h2.length≠h2.length+2/\h2.length≠h2.length+3:=by omega
 have l4:h2.length+4<=h5.length:=by have:=x5.len;rw[eh4] at this;simpa using this
 obtain⟨rr,h6,e6,I6,_⟩:=xm cf (I5.grow (aw.app h5 [.lst []])) (nm:=first) (by simp) (fa:=h2.length) (na:=h5.length) (ns:=[]) (aK _ I5.ga) (aU _ _) (by simp) bb kk (by omega) (by omega) (by simp);have nn: [103]++y≠first:=by rw[ef];intro z;cases z
 obtain⟨h7,e7⟩:=Mf (y:=y) (name:=[103]++y) ne hp hq n1 n2 hc I6 nn bb kk;refine⟨h7,bw [some (.ref 0),none,none,none,none,none,none,none,none,none,none,none,none,none,none,none,none] rfl rfl ?_⟩;rw[Fz];have lx2:x.length<=SZ:=cS lx (by decide);have ly1:y.length+1<=SZ:=cS (Hq ly 1) (by decide);refine ax (w:=.ref 2) (h':=[O.bR (ns.map .int),O.lst (ns.map .int),O.lst [.int 73,.ref 1,.int 0]]) ?_ ?_
 .generalize ns.map W.int=N;simp
 refine ax (w:=.str y) (h':=h1) (by generalize [O.bR (ns.map .int),O.lst (ns.map .int),O.lst [.int 73,.ref 1,.int 0]]=hh at *;simp[e1,lx2,hy]) ?_
 refine ax (w:=.ref h1.length) (h':=h1++[.lst [.str p,.str q,.str r]]) (by simp[ly1,ep,eq,er]) ?_;refine ax (w:=.int c.free.length) (h':=h2) (by simp[e2,hv]) ?_;refine Kj hc' na2 rfl rfl (by simp) ?_;have idl:cH [W.str p,.str q,.str r] ((c.free.length:Int)-1)=some (.str l):=by rcases hc with ⟨rfl,rfl,rfl⟩|⟨rfl,rfl,rfl⟩<;>rfl
 have na6:=I6.na;have tw0:(tw false c.A c.A).ae=.tup [.str bo,c.A.ae,c.A.ae]:=by rw[i9];rfl
 generalize (tw false c.A c.A).ae=WW at *;generalize c.A.ae=AW at *;refine ax (w:=.ref h2.length) (h':=h2++[.lst (c.free.map W.str)]) (by simp[na2,cn]) ?_;refine ax (w:=WW) (h':=h2++[.lst (c.free.map W.str)]) (by simp[tw0]) ?_;refine ax (w:=oZ) (h':=h2++[.lst (c.free.map W.str)]) (by simp) ?_;refine ax (w:=.ref (h2.length+1)) (h':=h4) (by rw[CT,cL,R.ak,sh,eh4];simp) ?_
 have lx3:x'.length<=SZ:=cS lx' (by decide);have lc1:1+(cut x' none (some 7)).length<=SZ:=cS (Nat.add_le_add_left lc 1) (by decide);have ly2:1+y.length<=SZ:=by omega
 refine ax (w:=.str first) (h':=h5) (by simp[e5,lx3,lc1,ef]) ?_;refine br (h':=h6) (ask (h1:=h5++[.lst []]) (ws:=[.ref (h2.length+1),.str first,.ref h2.length,.ref h5.length,WW,oZ]) (by simp) e6 (by simp) (vQ _)) ?_;refine ax (w:=.str ([103]++y)) (h':=h6) (by simp[ly2]) (ax (w:=iy) (h':=h6) (by simp) (ax (w:=.str l) (h':=h6) (by simp[na6,idl]) ?_));exact e7
end K11
set_option maxHeartbeats 0
namespace K11G
open PySem PySem.W L2 TwS PyProof.Rows
open K11 (T En)
noncomputable abbrev pw:Program:=PySem.Challenge.pw_twomeet_k11_definitions_told_or_refused
abbrev top(i:Nat):Stmt:=pw.main.body.getD i (.Pass ⟨0,0,0,0⟩)
abbrev s0:Stmt:=top 16
abbrev d0:bG:=⟨.fn "parts", "parts", "parts",s0,["kind"],["kind"]⟩
abbrev s1:Stmt:=top 17
abbrev d1:bG:=⟨.fn "filled", "filled", "filled",s1,["kind", "filling"],["kind", "filling"]⟩
abbrev s2:Stmt:=top 18
abbrev d2:bG:=⟨.fn "gaps_filled", "gaps_filled", "gaps_filled",s2,["kind", "found"],["kind", "found"]⟩
abbrev s3:Stmt:=top 19
abbrev d3:bG:=⟨.fn "replaced", "replaced", "replaced",s3,["kind", "word", "filling", "within", "made", "part"],["kind", "word", "filling"]⟩
abbrev s4:Stmt:=top 21
abbrev d4:bG:=⟨.fn "names_in", "names_in", "names_in",s4,["kind", "names"],["kind"]⟩
abbrev s5:Stmt:=top 22
abbrev d5:bG:=⟨.fn "put_names", "put_names", "put_names",s5,["kind", "names", "part"],["kind", "names"]⟩
abbrev s6:Stmt:=top 23
abbrev d6:bG:=⟨.fn "met", "met", "met",s6,["pattern", "kind", "found", "within", "known", "part", "other"],["pattern", "kind", "found"]⟩
abbrev s7:Stmt:=top 24
abbrev d7:bG:=⟨.fn "met_gap", "met_gap", "met_gap",s7,["number", "kind", "found", "known"],["number", "kind", "found"]⟩
abbrev s8:Stmt:=top 26
abbrev d8:bG:=⟨.fn "unlikely", "unlikely", "unlikely",s8,["kind", "needs", "part", "first"],["kind", "needs"]⟩
abbrev s9:Stmt:=top 27
abbrev d9:bG:=⟨.fn "likeness", "likeness", "likeness",s9,["kind", "given"],["kind", "given"]⟩
abbrev Ia:Stmt:=top 28
abbrev RP:bG:=⟨.fn "likeness_kind", "likeness_kind", "likeness_kind",Ia,["kind"],["kind"]⟩
abbrev IA:Stmt:=clsAt (top 41) 0
abbrev QZ:bG:=⟨.me [68,101,102,105,110,105,116,105,111,110] gD, "__init__", "Definition.__init__",IA,["self", "free", "needs", "kind", "core", "need", "granted"],["self", "free", "needs", "kind", "core"]⟩
abbrev HJ:Stmt:=clsAt (top 45) 0
abbrev Q8:bG:=⟨.me [83,99,111,112,101] gD, "__init__", "Scope.__init__",HJ,["self", "shelf", "free", "needs", "bound"],["self", "shelf", "free", "needs", "bound"]⟩
abbrev zT:Stmt:=clsAt (top 45) 1
abbrev QT:bG:=⟨.me [83,99,111,112,101] [98,105,110,100], "bind", "Scope.bind",zT,["self", "name", "kind"],["self", "name", "kind"]⟩
abbrev IP:Stmt:=clsAt (top 45) 2
abbrev Rq:bG:=⟨.me [83,99,111,112,101] [105,115,95,98,111,117,110,100], "is_bound", "Scope.is_bound",IP,["self", "name"],["self", "name"]⟩
abbrev H9:Stmt:=clsAt (top 45) 3
abbrev Rp:bG:=⟨.me [83,99,111,112,101] [118,97,114,95,111,102], "var_of", "Scope.var_of",H9,["self", "name", "rounds"],["self", "name"]⟩
abbrev zF:Stmt:=clsAt (top 45) 4
abbrev QY:bG:=⟨.me [83,99,111,112,101] [108,105,107,101,110,101,115,115,95,111,102], "likeness_of", "Scope.likeness_of",zF,["self", "kind", "place", "lacking"],["self", "kind", "place"]⟩
abbrev zL:Stmt:=clsAt (top 45) 5
abbrev QX:bG:=⟨.me [83,99,111,112,101] [108,105,107,101,110,101,115,115,101,115,95,103,105,118,101,110], "likenesses_given", "Scope.likenesses_given",zL,["self", "given", "rounds", "need"],["self"]⟩
abbrev zw:Stmt:=top 68
abbrev Rw:bG:=⟨.fn "come_up", "come_up", "come_up",zw,["form", "place", "scope"],["form", "place", "scope"]⟩
abbrev zJ:Stmt:=top 69
abbrev Rj:bG:=⟨.fn "go_down", "go_down", "go_down",zJ,["form", "kind", "place", "scope"],["form", "kind", "place", "scope"]⟩
abbrev zH:Stmt:=top 70
abbrev Ra:bG:=⟨.fn "found_to_be", "found_to_be", "found_to_be",zH,["form", "kind", "place", "scope", "core", "found"],["form", "kind", "place", "scope"]⟩
abbrev zG:Stmt:=top 72
abbrev QR:bG:=⟨.fn "truth_up", "truth_up", "truth_up",zG,["form", "place", "scope"],["form", "place", "scope"]⟩
abbrev zj:Stmt:=top 73
abbrev Ru:bG:=⟨.fn "told_up", "told_up", "told_up",zj,["form", "place", "scope", "name"],["form", "place", "scope"]⟩
abbrev zv:Stmt:=top 75
abbrev Ro:bG:=⟨.fn "fun_down", "fun_down", "fun_down",zv,["form", "kind", "place", "scope", "core"],["form", "kind", "place", "scope"]⟩
abbrev AB:Stmt:=top 86
abbrev Rz:bG:=⟨.fn "if_down", "if_down", "if_down",AB,["form", "kind", "place", "scope", "asked", "second", "third"],["form", "kind", "place", "scope"]⟩
abbrev Ar:Stmt:=top 90
abbrev Q5:bG:=⟨.fn "like_up", "like_up", "like_up",Ar,["form", "place", "scope", "first", "kind", "second"],["form", "place", "scope"]⟩
abbrev As:Stmt:=top 91
abbrev QB:bG:=⟨.fn "called_up", "called_up", "called_up",As,["form", "place", "scope"],["form", "place", "scope"]⟩
abbrev Rv:Stmt:=top 92
abbrev Rt:bG:=⟨.fn "called_down", "called_down", "called_down",Rv,["form", "kind", "place", "scope", "core", "found"],["form", "kind", "place", "scope"]⟩
abbrev Rk:Stmt:=top 93
abbrev RN:bG:=⟨.fn "called", "called", "called",Rk,["form", "told", "place", "scope", "calls", "head", "head_place", "core", "kind"],["form", "told", "place", "scope"]⟩
abbrev QU:Stmt:=top 94
abbrev RC:bG:=⟨.fn "work_called", "work_called", "work_called",QU,["core", "kind", "calls", "scope", "part", "place"],["core", "kind", "calls", "scope"]⟩
abbrev Ry:Stmt:=top 95
abbrev RH:bG:=⟨.fn "definition_called", "definition_called", "definition_called",Ry,["name", "name_place", "calls", "told", "place", "scope", "number", "definition", "left", "found", "cores", "part", "call_place", "core"],["name", "name_place", "calls", "told", "place", "scope"]⟩
abbrev QM:Stmt:=top 97
abbrev Q7:bG:=⟨.fn "left_met", "left_met", "left_met",QM,["left", "told", "found", "place", "known"],["left", "told", "found", "place"]⟩
abbrev QF:Stmt:=top 98
abbrev Q3:bG:=⟨.fn "definition_at", "definition_at", "definition_at",QF,["number", "definition", "found", "place", "scope", "core", "need", "kind"],["number", "definition", "found", "place", "scope"]⟩
abbrev Q4:Stmt:=clsAt (top 102) 0
abbrev QL:bG:=⟨.me [83,104,101,108,102] gD, "__init__", "Shelf.__init__",Q4,["self"],["self"]⟩
abbrev Rn:Stmt:=clsAt (top 102) 1
abbrev QH:bG:=⟨.me [83,104,101,108,102] [116,101,108,108], "tell", "Shelf.tell",Rn,["self", "name", "free", "needs", "kind", "term", "core"],["self", "name", "free", "needs", "kind", "term"]⟩
abbrev QV:Stmt:=clsAt (top 102) 3
abbrev QD:bG:=⟨.me [83,104,101,108,102] [119,114,105,116,101,95,97,115], "write_as", "Shelf.write_as",QV,["self", "term", "kind"],["self", "term", "kind"]⟩
abbrev QP:Stmt:=clsAt (top 102) 5
abbrev QK:bG:=⟨.me [83,104,101,108,102] [111,117,116,115,105,100,101], "outside", "Shelf.outside",QP,["self"],["self"]⟩
abbrev Q2:Stmt:=top 103
abbrev RI:bG:=⟨.fn "refuse_names", "refuse_names", "refuse_names",Q2,["free", "needs", "kind", "inside", "name", "need"],["free", "needs", "kind"]⟩
abbrev Rb:Stmt:=top 105
abbrev QA:bG:=⟨.fn "_law_next", "_law_next", "_law_next",Rb,["_law_h", "_law_many", "_law_cell"],["_law_h", "_law_many"]⟩
abbrev RK:Stmt:=top 106
abbrev RL:bG:=⟨.fn "_law_word", "_law_word", "_law_word",RK,["_law_h", "_law_some"],["_law_h"]⟩
abbrev Rm:Stmt:=top 107
abbrev RQ:bG:=⟨.fn "_law_told", "_law_told", "_law_told",Rm,["_law_shelf", "_law_name", "_law_free", "_law_needs", "_law_kind", "_law_form", "e"],["_law_shelf", "_law_name", "_law_free", "_law_needs", "_law_kind", "_law_form"]⟩
abbrev RM:Stmt:=top 108
abbrev Q0:bG:=⟨.fn "_law_inner_refused", "_law_inner_refused", "_law_inner_refused",RM,["_law_shelf", "_law_name", "_law_names", "_law_kind", "_law_work", "e", "_law_form"],["_law_shelf", "_law_name", "_law_names"]⟩
abbrev QW:Stmt:=top 109
abbrev Rc:bG:=⟨.fn "_law_likes", "_law_likes", "_law_likes",QW,["_law_name"],["_law_name"]⟩
abbrev QN:Stmt:=top 110
abbrev Rh:bG:=⟨.fn "_law_written", "_law_written", "_law_written",QN,["_law_shelf", "_law_name", "_law_many", "_law_is_needed", "_law_number", "_law_whole", "_law_due"],["_law_shelf", "_law_name", "_law_many", "_law_is_needed"]⟩
abbrev QJ:Stmt:=top 111
abbrev Rf:bG:=⟨.fn "law", "law", "law",QJ,["_law_script", "_law_h", "_law_word_here", "_law_names", "_law_many", "_law_kind", "_law_good", "_law_work", "_law_form", "_law_shelf", "_law_first", "_law_name", "_law_bad", "_law_lone", "_law_free", "_law_needs", "_law_handed"],["_law_script"]⟩
noncomputable abbrev Ee:Stmt:=clsAt (top 11) 0
noncomputable abbrev DQ:Stmt:=clsAt (top 2) 0
noncomputable abbrev Kr:Stmt:=clsAt (top 7) 0
noncomputable abbrev Fc:Stmt:=clsAt (top 10) 0
noncomputable abbrev cG:List (Tw.S×List Tw.S):=[([85,110,98,111,117,110,100],[[112,108,97,99,101],[110,97,109,101]]),([84,111,108,100],[]),([76,111,111,115,101],[]),([85,110,109,101,116],[[112,108,97,99,101],[119,97,110,116,101,100],[102,111,117,110,100]]),([78,111,82,117,108,101],[[112,108,97,99,101],[107,105,110,100]])]
noncomputable abbrev ib:List (Tw.S×List Tw.S):=[([85,110,98,111,117,110,100],[[85,110,98,111,117,110,100]]),([84,111,108,100],[[84,111,108,100]]),([76,111,111,115,101],[[76,111,111,115,101]]),([77,101,101,116,69,114,114,111,114],[[85,110,98,111,117,110,100],[84,111,108,100],[76,111,111,115,101],[85,110,109,101,116],[78,111,82,117,108,101]]),([78,111,82,117,108,101],[[78,111,82,117,108,101]])]
noncomputable abbrev lY:List (List Tw.S×List Tw.S):=[([[82,101,102,117,115,101,100],[76,111,111,115,101],[83,116,114,97,121],[84,111,111,76,111,110,103]],[[85,110,98,111,117,110,100],[76,111,111,115,101],[85,110,109,101,116],[78,111,82,117,108,101]]),([[86,97,108,117,101,69,114,114,111,114]],[[85,110,98,111,117,110,100],[84,111,108,100],[76,111,111,115,101],[85,110,109,101,116],[78,111,82,117,108,101]]),([[82,101,102,117,115,101,100],[84,111,108,100],[83,116,114,97,121],[84,111,111,76,111,110,103]],[[85,110,98,111,117,110,100],[84,111,108,100],[85,110,109,101,116],[78,111,82,117,108,101]]),([[85,110,109,101,116]],[[85,110,109,101,116]])]
noncomputable abbrev U2:List (Tw.S×Addr):=[([85,110,98,111,117,110,100],187),([84,111,108,100],56),([76,111,111,115,101],68),([85,110,109,101,116],111),([78,111,82,117,108,101],168)]
noncomputable abbrev Ds:List bG:=[d0,d1,d2,d3,d4,d5,d6,d7,d8,d9,RP,QZ,Q8,QT,Rq,Rp,QY,QX,Rw,Rj,Ra,QR,Ru,Ro,Rz,Q5,QB,Rt,RN,RC,RH,Q7,Q3,QL,QH,QD,QK,RI,QA,RL,RQ,Q0,Rc,Rh,Rf]
noncomputable abbrev Rx:List (Tw.S×Nat):=[([121,101,115],21),([110,111],21),([110,97,109,101],26),([99,97,108,108],26),([116,111,108,100],22),([108,105,107,101],25)]
noncomputable abbrev Q9:List Tw.S:=[[110,117,109,98,101,114],[121,101,115],[110,111],[110,97,109,101],[102,117,110],[99,97,108,108],[116,111,108,100],[98,111,116,104],[108,101,102,116],[114,105,103,104,116],[114,111,119,111,102],[97,104,101,97,100],[102,111,108,100],[105,102],[108,101,116],[115,117,109],[108,101,115,115],[108,105,107,101]]
noncomputable abbrev RJ:List (Tw.S×Nat):=[([110,97,109,101],27),([102,117,110],23),([99,97,108,108],27),([105,102],24)]
noncomputable abbrev Rg:List Tw.S:=[[110,97,109,101],[102,117,110],[99,97,108,108],[98,111,116,104],[114,111,119,111,102],[97,104,101,97,100],[105,102],[108,101,116]]
abbrev tabs:List (Str×List (Tw.S×Nat)):=[("COMING_UP",Rx),("GOING_DOWN",RJ)]
abbrev keys:List (Str×List Tw.S):=[("COMING_UP",Q9),("GOING_DOWN",Rg)]
noncomputable abbrev cons:List (Str×Tw.W):=[("TRUTH",.tup [(.str [116,114,117,116,104])])]
theorem UG:kL ⟨Ds.map (·.key),tabs,keys,cons,cG,false,ib,lY⟩ Ds T=true:=by decide+kernel
noncomputable abbrev ke(P:Params)(x:Str)(t:Nat)(v:Value):DictEntry:=⟨PyData.keyHash P x,.str x t,v⟩
noncomputable abbrev ck(n q:Str)(a b c d:Nat)(l x y z u:Int)(r1:Nat)(bb:Bool)(i1:Int)(r2:Nat)(v:Value)(r3 r4 r5:Nat)(k:Int):Obj:=⟨.type "code",none,.fields #[.str n a,.str q b,.str "/claim/cut.py" c,.int l 0,.int x 0,.int y 0,.int z 0,.int u 0,.ref r1,.bool bb,.int i1 0,.ref r2,v,.ref r3,.ref r4,.ref r5,.int k 0,.int l 0,.str "/claim/cut.py" d],#[]⟩
noncomputable abbrev bQ(n q:Str)(s:Stmt)(m:Str)(t c:Nat):Obj:=⟨.type "function",none,.func (fnOf n q (dr s) (cg s) (ao s) .none .none .none (.str m t) none (.ref c) .none),#[]⟩
abbrev o2(P:Params):Obj:=⟨.none,none,(.dict #[] 0),#[]⟩
abbrev o3(P:Params):Obj:=⟨(.type "dict"),none,(.dict #[ke P "__name__" 165 (.str "law_twomeet_k11_definitions_told_or_refused" 1538),ke P "__doc__" 166 .none,ke P "__package__" 167 .none,ke P "__loader__" 168 (.builtin "__main__.__loader__#opaque"),ke P "__spec__" 169 .none,ke P "__annotations__" 170 (.ref 6),ke P "__builtins__" 171 (.ref 4),ke P "__file__" 173 (.str "/claim/cut.py" 172),ke P "__cached__" 174 .none,ke P "MeetError" 206 (.ref 24),ke P "Refused" 231 (.ref 44),ke P "Told" 247 (.ref 56),ke P "Loose" 263 (.ref 68),ke P "Stray" 279 (.ref 80),ke P "TooLong" 295 (.ref 92),ke P "Unmet" 323 (.ref 111),ke P "Unfit" 349 (.ref 130),ke P "Misused" 375 (.ref 149),ke P "NoRule" 401 (.ref 168),ke P "Unbound" 427 (.ref 187),ke P "Unsaid" 443 (.ref 199),ke P "NUMBER" 447 (.ref 202),ke P "TRUTH" 449 (.ref 203),ke P "parts" 456 (.ref 210),ke P "filled" 464 (.ref 217),ke P "gaps_filled" 472 (.ref 224),ke P "replaced" 484 (.ref 231),ke P "has_gaps" 493 (.ref 238),ke P "names_in" 501 (.ref 245),ke P "put_names" 510 (.ref 252),ke P "met" 523 (.ref 259),ke P "met_gap" 533 (.ref 266),ke P "unlikely" 545 (.ref 273),ke P "likeness" 553 (.ref 280),ke P "likeness_kind" 560 (.ref 287),ke P "MADE_OF_PARTS" 574 (.ref 288),ke P "parts_of" 581 (.ref 295),ke P "with_parts" 589 (.ref 302),ke P "walked" 606 (.ref 309),ke P "taken" 615 (.ref 316),ke P "put_in" 625 (.ref 323),ke P "marked" 632 (.ref 330),ke P "bare" 639 (.ref 337),ke P "unmarked" 647 (.ref 344),ke P "core_filled" 657 (.ref 351),ke P "Definition" 697 (.ref 368),ke P "told_at" 707 (.ref 379),ke P "core_at" 717 (.ref 386),ke P "Scope" 795 (.ref 434),ke P "YES" 799 (.ref 439),ke P "NO" 801 (.ref 440),ke P "becomes" 811 (.ref 447),ke P "truth" 818 (.ref 454),ke P "taken_apart" 826 (.ref 461),ke P "call_becomes" 835 (.ref 468),ke P "if_becomes" 843 (.ref 475),ke P "fold_becomes" 853 (.ref 482),ke P "likeness_becomes" 863 (.ref 489),ke P "asked" 872 (.ref 496),ke P "like_becomes" 881 (.ref 503),ke P "likerow_becomes" 890 (.ref 510),ke P "STEPPING" 926 (.ref 511),ke P "LIKENESSES" 930 (.ref 512),ke P "ENDS" 941 (.ref 513),ke P "ends_by_parts" 948 (.ref 520),ke P "with_part" 957 (.ref 527),ke P "Reckoning" 1035 (.ref 586),ke P "run" 1046 (.ref 597),ke P "come_up" 1057 (.ref 604),ke P "go_down" 1067 (.ref 611),ke P "found_to_be" 1079 (.ref 618),ke P "number_up" 1088 (.ref 625),ke P "truth_up" 1097 (.ref 632),ke P "told_up" 1107 (.ref 639),ke P "fun_up" 1116 (.ref 646),ke P "fun_down" 1127 (.ref 653),ke P "both_up" 1140 (.ref 660),ke P "both_down" 1152 (.ref 667),ke P "side_up" 1163 (.ref 674),ke P "rowof_up" 1177 (.ref 681),ke P "rowof_down" 1183 (.ref 686),ke P "row_of" 1193 (.ref 693),ke P "ahead_up" 1205 (.ref 700),ke P "ahead_down" 1217 (.ref 707),ke P "fold_up" 1231 (.ref 714),ke P "if_up" 1244 (.ref 721),ke P "if_down" 1257 (.ref 728),ke P "let_up" 1270 (.ref 735),ke P "let_down" 1283 (.ref 742),ke P "reckoned_up" 1294 (.ref 749),ke P "like_up" 1306 (.ref 756),ke P "called_up" 1315 (.ref 763),ke P "called_down" 1327 (.ref 770),ke P "called" 1342 (.ref 777),ke P "work_called" 1354 (.ref 784),ke P "definition_called" 1360 (.ref 789),ke P "part_met" 1375 (.ref 796),ke P "left_met" 1386 (.ref 803),ke P "definition_at" 1392 (.ref 808),ke P "COMING_UP" 1429 (.ref 809),ke P "GOING_DOWN" 1446 (.ref 811),ke P "Shelf" 1525 (.ref 863),ke P "refuse_names" 1537 (.ref 874),ke P "_law_next" 1548 (.ref 881),ke P "_law_word" 1554 (.ref 886),ke P "_law_told" 1567 (.ref 893),ke P "_law_inner_refused" 1580 (.ref 900),ke P "_law_likes" 1587 (.ref 907),ke P "_law_written" 1600 (.ref 914),ke P "law" 1606 (.ref 919)] 110),#[]⟩
abbrev U5(P:Params):Obj:=⟨(.type "dict"),none,(.dict #[ke P "__module__" 196 (.str "twomeet.errors" 187),ke P "__firstlineno__" 200 (.int 2 199),ke P "__static_attributes__" 201 (.ref 22),ke P "__weakref__" 203 (.ref 25),ke P "__doc__" 204 .none] 3),#[]⟩
abbrev Vj:Obj:=⟨(.type "type"),none,(.cls ⟨"MeetError",[(.type "ValueError")],((.ref 24)::fG),23, "MeetError",true,[],[(.ref 44),(.ref 56),(.ref 68),(.ref 80),(.ref 92)],false,none,false⟩),#[(some (.ref 15)),none,(some (.str "MeetError" 189)),(some (.str "MeetError" 197)),(some (.builtin "ValueError.__new__")),(some (.bool true))]⟩
abbrev Uo:Obj:=ck "__init__" "Refused.__init__" 219 220 221 225 6 2 0 0 3 35 true 181 36 .none 37 38 39 224
abbrev Hy:Obj:=bQ "__init__" "Refused.__init__" DQ "twomeet.errors" 187 40
abbrev Ux(P:Params):Obj:=⟨(.type "dict"),none,(.dict #[ke P "__module__" 214 (.str "twomeet.errors" 187),ke P "__firstlineno__" 218 (.int 4 217),ke P "__init__" 226 (.ref 41),ke P "__static_attributes__" 228 (.ref 42),ke P "__doc__" 229 .none] 2),#[]⟩
abbrev Vh:Obj:=⟨(.type "type"),none,(.cls ⟨"Refused",[(.ref 24)],((.ref 44)::(.ref 24)::fG),43, "Refused",true,[],[(.ref 111),(.ref 130),(.ref 149),(.ref 168),(.ref 187),(.ref 199)],false,none,false⟩),#[(some (.ref 28)),none,(some (.str "Refused" 207)),(some (.str "Refused" 215)),(some (.builtin "ValueError.__new__")),(some (.bool true))]⟩
abbrev UJ(P:Params):Obj:=⟨(.type "dict"),none,(.dict #[ke P "__module__" 239 (.str "twomeet.errors" 187),ke P "__firstlineno__" 243 (.int 8 242),ke P "__static_attributes__" 244 (.ref 54),ke P "__doc__" 245 .none] 2),#[]⟩
abbrev UC:Obj:=⟨(.type "type"),none,(.cls ⟨"Told",[(.ref 24)],((.ref 56)::(.ref 24)::fG),55, "Told",true,[],[],false,none,false⟩),#[(some (.ref 47)),none,(some (.str "Told" 232)),(some (.str "Told" 240)),(some (.builtin "ValueError.__new__")),(some (.bool true))]⟩
abbrev Vn(P:Params):Obj:=⟨(.type "dict"),none,(.dict #[ke P "__module__" 255 (.str "twomeet.errors" 187),ke P "__firstlineno__" 259 (.int 10 258),ke P "__static_attributes__" 260 (.ref 66),ke P "__doc__" 261 .none] 2),#[]⟩
abbrev Us:Obj:=⟨(.type "type"),none,(.cls ⟨"Loose",[(.ref 24)],((.ref 68)::(.ref 24)::fG),67, "Loose",true,[],[],false,none,false⟩),#[(some (.ref 59)),none,(some (.str "Loose" 248)),(some (.str "Loose" 256)),(some (.builtin "ValueError.__new__")),(some (.bool true))]⟩
abbrev UN(P:Params):Obj:=⟨(.type "dict"),none,(.dict #[ke P "__module__" 271 (.str "twomeet.errors" 187),ke P "__firstlineno__" 275 (.int 12 274),ke P "__static_attributes__" 276 (.ref 78),ke P "__doc__" 277 .none] 2),#[]⟩
abbrev Uv:Obj:=⟨(.type "type"),none,(.cls ⟨"Stray",[(.ref 24)],((.ref 80)::(.ref 24)::fG),79, "Stray",true,[],[],false,none,false⟩),#[(some (.ref 71)),none,(some (.str "Stray" 264)),(some (.str "Stray" 272)),(some (.builtin "ValueError.__new__")),(some (.bool true))]⟩
abbrev Vr(P:Params):Obj:=⟨(.type "dict"),none,(.dict #[ke P "__module__" 287 (.str "twomeet.errors" 187),ke P "__firstlineno__" 291 (.int 14 290),ke P "__static_attributes__" 292 (.ref 90),ke P "__doc__" 293 .none] 2),#[]⟩
abbrev UX:Obj:=⟨(.type "type"),none,(.cls ⟨"TooLong",[(.ref 24)],((.ref 92)::(.ref 24)::fG),91, "TooLong",true,[],[],false,none,false⟩),#[(some (.ref 83)),none,(some (.str "TooLong" 280)),(some (.str "TooLong" 288)),(some (.builtin "ValueError.__new__")),(some (.bool true))]⟩
abbrev Si:Obj:=ck "__init__" "Unmet.__init__" 308 309 310 316 18 4 0 0 3 102 true 181 103 .none 104 105 106 315
abbrev Mr:Obj:=bQ "__init__" "Unmet.__init__" Kr "twomeet.errors" 187 107
abbrev TK(P:Params):Obj:=⟨(.type "dict"),none,(.dict #[ke P "__module__" 303 (.str "twomeet.errors" 187),ke P "__firstlineno__" 307 (.int 16 306),ke P "__init__" 317 (.ref 108),ke P "__static_attributes__" 320 (.ref 109),ke P "__doc__" 321 .none] 2),#[]⟩
abbrev Tx:Obj:=⟨(.type "type"),none,(.cls ⟨"Unmet",[(.ref 44)],((.ref 111)::(.ref 44)::(.ref 24)::fG),110, "Unmet",true,[],[],false,none,false⟩),#[(some (.ref 95)),none,(some (.str "Unmet" 296)),(some (.str "Unmet" 304)),(some (.builtin "ValueError.__new__")),(some (.bool true))]⟩
abbrev Sr:Obj:=ck "__init__" "NoRule.__init__" 388 389 390 395 34 3 0 0 3 159 true 181 160 .none 161 162 163 394
abbrev My:Obj:=bQ "__init__" "NoRule.__init__" Fc "twomeet.errors" 187 164
abbrev Sw(P:Params):Obj:=⟨(.type "dict"),none,(.dict #[ke P "__module__" 383 (.str "twomeet.errors" 187),ke P "__firstlineno__" 387 (.int 32 386),ke P "__init__" 396 (.ref 165),ke P "__static_attributes__" 398 (.ref 166),ke P "__doc__" 399 .none] 2),#[]⟩
abbrev S7:Obj:=⟨(.type "type"),none,(.cls ⟨"NoRule",[(.ref 44)],((.ref 168)::(.ref 44)::(.ref 24)::fG),167, "NoRule",true,[],[],false,none,false⟩),#[(some (.ref 152)),none,(some (.str "NoRule" 376)),(some (.str "NoRule" 384)),(some (.builtin "ValueError.__new__")),(some (.bool true))]⟩
abbrev SW:Obj:=ck "__init__" "Unbound.__init__" 414 415 416 421 39 3 0 0 3 178 true 181 179 .none 180 181 182 420
abbrev Nc:Obj:=bQ "__init__" "Unbound.__init__" Ee "twomeet.errors" 187 183
abbrev Ts(P:Params):Obj:=⟨(.type "dict"),none,(.dict #[ke P "__module__" 409 (.str "twomeet.errors" 187),ke P "__firstlineno__" 413 (.int 37 412),ke P "__init__" 422 (.ref 184),ke P "__static_attributes__" 424 (.ref 185),ke P "__doc__" 425 .none] 2),#[]⟩
abbrev Sk:Obj:=⟨(.type "type"),none,(.cls ⟨"Unbound",[(.ref 44)],((.ref 187)::(.ref 44)::(.ref 24)::fG),186, "Unbound",true,[],[],false,none,false⟩),#[(some (.ref 171)),none,(some (.str "Unbound" 402)),(some (.str "Unbound" 410)),(some (.builtin "ValueError.__new__")),(some (.bool true))]⟩
noncomputable abbrev Ll:Obj:=⟨(.type "tuple"),none,(.seq #[(.str "truth" 448)] 0),#[]⟩
abbrev TB:Obj:=ck "parts" "parts" 450 451 452 455 47 1 0 0 3 204 true 181 205 .none 206 207 208 454
abbrev MF:Obj:=bQ "parts" "parts" s0 "twomeet.kinds" 444 209
abbrev Ss:Obj:=ck "filled" "filled" 457 458 459 463 51 2 0 0 3 211 true 181 212 .none 213 214 215 462
abbrev OD:Obj:=bQ "filled" "filled" s1 "twomeet.kinds" 444 216
abbrev TC:Obj:=ck "gaps_filled" "gaps_filled" 465 466 467 471 53 2 0 0 3 218 true 181 219 .none 220 221 222 470
abbrev Mj:Obj:=bQ "gaps_filled" "gaps_filled" s2 "twomeet.kinds" 444 223
abbrev S1:Obj:=ck "replaced" "replaced" 473 474 475 483 55 3 0 0 3 225 true 181 226 .none 227 228 229 482
abbrev LO:Obj:=bQ "replaced" "replaced" s3 "twomeet.kinds" 444 230
abbrev SG:Obj:=ck "names_in" "names_in" 494 495 496 500 72 1 0 0 3 239 true 181 240 .none 241 242 243 499
abbrev Nt:Obj:=bQ "names_in" "names_in" s4 "twomeet.kinds" 444 244
abbrev Tn:Obj:=ck "put_names" "put_names" 502 503 504 509 76 2 0 0 3 246 true 181 247 .none 248 249 250 508
abbrev NZ:Obj:=bQ "put_names" "put_names" s5 "twomeet.kinds" 444 251
abbrev T6:Obj:=ck "met" "met" 511 512 513 522 81 3 0 0 3 253 true 181 254 .none 255 256 257 521
abbrev OO:Obj:=bQ "met" "met" s6 "twomeet.kinds" 444 258
abbrev Sm:Obj:=ck "met_gap" "met_gap" 524 525 526 532 95 3 0 0 3 260 true 181 261 .none 262 263 264 531
abbrev K7:Obj:=bQ "met_gap" "met_gap" s7 "twomeet.kinds" 444 265
abbrev SI:Obj:=ck "unlikely" "unlikely" 536 537 538 544 102 2 0 0 3 267 true 181 268 .none 269 270 271 543
abbrev L6:Obj:=bQ "unlikely" "unlikely" s8 "twomeet.likes" 534 272
abbrev S4:Obj:=ck "likeness" "likeness" 546 547 548 552 112 2 0 0 3 274 true 181 275 .none 276 277 278 551
abbrev MW:Obj:=bQ "likeness" "likeness" s9 "twomeet.likes" 534 279
abbrev S9:Obj:=ck "likeness_kind" "likeness_kind" 554 555 556 559 120 1 0 0 3 281 true 181 282 .none 283 284 285 558
abbrev NP:Obj:=bQ "likeness_kind" "likeness_kind" Ia "twomeet.likes" 534 286
abbrev Ta:Obj:=ck "__init__" "Definition.__init__" 672 673 674 683 187 5 0 0 3 359 true 181 360 .none 361 362 363 682
abbrev NF:Obj:=bQ "__init__" "Definition.__init__" IA "twomeet.definitions" 658 364
abbrev Sx(P:Params):Obj:=⟨(.type "dict"),none,(.dict #[ke P "__module__" 667 (.str "twomeet.definitions" 658),ke P "__firstlineno__" 671 (.int 185 670),ke P "__init__" 684 (.ref 365),ke P "__static_attributes__" 690 (.ref 366),ke P "__dict__" 692 (.ref 369),ke P "__weakref__" 694 (.ref 370),ke P "__doc__" 695 .none] 4),#[]⟩
noncomputable abbrev Sl:Obj:=⟨(.type "type"),none,(.cls ⟨"Definition",[(.type "object")],[(.ref 368),(.type "object")],367, "Definition",true,[],[],false,none,false⟩),#[none,none,(some (.str "Definition" 660)),(some (.str "Definition" 668)),(some (.builtin "object.__new__")),(some (.bool true))]⟩
abbrev SN:Obj:=ck "__init__" "Scope.__init__" 732 733 734 741 210 5 0 0 3 394 true 181 395 .none 396 397 398 740
abbrev Ot:Obj:=bQ "__init__" "Scope.__init__" HJ "twomeet.scope" 718 399
abbrev Tq:Obj:=ck "bind" "Scope.bind" 743 744 745 750 216 3 0 0 3 401 true 181 402 .none 403 404 405 749
abbrev Lx:Obj:=bQ "bind" "Scope.bind" zT "twomeet.scope" 718 406
abbrev T4:Obj:=⟨(.type "code"),none,(.fields #[(.str "is_bound" 752),(.str "Scope.is_bound" 753),(.str "/claim/cut.py" 754),(.int 219 0),(.int 2 0),(.int 0 0),(.int 0 0),(.int 3 0),(.ref 408),(.bool true),(.int 181 0),(.ref 409),.none,.none,.none,(.ref 410),(.int 755 0),(.int 219 0),(.str "/claim/cut.py" 756)]),#[]⟩
abbrev Lm:Obj:=bQ "is_bound" "Scope.is_bound" IP "twomeet.scope" 718 411
abbrev RT:Obj:=⟨(.type "code"),none,(.fields #[(.str "var_of" 758),(.str "Scope.var_of" 759),(.str "/claim/cut.py" 760),(.int 222 0),(.int 2 0),(.int 0 0),(.int 0 0),(.int 3 0),(.ref 413),(.bool true),(.int 181 0),(.ref 414),.none,.none,.none,(.ref 415),(.int 761 0),(.int 222 0),(.str "/claim/cut.py" 762)]),#[]⟩
abbrev MB:Obj:=bQ "var_of" "Scope.var_of" H9 "twomeet.scope" 718 416
abbrev Sd:Obj:=ck "likeness_of" "Scope.likeness_of" 764 765 766 772 226 3 0 0 3 418 true 181 419 .none 420 421 422 771
abbrev N9:Obj:=bQ "likeness_of" "Scope.likeness_of" zF "twomeet.scope" 718 423
abbrev S3:Obj:=ck "likenesses_given" "Scope.likenesses_given" 774 775 776 782 232 1 0 0 3 425 true 181 426 .none 427 428 429 781
abbrev Ow:Obj:=bQ "likenesses_given" "Scope.likenesses_given" zL "twomeet.scope" 718 430
abbrev S2(P:Params):Obj:=⟨(.type "dict"),none,(.dict #[ke P "__module__" 727 (.str "twomeet.scope" 718),ke P "__firstlineno__" 731 (.int 208 730),ke P "__init__" 742 (.ref 400),ke P "bind" 751 (.ref 407),ke P "is_bound" 757 (.ref 412),ke P "var_of" 763 (.ref 417),ke P "likeness_of" 773 (.ref 424),ke P "likenesses_given" 783 (.ref 431),ke P "__static_attributes__" 788 (.ref 432),ke P "__dict__" 790 (.ref 435),ke P "__weakref__" 792 (.ref 436),ke P "__doc__" 793 .none] 4),#[]⟩
noncomputable abbrev Tr:Obj:=⟨(.type "type"),none,(.cls ⟨"Scope",[(.type "object")],[(.ref 434),(.type "object")],433, "Scope",true,[],[],false,none,false⟩),#[none,none,(some (.str "Scope" 720)),(some (.str "Scope" 728)),(some (.builtin "object.__new__")),(some (.bool true))]⟩
abbrev TL:Obj:=ck "come_up" "come_up" 1049 1050 1051 1056 367 3 0 0 3 598 true 181 599 .none 600 601 602 1055
abbrev MH:Obj:=bQ "come_up" "come_up" zw "twomeet.writing" 1047 603
abbrev RV:Obj:=ck "go_down" "go_down" 1058 1059 1060 1066 369 4 0 0 3 605 true 181 606 .none 607 608 609 1065
abbrev NK:Obj:=bQ "go_down" "go_down" zJ "twomeet.writing" 1047 610
abbrev Sj:Obj:=ck "found_to_be" "found_to_be" 1068 1069 1070 1078 373 4 0 0 3 612 true 181 613 .none 614 615 616 1077
abbrev MS:Obj:=bQ "found_to_be" "found_to_be" zH "twomeet.writing" 1047 617
abbrev R3:Obj:=ck "truth_up" "truth_up" 1089 1090 1091 1096 380 3 0 0 3 626 true 181 627 .none 628 629 630 1095
abbrev Lf:Obj:=bQ "truth_up" "truth_up" zG "twomeet.writing" 1047 631
abbrev SJ:Obj:=ck "told_up" "told_up" 1098 1099 1100 1106 382 3 0 0 3 633 true 181 634 .none 635 636 637 1105
abbrev M5:Obj:=bQ "told_up" "told_up" zj "twomeet.writing" 1047 638
abbrev Sz:Obj:=ck "fun_down" "fun_down" 1117 1118 1119 1126 389 4 0 0 3 647 true 181 648 .none 649 650 651 1125
abbrev NG:Obj:=bQ "fun_down" "fun_down" zv "twomeet.writing" 1047 652
abbrev SV:Obj:=ck "if_down" "if_down" 1245 1246 1247 1256 451 4 0 0 3 722 true 181 723 .none 724 725 726 1255
abbrev Lr:Obj:=bQ "if_down" "if_down" AB "twomeet.writing" 1047 727
abbrev Su:Obj:=ck "like_up" "like_up" 1295 1296 1297 1305 468 3 0 0 3 750 true 181 751 .none 752 753 754 1304
abbrev LD:Obj:=bQ "like_up" "like_up" Ar "twomeet.writing" 1047 755
abbrev TF:Obj:=ck "called_up" "called_up" 1307 1308 1309 1314 472 3 0 0 3 757 true 181 758 .none 759 760 761 1313
abbrev M0:Obj:=bQ "called_up" "called_up" As "twomeet.writing" 1047 762
abbrev Ti:Obj:=ck "called_down" "called_down" 1316 1317 1318 1326 474 4 0 0 3 764 true 181 765 .none 766 767 768 1325
abbrev NI:Obj:=bQ "called_down" "called_down" Rv "twomeet.writing" 1047 769
abbrev Td:Obj:=ck "called" "called" 1328 1329 1330 1341 479 4 0 0 3 771 true 181 772 .none 773 774 775 1340
abbrev ON:Obj:=bQ "called" "called" Rk "twomeet.writing" 1047 776
abbrev Sn:Obj:=ck "work_called" "work_called" 1343 1344 1345 1353 495 4 0 0 3 778 true 181 779 .none 780 781 782 1352
abbrev Oy:Obj:=bQ "work_called" "work_called" QU "twomeet.writing" 1047 783
abbrev TU:Obj:=⟨(.type "code"),none,(.fields #[(.str "definition_called" 1355),(.str "definition_called" 1356),(.str "/claim/cut.py" 1357),(.int 502 0),(.int 6 0),(.int 0 0),(.int 0 0),(.int 3 0),(.ref 785),(.bool true),(.int 181 0),(.ref 786),.none,.none,.none,(.ref 787),(.int 1358 0),(.int 502 0),(.str "/claim/cut.py" 1359)]),#[]⟩
abbrev Mm:Obj:=bQ "definition_called" "definition_called" Ry "twomeet.writing" 1047 788
abbrev Tc:Obj:=ck "left_met" "left_met" 1376 1377 1378 1385 532 4 0 0 3 797 true 181 798 .none 799 800 801 1384
abbrev M4:Obj:=bQ "left_met" "left_met" QM "twomeet.writing" 1047 802
abbrev SK:Obj:=⟨(.type "code"),none,(.fields #[(.str "definition_at" 1387),(.str "definition_at" 1388),(.str "/claim/cut.py" 1389),(.int 541 0),(.int 5 0),(.int 0 0),(.int 0 0),(.int 3 0),(.ref 804),(.bool true),(.int 181 0),(.ref 805),.none,.none,.none,(.ref 806),(.int 1390 0),(.int 541 0),(.str "/claim/cut.py" 1391)]),#[]⟩
abbrev M7:Obj:=bQ "definition_at" "definition_at" QF "twomeet.writing" 1047 807
abbrev Lk(P:Params):Obj:=⟨(.type "dict"),none,(.dict #[ke P "number" 1393 (.ref 625),ke P "yes" 1395 (.ref 632),ke P "no" 1397 (.ref 632),ke P "name" 1399 (.ref 763),ke P "fun" 1401 (.ref 646),ke P "call" 1403 (.ref 763),ke P "told" 1405 (.ref 639),ke P "both" 1407 (.ref 660),ke P "left" 1409 (.ref 674),ke P "right" 1411 (.ref 674),ke P "rowof" 1413 (.ref 681),ke P "ahead" 1415 (.ref 700),ke P "fold" 1417 (.ref 714),ke P "if" 1419 (.ref 721),ke P "let" 1421 (.ref 735),ke P "sum" 1423 (.ref 749),ke P "less" 1425 (.ref 749),ke P "like" 1427 (.ref 756)] 18),#[]⟩
abbrev Ld(P:Params):Obj:=⟨(.type "dict"),none,(.dict #[ke P "name" 1430 (.ref 770),ke P "fun" 1431 (.ref 653),ke P "call" 1432 (.ref 770),ke P "both" 1433 (.ref 667),ke P "rowof" 1434 (.ref 686),ke P "ahead" 1435 (.ref 707),ke P "if" 1436 (.ref 728),ke P "let" 1437 (.ref 742)] 8),#[]⟩
abbrev S5:Obj:=ck "__init__" "Shelf.__init__" 1461 1462 1463 1466 552 1 0 0 3 819 true 181 820 .none 821 822 823 1465
abbrev ME:Obj:=bQ "__init__" "Shelf.__init__" Q4 "twomeet.shelf" 1447 824
abbrev SY:Obj:=ck "tell" "Shelf.tell" 1468 1469 1470 1479 556 6 0 0 3 826 true 181 827 .none 828 829 830 1478
abbrev MY:Obj:=bQ "tell" "Shelf.tell" Rn "twomeet.shelf" 1447 831
abbrev SA:Obj:=ck "write_as" "Shelf.write_as" 1489 1490 1491 1496 567 3 0 0 3 840 true 181 841 .none 842 843 844 1495
abbrev LY:Obj:=bQ "write_as" "Shelf.write_as" QV "twomeet.shelf" 1447 845
abbrev Sq:Obj:=ck "outside" "Shelf.outside" 1509 1510 1511 1514 574 1 0 0 3 854 true 181 855 .none 856 857 858 1513
abbrev NR:Obj:=bQ "outside" "Shelf.outside" QP "twomeet.shelf" 1447 859
abbrev R7(P:Params):Obj:=⟨(.type "dict"),none,(.dict #[ke P "__module__" 1456 (.str "twomeet.shelf" 1447),ke P "__firstlineno__" 1460 (.int 550 1459),ke P "__init__" 1467 (.ref 825),ke P "tell" 1480 (.ref 832),ke P "write" 1488 (.ref 839),ke P "write_as" 1497 (.ref 846),ke P "end" 1508 (.ref 853),ke P "outside" 1515 (.ref 860),ke P "__static_attributes__" 1518 (.ref 861),ke P "__dict__" 1520 (.ref 864),ke P "__weakref__" 1522 (.ref 865),ke P "__doc__" 1523 .none] 4),#[]⟩
noncomputable abbrev Sy:Obj:=⟨(.type "type"),none,(.cls ⟨"Shelf",[(.type "object")],[(.ref 863),(.type "object")],862, "Shelf",true,[],[],false,none,false⟩),#[none,none,(some (.str "Shelf" 1449)),(some (.str "Shelf" 1457)),(some (.builtin "object.__new__")),(some (.bool true))]⟩
abbrev SO:Obj:=ck "refuse_names" "refuse_names" 1526 1527 1528 1536 576 3 0 0 3 868 true 181 869 .none 870 871 872 1535
abbrev Ma:Obj:=bQ "refuse_names" "refuse_names" Q2 "twomeet.shelf" 1447 873
abbrev TH:Obj:=ck "_law_next" "_law_next" 1540 1541 1542 1547 588 2 0 0 3 875 true 181 876 .none 877 878 879 1546
abbrev Li:Obj:=bQ "_law_next" "_law_next" Rb "law_twomeet_k11_definitions_told_or_refused" 1538 880
abbrev SF:Obj:=⟨(.type "code"),none,(.fields #[(.str "_law_word" 1549),(.str "_law_word" 1550),(.str "/claim/cut.py" 1551),(.int 593 0),(.int 1 0),(.int 0 0),(.int 0 0),(.int 3 0),(.ref 882),(.bool true),(.int 181 0),(.ref 883),.none,.none,.none,(.ref 884),(.int 1552 0),(.int 593 0),(.str "/claim/cut.py" 1553)]),#[]⟩
abbrev Md:Obj:=bQ "_law_word" "_law_word" RK "law_twomeet_k11_definitions_told_or_refused" 1538 885
abbrev R8:Obj:=ck "_law_told" "_law_told" 1555 1556 1557 1566 596 6 0 0 3 887 true 181 888 .none 889 890 891 1565
abbrev Le:Obj:=bQ "_law_told" "_law_told" Rm "law_twomeet_k11_definitions_told_or_refused" 1538 892
abbrev SQ:Obj:=ck "_law_inner_refused" "_law_inner_refused" 1568 1569 1570 1579 607 3 0 0 3 894 true 181 895 .none 896 897 898 1578
abbrev Mu:Obj:=bQ "_law_inner_refused" "_law_inner_refused" RM "law_twomeet_k11_definitions_told_or_refused" 1538 899
abbrev TM:Obj:=ck "_law_likes" "_law_likes" 1581 1582 1583 1586 618 1 0 0 3 901 true 181 902 .none 903 904 905 1585
abbrev LS:Obj:=bQ "_law_likes" "_law_likes" QW "law_twomeet_k11_definitions_told_or_refused" 1538 906
abbrev Tu:Obj:=ck "_law_written" "_law_written" 1588 1589 1590 1599 620 4 0 0 3 908 true 181 909 .none 910 911 912 1598
abbrev Lj:Obj:=bQ "_law_written" "_law_written" QN "law_twomeet_k11_definitions_told_or_refused" 1538 913
abbrev S8:Obj:=⟨(.type "code"),none,(.fields #[(.str "law" 1601),(.str "law" 1602),(.str "/claim/cut.py" 1603),(.int 627 0),(.int 1 0),(.int 0 0),(.int 0 0),(.int 3 0),(.ref 915),(.bool true),(.int 181 0),(.ref 916),.none,.none,.none,(.ref 917),(.int 1604 0),(.int 627 0),(.str "/claim/cut.py" 1605)]),#[]⟩
abbrev MJ:Obj:=bQ "law" "law" QJ "law_twomeet_k11_definitions_told_or_refused" 1538 918
def K(P:Params):Frag:=[(2,(o2 P)),(3,(o3 P)),(23,(U5 P)),(24,Vj),(40,Uo),(41,Hy),(43,(Ux P)),(44,Vh),(55,(UJ P)),(56,UC),(67,(Vn P)),(68,Us),(79,(UN P)),(80,Uv),(91,(Vr P)),(92,UX),(107,Si),(108,Mr),(110,(TK P)),(111,Tx),(164,Sr),(165,My),(167,(Sw P)),(168,S7),(183,SW),(184,Nc),(186,(Ts P)),(187,Sk),(203,Ll),(209,TB),(210,MF),(216,Ss),(217,OD),(223,TC),(224,Mj),(230,S1),(231,LO),(244,SG),(245,Nt),(251,Tn),(252,NZ),(258,T6),(259,OO),(265,Sm),(266,K7),(272,SI),(273,L6),(279,S4),(280,MW),(286,S9),(287,NP),(364,Ta),(365,NF),(367,(Sx P)),(368,Sl),(399,SN),(400,Ot),(406,Tq),(407,Lx),(411,T4),(412,Lm),(416,RT),(417,MB),(423,Sd),(424,N9),(430,S3),(431,Ow),(433,(S2 P)),(434,Tr),(603,TL),(604,MH),(610,RV),(611,NK),(617,Sj),(618,MS),(631,R3),(632,Lf),(638,SJ),(639,M5),(652,Sz),(653,NG),(727,SV),(728,Lr),(755,Su),(756,LD),(762,TF),(763,M0),(769,Ti),(770,NI),(776,Td),(777,ON),(783,Sn),(784,Oy),(788,TU),(789,Mm),(802,Tc),(803,M4),(807,SK),(808,M7),(809,(Lk P)),(811,(Ld P)),(824,S5),(825,ME),(831,SY),(832,MY),(845,SA),(846,LY),(859,Sq),(860,NR),(862,(R7 P)),(863,Sy),(873,SO),(874,Ma),(880,TH),(881,Li),(885,SF),(886,Md),(892,R8),(893,Le),(899,SQ),(900,Mu),(906,TM),(907,LS),(913,Tu),(914,Lj),(918,S8),(919,MJ)]
noncomputable def as:List Addr:=[2,3,23,24,40,41,43,44,55,56,67,68,79,80,91,92,107,108,110,111,164,165,167,168,183,184,186,187,203,209,210,216,217,223,224,230,231,244,245,251,252,258,259,265,266,272,273,279,280,286,287,364,365,367,368,399,400,406,407,411,412,416,417,423,424,430,431,433,434,603,604,610,611,617,618,631,632,638,639,652,653,727,728,755,756,762,763,769,770,776,777,783,784,788,789,802,803,807,808,809,811,824,825,831,832,845,846,859,860,862,863,873,874,880,881,885,886,892,893,899,900,906,907,913,914,918,919]
def H:Hook:=kHook K as fun _=>by kernel_rfl
def view:Program:={pw with main:={pw.main with body:=[top 111]}}
noncomputable def loose:List Str:=(["MeetError", "Refused", "Told", "Loose", "Stray", "TooLong", "Unmet", "Unfit", "Misused", "NoRule", "Unbound", "Unsaid", "NUMBER", "TRUTH", "parts", "filled", "gaps_filled", "replaced", "has_gaps", "names_in", "put_names", "met", "met_gap", "unlikely", "likeness", "likeness_kind", "MADE_OF_PARTS", "parts_of", "with_parts", "walked", "taken", "put_in", "marked", "bare", "unmarked", "core_filled", "Definition", "told_at", "core_at", "Scope", "YES", "NO", "becomes", "truth", "taken_apart", "call_becomes", "if_becomes", "fold_becomes", "likeness_becomes", "asked", "like_becomes", "likerow_becomes", "STEPPING", "LIKENESSES", "ENDS", "ends_by_parts", "with_part", "Reckoning", "run", "come_up", "go_down", "found_to_be", "number_up", "truth_up", "told_up", "fun_up", "fun_down", "both_up", "both_down", "side_up", "rowof_up", "rowof_down", "row_of", "ahead_up", "ahead_down", "fold_up", "if_up", "if_down", "let_up", "let_down", "reckoned_up", "like_up", "called_up", "called_down", "called", "work_called", "definition_called", "part_met", "left_met", "definition_at", "COMING_UP", "GOING_DOWN", "Shelf", "refuse_names", "_law_next", "_law_word", "_law_told", "_law_inner_refused", "_law_likes", "_law_written"]:List String).map Str.ofString
def seen(s:Shared):Bool:=xlAt view [] s&&recOk (PySem.Challenge.rw_twomeet_k11_definitions_told_or_refused).row.toRowW.records s
noncomputable def _root_.PySem.W.Fast.tw10601598035723210706:Program:=PySem.Challenge.pw_twomeet_k11_definitions_told_or_refused
theorem _root_.PySem.W.Fast.te10601598035723210706:PySem.Challenge.pw_twomeet_k11_definitions_told_or_refused=PySem.W.Fast.tw10601598035723210706:=rfl
def obs(s:Shared):=(openSeen view loose (importedModules pw.main.body) seen true s,as.map s.heap.get?)
def Gi(w:World):=wm pw 12000 obs (w.withFollow "special-get-raises" false)
theorem KG:Gi=Gi:=rfl
name_quick runF_K11G for K11G.Gi by K11G.KG
theorem Qn(w:World):(openEnds treeTable pw (w.withFollow "special-get-raises" false) 12000).map obs=some (openGood view loose,Hook.val H (w.withFollow "special-get-raises" false)):=Aw ((congrFun PySem.W.Fast.runF_K11G_eq w).trans (by kernel_rfl))
def Gq(w:World):=wm pw 12000 obs (w.withFollow "special-get-raises" true)
theorem Ks:Gq=Gq:=rfl
name_quick runT_K11G for K11G.Gq by K11G.Ks
theorem PM(w:World):(openEnds treeTable pw (w.withFollow "special-get-raises" true) 12000).map obs=some (openGood view loose,Hook.val H (w.withFollow "special-get-raises" true)):=Aw ((congrFun PySem.W.Fast.runT_K11G_eq w).trans (by kernel_rfl))
theorem left:LeftO pw view loose seen (Hook.obs H) (Hook.val H) 12000:=byRow2 "special-get-raises" (P:=fun w=>(openEnds treeTable pw w 12000).map obs=some (openGood view loose,Hook.val H w)) Qn PM
section
variable (P:Params)
theorem l0:(K P).lookup 210=some MF:=by kernel_rfl
theorem l1:(K P).lookup 217=some OD:=by kernel_rfl
theorem l2:(K P).lookup 224=some Mj:=by kernel_rfl
theorem l3:(K P).lookup 231=some LO:=by kernel_rfl
theorem l4:(K P).lookup 245=some Nt:=by kernel_rfl
theorem l5:(K P).lookup 252=some NZ:=by kernel_rfl
theorem l6:(K P).lookup 259=some OO:=by kernel_rfl
theorem l7:(K P).lookup 266=some K7:=by kernel_rfl
theorem l8:(K P).lookup 273=some L6:=by kernel_rfl
theorem l9:(K P).lookup 280=some MW:=by kernel_rfl
theorem UT:(K P).lookup 287=some NP:=by kernel_rfl
theorem Vt:(K P).lookup 365=some NF:=by kernel_rfl
theorem Ov:(K P).lookup 400=some Ot:=by kernel_rfl
theorem US:(K P).lookup 407=some Lx:=by kernel_rfl
theorem Up:(K P).lookup 412=some Lm:=by kernel_rfl
theorem Uu:(K P).lookup 417=some MB:=by kernel_rfl
theorem Vg:(K P).lookup 424=some N9:=by kernel_rfl
theorem Ur:(K P).lookup 431=some Ow:=by kernel_rfl
theorem UB:(K P).lookup 604=some MH:=by kernel_rfl
theorem U9:(K P).lookup 611=some NK:=by kernel_rfl
theorem Uz:(K P).lookup 618=some MS:=by kernel_rfl
theorem Uy:(K P).lookup 632=some Lf:=by kernel_rfl
theorem Vc:(K P).lookup 639=some M5:=by kernel_rfl
theorem Vf:(K P).lookup 653=some NG:=by kernel_rfl
theorem Uw:(K P).lookup 728=some Lr:=by kernel_rfl
theorem Vk:(K P).lookup 756=some LD:=by kernel_rfl
theorem Vs:(K P).lookup 763=some M0:=by kernel_rfl
theorem Va:(K P).lookup 770=some NI:=by kernel_rfl
theorem Ut:(K P).lookup 777=some ON:=by kernel_rfl
theorem UA:(K P).lookup 784=some Oy:=by kernel_rfl
theorem Vd:(K P).lookup 789=some Mm:=by kernel_rfl
theorem Vu:(K P).lookup 803=some M4:=by kernel_rfl
theorem UK:(K P).lookup 808=some M7:=by kernel_rfl
theorem UP:(K P).lookup 825=some ME:=by kernel_rfl
theorem Vp:(K P).lookup 832=some MY:=by kernel_rfl
theorem UU:(K P).lookup 846=some LY:=by kernel_rfl
theorem UL:(K P).lookup 860=some NR:=by kernel_rfl
theorem UM:(K P).lookup 874=some Ma:=by kernel_rfl
theorem U0:(K P).lookup 881=some Li:=by kernel_rfl
theorem UH:(K P).lookup 886=some Md:=by kernel_rfl
theorem UQ:(K P).lookup 893=some Le:=by kernel_rfl
theorem U3:(K P).lookup 900=some Mu:=by kernel_rfl
theorem U7:(K P).lookup 907=some LS:=by kernel_rfl
theorem UD:(K P).lookup 914=some Lj:=by kernel_rfl
theorem Vo:(K P).lookup 919=some MJ:=by kernel_rfl
theorem yW:(K P).lookup 809=some (Lk P):=by kernel_rfl
theorem xC:(K P).lookup 811=some (Ld P):=by kernel_rfl
theorem JV:(K P).lookup 203=some Ll:=by kernel_rfl
theorem tZ:GoodC (K P) 368:=by exact uq
theorem gM:GoodC (K P) 434:=by exact uq
theorem ku:GoodC (K P) 863:=by exact uq
end
section
variable (P:Params)
theorem A5:(K P).lookup 184=some Nc:=by kernel_rfl
theorem Ba:(K P).lookup 41=some Hy:=by kernel_rfl
theorem B2:sZ (K P) 187 184:=⟨⟨"Unbound", "Unbound",186,[(.ref 44)],((.ref 44)::(.ref 24)::fG),true,[],[],false,none,none,(some (.ref 171)),none,(some (.str "Unbound" 402)),(some (.str "Unbound" 410)),(some (.bool true)),by kernel_rfl,by decide+kernel,by decide+kernel,by decide+kernel,by decide+kernel⟩,by kernel_rfl,by kernel_rfl,by kernel_rfl⟩
theorem uh:XC (K P) 187:=⟨⟨⟨"Unbound",[(.ref 44)],((.ref 187)::(.ref 44)::(.ref 24)::fG),186, "Unbound",true,[],[],false,none,false⟩,[44,24],by kernel_rfl,rfl,rfl⟩,by kernel_rfl,by kernel_rfl,by kernel_rfl⟩
theorem BS:jS (K P) 44 41:=Cw
theorem tP:∀g∈([[112,108,97,99,101],[110,97,109,101]]:List Tw.S).map str,aZ (K P) 187 g:=by simp only[aX,eM,uv];exact⟨(show findIn (K P) (.ref 187) "place" = some none by kernel_rfl),(show findIn (K P) (.ref 187) "name" = some none by kernel_rfl),fun _ h=>nomatch h⟩
end
section
variable (P:Params)
theorem Jr:sF (K P) 56:=⟨⟨"Told", "Told",55,[(.ref 24)],((.ref 24)::fG),true,[],[],false,none,none,(some (.ref 47)),none,(some (.str "Told" 232)),(some (.str "Told" 240)),(some (.bool true)),by kernel_rfl,by decide+kernel,by decide+kernel,by decide+kernel,by decide+kernel⟩,by kernel_rfl,by kernel_rfl⟩
theorem Js:XC (K P) 56:=⟨⟨⟨"Told",[(.ref 24)],((.ref 56)::(.ref 24)::fG),55, "Told",true,[],[],false,none,false⟩,[24],by kernel_rfl,rfl,rfl⟩,by kernel_rfl,by kernel_rfl,by kernel_rfl⟩
theorem JR:∀g∈([]:List Tw.S).map str,aZ (K P) 56 g:=by exact fun _ h=>nomatch h
end
section
variable (P:Params)
theorem FG:sF (K P) 68:=⟨⟨"Loose", "Loose",67,[(.ref 24)],((.ref 24)::fG),true,[],[],false,none,none,(some (.ref 59)),none,(some (.str "Loose" 248)),(some (.str "Loose" 256)),(some (.bool true)),by kernel_rfl,by decide+kernel,by decide+kernel,by decide+kernel,by decide+kernel⟩,by kernel_rfl,by kernel_rfl⟩
theorem FV:XC (K P) 68:=⟨⟨⟨"Loose",[(.ref 24)],((.ref 68)::(.ref 24)::fG),67, "Loose",true,[],[],false,none,false⟩,[24],by kernel_rfl,rfl,rfl⟩,by kernel_rfl,by kernel_rfl,by kernel_rfl⟩
theorem GG:∀g∈([]:List Tw.S).map str,aZ (K P) 68 g:=by exact fun _ h=>nomatch h
end
section
variable (P:Params)
theorem Gy:(K P).lookup 108=some Mr:=by kernel_rfl
theorem Gw:(K P).lookup 41=some Hy:=by kernel_rfl
theorem G2:sZ (K P) 111 108:=⟨⟨"Unmet", "Unmet",110,[(.ref 44)],((.ref 44)::(.ref 24)::fG),true,[],[],false,none,none,(some (.ref 95)),none,(some (.str "Unmet" 296)),(some (.str "Unmet" 304)),(some (.bool true)),by kernel_rfl,by decide+kernel,by decide+kernel,by decide+kernel,by decide+kernel⟩,by kernel_rfl,by kernel_rfl,by kernel_rfl⟩
theorem xF:XC (K P) 111:=⟨⟨⟨"Unmet",[(.ref 44)],((.ref 111)::(.ref 44)::(.ref 24)::fG),110, "Unmet",true,[],[],false,none,false⟩,[44,24],by kernel_rfl,rfl,rfl⟩,by kernel_rfl,by kernel_rfl,by kernel_rfl⟩
theorem GO:jS (K P) 44 41:=Cw
theorem xG:∀g∈([[112,108,97,99,101],[119,97,110,116,101,100],[102,111,117,110,100]]:List Tw.S).map str,aZ (K P) 111 g:=by simp only[aX,eM,uv];exact⟨(show findIn (K P) (.ref 111) "place" = some none by kernel_rfl),(show findIn (K P) (.ref 111) "wanted" = some none by kernel_rfl),(show findIn (K P) (.ref 111) "found" = some none by kernel_rfl),fun _ h=>nomatch h⟩
end
section
variable (P:Params)
theorem EW:(K P).lookup 165=some My:=by kernel_rfl
theorem DD:(K P).lookup 41=some Hy:=by kernel_rfl
theorem EF:sZ (K P) 168 165:=⟨⟨"NoRule", "NoRule",167,[(.ref 44)],((.ref 44)::(.ref 24)::fG),true,[],[],false,none,none,(some (.ref 152)),none,(some (.str "NoRule" 376)),(some (.str "NoRule" 384)),(some (.bool true)),by kernel_rfl,by decide+kernel,by decide+kernel,by decide+kernel,by decide+kernel⟩,by kernel_rfl,by kernel_rfl,by kernel_rfl⟩
theorem vh:XC (K P) 168:=⟨⟨⟨"NoRule",[(.ref 44)],((.ref 168)::(.ref 44)::(.ref 24)::fG),167, "NoRule",true,[],[],false,none,false⟩,[44,24],by kernel_rfl,rfl,rfl⟩,by kernel_rfl,by kernel_rfl,by kernel_rfl⟩
theorem Df:jS (K P) 44 41:=Cw
theorem u9:∀g∈([[112,108,97,99,101],[107,105,110,100]]:List Tw.S).map str,aZ (K P) 168 g:=by simp only[aX,eM,uv];exact⟨(show findIn (K P) (.ref 168) "place" = some none by kernel_rfl),(show findIn (K P) (.ref 168) "kind" = some none by kernel_rfl),fun _ h=>nomatch h⟩
end
theorem facts(w:World)(mg:Str->Option Value)(h:Heap)(KX:(K w.params).In h)(G:h.Ns mainGlobals mg):(∀d∈Ds,∃g fd,mE (K w.params) mg d g fd)/\(∀x∈df,mg x=none)/\(∀x g,tabs.lookup x=some g->TabAt (K w.params) mg (Ds.map (·.key)) x g)/\(∀x g,keys.lookup x=some g->pY (K w.params) mg x g)/\(∀x w',cons.lookup x=some w'->ue (K w.params) mg x w')/\(∀c fs,cG.lookup c=some fs->lZ (K w.params) mg c fs)/\xK (K w.params) mg ⟨Ds.map (·.key),tabs,keys,cons,cG,false,ib,lY⟩:=by
 have t0:=Ef (x:= "COMING_UP") (t:=809) (fns:=Ds.map (·.key)) (g:=Rx) (ks:=Q9) [([110,117,109,98,101,114], "number_up"),([121,101,115], "truth_up"),([110,111], "truth_up"),([110,97,109,101], "called_up"),([102,117,110], "fun_up"),([99,97,108,108], "called_up"),([116,111,108,100], "told_up"),([98,111,116,104], "both_up"),([108,101,102,116], "side_up"),([114,105,103,104,116], "side_up"),([114,111,119,111,102], "rowof_up"),([97,104,101,97,100], "ahead_up"),([102,111,108,100], "fold_up"),([105,102], "if_up"),([108,101,116], "let_up"),([115,117,109], "reckoned_up"),([108,101,115,115], "reckoned_up"),([108,105,107,101], "like_up")] KX G (by kernel_rfl) (yW _) ⟨rfl,rfl,rfl⟩ rfl (.cons (by kernel_rfl) (.cons (by kernel_rfl) (.cons (by kernel_rfl) (.cons (by kernel_rfl) (.cons (by kernel_rfl) (.cons (by kernel_rfl) (.cons (by kernel_rfl) (.cons (by kernel_rfl) (.cons (by kernel_rfl) (.cons (by kernel_rfl) (.cons (by kernel_rfl) (.cons (by kernel_rfl) (.cons (by kernel_rfl) (.cons (by kernel_rfl) (.cons (by kernel_rfl) (.cons (by kernel_rfl) (.cons (by kernel_rfl) (.cons (by kernel_rfl) (.nil))))))))))))))))))) rfl rfl;have t1:=Ef (x:= "GOING_DOWN") (t:=811) (fns:=Ds.map (·.key)) (g:=RJ) (ks:=Rg) [([110,97,109,101], "called_down"),([102,117,110], "fun_down"),([99,97,108,108], "called_down"),([98,111,116,104], "both_down"),([114,111,119,111,102], "rowof_down"),([97,104,101,97,100], "ahead_down"),([105,102], "if_down"),([108,101,116], "let_down")] KX G (by kernel_rfl) (xC _) ⟨rfl,rfl,rfl⟩ rfl (.cons (by kernel_rfl) (.cons (by kernel_rfl) (.cons (by kernel_rfl) (.cons (by kernel_rfl) (.cons (by kernel_rfl) (.cons (by kernel_rfl) (.cons (by kernel_rfl) (.cons (by kernel_rfl) (.nil))))))))) rfl rfl;have ea:=fun {P:Addr->Option Bool}{cs:List Tw.S} k=>each (cG:=cG) (es:=U2) (P:=P) (cs:=cs) KX G rfl (by kernel_rfl) k;refine⟨?D,?B,?T,?K,?C,?X,?E,?H,?I⟩
 case E=>
  refine dO (pz (C:=187) KX G (uh _) (tP _)) ?_;refine dO (pz (C:=56) KX G (Js _) (JR _)) ?_;refine dO (pz (C:=68) KX G (FV _) (GG _)) ?_;refine dO (pz (C:=111) KX G (xF _) (xG _)) ?_;refine dO (pz (C:=168) KX G (vh _) (u9 _)) ?_;exact xp
 case H=>
  refine mem_cons ⟨187,dG KX G (by kernel_rfl),ea (by kernel_rfl)⟩ ?_;refine mem_cons ⟨56,dG KX G (by kernel_rfl),ea (by kernel_rfl)⟩ ?_;refine mem_cons ⟨68,dG KX G (by kernel_rfl),ea (by kernel_rfl)⟩ ?_;refine mem_cons ⟨24,dG KX G (by kernel_rfl),ea (by kernel_rfl)⟩ ?_;refine mem_cons ⟨168,dG KX G (by kernel_rfl),ea (by kernel_rfl)⟩ ?_;exact Ak
 case I=>
  refine mem_cons (.inr (.inr ⟨[44,68,80,92],by decide,yv KX G (by kernel_rfl),ea (by kernel_rfl)⟩)) ?_;refine mem_cons (.inr (.inl ⟨rfl,gR KX G (by kernel_rfl),ea (by kernel_rfl)⟩)) ?_;refine mem_cons (.inr (.inr ⟨[44,56,80,92],by decide,yv KX G (by kernel_rfl),ea (by kernel_rfl)⟩)) ?_;refine mem_cons (.inl ⟨_,111,rfl,dG KX G (by kernel_rfl),ea (by kernel_rfl)⟩) ?_;exact Ak
 case X=>
  refine dO (yL (C:=187) (f:=184) (R:=44) (g:=41) (sf:= "self") (sb:= "self") (r:= "Refused") KX G (B2 _) (uh _) (tP _) (A5 _) (fun _ _ _ _ _ _=>kc (fun _ _ _=>rfl)) (by decide) rfl (by decide+kernel) (BS _) (Ba _) (by decide+kernel) (fun _ _ _ _ _ _=>oU (fun _ _=>rfl))) ?_;refine dO (Ah (C:=56) KX G (Jr _)) ?_;refine dO (Ah (C:=68) KX G (FG _)) ?_;refine dO (yL (C:=111) (f:=108) (R:=44) (g:=41) (sf:= "self") (sb:= "self") (r:= "Refused") KX G (G2 _) (xF _) (xG _) (Gy _) (fun _ _ _ _ _ _=>pk (fun _ _ _ _=>rfl)) (by decide) rfl (by decide+kernel) (GO _) (Gw _) (by decide+kernel) (fun _ _ _ _ _ _=>oU (fun _ _=>rfl))) ?_;refine dO (yL (C:=168) (f:=165) (R:=44) (g:=41) (sf:= "self") (sb:= "self") (r:= "Refused") KX G (EF _) (vh _) (u9 _) (EW _) (fun _ _ _ _ _ _=>kc (fun _ _ _=>rfl)) (by decide) rfl (by decide+kernel) (Df _) (DD _) (by decide+kernel) (fun _ _ _ _ _ _=>oU (fun _ _=>rfl))) ?_;exact xp
 case T=>exact jQ t0.1 (jQ t1.1 (sy))
 case K=>exact jQ t0.2 (jQ t1.2 (sy))
 case C=>
  refine jQ (MD (t:=203) (z:=[116,114,117,116,104]) KX G (by kernel_rfl) (JV _) rfl) ?_;exact sy
 case D=>
  show ∀d∈ [d0,d1,d2,d3,d4,d5,d6,d7,d8,d9,RP,QZ,Q8,QT,Rq,Rp,QY,QX,Rw,Rj,Ra,QR,Ru,Ro,Rz,Q5,QB,Rt,RN,RC,RH,Q7,Q3,QL,QH,QD,QK,RI,QA,RL,RQ,Q0,Rc,Rh,Rf],_;simp only[uv];refine⟨?_,?_,?_,?_,?_,?_,?_,?_,?_,?_,?_,?_,?_,?_,?_,?_,?_,?_,?_,?_,?_,?_,?_,?_,?_,?_,?_,?_,?_,?_,?_,?_,?_,?_,?_,?_,?_,?_,?_,?_,?_,?_,?_,?_,?_,fun _ h=>nomatch h⟩
  .exact bx (f:=210) KX G (l0 _) (fun _ _ _ _ _ _=>qY (fun _=>rfl))
  .exact bx (f:=217) KX G (l1 _) (fun _ _ _ _ _ _=>oU (fun _ _=>rfl))
  .exact bx (f:=224) KX G (l2 _) (fun _ _ _ _ _ _=>oU (fun _ _=>rfl))
  .exact bx (f:=231) KX G (l3 _) (fun _ _ _ _ _ _=>kc (fun _ _ _=>rfl))
  .exact bx (f:=245) KX G (l4 _) (fun _ _ _ _ _ _=>qY (fun _=>rfl))
  .exact bx (f:=252) KX G (l5 _) (fun _ _ _ _ _ _=>oU (fun _ _=>rfl))
  .exact bx (f:=259) KX G (l6 _) (fun _ _ _ _ _ _=>kc (fun _ _ _=>rfl))
  .exact bx (f:=266) KX G (l7 _) (fun _ _ _ _ _ _=>kc (fun _ _ _=>rfl))
  .exact bx (f:=273) KX G (l8 _) (fun _ _ _ _ _ _=>oU (fun _ _=>rfl))
  .exact bx (f:=280) KX G (l9 _) (fun _ _ _ _ _ _=>oU (fun _ _=>rfl))
  .exact bx (f:=287) KX G (UT _) (fun _ _ _ _ _ _=>qY (fun _=>rfl))
  .exact uV (f:=365) (C:=368) KX G (Vt _) (tZ _) (fun _ _ _ _ _ _=>HM (fun _ _ _ _ _=>rfl))
  .exact uV (f:=400) (C:=434) KX G (Ov _) (gM _) (fun _ _ _ _ _ _=>HM (fun _ _ _ _ _=>rfl))
  .exact mq (f:=407) (C:=434) KX G (US _) (gM _) (fun _ _ _ _ _ _=>kc (fun _ _ _=>rfl))
  .exact mq (f:=412) (C:=434) KX G (Up _) (gM _) (fun _ _ _ _ _ _=>oU (fun _ _=>rfl))
  .exact mq (f:=417) (C:=434) KX G (Uu _) (gM _) (fun _ _ _ _ _ _=>oU (fun _ _=>rfl))
  .exact mq (f:=424) (C:=434) KX G (Vg _) (gM _) (fun _ _ _ _ _ _=>kc (fun _ _ _=>rfl))
  .exact mq (f:=431) (C:=434) KX G (Ur _) (gM _) (fun _ _ _ _ _ _=>qY (fun _=>rfl))
  .exact bx (f:=604) KX G (UB _) (fun _ _ _ _ _ _=>kc (fun _ _ _=>rfl))
  .exact bx (f:=611) KX G (U9 _) (fun _ _ _ _ _ _=>pk (fun _ _ _ _=>rfl))
  .exact bx (f:=618) KX G (Uz _) (fun _ _ _ _ _ _=>pk (fun _ _ _ _=>rfl))
  .exact bx (f:=632) KX G (Uy _) (fun _ _ _ _ _ _=>kc (fun _ _ _=>rfl))
  .exact bx (f:=639) KX G (Vc _) (fun _ _ _ _ _ _=>kc (fun _ _ _=>rfl))
  .exact bx (f:=653) KX G (Vf _) (fun _ _ _ _ _ _=>pk (fun _ _ _ _=>rfl))
  .exact bx (f:=728) KX G (Uw _) (fun _ _ _ _ _ _=>pk (fun _ _ _ _=>rfl))
  .exact bx (f:=756) KX G (Vk _) (fun _ _ _ _ _ _=>kc (fun _ _ _=>rfl))
  .exact bx (f:=763) KX G (Vs _) (fun _ _ _ _ _ _=>kc (fun _ _ _=>rfl))
  .exact bx (f:=770) KX G (Va _) (fun _ _ _ _ _ _=>pk (fun _ _ _ _=>rfl))
  .exact bx (f:=777) KX G (Ut _) (fun _ _ _ _ _ _=>pk (fun _ _ _ _=>rfl))
  .exact bx (f:=784) KX G (UA _) (fun _ _ _ _ _ _=>pk (fun _ _ _ _=>rfl))
  .exact bx (f:=789) KX G (Vd _) (fun _ _ _ _ _ _=>HV (fun _ _ _ _ _ _=>rfl))
  .exact bx (f:=803) KX G (Vu _) (fun _ _ _ _ _ _=>pk (fun _ _ _ _=>rfl))
  .exact bx (f:=808) KX G (UK _) (fun _ _ _ _ _ _=>HM (fun _ _ _ _ _=>rfl))
  .exact uV (f:=825) (C:=863) KX G (UP _) (ku _) (fun _ _ _ _ _ _=>qY (fun _=>rfl))
  .exact mq (f:=832) (C:=863) KX G (Vp _) (ku _) (fun _ _ _ _ _ _=>HV (fun _ _ _ _ _ _=>rfl))
  .exact mq (f:=846) (C:=863) KX G (UU _) (ku _) (fun _ _ _ _ _ _=>kc (fun _ _ _=>rfl))
  .exact mq (f:=860) (C:=863) KX G (UL _) (ku _) (fun _ _ _ _ _ _=>qY (fun _=>rfl))
  .exact bx (f:=874) KX G (UM _) (fun _ _ _ _ _ _=>kc (fun _ _ _=>rfl))
  .exact bx (f:=881) KX G (U0 _) (fun _ _ _ _ _ _=>oU (fun _ _=>rfl))
  .exact bx (f:=886) KX G (UH _) (fun _ _ _ _ _ _=>qY (fun _=>rfl))
  .exact bx (f:=893) KX G (UQ _) (fun _ _ _ _ _ _=>HV (fun _ _ _ _ _ _=>rfl))
  .exact bx (f:=900) KX G (U3 _) (fun _ _ _ _ _ _=>kc (fun _ _ _=>rfl))
  .exact bx (f:=907) KX G (U7 _) (fun _ _ _ _ _ _=>qY (fun _=>rfl))
  .exact bx (f:=914) KX G (UD _) (fun _ _ _ _ _ _=>pk (fun _ _ _ _=>rfl))
  .exact bx (f:=919) KX G (Vo _) (fun _ _ _ _ _ _=>qY (fun _=>rfl))
 case B=>
  exact K6 KX G
theorem walk{l:OpenLaw}{q:Program}{lo:List Str}{XP:(Str->Option Value)->Heap->Prop}{YP:World->Heap->Prop}{d:DefRec}(hn:l.most=some 63)(hdf:d.params.defaults=[])(hY:∀(w:World)(h:Heap),YP w h->(K w.params).In h)(hd:d.name= "law"):WalkO q lo XP YP l.row.toRowW d [] (fun f vs=>PySem.call f vs):=
 Fm (T:=T) (Ds:=Ds) (i:=44) (k:=45) UG rfl hn hdf hY hd facts (by exact⟨rfl,by decide,by decide⟩) fun ns hl=>En ns
end K11G
open PySem PySem.W PyProof.Rows
set_option maxRecDepth 100000 in
set_option maxHeartbeats 0 in
theorem PySem.Challenge.cw_twomeet_k11_definitions_told_or_refused_holds : PySem.Challenge.rw_twomeet_k11_definitions_told_or_refused.Holds := by
 w_on;o_law
 refine holds_open (q:=K11G.view) (loose:=K11G.loose) (Xt:=K11G.seen) (XP:=XL K11G.view []) (Yf:=Hook.obs K11G.H) (Ya:=Hook.val K11G.H) (YP:=Hook.says K11G.H) (N:=12000) K11G.left (Hook.of K11G.H) (Hook.keeps K11G.H) (fun s e=>xl_of s (pT.mp e).1) XL.keeps (by rfl) (by rfl) (by rfl) (fun s e=>recFacts_of (pT.mp e).2) (by rfl) (by assumption) (by decide+kernel) ⟨rfl,rfl,rfl,rfl,rfl,by decide+kernel⟩ ?hw ?hc
 case hw=>w_witness2
 exact K11G.walk (l:=PySem.Challenge.rw_twomeet_k11_definitions_told_or_refused) rfl rfl (fun w h Y=>kIn_of Y) rfl

