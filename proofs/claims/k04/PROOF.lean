import PyProof.Rows.All
import PyProof.TableCode
import PyProof.DefCall
import KE.KRevIter
import KE.KNest
import Wide.All
import OpenK.AllK
import Wide.FinOn
import Lean
import PyProof.EqAt
import PyProof.EqKinds
import PyProof.TupleCall
import PySem.Challenge.RW_twomeet_k04_kinds_of_cores
set_option Elab.async false
set_option linter.all false
set_option maxRecDepth 100000
set_option maxHeartbeats 4000000
set_option compiler.extract_closed false
noncomputable section
abbrev ba:=PySem.Value->PySem.Shared->Prop
abbrev aL:=List (PySem.Addr×PySem.Obj)
abbrev rC:=@Array.getElem?_eq_some_iff
abbrev CY:=@Array.length_toList
abbrev aE:=@Bool.and_eq_true
abbrev qe:=@Bool.and_eq_true_iff
abbrev yM:=@Bool.beq_eq_decide_eq
abbrev Fx:=@Bool.false_eq_true
abbrev jP:=@Bool.false_ne_true
abbrev wd:=@Bool.not_eq_true
abbrev ku:=@Bool.not_eq_true'
abbrev zg:=@Bool.or_eq_true
abbrev Ca:=@PySem.Heap.SameBut.update
abbrev bX:=@PySem.Heap.get?_push_of_some
abbrev gk:=@PySem.Heap.get?_push_size
abbrev mS:=@PySem.Heap.get?_update_other
abbrev qZ:=@PySem.Heap.get?_update_self
abbrev bC:=@PySem.Heap.lt_size
abbrev o9:=@PySem.Heap.size_push
abbrev lD:=@List.all_cons
abbrev jD:=@List.all_eq_true
abbrev uW:=@List.any_cons
abbrev rh:=@List.append_assoc
abbrev gI:=@List.append_nil
abbrev tP:=@List.cons.injEq
abbrev xG:=@List.cons_append
abbrev xQ:=@List.contains_eq_mem
abbrev Ci:=@List.contains_iff_mem
abbrev AX:=@List.drop_eq_getElem_cons
abbrev qB:=@List.filterMap_cons
abbrev qy:=@List.filter_cons
abbrev uL:=@List.forall_mem_cons
abbrev gi:=@List.getElem?_append_left
abbrev mC:=@List.getElem?_append_right
abbrev gJ:=@List.getElem?_eq_getElem
abbrev nh:=@List.getElem?_eq_none
abbrev xI:=@List.getElem?_eq_none_iff
abbrev ib:=@List.getElem?_eq_some_iff
abbrev jS:=@List.getElem?_map
abbrev yI:=@List.getElem?_replicate
abbrev iW:=@List.getElem?_set_ne
abbrev iV:=@List.getElem?_set_self
abbrev Bl:=@List.getElem?_take_of_lt
abbrev uF:=@List.getElem_mem
abbrev yi:=@List.isEmpty_iff
abbrev Az:=@List.isEmpty_nil
abbrev gR:=@List.length_append
abbrev dw:=@List.length_cons
abbrev xu:=@List.length_drop
abbrev fQ:=@List.length_map
abbrev ll:=@List.length_nil
abbrev A4:=@List.length_replicate
abbrev uK:=@List.length_set
abbrev m6:=@List.length_take
abbrev eA:=@List.lookup_cons
abbrev bx:=@List.map_cons
abbrev eh:=@List.map_nil
abbrev kK:=@List.mem_append
abbrev yC:=@List.mem_append_left
abbrev fU:=@List.mem_append_right
abbrev cY:=@List.mem_cons
abbrev jB:=@List.mem_cons_of_mem
abbrev oY:=@List.mem_cons_self
abbrev lC:=@List.mem_filter
abbrev gC:=@List.mem_map
abbrev pd:=@List.mem_of_getElem?
abbrev xA:=@List.mem_range
abbrev gH:=@List.mem_singleton
abbrev kJ:=@List.nil_append
abbrev yn:=@List.nodup_cons
abbrev rm:=@List.not_mem_nil
abbrev yk:=@List.of_mem_zip
abbrev xN:=@List.reverse_cons
abbrev cW:=@List.size_toArray
abbrev qx:=@Nat.le_of_eq
abbrev yv:=@Nat.le_of_lt
abbrev aV:=@Nat.le_refl
abbrev mR:=@Nat.le_succ
abbrev bW:=@Nat.le_trans
abbrev pj:=@Nat.lt_irrefl
abbrev cH:=@Nat.lt_of_lt_of_le
abbrev qS:=@Nat.lt_or_ge
abbrev uo:=@Nat.lt_succ_self
abbrev nK:=@Nat.ne_of_gt
abbrev dr:=@Nat.ne_of_lt
abbrev jT:=@Nat.not_lt
abbrev mE:=@Nat.pow_add
abbrev tW:=@Nat.pow_le_pow_right
abbrev mY:=@Nat.pow_pos
abbrev xj:=@Nat.succ.inj
abbrev iy:=@Nat.zero_le
abbrev bo:=@Ne.symm
abbrev pA:=@PySem.Obj.data_mapFields
abbrev vm:=@PySem.Obj.isFreed_of_fields
abbrev ir:=@Option.bind_eq_some_iff
abbrev gf:=@Option.bind_some
abbrev rn:=@Option.isNone_iff_eq_none
abbrev Bp:=@Option.isSome_iff_exists
abbrev kN:=@Option.map_eq_some_iff
abbrev kL:=@Option.some.inj
abbrev u4:=@PyProof.Rows.callWith_type1
abbrev AE:=@PyProof.Rows.slot_tuple_getitem
abbrev yf:=@PySem.F.args_tuple_add_2
abbrev xY:=@PySem.F.entry_tuple_add
abbrev wY:=@PySem.F.plainAttrs_list
abbrev xJ:=@PySem.F.slot_tuple_add
abbrev pU:=@PySem.W.callWith_K
abbrev ya:=@PySem.W.hideAll_none
abbrev sN:=@PySem.W.looks_findIn
abbrev lU:=@PySem.W.mg_none_of
abbrev gA:=@PySem.W.mg_of
abbrev hZ:=@PySem.mem_of_lookup
abbrev jZ:=@beq_eq_false_iff_ne
abbrev iF:=@beq_iff_eq
abbrev sE:=@PySem.builtinLookup_eq_fast
abbrev ot:=@PySem.codeAny_mono
abbrev c9:=@congrArg
abbrev bA:=@decide_eq_false
abbrev dG:=@decide_eq_true
abbrev aQ:=@decide_eq_true_eq
abbrev gQ:=@if_true
abbrev sQ:=@PySem.isSubtype_type
abbrev yD:=@PySem.noFill_tuple_add
abbrev sF:=@of_decide_eq_true
abbrev f7:=@PySem.sizeLine_eq
abbrev sH:=@PySem.typeLookup_type
abbrev jX:=@PySem.wpAny_Call_Name_kw
abbrev xZ:=@PySem.wpAny_Return_some
abbrev pV:=@PySem.wpAny_attempt
abbrev aj:=@PySem.wpAny_bind
abbrev kf:=@PySem.wpAny_call
abbrev xB:=@PySem.wpAny_callSpecial?_slot
abbrev sP:=@PySem.wpAny_call_entry
abbrev sO:=@PySem.wpAny_execs_cons
abbrev pI:=@PySem.wpAny_execs_nil
abbrev gB:=@PySem.wpAny_field
abbrev jW:=@PySem.wpAny_holding
abbrev qq:=@PySem.wpAny_isSubtype_exc
abbrev jq:=@PySem.wpAny_loadPart_at
abbrev iJ:=@PySem.wpAny_mono
abbrev jj:=@PySem.wpAny_newObj_type
abbrev kq:=@PySem.wpAny_of_eq
abbrev lB:=@PySem.wpAny_passesOwn
abbrev aM:=@PySem.wpAny_pure
abbrev om:=@PySem.wpAny_setField
abbrev qh:=@PySem.wpAny_standAt
abbrev lJ:=@PySem.wpAny_truthy_bool
theorem Exists.g{α:Sort u}{p:α->Prop}{b:Prop}(h:∃x,p x)(k:∀a,p a->b):b:=Exists.elim h k
theorem And.g{a b c:Prop}(h:a/\b)(k:a->b->c):c:=k h.1 h.2
theorem Exists.g4{α:Sort u}{β:Sort v}{p q s:α->β->Prop}{r:Prop}(h:∃a b,p a b/\q a b/\s a b)(k:∀a b,p a b->q a b->s a b->r):r:=h.elim fun a h=>h.elim fun b h=>k a b h.1 h.2.1 h.2.2
theorem Exists.g6{α:Sort u}{β:Sort v}{γ:Sort w}{p q s t:α->β->γ->Prop}{r:Prop}(h:∃a b c,p a b c/\q a b c/\s a b c/\t a b c)(k:∀a b c,p a b c->q a b c->s a b c->t a b c->r):r:=h.elim fun a h=>h.elim fun b h=>h.elim fun c h=>k a b c h.1 h.2.1 h.2.2.1 h.2.2.2
namespace L2
open PySem PySem.Spec PyProof.Rows
noncomputable abbrev Key:=Sum Int Str
noncomputable def Di:Key->Value->Bool
 |.inl k,v=>Value.isInt k v
 |.inr x,v=>Value.isStrOf x v
def Ni(w:World):Key->Int
 |.inl k=>hashInt k
 |.inr x=>hashStr w x
theorem cS:∀{k:Key}{v:Value},Di k v=true->(∃i t,k=Sum.inl i/\v=Value.int i t)\/(∃x t,k=Sum.inr x/\v=Value.str x t)
 |.inl i,v,h=>by
  obtain⟨t,e⟩:=Value.isInt_shape (k:=i) (v:=v) h;exact .inl ⟨i,t,rfl,e⟩
 |.inr x,v,h=>by
  obtain⟨t,e⟩:=Value.isStrOf_shape (x:=x) (v:=v) h;exact .inr ⟨x,t,rfl,e⟩
theorem Hi(a b:Int):decide ((Sum.inl a:Key)=Sum.inl b)=(a== b):=by
 by_cases e:a=b
 .subst e;simp
 .have h:¬ (Sum.inl a:Key)=Sum.inl b:=fun q=>e (Sum.inl.inj q);rw[bA h];exact (jZ.mpr e).symm
theorem Fv(a b:Str):decide ((Sum.inr a:Key)=Sum.inr b)=decide (a=b):=by
 by_cases e:a=b
 .subst e;simp
 .have h:¬ (Sum.inr a:Key)=Sum.inr b:=fun q=>e (Sum.inr.inj q);rw[bA h,bA e]
theorem Io(a:Int)(b:Str):decide ((Sum.inl a:Key)=Sum.inr b)=false:=bA (fun q=>nomatch q)
theorem Fh(a:Str)(b:Int):decide ((Sum.inr a:Key)=Sum.inl b)=false:=bA (fun q=>nomatch q)
def rq(prog:Program)(w:World):PySem.KeyKind prog w Key where
 is:=Di
 hash:=Ni w
 inj:=fun v a b ha hb=>by
  rcases cS ha with ⟨i,t,rfl,rfl⟩|⟨x,t,rfl,rfl⟩
  .rcases cS hb with ⟨j,u,rfl,e⟩|⟨y,u,rfl,e⟩
   .injection e with e1 _;rw[e1]
   .exact nomatch e
  .rcases cS hb with ⟨j,u,rfl,e⟩|⟨y,u,rfl,e⟩
   .exact nomatch e
   .injection e with e1 _;rw[e1]
 byValue:=fun k v h=>by
  rcases cS h with ⟨i,t,rfl,rfl⟩|⟨x,t,rfl,rfl⟩<;>rfl
 pyHash:=fun hv h=>by
  rcases cS hv with ⟨i,t,rfl,rfl⟩|⟨x,t,rfl,rfl⟩
  .exact wpAny_pyHash_int h
  .exact wpAny_pyHash_str h
 eqBool:=fun hu hv h=>by
  rcases cS hu with ⟨i,t,rfl,rfl⟩|⟨x,t,rfl,rfl⟩
  .rcases cS hv with ⟨j,u,rfl,rfl⟩|⟨y,u,rfl,rfl⟩
   .rw[Hi] at h;exact wpAny_eqBool_int h
   .rw[Io] at h;exact SeqAt.EqAt.int_str i t y u _ _ _ _ h
  .rcases cS hv with ⟨j,u,rfl,rfl⟩|⟨y,u,rfl,rfl⟩
   .rw[Fh] at h;exact SeqAt.EqAt.str_int x t j u _ _ _ _ h
   .rw[Fv] at h;exact wpAny_eqBool_str h
 «strs» := fun k x t v h=>by
  rcases cS h with ⟨i,u,rfl,e⟩|⟨y,u,rfl,e⟩
  .exact nomatch e
  .injection e with e1 _;subst e1;cases v<;>rfl
inductive V where
 |aw|bl (b:Bool)|int (i:Int)|str (x:Str)|byt (b:Array UInt8)|flt (b:UInt64)|ref (a:Addr)|ty (n:String)
 deriving DecidableEq
noncomputable def RelV:V->Value->Prop
 |.aw,u=>u=Value.none
 |.bl b,u=>u=Value.bool b
 |.int i,u=>∃t,u=Value.int i t
 |.str x,u=>∃t,u=Value.str x t
 |.byt b,u=>∃t,u=Value.bytes b t
 |.flt b,u=>∃t,u=Value.float b t
 |.ref a,u=>u=Value.ref a
 |.ty n,u=>u=Value.type n
abbrev Vals:List V->List Value->Prop:=Paired RelV
theorem Vals.length{xs:List V}{us:List Value}(r:Vals xs us):xs.length=us.length:=Paired.length r
theorem Vals.get:∀{xs:List V}{us:List Value}{i:Nat}{x:V},Vals xs us->xs[i]?=some x->∃u,us[i]?=some u/\RelV x u
 |_,_,_,_,.nil,e=>by simp at e
 |_,_,0,_,.cons r _,e=>by simp at e;subst e;exact⟨_,rfl,r⟩
 |_,_,i+1,x,.cons _ t,e=>by
  obtain⟨u,h1,h2⟩:=Vals.get (i:=i) (x:=x) t (by simpa using e);exact⟨u,by simpa using h1,h2⟩
theorem Vals.set{x:V}{u:Value}(r:RelV x u):∀{xs:List V}{us:List Value}(i:Nat),Vals xs us->Vals (xs.set i x) (us.set i u)
 |_,_,_,.nil=>.nil
 |_,_,0,.cons _ t=>.cons r t
 |_,_,i+1,.cons q t=>.cons q (Vals.set r i t)
theorem Vals.append:∀{xs ys:List V}{us ws:List Value},Vals xs us->Vals ys ws->Vals (xs++ys) (us++ws)
 |_,_,_,_,.nil,s=>s
 |_,_,_,_,.cons r t,s=>.cons r (Vals.append t s)
theorem Vals.take:∀{xs:List V}{us:List Value}(n:Nat),Vals xs us->Vals (xs.take n) (us.take n)
 |_,_,0,_=>.nil
 |_,_,_+1,.nil=>.nil
 |_,_,n+1,.cons r t=>.cons r (Vals.take n t)
theorem Vals.drop:∀{xs:List V}{us:List Value}(n:Nat),Vals xs us->Vals (xs.drop n) (us.drop n)
 |_,_,0,r=>r
 |_,_,_+1,.nil=>.nil
 |_,_,n+1,.cons _ t=>Vals.drop n t
noncomputable def pG:Option V->Option Value->Prop
 |some v,some u=>RelV v u
 |none,none=>True
 |_,_=>False
def KV{κ:Type}:List (κ×V)->List (κ×Value)->Prop:=Paired fun (p:κ×V) (q:κ×Value)=>p.1=q.1/\RelV p.2 q.2
noncomputable def kV:Key->V
 |.inl i=>.int i
 |.inr x=>.str x
inductive HO where
 |lst (xs:List V)
 |tup (xs:List V)
 |dK (kvs:List (Key×V))|dT (kvs:List (List Key×V))
 |set (S:Int->Bool) (n:Nat)
 |ins (C dx:Addr) (fs:List (Str×V))
 |own (x:Addr)
 |xd (fs:List (Str×V))
 |met (f x:Addr)
 |iT (lo hi:Int)
 |bh (o:Obj) (u:HO)
 |eD (ps:Array Value)
 |ext (φ:Heap->Prop)
noncomputable abbrev Hp:=Addr->Option HO
noncomputable def upd(H:Hp)(a:Addr)(o:HO):Hp:=fun b=>if b=a then some o else H b
theorem bP{H:Hp}{a:Addr}{o:HO}:upd H a o a=some o:=by unfold upd;rw[if_pos rfl]
theorem aJ{H:Hp}{a b:Addr}{o:HO}(h:b≠a):upd H a o b=H b:=by unfold upd;rw[if_neg h]
theorem fc{H:Hp}{a b:Addr}{o:HO}(h:H a=some o)(h':H b=none):a≠b:=by intro e;subst e;rw[h] at h';cases h'
section
variable (P:Program) (w:World)
def dM(H:Hp)(h:Heap)(a:Addr):HO->Prop
 |.lst xs=>xs.length<=sizeLine/\∃(its:List Value) (n:Nat),Vals xs its/\h.get? a=some {cls:=.type "list",data:=.seq its.toArray n}
 |.tup xs=>xs.length<=sizeLine/\∃its:List Value,Vals xs its/\IsTup h a its.toArray
 |.dK kvs=>kvs.length<=sizeLine/\(a== sysModules)=false/\∃vs,KV kvs vs/\h.DictOf (rq P w) a vs
 |.dT kvs=>kvs.length<=sizeLine/\(a== sysModules)=false/\∃xs:List (List Key×Addr×Value),
   Paired (fun (p:List Key×V) (q:List Key×Addr×Value)=>p.1=q.1/\H q.2.1=some (.tup (p.1.map kV))/\RelV p.2 q.2.2) kvs xs/\
   ∃o es ep,h.get? a=some o/\o.ExactDict/\o.data=.dict es ep/\es.toList=xs.map (entryOfKey (tupleKind (rq P w)))/\(xs.map (·.1)).Nodup
 |.set S n=>h.SetOf (intKind P w) a S n
 |.ins C dx fs=>H dx=some (.own a)/\fs.length<=1000/\dx≠a/\h.get? a=some (W.instObj C dx)/\
   ∃mA,h.Ns1 dx mA/\(∀f,pG (fs.lookup f) (mA f))/\PySem.Within mA (fs.map (·.1))
 |.own _=>∃o,h.get? a=some o
 |.xd fs=>∃mA,h.Ns1 a mA/\∀f,pG (fs.lookup f) (mA f)
 |.iT lo hi=>∃t u v,h.get? a=some {cls:=.type "range",data:=.fields #[.int lo t,.int hi u,.int 1 v]}
 |.bh o u=>h.get? a=some o/\dM H h a u
 |.eD ps=>h.get? a=some {cls:=.none,data:=.fields ps}
 |.met f x=>h.get? a=some (W.methodObj (.ref f) (.ref x))
 |.ext φ=>φ h/\(∃o,h.get? a=some o)/\∀h1 h2:Heap,φ h1->(∀o,h1.get? a=some o->h2.get? a=some o)->φ h2
def dI(H:Hp)(h:Heap):Prop:=∀a o,H a=some o->dM P w H h a o
end
section
variable {P:Program}{w:World}{H H':Hp}{h h':Heap}{a:Addr}{o:HO}
theorem dM.lt(x:dM P w H h a o):a<h.objs.size:=by
 cases o with
 |lst xs=>obtain⟨_,_,_,_,e⟩:=x;exact bC e
 |tup xs=>obtain⟨_,_,_,p⟩:=x;exact p.lt
 |dK kvs=>obtain⟨_,_,_,_,o,_,_,e,_⟩:=x;exact bC e
 |dT kvs=>obtain⟨_,_,_,_,o,_,_,e,_⟩:=x;exact bC e
 |set S n=>obtain⟨o,_,_,_,e,_⟩:=x;exact bC e
 |ins C dx fs=>obtain⟨_,_,_,e,_⟩:=x;exact bC e
 |own y=>obtain⟨_,e⟩:=x;exact bC e
 |xd fs=>obtain⟨_,⟨_,_,_,e,_⟩,_⟩:=x;exact bC e
 |iT lo hi=>obtain⟨_,_,_,e⟩:=x;exact bC e
 |bh ob u=>obtain⟨e,_⟩:=x;exact bC e
 |eD ps=>exact bC (show h.get? a=some _ from x)
 |met f y=>exact bC (show h.get? a=some _ from x)
 |ext φ=>obtain⟨_,⟨_,e⟩,_⟩:=x;exact bC e
theorem Paired.GB{α β:Type}{F G:α->β->Prop}:∀{l₁:List α}{l₂:List β},Paired F l₁ l₂->(∀a b,F a b->G a b)->Paired G l₁ l₂
 |_,_,.nil,_=>.nil
 |_,_,.cons r t,f=>.cons (f _ _ r) (Paired.GB t f)
theorem dM.gd(x:dM P w H h a o)(k:∀b u,(b=a\/H b=some (.own a))->h.get? b=some u->h'.get? b=some u)
  (ho:∀b,H b=some (.own a)->H' b=some (.own a)) (ht:∀b xs,H b=some (.tup xs)->H' b=some (.tup xs)):dM P w H' h' a o:=by
 induction o with
 |lst xs=>obtain⟨z,its,n,r,e⟩:=x;exact⟨z,its,n,r,k _ _ (.inl rfl) e⟩
 |tup xs=>obtain⟨z,its,r,ob,e,c⟩:=x;exact⟨z,its,r,ob,k _ _ (.inl rfl) e,c⟩
 |dK kvs=>obtain⟨z,y,vs,r,ob,es,ep,e,c⟩:=x;exact⟨z,y,vs,r,ob,es,ep,k _ _ (.inl rfl) e,c⟩
 |dT kvs=>
  obtain⟨z,y,xs,r,ob,es,ep,e,c⟩:=x;exact⟨z,y,xs,Paired.GB r fun p q z=>⟨z.1,ht _ _ z.2.1,z.2.2⟩,ob,es,ep,k _ _ (.inl rfl) e,c⟩
 |set S n=>obtain⟨ob,es,ep,t,e,c⟩:=x;exact⟨ob,es,ep,t,k _ _ (.inl rfl) e,c⟩
 |ins C dx fs=>
  obtain⟨d,z,ne,e,mA,⟨od,es,ep,e2,c⟩,r⟩:=x;exact⟨ho _ d,z,ne,k _ _ (.inl rfl) e,mA,⟨od,es,ep,k _ _ (.inr d) e2,c⟩,r⟩
 |own y=>obtain⟨ob,e⟩:=x;exact⟨ob,k _ _ (.inl rfl) e⟩
 |xd fs=>obtain⟨mA,⟨od,es,ep,e,c⟩,r⟩:=x;exact⟨mA,⟨od,es,ep,k _ _ (.inl rfl) e,c⟩,r⟩
 |iT lo hi=>obtain⟨t,u,v,e⟩:=x;exact⟨t,u,v,k _ _ (.inl rfl) e⟩
 |bh ob u ih=>obtain⟨e,q⟩:=x;exact⟨k _ _ (.inl rfl) e,ih q⟩
 |eD ps=>
  have e:h.get? a=some {cls:=.none,data:=.fields ps}:=x;show h'.get? a=some {cls:=.none,data:=.fields ps};exact k a _ (.inl rfl) e
 |met f y=>
  have e:h.get? a=some (W.methodObj (.ref f) (.ref y)):=x;show h'.get? a=some (W.methodObj (.ref f) (.ref y));exact k a _ (.inl rfl) e
 |ext φ=>obtain⟨p,⟨o,e⟩,st⟩:=x;exact⟨st _ _ p fun o q=>k _ _ (.inl rfl) q,⟨o,k _ _ (.inl rfl) e⟩,st⟩
theorem dI.lt(x:dI P w H h)(e:H a=some o):a<h.objs.size:=(x a o e).lt
theorem dI.fresh(x:dI P w H h)(e:h.objs.size<=a):H a=none:=by
 cases q:H a with
 |none=>rfl
 |some u=>exact absurd (cH (x.lt q) e) (pj _)
theorem dI.kept(x:dI P w H h)(k:∀b u,h.get? b=some u->h'.get? b=some u):dI P w H h':=fun a o e=>
 (x a o e).gd (fun b u _ q=>k b u q) (fun _ q=>q) fun _ _ q=>q
theorem dI.laid(x:dI P w H h)(k:∀b u,h.get? b=some u->h'.get? b=some u)(hp:h.objs.size<=a)(new:dM P w (upd H a o) h' a o):dI P w (upd H a o) h':=fun b u e=>by
 have hn:=x.fresh hp;by_cases hb:b=a
 .subst hb;rw[bP] at e;cases e;exact new
 .rw[aJ hb] at e;exact (x b u e).gd (fun c v _ q=>k c v q) (fun c q=>by rw[aJ (fc q hn)];exact q) fun c xs q=>by rw[aJ (fc q hn)];exact q
end
def Rd(H:Hp)(a:Addr)(u:HO):Prop:=H a=some u\/∃o,H a=some (.bh o u)
theorem Rd.ok{P:Program}{w:World}{H:Hp}{h:Heap}{a:Addr}{u:HO}(r:Rd H a u)(x:dI P w H h):dM P w H h a u:=by
 rcases r with r|⟨o,r⟩
 .exact x a u r
 .obtain⟨_,q⟩:=x a _ r;exact q
noncomputable def CT:Option HO->Prop
 |some (.lst _)=>True
 |some (.dK _)=>True
 |some (.dT _)=>True
 |some (.set _ _)=>True
 |some (.ins _ _ _)=>True
 |some (.ext _)=>True
 |_=>False
section
variable {P:Program}{w:World}{H:Hp}{h h':Heap}{x e:Addr}{o':HO}
theorem dI.write(ok:dI P w H h)(mu:CT (H x))(he:e=x\/H e=some (.own x))(k:∀b u,b≠e->h.get? b=some u->h'.get? b=some u)(heo:∃u,h'.get? e=some u)
  (new:dM P w (upd H x o') h' x o'):dI P w (upd H x o') h':=fun b u q=>by
 have nown:∀c y,H c=some (.own y)->c≠x:=fun c y r z=>by subst z;rw[r] at mu;exact mu
 have ntup:∀c xs,H c=some (.tup xs)->c≠x:=fun c xs r z=>by subst z;rw[r] at mu;exact mu
 by_cases hb:b=x
 .subst hb;rw[bP] at q;cases q;exact new
 .rw[aJ hb] at q;by_cases hbe:b=e
  .have q':H b=some (.own x):=by
    rcases he with z|z
    .exact absurd (hbe.trans z) hb
    .rw[hbe];exact z
   rw[q] at q';cases q';obtain⟨v,hv⟩:=heo;exact⟨v,by rw[hbe];exact hv⟩
  .refine (ok b u q).gd (fun c v hc r=>k c v ?_ r) (fun c r=>by rw[aJ (nown c b r)];exact r) fun c xs r=>by rw[aJ (ntup c xs r)];exact r
   rcases hc with rfl|hc
   .exact hbe
   .rintro rfl
    rcases he with z|z
    .exact nown c b hc z
    .rw[hc] at z;cases z;exact hb rfl
end
structure Un(fs ex:List Addr)(H H':Hp)(h h':Heap):Prop where
 keep:∀b o,h.get? b=some o->H b=none->b∉fs->b∉ex->h'.get? b=some o
 slot:∀b o,h.get? b=some o->H b=none->b∈fs->b∉ex->∃sl,h'.get? b=some {o with slots:=sl}
 free:∀b o,h.get? b=some o->H b=none->b∉ex->H' b=none
 there:∀b o,h.get? b=some o->b∉ex->∃o',h'.get? b=some o'
 gj:∀b xs,H b=some (.tup xs)->H' b=some (.tup xs)
 fL:∀b o u,H b=some (.bh o u)->H' b=some (.bh o u)
 fS:∀b ps,H b=some (.eD ps)->∃more,H' b=some (.eD (ps++more))
section
variable {fs fs' ex ex':List Addr}{H H1 H2:Hp}{h h1 h2 h':Heap}{a x e:Addr}{o:HO}
theorem Un.any(u:Un fs ex H H1 h h1){b:Addr}{ob:Obj}(q:h.get? b=some ob)(n:H b=none)(hx:b∉ex):∃sl,h1.get? b=some {ob with slots:=sl}:=by
 by_cases hb:b∈fs
 .exact u.slot b ob q n hb hx
 .exact⟨ob.slots,u.keep b ob q n hb hx⟩
theorem Un.trans(a:Un fs ex H H1 h h1)(b:Un fs ex H1 H2 h1 h2):Un fs ex H H2 h h2 where
 keep:=fun c ob q n hc hx=>b.keep c ob (a.keep c ob q n hc hx) (a.free c ob q n hx) hc hx
 slot:=fun c ob q n hc hx=>by
  obtain⟨sl,e1⟩:=a.slot c ob q n hc hx;obtain⟨sl',e2⟩:=b.slot c _ e1 (a.free c ob q n hx) hc hx;exact⟨sl',e2⟩
 free:=fun c ob q n hx=>by
  obtain⟨o',e1⟩:=a.there c ob q hx;exact b.free c o' e1 (a.free c ob q n hx) hx
 there:=fun c ob q hx=>by
  obtain⟨o',e1⟩:=a.there c ob q hx;exact b.there c o' e1 hx
 gj:=fun c xs q=>b.gj c xs (a.gj c xs q)
 fL:=fun c ob xs q=>b.fL c ob xs (a.fL c ob xs q)
 fS:=fun c ps q=>by
  obtain⟨m1,e1⟩:=a.fS c ps q;obtain⟨m2,e2⟩:=b.fS c _ e1;exact⟨m1++m2,by rw[e2,Array.append_assoc]⟩
theorem Un.kept(k:∀b u,h.get? b=some u->h'.get? b=some u):Un fs ex H H h h':=
 ⟨fun b ob q _ _ _=>k b ob q,fun b ob q _ _ _=>⟨ob.slots,k b ob q⟩,fun _ _ _ n _=>n,fun b ob q _=>⟨ob,k b ob q⟩,fun _ _ q=>q,fun _ _ _ q=>q,fun _ ps q=>⟨#[],by rw[q];simp⟩⟩
theorem Un.refl:Un fs ex H H h h:=Un.kept fun _ _ q=>q
theorem Un.laid(k:∀b u,h.get? b=some u->h'.get? b=some u)(hp:h.objs.size<=a)(hn:H a=none):Un fs ex H (upd H a o) h h' where
 keep:=fun b u q _ _ _=>k b u q
 slot:=fun b u q _ _ _=>⟨u.slots,k b u q⟩
 free:=fun b u q n _=>by rw[aJ (dr (cH (bC q) hp))];exact n
 there:=fun b u q _=>⟨u,k b u q⟩
 gj:=fun b xs q=>by rw[aJ (fc q hn)];exact q
 fL:=fun b u xs q=>by rw[aJ (fc q hn)];exact q
 fS:=fun b ps q=>⟨#[],by rw[aJ (fc q hn),q];simp⟩
theorem Un.write(mu:CT (H x))(he:e=x\/H e=some (.own x))(k:∀b u,b≠e->h.get? b=some u->h'.get? b=some u)(heo:∃u,h'.get? e=some u):Un fs ex H (upd H x o) h h':=by
 have hx:∀b,H b=none->b≠x:=fun b n z=>by subst z;rw[n] at mu;exact mu
 have hb:∀b,H b=none->b≠e:=fun b n z=>by
  subst z;rcases he with r|r
  .exact hx b n r
  .rw[n] at r;cases r
 have hm:∀b u,H b=some u->¬ CT (some u)->b≠x:=fun b u q nm z=>by subst z;rw[q] at mu;exact nm mu
 refine⟨fun b u q n _ _=>k b u (hb b n) q,fun b u q n _ _=>⟨u.slots,k b u (hb b n) q⟩,fun b u q n _=>by rw[aJ (hx b n)];exact n,fun b u q _=>?_,
  fun b xs q=>by rw[aJ (hm b _ q fun z=>z)];exact q,fun b u xs q=>by rw[aJ (hm b _ q fun z=>z)];exact q,fun b ps q=>⟨#[],by rw[aJ (hm b _ q fun z=>z),q];simp⟩⟩
 by_cases hbe:b=e
 .subst hbe;exact heo
 .exact⟨u,k b u hbe q⟩
theorem Un.mono(u:Un fs ex H H1 h h1)(hs:∀b∈fs,b∈fs')(hx:∀b∈ex,b∈ex'):Un fs' ex' H H1 h h1:=
 ⟨fun b ob q n hb he=>u.keep b ob q n (fun z=>hb (hs b z)) fun z=>he (hx b z),fun _ _ q n _ he=>u.any q n fun z=>he (hx _ z),fun b ob q n he=>u.free b ob q n fun z=>he (hx b z),fun b ob q he=>u.there b ob q fun z=>he (hx b z),u.gj,u.fL,u.fS⟩
end
noncomputable def vJ(h:Heap)(H:Hp):List Addr:=(List.range h.objs.size).filter fun a=>(H a).isSome
def lP(h:Heap)(H:Hp):Heap:=W.hideAll h (vJ h H)
theorem zL(h:Heap)(H:Hp):(lP h H).objs.size=h.objs.size:=W.hideAll_size _ _
theorem BW{h:Heap}{H:Hp}{b:Addr}{o:Obj}(e:h.get? b=some o)(n:H b=none):(lP h H).get? b=some o:=
 W.hideAll_get _ e fun hm=>by
  have q:(H b).isSome=true:=(lC.mp hm).2;rw[n] at q;simp at q
theorem Eu{h:Heap}{H:Hp}{b:Addr}{o:Obj}(e:(lP h H).get? b=some o):h.get? b=some o/\H b=none:=by
 have e':h.get? b=some o:=W.of_hideAll (vJ h H) e;refine⟨e',?_⟩;cases q:H b with
 |none=>rfl
 |some x=>
  have hm:b∈vJ h H:=lC.mpr ⟨xA.mpr (bC e'),by simp[q]⟩;have z:(lP h H).get? b=none:=ya (vJ h H) hm;rw[z] at e;cases e
noncomputable def Ed(g h:Heap)(L:Addr):aL:=(List.range h.objs.size).filterMap fun a=>if a=L\/(g.get? a).isSome=true then none else (h.get? a).map fun o=>(a,o)
def rest(g h:Heap)(L d:Addr):aL:=(Ed g h L).filter fun p=>decide (p.1≠d)
structure Mod(K:W.Frag)(mg:Str->Option Value)(base:Heap):Prop where
 r8:K.In base
 glob:base.Ns mainGlobals mg
 blt:∃mb,base.Ns builtinsNs mb/\∀x:Str,x≠ "__name__" ->mb x=bootBuiltins x
 nolimit:base.NoLimit
structure mx where
 g:Addr
 f:Nat
 vs:List V
 cd:Addr
 q:Str
structure jY where
 P:Addr
 q:Str
structure fu where
 fs:Nat->Option mx
 tb:List jY
noncomputable abbrev KW:fu:=⟨fun _=>none,[]⟩
/-- the context:a def's body (or a comprehension's block) running. base:fixed through the whole law;aO,jG:the entry;outer:the frames whose slots others may change (a def's callers);stack:all frames that run;
  ex:iterators that were made ahead of the entry and are walked here (a comprehension's);fn:the names whose cells were made at the entry (a def:all;a comprehension's block:its own);calm:not within an except suite;pn:pins that every state bears;xe:what is wanted of an exception that leaves the code -/
structure Cx where
 prog:Program
 w:World
 K:W.Frag
 mg:Str->Option Value
 base:Heap
 A:Around
 N:List Str
 aO:Shared
 jG:Hp
 env:Env
 outer:List Env
 stack:List Env
 ex:List Addr
 fn:Str->Bool
 calm:Bool
 pn:aL
 xe:ba
 cl:fu:=KW
def bp(l:List Env):List Addr:=l.filterMap (·.frame)
abbrev Cx.fs(X:Cx):List Addr:=bp X.outer
def oB(sc:Scope)(x:Str):Prop:=sc.names.lookup x=some .local\/sc.names.lookup x=some .cell\/sc.names.lookup x=some .free
def Loc(sc:Scope)(x:Str):Prop:=sc.names.lookup x=some .local\/sc.names.lookup x=some .cell
def Look(env:Env)(h:Heap)(m:Str->Option Value)(x:Str)(u:Value):Prop:=
 (env.kindOf x=some .local/\m x=some u)\/((env.kindOf x=some .cell\/env.kindOf x=some .free)/\∃c,env.cells.lookup x=some c/\h.IsCell c (some u))
structure Cx.Ok(X:Cx):Prop where
 mod:Mod X.K X.mg X.base
 kind:X.env.scope.kind=.function
 glob:X.env.globals=mainGlobals
 blt:X.env.builtins=builtinsNs
 above:X.aO.heap.objs.size<=X.env.locals
 inj:∀x y c,X.env.cells.lookup x=some c->X.env.cells.lookup y=some c->x=y
 has:∀x,(X.env.kindOf x=some .cell\/X.env.kindOf x=some .free)->∃c,X.env.cells.lookup x=some c
 pO:∀x c,X.fn x=true->X.env.cells.lookup x=some c->X.aO.heap.objs.size<=c
 hd:X.calm=true->X.A.handled=none
 frames:X.A.frames=some X.stack
 tB:X.stack=X.outer\/(X.stack=X.env::X.outer/\X.env.frame=some X.env.locals)
 z9:∀b∈X.ex,b≠X.env.locals/\∀x c,X.env.cells.lookup x=some c->c≠b
 bs:∀b o,X.base.get? b=some o->X.aO.heap.get? b=some o/\X.jG b=none
 kQ:X.base.objs.size<=X.aO.heap.objs.size
 nG:∀b o,X.base.get? b=some o->b∉X.ex
 oP:∀b∈X.ex,b∉X.fs
 fM:X.aO.heap.FunFrames X.base X.outer
 mU:∀b∈X.fs,X.jG b=none
structure Inv(X:Cx)(pins:aL)(σ:List (Option V))(H:Hp)(s:Shared):Prop where
 ok:X.Ok
 os:s.os=X.aO.os
 bare:AllBare s.gens
 base:Un X.fs X.ex X.jG H X.aO.heap s.heap
 loc:∃m,s.heap.Ns X.env.locals m/\∀(i:Nat)(x:Str)(v:V),X.N[i]?=some x->σ[i]?=some (some v)->oB X.env.scope x->∃u,RelV v u/\Look X.env s.heap m x u
 cell:∀x c,X.env.cells.lookup x=some c->∃v,s.heap.IsCell c v
 free:H X.env.locals=none
 fk:∀x c,X.env.cells.lookup x=some c->H c=none
 pin:∀p∈X.pn++pins,s.heap.get? p.1=some p.2/\H p.1=none/\p.1≠X.env.locals/\p.1∉X.fs/\∀v,p.2.data≠.cell v
 aD:dI X.prog X.w H s.heap
 len:σ.length=X.N.length
section
variable {X:Cx}{pins:aL}{σ:List (Option V)}{H H':Hp}{s:Shared}{h':Heap}
theorem Cx.Ok.xp(ok:X.Ok){b:Addr}{o:Obj}(e:X.base.get? b=some o):b∉X.fs:=fun hb=>by
 have:=(ok.fM.mem hb).1;rw[e] at this;cases this
theorem Inv.bs(I:Inv X pins σ H s):∀b o,X.base.get? b=some o->s.heap.get? b=some o/\H b=none:=fun b o e=>
 ⟨I.base.keep b o (I.ok.bs b o e).1 (I.ok.bs b o e).2 (I.ok.xp e) (I.ok.nG b o e),I.base.free b o (I.ok.bs b o e).1 (I.ok.bs b o e).2 (I.ok.nG b o e)⟩
theorem Inv.bk(I:Inv X pins σ H s):∀b o,X.base.get? b=some o->s.heap.get? b=some o:=fun b o e=>(I.bs b o e).1
theorem Inv.mod(I:Inv X pins σ H s):Mod X.K X.mg X.base:=I.ok.mod
theorem Inv.dP(I:Inv X pins σ H s):X.K.In s.heap:=I.ok.mod.r8.keeps I.bk
theorem Inv.lt(I:Inv X pins σ H s):X.env.locals<s.heap.objs.size:=let ⟨_,hn,_⟩:=I.loc;hn.lt
theorem Inv.sz(I:Inv X pins σ H s):X.aO.heap.objs.size<=s.heap.objs.size:=bW I.ok.above (yv I.lt)
theorem Inv.Ig(I:Inv X pins σ H s){a:Addr}(h:s.heap.objs.size<=a):a∉X.fs:=fun hb=>by
 obtain⟨_,o,ho,_⟩:=I.ok.fM.mem hb;exact absurd (cH (bC ho) (bW I.sz h)) (pj _)
theorem Inv.mO(I:Inv X pins σ H s):∀x c,X.env.cells.lookup x=some c->c≠X.env.locals:=fun x c e z=>by
 obtain⟨v,o,ho,hd⟩:=I.cell x c e;obtain⟨m,⟨o',es,ep,ho',hd',_⟩,_⟩:=I.loc;rw[z,ho'] at ho;cases ho;rw[hd'] at hd;cases hd
theorem Inv.fM(I:Inv X pins σ H s):s.heap.FunFrames X.base X.outer:=by
 have all:∀(l:List Env),(∀b∈bp l,b∈X.fs)->X.aO.heap.FunFrames X.base l->s.heap.FunFrames X.base l:=by
  intro l
  induction l with
  |nil=>intro _ _;trivial
  |cons env r ih=>
   intro hs hl;obtain⟨hk,⟨L,o,hf,hn,ho,hd⟩,hr⟩:=hl;have hL:L∈X.fs:=hs L (by unfold bp;rw[qB,hf];exact oY);obtain⟨sl,e⟩:=I.base.slot L o ho (I.ok.mU L hL) hL fun z=>I.ok.oP L z hL;exact⟨hk,⟨L,_,hf,hn,e,hd⟩,ih (fun b hb=>hs b (by unfold bp;rw[qB,hf];exact jB _ hb)) hr⟩
 exact all X.outer (fun _ hb=>hb) I.ok.fM
theorem Inv.stack(I:Inv X pins σ H s):s.heap.FunFrames X.base X.stack:=by
 rcases I.ok.tB with e|⟨e,hf⟩
 .rw[e];exact I.fM
 .rw[e];obtain⟨m,hn,_⟩:=I.loc;refine .cons (by rw[I.ok.kind];decide) hf hn ?_ I.fM;exact Heap.get?_none_of_le (bW I.ok.kQ I.ok.above)
theorem Inv.jF(I:Inv X pins σ H s):∀b∈bp X.stack,b∈X.env.locals::X.fs:=fun b hb=>by
 rcases I.ok.tB with e|⟨e,hf⟩
 .rw[e] at hb;exact jB _ hb
 .rw[e] at hb;unfold bp at hb;rw[qB,hf] at hb;exact hb
theorem Inv.iq(I:Inv X pins σ H s):∀b∈bp X.stack,H b=none:=fun b hb=>by
 rcases cY.mp (I.jF b hb) with e|hb
 .rw[e];exact I.free
 .obtain⟨_,o,ho,_⟩:=I.ok.fM.mem hb;exact I.base.free b o ho (I.ok.mU b hb) fun z=>I.ok.oP b z hb
theorem Inv.step{g':Array GenState}{t':Nat}{d':Drawn}{ch:List Addr}(I:Inv X pins σ H s)
  (hch:∀b∈ch,(b∈X.ex\/X.aO.heap.objs.size<=b)/\b≠X.env.locals/\(∀x c,X.env.cells.lookup x=some c->c≠b)/\∀p∈X.pn++pins,p.1≠b)
  (keep:∀b o,b≠X.env.locals->b∉X.fs->b∉ch->s.heap.get? b=some o->H b=none->h'.get? b=some o)
  (slot:∀b o,b≠X.env.locals->b∈X.fs->b∉ch->s.heap.get? b=some o->H b=none->∃sl,h'.get? b=some {o with slots:=sl}) (free:∀b o,b∉ch->s.heap.get? b=some o->H b=none->H' b=none)
  (there:∀b o,b∉ch->s.heap.get? b=some o->∃o',h'.get? b=some o')
  (gj:∀b xs,H b=some (.tup xs)->H' b=some (.tup xs)) (fL:∀b o u,H b=some (.bh o u)->H' b=some (.bh o u)) (fS:∀b ps,H b=some (.eD ps)->∃more,H' b=some (.eD (ps++more)))
  (ns:∀m,s.heap.Ns X.env.locals m->h'.Ns X.env.locals m) (aD:dI X.prog X.w H' h') (hg:AllBare g'):
  Inv X pins σ H' {s with heap:=h',gens:=g',drawn:=d',toks:=t'}:=by
 have neL:∀b o,X.aO.heap.get? b=some o->b≠X.env.locals:=fun b o e=>dr (cH (bC e) I.ok.above);have neC:∀b o,X.aO.heap.get? b=some o->b∉X.ex->b∉ch:=fun b o e hx hb=>by
  rcases (hch b hb).1 with z|z
  .exact hx z
  .exact absurd (cH (bC e) z) (pj _)
 have cellK:∀x c,X.env.cells.lookup x=some c->∀v,s.heap.IsCell c v->h'.IsCell c v:=fun x c e v ⟨o,ho,hd⟩=>by
  have nch:c∉ch:=fun z=>(hch c z).2.2.1 x c e rfl;by_cases hc:c∈X.fs
  .obtain⟨sl,q⟩:=slot c o (I.mO x c e) hc nch ho (I.fk x c e);exact⟨_,q,hd⟩
  .exact⟨o,keep c o (I.mO x c e) hc nch ho (I.fk x c e),hd⟩
 refine⟨I.ok,I.os,hg,⟨fun b o e n hb hx=>?_,fun b o e n hb hx=>?_,fun b o e n hx=>?_,fun b o e hx=>?_,fun b xs e=>gj b xs (I.base.gj b xs e),fun b o xs e=>fL b o xs (I.base.fL b o xs e),fun b ps e=>?_⟩,?_,fun x c e=>?_,?_,fun x c e=>?_,fun p hp=>?_,aD,I.len⟩
 .exact keep b o (neL b o e) hb (neC b o e hx) (I.base.keep b o e n hb hx) (I.base.free b o e n hx)
 .obtain⟨sl,e1⟩:=I.base.slot b o e n hb hx;obtain⟨sl',e2⟩:=slot b _ (neL b o e) hb (neC b o e hx) e1 (I.base.free b o e n hx);exact⟨sl',e2⟩
 .obtain⟨o',e1⟩:=I.base.there b o e hx;exact free b o' (neC b o e hx) e1 (I.base.free b o e n hx)
 .obtain⟨o',e1⟩:=I.base.there b o e hx;exact there b o' (neC b o e hx) e1
 .obtain⟨m1,e1⟩:=I.base.fS b ps e;obtain⟨m2,e2⟩:=fS b _ e1;exact⟨m1++m2,by rw[e2,Array.append_assoc]⟩
 .obtain⟨m,hn,hl⟩:=I.loc;refine⟨m,ns m hn,fun i x v e1 e2 e3=>?_⟩;obtain⟨u,r,l⟩:=hl i x v e1 e2 e3;refine⟨u,r,?_⟩;rcases l with l|⟨k,c,e,z⟩
  .exact .inl l
  .exact .inr ⟨k,c,e,cellK x c e _ z⟩
 .obtain⟨v,z⟩:=I.cell x c e;exact⟨v,cellK x c e v z⟩
 .obtain⟨m,⟨o,_,_,ho,_⟩,_⟩:=I.loc;exact free _ o (fun z=>(hch _ z).2.1 rfl) ho I.free
 .obtain⟨v,o,ho,hd⟩:=I.cell x c e;exact free c o (fun z=>(hch c z).2.2.1 x c e rfl) ho (I.fk x c e)
 .obtain⟨e,n,ne,nf,d⟩:=I.pin p hp;have nch:p.1∉ch:=fun z=>(hch p.1 z).2.2.2 p hp rfl;exact⟨keep p.1 p.2 ne nf nch e n,free p.1 p.2 nch e n,ne,nf,d⟩
theorem Inv.un{t':Nat}(I:Inv X pins σ H s)(u:Un X.fs [] H H' s.heap h')(aD:dI X.prog X.w H' h'):Inv X pins σ H' {s with heap:=h',toks:=t'}:=by
 obtain⟨m,⟨o,es,ep,ho,r⟩,_⟩:=id I.loc;obtain⟨sl,hL⟩:=u.any ho I.free (by simp);exact I.step (g':=s.gens) (d':=s.drawn) (ch:=[]) (fun _ z=>nomatch z) (fun b o _ hb _ e n=>u.keep b o e n hb (by simp)) (fun b o _ hb _ e n=>u.slot b o e n hb (by simp)) (fun b o _ e n=>u.free b o e n (by simp)) (fun b o _ e=>u.there b o e (by simp)) u.gj u.fL u.fS (fun m' hm=>by
  obtain⟨o',es',ep',ho',r'⟩:=hm;rw[ho] at ho';cases ho';exact⟨_,es',ep',hL,r'⟩) aD I.bare
theorem Inv.call{g':Array GenState}{t':Nat}{d':Drawn}{ch:List Addr}(I:Inv X pins σ H s)(u:Un (bp X.stack) ch H H' s.heap h')(aD:dI X.prog X.w H' h')(hg:AllBare g')
  (hch:∀b∈ch,(b∈X.ex\/X.aO.heap.objs.size<=b)/\b≠X.env.locals/\(∀x c,X.env.cells.lookup x=some c->c≠b)/\∀p∈X.pn++pins,p.1≠b):
  Inv X pins σ H' {s with heap:=h',gens:=g',drawn:=d',toks:=t'}:=by
 obtain⟨m,⟨o,es,ep,ho,r⟩,_⟩:=id I.loc;obtain⟨sl,hL⟩:=u.any ho I.free fun z=>(hch _ z).2.1 rfl;exact I.step (ch:=ch) hch (fun b o hL hb hc e n=>u.keep b o e n (fun z=>(cY.mp (I.jF b z)).elim hL hb) hc) (fun b o _ _ hc e n=>u.any e n hc) (fun b o hc e n=>u.free b o e n hc) (fun b o hc e=>u.there b o e hc) u.gj u.fL u.fS (fun m' hm=>by
  obtain⟨o',es',ep',ho',r'⟩:=hm;rw[ho] at ho';cases ho';exact⟨_,es',ep',hL,r'⟩) aD hg
theorem Inv.turned{t':Nat}{it:Addr}(I:Inv X pins σ H s)(k:∀b o,b≠it->s.heap.get? b=some o->h'.get? b=some o)(hn:H it=none)(hL:it≠X.env.locals)
  (h1:it∈X.ex\/X.aO.heap.objs.size<=it) (h2:∀x c,X.env.cells.lookup x=some c->c≠it) (h3:∀p∈X.pn++pins,p.1≠it):Inv X pins σ H {s with heap:=h',toks:=t'}:=by
 have nit:∀b u,H b=some u->b≠it:=fun b u e z=>by rw[z,hn] at e;cases e
 refine I.step (g':=s.gens) (d':=s.drawn) (ch:=[it]) (fun b hb=>?_) (fun b o _ _ hc e _=>k b o (fun z=>hc (by simp[z])) e) (fun b o _ _ hc e _=>⟨o.slots,k b o (fun z=>hc (by simp[z])) e⟩) (fun _ _ _ _ n=>n)
  (fun b o hc e=>⟨o,k b o (fun z=>hc (by simp[z])) e⟩) (fun _ _ e=>e) (fun _ _ _ e=>e) (fun b ps e=>⟨#[],by rw[e];simp⟩) (fun m hm=>?_) (fun b u e=>?_) I.bare
 .have e:b=it:=by simpa using hb
  subst e;exact⟨h1,hL,h2,h3⟩
 .obtain⟨o,es,ep,ho,r⟩:=hm;exact⟨o,es,ep,k _ o (bo hL) ho,r⟩
 .refine (I.aD b u e).gd (fun c v hc q=>k c v ?_ q) (fun _ q=>q) fun _ _ q=>q;rcases hc with z|z
  .rw[z];exact nit b u e
  .exact nit c _ z
theorem Inv.tok(I:Inv X pins σ H s)(t:Nat):Inv X pins σ H {s with toks:=t}:=I.un (h':=s.heap) (t':=t) Un.refl I.aD
theorem Inv.kept{t':Nat}(I:Inv X pins σ H s)(k:∀b u,s.heap.get? b=some u->h'.get? b=some u):Inv X pins σ H {s with heap:=h',toks:=t'}:=I.un (Un.kept k) (I.aD.kept k)
theorem Inv.laid{a:Addr}{o:HO}{t':Nat}(I:Inv X pins σ H s)(k:∀b u,s.heap.get? b=some u->h'.get? b=some u)(hp:s.heap.objs.size<=a)(new:dM X.prog X.w (upd H a o) h' a o):
  Inv X pins σ (upd H a o) {s with heap:=h',toks:=t'}:=I.un (Un.laid k hp (I.aD.fresh hp)) (I.aD.laid k hp new)
theorem Inv.write{x e:Addr}{o:HO}{t':Nat}(I:Inv X pins σ H s)(mu:CT (H x))(he:e=x\/H e=some (.own x))(k:∀b u,b≠e->s.heap.get? b=some u->h'.get? b=some u)(heo:∃u,h'.get? e=some u)
  (new:dM X.prog X.w (upd H x o) h' x o):Inv X pins σ (upd H x o) {s with heap:=h',toks:=t'}:=I.un (Un.write mu he k heo) (I.aD.write mu he k heo new)
theorem Inv.n6{pins':aL}(I:Inv X pins σ H s)(h:∀p∈pins',s.heap.get? p.1=some p.2/\H p.1=none/\p.1≠X.env.locals/\p.1∉X.fs/\∀v,p.2.data≠.cell v):Inv X pins' σ H s:=
 ⟨I.ok,I.os,I.bare,I.base,I.loc,I.cell,I.free,I.fk,fun p hp=>(kK.mp hp).elim (fun z=>I.pin p (yC _ z)) (h p),I.aD,I.len⟩
theorem pD{N:List Str}(hN:N.Nodup){i j:Nat}{x:Str}(a:N[i]?=some x)(b:N[j]?=some x):i=j:=by obtain⟨h1,e1⟩:=ib.mp a;obtain⟨h2,e2⟩:=ib.mp b;exact (List.getElem_inj hN).mp (e1.trans e2.symm)
theorem sr{M:Model}{A:Around}{E:ba}{i:Nat}{x:Str}{v:V}{u:Value}{Q:Unit->Shared->Prop}(I:Inv X pins σ H s)(hN:X.N.Nodup)(hi:X.N[i]?=some x)(hx:Loc X.env.scope x)(r:RelV v u)
  (h:∀s',Inv X pins (σ.set i (some v)) H s'->(∃a,Heap.SameBut a s.heap s'.heap/\(a=X.env.locals\/X.env.cells.lookup x=some a))->Q () s') (hf:X.fn x=true\/X.env.scope.names.lookup x=some .local:=by first|exact .inl rfl|exact .inr rfl|assumption):wpAny M A (storeName X.env x u) Q E s:=by
 obtain⟨m,hn,hl⟩:=id I.loc;have hcls:(X.env.scope.kind== .class || (X.env.scope.kind== .module&&X.env.locals != X.env.globals))=false:=by rw[I.ok.kind];rfl
 have hiσ:i<σ.length:=by rw[I.len];exact (ib.mp hi).1
 have mO:=I.mO;have tracked:∀{a:Addr}{h':Heap},(∃o,s.heap.get? a=some o/\H a=none)->Heap.SameBut a s.heap h'->dI X.prog X.w H h':=fun {a h'} ha hs b ob e=>by
  obtain⟨_,_,hfree⟩:=ha;refine (I.aD b ob e).gd (fun c w' hc q=>(hs.2 c ?_).trans q) (fun _ q=>q) fun _ _ q=>q
  rintro rfl
  rcases hc with rfl|hc
  .rw[hfree] at e;cases e
  .rw[hfree] at hc;cases hc
 rcases hx with hk|hk
 .refine wpAny_storeName_local hk hn (fun h' hn' hs=>?_) hcls;obtain⟨oL,_,_,hoL,_⟩:=id hn;refine h _ ⟨I.ok,I.os,I.bare,⟨fun b o e n hb hx=>?_,fun b o e n hb hx=>?_,I.base.free,fun b o e hx=>?_,I.base.gj,I.base.fL,I.base.fS⟩,⟨_,hn',fun j y v' e1 e2 e3=>?_⟩,fun y c e=>?_,I.free,I.fk,fun p hp=>?_,tracked ⟨oL,hoL,I.free⟩ hs,by simpa using I.len⟩ ⟨_,hs,.inl rfl⟩
  .exact (hs.2 b (dr (cH (bC e) I.ok.above))).trans (I.base.keep b o e n hb hx)
  .obtain⟨sl,e1⟩:=I.base.slot b o e n hb hx;exact⟨sl,(hs.2 b (dr (cH (bC e) I.ok.above))).trans e1⟩
  .obtain⟨o',e1⟩:=I.base.there b o e hx;exact⟨o',(hs.2 b (dr (cH (bC e) I.ok.above))).trans e1⟩
  .by_cases hj:j=i
   .subst hj;rw[hi] at e1;cases e1;rw[iV hiσ] at e2;cases e2;exact⟨u,r,.inl ⟨hk,by simp⟩⟩
   .rw[iW (bo hj)] at e2;obtain⟨u',r',q⟩:=hl j y v' e1 e2 e3;refine⟨u',r',?_⟩;rcases q with ⟨k,e⟩|⟨k,c,e,z⟩
    .refine .inl ⟨k,?_⟩;have:y≠x:=fun e=>hj (pD hN e1 (e▸hi));simp[this,e]
    .exact .inr ⟨k,c,e,z.sameBut hs (mO y c e)⟩
  .obtain⟨w',z⟩:=I.cell y c e;exact⟨w',z.sameBut hs (mO y c e)⟩
  .obtain⟨e,n,ne,nf,d⟩:=I.pin p hp;exact⟨(hs.2 p.1 ne).trans e,n,ne,nf,d⟩
 .have hfn:X.fn x=true:=by
   rcases hf with z|z
   .exact z
   .rw[z] at hk;cases hk
  obtain⟨c,hc⟩:=I.ok.has x (.inl hk);obtain⟨w',z⟩:=I.cell x c hc;refine wpAny_storeName_cell I.ok.kind hk hc z (fun h' hc' hs=>?_);obtain⟨oc,hoc,hocd⟩:=id z;refine h {s with heap:=h'} ⟨I.ok,I.os,I.bare,⟨fun b o e n hb hx=>?_,fun b o e n hb hx=>?_,I.base.free,fun b o e hx=>?_,I.base.gj,I.base.fL,I.base.fS⟩,⟨m,hn.sameBut hs (bo (mO x c hc)),fun j y v' e1 e2 e3=>?_⟩,fun y c' e=>?_,I.free,I.fk,fun p hp=>?_,tracked ⟨oc,hoc,I.fk x c hc⟩ hs,by simpa using I.len⟩ ⟨c,hs,.inr hc⟩
  .exact (hs.2 b (dr (cH (bC e) (I.ok.pO x c hfn hc)))).trans (I.base.keep b o e n hb hx)
  .obtain⟨sl,e1⟩:=I.base.slot b o e n hb hx;exact⟨sl,(hs.2 b (dr (cH (bC e) (I.ok.pO x c hfn hc)))).trans e1⟩
  .obtain⟨o',e1⟩:=I.base.there b o e hx;exact⟨o',(hs.2 b (dr (cH (bC e) (I.ok.pO x c hfn hc)))).trans e1⟩
  .by_cases hj:j=i
   .subst hj;rw[hi] at e1;cases e1;rw[iV hiσ] at e2;cases e2;exact⟨u,r,.inr ⟨.inl hk,c,hc,hc'⟩⟩
   .rw[iW (bo hj)] at e2;obtain⟨u',r',q⟩:=hl j y v' e1 e2 e3;refine⟨u',r',?_⟩;rcases q with q|⟨k,c',e,z'⟩
    .exact .inl q
    .refine .inr ⟨k,c',e,z'.sameBut hs ?_⟩
     rintro rfl
     exact hj (pD hN e1 (I.ok.inj _ _ _ e hc▸hi))
  .by_cases hcc:c'=c
   .subst hcc;exact⟨_,hc'⟩
   .obtain⟨w2,z2⟩:=I.cell y c' e;exact⟨w2,z2.sameBut hs hcc⟩
  .obtain⟨e,n,ne,nf,d⟩:=I.pin p hp;refine⟨(hs.2 p.1 ?_).trans e,n,ne,nf,d⟩;intro q;rw[q,hoc] at e;have q':oc=p.2:=kL e;exact d w' (by rw[<-q'];exact hocd)
theorem mj{M:Model}{A:Around}{E:ba}{i:Nat}{x:Str}{v:V}{u:Value}{Q:Unit->Shared->Prop}(I:Inv X pins σ H s)(hN:X.N.Nodup)(hi:X.N[i]?=some x)(hx:Loc X.env.scope x)(r:RelV v u)
  (h:∀s',Inv X pins (σ.set i (some v)) H s'->Q () s') (hf:X.fn x=true\/X.env.scope.names.lookup x=some .local:=by first|exact .inl rfl|exact .inr rfl|assumption):wpAny M A (storeName X.env x u) Q E s:=
 sr I hN hi hx r (fun s' I' _=>h s' I') hf
theorem Inv.Ki{s':Shared}{ch:List Addr}(I:Inv X pins σ H s)(ho:s'.os=s.os)(u:Un (bp X.stack) ch H H' s.heap s'.heap)(aD:dI X.prog X.w H' s'.heap)(hg:AllBare s'.gens)
  (hch:∀b∈ch,(b∈X.ex\/X.aO.heap.objs.size<=b)/\b≠X.env.locals/\(∀x c,X.env.cells.lookup x=some c->c≠b)/\∀p∈X.pn++pins,p.1≠b):Inv X pins σ H' s':=by
 obtain⟨h',g',d',t',o'⟩:=s';have e:o'=s.os:=ho;subst e;exact I.call (g':=g') (t':=t') (d':=d') u aD hg hch
end
abbrev XK:=Value->Option Addr->Hp->Prop
noncomputable abbrev St:=List (Option V)
abbrev VK:=V->Hp->Prop
abbrev TE:=St->Hp->VK->Prop
abbrev TT:=St->Hp->(Bool->Hp->Prop)->Prop
abbrev TA:=St->Hp->(List V->Hp->Prop)->Prop
structure Ends where
 nx:St->Hp->Prop
 rt:VK
 bk:St->Hp->Prop:=fun _ _=>False
 ct:St->Hp->Prop:=fun _ _=>False
abbrev TS:=Ends->St->Hp->Prop
def EP(X:Cx)(pins:aL)(σ:St)(Q:VK)(u:Value)(s':Shared):Prop:=∃v H',Inv X pins σ H' s'/\RelV v u/\Q v H'
def TP(X:Cx)(pins:aL)(σ:St)(Q:Bool->Hp->Prop)(b:Bool)(s':Shared):Prop:=∃H',Inv X pins σ H' s'/\Q b H'
def AP(X:Cx)(pins:aL)(σ:St)(Q:List V->Hp->Prop)(us:List Value)(s':Shared):Prop:=∃vs H',Inv X pins σ H' s'/\Vals vs us/\Q vs H'
def SP(X:Cx)(pins:aL)(D:Ends)(f:Flow)(s':Shared):Prop:=
 match f with
 |.next=>∃σ' H',Inv X pins σ' H' s'/\D.nx σ' H'
 |.brk=>∃σ' H',Inv X pins σ' H' s'/\D.bk σ' H'
 |.cont=>∃σ' H',Inv X pins σ' H' s'/\D.ct σ' H'
 |.ret u=>∃v σ' H',Inv X pins σ' H' s'/\RelV v u/\D.rt v H'
def PE(X:Cx)(e:Expr)(t:TE):Prop:=
 ∀(pins:aL)(s:Shared)(σ:St)(H:Hp)(Q:VK),Inv X pins σ H s->t σ H Q->wpAny (model X.prog X.w) X.A (eval e X.env) (EP X pins σ Q) X.xe s
def PT(X:Cx)(e:Expr)(t:TT):Prop:=
 ∀(pins:aL)(s:Shared)(σ:St)(H:Hp)(Q:Bool->Hp->Prop),Inv X pins σ H s->t σ H Q->wpAny (model X.prog X.w) X.A (isTrue e X.env (eval e X.env)) (TP X pins σ Q) X.xe s
def PW(X:Cx)(e:Expr)(t:TT):Prop:=
 ∀(whole:Sem Value)(pins:aL)(s:Shared)(σ:St)(H:Hp)(Q:Bool->Hp->Prop),Inv X pins σ H s->t σ H Q->wpAny (model X.prog X.w) X.A (isTrue e X.env whole) (TP X pins σ Q) X.xe s
theorem PW.pt{X:Cx}{e:Expr}{t:TT}(h:PW X e t):PT X e t:=h _
def PA(X:Cx)(es:List Expr)(t:TA):Prop:=
 ∀(pos:Pos)(pins:aL)(s:Shared)(σ:St)(H:Hp)(Q:List V->Hp->Prop),Inv X pins σ H s->t σ H Q->wpAny (model X.prog X.w) X.A (spliced (backTo pos (starEach es X.env))) (AP X pins σ Q) X.xe s
def PS(X:Cx)(st:Stmt)(t:TS):Prop:=
 ∀(pins:aL)(s:Shared)(σ:St)(H:Hp)(D:Ends),Inv X pins σ H s->t D σ H->wpAny (model X.prog X.w) X.A (exec st X.env) (SP X pins D) X.xe s
def eE(X:Cx)(st:List Stmt)(t:TS):Prop:=
 ∀(pins:aL)(s:Shared)(σ:St)(H:Hp)(D:Ends),Inv X pins σ H s->t D σ H->wpAny (model X.prog X.w) X.A (execs st X.env) (SP X pins D) X.xe s
theorem aG{α:Type}{t:Sem α}{Q Q':α->Shared->Prop}{M:Model}{A:Around}{E:ba}{s:Shared}(h:wpAny M A t Q E s)(hQ:∀a s,Q a s->Q' a s):wpAny M A t Q' E s:=iJ h hQ fun _ _ x=>x
section
variable {X:Cx}
noncomputable def Np(i:Nat):TE:=fun σ H Q=>∃v,σ[i]?=some (some v)/\Q v H
def tC(v:V):TE:=fun _ H Q=>Q v H
theorem mK{i:Nat}{x:Str}{pos:Pos}(hN:X.N[i]?=some x)(hv:oB X.env.scope x)(hd:(x== ("__debug__" : Str))=false:=by decide)(hcd:(x== ("__classdict__" : Str))=false:=by decide):PE X (.Name x pos) (Np i):=by
 intro pins s σ H Q I h;obtain⟨v,e,h⟩:=h;obtain⟨m,hn,hl⟩:=I.loc;obtain⟨u,r,l⟩:=hl i x v hN e hv;have fin:EP X pins σ Q u s:=⟨v,H,I,r,h⟩;rcases l with ⟨hk,hm⟩|⟨hk,c,hc,hcell⟩
 .exact wpAny_Name (wpAny_loadName_local I.ok.kind hk hn hm fin) hd
 .rcases hk with hk|hk
  .exact wpAny_Name (wpAny_loadName_cell I.ok.kind hk hc hcell fin) hd
  .exact wpAny_Name (wpAny_loadName_free I.ok.kind hk hc hcell fin hcd) hd
theorem HQ{i j pos}:PE X (.Constant (.int i) j pos) (tC (.int i)):=fun _ _ _ H _ I h=>wpAny_Constant_int ⟨.int i,H,I.tok _,⟨_,rfl⟩,h⟩
theorem KC{b j pos}:PE X (.Constant (.bool b) j pos) (tC (.bl b)):=fun _ _ _ H _ I h=>Constant_bool ⟨.bl b,H,I,rfl,h⟩
theorem Gy{j pos}:PE X (.Constant .none j pos) (tC .aw):=fun _ _ _ H _ I h=>Constant_none ⟨.aw,H,I,rfl,h⟩
theorem Ax{x j pos}:PE X (.Constant (.str x) j pos) (tC (.str x)):=fun _ _ _ H _ I h=>Calls.Constant_str ⟨.str x,H,I.tok _,⟨_,rfl⟩,h⟩
def Gl(X:Cx)(x:Str):Prop:=X.env.kindOf x=some .globalImplicit
theorem fY{E:ba}{pins:aL}{s:Shared}{σ:St}{H:Hp}{x:Str}{u:Value}{pos:Pos}{Q:ba}(I:Inv X pins σ H s)(hg:Gl X x)(hm:X.mg x=some u)(h:Q u s)
  (hd:(x== ("__debug__" : Str))=false:=by decide):wpAny (model X.prog X.w) X.A (eval (.Name x pos) X.env) Q E s:=
 Calls.Name_function_global I.ok.kind hg (Calls.loadGlobal_global (by rw[I.ok.glob];exact I.mod.glob.keeps I.bk) hm h) hd
theorem jv{E:ba}{pins:aL}{s:Shared}{σ:St}{H:Hp}{x:Str}{u:Value}{pos:Pos}{Q:ba}(I:Inv X pins σ H s)(hg:Gl X x)(hm:X.mg x=none)(hv:bootBuiltins x=some u)(h:Q u s)
  (hn:x≠ "__name__" := by decide) (hd:(x== ("__debug__" : Str))=false:=by decide):wpAny (model X.prog X.w) X.A (eval (.Name x pos) X.env) Q E s:=by
 obtain⟨mb,h1,h2⟩:=I.mod.blt;exact Calls.Name_function_global I.ok.kind hg (Calls.loadGlobal_builtin (by rw[I.ok.glob];exact I.mod.glob.keeps I.bk) hm (by rw[I.ok.blt];exact h1.keeps I.bk) ((h2 x hn).trans hv) h) hd
theorem qY{x:Str}{v:V}{u:Value}{pos:Pos}(hg:Gl X x)(hm:X.mg x=some u)(r:RelV v u)(hd:(x== ("__debug__" : Str))=false:=by decide):PE X (.Name x pos) (tC v):=
 fun _ _ _ H _ I h=>fY I hg hm ⟨v,H,I,r,h⟩ hd
theorem EO{x:Str}{v:V}{u:Value}{pos:Pos}(hg:Gl X x)(hm:X.mg x=none)(hv:bootBuiltins x=some u)(r:RelV v u)(hn:x≠ "__name__" := by decide)(hd:(x== ("__debug__" : Str))=false:=by decide):PE X (.Name x pos) (tC v):=
 fun _ _ _ H _ I h=>jv I hg hm hv ⟨v,H,I,r,h⟩ hn hd
variable {a b:Expr}{ta tb:TE}{pos:Pos}
variable {tA tB':TT}{rest:List Expr}
noncomputable def Ms(t u:TT):TT:=fun σ H Q=>t σ H fun c H1=>if c=true then u σ H1 Q else Q false H1
noncomputable def NV(t u:TT):TT:=fun σ H Q=>t σ H fun c H1=>if c=true then Q true H1 else u σ H1 Q
def MY(t:TT):TT:=fun σ H Q=>t σ H fun c H1=>Q (!c) H1
theorem Eg(ha:PT X a tA):PW X (.BoolOp .And [a] pos) tA:=by
 intro wh pins s σ H Q I h;refine isTrue_and (aG (ha pins s σ H Q I h) fun c s1 e=>?_);cases c with
 |true=>exact isTrue_and_nil e
 |false=>exact e
theorem GY(ha:PT X a tA):PW X (.BoolOp .Or [a] pos) tA:=by
 intro wh pins s σ H Q I h;refine isTrue_or (aG (ha pins s σ H Q I h) fun c s1 e=>?_);cases c with
 |false=>exact isTrue_or_nil e
 |true=>exact e
theorem HD(ha:PT X a tA)(hb:PW X (.BoolOp .And (b::rest) pos) tB'):PW X (.BoolOp .And (a::b::rest) pos) (Ms tA tB'):=by
 intro wh pins s σ H Q I h;refine isTrue_and (aG (ha pins s σ H _ I h) fun c s1 ⟨H1,I1,q1⟩=>?_);cases c with
 |true=>exact hb wh pins s1 σ H1 Q I1 q1
 |false=>exact⟨H1,I1,q1⟩
theorem J6(ha:PT X a tA)(hb:PW X (.BoolOp .Or (b::rest) pos) tB'):PW X (.BoolOp .Or (a::b::rest) pos) (NV tA tB'):=by
 intro wh pins s σ H Q I h;refine isTrue_or (aG (ha pins s σ H _ I h) fun c s1 ⟨H1,I1,q1⟩=>?_);cases c with
 |true=>exact⟨H1,I1,q1⟩
 |false=>exact hb wh pins s1 σ H1 Q I1 q1
theorem GL(ha:PT X a tA):PT X (.UnaryOp .Not a pos) (MY tA):=by intro pins s σ H Q I h;exact isTrue_not (ha pins s σ H (fun c H1=>Q (!c) H1) I h)
noncomputable def JL(ta tb:TE):TE:=fun σ H Q=>ta σ H fun x H1=>∃c,x=.bl c/\if c=true then tb σ H1 Q else Q (.bl false) H1
noncomputable def Mq(ta tb:TE):TE:=fun σ H Q=>ta σ H fun x H1=>∃c,x=.bl c/\if c=true then Q (.bl true) H1 else tb σ H1 Q
theorem FO{op}{t:TE}(h:PE X a t):PE X (.BoolOp op [a] pos) t:=fun pins s σ H Q I hw=>BoolOp_one (h pins s σ H Q I hw)
theorem Ie(ha:PE X a ta)(hb:PE X (.BoolOp .And (b::rest) pos) tb):PE X (.BoolOp .And (a::b::rest) pos) (JL ta tb):=by
 intro pins s σ H Q I h;refine BoolOp_and (aG (ha pins s σ H _ I h) fun v s1 ⟨x,H1,I1,r1,q1⟩=>?_);obtain⟨c,rfl,q1⟩:=q1;cases r1;refine lJ ?_;cases c with
 |true=>exact hb pins s1 σ H1 Q I1 q1
 |false=>exact⟨.bl false,H1,I1,rfl,q1⟩
theorem Jr(ha:PE X a ta)(hb:PE X (.BoolOp .Or (b::rest) pos) tb):PE X (.BoolOp .Or (a::b::rest) pos) (Mq ta tb):=by
 intro pins s σ H Q I h;refine BoolOp_or (aG (ha pins s σ H _ I h) fun v s1 ⟨x,H1,I1,r1,q1⟩=>?_);obtain⟨c,rfl,q1⟩:=q1;cases r1;refine lJ ?_;cases c with
 |false=>exact hb pins s1 σ H1 Q I1 q1
 |true=>exact⟨.bl true,H1,I1,rfl,q1⟩
noncomputable def Ot(t:TT)(ta tb:TE):TE:=fun σ H Q=>t σ H fun c H1=>if c=true then ta σ H1 Q else tb σ H1 Q
theorem BM{c:Expr}(hc:PT X c tA)(ha:PE X a ta)(hb:PE X b tb):PE X (.IfExp c a b pos) (Ot tA ta tb):=by
 intro pins s σ H Q I h;refine wpAny_IfExp (aG (hc pins s σ H _ I h) fun d s1 ⟨H1,I1,q1⟩=>?_);cases d with
 |true=>exact ha pins s1 σ H1 Q I1 q1
 |false=>exact hb pins s1 σ H1 Q I1 q1
end
def dh(K:W.Frag)(H:Hp)(a:Addr)(xs:List V):Prop:=
 Rd H a (.lst xs)\/
  ∃(o:Obj) (its:Array Value) (n:Nat),K.lookup a=some o/\o.cls=.type "list" /\o.dict=none/\o.data=.seq its n/\its.size<=sizeLine/\Vals xs its.toList
def dW(K:W.Frag)(H:Hp)(a:Addr)(xs:List V):Prop:=
 Rd H a (.tup xs)\/
  ∃(o:Obj) (its:Array Value) (n:Nat),K.lookup a=some o/\o.cls=.type "tuple" /\o.data=.seq its n/\its.size<=sizeLine/\Vals xs its.toList
noncomputable def ML:Value->Option V
 |.none=>some .aw
 |.bool b=>some (.bl b)
 |.int i _=>some (.int i)
 |.str x _=>some (.str x)
 |.bytes b _=>some (.byt b)
 |.float b _=>some (.flt b)
 |.ref a=>some (.ref a)
 |.type n=>some (.ty n)
 |_=>none
theorem RelV.abs{x:V}{u:Value}(r:RelV x u):ML u=some x:=by
 cases x with
 |aw=>cases r;rfl
 |bl _=>cases r;rfl
 |int _=>obtain⟨t,rfl⟩:=r;rfl
 |str _=>obtain⟨t,rfl⟩:=r;rfl
 |byt _=>obtain⟨t,rfl⟩:=r;rfl
 |flt _=>obtain⟨t,rfl⟩:=r;rfl
 |ref _=>cases r;rfl
 |ty _=>cases r;rfl
theorem RelV.inj{x y:V}{u:Value}(r:RelV x u)(q:RelV y u):x=y:=kL (r.abs.symm.trans q.abs)
theorem Vals.inj:∀{xs ys:List V}{us:List Value},Vals xs us->Vals ys us->xs=ys
 |_,_,_,.nil,.nil=>rfl
 |_,_,_,.cons r t,.cons r' t'=>by rw[r.inj r',Vals.inj t t']
section
variable {X:Cx}{pins:aL}{σ:St}{H:Hp}{s:Shared}{a:Addr}{xs ys:List V}
theorem dh.of{K:W.Frag}(h:H a=some (.lst xs)):dh K H a xs:=.inl (.inl h)
theorem dW.of{K:W.Frag}(h:H a=some (.tup xs)):dW K H a xs:=.inl (.inl h)
theorem Inv.list(I:Inv X pins σ H s)(h:dh X.K H a xs):∃its:List Value,Vals xs its/\PlainL s.heap a its.toArray/\xs.length<=sizeLine:=by
 rcases h with h|⟨o,its,n,hk,hc,hd,hs,hz,r⟩
 .obtain⟨z,its,n,r,e⟩:=h.ok I.aD;exact⟨its,r,⟨_,n,e,rfl,rfl,rfl⟩,z⟩
 .refine⟨its.toList,r,⟨o,n,I.dP a o hk,hc,hd,by simpa using hs⟩,?_⟩;have e:=r.length;simp only[CY] at e;omega
theorem Inv.tuple(I:Inv X pins σ H s)(h:dW X.K H a xs):∃its:List Value,Vals xs its/\IsTup s.heap a its.toArray/\xs.length<=sizeLine:=by
 rcases h with h|⟨o,its,n,hk,hc,hs,hz,r⟩
 .obtain⟨z,its,r,p⟩:=h.ok I.aD;exact⟨its,r,p,z⟩
 .refine⟨its.toList,r,⟨o,I.dP a o hk,hc,n,by simpa using hs⟩,?_⟩;have e:=r.length;simp only[CY] at e;omega
theorem Inv.Bz(I:Inv X pins σ H s)(h:dh X.K H a xs)(h':dh X.K H a ys):xs=ys:=by
 obtain⟨its,r,⟨o,n,e,_,_,d⟩,_⟩:=I.list h;obtain⟨its',r',⟨o',n',e',_,_,d'⟩,_⟩:=I.list h';rw[e] at e';cases e';rw[d] at d';injection d' with d1 _;have:its=its':=by simpa using c9 Array.toList d1
 subst this;exact r.inj r'
theorem Inv.r0(I:Inv X pins σ H s)(h:dW X.K H a xs)(h':dW X.K H a ys):xs=ys:=by
 obtain⟨its,r,⟨o,e,_,n,d⟩,_⟩:=I.tuple h;obtain⟨its',r',⟨o',e',_,n',d'⟩,_⟩:=I.tuple h';rw[e] at e';cases e';rw[d] at d';injection d' with d1 _;have:its=its':=by simpa using c9 Array.toList d1
 subst this;exact r.inj r'
end
noncomputable abbrev Cx.lp(X:Cx)(E:ba):Cx:={X with xe:=E}
abbrev Cx.yX(X:Cx):Cx:=X.lp fun _ _=>False
theorem Cx.Ok.lp{X:Cx}(ok:X.Ok)(E:ba):(X.lp E).Ok:=
 ⟨ok.mod,ok.kind,ok.glob,ok.blt,ok.above,ok.inj,ok.has,ok.pO,ok.hd,ok.frames,ok.tB,ok.z9,ok.bs,ok.kQ,ok.nG,ok.oP,ok.fM,ok.mU⟩
theorem Cx.Ok.p9{X:Cx}{E:ba}(ok:(X.lp E).Ok):X.Ok:=
 ⟨ok.mod,ok.kind,ok.glob,ok.blt,ok.above,ok.inj,ok.has,ok.pO,ok.hd,ok.frames,ok.tB,ok.z9,ok.bs,ok.kQ,ok.nG,ok.oP,ok.fM,ok.mU⟩
section
variable {X:Cx}{pins:aL}{σ:St}{H:Hp}{s:Shared}{E:ba}
theorem Inv.lp(I:Inv X pins σ H s)(E:ba):Inv (X.lp E) pins σ H s:=⟨I.ok.lp E,I.os,I.bare,I.base,I.loc,I.cell,I.free,I.fk,I.pin,I.aD,I.len⟩
theorem Inv.p9(I:Inv (X.lp E) pins σ H s):Inv X pins σ H s:=⟨I.ok.p9,I.os,I.bare,I.base,I.loc,I.cell,I.free,I.fk,I.pin,I.aD,I.len⟩
end
section
variable {X:Cx}{st:Stmt}{rest:List Stmt}{t u:TS}{e:Expr}{te:TE}{pos:Pos}
noncomputable def Jl:TS:=fun D σ H=>D.nx σ H
def Nr(t u:TS):TS:=fun D σ H=>t {D with nx:=u D} σ H
theorem EI:eE X [] Jl:=fun _ _ σ H _ I h=>pI ⟨σ,H,I,h⟩
theorem B3(h1:PS X st t)(h2:eE X rest u):eE X (st::rest) (Nr t u):=by
 intro pins s σ H D I h;refine sO (aG (h1 pins s σ H {D with nx:=u D} I h) fun f s1 q=>?_);cases f with
 |next=>
  obtain⟨σ',H',I',q⟩:=q;exact h2 pins s1 σ' H' D I' q
 |ret v=>exact q
 |brk=>exact q
 |cont=>exact q
theorem Inv.quiet{pins:aL}{σ:St}{H:Hp}{s:Shared}(I:Inv X pins σ H s):interactive X.env=false:=by simp[interactive,I.ok.kind]
def Jm(te:TE):TS:=fun D σ H=>te σ H fun _ H1=>D.nx σ H1
theorem DD(he:PE X e te)(hs:swapsWith e none pos.line X.env=pure false:=by rfl):PS X (.Expr e pos) (Jm te):=by intro pins s σ H D I h;exact wpAny_Expr_any (aG (he pins s σ H _ I h) fun v s1 ⟨x,H1,I1,r1,q1⟩=>⟨σ,H1,I1,q1⟩) I.quiet hs
def ME(te:TE):TS:=fun D σ H=>te σ H D.rt
theorem HA(he:PE X e te):PS X (.Return (some e) pos) (ME te):=by intro pins s σ H D I h;exact xZ (aG (he pins s σ H _ I h) fun v s1 ⟨x,H1,I1,r1,q1⟩=>⟨x,σ,H1,I1,r1,q1⟩)
noncomputable def MP(c:TT)(t u:TS):TS:=fun D σ H=>c σ H fun b H1=>if b=true then t D σ H1 else u D σ H1
theorem Jc{c:Expr}{a b:List Stmt}{tc:TT}(hc:PT X c tc)(ha:eE X a t)(hb:eE X b u):PS X (.If c a b pos) (MP tc t u):=by
 intro pins s σ H D I h;refine wpAny_If (aG (hc pins s σ H _ I h) fun d s1 ⟨H1,I1,q1⟩=>?_);cases d with
 |true=>exact ha pins s1 σ H1 D I1 q1
 |false=>exact hb pins s1 σ H1 D I1 q1
end
abbrev TG:=V->St->Hp->(St->Hp->Prop)->Prop
abbrev tj:=List V->St->Hp->(St->Hp->Prop)->Prop
def PG(X:Cx)(target:Expr)(t:TG):Prop:=
 ∀(pins:aL)(s:Shared)(σ:St)(H:Hp)(v:V)(u:Value)(Q:St->Hp->Prop),Inv X pins σ H s->RelV v u->t v σ H Q->
  wpAny (model X.prog X.w) X.A (assign target X.env u) (fun _ s'=>∃σ' H',Inv X pins σ' H' s'/\Q σ' H') X.xe s
def CS(X:Cx)(ts:List Expr)(t:tj):Prop:=
 ∀(pins:aL)(s:Shared)(σ:St)(H:Hp)(vs:List V)(us:List Value)(Q:St->Hp->Prop),Inv X pins σ H s->Vals vs us->t vs σ H Q->
  wpAny (model X.prog X.w) X.A (assignInOrder ((assignEach ts X.env).map (·.2)) us) (fun _ s'=>∃σ' H',Inv X pins σ' H' s'/\Q σ' H') X.xe s
abbrev Ck:=V->V->V->Hp->(Hp->Prop)->Prop
def FP(X:Cx)(t:Ck):Prop:=
 ∀(pins:aL)(s:Shared)(σ:St)(H:Hp)(o i v:V)(ov iv u:Value)(Q:Hp->Prop),Inv X pins σ H s->RelV o ov->RelV i iv->RelV v u->t o i v H Q->
  wpAny (model X.prog X.w) X.A (setItem ov iv u) (fun _ s'=>∃H',Inv X pins σ H' s'/\Q H') X.xe s
section
variable {X:Cx}{pos:Pos}
def iN(i:Nat):TG:=fun v σ H Q=>Q (σ.set i (some v)) H
theorem qE{i:Nat}{x:Str}(hN:X.N.Nodup)(hi:X.N[i]?=some x)(hx:Loc X.env.scope x)(hf:X.fn x=true\/X.env.scope.names.lookup x=some .local:=by first|exact .inl rfl|exact .inr rfl|assumption):PG X (.Name x pos) (iN i):=by intro pins s σ H v u Q I r h;exact wpAny_assign_Name (mj I hN hi hx r (fun s' I'=>⟨_,H,I',h⟩) hf)
noncomputable def GR:tj:=fun vs σ H Q=>vs=[]/\Q σ H
noncomputable def sU(t:TG)(u:tj):tj:=fun vs σ H Q=>∃v r,vs=v::r/\t v σ H fun σ' H'=>u r σ' H' Q
theorem Ee:CS X [] GR:=by intro pins s σ H vs us Q I r h;obtain⟨e,h⟩:=h;subst e;cases r;exact assignInOrder_nil ⟨σ,H,I,h⟩
theorem o5{e:Expr}{es:List Expr}{t:TG}{u:tj}(h1:PG X e t)(h2:CS X es u)
  (hs:(assignEach (e::es) X.env).map (·.2)=assign e X.env::(assignEach es X.env).map (·.2):=by rfl):CS X (e::es) (sU t u):=by
 intro pins s σ H vs us Q I r h;obtain⟨v,vr,e1,h⟩:=h;subst e1;cases r with
 |cons r rr=>
  rw[hs];refine assignInOrder_cons (aG (h1 pins s σ H _ _ _ I r h) fun _ s1 ⟨σ1,H1,I1,q1⟩=>?_);exact h2 pins s1 σ1 H1 _ _ Q I1 rr q1
noncomputable def HK(K:W.Frag)(n:Nat)(t:tj):TG:=fun v σ H Q=>∃a xs,v=.ref a/\dW K H a xs/\xs.length=n/\t xs σ H Q
theorem Gg{es:List Expr}{k:Nat}{t:tj}{n:Nat}(hc:X.calm=true)(h:CS X es t)
  (hn:(assignEach es X.env).length=n:=by rfl) (hst:(assignEach es X.env).findIdx? (·.1)=none:=by rfl):PG X (.Tuple es k pos) (HK X.K n t):=by
 intro pins s σ H v u Q I r hw;obtain⟨a,xs,e1,hq,hl,hw⟩:=hw;subst e1;cases r;obtain⟨its,rv,ht,hz⟩:=I.tuple hq;refine assign_Tuple_tuple (I.ok.hd hc) ht (by simp[hn,<-hl,rv.length]) hst fun h' hx=>?_;have I1:Inv X pins σ H {s with heap:=h'}:=I.kept (t':=s.toks) fun b o e=>hx b o (dr (bC e)) e;exact h pins _ σ H xs _ Q I1 (by simpa using rv) hw
noncomputable def Mc(to ti:TE)(t:Ck):TG:=fun v σ H Q=>to σ H fun o H1=>ti σ H1 fun i H2=>t o i v H2 fun H3=>Q σ H3
theorem G2{o i:Expr}{to ti:TE}{t:Ck}(ho:PE X o to)(hi:PE X i ti)(hs:FP X t)
  (ha:∀v,assign (.Subscript o i pos) X.env v=(do
   let ov <-holding [v] (eval o X.env)
   let iv <-holding [v,ov] (eval i X.env)
   standAt pos
   holding [v,ov,iv] (setItem ov iv v)
   release [v,ov,iv] []):=by intro _;rfl):PG X (.Subscript o i pos) (Mc to ti t):=by
 intro pins s σ H v u Q I r h;rw[ha];refine aj (jW (aG (ho pins s σ H _ I h) fun ov s1 ⟨x,H1,I1,r1,q1⟩=>?_));refine aj (jW (aG (hi pins s1 σ H1 _ I1 q1) fun iv s2 ⟨y,H2,I2,r2,q2⟩=>?_));refine aj (qh (aj (jW (aG (hs pins s2 σ H2 x y v ov iv u _ I2 r1 r2 r q2) fun _ s3 ⟨H3,I3,q3⟩=>?_))));exact wpAny_release ⟨σ,H3,I3,q3⟩
noncomputable def Gv(te:TE)(g:TG):TS:=fun D σ H=>te σ H fun x H1=>g x σ H1 D.nx
theorem zq{tg e:Expr}{te:TE}{g:TG}(he:PE X e te)(hg:PG X tg g)(hs:swapsWithSole [tg] e pos.line X.env=pure false:=by rfl)(hw:swappedStores [tg] e X.env=pure none:=by rfl)
  (h1:(assignEach [tg] X.env).map (·.2)=[assign tg X.env]:=by rfl):PS X (.Assign [tg] e pos) (Gv te g):=by
 intro pins s σ H D I h;refine wpAny_Assign_stores (aG (he pins s σ H _ I h) fun v s1 ⟨x,H1,I1,r1,q1⟩=>?_) hs hw;rw[h1];exact aG (hg pins s1 σ H1 x v _ I1 r1 q1) fun _ s2 q=>q
theorem Fg{i:Nat}{x:Str}{e:Expr}{te:TE}{pos':Pos}(hN:X.N.Nodup)(hi:X.N[i]?=some x)(hx:Loc X.env.scope x)(he:PE X e te)(hs:swapsWith e (some (.Name x pos')) pos.line X.env=pure false:=by rfl)(hf:X.fn x=true\/X.env.scope.names.lookup x=some .local:=by first|exact .inl rfl|exact .inr rfl|assumption):
  PS X (.Assign [.Name x pos'] e pos) (Gv te (iN i)):=by
 intro pins s σ H D I h;refine wpAny_Assign_Name (aG (he pins s σ H _ I h) fun v s1 ⟨y,H1,I1,r1,q1⟩=>?_) hs;exact mj I1 hN hi hx r1 (fun s2 I2=>⟨_,H1,I2,q1⟩) hf
end
section
variable {X:Cx}{pos:Pos}
def FI(c:TT)(tb:TS):TS:=fun D σ H=>∃W:Nat->St->Hp->Prop,(∃m,W m σ H)/\∀m σ H,W m σ H->
 c σ H fun b H1=>if b=true then ∃N:St->Hp->Prop,(∀σ' H',N σ' H'->∃m',m'<m/\W m' σ' H')/\tb {D with nx:=N,ct:=N,bk:=D.nx} σ H1 else D.nx σ H1
theorem Bw{c:Expr}{body:List Stmt}{tc:TT}{tb:TS}(hp:PassesOwn (model X.prog X.w) X.A X.env X.xe)(hc:PT X c tc)(hb:eE X body tb):PS X (.While c body [] pos) (FI tc tb):=by
 intro pins s σ H D I h;obtain⟨W,⟨m0,w0⟩,turn⟩:=h;refine wpAny_While (codeAny_whileLoop (fun n s'=>∃σ' H',Inv X pins σ' H' s'/\W n σ' H') ?_ m0 ⟨σ,H,I,w0⟩)
 rintro n s1 ⟨σ1,H1,I1,w1⟩
 refine lB hp (aG (hc pins s1 σ1 H1 _ I1 (turn n σ1 H1 w1)) fun b s2 ⟨H2,I2,q2⟩=>?_);cases b with
 |true=>
  obtain⟨N,hN,q2⟩:=q2;rw[if_pos rfl];refine lB hp (aG (hb pins s2 σ1 H2 _ I2 q2) fun f s3 q3=>?_);cases f with
  |next=>
   obtain⟨σ3,H3,I3,n3⟩:=q3;obtain⟨m',hm,w3⟩:=hN σ3 H3 n3;exact⟨m',hm,σ3,H3,I3,w3⟩
  |cont=>
   obtain⟨σ3,H3,I3,n3⟩:=q3;obtain⟨m',hm,w3⟩:=hN σ3 H3 n3;exact⟨m',hm,σ3,H3,I3,w3⟩
  |brk=>exact q3
  |ret v=>exact q3
 |false=>
  rw[if_neg jP];exact pI ⟨σ1,H2,I2,q2⟩
end
structure It where
 go:Nat->Hp->Prop
 Dr:Nat->Hp->V->Hp->Prop
 stop:Nat->Hp->Prop
def gm(X:Cx)(pins:aL)(H:Hp)(b:Addr):Prop:=
 H b=none/\b≠X.env.locals/\b∉X.fs/\(b∈X.ex\/X.aO.heap.objs.size<=b)/\(∀x c,X.env.cells.lookup x=some c->c≠b)/\∀p∈X.pn++pins,p.1≠b
theorem Inv.tD{X:Cx}{pins:aL}{σ:St}{H H':Hp}{s:Shared}{b:Addr}(I:Inv X pins σ H s)(hb:s.heap.objs.size<=b)(hn:H' b=none):gm X pins H' b:=by
 refine⟨hn,nK (cH I.lt hb),I.Ig hb,.inr (bW I.sz hb),fun x c e z=>?_,fun p hp z=>?_⟩
 .obtain⟨v,q⟩:=I.cell x c e;exact absurd (cH q.lt (by rw[z];exact hb)) (pj _)
 .exact absurd (cH (bC (I.pin p hp).1) (by rw[z];exact hb)) (pj _)
structure Turn(P:Program)(w:World)(K:W.Frag)(tg:Expr)(J:It)(fp:List Addr)(it:Addr)(tn:Nat->Heap->Prop):Prop where
 mem:it∈fp
 obj:∀i h,tn i h->∀b∈fp,∃o,h.get? b=some o/\∀v,o.data≠.cell v
 keep:∀i h h',tn i h->(∀b∈fp,∀o,h.get? b=some o->h'.get? b=some o)->tn i h'
 item:∀(X:Cx),X.prog=P->X.w=w->X.K=K->X.calm=true->∀(i:Nat)(pins:aL)(s:Shared)(σ:St)(H:Hp)(E:ba),Inv X pins σ H s->(∀b∈fp,gm X pins H b)->tn i s.heap->J.go i H->
  wpAny (model P w) X.A (pyNext (.ref it)) (fun r s1=>∃u,r=some u/\
   wpAny (model P w) X.A (letOwnedTupleGo tg (.ref it) u) (fun _ s2=>∃x H',Inv X pins σ H' s2/\RelV x u/\J.Dr i H x H'/\tn (i+1) s2.heap/\∀b∈fp,H' b=none) E s1) E s
 done:∀(X:Cx),X.prog=P->X.w=w->X.K=K->X.calm=true->∀(i:Nat)(pins:aL)(s:Shared)(σ:St)(H:Hp)(E:ba),Inv X pins σ H s->(∀b∈fp,gm X pins H b)->tn i s.heap->J.stop i H->
  wpAny (model P w) X.A (pyNext (.ref it)) (fun r s1=>r=none/\Inv X pins σ H s1) E s
 self:∀(A:Around)(i:Nat)(s:Shared)(Q:ba)(E:ba),tn i s.heap->Q (.ref it) s->wpAny (model P w) A (pyIter (.ref it)) Q E s
abbrev TI:=St->Hp->(It->Hp->Prop)->Prop
def Lz(X:Cx)(pins:aL)(σ:St)(tg:Expr)(R:It->Hp->Prop)(itv:Value)(s2:Shared):Prop:=
 ∃(it:Addr) (fp:List Addr) (tn:Nat->Heap->Prop) (J:It) (H':Hp),itv=.ref it/\Inv X pins σ H' s2/\Turn X.prog X.w X.K tg J fp it tn/\tn 0 s2.heap/\(∀b∈fp,gm X pins H' b)/\R J H'
def PI(X:Cx)(tg iter:Expr)(wi:TI):Prop:=
 ∀(pins:aL)(s:Shared)(σ:St)(H:Hp)(R:It->Hp->Prop),Inv X pins σ H s->wi σ H R->
  wpAny (model X.prog X.w) X.A (eval iter X.env) (fun v s1=>wpAny (model X.prog X.w) X.A (pyIter v) (Lz X pins σ tg R) X.xe s1) X.xe s
theorem sT{M:Model}{A:Around}{E:ba}{s:Shared}{tg:Expr}{it:Addr}{u:Value}{o:Obj}{n:String}{vs:Array Value}{Q:Unit->Shared->Prop}(ho:s.heap.get? it=some o)(hc:o.cls=.type n)(hd:o.data=.fields vs)
  (hn: ["enumerate", "zip", "dict_itemiterator", "dict_reverseitemiterator", "odict_iterator", "itertools.zip_longest", "itertools.pairwise"].contains n=false) (hQ:Q () s):wpAny M A (letOwnedTupleGo tg (.ref it) u) Q E s:=by
 unfold letOwnedTupleGo;cases tg<;>first
  |exact aM hQ
  |(cases u<;>first
    |exact aM hQ
    |(refine aj (wpAny_load ho ?_)
      rw[hc,hd];show wpAny M A (if (["enumerate", "zip", "dict_itemiterator", "dict_reverseitemiterator", "odict_iterator", "itertools.zip_longest", "itertools.pairwise"].contains n&&vs[0]?== some (rawInt _))=true then _ else _) Q E s;rw[if_neg (by intro h;rw[hn,Bool.false_and] at h;cases h)];exact aM hQ))
def GH(K:W.Frag)(a:Addr):It:=
 ⟨fun i H=>∃xs x,dh K H a xs/\xs[i]?=some x,fun i H x H'=>H'=H/\∀xs,dh K H a xs->xs[i]?=some x,fun i H=>∃xs,dh K H a xs/\xs.length<=i⟩
def E7(K:W.Frag)(a:Addr):It:=
 ⟨fun i H=>∃xs x,dW K H a xs/\xs[i]?=some x,fun i H x H'=>H'=H/\∀xs,dW K H a xs->xs[i]?=some x,fun i H=>∃xs,dW K H a xs/\xs.length<=i⟩
noncomputable def Df(lo:Int)(n:Nat):It:=⟨fun i _=>i<n,fun i H x H'=>H'=H/\x=.int (lo+i),fun i _=>n<=i⟩
theorem Ar{P:Program}{w:World}{K:W.Frag}{tg:Expr}(a it:Addr):Turn P w K tg (GH K a) [it] it (fun i h=>h.IsListIter it a i) where
 mem:=by simp
 obj:=fun i h st b hb=>by
  have e:b=it:=by simpa using hb
  subst e;obtain⟨o,e,c,d⟩:=st;exact⟨o,e,fun v z=>by rw[d] at z;cases z⟩
 keep:=fun i h h' st k=>st.at fun o e=>k it (by simp) o e
 item:=by intro X hP hw hK hc i pins s σ H E I hf st hg;subst hP hw hK;obtain⟨xs,x,hq,hx⟩:=hg;obtain⟨its,rv,p,hz⟩:=I.list hq;obtain⟨u,hu,ru⟩:=rv.get hx;obtain⟨f0,f1,f2,f3,f4,f5⟩:=hf it (by simp);refine wpAny_pyNext_list_item st p.isList (x:=u) (by simpa using hu) fun h' st' sb=>?_;have I1:Inv X pins σ H {s with heap:=h'}:=I.turned (t':=s.toks) (fun b o hb e=>(sb.2 b hb).trans e) f0 f1 f3 f4 f5;obtain⟨o,e,c,d⟩:=id st';exact⟨u,rfl,sT (s:={s with heap:=h'}) e c d (by decide) ⟨x,H,I1,ru,⟨rfl,fun ys hy=>by rw[I.Bz hy hq];exact hx⟩,st',fun b hb=>(hf b hb).1⟩⟩
 done:=by intro X hP hw hK hc i pins s σ H E I hf st hg;subst hP hw hK;obtain⟨xs,hq,hx⟩:=hg;obtain⟨its,rv,p,hz⟩:=I.list hq;obtain⟨f0,f1,f2,f3,f4,f5⟩:=hf it (by simp);have hl:=rv.length;exact wpAny_pyNext_list_end (I.ok.hd hc) st p.isList (by simp;omega) fun h' eb=>⟨rfl,I.turned (t':=s.toks) (fun b o hb e=>eb b o hb e) f0 f1 f3 f4 f5⟩
 self:=fun _ _ _ _ _ st h=>wpAny_pyIter_listiter st h
theorem xo{P:Program}{w:World}{K:W.Frag}{tg:Expr}(a it:Addr):Turn P w K tg (E7 K a) [it] it (fun i h=>h.IsTupleIter it a i) where
 mem:=by simp
 obj:=fun i h st b hb=>by
  have e:b=it:=by simpa using hb
  subst e;obtain⟨o,e,c,d⟩:=st;exact⟨o,e,fun v z=>by rw[d] at z;cases z⟩
 keep:=fun i h h' st k=>st.at fun o e=>k it (by simp) o e
 item:=by intro X hP hw hK hc i pins s σ H E I hf st hg;subst hP hw hK;obtain⟨xs,x,hq,hx⟩:=hg;obtain⟨its,rv,p,hz⟩:=I.tuple hq;obtain⟨u,hu,ru⟩:=rv.get hx;obtain⟨f0,f1,f2,f3,f4,f5⟩:=hf it (by simp);refine wpAny_pyNext_tuple_item st (show s.heap.IsTuple a its.toArray from p) (x:=u) (by simpa using hu) fun h' st' sb=>?_;have I1:Inv X pins σ H {s with heap:=h'}:=I.turned (t':=s.toks) (fun b o hb e=>(sb.2 b hb).trans e) f0 f1 f3 f4 f5;obtain⟨o,e,c,d⟩:=id st';exact⟨u,rfl,sT (s:={s with heap:=h'}) e c d (by decide) ⟨x,H,I1,ru,⟨rfl,fun ys hy=>by rw[I.r0 hy hq];exact hx⟩,st',fun b hb=>(hf b hb).1⟩⟩
 done:=by intro X hP hw hK hc i pins s σ H E I hf st hg;subst hP hw hK;obtain⟨xs,hq,hx⟩:=hg;obtain⟨its,rv,p,hz⟩:=I.tuple hq;obtain⟨f0,f1,f2,f3,f4,f5⟩:=hf it (by simp);have hl:=rv.length;exact wpAny_pyNext_tuple_end (I.ok.hd hc) st (show s.heap.IsTuple a its.toArray from p) (by simp;omega) fun h' eb=>⟨rfl,I.turned (t':=s.toks) (fun b o hb e=>eb b o hb e) f0 f1 f3 f4 f5⟩
 self:=fun _ _ _ _ _ st h=>wpAny_pyIter_tupleiter st h
theorem yj{P:Program}{w:World}{K:W.Frag}{tg:Expr}(it:Addr)(lo:Int)(n:Nat):Turn P w K tg (Df lo n) [it] it (fun i h=>IsRangeIter h it (lo+(i:Nat) * 1) ((n:Int)-(i:Nat)) 1) where
 mem:=by simp
 obj:=fun i h st b hb=>by
  have e:b=it:=by simpa using hb
  subst e;exact⟨_,st,fun v z=>by
   have z':Data.fields _=Data.cell v:=z;cases z'⟩
 keep:=fun i h h' st k=>k it (by simp) _ st
 item:=by intro X hP hw hK hc i pins s σ H E I hf st hg;subst hP hw hK;obtain⟨f0,f1,f2,f3,f4,f5⟩:=hf it (by simp);have W:=Walks.range (prog:=X.prog) (w:=X.w) (I.ok.hd hc) it lo 1 n;refine W.item i s _ _ hg st fun v h' tk hv st' kk=>?_;obtain⟨t,rfl⟩:=hv;have I1:Inv X pins σ H {s with heap:=h',toks:=tk}:=I.turned (fun b o hb e=>kk b o (by simpa using hb) e) f0 f1 f3 f4 f5;refine⟨_,rfl,sT (s:={s with heap:=h',toks:=tk}) (n:= "range_iterator") st' rfl rfl (by decide) ⟨.int (lo+i),H,I1,⟨t,?_⟩,⟨rfl,rfl⟩,st',fun b hb=>(hf b hb).1⟩⟩;rw[Int.mul_one]
 done:=by intro X hP hw hK hc i pins s σ H E I hf st hg;subst hP hw hK;obtain⟨f0,f1,f2,f3,f4,f5⟩:=hf it (by simp);exact wpAny_pyNext_range_end (I.ok.hd hc) st (by have:n<=i:=hg;omega) fun h' eb=>⟨rfl,I.turned (t':=s.toks) (fun b o hb e=>eb b o hb e) f0 f1 f3 f4 f5⟩
 self:=fun _ _ _ _ _ st h=>wpAny_pyIter_rangeiter st h
section
variable {X:Cx}{tg:Expr}
noncomputable def Js(K:W.Frag)(tl:TE):TI:=fun σ H R=>tl σ H fun x H1=>∃a,x=.ref a/\(∃xs,dh K H1 a xs)/\R (GH K a) H1
noncomputable def MK(K:W.Frag)(tl:TE):TI:=fun σ H R=>tl σ H fun x H1=>∃a,x=.ref a/\(∃xs,dW K H1 a xs)/\R (E7 K a) H1
theorem Ei{l:Expr}{tl:TE}(hl:PE X l tl):PI X tg l (Js X.K tl):=by
 intro pins s σ H R I h;refine aG (hl pins s σ H _ I h) fun v s1 ⟨x,H1,I1,r1,q1⟩=>?_;obtain⟨a,e,⟨xs,hq⟩,q⟩:=q1;subst e;cases r1;obtain⟨its,rv,p,hz⟩:=I1.list hq;refine wpAny_pyIter_list p.isList ?_;refine⟨s1.heap.objs.size,[s1.heap.objs.size],_,_,H1,rfl,I1.kept (t':=s1.toks) fun b o e=>bX _ e,Ar a _,⟨_,gk _ rfl,rfl,rfl⟩,fun b hb=>?_,q⟩;have e:b=s1.heap.objs.size:=by simpa using hb
 subst e;exact I1.tD (aV _) (I1.aD.fresh (aV _))
theorem Fq{l:Expr}{tl:TE}(hl:PE X l tl):PI X tg l (MK X.K tl):=by
 intro pins s σ H R I h;refine aG (hl pins s σ H _ I h) fun v s1 ⟨x,H1,I1,r1,q1⟩=>?_;obtain⟨a,e,⟨xs,hq⟩,q⟩:=q1;subst e;cases r1;obtain⟨its,rv,p,hz⟩:=I1.tuple hq;refine wpAny_pyIter_tuple (show s1.heap.IsTuple a its.toArray from p) ?_;refine⟨s1.heap.objs.size,[s1.heap.objs.size],_,_,H1,rfl,I1.kept (t':=s1.toks) fun b o e=>bX _ e,xo a _,⟨_,gk _ rfl,rfl,rfl⟩,fun b hb=>?_,q⟩;have e:b=s1.heap.objs.size:=by simpa using hb
 subst e;exact I1.tD (aV _) (I1.aD.fresh (aV _))
theorem BA{pins:aL}{σ:St}{H:Hp}{s:Shared}{R:It->Hp->Prop}{E:ba}{lo hi:Int}{t u v:Tok}{tk:Nat}(I:Inv X pins σ H s)(h1: -(2 ^ 62)<=lo)(h2:lo<2 ^ 62)(h3: -(2 ^ 62)<=hi)(h4:hi<2 ^ 62)
  (q:R (Df lo (hi-lo).toNat) H):wpAny (model X.prog X.w) X.A (pyIter (.ref s.heap.objs.size)) (Lz X pins σ tg R) E {s with heap:=s.heap.push {cls:=.type "range",data:=.fields #[.int lo t,.int hi u,.int 1 v]},toks:=tk}:=by
 refine wpAny_pyIter_range (IsRange.new ..) (small_one h1 h2 h3 h4) ?_;have I1:Inv X pins σ H {s with heap:=s.heap.push {cls:=.type "range",data:=.fields #[.int lo t,.int hi u,.int 1 v]},toks:=tk}:=I.kept fun b o e=>bX _ e;refine⟨(s.heap.push {cls:=.type "range",data:=.fields #[.int lo t,.int hi u,.int 1 v]}).objs.size,[(s.heap.push {cls:=.type "range",data:=.fields #[.int lo t,.int hi u,.int 1 v]}).objs.size],_,_,H,rfl,
  I1.kept (t':=tk) fun b o e=>bX _ e,yj _ lo (hi-lo).toNat,?_,fun b hb=>?_,q⟩
 .have e1:lo+((0:Nat):Int) * 1=lo:=by simp
  have e2:(((hi-lo).toNat:Nat):Int)-((0:Nat):Int)=Builtin.Range.rangeSize lo hi 1:=by rw[rangeSize_one];split<;>omega
  show IsRangeIter _ _ (lo+((0:Nat):Int) * 1) ((((hi-lo).toNat:Nat):Int)-((0:Nat):Int)) 1;rw[e1,e2];exact gk _ rfl
 .have e:b=(s.heap.push {cls:=.type "range",data:=.fields #[.int lo t,.int hi u,.int 1 v]}).objs.size:=by simpa using hb
  subst e;exact I1.tD (aV _) (I1.aD.fresh (aV _))
def Km(ta:TA):TI:=fun σ H R=>ta σ H fun vs H1=>∃j:Int,vs=[.int j]/\ -(2 ^ 62)<=j/\j<2 ^ 62/\R (Df 0 j.toNat) H1
theorem Ap{a:Expr}{ta:TA}{p pos:Pos}(hg:Gl X "range")(hm:X.mg "range" = none)(ha:PA X [a] ta)(hs:starEach [a] X.env=[(false,eval a X.env)]:=by rfl):PI X tg (.Call (.Name "range" p) [a] [] pos) (Km ta):=by
 intro pins s σ H R I h;refine Call_ (jv I hg hm boot_range (u4 (aG (ha pos pins s σ H _ I h) fun us s1 ⟨vs,H1,I1,r1,q1⟩=>?_) hs rfl));obtain⟨j,e,q1,q2,q⟩:=q1;subst e;cases r1 with
 |cons r rr=>
  cases rr;obtain⟨t,rfl⟩:=r;exact call_range_1 (BA I1 (by omega) (by omega) q1 q2 (by simpa using q))
def Nu(wi:TI)(g:TG)(tb:TS):TS:=fun D σ H=>wi σ H fun J H1=>∃W:Nat->Nat->St->Hp->Prop,(∃m,W 0 m σ H1)/\∀i m σ H,W i m σ H->
 (J.stop i H/\D.nx σ H)\/(J.go i H/\∃N:St->Hp->Prop,(∀σ' H',N σ' H'->∃m',m'<m/\W (i+1) m' σ' H')/\∀x H',J.Dr i H x H'->g x σ H' fun σ2 H2=>tb {D with nx:=N,ct:=N,bk:=D.nx} σ2 H2)
noncomputable def jI(fp:List Addr)(h:Heap):aL:=fp.filterMap fun b=>(h.get? b).map fun o=>(b,o)
theorem hG{fp:List Addr}{h:Heap}{b:Addr}{o:Obj}(hb:b∈fp)(e:h.get? b=some o):(b,o)∈jI fp h:=List.mem_filterMap.mpr ⟨b,hb,by rw[e];rfl⟩
theorem zR{fp:List Addr}{h:Heap}{p:Addr×Obj}(hp:p∈jI fp h):p.1∈fp/\h.get? p.1=some p.2:=by
 obtain⟨b,hb,e⟩:=List.mem_filterMap.mp hp;cases q:h.get? b with
 |none=>rw[q] at e;cases e
 |some o=>
  rw[q] at e;have e':(b,o)=p:=kL e;subst e';exact⟨hb,q⟩
theorem Inv.pinned{pins:aL}{σ:St}{H:Hp}{s:Shared}{fp:List Addr}(I:Inv X pins σ H s)(hf:∀b∈fp,gm X pins H b)(ho:∀b∈fp,∃o,s.heap.get? b=some o/\∀v,o.data≠.cell v):Inv X (pins++jI fp s.heap) σ H s:=
 I.n6 fun p hp=>(kK.mp hp).elim (fun z=>I.pin p (fU _ z)) fun z=>by
  obtain⟨hb,e⟩:=zR z;obtain⟨f0,f1,f2,_⟩:=hf p.1 hb;obtain⟨o,e',d⟩:=ho p.1 hb;rw[e] at e';cases e';exact⟨e,f0,f1,f2,d⟩
theorem Inv.jC{pins pl:aL}{σ:St}{H:Hp}{s:Shared}(I:Inv X (pins++pl) σ H s):Inv X pins σ H s:=I.n6 fun p hp=>I.pin p (fU _ (yC _ hp))
theorem Hw{iter:Expr}{body:List Stmt}{wi:TI}{g:TG}{tb:TS}{pos:Pos}(hp:PassesOwn (model X.prog X.w) X.A X.env X.xe)(hc:X.calm=true)(hi:PI X tg iter wi)(hg:PG X tg g)(hb:eE X body tb)
  (hs:∀x,foldedSetIterable iter X.env x=pure x:=by intro _;rfl):PS X (.For tg iter body [] pos) (Nu wi g tb):=by
 intro pins s σ H D I h;refine wpAny_For (aG (hi pins s σ H _ I h) fun v s1 h1=>aG h1 fun itv s2 h2=>?_) hs;obtain⟨it,fp,tn,J,H2,e,I2,T,st2,f2,W,⟨m0,w0⟩,turn⟩:=h2;subst e;have stat:∀{H':Hp},(∀b∈fp,H' b=none)->∀b∈fp,gm X pins H' b:=fun hn b hb=>⟨hn b hb,(f2 b hb).2⟩;refine codeAny_forLoop_any (fun n s'=>∃i σ' H',Inv X pins σ' H' s'/\tn i s'.heap/\(∀b∈fp,H' b=none)/\W i n σ' H') ?_ m0 ⟨0,σ,H2,I2,st2,fun b hb=>(f2 b hb).1,w0⟩
 rintro n s3 ⟨i,σ3,H3,I3,st3,fr3,w3⟩
 rcases turn i n σ3 H3 w3 with ⟨stop,qn⟩|⟨go,N,hN,step⟩
 .refine lB hp (aG (T.done X rfl rfl rfl hc i pins s3 σ3 H3 X.xe I3 (stat fr3) st3 stop) fun r s4 ⟨hr,I4⟩=>?_);subst hr;exact pI ⟨σ3,H3,I4,qn⟩
 .refine lB hp (aG (T.item X rfl rfl rfl hc i pins s3 σ3 H3 X.xe I3 (stat fr3) st3 go) fun r s4 ⟨u,hr,h4⟩=>?_);subst hr;refine lB hp (aG h4 fun _ s5 ⟨x,H5,I5,r5,y5,st5,fr5⟩=>?_);have I5':=I5.pinned (stat fr5) (T.obj _ _ st5);refine lB hp (aG (hg _ s5 σ3 H5 x u _ I5' r5 (step x H5 y5)) fun _ s6 ⟨σ6,H6,I6,q6⟩=>?_);refine lB hp (aG (hb _ s6 σ6 H6 _ I6 q6) fun f s7 q7=>?_);have again:∀{σ7:St}{H7:Hp},Inv X (pins++jI fp s5.heap) σ7 H7 s7->N σ7 H7->∃m,m<n/\∃i σ' H',Inv X pins σ' H' s7/\tn i s7.heap/\(∀b∈fp,H' b=none)/\W i m σ' H':=fun {σ7 H7} I7 n7=>by
   obtain⟨m',hm,w7⟩:=hN σ7 H7 n7;refine⟨m',hm,i+1,σ7,H7,I7.jC,T.keep _ _ _ st5 fun b hb o e=>(I7.pin (b,o) (fU _ (fU _ (hG hb e)))).1,fun b hb=>?_,w7⟩;obtain⟨o,e,d⟩:=T.obj _ _ st5 b hb;exact (I7.pin (b,o) (fU _ (fU _ (hG hb e)))).2.1
  cases f with
  |next=>obtain⟨σ7,H7,I7,n7⟩:=q7;exact again I7 n7
  |cont=>obtain⟨σ7,H7,I7,n7⟩:=q7;exact again I7 n7
  |brk=>obtain⟨σ7,H7,I7,q7⟩:=q7;exact⟨σ7,H7,I7.jC,q7⟩
  |ret v=>obtain⟨x7,σ7,H7,I7,r7,q7⟩:=q7;exact⟨x7,σ7,H7,I7.jC,r7,q7⟩
end
abbrev R2:=V->V->Hp->VK->Prop
def cT(X:Cx)(f:Value->Value->Sem Value)(r:R2):Prop:=
 ∀(pins:aL)(s:Shared)(σ:St)(H:Hp)(x y:V)(v u:Value)(Q:VK),Inv X pins σ H s->RelV x v->RelV y u->r x y H Q->
  wpAny (model X.prog X.w) X.A (f v u) (EP X pins σ Q) X.xe s
def nO(X:Cx)(f:Value)(r:List V->Hp->VK->Prop):Prop:=
 ∀(pins:aL)(s:Shared)(σ:St)(H:Hp)(xs:List V)(us:List Value)(Q:VK),Inv X pins σ H s->Vals xs us->r xs H Q->
  wpAny (model X.prog X.w) X.A (call f us) (EP X pins σ Q) X.xe s
def M7(X:Cx)(r:V->Hp->(Bool->Hp->Prop)->Prop):Prop:=
 ∀(pins:aL)(s:Shared)(σ:St)(H:Hp)(x:V)(v:Value)(Q:Bool->Hp->Prop),Inv X pins σ H s->RelV x v->r x H Q->
  wpAny (model X.prog X.w) X.A (truthy v) (TP X pins σ Q) X.xe s
noncomputable def zi(r:R2)(ta tb:TE):TE:=fun σ H Q=>ta σ H fun x H1=>tb σ H1 fun y H2=>r x y H2 Q
noncomputable def rI(C:Int->Int->Prop)(g:Int->Int->V):R2:=fun x y H Q=>∃i j,x=.int i/\y=.int j/\C i j/\Q (g i j) H
noncomputable def oF(g:Int->Int->V):R2:=fun x y H Q=>∃i j,x=.int i/\y=.int j/\Q (g i j) H
section
variable {X:Cx}{a b c:Expr}{ta tb tc:TE}{pos:Pos}
theorem AS(ha:PE X a ta)(hb:PE X b tb){pins:aL}{s:Shared}{σ:St}{H:Hp}{R:V->V->Hp->Prop}(I:Inv X pins σ H s)
  (h:ta σ H fun x H1=>tb σ H1 fun y H2=>R x y H2) {Q:ba}{f:Value->Value->Sem Value}
  (hf:∀v u s2 x y H2,Inv X pins σ H2 s2->RelV x v->RelV y u->R x y H2->wpAny (model X.prog X.w) X.A (f v u) Q X.xe s2):
  wpAny (model X.prog X.w) X.A (eval a X.env) (fun v s₁=>wpAny (model X.prog X.w) X.A (eval b X.env) (fun u s₂=>wpAny (model X.prog X.w) X.A (f v u) Q X.xe s₂) X.xe s₁) X.xe s:=by
 refine aG (ha pins s σ H _ I h) fun v s1 ⟨x,H1,I1,r1,q1⟩=>?_;refine aG (hb pins s1 σ H1 _ I1 q1) fun u s2 ⟨y,H2,I2,r2,q2⟩=>?_;exact hf v u s2 x y H2 I2 r1 r2 q2
theorem nN{op:Operator}{r:R2}(ho:cT X (binaryOp op) r)(ha:PE X a ta)(hb:PE X b tb):PE X (.BinOp a op b pos) (zi r ta tb):=by intro pins s σ H Q I h;exact wpAny_BinOp (AS ha hb I h fun v u s2 x y H2 I2 rx ry q=>ho pins s2 σ H2 x y v u Q I2 rx ry q)
theorem Cy{f:Value->Value->Sem Value}{C:Int->Int->Prop}{g:Int->Int->Int}
  (rule:∀(i j:Int)(t u:Tok)(s:Shared)(Q:ba)(E:ba),C i j->Q (.int (g i j) s.toks) {s with toks:=s.toks+1}->wpAny (model X.prog X.w) X.A (f (.int i t) (.int j u)) Q E s):
  cT X f (rI C fun i j=>.int (g i j)):=by
 intro pins s σ H x y v u Q I rx ry h;obtain⟨i,j,rfl,rfl,hc,q⟩:=h;obtain⟨t,rfl⟩:=rx;obtain⟨t',rfl⟩:=ry;exact rule i j t t' s _ _ hc ⟨.int (g i j),H,I.tok _,⟨_,rfl⟩,q⟩
theorem HE{f:Value->Value->Sem Value}{g:Int->Int->Int}
  (rule:∀(i j:Int)(t u:Tok)(s:Shared)(Q:ba)(E:ba),Q (.int (g i j) s.toks) {s with toks:=s.toks+1}->wpAny (model X.prog X.w) X.A (f (.int i t) (.int j u)) Q E s):
  cT X f (oF fun i j=>.int (g i j)):=by
 intro pins s σ H x y v u Q I rx ry h;obtain⟨i,j,rfl,rfl,q⟩:=h;obtain⟨t,rfl⟩:=rx;obtain⟨t',rfl⟩:=ry;exact rule i j t t' s _ _ ⟨.int (g i j),H,I.tok _,⟨_,rfl⟩,q⟩
theorem xk{f:Value->Value->Sem Value}{g:Int->Int->Bool}
  (rule:∀(i j:Int)(t u:Tok)(s:Shared)(Q:ba)(E:ba),Q (.bool (g i j)) s->wpAny (model X.prog X.w) X.A (f (.int i t) (.int j u)) Q E s):
  cT X f (oF fun i j=>.bl (g i j)):=by
 intro pins s σ H x y v u Q I rx ry h;obtain⟨i,j,rfl,rfl,q⟩:=h;obtain⟨t,rfl⟩:=rx;obtain⟨t',rfl⟩:=ry;exact rule i j t t' s _ _ ⟨.bl (g i j),H,I,rfl,q⟩
def Nt(i j:Int):Prop:=0<j/\j<1073741824
def Mw(i j:Int):Prop:=0<=j/\j<=1000000/\i.natAbs<2 ^ 64
def BY(i j:Int):Prop:=(-(2 ^ 64)<i/\i<2 ^ 64)\/(-(2 ^ 64)<j/\j<2 ^ 64)
theorem BY.ok{i j:Int}(h:BY i j):IntMulOk i j:=by
 rcases h with ⟨h1,h2⟩|⟨h1,h2⟩
 .exact .of_left (intBits_le_64 h1 h2)
 .exact .of_right (intBits_le_64 h1 h2)
theorem Gd:cT X (binaryOp .Add) (oF fun i j=>.int (i+j)):=HE fun _ _ _ _ _ _ _ q=>add_int q
theorem Hj:cT X (binaryOp .Sub) (oF fun i j=>.int (i-j)):=HE fun _ _ _ _ _ _ _ q=>sub_int q
theorem HU:cT X (binaryOp .Mult) (rI BY fun i j=>.int (i * j)):=Cy fun _ _ _ _ _ _ _ hc q=>mul_int q hc.ok
theorem DQ:cT X (binaryOp .FloorDiv) (rI Nt fun i j=>.int (i / j)):=Cy fun i j _ _ _ _ _ hc q=>by
 have h1:(0:Int)<j:=hc.1;have h2:j<1073741824:=hc.2;exact floordiv_int (by omega) (by rw[Int.fdiv_eq_ediv_of_nonneg i (by omega)];exact q) (.inl (PyProof.noPylong_small (by omega)))
theorem FD:cT X (binaryOp .Mod) (rI (fun _ j=>0<j) fun i j=>.int (i % j)):=Cy fun i j _ _ _ _ _ hc q=>by
 have h1:(0:Int)<j:=hc;exact mod_int' (by omega) (by rw[Int.fmod_eq_emod_of_nonneg i (by omega)];exact q)
theorem Hm:cT X (binaryOp .Pow) (rI Mw fun i j=>.int (i ^ j.toNat)):=Cy fun _ _ _ _ _ _ _ hc q=>pow_int_small hc.1 hc.2.1 hc.2.2 q
end
section
variable {X:Cx}{a b c:Expr}{ta tb tc:TE}{pos:Pos}
theorem Im{pins:aL}{σ:St}{H:Hp}{s:Shared}{Q:VK}{k k':Bool}(I:Inv X pins σ H s)(q:Q (.bl k) H)(e:k=k'):EP X pins σ Q (.bool k') s:=by subst e;exact⟨.bl k,H,I,rfl,q⟩
theorem xV:cT X (compareOp .Lt) (oF fun i j=>.bl (decide (i<j))):=xk fun _ _ _ _ _ _ _ q=>lt_int q
theorem xO:cT X (compareOp .LtE) (oF fun i j=>.bl (decide (i<=j))):=xk fun _ _ _ _ _ _ _ q=>le_int q
theorem Ke:cT X (compareOp .Gt) (oF fun i j=>.bl (decide (j<i))):=xk fun _ _ _ _ _ _ _ q=>gt_int q
theorem JD:cT X (compareOp .GtE) (oF fun i j=>.bl (decide (j<=i))):=xk fun _ _ _ _ _ _ _ q=>ge_int q
theorem EV:cT X (compareOp .IsNot) (fun x y H Q=>y=.aw/\Q (.bl (!decide (x=.aw))) H):=by
 intro pins s σ H x y v u Q I rx ry h;obtain⟨rfl,q⟩:=h;cases ry;refine isnot_none_gen (Im I q ?_);cases x<;>first
  |(cases rx;rfl)
  |(obtain⟨t,rfl⟩:=rx;rfl)
theorem cT.or{f:Value->Value->Sem Value}{r r':R2}(h:cT X f r)(h':cT X f r'):cT X f (fun x y H Q=>r x y H Q\/r' x y H Q):=by
 intro pins s σ H x y v u Q I rx ry q;rcases q with q|q
 .exact h pins s σ H x y v u Q I rx ry q
 .exact h' pins s σ H x y v u Q I rx ry q
theorem Oi(b:Expr){op:CmpOp}(h:op≠.In:=by decide)(h2:op≠.NotIn:=by decide):behindInMarks op b=false:=by
 have e1:(op== CmpOp.In)=false:=by cases op<;>first|rfl|exact absurd rfl h
 have e2:(op== CmpOp.NotIn)=false:=by cases op<;>first|rfl|exact absurd rfl h2
 cases b<;>simp[behindInMarks,e1,e2]
theorem Ew{op:CmpOp}{r:R2}(ho:cT X (compareOp op) r)(ha:PE X a ta)(hb:PE X b tb)(hm:behindInMarks op b=false):PE X (.Compare a [op] [b] pos) (zi r ta tb):=by intro pins s σ H Q I h;exact wpAny_Compare1 (AS ha hb I h fun v u s2 x y H2 I2 rx ry q=>ho pins s2 σ H2 x y v u Q I2 rx ry q) hm
noncomputable def Dt(t:TE):TT:=fun σ H Q=>t σ H fun x H'=>∃k,x=.bl k/\Q k H'
theorem Er{op:CmpOp}{r:R2}(ho:cT X (compareOp op) r)(ha:PE X a ta)(hb:PE X b tb)(hm:behindInMarks op b=false):PT X (.Compare a [op] [b] pos) (Dt (zi r ta tb)):=by
 intro pins s σ H Q I h;refine wpAny_isTrue_Compare1 (aG (ha pins s σ H _ I h) fun v s1 ⟨x,H1,I1,r1,q1⟩=>aG (hb pins s1 σ H1 _ I1 q1) fun u s2 ⟨y,H2,I2,r2,q2⟩=>
  aG (ho pins s2 σ H2 x y v u _ I2 r1 r2 q2) fun c s3 ⟨z,H3,I3,r3,k,e,q3⟩=>?_) hm
 subst e;cases r3;exact lJ ⟨H3,I3,q3⟩
noncomputable def zW(r r':R2)(ta tb tc:TE):TE:=fun σ H Q=>ta σ H fun x H1=>tb σ H1 fun y H2=>r x y H2 fun z H3=>∃k,z=.bl k/\
 (if k=true then tc σ H3 fun w' H4=>r' y w' H4 Q else Q (.bl false) H3)
theorem Bu{op op':CmpOp}{r r':R2}(ho:cT X (compareOp op) r)(ho':cT X (compareOp op') r')(ha:PE X a ta)(hb:PE X b tb)(hc:PE X c tc)
  (hm:lastMarks [op,op'] [b,c]=false:=by with_unfolding_all rfl):PE X (.Compare a [op,op'] [b,c] pos) (zW r r' ta tb tc):=by
 intro pins s σ H Q I h;refine Compare_chain (aG (ha pins s σ H _ I h) fun v s1 ⟨x,H1,I1,r1,q1⟩=>chain_link (aG (hb pins s1 σ H1 _ I1 q1) fun u s2 ⟨y,H2,I2,r2,q2⟩=>
  aG (ho pins s2 σ H2 x y v u _ I2 r1 r2 q2) fun d s3 ⟨z,H3,I3,r3,k,e,q3⟩=>?_)) hm
 subst e;cases r3;refine lJ ?_;cases k with
 |false=>exact ite_ff ⟨.bl false,H3,I3,rfl,q3⟩
 |true=>exact ite_tt (chain_last (aG (hc pins s3 σ H3 _ I3 q3) fun w' s4 ⟨z',H4,I4,r4,q4⟩=>ho' pins s4 σ H4 y z' u w' Q I4 r2 r4 q4))
theorem AZ{op op':CmpOp}{r r':R2}(ho:cT X (compareOp op) r)(ho':cT X (compareOp op') r')(ha:PE X a ta)(hb:PE X b tb)(hc:PE X c tc)
  (hm:lastMarks [op,op'] [b,c]=false:=by with_unfolding_all rfl):PT X (.Compare a [op,op'] [b,c] pos) (Dt (zW r r' ta tb tc)):=by
 intro pins s σ H Q I h;refine isTrue_chain (aG (ha pins s σ H _ I h) fun v s1 ⟨x,H1,I1,r1,q1⟩=>test_link (aG (hb pins s1 σ H1 _ I1 q1) fun u s2 ⟨y,H2,I2,r2,q2⟩=>
  aG (ho pins s2 σ H2 x y v u _ I2 r1 r2 q2) fun d s3 ⟨z,H3,I3,r3,k,e,q3⟩=>?_)) hm
 subst e;cases r3;refine lJ ?_;cases k with
 |false=>
  obtain⟨k',e',q'⟩:=q3;cases e';exact ite_ff ⟨H3,I3,q'⟩
 |true=>
  refine ite_tt (test_last (aG (hc pins s3 σ H3 _ I3 q3) fun w' s4 ⟨z',H4,I4,r4,q4⟩=>aG (ho' pins s4 σ H4 y z' u w' _ I4 r2 r4 q4) fun d' s5 ⟨z2,H5,I5,r5,k2,e2,q5⟩=>?_));subst e2;cases r5;exact lJ ⟨H5,I5,q5⟩
def AR(K:W.Frag)(x:V)(H:Hp)(k:Bool):Prop:=
 match x with
 |.aw=>k=false
 |.bl b=>k=b
 |.int i=>k=(i != 0)
 |.str y=>y.length<=sizeLine/\k=((y.length:Int) != 0)
 |.byt y=>y.size<=sizeLine/\k=((y.size:Int) != 0)
 |.ref p=>(∃xs,dh K H p xs/\k=!xs.isEmpty)\/(∃xs,dW K H p xs/\k=!xs.isEmpty)\/∃kvs,H p=some (.dK kvs)/\k=!kvs.isEmpty
 |_=>False
theorem xb{κ:Type}{kvs:List (κ×V)}{vs:List (κ×Value)}(r:KV kvs vs):(!vs.isEmpty)=!kvs.isEmpty:=by cases r<;>rfl
theorem p8{xs:List V}{its:List Value}(r:Vals xs its):(!its.toArray.isEmpty)=!xs.isEmpty:=by cases r<;>simp
theorem k9:(sizeLine:Nat)<2 ^ 63:=by rw[f7];decide
theorem zQ:M7 X (fun x H Q=>∃k,AR X.K x H k/\Q k H):=by
 intro pins s σ H x v Q I rx h;obtain⟨k,e,q⟩:=h;have hl:=k9;have hs:sizeLine=16777216:=f7;cases x with
 |aw=>
  cases rx;have e':k=false:=e;subst e';exact truthy_none ⟨H,I,q⟩
 |bl b=>
  cases rx;have e':k=b:=e;subst e';exact lJ ⟨H,I,q⟩
 |int i=>
  obtain⟨t,rfl⟩:=rx;have e':k=(i != 0):=e;subst e';exact PySem.P.truthy_int ⟨H,I,q⟩
 |str y=>
  obtain⟨t,rfl⟩:=rx;obtain⟨hy,e'⟩:y.length<=sizeLine/\k=((y.length:Int) != 0):=e;subst e';exact PySem.P.truthy_str (by omega) ⟨H,I.tok _,q⟩
 |byt y=>
  obtain⟨t,rfl⟩:=rx;obtain⟨hy,e'⟩:y.size<=sizeLine/\k=((y.size:Int) != 0):=e;subst e';exact W.truthy_bytes (by omega) ⟨H,I.tok _,q⟩
 |ref p=>
  cases rx;have e':(∃xs,dh X.K H p xs/\k=!xs.isEmpty)\/(∃xs,dW X.K H p xs/\k=!xs.isEmpty)\/∃kvs,H p=some (.dK kvs)/\k=!kvs.isEmpty:=e;rcases e' with ⟨xs,hx,e'⟩|⟨xs,hx,e'⟩|⟨kvs,hx,e'⟩
  .subst e';obtain⟨its,r,pl,hz⟩:=I.list hx;have hlen:=r.length;exact wpAny_truthy_list pl.isList (by simp only[cW];omega) ⟨H,I.tok _,by rw[p8 r];exact q⟩
  .subst e';obtain⟨its,r,pl,hz⟩:=I.tuple hx;have hlen:=r.length;exact truthy_tuple pl (by simp only[cW];omega) ⟨H,I.tok _,by rw[p8 r];exact q⟩
  .subst e';obtain⟨hz,hS,vs,r,m⟩:kvs.length<=sizeLine/\(p== sysModules)=false/\∃vs,KV kvs vs/\s.heap.DictOf (rq X.prog X.w) p vs:=I.aD p _ hx;have hlen:kvs.length=vs.length:=Paired.length r;exact wpAny_truthy_dict hS m (by omega) ⟨H,I.tok _,by rw[xb r];exact q⟩
 |_=>exact (show False from e).elim
theorem Br(ha:PE X a ta)(he:∀whole,isTrue a X.env whole=(do let v <-whole;standAt a.pos;holding [v] (truthy v))):
  PT X a (fun σ H Q=>ta σ H fun x H'=>∃k,AR X.K x H' k/\Q k H'):=by
 intro pins s σ H Q I h;exact isTrue_plain (aG (ha pins s σ H _ I h) fun v s1 ⟨x,H1,I1,r1,q1⟩=>zQ pins s1 σ H1 x v Q I1 r1 q1) (he _)
theorem vals1{x:V}{us:List Value}(r:Vals [x] us):∃u,us=[u]/\RelV x u:=by
 cases r with
 |cons r1 r2=>cases r2;exact⟨_,rfl,r1⟩
theorem vals2{x y:V}{us:List Value}(r:Vals [x,y] us):∃u w',us=[u,w']/\RelV x u/\RelV y w':=by
 cases r with
 |cons r1 r2=>
  cases r2 with
  |cons r3 r4=>cases r4;exact⟨_,_,rfl,r1,r3⟩
theorem zD:nO X (.type "int") (fun xs H Q=>(∃i,xs=[.int i]/\Q (.int i) H)\/∃k,xs=[.bl k]/\Q (.int (if k then 1 else 0)) H):=by
 intro pins s σ H xs us Q I r h;rcases h with ⟨i,rfl,q⟩|⟨k,rfl,q⟩
 .obtain⟨u,rfl,t,rfl⟩:=vals1 r;exact call_int_int ⟨.int i,H,I,⟨_,rfl⟩,q⟩
 .obtain⟨u,rfl,r1⟩:=vals1 r;cases r1;exact call_int_bool ⟨.int (if k then 1 else 0),H,I.tok _,⟨_,rfl⟩,q⟩
end
structure rl(h:Heap)(x dx C:Addr)(mA:Str->Option Value):Prop where
 obj:h.get? x=some (W.instObj C dx)
 ns:h.Ns1 dx mA
 ne:dx≠x
theorem rO{h:Heap}{dx:Addr}{mA:Str->Option Value}(n:h.Ns1 dx mA):∃od,h.get? dx=some od/\∀name,W.lookIn name od=some (mA name):=by
 obtain⟨o,es,ep,ho,hd,hk,_,hm⟩:=n;refine⟨o,ho,fun name=>?_⟩;have e:=hm name;unfold nsFind findBy at e;rw[<-Array.find?_toList] at e;unfold W.lookIn;rw[hd];dsimp only;split
 .rename_i y q;rw[q] at e;exact c9 some e
 .rename_i q;rw[q] at e;have a:es.toList.any (·.refKey)=false:=by
   rw[List.any_eq_false];intro y hy;obtain⟨z,t,hkey⟩:=hk y (Array.mem_toList_iff.mp hy);simp[DictEntry.refKey,hkey]
  have a':¬ es.toList.any (·.refKey)=true:=by rw[a];exact jP
  rw[if_neg a'];exact c9 some e
theorem rl.look{h:Heap}{x dx C:Addr}{mA:Str->Option Value}(I:rl h x dx C mA):∃od,W.InstAt h x (W.instObj C dx) C (some od)/\∀name,W.lookIn name od=some (mA name):=
 let ⟨od,ho,hl⟩:=rO I.ns
 ⟨od,⟨I.obj,rfl,rfl,ho⟩,hl⟩
section
variable {prog:Program}{w:World}{A:Around}{E:ba}{s:Shared}{K:W.Frag}{x dx C f:Addr}{mA:Str->Option Value}{name:Str}{v:Value}
theorem get_map{expr:Bool}{Q:ba}(X:K.In s.heap)(I:rl s.heap x dx C mA)(hg:W.plainGet K C name=true)(hh:W.hasDictIn K C=true)
  (ha:W.findIn K (.ref C) name=some none) (hv:mA name=some v) (hv':W.handedIn v=true) (h:Q v {s with toks:=s.toks+1}):
  wpAny (model prog w) A (getAttr (.ref x) name expr) Q E s:=by
 obtain⟨od,J,hl⟩:=I.look;exact W.get_value X J (W.plainGet_of hg).1 (W.findObj_own hh ha rfl (by rw[hl,hv])) hv' h
theorem DX{ns:List Str}{Q:Unit->Shared->Prop}(X:K.In s.heap)(I:rl s.heap x dx C mA)
  (hs:W.findIn K (.ref C) "__setattr__" = some (some (.builtin "object.__setattr__"))) (hp:W.plainOver K C=true) (ht:W.takerIn K C name=some none) (hh:W.hasDictIn K C=true)
  (hw:PySem.Within mA ns) (hsz:ns.length<=sizeLine)
  (h:∀h',rl h' x dx C (fun y=>if y=name then some v else mA y)->Heap.SameBut dx s.heap h'->Q () {s with heap:=h',toks:=s.toks+2}):
  wpAny (model prog w) A (setAttr (.ref x) name v) Q E s:=by
 obtain⟨od,J,hl⟩:=I.look;refine W.set_plain X J hs (W.osa_open (s:={s with toks:=s.toks+1}) (r:=none) X J hp ht fun b=>?_);obtain⟨cd,hc,hd'⟩:=W.any_some hh;have hx:s.heap.get? x=some ⟨.ref C,some dx,.plain,#[]⟩:=I.obj;refine aj (aM (aj (aj (wpAny_loadPart hx (aj (W.Looks.here (s:={s with toks:=s.toks+1}) (W.looks_clsIn X hc) ?_))))));rw[hd'];refine aM (a:=some dx) (aj (aM (aj ?_)));refine wpAny_nsSet1 (s:={s with toks:=s.toks+1}) I.ns fun h' hn2 hs2=>?_;obtain⟨oD,esD,epD,hoD,ud,hcD⟩:=hn2.count (PySem.Within.cons name v hw);refine aj (wpAny_lookBehind hoD (by rw[ud];exact pastItsLine_dict (bW hcD (by rw[dw];omega))) ?_);exact aM (h _ ⟨(hs2.2 _ (bo I.ne)).trans I.obj,hn2,I.ne⟩ hs2)
theorem Cb{R:Result->Shared->Prop}{vs:List Value}{kw:List (Str×Value)}(X:K.In s.heap)(hm:W.makesIn K C=true)
  (hi:W.findIn K (.ref C) "__init__" = some (some (.ref f))) (hf:W.typeIn K (.ref f)=some (.type "function"))
  (h:codeAny (model prog w) (A.under (.builtin "type.__call__" ⟨.ref C::vs,kw⟩)) (.call (.ref f) ⟨.ref (s.heap.objs.size+1)::vs,kw⟩) (W.InitBack (s.heap.objs.size+1) R)
   {s with heap:=(s.heap.push W.emptyDict).push (W.instObj C s.heap.objs.size)}):
  codeAny (model prog w) A (.call (.ref C) ⟨vs,kw⟩) R s:=by
 obtain⟨hh,g,d,t,os⟩:=s;exact W.make_core (W.makes_of X hm) (sN X hi) (fun self=>W.bind_fn X self hf) (.inl rfl) h
end
def fe(f:Str)(v:V):List (Str×V)->List (Str×V)
 |[]=>[(f,v)]
 |(g,x)::r=>if g=f then (g,v)::r else (g,x)::fe f v r
theorem oN(f g:Str)(v:V):∀fs:List (Str×V),(fe f v fs).lookup g=if g=f then some v else fs.lookup g
 |[]=>by
  show List.lookup g [(f,v)]=_;by_cases h:g=f
  .have hb:(g== f)=true:=iF.mpr h;simp only[List.lookup,hb,if_pos h]
  .have hb:(g== f)=false:=jZ.mpr h;simp only[List.lookup,hb,if_neg h]
 |(k,x)::r=>by
  have ih:=oN f g v r;rw[show fe f v ((k,x)::r)=(if k=f then (k,v)::r else (k,x)::fe f v r) from rfl];by_cases hk:k=f
  .rw[if_pos hk];by_cases h:g=k
   .have hb:(g== k)=true:=iF.mpr h;simp only[List.lookup,hb,if_pos (h.trans hk)]
   .have hb:(g== k)=false:=jZ.mpr h;simp only[List.lookup,hb,if_neg (fun e:g=f=>h (e.trans hk.symm))]
  .rw[if_neg hk];by_cases h:g=k
   .have hb:(g== k)=true:=iF.mpr h;simp only[List.lookup,hb,if_neg (fun e:g=f=>hk (h.symm.trans e))]
   .have hb:(g== k)=false:=jZ.mpr h;simp only[List.lookup,hb];exact ih
theorem m9(f:Str)(v:V):∀fs:List (Str×V),f∈(fe f v fs).map (·.1)/\∀g,g∈fs.map (·.1)->g∈(fe f v fs).map (·.1)
 |[]=>⟨by simp[fe],fun g h=>by simp at h⟩
 |(k,x)::r=>by
  obtain⟨i1,i2⟩:=m9 f v r;rw[show fe f v ((k,x)::r)=(if k=f then (k,v)::r else (k,x)::fe f v r) from rfl];by_cases hk:k=f
  .rw[if_pos hk];subst hk;exact⟨by simp,fun g h=>by simpa using h⟩
  .rw[if_neg hk];refine⟨?_,fun g h=>?_⟩
   .rw[bx];exact jB _ i1
   .rw[bx] at h⊢;rcases cY.mp h with e|e
    .exact cY.mpr (.inl e)
    .exact jB _ (i2 g e)
theorem oH(f:Str)(v:V):∀fs:List (Str×V),(fe f v fs).length<=fs.length+1
 |[]=>by simp[fe]
 |(k,x)::r=>by
  have ih:=oH f v r;rw[show fe f v ((k,x)::r)=(if k=f then (k,v)::r else (k,x)::fe f v r) from rfl];by_cases hk:k=f
  .rw[if_pos hk,dw,dw];omega
  .rw[if_neg hk,dw,dw];omega
theorem pG.some_of{v:V}{o:Option Value}(r:pG (some v) o):∃u,o=some u/\RelV v u:=by
 cases o with
 |none=>exact (show False from r).elim
 |some u=>exact⟨u,rfl,r⟩
theorem zI{v:V}{u:Value}(r:RelV v u):W.handedIn u=true:=by
 cases v with
 |aw=>cases (show u=Value.none from r);rfl
 |bl b=>cases (show u=Value.bool b from r);rfl
 |int i=>obtain⟨t,e⟩:=(show ∃t,u=Value.int i t from r);cases e;rfl
 |str x=>obtain⟨t,e⟩:=(show ∃t,u=Value.str x t from r);cases e;rfl
 |byt b=>obtain⟨t,e⟩:=(show ∃t,u=Value.bytes b t from r);cases e;rfl
 |flt b=>obtain⟨t,e⟩:=(show ∃t,u=Value.float b t from r);cases e;rfl
 |ref a=>cases (show u=Value.ref a from r);rfl
 |ty n=>cases (show u=Value.type n from r);rfl
section
variable {P:Program}{w:World}{H H':Hp}{h h':Heap}{a C dx:Addr}{fs fs':List (Str×V)}
theorem wj(aD:dI P w H h)(e:H a=some (.ins C dx fs)):∃mA,rl h a dx C mA/\(∀f,pG (fs.lookup f) (mA f))/\PySem.Within mA (fs.map (·.1))/\fs.length<=1000/\H dx=some (.own a):=by obtain⟨d,z,ne,ob,mA,n,r,q⟩:=(show dM P w H h a (.ins C dx fs) from aD a _ e);exact⟨mA,⟨ob,n,ne⟩,r,q,z,d⟩
end
structure uZ(K:W.Frag)(C:Addr):Prop where
 pg:W.plainGet K C Str.empty=true
 hd:W.hasDictIn K C=true
 po:W.plainOver K C=true
 sa:W.findIn K (.ref C) "__setattr__" = some (some (.builtin "object.__setattr__"))
theorem uZ.get{K:W.Frag}{C:Addr}(c:uZ K C)(f:Str):W.plainGet K C f=true:=c.pg
def jU(K:W.Frag)(C:Addr)(f:Str):Prop:=W.findIn K (.ref C) f=some none
theorem jU.Jp{K:W.Frag}{C:Addr}{f:Str}(n:jU K C f):W.takerIn K C f=some none:=by unfold W.takerIn;rw[show W.findIn K (.ref C) f=some none from n];rfl
section
variable {X:Cx}{pins:aL}{σ:St}{H:Hp}{s:Shared}{a C dx:Addr}{fs:List (Str×V)}{f:Str}{v:V}{A:Around}{E:ba}
theorem wZ{b:Bool}{Q:ba}(I:Inv X pins σ H s)(e:H a=some (.ins C dx fs))(c:uZ X.K C)(n:jU X.K C f)(l:fs.lookup f=some v)
  (h:∀u s',Inv X pins σ H s'->RelV v u->Q u s'):wpAny (model X.prog X.w) A (getAttr (.ref a) f b) Q E s:=by
 obtain⟨mA,O,r,_,_,_⟩:=wj I.aD e;obtain⟨u,hu,ru⟩:=pG.some_of (v:=v) (o:=mA f) (by rw[<-l];exact r f);exact get_map I.dP O (c.get f) c.hd n hu (zI ru) (h u _ (I.tok _) ru)
theorem yE{y:V}{u:Value}{Q:Unit->Shared->Prop}(I:Inv X pins σ H s)(e:H a=some (.ins C dx fs))(c:uZ X.K C)(n:jU X.K C f)(hl:fs.length<1000)(ry:RelV y u)
  (h:∀s',Inv X pins σ (upd H a (.ins C dx (fe f y fs))) s'->Q () s'):wpAny (model X.prog X.w) A (setAttr (.ref a) f u) Q E s:=by
 obtain⟨mA,O,r,wi,_,ho⟩:=wj I.aD e;have hz:(fs.map (·.1)).length<=sizeLine:=by rw[fQ,f7];omega
 refine DX I.dP O c.sa c.po n.Jp c.hd wi hz fun h' O' sb=>h _ ?_;have hd:∃o,h'.get? dx=some o:=let ⟨o,_,_,e',_⟩:=O'.ns;⟨o,e'⟩
 refine I.write (x:=a) (e:=dx) (by rw[e];exact True.intro) (.inr ho) (fun b q hb z=>(sb.2 b hb).trans z) hd ?_;refine⟨by rw[aJ O.ne];exact ho,?_,O.ne,O'.obj,_,O'.ns,fun g=>?_,fun g hg=>?_⟩
 .have:=oH f y fs;omega
 .show pG ((fe f y fs).lookup g) (if g=f then some u else mA g);rw[oN];by_cases q:g=f
  .rw[if_pos q,if_pos q];exact ry
  .rw[if_neg q,if_neg q];exact r g
 .by_cases q:g=f
  .rw[q];exact (m9 f y fs).1
  .refine (m9 f y fs).2 g (wi g fun z=>hg ?_);show (if g=f then some u else mA g)=none;rw[if_neg q];exact z
theorem Inv.made(I:Inv X pins σ H s):Inv X pins σ (upd (upd H s.heap.objs.size (.own (s.heap.objs.size+1))) (s.heap.objs.size+1) (.ins C s.heap.objs.size []))
  {s with heap:=(s.heap.push W.emptyDict).push (W.instObj C s.heap.objs.size)}:=by
 have e1:(s.heap.push W.emptyDict).get? s.heap.objs.size=some W.emptyDict:=gk s.heap rfl;have e2:((s.heap.push W.emptyDict).push (W.instObj C s.heap.objs.size)).get? (s.heap.objs.size+1)=some (W.instObj C s.heap.objs.size):=by
  have:=gk (s.heap.push W.emptyDict) (o:=W.instObj C s.heap.objs.size) rfl
  rwa [o9] at this
 have e3:(s.heap.push W.emptyDict).Ns s.heap.objs.size (fun _=>none):=⟨W.emptyDict,#[],_,e1,rfl,(fun e he=>absurd he (by simp)),fun _=>rfl⟩;have I1:=I.laid (a:=s.heap.objs.size) (o:=.own (s.heap.objs.size+1)) (h':=s.heap.push W.emptyDict) (t':=s.toks) (fun b u q=>bX _ q) (aV _) ⟨_,e1⟩;refine I1.laid (a:=s.heap.objs.size+1) (o:=.ins C s.heap.objs.size []) (t':=s.toks) (fun b u q=>bX _ q) (qx (o9 _ _)) ?_;have ne:s.heap.objs.size≠s.heap.objs.size+1:=dr (uo _);refine⟨by rw[aJ ne,bP],iy _,ne,e2,fun _=>none,(Heap.Ns1.of_empty e3).at fun o q=>bX _ q,fun _=>True.intro,fun y hy=>absurd rfl hy⟩
theorem EA{prog:Program}{w:World}{env:Env}{e:Expr}{f:Str}{pos:Pos}{s:Shared}{Q:ba}(hb:attributeBase e f env (eval e env)=eval e env)
  (h:wpAny (model prog w) A (eval e env) (fun o s₁=>wpAny (model prog w) A (getAttr o f true) Q E s₁) E s):wpAny (model prog w) A (eval (.Attribute e f pos) env) Q E s:=
 Attribute_any_ h (by rw[arm_eval_Attribute,hb])
end
noncomputable def Na(K:W.Frag)(ta:TE)(f:Str):TE:=fun σ H Q=>ta σ H fun x H1=>∃a C dx fs v,x=.ref a/\H1 a=some (.ins C dx fs)/\uZ K C/\jU K C f/\fs.lookup f=some v/\Q v H1
def Nf(K:W.Frag)(ta tv:TE)(f:Str):TS:=fun D σ H=>tv σ H fun y H1=>ta σ H1 fun x H2=>∃a C dx fs,x=.ref a/\H2 a=some (.ins C dx fs)/\uZ K C/\jU K C f/\fs.length<1000/\
 D.nx σ (upd H2 a (.ins C dx (fe f y fs)))
section
variable {X:Cx}{o e value:Expr}{f:Str}{pos pos' tpos:Pos}{ta tv:TE}
theorem GN(he:PE X e ta)(hb:attributeBase e f X.env (eval e X.env)=eval e X.env):PE X (.Attribute e f pos) (Na X.K ta f):=by intro pins s σ H Q I h;refine EA hb (aG (he pins s σ H _ I h) fun u s1 ⟨x,H1,I1,rx,a,C,dx,fs,v,ex,ea,c,n,l,q⟩=>?_);subst ex;obtain rfl:u=Value.ref a:=rx;exact wZ I1 ea c n l fun u' s2 I2 ru=>⟨v,H1,I2,ru,q⟩
theorem FC(ha:PE X o ta)(hv:PE X value tv)(hs:swapsWith value (some (.Attribute o f pos')) pos.line X.env=pure false):PS X (.Assign [.Attribute o f pos'] value pos) (Nf X.K ta tv f):=by intro pins s σ H D I h;refine plainObj_wpAny_Assign_Attribute (aG (hv pins s σ H _ I h) fun u s1 ⟨y,H1,I1,ry,q⟩=>aG (ha pins s1 σ H1 _ I1 q) fun ov s2 ⟨x,H2,I2,rx,a,C,dx,fs,ex,ea,c,n,l,q2⟩=>?_) hs;subst ex;obtain rfl:ov=Value.ref a:=rx;exact yE I2 ea c n l ry fun s3 I3=>⟨σ,_,I3,q2⟩
end
section
variable {X:Cx}{pins:aL}{σ:St}{H:Hp}{s:Shared}{A:Around}{E:ba}{Q:ba}{c:Value}{b:Bool}
end
structure cz(k:Nat)(A:Around):Prop where
 hd:A.handled=none
 dp:A.depth+3 * k+5<recursionLimit
 un:A.units+16 * k+200<cLine
theorem cz.mono{j k:Nat}{A:Around}(r:cz k A)(h:j<=k):cz j A:=⟨r.hd,by have:=r.dp;omega,by have:=r.un;omega⟩
theorem cz.deeper{k:Nat}{A:Around}(r:cz (k+1) A)(env:Env):cz k (A.deeper env):=
 ⟨r.hd,by have:=r.dp;show A.depth+1+3 * k+5<_;omega,by have:=r.un;show A.units+3+16 * k+200<_;omega⟩
theorem yq{A:Around}{C:Addr}{us:List Value}{kw:List (Str×Value)}:(A.under (.builtin "type.__call__" ⟨.ref C::us,kw⟩)).depth=A.depth+1:=by first|rfl|simp[Around.under,Code.weight,Code.isCreation,Code.isGuard,Code.isCaller,Code.frames,Code.isFrame,guardIds]
theorem yc{A:Around}{C:Addr}{us:List Value}{kw:List (Str×Value)}:(A.under (.builtin "type.__call__" ⟨.ref C::us,kw⟩)).units=A.units+1:=by first|rfl|simp[Around.under,Code.cUnits,Code.frames,Code.isFrame]
theorem cz.make{k:Nat}{A:Around}(r:cz (k+1) A)(C:Addr)(us:List Value)(kw:List (Str×Value)):cz k (A.under (.builtin "type.__call__" ⟨.ref C::us,kw⟩)):=
 ⟨r.hd,by have:=r.dp;rw[yq];omega,by have:=r.un;rw[yc];omega⟩
theorem cz.depth{k:Nat}{A:Around}(r:cz k A):A.depth<recursionLimit:=by have:=r.dp;omega
noncomputable def xT:TA:=fun _ H Q=>Q [] H
noncomputable def sV(ta:TE)(tr:TA):TA:=fun σ H Q=>ta σ H fun x H1=>tr σ H1 fun xs H2=>Q (x::xs) H2
section
variable {X:Cx}{e:Expr}{es:List Expr}{te:TE}{t:TA}{pos:Pos}
theorem eQ:PA X [] xT:=fun _ _ _ _ H Q I h=>Calls.spliced_nil ⟨[],H,I,.nil,h⟩
theorem bU(ha:PE X e te)(hr:PA X es t)(hs:starEach (e::es) X.env=(false,eval e X.env)::starEach es X.env:=by rfl):PA X (e::es) (sV te t):=by intro pos pins s σ H Q I h;rw[hs];show wpAny _ _ (spliced ((false,eval e X.env)::backTo pos (starEach es X.env))) _ _ s;refine Calls.spliced_cons (aG (ha pins s σ H _ I h) fun u s1 ⟨x,H1,I1,r1,q1⟩=>?_);exact aG (hr pos pins s1 σ H1 _ I1 q1) fun us s2 ⟨xs,H2,I2,r2,q2⟩=>⟨x::xs,H2,I2,.cons r1 r2,q2⟩
def Hh(t:TA):TE:=fun σ H Q=>t σ H fun xs H1=>xs.length<=sizeLine/\∀p,H1 p=none->Q (.ref p) (upd H1 p (.tup xs))
def Mr(t:TA):TE:=fun σ H Q=>t σ H fun xs H1=>xs.length<=sizeLine/\∀p,H1 p=none->Q (.ref p) (upd H1 p (.lst xs))
theorem Aj{x1}(h:PA X es t):PE X (.Tuple es x1 pos) (Hh t):=by intro pins s σ H Q I hq;refine wpAny_Tuple_spliced (aG (h pos pins s σ H _ I hq) fun us s1 ⟨xs,H1,I1,r,z,q⟩=>⟨by rw[<-r.length];exact z,?_⟩);have hf:H1 s1.heap.objs.size=none:=I1.aD.fresh (aV _);refine⟨.ref s1.heap.objs.size,upd H1 s1.heap.objs.size (.tup xs),I1.laid (t':=s1.toks) (fun b u e=>bX _ e) (aV _) ?_,rfl,q _ hf⟩;exact⟨z,us,r,⟨_,gk _ rfl,rfl,_,rfl⟩⟩
theorem GZ(h:PA X es t):PE X (.List es pos) (Mr t):=by intro pins s σ H Q I hq;refine wpAny_List_spliced (aG (h pos pins s σ H _ I hq) fun us s1 ⟨xs,H1,I1,r,z,q⟩=>⟨by rw[<-r.length];exact z,?_⟩);have hf:H1 s1.heap.objs.size=none:=I1.aD.fresh (aV _);refine⟨.ref s1.heap.objs.size,upd H1 s1.heap.objs.size (.lst xs),I1.laid (t':=s1.toks) (fun b u e=>bX _ e) (aV _) ?_,rfl,q _ hf⟩;exact⟨z,us,0,r,gk _ rfl⟩
end
abbrev Sp:=List V->Hp->VK->XK->Prop
abbrev fR:=List Env->Hp->Shared->XK->ba
structure lO(P:Program)(w:World)(K:W.Frag)(mg:Str->Option Value)(base:Heap)(A:Around)(outer:List Env)(s:Shared)(H:Hp):Prop where
 frames:A.frames=some outer
 mod:Mod K mg base
 bs:∀b o,base.get? b=some o->s.heap.get? b=some o/\H b=none
 kQ:base.objs.size<=s.heap.objs.size
 fM:s.heap.FunFrames base outer
 mU:∀b∈bp outer,H b=none
 aD:dI P w H s.heap
 bare:AllBare s.gens
def CE(outer:List Env)(P:Program)(w:World)(H:Hp)(s:Shared)(Q:VK)(u:Value)(s':Shared):Prop:=
 ∃v H',s'.os=s.os/\AllBare s'.gens/\Un (bp outer) [] H H' s.heap s'.heap/\dI P w H' s'.heap/\RelV v u/\Q v H'
def CR(CX:fR)(outer:List Env)(P:Program)(w:World)(H:Hp)(s:Shared)(Q:VK)(E:XK)(r:Result)(s':Shared):Prop:=
 match r with
 |.ok (.ret u)=>CE outer P w H s Q u s'
 |.ok _=>False
 |.error e=>CX outer H s E e s'
structure cD(P:Program)(w:World)(K:W.Frag)(mg:Str->Option Value)(base:Heap)(CX:fR)(k:Nat)(f:Addr)(fd:FuncData)(ps:List Str)(sp:Sp):Prop where
 len:∀vs H Q E,sp vs H Q E->vs.length=ps.length
 run:∀(A:Around)(outer:List Env)(s:Shared)(H:Hp)(args:Args)(us:List Value)(vs:List V)(Q:VK)(E:XK),cz k A->lO P w K mg base A outer s H->BindsTo s fd args (ps.zip us)->Vals vs us->sp vs H Q E->
  codeAny (model P w) A (.call (.ref f) args) (CR CX outer P w H s Q E) s
theorem cD.imp{P:Program}{w:World}{K:W.Frag}{mg:Str->Option Value}{base:Heap}{CX:fR}{k:Nat}{f:Addr}{fd:FuncData}{ps:List Str}{sp sp':Sp}(F:cD P w K mg base CX k f fd ps sp)
  (h:∀vs H Q E,sp' vs H Q E->sp vs H Q E):cD P w K mg base CX k f fd ps sp':=
 ⟨fun vs H Q E q=>F.len vs H Q E (h _ _ _ _ q),fun A outer s H args us vs Q E hr he hb hv hs=>F.run A outer s H args us vs Q E hr he hb hv (h _ _ _ _ hs)⟩
theorem lO.make{P:Program}{w:World}{K:W.Frag}{mg:Str->Option Value}{base:Heap}{A:Around}{outer:List Env}{s:Shared}{H:Hp}(e:lO P w K mg base A outer s H)(C:Addr)(us:List Value)(kw:List (Str×Value)):
  lO P w K mg base (A.under (.builtin "type.__call__" ⟨.ref C::us,kw⟩)) outer s H:=⟨by first|exact e.frames|(simpa [Around.under,Code.envs,Code.isFrame,pushEnvs] using e.frames),e.mod,e.bs,e.kQ,e.fM,e.mU,e.aD,e.bare⟩
section
variable {X:Cx}{pins:aL}{σ:St}{H:Hp}{s s':Shared}
theorem Inv.BL(I:Inv X pins σ H s):lO X.prog X.w X.K X.mg X.base X.A X.stack s H:=
 ⟨I.ok.frames,I.ok.mod,I.bs,bW I.ok.kQ I.sz,I.stack,I.iq,I.aD,I.bare⟩
theorem Inv.after{Q:VK}{u:Value}(I:Inv X pins σ H s)(h:CE X.stack X.prog X.w H s Q u s'):EP X pins σ Q u s':=by obtain⟨v,H',os,bare,un,aD,r,q⟩:=h;obtain⟨hh,g,d,t,os'⟩:=s';obtain rfl:os'=s.os:=os;exact⟨v,H',I.call (h':=hh) (g':=g) (d':=d) (t':=t) (ch:=[]) un aD bare (fun b z=>absurd z (by simp)),r,q⟩
end
noncomputable def JX(sp:Sp)(dvs:List V)(E:XK)(t:TA):TE:=fun σ H Q=>t σ H fun vs H1=>sp (vs++dvs) H1 Q E
def I9(C:Addr)(sp:Sp)(dvs:List V)(E:XK)(t:TA):TE:=fun σ H Q=>t σ H fun vs H1=>∀x dx,H1 x=none->H1 dx=none->dx≠x->
 sp (.ref x::(vs++dvs)) (upd (upd H1 dx (.own x)) x (.ins C dx [])) (fun v H2=>v=.aw/\Q (.ref x) H2) E
def Binds(K:W.Frag)(fd:FuncData)(ps:List Str)(ds:List Value):Prop:=
 ∀(s:Shared)(us:List Value),K.In s.heap->(us++ds).length=ps.length->BindsTo s fd ⟨us,[]⟩ (ps.zip (us++ds))
theorem Binds.all{K:W.Frag}{fd:FuncData}{ps:List Str}(h:∀us:List Value,us.length=ps.length->bindArgs fd ⟨us,[]⟩=pure (ps.zip us)):Binds K fd ps []:=fun s us _ hl=>by
 rw[gI] at hl⊢;exact .of_eq (h us hl)
def Passes(CX:fR)(X:Cx)(E:XK):Prop:=∀(pins:aL)(σ:St)(H:Hp)(s:Shared)(e:Value)(s':Shared),Inv X pins σ H s->CX X.stack H s E e s'->X.xe e s'
section
variable {X:Cx}{CX:fR}{k:Nat}{f C:Addr}{fd:FuncData}{ps:List Str}{sp:Sp}{dvs:List V}{ds:List Value}{E:XK}{x m:Str}{p pos apos:Pos}{e o:Expr}{es:List Expr}{ta:TE}{t:TA}
theorem yT{pins:aL}{σ:St}{H:Hp}{s:Shared}{Q:VK}{us:List Value}{vs:List V}(F:cD X.prog X.w X.K X.mg X.base CX k f fd ps sp)(hr:cz k X.A)(hb:Binds X.K fd ps ds)(hd:Vals dvs ds)(hx:Passes CX X E)
  (I:Inv X pins σ H s) (r:Vals vs us) (h:sp (vs++dvs) H Q E):wpAny (model X.prog X.w) X.A (call (.ref f) us) (EP X pins σ Q) X.xe s:=by
 have r2:Vals (vs++dvs) (us++ds):=r.append hd;have hl:(us++ds).length=ps.length:=by rw[<-r2.length];exact F.len _ _ _ _ h
 refine kf (ot (F.run X.A X.stack s H ⟨us,[]⟩ (us++ds) (vs++dvs) Q E hr I.BL (hb s us I.dP hl) r2 h) fun r s' hq=>?_);cases r with
 |error e=>exact hx pins σ H s e s' I hq
 |ok fl=>
  cases fl with
  |ret u=>exact I.after hq
  |next=>exact False.elim hq
  |brk=>exact False.elim hq
  |cont=>exact False.elim hq
theorem EW(F:cD X.prog X.w X.K X.mg X.base CX k f fd ps sp)(hr:cz k X.A)(hg:Gl X x)(hm:X.mg x=some (.ref f))(hk:W.keepIn X.K (.ref f)=true)(hb:Binds X.K fd ps ds)(hd:Vals dvs ds)(hx:Passes CX X E)
  (ha:PA X (e::es) t) (hdb:(x== ("__debug__" : Str))=false:=by decide) (he:starEach (e::es) X.env=(false,eval e X.env)::starEach es X.env:=by rfl) (hpl:(backTo pos (starEach es X.env)).any (·.1)=false:=by rfl):
  PE X (.Call (.Name x p) (e::es) [] pos) (JX sp dvs E t):=by
 intro pins s σ H Q I h;refine jX (fY I hg hm ?_ hdb);refine pU (h₀:=X.base) I.ok.mod.r8 hk (aG (ha pos pins s σ H _ I h) fun us s1 ⟨vs,H1,I1,r,q⟩=>⟨I1.dP,?_⟩) he hpl;exact yT F hr hb hd hx I1 r q
structure Mk(K:W.Frag)(C f:Addr):Prop where
 makes:W.makesIn K C=true
 init:W.findIn K (.ref C) "__init__" = some (some (.ref f))
 fn:W.isFn K (.ref f)=true
 kp:W.keepIn K (.ref C)=true
theorem uQ{pins:aL}{σ:St}{H:Hp}{s:Shared}{Q:VK}{us:List Value}{vs:List V}(M:Mk X.K C f)(F:cD X.prog X.w X.K X.mg X.base CX k f fd ps sp)(hr:cz (k+1) X.A)(hb:Binds X.K fd ps ds)(hd:Vals dvs ds)
  (hx:Passes CX X E) (I:Inv X pins σ H s) (r:Vals vs us)
  (h:∀x dx,H x=none->H dx=none->dx≠x->sp (.ref x::(vs++dvs)) (upd (upd H dx (.own x)) x (.ins C dx [])) (fun v H2=>v=.aw/\Q (.ref x) H2) E):
  wpAny (model X.prog X.w) X.A (call (.ref C) us) (EP X pins σ Q) X.xe s:=by
 have hq:=h (s.heap.objs.size+1) s.heap.objs.size (I.aD.fresh (mR _)) (I.aD.fresh (aV _)) (dr (uo _));have I2:=Inv.made (C:=C) I;have r2:Vals (V.ref (s.heap.objs.size+1)::(vs++dvs)) (Value.ref (s.heap.objs.size+1)::(us++ds)):=.cons rfl (r.append hd);have hl:(Value.ref (s.heap.objs.size+1)::us++ds).length=ps.length:=by have e:=r2.length;rw[F.len _ _ _ _ hq] at e;exact e.symm
 refine kf (Cb (f:=f) I.dP M.makes M.init (iF.mp M.fn) (ot (F.run _ X.stack _ _ ⟨Value.ref (s.heap.objs.size+1)::us,[]⟩ (Value.ref (s.heap.objs.size+1)::(us++ds)) _ _ E (hr.make C us [])
  (I2.BL.make C us []) (hb _ (Value.ref (s.heap.objs.size+1)::us) I2.dP hl) r2 hq) fun r s' hq'=>?_))
 cases r with
 |error e=>exact hx pins σ _ _ e s' I2 hq'
 |ok fl=>
  cases fl with
  |ret u=>
   obtain⟨v,H',I3,rv,ev,q3⟩:=I2.after hq';subst ev;exact⟨rv,⟨V.ref (s.heap.objs.size+1),H',I3,rfl,q3⟩⟩
  |next=>exact False.elim hq'
  |brk=>exact False.elim hq'
  |cont=>exact False.elim hq'
theorem ER(M:Mk X.K C f)(F:cD X.prog X.w X.K X.mg X.base CX k f fd ps sp)(hr:cz (k+1) X.A)(hg:Gl X x)(hm:X.mg x=some (.ref C))(hb:Binds X.K fd ps ds)(hd:Vals dvs ds)(hx:Passes CX X E)
  (ha:PA X (e::es) t) (hdb:(x== ("__debug__" : Str))=false:=by decide) (he:starEach (e::es) X.env=(false,eval e X.env)::starEach es X.env:=by rfl) (hpl:(backTo pos (starEach es X.env)).any (·.1)=false:=by rfl):
  PE X (.Call (.Name x p) (e::es) [] pos) (I9 C sp dvs E t):=by
 intro pins s σ H Q I h;refine jX (fY I hg hm ?_ hdb);refine pU (h₀:=X.base) I.ok.mod.r8 M.kp (aG (ha pos pins s σ H _ I h) fun us s1 ⟨vs,H1,I1,r,q⟩=>⟨I1.dP,?_⟩) he hpl;exact uQ M F hr hb hd hx I1 r q
end
section
variable {X:Cx}{CX:fR}{k:Nat}{f C:Addr}{fd:FuncData}{ps ks:List Str}{sp:Sp}{E:XK}{x m:Str}{p pos apos kpos:Pos}{e o:Expr}{es:List Expr}{kws:List Keyword}{te ta:TE}{t tk:TA}{nm:Option Str}
variable {g:List Value->List Value->List Value}{gV:List V->List V->List V}
end
structure n9(N P:List Str)(sc:Scope):Prop where
 kind:sc.kind=.function
 co:sc.isCoroutine=false
 gen:sc.isGenerator=false
 nd:N.Nodup
 pre:N.take P.length=P
 par:∀x∈P,sc.names.lookup x=some .local\/sc.names.lookup x=some .cell
 Ih:∀y∈sc.names,y.2≠.free
theorem rV{kindOf:Str->Option NameKind}{x:Str}:∀{binds:List (Str×Value)}{m:Str->Option Value},(∀v,(x,v)∉binds)->bindL kindOf binds m x=m x
 |[],_,_=>rfl
 |(n,v)::r,m,h=>by
  unfold bindL;rw[rV fun w hw=>h w (jB _ hw)];split
  .have:x≠n:=by rintro rfl;exact h v oY
   simp[this]
  .rfl
theorem sm{kindOf:Str->Option NameKind}{x:Str}:∀{binds:List (Str×Value)}{m:Str->Option Value},(∀v,(x,v)∉binds)->bindC kindOf binds m x=m x
 |[],_,_=>rfl
 |(n,v)::r,m,h=>by
  unfold bindC;rw[sm fun w hw=>h w (jB _ hw)];split
  .rfl
  .have:x≠n:=by rintro rfl;exact h v oY
   simp[this]
theorem rM{kindOf:Str->Option NameKind}{x:Str}{v:Value}:∀{P:List Str}{vs:List Value}{i:Nat}{m:Str->Option Value},P.Nodup->P[i]?=some x->vs[i]?=some v->kindOf x=some .local->
  bindL kindOf (P.zip vs) m x=some v
 |[],_,_,_,_,h,_,_=>by simp at h
 |_::_,[],_,_,_,_,h,_=>by simp at h
 |p::P,w::vs,0,m,nd,h1,h2,hk=>by
  simp at h1 h2;subst h1;subst h2;show bindL kindOf ((p,w)::P.zip vs) m p=_;unfold bindL;rw[rV fun v hv=>(yn.mp nd).1 (yk hv).1,if_pos hk];simp
 |p::P,w::vs,i+1,m,nd,h1,h2,hk=>by
  show bindL kindOf ((p,w)::P.zip vs) m x=_;unfold bindL;exact rM (i:=i) (yn.mp nd).2 (by simpa using h1) (by simpa using h2) hk
theorem rT{kindOf:Str->Option NameKind}{x:Str}{v:Value}:∀{P:List Str}{vs:List Value}{i:Nat}{m:Str->Option Value},P.Nodup->P[i]?=some x->vs[i]?=some v->kindOf x≠some .local->
  bindC kindOf (P.zip vs) m x=some v
 |[],_,_,_,_,h,_,_=>by simp at h
 |_::_,[],_,_,_,_,h,_=>by simp at h
 |p::P,w::vs,0,m,nd,h1,h2,hk=>by
  simp at h1 h2;subst h1;subst h2;show bindC kindOf ((p,w)::P.zip vs) m p=_;unfold bindC;rw[sm fun v hv=>(yn.mp nd).1 (yk hv).1,if_neg hk];simp
 |p::P,w::vs,i+1,m,nd,h1,h2,hk=>by
  show bindC kindOf ((p,w)::P.zip vs) m x=_;unfold bindC;exact rT (i:=i) (yn.mp nd).2 (by simpa using h1) (by simpa using h2) hk
noncomputable def start(N:List Str)(vs:List V):St:=vs.map some++List.replicate (N.length-vs.length) none
def qv(CX:fR)(P:Program)(w:World)(K:W.Frag)(mg:Str->Option Value)(base:Heap)(N:List Str)(qual:Str)(scope:Scope)(f:Addr)(cd:Value)(A:Around)(outer:List Env)(s:Shared)(H:Hp)(E:XK)(cl:fu:=KW):Cx where
 cl:=cl
 prog:=P
 w:=w
 K:=K
 mg:=mg
 base:=base
 A:=A.deeper (envOfC qual scope s.heap.objs.size f cd)
 N:=N
 aO:=s
 jG:=H
 env:=envOfC qual scope s.heap.objs.size f cd
 outer:=outer
 stack:=envOfC qual scope s.heap.objs.size f cd::outer
 ex:=[]
 calm:=true
 fn:=fun _=>true
 pn:=[]
 xe:=fun e s'=>wpAny (model P w) (A.deeper (envOfC qual scope s.heap.objs.size f cd)) (leaving (envOfC qual scope s.heap.objs.size f cd) e) (fun _ s''=>CX outer H s E e s'') (fun e' s''=>CX outer H s E e' s'') s'
theorem uB{sc:Scope}{n:Nat}{x:Str}(h:sc.names.lookup x=some .cell):∃c,(cellsFrom n sc.names []).lookup x=some c:=by have q:=W.cellsFrom_some sc.names n [] (.inl h);exact Bp.mp q
theorem yL{CX:fR}{P:Program}{w:World}{K:W.Frag}{mg:Str->Option Value}{base:Heap}{N ps:List Str}{qual:Str}{scope:Scope}{f:Addr}{cd:Value}{A:Around}{outer:List Env}{s s1:Shared}{H:Hp}{E:XK}{us:List Value}{vs:List V}{cl:fu}
  (S:n9 N ps scope) (hd:A.handled=none) (e0:lO P w K mg base A outer s H) (hl:vs.length=ps.length) (r:Vals vs us)
  (x:InCallC s s.heap.objs.size (bindL (envOfC qual scope s.heap.objs.size f cd).kindOf (ps.zip us) fun _=>none) (cellsFrom (s.heap.objs.size+1) scope.names []) (bindC (envOfC qual scope s.heap.objs.size f cd).kindOf (ps.zip us) fun _=>none) s1):
  Inv (qv CX P w K mg base N qual scope f cd A outer s H E cl) [] (start N vs) H s1:=by
 have hpl:ps.length<=N.length:=by have:=c9 List.length S.pre;rw[m6] at this;omega
 obtain⟨h1,tk,rfl,hk⟩:=x.done;have noA:∀b:Addr,b∉(qv CX P w K mg base N qual scope f cd A outer s H E cl).ex:=fun b z=>absurd (show b∈([]:List Addr) from z) (by simp);refine⟨⟨e0.mod,S.kind,rfl,rfl,aV _,fun y z c h1 h2=>?_,fun y hy=>?_,fun y c _ h=>?_,fun _=>hd,Around.frames_deeper e0.frames,.inr ⟨rfl,rfl⟩,fun b z=>absurd z (noA b),e0.bs,e0.kQ,fun b _ _=>noA b,fun b z=>absurd z (noA b),e0.fM,e0.mU⟩,
  rfl,e0.bare,Un.kept hk,⟨_,x.toInCall.ns,fun i y v h1 h2 h3=>?_⟩,fun y c h=>⟨_,x.cell y c h⟩,e0.aD.fresh (aV _),fun y c h=>?_,fun p hp=>absurd (show p∈([]:aL) from hp) (by simp),e0.aD.kept hk,?_⟩
 .exact name_of_addr x.apart (hZ h1) (hZ h2)
 .have hy:scope.names.lookup y=some .cell\/scope.names.lookup y=some .free:=hy;rcases hy with hy|hy
  .exact uB hy
  .exact absurd rfl (S.Ih _ (hZ hy))
 .exact yv (x.above y c (hZ h))
 .have hi:i<vs.length:=by
   unfold start at h2;by_cases hi:i<vs.length
   .exact hi
   .rw[mC (by simpa using hi)] at h2;rw[yI] at h2;split at h2<;>cases h2
  have ha:vs[i]?=some v:=by
   unfold start at h2;rw[gi (by simpa using hi),jS] at h2;cases e:vs[i]? with
   |none=>rw[e] at h2;cases h2
   |some a=>rw[e] at h2;cases h2;rfl
  obtain⟨u,hu,rv⟩:=r.get ha;have hp:ps[i]?=some y:=by rw[<-S.pre,Bl (by omega)];exact h1
  have ndP:ps.Nodup:=by rw[<-S.pre];exact S.nd.sublist (List.take_sublist _ _)
  refine⟨u,rv,?_⟩;rcases S.par y (pd hp) with k|k
  .exact .inl ⟨k,rM ndP hp hu k⟩
  .obtain⟨c,e⟩:=uB (n:=s.heap.objs.size+1) k;refine .inr ⟨.inl k,c,e,?_⟩;have q:=x.cell y c e;rw[rT ndP hp hu (by show scope.names.lookup y≠_;rw[k];decide)] at q;exact q
 .exact e0.aD.fresh (yv (x.above y c (hZ h)))
 .unfold start;show _=N.length;rw[gR,fQ,A4];omega
theorem J7{CX:fR}{P:Program}{w:World}{K:W.Frag}{mg:Str->Option Value}{base:Heap}{k:Nat}{f:Addr}{name qual:Str}{params:Arguments}{body:List Stmt}{scope:Scope}{dV kV doc pm cdv ct oc:Value}{an od:Option Addr}
  {osl:Array (Option Value)}{N ps:List Str}{sp:Sp}{cl:fu} (lk:K.lookup f=some ⟨oc,od,.func (W.fnOf name qual params body scope dV kV doc pm an cdv ct),osl⟩) (hcd:W.codeIn K cdv qual=true) (S:n9 N ps scope)
  (len:∀vs H Q E,sp vs H Q E->vs.length=ps.length)
  (hbody:∀(A:Around)(outer:List Env)(s:Shared)(H:Hp)(vs:List V)(Q:VK)(E:XK),cz k (A.deeper (envOfC qual scope s.heap.objs.size f cdv))->sp vs H Q E->
   ∃t,eE (qv CX P w K mg base N qual scope f cdv A outer s H E cl) body t/\t {nx:=fun _ H'=>Q .aw H',rt:=Q} (start N vs) H):
  cD P w K mg base CX (k+1) f (W.fnOf name qual params body scope dV kV doc pm an cdv ct) ps sp:=by
 refine⟨len,fun A outer s H args us vs Q E hr e0 hb r hsp=>?_⟩;have hl:=len _ _ _ _ hsp;have KX:K.In s.heap:=e0.mod.r8.keeps fun b o e=>(e0.bs b o e).1;have lim:s.heap.NoLimit:=e0.mod.nolimit.keeps fun b o e=>(e0.bs b o e).1;have hkind:∀y∈ps.zip us,scope.names.lookup y.1=some .local\/(scope.names.lookup y.1=some .cell/\((cellsFrom (s.heap.objs.size+1) scope.names []).lookup y.1).isSome=true):=fun⟨n,v⟩ hy=>by
  rcases S.par n (yk hy).1 with q|q
  .exact .inl q
  .exact .inr ⟨q,W.cellsFrom_some _ _ _ (.inl q)⟩
 refine codeAny_call_function hr.depth (KX _ _ lk) rfl S.co S.gen rfl (W.codeRec_of KX hcd) (hb _ _ _ _ ?_);refine wpAny_newFunctionEnv_cells S.kind hkind fun env he s1 x=>?_;subst he;refine⟨lim.keeps x.toInCall.keep,codeAny_func ?_⟩;obtain⟨t,ht,hq⟩:=hbody A outer s H vs Q E (hr.deeper _) hsp;have I:Inv (qv CX P w K mg base N qual scope f cdv A outer s H E cl) [] (start N vs) H s1:=yL S hr.hd e0 hl r x;refine iJ (ht [] s1 (start N vs) H _ I hq) (fun fl s' hs=>?_) fun e s' hs=>hs;have fin:∀{σ':St}{H':Hp}{v:V}{u:Value},Inv (qv CX P w K mg base N qual scope f cdv A outer s H E cl) [] σ' H' s'->RelV v u->Q v H'->CE outer P w H s Q u s':=
  fun {σ' H' v u} J rv q=>⟨v,H',J.os,J.bare,J.base,J.aD,rv,q⟩
 cases fl with
 |ret u=>
  obtain⟨v,σ',H',J,rv,q⟩:=hs;exact fin J rv q
 |next=>
  obtain⟨σ',H',J,q⟩:=hs;exact fin (v:=V.aw) (u:=Value.none) J rfl q
 |brk=>
  obtain⟨_,_,_,q⟩:=hs;exact False.elim q
 |cont=>
  obtain⟨_,_,_,q⟩:=hs;exact False.elim q
section
variable {X:Cx}{x:Str}{p pos:Pos}{e:Expr}{es:List Expr}{t:TA}{id T:String}{r:List V->Hp->VK->Prop}
noncomputable def HG(r:List V->Hp->VK->Prop)(t:TA):TE:=fun σ H Q=>t σ H fun vs H1=>r vs H1 Q
theorem o7(hc:nO X (.builtin id) r)(hg:Gl X x)(hm:X.mg x=none)(hv:bootBuiltins x=some (.builtin id))(ha:PA X (e::es) t)(hn:x≠ "__name__" := by decide)(hdb:(x== ("__debug__" : Str))=false:=by decide)
  (he:starEach (e::es) X.env=(false,eval e X.env)::starEach es X.env:=by rfl) (hpl:(backTo pos (starEach es X.env)).any (·.1)=false:=by rfl):PE X (.Call (.Name x p) (e::es) [] pos) (HG r t):=by
 intro pins s σ H Q I h;refine jX (jv I hg hm hv ?_ hn hdb);exact PyProof.Rows.callWith_builtin1 (aG (ha pos pins s σ H _ I h) fun us s1 ⟨vs,H1,I1,r1,q1⟩=>hc pins s1 σ H1 vs us Q I1 r1 q1) he hpl
theorem rF(hc:nO X (.type T) r)(hg:Gl X x)(hm:X.mg x=none)(hv:bootBuiltins x=some (.type T))(ha:PA X (e::es) t)(hn:x≠ "__name__" := by decide)(hdb:(x== ("__debug__" : Str))=false:=by decide)
  (he:starEach (e::es) X.env=(false,eval e X.env)::starEach es X.env:=by rfl) (hpl:(backTo pos (starEach es X.env)).any (·.1)=false:=by rfl):PE X (.Call (.Name x p) (e::es) [] pos) (HG r t):=by
 intro pins s σ H Q I h;refine jX (jv I hg hm hv ?_ hn hdb);exact u4 (aG (ha pos pins s σ H _ I h) fun us s1 ⟨vs,H1,I1,r1,q1⟩=>hc pins s1 σ H1 vs us Q I1 r1 q1) he hpl
end
end L2
namespace HT
open PySem PyProof.Rows
section
open PySem.SeqAt
open PySem.AutoSeq1 (wpAny_loadPart')
open PySem.MeetsSeq PySem.MeetsSeq2 PySem.MeetsSeq3
end
section
variable {prog:Program}{w:World}{A:Around}{E:ba}{s:Shared}
theorem El{t b:Addr}{vs ws:List Value}{Q:ba}(ht:IsTup s.heap t vs.toArray)(hb:IsTup s.heap b ws.toArray)(hv:vs≠ [])
  (h1:ws=[]->Q (.ref t) s) (h2:ws≠ []->Q (.ref s.heap.objs.size) {s with heap:=s.heap.push {cls:=.type "tuple",data:=.seq (vs++ws).toArray}})
  (hsz:vs.length+ws.length<=sizeLine):wpAny (model prog w) A (binaryOp .Add (.ref t) (.ref b)) Q E s:=by
 obtain⟨⟨cls,dd,data,sl⟩,ho,hc,n,hd⟩:=id ht;obtain⟨⟨cls2,dd2,data2,sl2⟩,ho2,hc2,n2,hd2⟩:=id hb;simp only at hc hd hc2 hd2;subst hc hd hc2 hd2;have e:vs.toArray++ws.toArray=(vs++ws).toArray:=by simp
 by_cases hw:ws=[]
 .exact concat_meets ⟨_,ho,rfl⟩ ⟨_,ho2,rfl⟩ yD seq_tuple_add xJ xY (yf _ _)
   (tuple_addW1 t b vs.toArray ws.toArray n n2 dd dd2 sl sl2 (by simpa using hv) (by simp[hw])) ⟨ho,ho2,h1 hw⟩
 .refine concat_meets ⟨_,ho,rfl⟩ ⟨_,ho2,rfl⟩ yD seq_tuple_add xJ xY (yf _ _)
   (tuple_addW2 t b vs.toArray ws.toArray n n2 dd dd2 sl sl2 (by simpa using hv) (by simpa using hw) (by rw[cW,cW];exact hsz)) ⟨ho,ho2,?_⟩
  rw[e];exact h2 hw
def bc(n d:Nat):Option Int->Nat
 |none=>d
 |some v=>if v<0 then (v+(n:Int)).toNat else min v.toNat n
theorem Hv(n d:Nat)(hd:d<=n)(o:Option Int):bc n d o<=n:=by
 cases o with
 |none=>exact hd
 |some v=>
  show (if v<0 then (v+(n:Int)).toNat else min v.toNat n)<=n;by_cases hv:v<0
  .rw[if_pos hv];omega
  .rw[if_neg hv];exact Nat.min_le_right _ _
theorem wC(v:Int)(n d:Nat):(if v<0 then max (v+(n:Int)) 0 else min v (n:Int))=((bc n d (some v):Nat):Int):=by
 show (if v<0 then max (v+(n:Int)) 0 else min v (n:Int))=(((if v<0 then (v+(n:Int)).toNat else min v.toNat n):Nat):Int);by_cases hv:v<0
 .simp only[if_pos hv];omega
 .simp only[if_neg hv];omega
theorem xP(lo hi:Option Int)(n:Nat):Builtin.Slice.sliceAdjust lo hi 1 (n:Int)=(((bc n 0 lo:Nat):Int),((bc n n hi:Nat):Int)):=by
 have h1:¬ ((1:Int)<0):=by omega
 unfold Builtin.Slice.sliceAdjust;simp only[h1,if_false];refine Prod.ext ?_ ?_
 .cases lo with
  |none=>rfl
  |some v=>exact wC v n 0
 .cases hi with
  |none=>rfl
  |some v=>exact wC v n n
theorem yu(i j:Nat):Builtin.Slice.slicePlaces (i:Int) (j:Int) 1=j-i:=by
 unfold Builtin.Slice.slicePlaces;have h1:(1:Int) > 0:=by omega
 simp only[h1,gQ,Int.ediv_one];split<;>omega
theorem pP{v:Value}{o:Option Int}{Q:Option Int->Shared->Prop}(p:IsPart v o)(h:Q o s):wpAny (model prog w) A (Builtin.Slice.slicePartIndex v) Q E s:=by
 cases p with
 |none=>exact slicePart_none h
 |int i t=>exact slicePart_int h
theorem pE{sl:Addr}{vl vu:Value}{lo hi:Option Int}{n:Nat}{Q:Int×Int×Nat->Shared->Prop}(hs:s.heap.IsSliceOf sl vl vu .none)(pl:IsPart vl lo)(pu:IsPart vu hi)
  (h:Q (((bc n 0 lo:Nat):Int),1,bc n n hi-bc n 0 lo) s):wpAny (model prog w) A (Builtin.Slice.sliceApplied (.ref sl) (pure (n:Int))) Q E s:=by
 obtain⟨os,hos,hcs,ie⟩:=id hs;unfold Builtin.Slice.sliceApplied Builtin.Slice.sliceFields;refine aj (aj (gB hos ie (x:=vl) rfl (aj (gB hos ie (x:=vu) rfl (aj (gB hos ie (x:=.none) rfl (aM ?_)))))));refine aj (slicePart_none ?_);show wpAny _ _ (if ((1:Int)== 0)=true then _ else _) _ _ s;rw[if_neg (by decide)];refine aj (pP pl (aj (pP pu (aj (aM ?_)))));show wpAny _ _ (match Builtin.Slice.sliceAdjust lo hi 1 (n:Int) with|(lo,hi)=>pure (lo,(1:Int),Builtin.Slice.slicePlaces lo hi 1)) _ _ s;rw[xP lo hi n];show wpAny _ _ (pure (((bc n 0 lo:Nat):Int),(1:Int),Builtin.Slice.slicePlaces ((bc n 0 lo:Nat):Int) ((bc n n hi:Nat):Int) 1)) _ _ s;rw[yu];exact aM h
theorem AA(xs:Array Value)(i k:Nat):((List.range k).filterMap fun (m:Nat)=>xs[((i:Int)+(m:Int) * 1).toNat]?).toArray=((xs.toList.drop i).take k).toArray:=by
 have e:(fun (m:Nat)=>xs[((i:Int)+(m:Int) * 1).toNat]?)=fun m=>xs[i+m]?:=by
  funext m;have:((i:Int)+(m:Int) * 1).toNat=i+m:=by omega
  rw[this]
 rw[e];have:=pick_run xs i k;rw[List.filterMap_map] at this;have e2:((fun x=>xs[x]?) ∘ fun x=>i+x)=fun m=>xs[i+m]?:=rfl;rw[e2] at this;rw[this]
theorem oA{t sl:Addr}{items:Array Value}{vl vu:Value}{lo hi:Option Int}{Q:ba}(ht:IsTup s.heap t items)(hs:s.heap.IsSliceOf sl vl vu .none)(pl:IsPart vl lo)(pu:IsPart vu hi)
  (hw:¬ (bc items.size 0 lo=0/\bc items.size items.size hi=items.size))
  (h:Q (.ref s.heap.objs.size) {s with heap:=s.heap.push {cls:=.type "tuple",data:=.seq ((items.toList.drop (bc items.size 0 lo)).take (bc items.size items.size hi-bc items.size 0 lo)).toArray}})
  (hsz:items.size<=sizeLine):wpAny (model prog w) A (getItem (.ref t) (.ref sl)) Q E s:=by
 have htake:sizeOk (.seq ((items.toList.drop (bc items.size 0 lo)).take (bc items.size items.size hi-bc items.size 0 lo)).toArray):=by show ((items.toList.drop (bc items.size 0 lo)).take (bc items.size items.size hi-bc items.size 0 lo)).toArray.size<=sizeLine;rw[cW,m6,xu,CY];omega
 have hj:bc items.size items.size hi<=items.size:=Hv _ _ (aV _) hi;obtain⟨os,hos,hcs,ie⟩:=id hs;have hTs:s.TypeIs (.ref sl) "slice" := ⟨os,hos,hcs⟩;unfold getItem
 try with_reducible refine jW ?_
 first|refine aj (aM ?_)|skip
 refine aj (wpAny_sequenceKey ht.typeIs (by decide) ?_);refine aj (xB (name:=Str.ofString "__getitem__") ht.typeIs AE
  (sP AE ht.typeIs entry_tuple_getitem ?_ (args_tuple_getitem _ _)))
 show wpAny _ _ (Builtin.Tuple.tupleItemsOf (.ref t) >>= _) _ _ s;refine aj (tupleItemsOf_ ht ?_);refine aj (wpAny_typeOf hTs ?_);rw[if_pos (by decide)];refine aj (pE hs pl pu ?_);have hno:¬ ((((bc items.size 0 lo:Nat):Int)== 0&&(1:Int)== 1&&(bc items.size items.size hi-bc items.size 0 lo)== items.size)=true):=by intro q;rw[aE,aE] at q;have q1:((bc items.size 0 lo:Nat):Int)=0:=eq_of_beq q.1.1;have q2:bc items.size items.size hi-bc items.size 0 lo=items.size:=eq_of_beq q.2;exact hw ⟨by omega,by omega⟩
 show wpAny _ _ (if (((bc items.size 0 lo:Nat):Int)== 0&&(1:Int)== 1&&(bc items.size items.size hi-bc items.size 0 lo)== items.size)=true then _ else _) _ _ s;rw[if_neg hno,AA];first
  |exact aj (m:=Builtin.Tuple.tupleExact _) (jj (aM ⟨_,rfl,aM h⟩) htake)
  |exact aj (m:=Builtin.Tuple.tupleExact _) (jj (aj (aM (aM ⟨_,rfl,aM h⟩))) htake)
  |exact aj (aj (m:=Builtin.Tuple.tupleExact _) (jj (aM (aM ⟨_,rfl,aM h⟩)) htake))
  |exact aj (aj (m:=Builtin.Tuple.tupleExact _) (jj (aM ⟨_,rfl,aM h⟩) htake))
end
end HT
namespace L2
open PySem PySem.Spec PyProof.Rows
abbrev TO:=St->Hp->(Option Int->Hp->Prop)->Prop
def PO(X:Cx)(e:Option Expr)(t:TO):Prop:=
 ∀(pins:aL)(s:Shared)(σ:St)(H:Hp)(Q:Option Int->Hp->Prop),Inv X pins σ H s->t σ H Q->
  wpAny (model X.prog X.w) X.A (evalPart e X.env) (fun u s'=>∃o H',Inv X pins σ H' s'/\IsPart u o/\Q o H') X.xe s
noncomputable def DG:TO:=fun _ H Q=>Q none H
noncomputable def Kp(t:TE):TO:=fun σ H Q=>t σ H fun x H1=>∃i,x=.int i/\Q (some i) H1
section
variable {X:Cx}{e:Expr}{te:TE}{lo hi:Option Expr}{tl th:TO}{pos p2:Pos}
theorem DM:PO X none DG:=by intro pins s σ H Q I h;rw[evalPart_none];exact aM ⟨none,H,I,.none,h⟩
theorem Ec(h:PE X e te):PO X (some e) (Kp te):=by intro pins s σ H Q I hw;rw[evalPart_some];refine aG (h pins s σ H _ I hw) fun u s1 ⟨x,H1,I1,r1,q1⟩=>?_;obtain⟨i,rfl,q⟩:=q1;obtain⟨t,rfl⟩:=r1;exact⟨some i,H1,I1,.int i t,q⟩
def Lk(X:Cx)(r:V->Option Int->Option Int->Hp->VK->Prop):Prop:=
 ∀(pins:aL)(s:Shared)(σ:St)(H:Hp)(x:V)(v vl vu:Value)(lo hi:Option Int)(sl:Addr)(Q:VK),Inv X pins σ H s->RelV x v->s.heap.IsSliceOf sl vl vu .none->IsPart vl lo->IsPart vu hi->r x lo hi H Q->
  ∃T id,typeLookup (.type T) "__getitem__" = pure (some (.builtin id))/\s.TypeIs v T/\wpAny (model X.prog X.w) X.A (getItem v (.ref sl)) (EP X pins σ Q) X.xe s
noncomputable def N4(r:V->Option Int->Option Int->Hp->VK->Prop)(te:TE)(tl th:TO):TE:=fun σ H Q=>te σ H fun x H1=>tl σ H1 fun l H2=>th σ H2 fun u H3=>r x l u H3 Q
theorem AJ{r:V->Option Int->Option Int->Hp->VK->Prop}(hr:Lk X r)(he:PE X e te)(hl:PO X lo tl)(hu:PO X hi th):PE X (.Subscript e (.Slice lo hi none p2) pos) (N4 r te tl th):=by intro pins s σ H Q I h;refine Subscript_ (aG (he pins s σ H _ I h) fun v s1 ⟨x,H1,I1,r1,q1⟩=>?_);refine wpAny_Slice (aG (hl pins s1 σ H1 _ I1 q1) fun vl s2 ⟨l,H2,I2,pl,q2⟩=>aG (hu pins s2 σ H2 _ I2 q2) fun vu s3 ⟨u,H3,I3,pu,q3⟩=>?_);rw[evalPart_none];refine aM ?_;have I4:Inv X pins σ H3 {s3 with heap:=s3.heap.push {cls:=.type "slice",data:=.fields #[vl,vu,.none]}}:=I3.kept (t':=s3.toks) fun b ob q=>bX _ q;obtain⟨T,id,hT,ht,hg⟩:=hr pins {s3 with heap:=s3.heap.push {cls:=.type "slice",data:=.fields #[vl,vu,.none]}} σ H3 x v vl vu l u s3.heap.objs.size Q I4 r1 (Heap.IsSliceOf.new ..) pl pu q3;show wpAny (model X.prog X.w) X.A (subscriptTail e (.Slice lo hi none p2) v (.ref s3.heap.objs.size)) (EP X pins σ Q) X.xe {s3 with heap:=s3.heap.push {cls:=.type "slice",data:=.fields #[vl,vu,.none]}};exact tail_any (ops:=[.ref s3.heap.objs.size,v]) ht hT hg (by with_unfolding_all rfl)
noncomputable def qP(xs:List V)(lo hi:Option Int):List V:=(xs.drop (HT.bc xs.length 0 lo)).take (HT.bc xs.length xs.length hi-HT.bc xs.length 0 lo)
theorem vC(xs:List V)(lo hi:Option Int):(qP xs lo hi).length<=xs.length:=by unfold qP;rw[m6,xu];omega
def Ip(K:W.Frag):V->Option Int->Option Int->Hp->VK->Prop:=fun x lo hi H Q=>∃a xs,x=.ref a/\dW K H a xs/\
 ¬ (HT.bc xs.length 0 lo=0/\HT.bc xs.length xs.length hi=xs.length)/\∀p,H p=none->Q (.ref p) (upd H p (.tup (qP xs lo hi)))
theorem E8:Lk X (Ip X.K):=by
 intro pins s σ H x v vl vu lo hi sl Q I rx hs pl pu h;obtain⟨a,xs,rfl,hx,hw,q⟩:=h;cases rx;obtain⟨its,r,ht,hz⟩:=I.tuple hx;have hlen:its.toArray.size=xs.length:=by rw[cW];exact r.length.symm
 refine⟨"tuple",_,AE.lookup,ht.typeIs,?_⟩;refine HT.oA ht hs pl pu (by rw[hlen];exact hw) ?_ (by rw[hlen];exact hz);rw[hlen];refine⟨.ref s.heap.objs.size,_,I.laid (t':=s.toks) (o:=.tup (qP xs lo hi)) (fun b ob q=>bX _ q) (aV _) ?_,rfl,q _ (I.aD.fresh (aV _))⟩;exact⟨bW (vC xs lo hi) hz,_,(r.drop (HT.bc xs.length 0 lo)).take (HT.bc xs.length xs.length hi-HT.bc xs.length 0 lo),IsTup.new _ _⟩
def Dh(K:W.Frag):R2:=fun x y H Q=>∃a b xs ys,x=.ref a/\y=.ref b/\dW K H a xs/\dW K H b ys/\xs≠ []/\xs.length+ys.length<=sizeLine/\
 (ys=[]->Q (.ref a) H)/\(ys≠ []->∀p,H p=none->Q (.ref p) (upd H p (.tup (xs++ys))))
theorem Vals.qI{xs:List V}{us:List Value}(r:Vals xs us):us=[]↔xs=[]:=by
 cases r with
 |nil=>simp
 |cons _ _=>simp
theorem DL:cT X (binaryOp .Add) (Dh X.K):=by intro pins s σ H x y v u Q I rx ry h;obtain⟨a,b,xs,ys,rfl,rfl,ha,hb,hx,hz,q1,q2⟩:=h;cases rx;cases ry;obtain⟨its,r1,p1,_⟩:=I.tuple ha;obtain⟨its2,r2,p2,_⟩:=I.tuple hb;refine HT.El p1 p2 (fun z=>hx (r1.qI.mp z)) (fun z=>⟨.ref a,H,I,rfl,q1 (r2.qI.mp z)⟩) (fun z=>?_) (by rw[<-r1.length,<-r2.length];exact hz);refine⟨.ref s.heap.objs.size,_,I.laid (t':=s.toks) (o:=.tup (xs++ys)) (fun b ob q=>bX _ q) (aV _) ?_,rfl,q2 (fun w=>z (r2.qI.mpr w)) _ (I.aD.fresh (aV _))⟩;exact⟨by rw[gR];exact hz,_,r1.append r2,IsTup.new _ _⟩
end
noncomputable def ij(n:Nat)(i:Int):Option Nat:=if 0<=i then (if i<n then some i.toNat else none) else if -(n:Int)<=i then some (i+n).toNat else none
def dC{α:Type}(xs:List α)(i:Int):Option α:=(ij xs.length i).bind fun j=>xs[j]?
theorem wJ{n:Nat}{i:Int}{j:Nat}(h:ij n i=some j):seqIndex? i n=some j/\j<n/\ -(n:Int)<=i/\i<n:=by
 unfold ij at h;by_cases h0:0<=i
 .rw[if_pos h0] at h;by_cases h1:i<n
  .rw[if_pos h1] at h;have e:i.toNat=j:=kL h;exact⟨by rw[seqIndex_of h0 h1,e],by omega,by omega,h1⟩
  .rw[if_neg h1] at h;cases h
 .rw[if_neg h0] at h;by_cases h1: -(n:Int)<=i
  .rw[if_pos h1] at h;have e:(i+n).toNat=j:=kL h;exact⟨by rw[seqIndex_neg (by omega) h1,e],by omega,h1,by omega⟩
  .rw[if_neg h1] at h;cases h
theorem qN{α:Type}{xs:List α}{i:Int}{v:α}(h:dC xs i=some v):∃j,seqIndex? i xs.length=some j/\xs[j]?=some v/\j<xs.length/\ -(xs.length:Int)<=i/\i<xs.length:=by
 unfold dC at h;cases e:ij xs.length i with
 |none=>rw[e] at h;cases h
 |some j=>
  rw[e] at h;obtain⟨h1,h2,h3,h4⟩:=wJ e;exact⟨j,h1,h,h2,h3,h4⟩
theorem f6{α:Type}{xs:List α}{j:Nat}{v:α}(h:xs[j]?=some v):dC xs (j:Int)=some v:=by
 have hj:j<xs.length:=(ib.mp h).1;have e:ij xs.length (j:Int)=some j:=by unfold ij;rw[if_pos (by omega),if_pos (by omega)];simp
 unfold dC;rw[e];exact h
def qW(b:Expr):Prop:=∀o i,subscripted b false o i=operate [o,i] (getItem o i)
def ql(X:Cx)(r:R2):Prop:=
 ∀(value slice:Expr)(pins:aL)(s:Shared)(σ:St)(H:Hp)(x y:V)(v u:Value)(Q:VK),Inv X pins σ H s->RelV x v->RelV y u->r x y H Q->
  subscripted slice false v u=operate [v,u] (getItem v u)->wpAny (model X.prog X.w) X.A (subscriptTail value slice v u) (EP X pins σ Q) X.xe s
def K4(X:Cx)(id:String)(r:V->List V->Hp->VK->Prop):Prop:=
 ∀(pins:aL)(s:Shared)(σ:St)(H:Hp)(x:V)(xs:List V)(v:Value)(us:List Value)(Q:VK),Inv X pins σ H s->RelV x v->Vals xs us->r x xs H Q->
  wpAny (model X.prog X.w) X.A (call (.builtin id) (v::us)) (EP X pins σ Q) X.xe s
section
variable {X:Cx}{a b:Expr}{ta tb:TE}{pos:Pos}
theorem ql.or{r r':R2}(h:ql X r)(h':ql X r'):ql X (fun x y H Q=>r x y H Q\/r' x y H Q):=by
 intro value slice pins s σ H x y v u Q I rx ry q hs;rcases q with q|q
 .exact h value slice pins s σ H x y v u Q I rx ry q hs
 .exact h' value slice pins s σ H x y v u Q I rx ry q hs
theorem Jw{r:R2}(hr:ql X r)(ha:PE X a ta)(hb:PE X b tb)(hs:qW b):PE X (.Subscript a b pos) (zi r ta tb):=by intro pins s σ H Q I h;exact Subscript_ (AS ha hb I h fun v u s2 x y H2 I2 rx ry q=>hr a b pins s2 σ H2 x y v u Q I2 rx ry q (hs _ _))
def F5(K:W.Frag):R2:=fun x y H Q=>∃p xs i v,x=.ref p/\y=.int i/\dh K H p xs/\dC xs i=some v/\Q v H
def FZ(K:W.Frag):R2:=fun x y H Q=>∃p xs i v,x=.ref p/\y=.int i/\dW K H p xs/\dC xs i=some v/\Q v H
def Hf:R2:=fun x y H Q=>∃z i c,x=.str z/\y=.int i/\z.length<=sizeLine/\dC z.cps.toList i=some c/\Q (.str ⟨#[c]⟩) H
theorem Ek:ql X (F5 X.K):=by
 intro value slice pins s σ H x y v u Q I rx ry h hs;obtain⟨p,xs,i,z,rfl,rfl,hq,he,q⟩:=h;cases rx;obtain⟨t,rfl⟩:=ry;obtain⟨its,r,pl,hz⟩:=I.list hq;obtain⟨j,h1,h2,h3,h4,h5⟩:=qN he;obtain⟨w,ew,rw'⟩:=r.get h2;have hl:=r.length;have hn:=k9;have fin:EP X pins σ Q w s:=⟨z,H,I,rw',q⟩;by_cases h0:0<=i
 .have hj:i.toNat=j:=by
   rw[seqIndex_of h0 h5] at h1;exact kL h1
  exact item_listR pl.isList h0 (by omega) (by rw[hj];simpa using ew) fin hs
 .have hj:(i+(its.toArray.size:Int)).toNat=j:=by
   rw[seqIndex_neg (by omega) h4] at h1;rw[cW,<-hl];exact kL h1
  exact subscriptTail_builtinR (x:=w) pl.isList.typeIs slot_list_getitem.lookup
   (wpAny_getItem_list_neg (Q:=fun r s'=>r=w/\EP X pins σ Q r s') pl.isList (by omega) (by rw[cW]<;>omega) (by omega) (by rw[hj];simpa using ew) ⟨rfl,fin⟩) hs
theorem Fs:ql X (FZ X.K):=by
 intro value slice pins s σ H x y v u Q I rx ry h hs;obtain⟨p,xs,i,z,rfl,rfl,hq,he,q⟩:=h;cases rx;obtain⟨t,rfl⟩:=ry;obtain⟨its,r,pl,hz⟩:=I.tuple hq;obtain⟨j,h1,h2,h3,h4,h5⟩:=qN he;obtain⟨w,ew,rw'⟩:=r.get h2;have hl:=r.length;have hn:=k9;have fin:EP X pins σ Q w s:=⟨z,H,I,rw',q⟩;exact subscriptTail_builtinR (x:=w) pl.typeIs slot_tuple_getitem.lookup
  (getItem_tuple (j:=j) (Q:=fun r s'=>r=w/\EP X pins σ Q r s') pl (by omega) (by omega) (by rw[cW,<-hl];exact h1) (by simpa using ew) ⟨rfl,fin⟩) hs
theorem GU:ql X Hf:=by
 intro value slice pins s σ H x y v u Q I rx ry h hs;obtain⟨z,i,c,rfl,rfl,hz,he,q⟩:=h;obtain⟨t,rfl⟩:=rx;obtain⟨t',rfl⟩:=ry;obtain⟨j,h1,h2,h3,h4,h5⟩:=qN he;have hl:z.cps.toList.length=z.length:=by simp[Str.length]
 rw[hl] at h1 h4 h5;have hn:=k9;exact tail_any (typeIs_str s z t) slot_str_getitem.lookup (getItem_str (c:=c) (by have e1:decide (i < -(2 ^ 63:Int))=false:=bA (by omega);have e2:decide (i ≥ 2 ^ 63)=false:=bA (by omega);rw[e1,e2,Bool.or_false]) (by rw[h1];simpa using h2) ⟨.str ⟨#[c]⟩,H,I.tok _,⟨_,rfl⟩,q⟩) hs
def G6(K:W.Frag):R2:=fun x y H Q=>F5 K x y H Q\/FZ K x y H Q\/Hf x y H Q
theorem HI:ql X (G6 X.K):=Ek.or (Fs.or GU)
theorem xm(its:List Value)(n j:Nat)(u:Value):Obj.mapSeq (·.setIfInBounds j u) {cls:=.type "list",data:=.seq its.toArray n}={cls:=.type "list",data:=.seq (its.set j u).toArray n}:=by simp[Obj.mapSeq]
theorem Inv.lst{pins:aL}{σ:St}{H:Hp}{s:Shared}{p:Addr}{xs:List V}(I:Inv X pins σ H s)(h:H p=some (.lst xs)):
  ∃(its:List Value) (n:Nat),Vals xs its/\s.heap.get? p=some {cls:=.type "list",data:=.seq its.toArray n}/\xs.length<=sizeLine:=by
 obtain⟨z,its,n,r,e⟩:=I.aD p _ h;exact⟨its,n,r,e,z⟩
theorem Inv.GX{pins:aL}{σ:St}{H:Hp}{s:Shared}{p:Addr}{xs ys:List V}{its its':List Value}{n n':Nat}{f:Obj->Obj}(I:Inv X pins σ H s)(h:H p=some (.lst xs))
  (ho:s.heap.get? p=some {cls:=.type "list",data:=.seq its.toArray n}) (hf:f {cls:=.type "list",data:=.seq its.toArray n}={cls:=.type "list",data:=.seq its'.toArray n'}) (r:Vals ys its') (hz:ys.length<=sizeLine) (t:Nat):
  Inv X pins σ (upd H p (.lst ys)) {s with heap:=s.heap.update p f,toks:=t}:=by
 have e:(s.heap.update p f).get? p=some {cls:=.type "list",data:=.seq its'.toArray n'}:=by rw[qZ f ho (by rw[hf]<;>rfl),hf]
 refine I.write (x:=p) (e:=p) (by rw[h];trivial) (.inl rfl) (fun b u hb q=>(mS _ _ (bo hb)).trans q) ⟨_,e⟩ ?_;exact⟨hz,its',n',r,e⟩
def CU:V->V->V->Hp->(Hp->Prop)->Prop:=fun o i v H Q=>∃p xs k j,o=.ref p/\i=.int k/\H p=some (.lst xs)/\ij xs.length k=some j/\Q (upd H p (.lst (xs.set j v)))
theorem set_list:FP X CU:=by
 intro pins s σ H o i v ov iv u Q I ro ri rv h;obtain⟨p,xs,k,j,rfl,rfl,hp,hj,q⟩:=h;cases ro;obtain⟨t,rfl⟩:=ri;obtain⟨its,n,r,ho,hz⟩:=I.lst hp;obtain⟨h1,h2,h3,h4⟩:=wJ hj;have hl:=r.length;have hn:=k9;have I':Inv X pins σ (upd H p (.lst (xs.set j v))) {s with heap:=s.heap.update p (Obj.mapSeq (·.setIfInBounds j u))}:=
  I.GX hp ho (xm its n j u) (r.set rv j) (by rw[uK];exact hz) s.toks
 by_cases h0:0<=k
 .have hk:k.toNat=j:=by
   rw[seqIndex_of h0 h4] at h1;exact kL h1
  exact W.ki_setAt ho h0 (by omega) (by rw[cW,<-hl];exact h4) (by rw[hk];exact⟨_,I',q⟩)
 .have hk:(k+(its.toArray.size:Int)).toNat=j:=by
   rw[seqIndex_neg (by omega) h3] at h1;rw[cW,<-hl];exact kL h1
  exact W.ki_setBack ho (by omega) (by rw[cW,<-hl];exact h3) (by omega) (by rw[hk];exact⟨_,I',q⟩)
theorem tY:nO X (.builtin "len") (fun xs H Q=>∃p ys,xs=[.ref p]/\(dh X.K H p ys\/dW X.K H p ys)/\Q (.int ys.length) H):=by
 intro pins s σ H xs us Q I r h;obtain⟨p,ys,rfl,hq,q⟩:=h;obtain⟨u,rfl,rx⟩:=vals1 r;cases rx;have hn:=k9;rcases hq with hq|hq
 .obtain⟨its,r',pl,hz⟩:=I.list hq;have hlen:=r'.length;exact Calls.call_len_list pl.isList (by simp only[cW]<;>omega) ⟨.int ys.length,H,I.tok _,⟨s.toks+1,by rw[cW,hlen]⟩,q⟩
 .obtain⟨its,r',pl,hz⟩:=I.tuple hq;have hlen:=r'.length;exact len_tuple pl (by simp only[cW]<;>omega) ⟨.int ys.length,H,I.tok _,⟨s.toks+1,by rw[cW,hlen]⟩,q⟩
theorem tM:nO X (.type "list") (fun xs H Q=>∃p ys,xs=[.ref p]/\(dh X.K H p ys\/dW X.K H p ys)/\∀l,H l=none->Q (.ref l) (upd H l (.lst ys))):=by
 intro pins s σ H xs us Q I r h;obtain⟨p,ys,rfl,hq,q⟩:=h;obtain⟨u,rfl,rx⟩:=vals1 r;cases rx;have fin:∀(its:List Value),Vals ys its->ys.length<=sizeLine->∀(h':Heap)(c':Nat),(∀b o',s.heap.get? b=some o'->h'.get? b=some o')->
   h'.get? s.heap.objs.size=some {cls:=.type "list",dict:=none,data:=.seq its.toArray c',slots:=#[]}->EP X pins σ Q (.ref s.heap.objs.size) {s with heap:=h'}:=fun its r' hz h' c' kp e=>
  ⟨.ref s.heap.objs.size,_,I.laid (t':=s.toks) kp (aV _) (show dM X.prog X.w _ h' _ (.lst ys) from ⟨hz,its,c',r',e⟩),rfl,q _ (I.aD.fresh (aV _))⟩
 rcases hq with hq|hq
 .obtain⟨its,r',pl,hz⟩:=I.list hq;have hlen:=r'.length;obtain⟨o,ho,hc,n,hd⟩:=pl.isList;exact call_list_seq p (.inl rfl) ho hc hd (fun h' c' kp e=>fin its r' hz h' c' kp e) (by simp only[cW]<;>omega)
 .obtain⟨its,r',pl,hz⟩:=I.tuple hq;have hlen:=r'.length;obtain⟨o,ho,hc,n,hd⟩:=pl;exact call_list_seq p (.inr rfl) ho hc hd (fun h' c' kp e=>fin its r' hz h' c' kp e) (by simp only[cW]<;>omega)
def Gb(K:W.Frag)(T:String)(x:V)(H:Hp):Prop:=match x with
 |.str _=>T= "str"
 |.int _=>T= "int"
 |.ref p=>(T= "list" /\∃xs,dh K H p xs)\/(T= "tuple" /\∃o,K.lookup p=some o/\o.cls=.type "tuple" /\o.dict=none)\/
   (T= "dict" /\((∃kvs,H p=some (.dK kvs))\/∃kvs,H p=some (.dT kvs)))\/(T= "set" /\∃S n,H p=some (.set S n))
 |_=>False
theorem zH{pins:aL}{σ:St}{H:Hp}{s:Shared}{T:String}{x:V}{v:Value}(I:Inv X pins σ H s)(r:RelV x v)(ty:Gb X.K T x H):
  s.TypeIs v T/\∀a,v=.ref a->∃ob,s.heap.get? a=some ob/\ob.dict=none:=by
 cases x with
 |str z=>
  obtain⟨t,rfl⟩:=r;cases (show T= "str" from ty);exact⟨typeIs_str s z t,fun _ e=>nomatch e⟩
 |int i=>
  obtain⟨t,rfl⟩:=r;cases (show T= "int" from ty);exact⟨typeIs_int s i t,fun _ e=>nomatch e⟩
 |ref p=>
  cases r;rcases ty with ⟨rfl,xs,hq⟩|⟨rfl,o,hk,hc,hd⟩|⟨rfl,hk⟩|⟨rfl,S,n,hk⟩
  .obtain⟨its,_,pl,_⟩:=I.list hq;refine⟨pl.isList.typeIs,fun a e=>?_⟩;cases e;obtain⟨o,n,e,c,hd,_⟩:=pl;exact⟨o,e,hd⟩
  .refine⟨⟨o,I.dP p o hk,hc⟩,fun a e=>?_⟩;cases e;exact⟨o,I.dP _ o hk,hd⟩
  .have z:∃o,s.heap.get? p=some o/\o.ExactDict:=by
    rcases hk with ⟨kvs,hk⟩|⟨kvs,hk⟩
    .obtain⟨_,_,_,_,o,_,_,e,ex,_⟩:=I.aD p _ hk;exact⟨o,e,ex⟩
    .obtain⟨_,_,_,_,o,_,_,e,ex,_⟩:=I.aD p _ hk;exact⟨o,e,ex⟩
   obtain⟨o,e,ex⟩:=z;refine⟨⟨o,e,ex.1⟩,fun a e2=>?_⟩;cases e2;exact⟨o,e,ex.2.1⟩
  .obtain⟨o,_,_,_,e,ex,_⟩:=I.aD p _ hk;refine⟨⟨o,e,ex.1⟩,fun a e2=>?_⟩;cases e2;exact⟨o,e,ex.2.1⟩
 |_=>exact False.elim ty
noncomputable def Nl(K:W.Frag)(T:String)(r:V->List V->Hp->VK->Prop)(to:TE):TE:=fun σ H Q=>to σ H fun x H1=>Gb K T x H1/\r x [] H1 Q
noncomputable def Og(K:W.Frag)(T:String)(r:V->List V->Hp->VK->Prop)(to:TE)(t:TA):TE:=fun σ H Q=>to σ H fun x H1=>Gb K T x H1/\t σ H1 fun xs H2=>r x xs H2 Q
variable {o e:Expr}{es:List Expr}{to:TE}{t:TA}{name:Str}{apos cpos:Pos}{T id:String}{r:V->List V->Hp->VK->Prop}
theorem zK(pa:PlainAttrs T)(slot:Slot T name id)(hty:typeOf (.builtin id)=pure (.type "method_descriptor"))(hm:K4 X id r)(ho:PE X o to)
  (hbase:attributeBase o name X.env (eval o X.env)=eval o X.env:=by rfl) (hline:(apos.endLine== cpos.line)=true:=by rfl):PE X (.Call (.Attribute o name apos) [] [] cpos) (Nl X.K T r to):=by
 intro pins s σ H Q I h;refine wpAny_Call_method0_late hbase hline (aG (ho pins s σ H _ I h) fun v s1 ⟨x,H1,I1,r1,ty,q1⟩=>?_);obtain⟨h1,h2⟩:=zH I1 r1 ty;exact⟨T,id,pa,slot,hty,h1,h2,Calls.callWith_builtin rfl (PySem.evalArgs_none (hm pins s1 σ H1 x [] v [] Q I1 r1 .nil q1))⟩
theorem J9(pa:PlainAttrs T)(slot:Slot T name id)(hty:typeOf (.builtin id)=pure (.type "method_descriptor"))(hm:K4 X id r)(ho:PE X o to)(ha:PA X (e::es) t)
  (hbase:attributeBase o name X.env (eval o X.env)=eval o X.env:=by rfl)
  (hfew:((backTo cpos (starEach (e::es) X.env)).all (fun x=>!x.1)&&(backToKw cpos (keywordEach [] X.env)).all (fun x=>x.1.isSome)
   && decide ((e::es).length+([]:List Keyword).length+(if ([]:List Keyword).isEmpty then 0 else 1)<30))=true:=by rfl)
  (hline:(apos.endLine== cpos.line)=true:=by rfl) (hs:starEach (e::es) X.env=(false,eval e X.env)::starEach es X.env:=by rfl) (hplain:(backTo cpos (starEach es X.env)).any (·.1)=false:=by rfl):
  PE X (.Call (.Attribute o name apos) (e::es) [] cpos) (Og X.K T r to t):=by
 intro pins s σ H Q I h;refine wpAny_Call_method_late hbase hfew hline rfl (aG (ho pins s σ H _ I h) fun v s1 ⟨x,H1,I1,r1,ty,q1⟩=>?_);obtain⟨h1,h2⟩:=zH I1 r1 ty;refine⟨T,id,pa,slot,hty,h1,h2,?_⟩;have hA:=ha cpos pins s1 σ H1 _ I1 q1;rw[hs] at hA⊢;refine Calls.callWith_builtin (by show (false || (backTo cpos (starEach es X.env)).any (·.1))=false;rw[hplain]<;>rfl) (Calls.evalArgs_plain ?_);exact aG hA fun us s2 ⟨vs,H2,I2,r2,q2⟩=>hm pins s2 σ H2 x vs v us Q I2 r1 r2 q2
end
def Hq(X:Cx)(id:String)(r:V->List V->Hp->VK->Prop):Prop:=
 ∀(pins:aL)(s:Shared)(σ:St)(H:Hp)(x:V)(xs:List V)(v:Value)(us:List Value)(Q:VK),Inv X pins σ H s->RelV x v->Vals xs us->r x xs H Q->
  wpAny (model X.prog X.w) X.A (call (.builtin id) (v::us)) (EP X pins σ Q) X.xe s
theorem Vals.one:∀{x:V}{us:List Value},Vals [x] us->∃u,us=[u]/\RelV x u
 |_,_,.cons r .nil=>⟨_,rfl,r⟩
theorem Vals.zero:∀{us:List Value},Vals [] us->us=[]
 |_,.nil=>rfl
theorem Vals.dropLast{xs:List V}{us:List Value}(h:Vals xs us):Vals xs.dropLast us.dropLast:=by
 induction h with
 |nil=>exact .nil
 |cons r t ih=>
  cases t with
  |nil=>exact .nil
  |cons q t'=>exact .cons r ih
theorem Vals.reverse{xs:List V}{us:List Value}(h:Vals xs us):Vals xs.reverse us.reverse:=by
 induction h with
 |nil=>exact .nil
 |cons r t ih=>rw[xN,xN];exact Vals.append ih (.cons r .nil)
theorem xn{α:Type}(l:List α):l.eraseIdx (l.length-1)=l.dropLast:=by
 induction l with
 |nil=>rfl
 |cons a r ih=>
  cases r with
  |nil=>rfl
  |cons b r=>
   have e:(a::b::r).length-1=((b::r).length-1)+1:=by have h1:(a::b::r).length=r.length+2:=rfl;have h2:(b::r).length=r.length+1:=rfl;omega
   rw[e,List.eraseIdx_cons_succ,ih]
   all_goals rfl
section
variable {X:Cx}{pins:aL}{σ:St}{H:Hp}{s:Shared}{l b:Addr}{xs ys zs:List V}
theorem Inv.BX{its its':List Value}{n:Nat}{f:Array Value->Array Value}{t':Nat}(I:Inv X pins σ H s)(hH:H l=some (.lst xs))
  (e:s.heap.get? l=some {cls:=.type "list",data:=.seq its.toArray n}) (hf:f its.toArray=its'.toArray) (hv:Vals ys its') (hz:ys.length<=sizeLine):
  Inv X pins σ (upd H l (.lst ys)) {s with heap:=s.heap.update l (Obj.mapSeq f),toks:=t'}:=by
 have q:=PySem.IsL.update e f;rw[hf] at q;refine I.write (x:=l) (e:=l) (by rw[hH];exact trivial) (.inl rfl) (fun b' u hb hu=>(mS s.heap (Obj.mapSeq f) (bo hb)).trans hu) ⟨_,q⟩ ?_;exact⟨hz,its',_,hv,q⟩
theorem Inv.Ng{its:List Value}{t':Nat}(I:Inv X pins σ H s)(hv:Vals ys its)(hz:ys.length<=sizeLine):
  Inv X pins σ (upd H s.heap.objs.size (.lst ys)) {s with heap:=s.heap.push {cls:=.type "list",data:=.seq its.toArray},toks:=t'}:=
 I.laid (fun _ _ q=>bX _ q) (aV _) ⟨hz,its,0,hv,gk _ rfl⟩
theorem Inv.fresh(I:Inv X pins σ H s):H s.heap.objs.size=none:=I.aD.fresh (aV _)
theorem Inv.sY(I:Inv X pins σ H s)(hH:H l=some (.lst xs)):xs.length<=sizeLine/\∃(its:List Value) (n:Nat),Vals xs its/\xs.length=its.length/\s.heap.get? l=some {cls:=.type "list",data:=.seq its.toArray n}:=by obtain⟨z,its,n,r,e⟩:=I.aD l _ hH;exact⟨z,its,n,r,r.length,e⟩
end
section
variable {X:Cx}
def Ep:V->List V->Hp->VK->Prop:=fun x vs H Q=>∃l xs y,x=.ref l/\vs=[y]/\H l=some (.lst xs)/\xs.length<sizeLine/\Q .aw (upd H l (.lst (xs++[y])))
theorem sx:Hq X "list.append" Ep:=by intro pins s σ H x vs v us Q I rx rv h;obtain⟨l,xs,y,rfl,rfl,hH,hz,q⟩:=h;cases rx;obtain⟨u,rfl,ru⟩:=rv.one;obtain⟨z,its,n,r,hl,e⟩:=I.sY hH;refine call_meets F.slot_list_append ⟨_,e,rfl⟩ F.entry_list_append (F.args_list_append_2 _ _) (PySem.list_append l its.toArray n u (by rw[cW];omega)) ⟨e,?_⟩;refine⟨.aw,_,I.BX (its':=its++[u]) hH e (by simp) (r.append (.cons ru .nil)) ?_,rfl,q⟩;rw[gR,List.length_singleton];omega
def LZ:V->List V->Hp->VK->Prop:=fun x vs H Q=>∃l xs y,x=.ref l/\vs=[]/\H l=some (.lst xs)/\xs[xs.length-1]?=some y/\Q y (upd H l (.lst xs.dropLast))
theorem Ia:Hq X "list.pop" LZ:=by
 intro pins s σ H x vs v us Q I rx rv h;obtain⟨l,xs,y,rfl,rfl,hH,hy,q⟩:=h;cases rx;have hus:=rv.zero;subst hus;obtain⟨z,its,n,r,hl,e⟩:=I.sY hH;obtain⟨u,hu,ru⟩:=r.get hy;have hy':its.toArray[its.toArray.size-1]?=some u:=by show its.toArray[its.length-1]?=some u;rw[<-Array.getElem?_toList,<-hl];exact hu
 refine call_meets F.slot_list_pop ⟨_,e,rfl⟩ F.entry_list_pop (F.args_list_pop_1 _) (MeetsSeq.list_pop_last l its.toArray n u hy' (by rw[cW];omega)) ⟨e,?_⟩;refine⟨y,_,I.BX (its':=its.dropLast) hH e ?_ r.dropLast ?_,ru,q⟩
 .show its.toArray.eraseIdxIfInBounds (its.toArray.size-1)=its.dropLast.toArray;rw[cW,List.eraseIdxIfInBounds_toArray,xn]
 .rw[List.length_dropLast];omega
def AL:V->List V->Hp->VK->Prop:=fun x vs H Q=>∃l xs,x=.ref l/\vs=[]/\H l=some (.lst xs)/\Q .aw (upd H l (.lst xs.reverse))
theorem yz:Hq X "list.reverse" AL:=by intro pins s σ H x vs v us Q I rx rv h;obtain⟨l,xs,rfl,rfl,hH,q⟩:=h;cases rx;have hus:=rv.zero;subst hus;obtain⟨z,its,n,r,hl,e⟩:=I.sY hH;refine call_meets F.slot_list_reverse ⟨_,e,rfl⟩ F.entry_list_reverse (F.args_list_reverse_1 _) (AutoSeq1.list_reverse_list_0 l its.toArray n (by rw[cW];omega)) ⟨e,?_⟩;refine⟨.aw,_,I.BX (its':=its.reverse) hH e (by simp) r.reverse ?_,rfl,q⟩;rw[List.length_reverse];omega
def Hz:R2:=fun x y H Q=>∃l b xs zs,x=.ref l/\y=.ref b/\H l=some (.lst xs)/\H b=some (.lst zs)/\xs.length+zs.length<=sizeLine/\∀p,H p=none->Q (.ref p) (upd H p (.lst (xs++zs)))
theorem Ik:cT X (binaryOp .Add) Hz:=by
 intro pins s σ H x y v u Q I rx ry h;obtain⟨l,b,xs,zs,rfl,rfl,hH,hB,hz,q⟩:=h;cases rx;cases ry;obtain⟨z,its,n,r,hl,e⟩:=I.sY hH;obtain⟨z2,its2,n2,r2,hl2,e2⟩:=I.sY hB;refine PySem.P.add_list e e2 ?_ (by rw[cW,cW];omega);have ea:its.toArray++its2.toArray=(its++its2).toArray:=by simp
 rw[ea];exact⟨.ref _,_,I.Ng (t':=s.toks) (r.append r2) (by rw[gR];omega),rfl,q _ I.fresh⟩
end
section
variable {prog:Program}{w:World}{A:Around}{E:ba}{s:Shared}
set_option maxRecDepth 100000 in
end
section
variable {X:Cx}
end
section
variable {κ:Type} [DecidableEq κ]
end
section
variable {P:Program}{w:World}{H:Hp}{h:Heap}{a:Addr}
theorem j9{u:HO}(ok:dI P w H h)(e:Rd H a u):dM P w H h a u:=e.ok ok
end
section
variable {X:Cx}{pins:aL}{σ:St}{H:Hp}{s:Shared}{a:Addr}{y v:V}{u r:Value}{o:Option V}{A:Around}{E:ba}
theorem Inv.big(I:Inv X pins σ H s):sysModules<s.heap.objs.size:=by have h:mainGlobals<s.heap.objs.size:=(I.mod.glob.keeps I.bk).lt;exact Nat.lt_trans (by decide) h
end
section
variable {X:Cx}{pins:aL}{σ:St}{H:Hp}{s:Shared}{a:Addr}{kvs:List (Key×V)}{k:Key}{u:Value}{A:Around}{E:ba}
end
section
variable {X:Cx}{o i e value:Expr}{pos pos' tpos:Pos}{td ty tv:TE}
end
theorem BB{P:Program}{w:World}{H:Hp}(h:Heap)(hb:sysModules<h.objs.size):dM P w H (h.push {cls:=.type "dict",data:=.dict #[]}) h.objs.size (.dK []):=
 ⟨iy _,jZ.mpr (bo (dr hb)),[],.nil,Heap.DictOf.new h⟩
def Fo:TE:=fun _ H Q=>∀p,H p=none->Q (.ref p) (upd H p (.dK []))
section
variable {X:Cx}{pos:Pos}
theorem AU:PE X (.Dict [] [] pos) Fo:=fun pins s σ H Q I h=>
 wpAny_Dict_empty ⟨.ref s.heap.objs.size,_,I.laid (a:=s.heap.objs.size) (o:=.dK []) (t':=s.toks) (fun _ _ q=>bX _ q) (aV _) (BB s.heap I.big),rfl,h _ (I.aD.fresh (aV _))⟩
end
section
variable {X:Cx}{pins:aL}{σ:St}{H:Hp}{s:Shared}{a:Addr}{y d:V}{u r:Value}{o:Option V}{A:Around}{E:ba}
end
section
variable {X:Cx}{o e f:Expr}{apos cpos:Pos}{td ty tx:TE}
end
section
variable {X:Cx}{pins:aL}{σ:St}{H:Hp}{s:Shared}{a:Addr}{kvs:List (Key×V)}{A:Around}{E:ba}
end
section
variable {X:Cx}{pins:aL}{σ:St}{H:Hp}{s:Shared}{a:Addr}{y:V}{u:Value}{A:Around}{E:ba}
end
end L2
namespace Att
open PySem PySem.W PySem.Calls PyProof.Rows
theorem pW{P:Params}{h:Heap}:∀(ns:List Int)(vs:List Value),WellAll P h vs (ns.map WData.int)->IntsAre vs ns:=by
 intro ns
 induction ns with
 |nil=>
  intro vs w;rw[eh] at w;cases w;exact .nil
 |cons n ns ih=>
  intro vs w;rw[bx] at w;cases w with
  |cons a b=>
   cases a;exact .cons _ _ (ih _ b)
theorem zl{l:OpenLaw}{n:Nat}(hn:l.most=some n){P:Params}{h:Heap}{args:List WData}{vals:List Value}
  (hpre:l.row.toRowW.claim.pre args=true) (hwl:WellAll P h vals args):
  ∃a vs ns,vals=[Value.ref a]/\args=[WData.list (ns.map WData.int)]/\h.get? a=some {cls:=.type "list",data:=.seq vs.toArray}/\IntsAre vs ns/\ns.length<=n:=by
 have hsh:WShape.hasAll [] args [.list .int]=true:=(pre_splitW hpre).1;have hc:l.pre.holds [] {args:=args}=true:=(pre_splitW hpre).2;obtain⟨d,r,rfl,h1,h2⟩:=hasAllW_cons hsh;obtain rfl:=hasAllW_nil h2;obtain⟨xs,rfl,h3⟩:=hasW_list h1;obtain⟨ns,rfl⟩:=items_int h3;have hlen:ns.length<=n:=by
  unfold OpenLaw.pre at hc;have h4:(WTm.not (.lt (.lit (.int (n:Int))) (.len (.arg 0)))).holds [] {args:=[.list (ns.map .int)]}=true:=by have h4:=(holds_andW hc).1;rw[hn] at h4;exact h4
  have h5:=condW_of h4 (w_not (w_lt w_lit (w_len_list (w_arg rfl))));rw[fQ] at h5;refine Nat.le_of_not_lt fun q=>?_;have q':(n:Int)<((ns.length:Nat):Int):=by omega
  first
   |(rw[dG q'] at h5;exact absurd h5 (by decide))
   |(simp at h5;omega)
 cases hwl with
 |cons w1 w2=>
  cases w2;cases w1 with
  |list ho hall=>exact⟨_,_,ns,rfl,rfl,ho,pW ns _ hall,hlen⟩
theorem zV(l:OpenLaw)(args:List WData):l.row.toRowW.claim.post args (.bool true) args=true:=
 postW_of (r:=l.row.toRowW) (X:=(true== true))
  (show WShape.has [] (.bool true) .bool=true by first|rfl|decide|simp[WShape.has,WShape.arms,WShape.armsAll])
  (show (WTm.eq .res (.lit (.bool true))).value [] {args:=args,res:=some (.bool true),after:=args}=some (.bool (true== true)) from w_eq_bool (w_res rfl) w_lit) rfl
theorem vq{l:OpenLaw}{n:Nat}{q:Program}{loose:List Str}{XP:(Str->Option Value)->Heap->Prop}{YP:World->Heap->Prop}{d:DefRec}
  (hn:l.most=some n) (hdf:d.params.defaults=[])
  (call:∀(w:World)(aO s₁:Shared)(mg mb:Str->Option Value)(fa:Addr)(o:Obj)(pm cd doc:Value)(a:Addr)(vs:List Value)(ns:List Int),
   Ground q loose [] XP w aO mg mb s₁.heap->YP w s₁.heap->
   s₁.heap.get? fa=some o->o.data=.func (docDef d.name d.params d.body d.scope pm cd doc)->s₁.heap.CodeRec cd d.name->mg d.name=some (.ref fa)->
   s₁.heap.get? a=some {cls:=.type "list",data:=.seq vs.toArray}->IntsAre vs ns->ns.length<=n->s₁.gens=#[]->
   codeAny (model l.prog w) callerA (.call (.ref fa) ⟨[.ref a],[]⟩) (fun r s'=>r=.ok (.ret (.bool true))/\OldK s₁.heap s'.heap/\s'.os=s₁.os/\AllBare s'.gens) s₁):
  WalkO q loose XP YP l.row.toRowW d [] (fun f vs=>PySem.call f vs):=by
 intro w aO s₁ mg mb G Y fa o pm cd doc dV kV ho hd hcd hD hmg hg args vals as hpre hlay hrd hwl hlo;obtain rfl:dV=.none:=Dflts.none hD hdf;obtain rfl:kV=.none:=Dflts.noKw hD;obtain⟨a,vs,ns,rfl,rfl,hobj,hints,hlen⟩:=zl hn hpre hwl;refine enter_call (ot (call w aO s₁ mg mb fa o pm cd doc a vs ns G Y ho (fd_plain hd) hcd hmg hobj hints hlen hg) fun r s' hq=>?_);obtain⟨rfl,h2,h3,h4⟩:=hq;exact⟨.inl ⟨.bool true,.bool true,[],rfl,fun _=>rfl,.bool true,zV l _,fun _=>⟨List.Pairwise.nil,fun _ hm=>(nomatch hm)⟩⟩,h2,h3,h4⟩
section
variable {prog:Program}{w:World}{A:Around}{E:ba}{s:Shared}{K:Frag}
end
end Att
namespace L2
open PySem PySem.Spec PyProof.Rows
theorem sk:∀{vs:List Value}{ns:List Int},IntsAre vs ns->Vals (ns.map V.int) vs
 |_,_,.nil=>.nil
 |_,_,.cons n t h=>.cons ⟨t,rfl⟩ (sk h)
def dB(s:Stmt):Arguments:=match s with
 |.FunctionDef _ a _ _ _ _ _ _ _ _=>a
 |_=>{posonlyargs:=[],args:=[],vararg:=none,kwonlyargs:=[],kw_defaults:=[],kwarg:=none,defaults:=[]}
def cK(s:Stmt):List Stmt:=match s with
 |.FunctionDef _ _ b _ _ _ _ _ _ _=>b
 |_=>[]
def ax(s:Stmt):Scope:=match s with
 |.FunctionDef _ _ _ _ _ _ sc _ _ _=>sc
 |_=>{kind:=.function,names:=[],isGenerator:=false,isCoroutine:=false}
noncomputable abbrev E0:XK:=fun _ _ _=>False
structure za(K:W.Frag)(x qual:Str)(st:Stmt)(f:Addr)(fd:FuncData):Prop where
 ex:∃(oc:Value) (od:Option Addr) (kV doc pm:Value) (an:Option Addr) (cdv ct:Value) (osl:Array (Option Value)),
  fd=W.fnOf x qual (dB st) (cK st) (ax st) .none kV doc pm an cdv ct/\K.lookup f=some ⟨oc,od,.func fd,osl⟩/\W.codeIn K cdv qual=true
 kp:W.keepIn K (.ref f)=true
section
variable {P:Program}{w:World}{K:W.Frag}{mg:Str->Option Value}{base:Heap}
theorem vn{x qual:Str}{st:Stmt}{f:Addr}{oc:Value}{od an:Option Addr}{osl:Array (Option Value)}{kV doc pm cdv ct:Value}(l:K.lookup f=some ⟨oc,od,.func (W.fnOf x qual (dB st) (cK st) (ax st) .none kV doc pm an cdv ct),osl⟩)
  (c:W.codeIn K cdv qual=true) (k:W.keepIn K (.ref f)=true):za K x qual st f (W.fnOf x qual (dB st) (cK st) (ax st) .none kV doc pm an cdv ct):=⟨⟨oc,od,kV,doc,pm,an,cdv,ct,osl,rfl,l,c⟩,k⟩
end
section
variable {X:Cx}
end
def yB(H H':Hp):Prop:=∀b o,H b=some o->H' b=some o
theorem yB.trans{H H1 H2:Hp}(a:yB H H1)(b:yB H1 H2):yB H H2:=fun c o h=>b c o (a c o h)
section
variable {κ:Type} [DecidableEq κ]
end
end L2
namespace Tw
noncomputable abbrev S:=List Nat
inductive W where
 |aw|bl (b:Bool)|int (i:Int)|str (x:S)|tup (xs:List W)|ref (a:Nat)
 |lst (xs:List W)
inductive O where
 |lst (xs:List W)
 |bh (xs:List W)
 |eV (kvs:List (W×W))
 |ins (c:S) (fs:List (S×W))
 |aI (c:S) (fs:List (S×W))
 |fun (f:Nat) (ws:List W)
 |dead
noncomputable abbrev Hp:=List O
inductive R(α:Type) where
 |ok (a:α) (h:Hp)
 |aI (a:Nat) (h:Hp)
 |bad
namespace R
def bind{α β:Type}(m:R α)(k:α->Hp->R β):R β:=match m with
 |.ok a h=>k a h
 |.aI a h=>.aI a h
 |.bad=>.bad
@[simp] theorem af{α β:Type}(a:α)(h:Hp)(k:α->Hp->R β):(R.ok a h).bind k=k a h:=rfl
@[simp] theorem Mm{α β:Type}(a:Nat)(h:Hp)(k:α->Hp->R β):(R.aI a h).bind k=.aI a h:=rfl
@[simp] theorem MB{α β:Type}(k:α->Hp->R β):(R.bad:R α).bind k=.bad:=rfl
def of{α:Type}(o:Option α)(h:Hp):R α:=match o with
 |some a=>.ok a h
 |none=>.bad
@[simp] theorem NF{α:Type}(a:α)(h:Hp):R.of (some a) h=.ok a h:=rfl
@[simp] theorem of_none{α:Type}(h:Hp):R.of (none:Option α) h=.bad:=rfl
end R
def SZ:Nat:=2 ^ 24
mutual
noncomputable def bj:W->W->Bool
 |.aw,.aw=>true
 |.bl a,.bl b=>decide (a=b)
 |.int a,.int b=>decide (a=b)
 |.bl a,.int b=>decide ((if a then 1 else 0)=b)
 |.int a,.bl b=>decide (a=(if b then 1 else 0))
 |.str a,.str b=>decide (a=b)
 |.tup xs,.tup ys=>mB xs ys
 |.lst xs,.lst ys=>mB xs ys
 |_,_=>false
@[simp] noncomputable def mB:List W->List W->Bool
 |[],[]=>true
 |x::xs,y::ys=>bj x y&&mB xs ys
 |_,_=>false
end
@[simp] theorem IC:bj .aw .aw=true:=rfl
@[simp] theorem JZ(b2:Bool):bj .aw (.bl b2)=false:=rfl
@[simp] theorem IF(i2:Int):bj .aw (.int i2)=false:=rfl
@[simp] theorem IY(x2:S):bj .aw (.str x2)=false:=rfl
@[simp] theorem IM(t2:List W):bj .aw (.tup t2)=false:=rfl
@[simp] theorem IW(l2:List W):bj .aw (.lst l2)=false:=rfl
@[simp] theorem Ky(b1:Bool):bj (.bl b1) .aw=false:=rfl
@[simp] theorem La(b1:Bool)(b2:Bool):bj (.bl b1) (.bl b2)=decide (b1=b2):=rfl
@[simp] theorem J0(b1:Bool)(i2:Int):bj (.bl b1) (.int i2)=decide ((if b1 then 1 else 0)=i2):=rfl
@[simp] theorem Jf(b1:Bool)(x2:S):bj (.bl b1) (.str x2)=false:=rfl
@[simp] theorem I8(b1:Bool)(t2:List W):bj (.bl b1) (.tup t2)=false:=rfl
@[simp] theorem JK(b1:Bool)(l2:List W):bj (.bl b1) (.lst l2)=false:=rfl
@[simp] theorem IP(i1:Int):bj (.int i1) .aw=false:=rfl
@[simp] theorem JE(i1:Int)(b2:Bool):bj (.int i1) (.bl b2)=decide (i1=(if b2 then 1 else 0)):=rfl
@[simp] theorem IL(i1:Int)(i2:Int):bj (.int i1) (.int i2)=decide (i1=i2):=rfl
@[simp] theorem IB(i1:Int)(x2:S):bj (.int i1) (.str x2)=false:=rfl
@[simp] theorem IE(i1:Int)(t2:List W):bj (.int i1) (.tup t2)=false:=rfl
@[simp] theorem Ir(i1:Int)(l2:List W):bj (.int i1) (.lst l2)=false:=rfl
@[simp] theorem Iv(x1:S):bj (.str x1) .aw=false:=rfl
@[simp] theorem Jy(x1:S)(b2:Bool):bj (.str x1) (.bl b2)=false:=rfl
@[simp] theorem IU(x1:S)(i2:Int):bj (.str x1) (.int i2)=false:=rfl
@[simp] theorem oM(x1:S)(x2:S):bj (.str x1) (.str x2)=decide (x1=x2):=rfl
@[simp] theorem Iw(x1:S)(t2:List W):bj (.str x1) (.tup t2)=false:=rfl
@[simp] theorem Iu(x1:S)(l2:List W):bj (.str x1) (.lst l2)=false:=rfl
@[simp] theorem Iy(t1:List W):bj (.tup t1) .aw=false:=rfl
@[simp] theorem Kv(t1:List W)(b2:Bool):bj (.tup t1) (.bl b2)=false:=rfl
@[simp] theorem IQ(t1:List W)(i2:Int):bj (.tup t1) (.int i2)=false:=rfl
@[simp] theorem IG(t1:List W)(x2:S):bj (.tup t1) (.str x2)=false:=rfl
@[simp] theorem vA(t1:List W)(t2:List W):bj (.tup t1) (.tup t2)=mB t1 t2:=rfl
@[simp] theorem IX(t1:List W)(l2:List W):bj (.tup t1) (.lst l2)=false:=rfl
@[simp] theorem IT(l1:List W):bj (.lst l1) .aw=false:=rfl
@[simp] theorem JA(l1:List W)(b2:Bool):bj (.lst l1) (.bl b2)=false:=rfl
@[simp] theorem IJ(l1:List W)(i2:Int):bj (.lst l1) (.int i2)=false:=rfl
@[simp] theorem Iz(l1:List W)(x2:S):bj (.lst l1) (.str x2)=false:=rfl
@[simp] theorem IS(l1:List W)(t2:List W):bj (.lst l1) (.tup t2)=false:=rfl
@[simp] theorem vF(l1:List W)(l2:List W):bj (.lst l1) (.lst l2)=mB l1 l2:=rfl
mutual
noncomputable def W.deep:W->Nat
 |.tup xs=>dg xs+1
 |.lst xs=>dg xs+1
 |_=>0
noncomputable def dg:List W->Nat
 |[]=>0
 |x::xs=>max x.deep (dg xs)
end
mutual
@[simp] noncomputable def rd(h:Hp):Nat->W->Option W
 |_,.aw=>some .aw
 |_,.bl b=>some (.bl b)
 |_,.int i=>some (.int i)
 |_,.str x=>some (.str x)
 |0,_=>none
 |n+1,.tup xs=>(dX h n xs).map .tup
 |n+1,.ref a=>match h[a]? with
  |some (.lst xs)=>(dX h n xs).map .lst
  |some (.bh xs)=>(dX h n xs).map .lst
  |_=>none
 |_+1,.lst _=>none
@[simp] noncomputable def dX(h:Hp):Nat->List W->Option (List W)
 |_,[]=>some []
 |n,x::xs=>match rd h n x,dX h n xs with
  |some d,some ds=>some (d::ds)
  |_,_=>none
end
@[simp] noncomputable def isKey:W->Bool
 |.int _=>true
 |.str _=>true
 |_=>false
@[simp] noncomputable def CL:W->W->Bool
 |.int a,.int b=>a== b
 |.str a,.str b=>a== b
 |_,_=>false
@[simp] def LY(k:W):List (W×W)->Option W
 |[]=>none
 |(j,v)::r=>if CL j k then some v else LY k r
@[simp] def dput(k v:W):List (W×W)->List (W×W)
 |[]=>[(k,v)]
 |(j,u)::r=>if CL j k then (j,v)::r else (j,u)::dput k v r
def cw(h:Hp):W->Option (List (W×W))
 |.ref a=>match h[a]? with
  |some (.eV kvs)=>some kvs
  |_=>none
 |_=>none
def bw(h:Hp)(x y:W):Option Bool:=match cw h x,cw h y with
 |some _,some _=>none
 |none,none=>match rd h 60 x,rd h 60 y with
  |some a,some b=>some (bj a b)
  |_,_=>none
 |_,_=>none
@[simp] theorem NJ(h:Hp)(a b:Int):bw h (.int a) (.int b)=some (decide (a=b)):=by simp[bw,cw,rd,bj]
@[simp] theorem NI(h:Hp)(a b:S):bw h (.str a) (.str b)=some (decide (a=b)):=by simp[bw,cw,rd,bj]
inductive Op|add|sub|mul|fdiv|mod|pow
 deriving DecidableEq
inductive Cp|eq|ne|lt|le|gt|ge|isin|notin|notN
 deriving DecidableEq
inductive B|len|list|int
 deriving DecidableEq
inductive Mt|append|pop|rev
 deriving DecidableEq
set_option genInjectivity false
set_option genSizeOfSpec false
mutual
inductive E where
 |var (i:Nat)
 |cst (w:W)
 |tup (es:Es)
 |lst (es:Es)
 |eV (es:Es)
 |bin (op:Op) (a b:E)
 |cmp (op:Cp) (a b:E)
 |and (a b:E)
 |or (a b:E)
 |not (a:E)
 |ite (c a b:E)
 |idx (a b:E)
 |sl (a:E) (lo hi:Eo)
 |call (f:Nat) (es:Es)
 |blt (b:B) (a:E)
 |ik (m:Mt) (o:E) (es:Es)
 |comp (elt:E) (it:It) (c:Eo)
 |bad
 |fld (a:E) (x:S)
 |mk (c:S) (f:Nat) (es:Es)
 |ki (a:E) (ns ds cs:List S)
 |oo (i:Nat) (es:Es)
 |chain (a b c:E)
 |vk (a b:E)
inductive Es where
 |nil
 |cons (e:E) (es:Es)
inductive Eo where
 |none
 |some (e:E)
inductive It where
 |seq (e:E)
 |iT (e:E)
 |rev (e:E)
end
inductive Tg where
 |var (i:Nat)
inductive Hs where
 |ret (e:E)
 |set (i:Nat) (e:E)
abbrev Hd:=S×List S×Nat×List Hs
inductive Tb where
 |uw (f:Nat) (es:Es)
inductive St where
 |expr (e:E)
 |ret (e:E)
 |set (i:Nat) (e:E)
 |put (o k e:E)
 |iff (c:E) (a b:List St)
 |for (t:Tg) (it:It) (b:List St)
 |bad
 |fput (o:E) (x:S) (e:E)
 |tq (c:E) (b:List St)
 |raise (c:S) (xs:List S) (es:Es)
 |qO (b:List Tb) (hs:List Hd)
 |pq (i j k:Nat) (e:E)
 |kY (j fw:Nat) (a b:E) (f:Nat) (ks:List Nat)
set_option genInjectivity true
set_option genSizeOfSpec true
noncomputable abbrev Env:=List (Option W)
@[simp] def truth(h:Hp):W->Option Bool
 |.bl b=>some b
 |_=>none
@[simp] def items(h:Hp):W->Option (List W)
 |.ref a=>match h[a]? with
  |some (.lst xs)=>some xs
  |some (.bh xs)=>some xs
  |_=>none
 |_=>none
@[simp] def uT(h:Hp):W->Option (List W)
 |.tup xs=>some xs
 |w=>items h w
@[simp] def new(o:O)(h:Hp):R W:=.ok (.ref h.length) (h++[o])
noncomputable def eL(xs:List W)(h:Hp):R W:=if xs.length<=SZ then new (.lst xs) h else .bad
noncomputable def small(i:Int):Bool:=decide (-(2 ^ 64)<i)&&decide (i<2 ^ 64)
@[simp] def binI(op:Op)(i j:Int):Option Int:=match op with
 |.add=>some (i+j)
 |.sub=>some (i-j)
 |.mul=>if small i || small j then some (i * j) else none
 |.fdiv=>if 0<j/\j<1073741824 then some (i / j) else none
 |.mod=>if 0<j then some (i % j) else none
 |.pow=>if 0<=j/\j<=1000000/\i.natAbs<2 ^ 64 then some (i ^ j.toNat) else none
@[simp] def bin(op:Op)(x y:W)(h:Hp):R W:=match x,y with
 |.int i,.int j=>R.of ((binI op i j).map .int) h
 |.tup a,.tup b=>if op=.add/\a.length+b.length<=SZ then .ok (.tup (a++b)) h else .bad
 |.ref a,.ref b=>match h[a]?,h[b]? with
  |some (.lst xs),some (.lst ys)=>if op=.add/\xs.length+ys.length<=SZ then new (.lst (xs++ys)) h else .bad
  |_,_=>.bad
 |_,_=>.bad
def isIn(x y:W)(h:Hp):Option Bool:=match uT h y with
 |some xs=>match rd h 60 x,dX h 60 xs with
  |some a,some ds=>some (ds.any fun z=>bj z a)
  |_,_=>none
 |none=>none
@[simp] def cmp(op:Cp)(x y:W)(h:Hp):Option Bool:=match op with
 |.eq=>bw h x y
 |.ne=>(bw h x y).map (!·)
 |.lt=>match x,y with | .int i,.int j=>some (decide (i<j))|_,_=>none
 |.le=>match x,y with | .int i,.int j=>some (decide (i<=j))|_,_=>none
 |.gt=>match x,y with | .int i,.int j=>some (decide (j<i))|_,_=>none
 |.ge=>match x,y with | .int i,.int j=>some (decide (j<=i))|_,_=>none
 |.isin=>isIn x y h
 |.notin=>(isIn x y h).map (!·)
 |.notN=>match y with | .aw=>some (match x with | .aw=>false|_=>true)|_=>none
noncomputable def ij(n:Nat)(i:Int):Option Nat:=if 0<=i then (if i<n then some i.toNat else none) else if -(n:Int)<=i then some (i+n).toNat else none
def dC{α:Type}(xs:List α)(i:Int):Option α:=(ij xs.length i).bind fun j=>xs[j]?
@[simp] def idx(x y:W)(h:Hp):R W:=match x,y with
 |.tup xs,.int i=>R.of (dC xs i) h
 |.ref a,y=>match h[a]?,y with
  |some (.lst xs),.int i=>R.of (dC xs i) h
  |some (.bh xs),.int i=>R.of (dC xs i) h
  |_,_=>.bad
 |_,_=>.bad
def bc(n d:Nat):Option Int->Nat
 |none=>d
 |some v=>if v<0 then (v+n).toNat else min v.toNat n
noncomputable def cut{α:Type}(xs:List α)(lo hi:Option Int):List α:=(xs.drop (bc xs.length 0 lo)).take (bc xs.length xs.length hi-bc xs.length 0 lo)
@[simp] noncomputable def hF:Option W->Option (Option Int)
 |none=>some none
 |some (.int i)=>some (some i)
 |_=>none
@[simp] def slice(x:W)(lo hi:Option W)(h:Hp):R W:=match hF lo,hF hi with
 |some l,some u=>match x with
  |.tup xs=>if bc xs.length 0 l=0/\bc xs.length xs.length u=xs.length then .bad else .ok (.tup (cut xs l u)) h
  |_=>.bad
 |_,_=>.bad
@[simp] def builtin(b:B)(x:W)(h:Hp):R W:=match b with
 |.len=>match x with
  |.tup xs=>.ok (.int xs.length) h
  |.ref a=>match h[a]? with
   |some (.lst xs)=>.ok (.int xs.length) h
   |some (.bh xs)=>.ok (.int xs.length) h
   |_=>.bad
  |_=>.bad
 |.list=>match x with
  |.tup xs=>new (.lst xs) h
  |.ref a=>match h[a]? with
   |some (.lst xs)=>new (.lst xs) h
   |some (.bh xs)=>new (.lst xs) h
   |_=>.bad
  |_=>.bad
 |.int=>match x with
  |.int i=>.ok (.int i) h
  |.bl b=>.ok (.int (if b then 1 else 0)) h
  |_=>.bad
@[simp] noncomputable def method(m:Mt)(o:W)(xs:List W)(h:Hp):R W:=match m,o,xs with
 |.append,.ref a,[x]=>match h[a]? with
  |some (.lst ys)=>if ys.length<SZ then .ok .aw (h.set a (.lst (ys++[x]))) else .bad
  |_=>.bad
 |.pop,.ref a,[]=>match h[a]? with
  |some (.lst ys)=>match ys.getLast? with
   |some y=>.ok y (h.set a (.lst ys.dropLast))
   |none=>.bad
  |_=>.bad
 |.rev,.ref a,[]=>match h[a]? with
  |some (.lst ys)=>.ok .aw (h.set a (.lst ys.reverse))
  |_=>.bad
 |_,_,_=>.bad
@[simp] def mG(m:Mt)(x:W)(h:Hp):Bool:=match m,x with
 |.append,.ref a=>match h[a]? with
  |some (.lst _)=>true
  |_=>false
 |.pop,.ref a=>match h[a]? with
  |some (.lst _)=>true
  |_=>false
 |.rev,.ref a=>match h[a]? with
  |some (.lst _)=>true
  |_=>false
 |_,_=>false
@[simp] def kH(o k v:W)(h:Hp):R Unit:=match o with
 |.ref a=>match h[a]?,k with
  |some (.lst xs),.int i=>match ij xs.length i with
   |some j=>.ok () (h.set a (.lst (xs.set j v)))
   |none=>.bad
  |_,_=>.bad
 |_=>.bad
@[simp] noncomputable def sM:List W->List (W×W)->Option (List (W×W))
 |[],acc=>some acc
 |k::v::r,acc=>if isKey k then sM r (dput k v acc) else none
 |[_],_=>none
def upTo(lo:Int):Nat->List W
 |0=>[]
 |n+1=>.int lo::upTo (lo+1) n
abbrev Or:=Nat->List W->Hp->R W
inductive Fl where
 |next (σ:Env)|ret (w:W)|brk (σ:Env)|cont (σ:Env)
inductive Src where
 |fix (xs:List W)
 |at (a:Nat) (n:Nat)
def R.gy{α:Type}(m:R α):R α:=match m with
 |.aI _ _=>.bad
 |m=>m
@[simp] theorem R.dY{α:Type}(a:α)(h:Hp):(R.ok a h).gy=.ok a h:=rfl
@[simp] theorem R.ND{α:Type}:(R.bad:R α).gy=.bad:=rfl
@[simp] theorem R.Nz{α:Type}(a:Nat)(h:Hp):(R.aI a h:R α).gy=.bad:=rfl
def dO(h:Hp)(a:Nat):Option (List W):=match h[a]? with
 |some (.lst xs)=>some xs
 |some (.bh xs)=>some xs
 |_=>none
@[simp] noncomputable def fo(k:W->List W->Hp->R (List W)):List W->List W->Hp->R (List W)
 |[],acc,h=>.ok acc h
 |x::xs,acc,h=>(k x acc h).bind fun acc h=>fo k xs acc h
noncomputable def bY(a:Nat)(k:W->List W->Hp->R (List W)):Nat->Nat->List W->Hp->R (List W)
 |n,i,acc,h=>match dO h a with
  |none=>.bad
  |some ys=>match ys[i]? with
   |none=>.ok acc h
   |some x=>match n with
    |0=>.bad
    |n+1=>(k x acc h).bind fun acc h=>bY a k n (i+1) acc h
@[simp] def walk(s:Src)(k:W->List W->Hp->R (List W))(h:Hp):R (List W):=match s with
 |.fix xs=>fo k xs [] h
 |.at a n=>bY a k n 0 [] h
noncomputable def iH(j:Int):Bool:=decide (-(2 ^ 62)<=j)&&decide (j<2 ^ 62)
@[simp] def src(h:Hp):W->Option Src
 |.tup xs=>some (.fix xs)
 |.ref a=>match h[a]? with
  |some (.lst xs)=>some (.at a xs.length)
  |some (.bh xs)=>some (.at a xs.length)
  |_=>none
 |_=>none
@[simp] def iS(h:Hp):Option W->Option Bool
 |none=>some true
 |some t=>truth h t
noncomputable def iG(c:Env->Hp->R (Option W))(elt:Env->Hp->R W)(σ:Env)(x:W)(acc:List W)(h:Hp):R (List W):=
 (c (σ++[some x]) h).gy.bind fun t h=>match iS h t with
  |none=>.bad
  |some true=>(elt (σ++[some x]) h).gy.bind fun y h=>.ok (acc++[y]) h
  |some false=>.ok acc h
@[simp] def field(w:W)(x:S)(h:Hp):Option W:=match w with
 |.ref a=>match h[a]? with
  |some (.ins _ fs)=>fs.lookup x
  |_=>none
 |_=>none
@[simp] def mT(w:W)(ds cs:List S)(h:Hp):Option Bool:=match w with
 |.ref a=>match h[a]? with
  |some (.aI c _)=>if ds.contains c then some (cs.contains c) else none
  |_=>none
 |_=>none
def lT(x:S)(v:W):List (S×W)->List (S×W)
 |[]=>[(x,v)]
 |(y,u)::r=>if y=x then (y,v)::r else (y,u)::lT x v r
@[simp] def putField(w:W)(x:S)(v:W)(h:Hp):R Unit:=match w with
 |.ref a=>match h[a]? with
  |some (.ins c fs)=>if fs.length<1000 then .ok () (h.set a (.ins c (lT x v fs))) else .bad
  |_=>.bad
 |_=>.bad
mutual
noncomputable def ag(C:Or):E->Env->Hp->R W
 |.var i,σ,h=>match σ[i]? with
  |some (some w)=>.ok w h
  |_=>.bad
 |.cst w,_,h=>.ok w h
 |.tup es,σ,h=>(bS C es σ h).bind fun xs h=>.ok (.tup xs) h
 |.lst es,σ,h=>(bS C es σ h).bind fun xs h=>new (.lst xs) h
 |.eV es,σ,h=>(bS C es σ h).bind fun xs h=>match sM xs [] with
  |some kvs=>new (.eV kvs) h
  |none=>.bad
 |.bin op a b,σ,h=>(ag C a σ h).bind fun x h=>(ag C b σ h).bind fun y h=>bin op x y h
 |.cmp op a b,σ,h=>(ag C a σ h).bind fun x h=>(ag C b σ h).bind fun y h=>R.of ((cmp op x y h).map .bl) h
 |.and a b,σ,h=>(ag C a σ h).bind fun x h=>match x with
  |.bl true=>ag C b σ h
  |.bl false=>.ok (.bl false) h
  |_=>.bad
 |.or a b,σ,h=>(ag C a σ h).bind fun x h=>match x with
  |.bl false=>ag C b σ h
  |.bl true=>.ok (.bl true) h
  |_=>.bad
 |.not a,σ,h=>(ag C a σ h).bind fun x h=>R.of ((truth h x).map fun b=>.bl (!b)) h
 |.ite c a b,σ,h=>(ag C c σ h).bind fun x h=>match truth h x with
  |some true=>ag C a σ h
  |some false=>ag C b σ h
  |none=>.bad
 |.idx a b,σ,h=>(ag C a σ h).bind fun x h=>(ag C b σ h).bind fun y h=>idx x y h
 |.sl a lo hi,σ,h=>(ag C a σ h).bind fun x h=>(gp C lo σ h).bind fun l h=>(gp C hi σ h).gy.bind fun u h=>slice x l u h
 |.call f es,σ,h=>(bS C es σ h).bind fun xs h=>C f xs h
 |.blt b a,σ,h=>(ag C a σ h).bind fun x h=>builtin b x h
 |.ik m o es,σ,h=>(ag C o σ h).bind fun x h=>if mG m x h then (bS C es σ h).bind fun xs h=>method m x xs h else .bad
 |.comp elt it c,σ,h=>(dJ C it σ h).bind fun s h=>(walk s (iG (fun σ h=>gp C c σ h) (fun σ h=>ag C elt σ h) σ) h).bind eL
 |.bad,_,_=>.bad
 |.fld a x,σ,h=>(ag C a σ h).bind fun w h=>R.of (field w x h) h
 |.mk c f es,σ,h=>(bS C es σ h).bind fun xs h=>(C f (.ref h.length::xs) (h++[.ins c []])).bind fun r h'=>match r with
  |.aw=>.ok (.ref h.length) h'
  |_=>.bad
 |.ki a _ ds cs,σ,h=>(ag C a σ h).bind fun x h=>R.of ((mT x ds cs h).map .bl) h
 |.oo i es,σ,h=>match σ[i]? with
  |some (some (.ref a))=>match h[a]? with
   |some (.fun f ws)=>(bS C es σ h).bind fun xs h=>C f (xs++ws) h
   |_=>.bad
  |_=>.bad
 |.chain a b c,σ,h=>(ag C a σ h).bind fun x h=>(ag C b σ h).bind fun y h=>match x,y with
  |.int i,.int j=>if i<=j then (ag C c σ h).bind fun z h=>(match z with
   |.int k=>.ok (.bl (decide (j<k))) h
   |_=>.bad) else .ok (.bl false) h
  |_,_=>.bad
 |.vk a b,σ,h=>(ag C a σ h).bind fun x h=>(ag C b σ h).bind fun y h=>match x,y with
  |.int i,.int j=>if 0<=i/\i<1000/\0<=j/\j<1000 then new (.lst (upTo i (j-i).toNat)) h else .bad
  |_,_=>.bad
noncomputable def bS(C:Or):Es->Env->Hp->R (List W)
 |.nil,_,h=>.ok [] h
 |.cons e es,σ,h=>(ag C e σ h).bind fun x h=>(bS C es σ h).bind fun xs h=>.ok (x::xs) h
noncomputable def gp(C:Or):Eo->Env->Hp->R (Option W)
 |.none,_,h=>.ok none h
 |.some e,σ,h=>(ag C e σ h).bind fun x h=>.ok (some x) h
noncomputable def dJ(C:Or):It->Env->Hp->R Src
 |.seq e,σ,h=>(ag C e σ h).bind fun x h=>R.of (src h x) h
 |.iT e,σ,h=>(ag C e σ h).bind fun x h=>match x with
  |.int j=>if iH j then .ok (.fix (upTo 0 j.toNat)) h else .bad
  |_=>.bad
 |.rev e,σ,h=>(ag C e σ h).bind fun x h=>match x with
  |.tup xs=>.ok (.fix xs.reverse) h
  |_=>.bad
end
@[simp] theorem wb(C:Or)(i:Nat)(σ:Env)(h:Hp):ag C (.var i) σ h=(match σ[i]? with
  |some (some w)=>.ok w h
  |_=>.bad):=rfl
@[simp] theorem qz(C:Or)(w:W)(σ:Env)(h:Hp):ag C (.cst w) σ h=(.ok w h):=rfl
@[simp] theorem cN(C:Or)(es:Es)(σ:Env)(h:Hp):ag C (.tup es) σ h=((bS C es σ h).bind fun xs h=>.ok (.tup xs) h):=rfl
@[simp] theorem qG(C:Or)(es:Es)(σ:Env)(h:Hp):ag C (.lst es) σ h=((bS C es σ h).bind fun xs h=>new (.lst xs) h):=rfl
@[simp] theorem DP(C:Or)(es:Es)(σ:Env)(h:Hp):ag C (.eV es) σ h=((bS C es σ h).bind fun xs h=>match sM xs [] with
  |some kvs=>new (.eV kvs) h
  |none=>.bad):=rfl
@[simp] theorem gO(C:Or)(op:Op)(a:E)(b:E)(σ:Env)(h:Hp):ag C (.bin op a b) σ h=((ag C a σ h).bind fun x h=>(ag C b σ h).bind fun y h=>bin op x y h):=rfl
@[simp] theorem kT(C:Or)(op:Cp)(a:E)(b:E)(σ:Env)(h:Hp):ag C (.cmp op a b) σ h=((ag C a σ h).bind fun x h=>(ag C b σ h).bind fun y h=>R.of ((cmp op x y h).map .bl) h):=rfl
@[simp] theorem vO(C:Or)(a:E)(b:E)(σ:Env)(h:Hp):ag C (.and a b) σ h=((ag C a σ h).bind fun x h=>match x with
  |.bl true=>ag C b σ h
  |.bl false=>.ok (.bl false) h
  |_=>.bad):=rfl
@[simp] theorem y7(C:Or)(a:E)(b:E)(σ:Env)(h:Hp):ag C (.or a b) σ h=((ag C a σ h).bind fun x h=>match x with
  |.bl false=>ag C b σ h
  |.bl true=>.ok (.bl true) h
  |_=>.bad):=rfl
@[simp] theorem EC(C:Or)(a:E)(σ:Env)(h:Hp):ag C (.not a) σ h=((ag C a σ h).bind fun x h=>R.of ((truth h x).map fun b=>.bl (!b)) h):=rfl
@[simp] theorem vW(C:Or)(c:E)(a:E)(b:E)(σ:Env)(h:Hp):ag C (.ite c a b) σ h=((ag C c σ h).bind fun x h=>match truth h x with
  |some true=>ag C a σ h
  |some false=>ag C b σ h
  |none=>.bad):=rfl
@[simp] theorem iC(C:Or)(a:E)(b:E)(σ:Env)(h:Hp):ag C (.idx a b) σ h=((ag C a σ h).bind fun x h=>(ag C b σ h).bind fun y h=>idx x y h):=rfl
@[simp] theorem zb(C:Or)(a:E)(lo:Eo)(hi:Eo)(σ:Env)(h:Hp):ag C (.sl a lo hi) σ h=((ag C a σ h).bind fun x h=>(gp C lo σ h).bind fun l h=>(gp C hi σ h).gy.bind fun u h=>slice x l u h):=rfl
@[simp] theorem bf(C:Or)(f:Nat)(es:Es)(σ:Env)(h:Hp):ag C (.call f es) σ h=((bS C es σ h).bind fun xs h=>C f xs h):=rfl
@[simp] theorem D5(C:Or)(b:B)(a:E)(σ:Env)(h:Hp):ag C (.blt b a) σ h=((ag C a σ h).bind fun x h=>builtin b x h):=rfl
@[simp] theorem qX(C:Or)(m:Mt)(o:E)(es:Es)(σ:Env)(h:Hp):ag C (.ik m o es) σ h=((ag C o σ h).bind fun x h=>if mG m x h then (bS C es σ h).bind fun xs h=>method m x xs h else .bad):=rfl
theorem iw(C:Or)(elt:E)(it:It)(c:Eo)(σ:Env)(h:Hp):ag C (.comp elt it c) σ h=((dJ C it σ h).bind fun s h=>(walk s (iG (gp C c) (ag C elt) σ) h).bind eL):=rfl
@[simp] theorem qK(C:Or)(σ:Env)(h:Hp):ag C .bad σ h=.bad:=rfl
@[simp] theorem NB(C:Or)(a:E)(x:S)(σ:Env)(h:Hp):ag C (.fld a x) σ h=((ag C a σ h).bind fun w h=>R.of (field w x h) h):=rfl
@[simp] theorem HZ(C:Or)(c:S)(f:Nat)(es:Es)(σ:Env)(h:Hp):ag C (.mk c f es) σ h=((bS C es σ h).bind fun xs h=>(C f (.ref h.length::xs) (h++[.ins c []])).bind fun r h'=>match r with
  |.aw=>.ok (.ref h.length) h'
  |_=>.bad):=rfl
@[simp] theorem Ex(C:Or)(a:E)(ns ds cs:List S)(σ:Env)(h:Hp):ag C (.ki a ns ds cs) σ h=((ag C a σ h).bind fun x h=>R.of ((mT x ds cs h).map .bl) h):=rfl
@[simp] theorem Av(C:Or)(i:Nat)(es:Es)(σ:Env)(h:Hp):ag C (.oo i es) σ h=(match σ[i]? with
  |some (some (.ref a))=>match h[a]? with
   |some (.fun f ws)=>(bS C es σ h).bind fun xs h=>C f (xs++ws) h
   |_=>.bad
  |_=>.bad):=rfl
@[simp] theorem Lm(C:Or)(a b c:E)(σ:Env)(h:Hp):ag C (.chain a b c) σ h=((ag C a σ h).bind fun x h=>(ag C b σ h).bind fun y h=>match x,y with
  |.int i,.int j=>if i<=j then (ag C c σ h).bind fun z h=>(match z with
   |.int k=>.ok (.bl (decide (j<k))) h
   |_=>.bad) else .ok (.bl false) h
  |_,_=>.bad):=rfl
@[simp] theorem AD(C:Or)(a b:E)(σ:Env)(h:Hp):ag C (.vk a b) σ h=((ag C a σ h).bind fun x h=>(ag C b σ h).bind fun y h=>match x,y with
  |.int i,.int j=>if 0<=i/\i<1000/\0<=j/\j<1000 then new (.lst (upTo i (j-i).toNat)) h else .bad
  |_,_=>.bad):=rfl
@[simp] theorem B6(C:Or)(e:E)(σ:Env)(h:Hp):dJ C (.rev e) σ h=((ag C e σ h).bind fun x h=>match x with
  |.tup xs=>.ok (.fix xs.reverse) h
  |_=>.bad):=rfl
@[simp] theorem fT(C:Or)(σ:Env)(h:Hp):gp C .none σ h=(.ok none h):=rfl
@[simp] theorem gM(C:Or)(e:E)(σ:Env)(h:Hp):gp C (.some e) σ h=((ag C e σ h).bind fun x h=>.ok (some x) h):=rfl
@[simp] theorem lH(C:Or)(σ:Env)(h:Hp):bS C .nil σ h=.ok [] h:=rfl
@[simp] theorem ai(C:Or)(e:E)(es:Es)(σ:Env)(h:Hp):bS C (.cons e es) σ h=((ag C e σ h).bind fun x h=>(bS C es σ h).bind fun xs h=>.ok (x::xs) h):=rfl
@[simp] theorem ua(C:Or)(e:E)(σ:Env)(h:Hp):dJ C (.seq e) σ h=((ag C e σ h).bind fun x h=>R.of (src h x) h):=rfl
@[simp] theorem ly(C:Or)(e:E)(σ:Env)(h:Hp):dJ C (.iT e) σ h=((ag C e σ h).bind fun x h=>match x with
  |.int j=>if iH j then .ok (.fix (upTo 0 j.toNat)) h else .bad
  |_=>.bad):=rfl
@[simp] def rj(t:Tg)(x:W)(σ:Env):Option Env:=match t with
 |.var i=>some (σ.set i (some x))
@[simp] noncomputable def turn(t:Tg)(k:Env->Hp->R Fl)(x:W)(σ:Env)(h:Hp)(go:Env->Hp->R Fl):R Fl:=match rj t x σ with
 |none=>.bad
 |some σ=>(k σ h).bind fun f h=>match f with
  |.next σ=>go σ h
  |.cont σ=>go σ h
  |.brk σ=>.ok (.next σ) h
  |.ret w=>.ok (.ret w) h
@[simp] def cX(t:Tg)(k:Env->Hp->R Fl):List W->Env->Hp->R Fl
 |[],σ,h=>.ok (.next σ) h
 |x::xs,σ,h=>turn t k x σ h (cX t k xs)
noncomputable def dZ(a:Nat)(t:Tg)(k:Env->Hp->R Fl):Nat->Nat->Env->Hp->R Fl
 |n,i,σ,h=>match dO h a with
  |none=>.bad
  |some ys=>match ys[i]? with
   |none=>.ok (.next σ) h
   |some x=>match n with
    |0=>.bad
    |n+1=>turn t k x σ h (dZ a t k n (i+1))
noncomputable def iR(c:Env->Hp->R W)(b:Env->Hp->R Fl):Nat->Env->Hp->R Fl
 |0,_,_=>.bad
 |n+1,σ,h=>(c σ h).bind fun x h=>match truth h x with
  |some true=>(b σ h).bind fun f h=>match f with
   |.next σ=>iR c b n σ h
   |.cont σ=>iR c b n σ h
   |.brk σ=>.ok (.next σ) h
   |.ret w=>.ok (.ret w) h
  |some false=>.ok (.next σ) h
  |none=>.bad
def FU:Nat:=2 ^ 60
@[simp] def turns(s:Src)(t:Tg)(k:Env->Hp->R Fl)(σ:Env)(h:Hp):R Fl:=match s with
 |.fix xs=>cX t k xs σ h
 |.at a n=>dZ a t k n 0 σ h
@[simp] def GG(C:Or)(σ:Env)(h:Hp):Hs->R Fl
 |.ret e=>(ag C e σ h).bind fun w h=>.ok (.ret w) h
 |.set i e=>(ag C e σ h).bind fun w h=>.ok (.next (σ.set i (some w))) h
@[simp] def oV(C:Or):List Hs->Env->Hp->R Fl
 |[],σ,h=>.ok (.next σ) h
 |a::r,σ,h=>(GG C σ h a).bind fun f h=>match f with
  |.next σ=>oV C r σ h
  |f=>.ok f h
@[simp] def lx(c:S):List Hd->Option (Nat×List Hs)
 |[]=>none
 |(_,cs,j,a)::r=>if cs.contains c then some (j,a) else lx c r
@[simp] def LF(j:Nat):Fl->Fl
 |.next σ=>.next (σ.set j none)
 |.brk σ=>.brk (σ.set j none)
 |.cont σ=>.cont (σ.set j none)
 |.ret w=>.ret w
noncomputable def m5(hs:List Hd)(C:Or)(σ:Env)(m:R Fl):R Fl:=match m with
 |.ok (.next _) h=>.ok (.next σ) h
 |.ok (.ret w) h=>.ok (.ret w) h
 |.ok _ _=>.bad
 |.aI a h=>match h[a]? with
  |some (.aI c _)=>match lx c hs with
   |some (j,act)=>(oV C act (σ.set j (some (.ref a))) h).gy.bind fun fl h=>.ok (LF j fl) h
   |none=>.bad
  |_=>.bad
 |.bad=>.bad
@[simp] def uI(C:Or)(σ:Env)(h:Hp):Tb->R Fl
 |.uw f es=>(bS C es σ h).gy.bind fun xs h=>(C f xs h).bind fun w h=>.ok (.ret w) h
@[simp] def iI(C:Or)(σ:Env):List Tb->Hp->R Fl
 |[],h=>.ok (.next σ) h
 |t::r,h=>(uI C σ h t).bind fun f h=>match f with
  |.next _=>iI C σ r h
  |f=>.ok f h
def j0(σ:Env):List Nat->Option (List W)
 |[]=>some []
 |i::r=>match σ[i]?,j0 σ r with
  |some (some w),some ws=>some (w::ws)
  |_,_=>none
def pZ(i:Nat):R W->R Fl
 |.ok w h=>.ok (.ret w) (h.set i .dead)
 |.aI a h=>.aI a (h.set i .dead)
 |.bad=>.bad
noncomputable def iE(c:S)(xs:List S)(ws:List W)(h:Hp):R Fl:=if ws.length=xs.length then .aI h.length (h++[.aI c (xs.zip ws)]) else .bad
mutual
noncomputable def eM(C:Or):St->Env->Hp->R Fl
 |.expr e,σ,h=>(ag C e σ h).bind fun _ h=>.ok (.next σ) h
 |.ret e,σ,h=>(ag C e σ h).bind fun x h=>.ok (.ret x) h
 |.set i e,σ,h=>(ag C e σ h).bind fun x h=>.ok (.next (σ.set i (some x))) h
 |.put o k e,σ,h=>(ag C e σ h).bind fun v h=>(ag C o σ h).bind fun x h=>(ag C k σ h).bind fun y h=>(kH x y v h).bind fun _ h=>.ok (.next σ) h
 |.iff c a b,σ,h=>(ag C c σ h).bind fun x h=>match truth h x with
  |some true=>av C a σ h
  |some false=>av C b σ h
  |none=>.bad
 |.for t it b,σ,h=>(dJ C it σ h).bind fun s h=>turns s t (av C b) σ h
 |.bad,_,_=>.bad
 |.fput o x e,σ,h=>(ag C e σ h).bind fun v h=>(ag C o σ h).bind fun w h=>(putField w x v h).bind fun _ h=>.ok (.next σ) h
 |.tq c b,σ,h=>iR (ag C c) (av C b) FU σ h
 |.raise c xs es,σ,h=>(bS C es σ h).bind fun ws h=>iE c xs ws h
 |.qO b hs,σ,h=>m5 hs C σ (iI C σ b h)
 |.pq i j k e,σ,h=>(ag C e σ h).bind fun x h=>match x with
  |.tup [u,v,w]=>.ok (.next (((σ.set i (some u)).set j (some v)).set k (some w))) h
  |_=>.bad
 |.kY j fw a b f ks,σ,h=>(ag C a (σ.set j none) h).bind fun x h=>(ag C b (σ.set j none) h).bind fun y h=>match j0 (σ.set j none) ks with
  |some ws=>pZ h.length (C fw [x,y,.ref h.length] (h++[.fun f ws]))
  |none=>.bad
noncomputable def av(C:Or):List St->Env->Hp->R Fl
 |[],σ,h=>.ok (.next σ) h
 |s::r,σ,h=>(eM C s σ h).bind fun f h=>match f with
  |.next σ=>av C r σ h
  |f=>.ok f h
end
@[simp] theorem oZ(C:Or)(e:E)(σ:Env)(h:Hp):eM C (.expr e) σ h=((ag C e σ h).bind fun _ h=>.ok (.next σ) h):=rfl
@[simp] theorem vH(C:Or)(e:E)(σ:Env)(h:Hp):eM C (.ret e) σ h=((ag C e σ h).bind fun x h=>.ok (.ret x) h):=rfl
@[simp] theorem wO(C:Or)(i:Nat)(e:E)(σ:Env)(h:Hp):eM C (.set i e) σ h=((ag C e σ h).bind fun x h=>.ok (.next (σ.set i (some x))) h):=rfl
@[simp] theorem NC(C:Or)(o:E)(k:E)(e:E)(σ:Env)(h:Hp):eM C (.put o k e) σ h=((ag C e σ h).bind fun v h=>(ag C o σ h).bind fun x h=>(ag C k σ h).bind fun y h=>(kH x y v h).bind fun _ h=>.ok (.next σ) h):=rfl
@[simp] theorem eR(C:Or)(c:E)(a:List St)(b:List St)(σ:Env)(h:Hp):eM C (.iff c a b) σ h=((ag C c σ h).bind fun x h=>match truth h x with
  |some true=>av C a σ h
  |some false=>av C b σ h
  |none=>.bad):=rfl
theorem jt(C:Or)(t:Tg)(it:It)(b:List St)(σ:Env)(h:Hp):eM C (.for t it b) σ h=((dJ C it σ h).bind fun s h=>turns s t (av C b) σ h):=rfl
@[simp] theorem Nx(C:Or)(σ:Env)(h:Hp):eM C .bad σ h=.bad:=rfl
@[simp] theorem Nj(C:Or)(o:E)(x:S)(e:E)(σ:Env)(h:Hp):eM C (.fput o x e) σ h=((ag C e σ h).bind fun v h=>(ag C o σ h).bind fun w h=>(putField w x v h).bind fun _ h=>.ok (.next σ) h):=rfl
theorem qQ(C:Or)(c:E)(b:List St)(σ:Env)(h:Hp):eM C (.tq c b) σ h=iR (ag C c) (av C b) FU σ h:=rfl
theorem mD(C:Or)(c:S)(xs:List S)(es:Es)(σ:Env)(h:Hp):eM C (.raise c xs es) σ h=((bS C es σ h).bind fun ws h=>iE c xs ws h):=rfl
theorem Ay(C:Or)(b:List Tb)(hs:List Hd)(σ:Env)(h:Hp):eM C (.qO b hs) σ h=m5 hs C σ (iI C σ b h):=rfl
@[simp] theorem uC(C:Or)(i j k:Nat)(e:E)(σ:Env)(h:Hp):eM C (.pq i j k e) σ h=((ag C e σ h).bind fun x h=>match x with
  |.tup [u,v,w]=>.ok (.next (((σ.set i (some u)).set j (some v)).set k (some w))) h
  |_=>.bad):=rfl
theorem qA(C:Or)(j fw:Nat)(a b:E)(f:Nat)(ks:List Nat)(σ:Env)(h:Hp):eM C (.kY j fw a b f ks) σ h=((ag C a (σ.set j none) h).bind fun x h=>(ag C b (σ.set j none) h).bind fun y h=>match j0 (σ.set j none) ks with
  |some ws=>pZ h.length (C fw [x,y,.ref h.length] (h++[.fun f ws]))
  |none=>.bad):=rfl
@[simp] theorem AI(C:Or)(σ:Env)(h:Hp):av C [] σ h=.ok (.next σ) h:=rfl
@[simp] theorem aN(C:Or)(s:St)(r:List St)(σ:Env)(h:Hp):av C (s::r) σ h=((eM C s σ h).bind fun f h=>match f with
  |.next σ=>av C r σ h
  |f=>.ok f h):=rfl
structure Fn where
 ps:Nat
 ns:Nat
 body:List St
def aB(C:Or)(f:Fn)(xs:List W)(h:Hp):R W:=
 if xs.length=f.ps then (av C f.body (xs.map some++List.replicate (f.ns-f.ps) none) h).bind fun fl h=>match fl with
  |.next _=>.ok .aw h
  |.ret w=>.ok w h
  |_=>.bad
 else .bad
def run(T:List Fn):Nat->Or
 |0,_,_,_=>.bad
 |k+1,f,xs,h=>match T[f]? with
  |some fn=>aB (run T k) fn xs h
  |none=>.bad
end Tw
namespace TwS
open PySem L2
def LV(x:Tw.S):Prop:=∀c∈x,c<0x110000
def TupAt(K:W.Frag)(H:L2.Hp)(a:Addr)(xs:List V):Prop:=
 H a=some (.tup xs)\/∃(o:Obj) (its:Array Value) (n:Nat),K.lookup a=some o/\o.cls=.type "tuple" /\o.data=.seq its n/\its.size<=sizeLine/\Vals xs its.toList
theorem TupAt.sq(t:TupAt K H a xs):dW K H a xs:=by
 rcases t with t|t
 .exact dW.of t
 .exact .inr t
mutual
inductive RW(K:W.Frag)(ι:Nat->Addr)(n:Nat)(H:L2.Hp):Tw.W->V->Prop
 |aw:RW K ι n H .aw .aw
 |bl (b:Bool):RW K ι n H (.bl b) (.bl b)
 |int (i:Int):RW K ι n H (.int i) (.int i)
 |str (x:Tw.S) (hx:LV x):RW K ι n H (.str x) (.str ⟨x.toArray⟩)
 |tup {a:Addr}{xs:List V}{ws:List Tw.W}:TupAt K H a xs->aT K ι n H ws xs->RW K ι n H (.tup ws) (.ref a)
 |ref {i:Nat}:i<n->RW K ι n H (.ref i) (.ref (ι i))
inductive aT(K:W.Frag)(ι:Nat->Addr)(n:Nat)(H:L2.Hp):List Tw.W->List V->Prop
 |nil:aT K ι n H [] []
 |cons {w:Tw.W}{v:V}{ws:List Tw.W}{vs:List V}:RW K ι n H w v->aT K ι n H ws vs->aT K ι n H (w::ws) (v::vs)
end
structure Keeps(ι:Nat->Addr)(n:Nat)(H:L2.Hp)(ι':Nat->Addr)(n':Nat)(H':L2.Hp):Prop where
 le:n<=n'
 same:∀i,i<n->ι' i=ι i
 tup:∀a xs,H a=some (.tup xs)->H' a=some (.tup xs)
theorem Keeps.wW{ι ι':Nat->Addr}(k:Keeps ι n H ι' n' H')(t:TupAt K H a xs):TupAt K H' a xs:=t.imp (k.tup a xs) id
section
variable {K:W.Frag}{ι ι':Nat->Addr}{n n':Nat}{H H':L2.Hp}
mutual
theorem RW.keep(k:Keeps ι n H ι' n' H'):∀{w:Tw.W}{v:V},RW K ι n H w v->RW K ι' n' H' w v
 |_,_,.aw=>.aw
 |_,_,.bl b=>.bl b
 |_,_,.int i=>.int i
 |_,_,.str x hx=>.str x hx
 |_,_,.tup e r=>.tup (k.wW e) (aT.keep k r)
 |_,_,.ref (i:=i) h=>by rw[<-k.same i h];exact .ref (cH h k.le)
theorem aT.keep(k:Keeps ι n H ι' n' H'):∀{ws:List Tw.W}{vs:List V},aT K ι n H ws vs->aT K ι' n' H' ws vs
 |_,_,.nil=>.nil
 |_,_,.cons a r=>.cons (RW.keep k a) (aT.keep k r)
end
theorem aT.length:∀{ws:List Tw.W}{vs:List V},aT K ι n H ws vs->ws.length=vs.length
 |_,_,.nil=>rfl
 |_,_,.cons _ r=>c9 (·+ 1) r.length
theorem aT.get:∀{ws:List Tw.W}{vs:List V}{i:Nat}{w:Tw.W},aT K ι n H ws vs->ws[i]?=some w->∃v,vs[i]?=some v/\RW K ι n H w v
 |_,_,_,_,.nil,e=>by simp at e
 |_,_,0,_,.cons a _,e=>by simp at e;subst e;exact⟨_,rfl,a⟩
 |_,_,i+1,w,.cons _ r,e=>by
  obtain⟨v,h1,h2⟩:=aT.get (i:=i) (w:=w) r (by simpa using e);exact⟨v,by simpa using h1,h2⟩
theorem aT.append:∀{ws us:List Tw.W}{vs xs:List V},aT K ι n H ws vs->aT K ι n H us xs->aT K ι n H (ws++us) (vs++xs)
 |_,_,_,_,.nil,s=>s
 |_,_,_,_,.cons a r,s=>.cons a (aT.append r s)
theorem aT.take:∀{ws:List Tw.W}{vs:List V}(k:Nat),aT K ι n H ws vs->aT K ι n H (ws.take k) (vs.take k)
 |_,_,0,_=>.nil
 |_,_,_+1,.nil=>.nil
 |_,_,k+1,.cons a r=>.cons a (aT.take k r)
theorem aT.drop:∀{ws:List Tw.W}{vs:List V}(k:Nat),aT K ι n H ws vs->aT K ι n H (ws.drop k) (vs.drop k)
 |_,_,0,r=>r
 |_,_,_+1,.nil=>.nil
 |_,_,k+1,.cons _ r=>aT.drop k r
theorem aT.set(a:RW K ι n H w v):∀{ws:List Tw.W}{vs:List V}(i:Nat),aT K ι n H ws vs->aT K ι n H (ws.set i w) (vs.set i v)
 |_,_,_,.nil=>.nil
 |_,_,0,.cons _ r=>.cons a r
 |_,_,i+1,.cons b r=>.cons b (aT.set a i r)
end
inductive RD(K:W.Frag)(ι:Nat->Addr)(n:Nat)(H:L2.Hp):List (Tw.W×Tw.W)->List (Key×V)->Prop
 |nil:RD K ι n H [] []
 |cons {k w:Tw.W}{q:Key}{v:V}{kvs:List (Tw.W×Tw.W)}{xs:List (Key×V)}:q∉xs.map (·.1)->RW K ι n H k (kV q)->RW K ι n H w v->RD K ι n H kvs xs->RD K ι n H ((k,w)::kvs) ((q,v)::xs)
theorem RD.keep{ι ι':Nat->Addr}(k:Keeps ι n H ι' n' H'):∀{kvs:List (Tw.W×Tw.W)}{xs:List (Key×V)},RD K ι n H kvs xs->RD K ι' n' H' kvs xs
 |_,_,.nil=>.nil
 |_,_,.cons m e a r=>.cons m (e.keep k) (a.keep k) (RD.keep k r)
def rU(K:W.Frag)(H:L2.Hp)(a:Addr)(xs:List V):Prop:=
 (∃o,H a=some (.bh o (.lst xs)))\/
  ∃(o:Obj) (its:Array Value) (n:Nat),K.lookup a=some o/\o.cls=.type "list" /\o.dict=none/\o.data=.seq its n/\its.size<=sizeLine/\Vals xs its.toList
theorem rU.sq(s:rU K H a xs):dh K H a xs:=by
 rcases s with s|s
 .exact .inl (.inr s)
 .exact .inr s
inductive RF(K:W.Frag)(ι:Nat->Addr)(n:Nat)(H:L2.Hp):List (Tw.S×Tw.W)->List (Str×V)->Prop
 |nil:RF K ι n H [] []
 |cons {x:Tw.S}{w:Tw.W}{v:V}{fs:List (Tw.S×Tw.W)}{gs:List (Str×V)}:RW K ι n H w v->RF K ι n H fs gs->RF K ι n H ((x,w)::fs) ((⟨x.toArray⟩,v)::gs)
theorem RF.keep{ι ι':Nat->Addr}(k:Keeps ι n H ι' n' H'):∀{fs:List (Tw.S×Tw.W)}{gs:List (Str×V)},RF K ι n H fs gs->RF K ι' n' H' fs gs
 |_,_,.nil=>.nil
 |_,_,.cons a r=>.cons (a.keep k) (RF.keep k r)
theorem RF.length{ι:Nat->Addr}:∀{fs:List (Tw.S×Tw.W)}{gs:List (Str×V)},RF K ι n H fs gs->fs.length=gs.length
 |_,_,.nil=>rfl
 |_,_,.cons _ r=>c9 (·+ 1) r.length
structure Zk where
 K:W.Frag
 mg:Str->Option Value
 ex:XK
 cl:fu
abbrev zx(X:Cx)(E:XK):Zk:=⟨X.K,X.mg,E,X.cl⟩
noncomputable def vU:List Str:=["free", "definitions", "numbers"]
structure GoodC(K:W.Frag)(C:Addr):Prop where
 cls:uZ K C
 no:∀f∈vU,jU K C f
noncomputable def mI(C:Addr)(dx:Option Addr)(e:Addr):HO:=.ext fun h=>∃o vs,h.get? e=some o/\o.cls=.ref C/\o.dict=dx/\o.data=.fields vs
def XD(H:L2.Hp)(gs:List (Str×V)):Option Addr->Prop
 |some d=>H d=some (.xd gs)
 |none=>gs=[]
theorem XD.keep(q:XD H gs dx)(s:∀b u,(∃gs,u=HO.xd gs)->H b=some u->H1 b=some u):XD H1 gs dx:=by
 cases dx with
 |none=>exact q
 |some d=>exact s _ _ ⟨_,rfl⟩ q
noncomputable def e8:Tw.O->Bool
 |.bh _=>false
 |.aI _ _=>false
 |.fun _ _=>false
 |.dead=>false
 |_=>true
noncomputable def RO(K:Zk)(ι:Nat->Addr)(n:Nat)(H:L2.Hp)(a:Addr):Tw.O->Prop
 |.lst ws=>∃xs,H a=some (.lst xs)/\aT K.K ι n H ws xs
 |.bh ws=>∃xs,rU K.K H a xs/\aT K.K ι n H ws xs
 |.eV kvs=>∃xs,H a=some (.dK xs)/\RD K.K ι n H kvs xs
 |.ins c fs=>∃C dx gs,(K.mg ⟨c.toArray⟩=some (.ref C)/\GoodC K.K C)/\H a=some (.ins C dx gs)/\RF K.K ι n H fs gs
 |.aI c fs=>∃C dx gs,K.mg ⟨c.toArray⟩=some (.ref C)/\H a=some (mI C dx a)/\XD H gs dx/\RF K.K ι n H fs gs
 |.fun _ _=>True
 |.dead=>True
def eS(H:L2.Hp)(c:Addr)(q:Str):Prop:=∃oc vs t,H c=some (.bh oc (.own c))/\oc.data=.fields vs/\vs[1]?=some (.str q t)
def p6(H:L2.Hp)(t:jY):Prop:=∃ps,H t.P=some (.eD ps)/\TriplesOk ps.toList/\∀pos cv,codeAmong pos ps.toList=some cv->∃c,cv=.ref c/\eS H c t.q
def sS(K:Zk)(ι:Nat->Addr)(n:Nat)(H:L2.Hp)(i:Nat)(f:Nat)(ws:List Tw.W):Prop:=∃c,K.cl.fs i=some c/\c.g=ι i/\c.f=f/\aT K.K ι n H ws c.vs/\eS H c.cd c.q
theorem eS.keep(x:eS H c q)(s:∀b o u,H b=some (.bh o u)->H1 b=some (.bh o u)):eS H1 c q:=
 let ⟨oc,vs,t,e,r⟩:=x;⟨oc,vs,t,s _ _ _ e,r⟩
theorem p6.keep(x:p6 H t)(s:∀b o u,H b=some (.bh o u)->H1 b=some (.bh o u))(e1:∀ps,H t.P=some (.eD ps)->H1 t.P=some (.eD ps)):p6 H1 t:=by obtain⟨ps,e,r⟩:=x;exact⟨ps,e1 _ e,r.1,fun pos cv q=>let ⟨c,r1,r2⟩:=r.2 pos cv q;⟨c,r1,r2.keep s⟩⟩
theorem sS.keep{ι ι':Nat->Addr}(x:sS K ι n H i f ws)(k:Keeps ι n H ι' n' H1)(hi:i<n)(s:∀b o u,H b=some (.bh o u)->H1 b=some (.bh o u)):sS K ι' n' H1 i f ws:=by obtain⟨c,e1,e2,e3,e4,e5⟩:=x;exact⟨c,e1,e2.trans (k.same i hi).symm,e3,e4.keep k,e5.keep s⟩
structure HR(K:Zk)(ι:Nat->Addr)(h:Tw.Hp)(H:L2.Hp):Prop where
 obj:∀(i:Nat)(o:Tw.O),h[i]?=some o->RO K ι h.length H (ι i) o
 inj:∀(i j:Nat)(o u:Tw.O),h[i]?=some o->h[j]?=some u->e8 o=true->e8 u=true->ι i=ι j->i=j
 tab:∀t∈K.cl.tb,p6 H t
 fn:∀(i f:Nat)(ws:List Tw.W),h[i]?=some (.fun f ws)->sS K ι h.length H i f ws
structure Ext(ι:Nat->Addr)(h:Tw.Hp)(H:L2.Hp)(ι':Nat->Addr)(h':Tw.Hp)(H':L2.Hp):Prop where
 len:h.length<=h'.length
 same:∀i,i<h.length->ι' i=ι i
 fr:∀b u,H b=some u->(∀ps,u≠.eD ps)->(∀(i:Nat)(o:Tw.O),h[i]?=some o->e8 o=true->ι i≠b)->H' b=some u
 new:∀i,h.length<=i->i<h'.length->H (ι' i)=none
 uH:∀b,H' b=none->H b=none
 fz:∀(i:Nat)(o u:Tw.O),h[i]?=some o->h'[i]?=some u->e8 u=e8 o
section
variable {K:Zk}{ι ι1 ι2:Nat->Addr}{h h1 h2:Tw.Hp}{H H1 H2:L2.Hp}
theorem eG(e:h[i]?=some o):i<h.length:=(ib.mp e).1
theorem Ext.refl(ι:Nat->Addr)(h:Tw.Hp)(H:L2.Hp):Ext ι h H ι h H:=
 ⟨aV _,fun _ _=>rfl,fun _ _ e _ _=>e,fun i a b=>absurd b (jT.mpr a),fun _ e=>e,fun i o u e f=>by rw[e] at f;cases f;rfl⟩
theorem Ext.trans(a:Ext ι h H ι1 h1 H1)(b:Ext ι1 h1 H1 ι2 h2 H2):Ext ι h H ι2 h2 H2 where
 len:=bW a.len b.len
 same:=fun i hi=>(b.same i (cH hi a.len)).trans (a.same i hi)
 fr:=fun c u e t n=>b.fr c u (a.fr c u e t n) t fun i o e1 m z=>by
  by_cases hi:i<h.length
  .obtain⟨o',eo⟩:∃o',h[i]?=some o':=⟨_,gJ hi⟩;rw[a.same i hi] at z;exact n i o' eo (by rw[<-a.fz i o' o eo e1];exact m) z
  .have q:=a.new i (jT.mp hi) (eG e1);rw[z,e] at q;cases q
 new:=fun i h1' h2'=>by
  by_cases hi:i<h1.length
  .rw[b.same i hi];exact a.new i h1' hi
  .exact a.uH _ (b.new i (jT.mp hi) h2')
 uH:=fun c e=>a.uH c (b.uH c e)
 fz:=fun i o u e f=>by
  obtain⟨v,ev⟩:∃v,h1[i]?=some v:=⟨_,gJ (cH (eG e) a.len)⟩;rw[b.fz i v u ev f,a.fz i o v e ev]
theorem HR.there(r:HR K ι h H)(e:h[i]?=some o)(m:e8 o=true):∃u,H (ι i)=some u/\(∀xs,u≠.tup xs)/\(∀o v,u≠.bh o v)/\(∀gs,u≠.xd gs)/\(∀φ,u≠.ext φ)/\∀ps,u≠.eD ps:=by
 have q:=r.obj i o e;cases o with
 |lst ws=>obtain⟨xs,q,_⟩:=q;exact⟨_,q,(fun _ z=>nomatch z),(fun _ _ z=>nomatch z),(fun _ z=>nomatch z),(fun _ z=>nomatch z),fun _ z=>nomatch z⟩
 |bh ws=>cases m
 |eV kvs=>obtain⟨xs,q,_⟩:=q;exact⟨_,q,(fun _ z=>nomatch z),(fun _ _ z=>nomatch z),(fun _ z=>nomatch z),(fun _ z=>nomatch z),fun _ z=>nomatch z⟩
 |ins c fs=>obtain⟨C,dx,gs,_,q,_⟩:=q;exact⟨_,q,(fun _ z=>nomatch z),(fun _ _ z=>nomatch z),(fun _ z=>nomatch z),(fun _ z=>nomatch z),fun _ z=>nomatch z⟩
 |aI c fs=>cases m
 | «fun» f ws=>cases m
 |dead=>cases m
theorem Ext.keeps(r:HR K ι h H)(a:Ext ι h H ι1 h1 H1):Keeps ι h.length H ι1 h1.length H1:=
 ⟨a.len,a.same,fun b xs e=>a.fr b _ e (fun _ z=>nomatch z) fun i o eo m z=>by
  obtain⟨u,q,n,_⟩:=r.there eo m;rw[z,e] at q;cases q;exact n _ rfl⟩
theorem dU(hp:H p=none):∀b u,H b=some u->upd H p o b=some u:=fun b u e=>by
 rw[aJ (fc e hp)];exact e
theorem kS:∀b,upd H p o b=none->H b=none:=fun b e=>by
 by_cases z:b=p
 .subst z;rw[bP] at e;cases e
 .rw[aJ z] at e;exact e
theorem rU.keep{K:W.Frag}{H H1:L2.Hp}{a:Addr}{xs:List V}(s:rU K H a xs)(k:∀u,H a=some u->H1 a=some u):rU K H1 a xs:=by
 rcases s with ⟨o,s⟩|s
 .exact .inl ⟨o,k _ s⟩
 .exact .inr s
theorem RO.keep(r:RO K ι n H a o)(k:Keeps ι n H ι1 n' H1)(s:∀b u,(b=a\/∃gs,u=HO.xd gs)->H b=some u->H1 b=some u):RO K ι1 n' H1 a o:=by
 cases o with
 |lst ws=>obtain⟨xs,q,z⟩:=r;exact⟨xs,s _ _ (.inl rfl) q,z.keep k⟩
 |bh ws=>obtain⟨xs,q,z⟩:=r;exact⟨xs,rU.keep q (fun u=>s _ u (.inl rfl)),z.keep k⟩
 |eV kvs=>obtain⟨xs,q,z⟩:=r;exact⟨xs,s _ _ (.inl rfl) q,z.keep k⟩
 |ins c fs=>obtain⟨C,dx,gs,q0,q,z⟩:=r;exact⟨C,dx,gs,q0,s _ _ (.inl rfl) q,z.keep k⟩
 |aI c fs=>obtain⟨C,dx,gs,q0,q,qd,z⟩:=r;exact⟨C,dx,gs,q0,s _ _ (.inl rfl) q,XD.keep qd fun b u hb=>s b u (.inr hb),z.keep k⟩
 | «fun» f ws=>trivial
 |dead=>trivial
theorem HR.grow(r:HR K ι h H)(hp:H p=none):HR K ι h (upd H p o)/\Ext ι h H ι h (upd H p o):=by have e:Ext ι h H ι h (upd H p o):=⟨aV _,fun _ _=>rfl,fun b u q _ _=>dU hp b u q,fun i a b=>absurd b (jT.mpr a),kS,fun i o u e f=>by rw[e] at f;cases f;rfl⟩;exact⟨⟨fun i u q=>(r.obj i u q).keep (e.keeps r) fun b v _ z=>dU hp b v z,r.inj,fun t ht=>(r.tab t ht).keep (fun b o u=>dU hp b _) fun ps=>dU hp _ _,fun i f ws q=>(r.fn i f ws q).keep (e.keeps r) (eG q) fun b o u=>dU hp b _⟩,e⟩
noncomputable def c4(ι:Nat->Addr)(n:Nat)(p:Addr):Nat->Addr:=fun i=>if i=n then p else ι i
theorem bH(h:i<n):c4 ι n p i=ι i:=if_neg (dr h)
theorem cg:c4 ι n p n=p:=if_pos rfl
theorem HR.F6(r:HR K ι h H)(hp:H p=none)(nf:∀f ws,u≠.fun f ws)(ro:∀ι' n' H',Keeps ι h.length H ι' n' H'->(∀b v,H b=some v->H' b=some v)->H' p=some o->RO K ι' n' H' p u):
  HR K (c4 ι h.length p) (h++[u]) (upd H p o)/\Ext ι h H (c4 ι h.length p) (h++[u]) (upd H p o):=by
 have hl:(h++[u]).length=h.length+1:=by simp
 have cases2:∀{i:Nat}{v:Tw.O},(h++[u])[i]?=some v->(i<h.length/\h[i]?=some v)\/(i=h.length/\v=u):=fun {i v} e=>by
  have hi:=eG e;by_cases z:i<h.length
  .rw[gi z] at e;exact .inl ⟨z,e⟩
  .have z':i=h.length:=by omega
   subst z';simp at e;exact .inr ⟨rfl,e.symm⟩
 have e:Ext ι h H (c4 ι h.length p) (h++[u]) (upd H p o):=by
  refine⟨by omega,fun i hi=>bH hi,fun b v q _ _=>dU hp b v q,fun i h1 h2=>?_,kS,fun i v w e f=>?_⟩
  .have:i=h.length:=by omega
   subst this;rw[cg];exact hp
  .rcases cases2 f with ⟨_,f⟩|⟨f,_⟩
   .rw[e] at f;cases f;rfl
   .have:=eG e;omega
 refine⟨⟨fun i v q=>?_,fun i j v w q1 q2 m1 m2 z=>?_,fun t ht=>(r.tab t ht).keep (fun b o u=>dU hp b _) fun ps=>dU hp _ _,fun i f ws q=>?_⟩,e⟩
 .rcases cases2 q with ⟨hi,q⟩|⟨rfl,rfl⟩
  .rw[bH hi];exact (r.obj i v q).keep (e.keeps r) fun b x _ z=>dU hp b x z
  .rw[cg];exact ro _ _ _ (e.keeps r) (fun b v q=>dU hp b v q) bP
 .rcases cases2 q1 with ⟨hi,p1⟩|⟨ei,ev⟩<;>rcases cases2 q2 with ⟨hj,p2⟩|⟨ej,ew⟩
  .rw[bH hi,bH hj] at z;exact r.inj i j v w p1 p2 m1 m2 z
  .rw[bH hi,ej,cg] at z;obtain⟨x,q,_,_⟩:=r.there p1 m1;rw[z,hp] at q;cases q
  .rw[ei,cg,bH hj] at z;obtain⟨x,q,_,_⟩:=r.there p2 m2;rw[<-z,hp] at q;cases q
  .rw[ei,ej]
 .rcases cases2 q with ⟨hi,q⟩|⟨_,q⟩
  .exact (r.fn i f ws q).keep (e.keeps r) hi fun b o u=>dU hp b _
  .exact absurd q.symm (nf f ws)
theorem HR.new(r:HR K ι h H)(hp:H p=none)(m:e8 u=true)(ro:∀ι' n' H',Keeps ι h.length H ι' n' H'->H' p=some o->RO K ι' n' H' p u):
  HR K (c4 ι h.length p) (h++[u]) (upd H p o)/\Ext ι h H (c4 ι h.length p) (h++[u]) (upd H p o):=r.F6 hp (fun f ws z=>by rw[z] at m;cases m) fun ι' n' H' k _ e=>ro ι' n' H' k e
theorem HR.put(r:HR K ι h H)(ei:h[i]?=some v)(mv:e8 v=true)(m:e8 u=true)(no:∀xs,o≠.tup xs)
  (ro:∀H',Keeps ι h.length H ι h.length H'->H' (ι i)=some o->RO K ι h.length H' (ι i) u):
  HR K ι (h.set i u) (upd H (ι i) o)/\Ext ι h H ι (h.set i u) (upd H (ι i) o):=by
 have hl:(h.set i u).length=h.length:=by simp
 obtain⟨x0,q0,n0,f0,d0,e0,t0⟩:=r.there ei mv;have sf:∀b o' u',H b=some (.bh o' u')->upd H (ι i) o b=some (.bh o' u'):=fun b o' u' e=>by
  rw[aJ (fun z=>by rw[z,q0] at e;cases e;exact f0 _ _ rfl)];exact e
 have kp:Keeps ι h.length H ι h.length (upd H (ι i) o):=⟨aV _,fun _ _=>rfl,fun a xs e=>by
  rw[aJ (fun z=>by rw[z,q0] at e;cases e;exact n0 _ rfl)];exact e⟩
 have look:∀{j:Nat}{w:Tw.O},(h.set i u)[j]?=some w->(j=i/\w=u)\/(j≠i/\h[j]?=some w):=fun {j w} e=>by
  by_cases z:j=i
  .subst z;rw[iV (eG ei)] at e;cases e;exact .inl ⟨rfl,rfl⟩
  .rw[iW (bo z)] at e;exact .inr ⟨z,e⟩
 have e:Ext ι h H ι (h.set i u) (upd H (ι i) o):=by
  refine⟨by omega,fun _ _=>rfl,fun b w q _ n=>?_,fun j a b=>absurd b (by rw[hl];exact jT.mpr a),kS,fun j w w' e f=>?_⟩
  .rw[aJ (fun z=>n i v ei mv z.symm)];exact q
  .rcases look f with ⟨rfl,rfl⟩|⟨_,f⟩
   .rw[ei] at e;cases e;rw[m,mv]
   .rw[e] at f;cases f;rfl
 refine⟨⟨fun j w q=>?_,fun j k w w' q1 q2 m1 m2 z=>?_,fun t ht=>(r.tab t ht).keep sf fun ps e=>by rw[aJ (fun z=>by rw[z,q0] at e;cases e;exact t0 _ rfl)];exact e,fun j f ws q=>?_⟩,e⟩
 .rw[hl];rcases look q with ⟨rfl,rfl⟩|⟨nj,q⟩
  .exact ro _ kp bP
  .by_cases U:ι j=ι i
   .by_cases mw:e8 w=true
    .exact absurd (r.inj j i w v q ei mw mv U) nj
    .cases w with
     |bh ws=>
      obtain⟨xs,sq,rr⟩:=r.obj j _ q;rcases sq with ⟨o',sq⟩|sq
      .rw[U,q0] at sq;cases sq;exact absurd rfl (f0 _ _)
      .exact⟨xs,.inr sq,rr.keep kp⟩
     |aI c fs=>
      obtain⟨C,dx,gs,_,z,_⟩:=r.obj j _ q;rw[U,q0] at z;cases z;exact absurd rfl (e0 _)
     | «fun» f ws=>trivial
     |dead=>trivial
     |_=>exact absurd rfl mw
   .exact (r.obj j w q).keep kp fun b y hb z=>by
     rw[aJ]
     .exact z
     .rcases hb with rfl|⟨gs,rfl⟩
      .exact U
      .intro y;rw[y,q0] at z;cases z;exact d0 _ rfl
 .have back:∀{j:Nat}{w:Tw.O},(h.set i u)[j]?=some w->e8 w=true->∃w',h[j]?=some w'/\e8 w'=true:=fun {j w} q mw=>by
   rcases look q with ⟨rfl,rfl⟩|⟨_,q⟩
   .exact⟨v,ei,mv⟩
   .exact⟨w,q,mw⟩
  obtain⟨a,qa,ma⟩:=back q1 m1;obtain⟨b,qb,mb⟩:=back q2 m2;exact r.inj j k a b qa qb ma mb z
 .rw[hl];rcases look q with ⟨_,q⟩|⟨_,q⟩
  .rw[<-q] at m;cases m
  .exact (r.fn j f ws q).keep kp (eG q) sf
end
end TwS
namespace TwS
open PySem L2 PyProof.Rows
theorem zY(o:Obj)(f:Array Value->Array Value):(o.mapFields f).dict=o.dict:=by obtain⟨c,d,dt,sl⟩:=o;cases dt<;>rfl
structure Gf(fs:List Addr)(e T:Addr)(h h':Heap):Prop where
 keep:∀b o,h.get? b=some o->b≠e->b≠T->b∉fs->h'.get? b=some o
 slot:∀b o,h.get? b=some o->b≠e->b≠T->∃sl,h'.get? b=some {o with slots:=sl}
 err:∀o vs,h.get? e=some o->o.data=.fields vs->∃o' ws,h'.get? e=some o'/\o'.cls=o.cls/\o'.dict=o.dict/\o'.data=.fields ws
def Tb(h0 h:Heap)(H:L2.Hp)(e:Addr)(fl:Value):Prop:=
 ∃oe vs T oT ts,h.get? e=some oe/\oe.data=.fields vs/\vs[1]?=some (.ref T)/\T≠e/\h0.get? T=none/\H T=none/\h.get? T=some oT/\oT.data=.fields ts/\ts[3]?=some fl
structure Fly0(P:Program)(w:World)(fs:List Addr)(H:L2.Hp)(s:Shared)(e C:Addr)(dx:Option Addr)(H':L2.Hp)(s':Shared):Prop where
 os:s'.os=s.os
 bare:AllBare s'.gens
 un:Un fs [] H H' s.heap s'.heap
 aD:dI P w H' s'.heap
 tr:H' e=some (mI C dx e)
 new:s.heap.get? e=none
structure f9(P:Program)(w:World)(fs:List Addr)(H:L2.Hp)(s:Shared)(e C:Addr)(dx:Option Addr)(fl:Value)(H':L2.Hp)(s':Shared):Prop extends Fly0 P w fs H s e C dx H' s' where
 tb:Tb s.heap s'.heap H' e fl
section
variable {P:Program}{w:World}{fs:List Addr}{H H':L2.Hp}{s s':Shared}{e C T:Addr}{dx:Option Addr}{h2:Heap}
theorem Fly0.chg(F:Fly0 P w fs H s e C dx H' s')(hf:∀b∈fs,H' b=none)(hT:s.heap.get? T=none)(hT':H' T=none)(c:Gf fs e T s'.heap h2):Fly0 P w fs H s e C dx H' {s' with heap:=h2}:=by
 have ne:∀b o,s.heap.get? b=some o->b≠e/\b≠T:=fun b o q=>⟨(fun z=>by rw[z,F.new] at q;cases q),(fun z=>by rw[z,hT] at q;cases q)⟩;have nt:∀b o,H' b=some o->b≠T/\b∉fs:=fun b o q=>⟨(fun z=>by rw[z,hT'] at q;cases q),(fun z=>by rw[hf b z] at q;cases q)⟩;refine⟨F.os,F.bare,⟨fun b o q n hb hx=>?_,fun b o q n hb hx=>?_,F.un.free,fun b o q hx=>?_,F.un.gj,F.un.fL,F.un.fS⟩,fun a o q=>?_,F.tr,F.new⟩
 .exact c.keep b o (F.un.keep b o q n hb hx) (ne b o q).1 (ne b o q).2 hb
 .obtain⟨sl,q1⟩:=F.un.slot b o q n hb hx;obtain⟨sl',q2⟩:=c.slot b _ q1 (ne b o q).1 (ne b o q).2;exact⟨sl',q2⟩
 .obtain⟨o1,q1⟩:=F.un.there b o q hx;obtain⟨sl',q2⟩:=c.slot b _ q1 (ne b o q).1 (ne b o q).2;exact⟨_,q2⟩
 .by_cases z:a=e
  .subst z;have q':=q;rw[F.tr] at q';cases q';obtain⟨⟨o1,vs,q1,q2,q3,q4⟩,_,st⟩:=F.aD a _ q;obtain⟨o2,ws,r1,r2,r3,r4⟩:=c.err o1 vs q1 q4;exact⟨⟨o2,ws,r1,r2.trans q2,r3.trans q3,r4⟩,⟨o2,r1⟩,st⟩
  .refine (F.aD a o q).gd (fun b u hb r=>?_) (fun _ q=>q) fun _ _ q=>q;rcases hb with rfl|hb
   .exact c.keep b u r z (nt b o q).1 (nt b o q).2
   .refine c.keep b u r (fun y=>?_) (nt b _ hb).1 (nt b _ hb).2;rw[y,F.tr] at hb;cases hb
theorem Fly0.back(F:Fly0 P w fs H s e C dx H' s')(hT:s'.heap.objs.size<=T):s.heap.get? T=none/\H' T=none:=by
 refine⟨?_,F.aD.fresh hT⟩;cases q:s.heap.get? T with
 |none=>rfl
 |some o=>
  obtain⟨o',q'⟩:=F.un.there T o q (by simp);exact absurd (bC q') (jT.mpr hT)
end
section
variable {M:Model}{A:Around}{E:ba}{s:Shared}{base:Heap}{env:Env}{outer:List Env}{L e:Addr}
theorem uz{Q:Unit->Shared->Prop}(hfr:A.frames=some (env::outer))(hl:s.heap.FunFrames base (env::outer))(hf:env.frame=some L)
  (he:s.heap.get? e=some oe) (hd:oe.data=.fields vs) (hsz:1<vs.size)
  (k:∀h' T oe' ws oT ts,s.heap.objs.size<=T->Gf (bp (env::outer)) e T s.heap h'->h'.get? e=some oe'->oe'.data=.fields ws->ws[1]?=some (.ref T)->T≠e->h'.get? T=some oT->oT.data=.fields ts->ts[3]?=some (rawInt L)->Q () {s with heap:=h'}):
  wpAny M A (do let a <-frameOf env;let pl <-entryPlaceOf L hn;let b <-EntryCells.newEntry head a .none (rawInt L) .none pl;setField (.ref e) 1 b) Q E s:=by
 have ne:e∉bp (env::outer):=fun m=>by
  obtain⟨_,o,ho,nf⟩:=hl.mem m;rw[he] at ho;cases ho;exact nf vs hd
 refine aj (wpAny_frameOf_fun hfr hl hf fun h1 s1=>?_);have fin:∀(O:Obj)(ts:Array Value),O.data=.fields ts->ts[3]?=some (rawInt L)->wpAny M A (setField (.ref e) 1 (.ref h1.objs.size)) Q E {s with heap:=h1.push O}:=fun O ts hO h3=>by
  have he1:h1.get? e=some oe:=(s1.2.1 e ne).trans he;have he2:=bX (h:=h1) O he1;have nT:h1.objs.size≠e:=nK (bC he1);refine om (s:={s with heap:=h1.push O}) he2 hd hsz ?_;have hd3:=pA hd (·.setIfInBounds 1 (Value.ref h1.objs.size));have he3:=qZ (Obj.mapFields (·.setIfInBounds 1 (Value.ref h1.objs.size))) he2 (vm hd3);have hT3:=(mS (h1.push O) (Obj.mapFields (·.setIfInBounds 1 (Value.ref h1.objs.size))) (bo nT)).trans (gk h1 (vm hO));refine k _ h1.objs.size _ _ O ts (qx s1.1.symm) ⟨fun b o q n1 n2 n3=>?_,fun b o q n1 n2=>?_,fun o ws q qd=>?_⟩ he3 hd3 (by simp[hsz]) nT hT3 hO h3
  .rw[mS _ _ (bo n1)];exact bX _ ((s1.2.1 b n3).trans q)
  .obtain⟨sl,q1⟩:=s1.2.2 b o q;refine⟨sl,?_⟩;rw[mS _ _ (bo n1)];exact bX _ q1
  .rw[he] at q;cases q;exact⟨_,_,he3,Obj.cls_mapFields _ _,zY _ _,hd3⟩
 refine aj (wpAny_entryPlaceOf fun pl hpl=>?_);unfold EntryCells.newEntry;unfold newFields;refine aj (jj (s:={s with heap:=h1}) ?_ (hpl.sizeOk5 _ _ _ _ _));exact fin _ _ rfl (by first|(simp;done)|(rcases hpl with rfl|⟨_,_,_,_,_,_,_,rfl⟩<;>simp))
variable {P:Program}{w:World}{H H':L2.Hp}{s':Shared}{C:Addr}{dx:Option Addr}
theorem Fly0.note{Q:Unit->Shared->Prop}(F:Fly0 P w (bp (env::outer)) H s e C dx H' s')(hfr:A.frames=some (env::outer))(hl:s'.heap.FunFrames base (env::outer))(hf:env.frame=some L)(hfree:∀b∈bp (env::outer),H' b=none)
  (he:s'.heap.get? e=some oe) (hd:oe.data=.fields vs) (h1:vs[1]?=some .none)
  (k:∀s2,f9 P w (bp (env::outer)) H s e C dx (rawInt L) H' s2->Q () s2):wpAny M A (noteFrame (.ref e) env) Q E s':=by
 unfold noteFrame;simp only[hf];refine aj (gB he hd h1 ?_);rw[if_neg (by decide)];refine uz hfr hl hf he hd (rC.mp h1).1 fun h' T oe' ws oT ts hT c q1 q2 q3 q4 q5 q6 q7=>?_;obtain⟨b1,b2⟩:=F.back hT;exact k _ ⟨F.chg hfree b1 b2 c,oe',ws,T,oT,ts,q1,q2,q3,q4,b1,b2,q5,q6,q7⟩
theorem f9.note{Q:Unit->Shared->Prop}(F:f9 P w (bp (env::outer)) H s e C dx .none H' s')(hfr:A.frames=some (env::outer))(hl:s'.heap.FunFrames base (env::outer))(hf:env.frame=some L)(hfree:∀b∈bp (env::outer),H' b=none)
  (k:∀s2,f9 P w (bp (env::outer)) H s e C dx (rawInt L) H' s2->Q () s2):wpAny M A (noteFrame (.ref e) env) Q E s':=by
 obtain⟨oe,vs,T,oT,ts,he,hd,h1,nT,n0,nH,hT,hdT,h3⟩:=F.tb;unfold noteFrame;simp only[hf];refine aj (gB he hd h1 ?_);rw[if_pos (show (Value.ref T != Value.none)=true from by simp)];refine aj (gB hT hdT h3 ?_);rw[if_neg (show ¬ ((Value.none== rawInt L)=true) from by simp[rawInt])];refine aj (om hT hdT (rC.mp h3).1 ?_);have oth:∀b,b≠T->(s'.heap.update T (Obj.mapFields (·.setIfInBounds 3 Value.none))).get? b=s'.heap.get? b:=fun b hb=>mS _ _ (bo hb);have c1:Gf (bp (env::outer)) e T s'.heap (s'.heap.update T (Obj.mapFields (·.setIfInBounds 3 Value.none))):=
  ⟨fun b o q _ n2 _=>(oth b n2).trans q,fun b o q _ n2=>⟨o.slots,(oth b n2).trans q⟩,fun o ws q qd=>⟨o,ws,(oth e (bo nT)).trans q,rfl,rfl,qd⟩⟩
 have F1:=F.toFly0.chg hfree n0 nH c1;have hl1:(s'.heap.update T (Obj.mapFields (·.setIfInBounds 3 Value.none))).FunFrames base (env::outer):=hl.of_keeps fun b o hb nf=>⟨o,(oth b fun z=>by
  subst z;rw[hT] at hb;cases hb;exact nf ts hdT).trans hb,rfl⟩
 refine uz (s:={s' with heap:=s'.heap.update T (Obj.mapFields (·.setIfInBounds 3 Value.none))}) hfr hl1 hf ((oth e (bo nT)).trans he) hd (rC.mp h1).1 fun h' T' oe' ws oT' ts' hT' c q1 q2 q3 q4 q5 q6 q7=>?_;obtain⟨b1,b2⟩:=F1.back hT';exact k _ ⟨F1.chg hfree b1 b2 c,oe',ws,T',oT',ts',q1,q2,q3,q4,b1,b2,q5,q6,q7⟩
theorem f9.land{Q:Unit->Shared->Prop}(F:f9 P w fs H s e C dx fl H' s')(hfree:∀b∈fs,H' b=none)(k:∀s2,f9 P w fs H s e C dx .none H' s2->Q () s2):
  wpAny M A (setFlight (.ref e) none) Q E s':=by
 obtain⟨oe,vs,T,oT,ts,he,hd,h1,nT,n0,nH,hT,hdT,h3⟩:=F.tb;have z3:3<ts.size:=(rC.mp h3).1;unfold setFlight;refine aj (gB he hd h1 ?_);rw[if_pos (show (Value.ref T != Value.none)=true from by simp)];refine om hT hdT z3 ?_;have oth:∀b,b≠T->(s'.heap.update T (Obj.mapFields (·.setIfInBounds 3 ((none:Option Addr).elim Value.none fun f=>rawInt f)))).get? b=s'.heap.get? b:=fun b hb=>mS _ _ (bo hb);refine k _ ⟨F.toFly0.chg hfree n0 nH ⟨fun b o q _ n2 _=>(oth b n2).trans q,fun b o q _ n2=>⟨o.slots,(oth b n2).trans q⟩,fun o ws q qd=>⟨o,ws,(oth e (bo nT)).trans q,rfl,rfl,qd⟩⟩,?_⟩;exact⟨oe,vs,T,_,_,(oth e (bo nT)).trans he,hd,h1,nT,n0,nH,qZ _ hT (vm (pA hdT _)),pA hdT _,by simp[z3]⟩
theorem f9.leave{Q:Unit->Shared->Prop}(F:f9 P w (bp (env::outer)) H s e C dx .none H' s')(hfr:A.frames=some (env::outer))(hl:s'.heap.FunFrames base (env::outer))(hf:env.frame=some L)(hfree:∀b∈bp (env::outer),H' b=none)
  (k:∀s2,f9 P w (bp (env::outer)) H s e C dx .none H' s2->Q () s2):wpAny M A (leaving env (.ref e)) Q E s':=by
 unfold leaving;exact aj (F.note hfr hl hf hfree fun s2 F2=>F2.land hfree k)
theorem Fly0.leave{Q:Unit->Shared->Prop}(F:Fly0 P w (bp (env::outer)) H s e C dx H' s')(hfr:A.frames=some (env::outer))(hl:s'.heap.FunFrames base (env::outer))(hf:env.frame=some L)(hfree:∀b∈bp (env::outer),H' b=none)
  (he:s'.heap.get? e=some oe) (hd:oe.data=.fields vs) (h1:vs[1]?=some .none)
  (k:∀s2,f9 P w (bp (env::outer)) H s e C dx .none H' s2->Q () s2):wpAny M A (leaving env (.ref e)) Q E s':=by
 unfold leaving;exact aj (F.note hfr hl hf hfree he hd h1 fun s2 F2=>F2.land hfree k)
end
noncomputable def cO(P:Program)(w:World):fR:=fun l H s E e s'=>∃ea C dx H',e=.ref ea/\f9 P w (bp l) H s ea C dx .none H' s'/\E e none H'
theorem cO.never:∀outer H s e s',¬ cO P w outer H s E0 e s':=fun _ _ _ _ _ ⟨_,_,_,_,_,_,z⟩=>z
abbrev og(X:Cx)(E:XK):ba:=fun e s'=>wpAny (model X.prog X.w) X.A (leaving X.env e) (fun _ s2=>cO X.prog X.w X.outer X.jG X.aO E e s2) (fun e' s2=>cO X.prog X.w X.outer X.jG X.aO E e' s2) s'
section
variable {X:Cx}{pins:aL}{σ:L2.St}{H H':L2.Hp}{s s':Shared}{E:XK}{e C:Addr}{dx:Option Addr}{fl:Value}
theorem f9.up(I:Inv X pins σ H s)(hx:X.ex=[])(hs:X.stack=X.env::X.outer)(hfm:X.env.frame=some X.env.locals)(F:f9 X.prog X.w (bp X.stack) H s e C dx fl H' s'):
  f9 X.prog X.w (bp X.outer) X.jG X.aO e C dx fl H' s':=by
 have back:∀T,s.heap.get? T=none->X.aO.heap.get? T=none:=fun T q=>by
  cases z:X.aO.heap.get? T with
  |none=>rfl
  |some o=>
   obtain⟨o',z'⟩:=I.base.there T o z (by rw[hx];simp);rw[q] at z';cases z'
 have b0:Un (bp X.outer) [] X.jG H X.aO.heap s.heap:=hx▸I.base;have sub:∀b,b∈bp X.outer->b∈bp X.stack:=fun b hb=>by
  rw[hs];show b∈(X.env::X.outer).filterMap (·.frame);rw[qB,hfm];exact jB _ hb
 have un2:=(b0.mono (fs':=bp X.stack) (ex':=[]) sub fun _ z=>z).trans F.un;have ex:∀b o,X.aO.heap.get? b=some o->b∉bp X.outer->b∉bp X.stack:=fun b o q hb hm=>by
  rcases cY.mp (I.jF b hm) with z|z
  .exact absurd (bC q) (by rw[z];exact jT.mpr I.ok.above)
  .exact hb z
 obtain⟨oe,vs,T,oT,ts,he,hd,h1,nT,n0,r⟩:=F.tb;exact⟨⟨F.os.trans I.os,F.bare,⟨fun b o q n hb hx'=>un2.keep b o q n (ex b o q hb) hx',fun b o q n hb hx'=>un2.slot b o q n (sub b hb) hx',un2.free,un2.there,un2.gj,un2.fL,un2.fS⟩,F.aD,F.tr,back _ F.new⟩,oe,vs,T,oT,ts,he,hd,h1,nT,back _ n0,r⟩
theorem Fly0.inv(I:Inv X pins σ H s)(F:Fly0 X.prog X.w (bp X.stack) H s e C dx H' s'):Inv X pins σ H' s':=I.Ki F.os F.un F.aD F.bare (fun b z=>absurd z (by simp))
theorem Dq(hx:X.ex=[])(hs:X.stack=X.env::X.outer)(hfm:X.env.frame=some X.env.locals)(hxe:X.xe=og X E):Passes (cO X.prog X.w) X E:=fun pins σ H s e s' I ⟨ea,C,dx,H',ee,F,q⟩=>by
 subst ee;rw[hxe];have J:=F.toFly0.inv I;have fr:=J.iq;have st:=J.stack;have fm:=J.ok.frames;rw[hs] at fr st fm F;refine F.leave (base:=X.base) fm st hfm fr fun s2 F2=>?_;rw[<-hs] at F2;exact⟨ea,C,dx,H',rfl,F2.up I hx hs hfm,q⟩
theorem Gm(hx:X.ex=[])(hs:X.stack=X.env::X.outer)(hfm:X.env.frame=some X.env.locals)(hxe:X.xe=og X E)(I:Inv X pins σ H s)(F:Fly0 X.prog X.w (bp X.stack) H s e C dx H' s')
  (he:s'.heap.get? e=some oe) (hd:oe.data=.fields vs) (h1:vs[1]?=some .none) (q:E (.ref e) none H'):X.xe (.ref e) s':=by
 rw[hxe];have J:=F.inv I;have fr:=J.iq;have st:=J.stack;have fm:=J.ok.frames;rw[hs] at fr st fm F;refine F.leave (base:=X.base) fm st hfm fr he hd h1 fun s2 F2=>?_;rw[<-hs] at F2;exact⟨e,C,dx,H',rfl,F2.up I hx hs hfm,q⟩
end
end TwS
namespace TwS
open PySem L2 PyProof.Rows Builtin Builtin.ObjectAttr
noncomputable def mP:List Value:=[.type "ValueError",.type "Exception",.type "BaseException",.type "object"]
structure XC(K:W.Frag)(C:Addr):Prop where
 mro:∃(cd:ClassData) (os:List Addr),W.clsIn K C=some cd/\cd.mro=.ref C::(os.map Value.ref++mP)/\cd.hasDict=true
 sa:W.findIn K (.ref C) "__setattr__" = some (some (.builtin "object.__setattr__"))
 ga:W.findIn K (.ref C) "__getattribute__" = some (some (.builtin "BaseException.__getattribute__"))
 gh:W.findIn K (.ref C) "__getattr__" = some none
theorem Et(os:List Addr)(v:Value)(h:mP.contains v=true):(os.map Value.ref++mP).contains v=true:=by rw[List.contains_append,h,Bool.or_true]
theorem XC.sub{K:W.Frag}{C:Addr}(c:XC K C){v:Value}(h:mP.contains v=true):W.mroIn K C v=some true:=by obtain⟨cd,os,e1,e2,_⟩:=c.mro;unfold W.mroIn;rw[e1,gf,e2];show some ((Value.ref C::(os.map Value.ref++mP)).contains v)=_;rw[List.contains_cons,Et os v h,Bool.or_true]
section
variable {prog:Program}{w:World}{A:Around}{E:ba}{s:Shared}{K:W.Frag}{x C:Addr}{ox:Obj}{name:Str}{v:Value}
end
end TwS
namespace TwS
open PySem L2 PyProof.Rows
section
variable {X:Cx}{pins:aL}{σ:L2.St}{H H':L2.Hp}{s s':Shared}{x dx C:Addr}{A:Around}{E:ba}
end
end TwS
namespace TwS
open PySem L2
abbrev Rl(α β:Type):=W.Frag->(Nat->Addr)->Nat->L2.Hp->α->β->Prop
def au(K:Zk){α β:Type}(R:Rl α β)(ι:Nat->Addr)(h:Tw.Hp)(H:L2.Hp)(m:Tw.R α)(Q:β->L2.Hp->Prop):Prop:=match m with
 |.ok a h'=>∀ι' H' b,Ext ι h H ι' h' H'->HR K ι' h' H'->R K.K ι' h'.length H' a b->Q b H'
 |.aI a h'=>∀ι' H',Ext ι h H ι' h' H'->HR K ι' h' H'->K.ex (.ref (ι' a)) none H'
 |.bad=>False
structure At(K:Zk)(ι:Nat->Addr)(h:Tw.Hp)(H:L2.Hp)(ρ:Tw.Env)(σ:L2.St):Prop where
 hr:HR K ι h H
 len:σ.length=ρ.length
 st:∀(i:Nat)(w:Tw.W),ρ[i]?=some (some w)->∃v,σ[i]?=some (some v)/\RW K.K ι h.length H w v
noncomputable def tG(K:Zk){α β:Type}(R:Rl α β)(d:Tw.Env->Tw.Hp->Tw.R α):L2.St->L2.Hp->(β->L2.Hp->Prop)->Prop:=
 fun σ H Q=>∃ρ h ι,At K ι h H ρ σ/\au K R ι h H (d ρ h) Q
noncomputable abbrev RE:Rl Tw.W V:=fun K ι n H w v=>RW K ι n H w v
noncomputable abbrev RA(k:Nat):Rl (List Tw.W) (List V):=fun K ι n H w v=>aT K ι n H w v/\w.length=k
noncomputable abbrev RB:Rl Bool Bool:=fun _ _ _ _ a b=>a=b
abbrev tE(K:Zk)(d:Tw.Env->Tw.Hp->Tw.R Tw.W):TE:=tG K RE d
section
variable {K:Zk}{α β γ δ:Type}{R:Rl α β}{R':Rl γ δ}{ι ι1:Nat->Addr}{h h1:Tw.Hp}{H H1:L2.Hp}{ρ:Tw.Env}{σ:L2.St}{m:Tw.R α}
theorem au.mono{Q Q':β->L2.Hp->Prop}(p:au K R ι h H m Q)(f:∀b H',Q b H'->Q' b H'):au K R ι h H m Q':=by
 cases m with
 |ok a h'=>exact fun ι' H' b e r q=>f _ _ (p ι' H' b e r q)
 |aI=>exact p
 |bad=>exact p
theorem au.later{Q:β->L2.Hp->Prop}(p:au K R ι h H m Q)(e:Ext ι h H ι1 h1 H1):au K R ι1 h1 H1 m Q:=by
 cases m with
 |ok a h'=>exact fun ι' H' b e' r q=>p ι' H' b (e.trans e') r q
 |aI a h'=>exact fun ι' H' e' r=>p ι' H' (e.trans e') r
 |bad=>exact p
theorem At.later(a:At K ι h H ρ σ)(e:Ext ι h H ι1 h1 H1)(r:HR K ι1 h1 H1):At K ι1 h1 H1 ρ σ:=
 ⟨r,a.len,fun i w q=>let ⟨v,q1,q2⟩:=a.st i w q;⟨v,q1,q2.keep (e.keeps a.hr)⟩⟩
theorem step{k:α->Tw.Hp->Tw.R γ}{Q:δ->L2.Hp->Prop}(a:At K ι h H ρ σ)(p:au K R' ι h H (m.bind k) Q):
  au K R ι h H m (fun x H1=>∃w h1 ι1,At K ι1 h1 H1 ρ σ/\Ext ι h H ι1 h1 H1/\R K.K ι1 h1.length H1 w x/\au K R' ι1 h1 H1 (k w h1) Q):=by
 cases m with
 |ok w h1=>exact fun ι' H' b e r q=>⟨w,h1,ι',a.later e r,e,q,au.later p e⟩
 |aI a h'=>exact p
 |bad=>exact p
theorem au.self{Q:β->L2.Hp->Prop}(p:au K R ι h H (.ok a h) Q)(r:HR K ι h H)(q:R K.K ι h.length H a b):Q b H:=p ι H b (Ext.refl ι h H) r q
theorem au.tup(p:au K RE ι h H (.ok (.tup ws) h) Q)(r:HR K ι h H)(q:aT K.K ι h.length H ws xs):∀a,H a=none->Q (.ref a) (upd H a (.tup xs)):=fun a ha=>by
 obtain⟨r',e⟩:=r.grow (o:=.tup xs) ha;exact p ι _ _ e r' (.tup (.inl bP) (q.keep (e.keeps r)))
theorem au.lst(p:au K RE ι h H (Tw.new (.lst ws) h) Q)(r:HR K ι h H)(q:aT K.K ι h.length H ws xs):∀a,H a=none->Q (.ref a) (upd H a (.lst xs)):=fun a ha=>by
 obtain⟨r',e⟩:=r.new (u:=.lst ws) (o:=.lst xs) ha rfl fun ι' n' H' k e=>⟨xs,e,q.keep k⟩;refine p _ _ (.ref a) e r' ?_;have z:RW K.K (c4 ι h.length a) (h++[Tw.O.lst ws]).length (upd H a (.lst xs)) (.ref h.length) (.ref (c4 ι h.length a h.length)):=.ref (by simp);rw[cg] at z;exact z
theorem au.eV(p:au K RE ι h H (Tw.new (.eV kvs) h) Q)(r:HR K ι h H)(q:RD K.K ι h.length H kvs xs):∀a,H a=none->Q (.ref a) (upd H a (.dK xs)):=fun a ha=>by
 obtain⟨r',e⟩:=r.new (u:=.eV kvs) (o:=.dK xs) ha rfl fun ι' n' H' k e=>⟨xs,e,q.keep k⟩;refine p _ _ (.ref a) e r' ?_;have z:RW K.K (c4 ι h.length a) (h++[Tw.O.eV kvs]).length (upd H a (.dK xs)) (.ref h.length) (.ref (c4 ι h.length a h.length)):=.ref (by simp);rw[cg] at z;exact z
end
theorem PE.imp(p:PE X e t)(f:∀σ H Q,t' σ H Q->t σ H Q):PE X e t':=fun pins s σ H Q I q=>p pins s σ H Q I (f σ H Q q)
theorem PT.imp(p:PT X e t)(f:∀σ H Q,t' σ H Q->t σ H Q):PT X e t':=fun pins s σ H Q I q=>p pins s σ H Q I (f σ H Q q)
theorem PW.imp(p:PW X e t)(f:∀σ H Q,t' σ H Q->t σ H Q):PW X e t':=fun wh pins s σ H Q I q=>p wh pins s σ H Q I (f σ H Q q)
theorem PA.imp(p:PA X e t)(f:∀σ H Q,t' σ H Q->t σ H Q):PA X e t':=fun pos pins s σ H Q I q=>p pos pins s σ H Q I (f σ H Q q)
theorem PS.imp(p:PS X e t)(f:∀D σ H,t' D σ H->t D σ H):PS X e t':=fun pins s σ H D I q=>p pins s σ H D I (f D σ H q)
theorem eE.imp(p:eE X e t)(f:∀D σ H,t' D σ H->t D σ H):eE X e t':=fun pins s σ H D I q=>p pins s σ H D I (f D σ H q)
section
variable {K:Zk}{ι:Nat->Addr}{h:Tw.Hp}{H:L2.Hp}
theorem HR.lst(r:HR K ι h H)(e:h[i]?=some (.lst ws)):∃xs,H (ι i)=some (.lst xs)/\aT K.K ι h.length H ws xs:=r.obj i _ e
theorem HR.at(r:HR K ι h H)(e:Tw.dO h i=some ws):∃xs,dh K.K H (ι i) xs/\aT K.K ι h.length H ws xs:=by
 unfold Tw.dO at e;split at e
 .next q=>cases e;obtain⟨xs,q1,q2⟩:=r.obj i _ q;exact⟨xs,dh.of q1,q2⟩
 .next q=>cases e;obtain⟨xs,q1,q2⟩:=r.obj i _ q;exact⟨xs,q1.sq,q2⟩
 .cases e
end
theorem zr(n:Nat)(i:Int):Tw.ij n i=L2.ij n i:=rfl
theorem aT.dC{ι:Nat->Addr}(r:aT K ι n H ws xs)(e:Tw.dC ws i=some w):∃v,L2.dC xs i=some v/\RW K ι n H w v:=by
 unfold Tw.dC at e;unfold L2.dC;rw[<-r.length,<-zr];cases q:Tw.ij ws.length i with
 |none=>rw[q] at e;cases e
 |some j=>
  rw[q] at e;exact r.get e
theorem qm(n d:Nat)(o:Option Int):Tw.bc n d o=HT.bc n d o:=by
 cases o with
 |none=>rfl
 |some v=>first|rfl|(unfold Tw.bc HT.bc;split<;>first|rfl|omega|(simp;omega))
theorem aT.cut{ι:Nat->Addr}(r:aT K ι n H ws xs)(lo hi:Option Int):aT K ι n H (Tw.cut ws lo hi) (qP xs lo hi):=by unfold Tw.cut qP;rw[qm,qm,r.length];exact (r.drop _).take _
end TwS
namespace TwS
open PySem L2 PyProof.Rows
section
variable {X:Cx}{E:XK}{a b c:Expr}{pos:Pos}{da db dc:Tw.Env->Tw.Hp->Tw.R Tw.W}
theorem J4{i:Nat}{x:Str}(hN:X.N[i]?=some x)(hv:oB X.env.scope x)(hd:(x== ("__debug__" : Str))=false)(hcd:(x== ("__classdict__" : Str))=false):
  PE X (.Name x pos) (tE (zx X E) fun ρ h=>match ρ[i]? with|some (some w)=>.ok w h|_=>.bad):=by
 refine PE.imp (mK hN hv hd hcd) fun σ H Q ⟨ρ,h,ι,at',p⟩=>?_;cases e:ρ[i]? with
 |none=>simp only[e] at p;exact p.elim
 |some o=>
  cases o with
  |none=>simp only[e] at p;exact p.elim
  |some w=>
   simp only[e] at p;obtain⟨v,q1,q2⟩:=at'.st i w e;exact⟨v,q1,p.self at'.hr q2⟩
theorem pT(hp:PE X a (tC v))(hr:∀ι n H,RW X.K ι n H w v):PE X a (tE (zx X E) fun _ h=>.ok w h):=
 PE.imp hp fun σ H Q ⟨ρ,h,ι,at',p⟩=>p.self at'.hr (hr _ _ _)
abbrev tA(K:Zk)(k:Nat)(d:Tw.Env->Tw.Hp->Tw.R (List Tw.W)):TA:=tG K (RA k) d
theorem Kb:PA X [] (tA (zx X E) 0 fun _ h=>.ok [] h):=PA.imp eQ fun σ H Q ⟨ρ,h,ι,at',p⟩=>p.self at'.hr ⟨.nil,rfl⟩
theorem Ge{ds:Tw.Env->Tw.Hp->Tw.R (List Tw.W)}(ha:PE X a (tE (zx X E) da))(hs:PA X es (tA (zx X E) n ds))(hst:starEach (a::es) X.env=(false,eval a X.env)::starEach es X.env):
  PA X (a::es) (tA (zx X E) (n+1) fun ρ h=>(da ρ h).bind fun x h=>(ds ρ h).bind fun xs h=>.ok (x::xs) h):=by
 refine PA.imp (bU ha hs hst) fun σ H Q ⟨ρ,h,ι,at',p⟩=>?_;refine⟨ρ,h,ι,at',(step at' p).mono fun x H1 ⟨w,h1,ι1,at1,e1,r1,p1⟩=>⟨ρ,h1,ι1,at1,(step at1 p1).mono fun xs H2 ⟨ws,h2,ι2,at2,e2,r2,p2⟩=>?_⟩⟩;exact p2.self at2.hr ⟨.cons (r1.keep (e2.keeps at1.hr)) r2.1,by rw[dw,r2.2]⟩
theorem nR:sizeLine=Tw.SZ:=by rw[f7];rfl
theorem JQ{ds:Tw.Env->Tw.Hp->Tw.R (List Tw.W)}(hs:PA X es (tA (zx X E) n ds))(hl:n<=sizeLine):
  PE X (.Tuple es k pos) (tE (zx X E) fun ρ h=>(ds ρ h).bind fun xs h=>.ok (.tup xs) h):=by
 refine PE.imp (Aj hs) fun σ H Q ⟨ρ,h,ι,at',p⟩=>?_;refine⟨ρ,h,ι,at',(step at' p).mono fun xs H1 ⟨ws,h1,ι1,at1,e1,r1,p1⟩=>⟨by rw[<-r1.1.length,r1.2];exact hl,p1.tup at1.hr r1.1⟩⟩
theorem Jk{ds:Tw.Env->Tw.Hp->Tw.R (List Tw.W)}(hs:PA X es (tA (zx X E) n ds))(hl:n<=sizeLine):
  PE X (.List es pos) (tE (zx X E) fun ρ h=>(ds ρ h).bind fun xs h=>Tw.new (.lst xs) h):=by
 refine PE.imp (GZ hs) fun σ H Q ⟨ρ,h,ι,at',p⟩=>?_;refine⟨ρ,h,ι,at',(step at' p).mono fun xs H1 ⟨ws,h1,ι1,at1,e1,r1,p1⟩=>⟨by rw[<-r1.1.length,r1.2];exact hl,p1.lst at1.hr r1.1⟩⟩
theorem two{op:Tw.W->Tw.W->Tw.Hp->Tw.R Tw.W}
  (hr:∀(ι:Nat->Addr)(h:Tw.Hp)(H:L2.Hp)(w u:Tw.W)(x y:V)(Q:VK),HR (zx X E) ι h H->RW X.K ι h.length H w x->RW X.K ι h.length H u y->au (zx X E) RE ι h H (op w u h) Q->r x y H Q):
  ∀σ H Q,tE (zx X E) (fun ρ h=>(da ρ h).bind fun x h=>(db ρ h).bind fun y h=>op x y h) σ H Q->zi r (tE (zx X E) da) (tE (zx X E) db) σ H Q:=fun σ H Q ⟨ρ,h,ι,at',p⟩=>
 ⟨ρ,h,ι,at',(step at' p).mono fun x H1 ⟨w,h1,ι1,at1,e1,r1,p1⟩=>⟨ρ,h1,ι1,at1,(step at1 p1).mono fun y H2 ⟨u,h2,ι2,at2,e2,r2,p2⟩=>
  hr ι2 h2 H2 w u x y Q at2.hr (r1.keep (e2.keeps at1.hr)) r2 p2⟩⟩
noncomputable def z8(K:W.Frag):R2:=fun x y H Q=>∃a b ys,x=.ref a/\y=.ref b/\dW K H a []/\dW K H b ys/\Q (.ref b) H
theorem Bx{prog:Program}{w:World}{A:Around}{E:ba}{s:Shared}{t b:Addr}{ws:List Value}{Q:ba}(ht:IsTup s.heap t ([]:List Value).toArray)(hb:IsTup s.heap b ws.toArray)
  (h0:Q (.ref b) s):wpAny (model prog w) A (binaryOp .Add (.ref t) (.ref b)) Q E s:=by
 obtain⟨⟨cls,dd,data,sl⟩,ho,hc,n,hd⟩:=id ht;obtain⟨⟨cls2,dd2,data2,sl2⟩,ho2,hc2,n2,hd2⟩:=id hb;simp only at hc hd hc2 hd2;subst hc hd hc2 hd2;exact concat_meets ⟨_,ho,rfl⟩ ⟨_,ho2,rfl⟩ yD seq_tuple_add xJ xY (yf _ _)
  (tuple_addW0 t b ([]:List Value).toArray ws.toArray n n2 dd dd2 sl sl2 (by simp)) ⟨ho,ho2,h0⟩
theorem B8:cT X (binaryOp .Add) (z8 X.K):=by intro pins s σ H x y v u Q I rx ry h;obtain⟨a,b,ys,rfl,rfl,ha,hb,q⟩:=h;cases rx;cases ry;obtain⟨its,r1,p1,_⟩:=I.tuple ha;obtain⟨its2,r2,p2,_⟩:=I.tuple hb;cases r1;exact Bx p1 p2 ⟨.ref b,H,I,rfl,q⟩
def Cw(K:W.Frag):R2:=fun x y H Q=>oF (fun i j=>.int (i+j)) x y H Q\/Hz x y H Q\/Dh K x y H Q\/z8 K x y H Q
theorem D3:cT X (binaryOp .Add) (Cw X.K):=Gd.or (Ik.or (DL.or B8))
theorem FK(ι:Nat->Addr)(h:Tw.Hp)(H:L2.Hp)(w u:Tw.W)(x y:V)(Q:VK)(r:HR (zx X E) ι h H)(rx:RW X.K ι h.length H w x)(ry:RW X.K ι h.length H u y)(p:au (zx X E) RE ι h H (Tw.bin .add w u h) Q):Cw X.K x y H Q:=by
 cases rx with
 |int i=>
  cases ry with
  |int j=>exact .inl ⟨i,j,rfl,rfl,p.self r (.int _)⟩
  |_=>exact p.elim
 | @tup aa xs ws ea ra=>
  cases ry with
  | @tup ab ys us eb rb=>
   have p:au (zx X E) RE ι h H (if Tw.Op.add=Tw.Op.add/\ws.length+us.length<=Tw.SZ then .ok (.tup (ws++us)) h else .bad) Q:=p;by_cases c:ws.length+us.length<=Tw.SZ
   .rw[if_pos ⟨rfl,c⟩] at p;by_cases z0:ws=[]
    .subst z0;cases ra;exact .inr (.inr (.inr ⟨aa,ab,ys,rfl,rfl,ea.sq,eb.sq,p.self r (.tup eb rb)⟩))
    refine .inr (.inr (.inl ⟨aa,ab,xs,ys,rfl,rfl,ea.sq,eb.sq,?_,?_,?_⟩))
    .intro z;subst z;cases ra;exact z0 rfl
    .rw[<-ra.length,<-rb.length,nR];exact c
    .refine⟨fun z=>?_,fun _=>p.tup r (ra.append rb)⟩;subst z;cases rb;rw[gI] at p;exact p.self r (.tup ea ra)
   .rw[if_neg (fun z=>c z.2)] at p;exact p.elim
  |_=>exact p.elim
 | @ref i hi=>
  cases ry with
  | @ref j hj=>
   have p:au (zx X E) RE ι h H (match h[i]?,h[j]? with
    |some (.lst xs),some (.lst ys)=>if Tw.Op.add=Tw.Op.add/\xs.length+ys.length<=Tw.SZ then Tw.new (.lst (xs++ys)) h else .bad
    |_,_=>.bad) Q:=p
   cases ei:h[i]? with
   |none=>rw[ei] at p;exact p.elim
   |some oi=>
    cases ej:h[j]? with
    |none=>rw[ei,ej] at p;cases oi<;>exact p.elim
    |some oj=>
     rw[ei,ej] at p;cases oi with
     |lst ws=>
      cases oj with
      |lst us=>
       dsimp only at p;by_cases c:ws.length+us.length<=Tw.SZ
       .rw[if_pos ⟨rfl,c⟩] at p;obtain⟨xs,q1,q2⟩:=r.lst ei;obtain⟨ys,q3,q4⟩:=r.lst ej;refine .inr (.inl ⟨_,_,xs,ys,rfl,rfl,q1,q3,?_,?_⟩)
        .rw[<-q2.length,<-q4.length,nR];exact c
        .exact p.lst r (q2.append q4)
       .rw[if_neg (fun z=>c z.2)] at p;exact p.elim
      |_=>exact p.elim
     |_=>cases oj<;>exact p.elim
  |_=>exact p.elim
 |_=>cases ry<;>exact p.elim
theorem Jq(ha:PE X a (tE (zx X E) da))(hb:PE X b (tE (zx X E) db)):PE X (.BinOp a .Add b pos) (tE (zx X E) fun ρ h=>(da ρ h).bind fun x h=>(db ρ h).bind fun y h=>Tw.bin .add x y h):=
 PE.imp (nN D3 ha hb) (two FK)
theorem kP{op:Tw.Op}{r:R2}(hop:op≠.add)(hi:∀(i j k:Int)(H:L2.Hp)(Q:VK),Tw.binI op i j=some k->Q (.int k) H->r (.int i) (.int j) H Q)
  (ι:Nat->Addr) (h:Tw.Hp) (H:L2.Hp) (w u:Tw.W) (x y:V) (Q:VK) (hr:HR (zx X E) ι h H) (rx:RW X.K ι h.length H w x) (ry:RW X.K ι h.length H u y) (p:au (zx X E) RE ι h H (Tw.bin op w u h) Q):r x y H Q:=by
 cases rx with
 |int i=>
  cases ry with
  |int j=>
   have p:au (zx X E) RE ι h H (Tw.R.of ((Tw.binI op i j).map .int) h) Q:=p;cases e:Tw.binI op i j with
   |none=>rw[e] at p;exact p.elim
   |some k=>rw[e] at p;exact hi i j k H Q e (au.self (a:=Tw.W.int k) p hr (.int _))
  |_=>exact p.elim
 | @tup aa xs ws ea ra=>
  cases ry with
  | @tup ab ys us eb rb=>
   have p:au (zx X E) RE ι h H (if op=Tw.Op.add/\ws.length+us.length<=Tw.SZ then .ok (.tup (ws++us)) h else .bad) Q:=p;rw[if_neg (fun z=>hop z.1)] at p;exact p.elim
  |_=>exact p.elim
 | @ref i hi=>
  cases ry with
  | @ref j hj=>
   have p:au (zx X E) RE ι h H (match h[i]?,h[j]? with
    |some (.lst xs),some (.lst ys)=>if op=Tw.Op.add/\xs.length+ys.length<=Tw.SZ then Tw.new (.lst (xs++ys)) h else .bad
    |_,_=>.bad) Q:=p
   exfalso;split at p
   .rw[if_neg (fun z=>hop z.1)] at p;exact p
   .exact p
  |_=>exact p.elim
 |_=>cases ry<;>exact p.elim
theorem Ji(ha:PE X a (tE (zx X E) da))(hb:PE X b (tE (zx X E) db)):PE X (.BinOp a .Sub b pos) (tE (zx X E) fun ρ h=>(da ρ h).bind fun x h=>(db ρ h).bind fun y h=>Tw.bin .sub x y h):=
 PE.imp (nN Hj ha hb) (two (kP (by decide) fun i j k H Q e q=>by cases e;exact⟨i,j,rfl,rfl,q⟩))
theorem Kg(ha:PE X a (tE (zx X E) da))(hb:PE X b (tE (zx X E) db)):PE X (.BinOp a .Mult b pos) (tE (zx X E) fun ρ h=>(da ρ h).bind fun x h=>(db ρ h).bind fun y h=>Tw.bin .mul x y h):=
 PE.imp (nN HU ha hb) (two (kP (by decide) fun i j k H Q e q=>by
  have e:(if (Tw.small i || Tw.small j)=true then some (i * j) else none)=some k:=e;by_cases c:(Tw.small i || Tw.small j)=true
  .rw[if_pos c] at e;cases e;refine⟨i,j,rfl,rfl,?_,q⟩;simp only[Tw.small,zg,aE,aQ] at c;exact c
  .rw[if_neg c] at e;cases e))
theorem He(ha:PE X a (tE (zx X E) da))(hb:PE X b (tE (zx X E) db)):PE X (.BinOp a .FloorDiv b pos) (tE (zx X E) fun ρ h=>(da ρ h).bind fun x h=>(db ρ h).bind fun y h=>Tw.bin .fdiv x y h):=
 PE.imp (nN DQ ha hb) (two (kP (by decide) fun i j k H Q e q=>by
  have e:(if 0<j/\j<1073741824 then some (i / j) else none)=some k:=e;by_cases c:0<j/\j<1073741824
  .rw[if_pos c] at e;cases e;exact⟨i,j,rfl,rfl,c,q⟩
  .rw[if_neg c] at e;cases e))
theorem Jo(ha:PE X a (tE (zx X E) da))(hb:PE X b (tE (zx X E) db)):PE X (.BinOp a .Mod b pos) (tE (zx X E) fun ρ h=>(da ρ h).bind fun x h=>(db ρ h).bind fun y h=>Tw.bin .mod x y h):=
 PE.imp (nN FD ha hb) (two (kP (by decide) fun i j k H Q e q=>by
  have e:(if 0<j then some (i % j) else none)=some k:=e;by_cases c:0<j
  .rw[if_pos c] at e;cases e;exact⟨i,j,rfl,rfl,c,q⟩
  .rw[if_neg c] at e;cases e))
theorem J5(ha:PE X a (tE (zx X E) da))(hb:PE X b (tE (zx X E) db)):PE X (.BinOp a .Pow b pos) (tE (zx X E) fun ρ h=>(da ρ h).bind fun x h=>(db ρ h).bind fun y h=>Tw.bin .pow x y h):=
 PE.imp (nN Hm ha hb) (two (kP (by decide) fun i j k H Q e q=>by
  have e:(if 0<=j/\j<=1000000/\i.natAbs<2 ^ 64 then some (i ^ j.toNat) else none)=some k:=e;by_cases c:0<=j/\j<=1000000/\i.natAbs<2 ^ 64
  .rw[if_pos c] at e;cases e;exact⟨i,j,rfl,rfl,c,q⟩
  .rw[if_neg c] at e;cases e))
end
mutual
noncomputable def toD:Tw.W->PyData
 |.aw=>.none
 |.bl b=>.bool b
 |.int i=>.int i
 |.str x=>.str ⟨x.toArray⟩
 |.tup xs=>.tuple (fP xs)
 |.lst xs=>.list (fP xs)
 |.ref _=>.none
noncomputable def fP:List Tw.W->List PyData
 |[]=>[]
 |x::xs=>toD x::fP xs
end
mutual
noncomputable def nr:Tw.W->Bool
 |.tup xs=>qr xs
 |.lst xs=>qr xs
 |.ref _=>false
 |_=>true
noncomputable def qr:List Tw.W->Bool
 |[]=>true
 |x::xs=>nr x&&qr xs
end
theorem AQ(a b:Tw.S):((⟨a.toArray⟩:Str)== ⟨b.toArray⟩)=decide (a=b):=by
 rw[yM];by_cases e:a=b
 .subst e;simp
 .rw[bA e];refine bA fun z=>e ?_;injection z with z;simpa using c9 Array.toList z
mutual
theorem nP:∀(a b:Tw.W),nr a=true->nr b=true->Tw.bj a b=PyData.eqv (toD a) (toD b)
 |.aw,b,ha,hb=>by cases b<;>simp_all [nr,toD,PyData.eqv,Tw.bj.eq_def]
 |.bl x,b,ha,hb=>by cases b<;>simp_all [nr,toD,PyData.eqv,Tw.bj.eq_def,yM]
 |.int x,b,ha,hb=>by cases b<;>simp_all [nr,toD,PyData.eqv,Tw.bj.eq_def,yM]
 |.str x,b,ha,hb=>by
  cases b with
  |str y=>rw[Tw.oM,toD,toD,PyData.eqv,AQ]
  |_=>simp_all [nr,toD,PyData.eqv,Tw.bj.eq_def]
 |.ref x,b,ha,hb=>by simp[nr] at ha
 |.tup xs,b,ha,hb=>by
  cases b with
  |tup ys=>rw[Tw.vA,toD,toD,PyData.eqv];exact oX xs ys (by simpa [nr] using ha) (by simpa [nr] using hb)
  |_=>simp_all [nr,toD,PyData.eqv,Tw.bj.eq_def]
 |.lst xs,b,ha,hb=>by
  cases b with
  |lst ys=>rw[Tw.vF,toD,toD,PyData.eqv];exact oX xs ys (by simpa [nr] using ha) (by simpa [nr] using hb)
  |_=>simp_all [nr,toD,PyData.eqv,Tw.bj.eq_def]
theorem oX:∀(a b:List Tw.W),qr a=true->qr b=true->Tw.mB a b=PyData.eqvAll (fP a) (fP b)
 |[],[],_,_=>by simp[fP,PyData.eqvAll]
 |[],_::_,_,_=>by simp[fP,PyData.eqvAll]
 |_::_,[],_,_=>by simp[fP,PyData.eqvAll]
 |x::xs,y::ys,ha,hb=>by
  simp only[qr,aE] at ha hb;simp only[Tw.mB,fP,PyData.eqvAll,nP x y ha.1 hb.1,oX xs ys ha.2 hb.2]
end
theorem A0(h:LV x):PySem.PyData.canLay0 (.str ⟨x.toArray⟩)=true:=by rw[PyData.canLay0];simp only[PyData.strOk];simp;exact h
section
variable {X:Cx}{E:XK}{pins:aL}{σ:L2.St}{s:Shared}{ι:Nat->Addr}{h:Tw.Hp}{H:L2.Hp}
structure Dat(s:Shared)(k:Nat)(d:Tw.W)(u:Value):Prop where
 ex:∃as,Reads s.heap u (toD d) as
 lay:(toD d).canLay0=true
 deep:(toD d).depth<=k
 nr:nr d=true
theorem sX(P:∀(w d:Tw.W)(v:V)(u:Value),Tw.rd h k w=some d->RW X.K ι h.length H w v->RelV v u->Dat s k d u):
  ∀(ws ds:List Tw.W)(vs:List V)(us:List Value),Tw.dX h k ws=some ds->aT X.K ι h.length H ws vs->Vals vs us->
   (∃as,ReadsAll s.heap us (fP ds) as)/\PyData.canLayAll0 (fP ds)=true/\PyData.depthAll (fP ds)<=k/\qr ds=true
 |[],ds,_,_,e,.nil,.nil=>by
  simp at e;subst e;exact⟨⟨[],.nil⟩,by simp[fP,PyData.canLayAll0],by simp[fP,PyData.depthAll],by simp[qr]⟩
 |w::ws,ds,_,_,e,.cons rw' rws,.cons rv rvs=>by
  rw[Tw.dX] at e;cases e1:Tw.rd h k w with
  |none=>rw[e1] at e;cases e
  |some d=>
   cases e2:Tw.dX h k ws with
   |none=>rw[e1,e2] at e;cases e
   |some ds'=>
    rw[e1,e2] at e;cases e;obtain⟨⟨as,h1⟩,h2,h3,h4⟩:=P w d _ _ e1 rw' rv;obtain⟨⟨bs,g1⟩,g2,g3,g4⟩:=sX P ws ds' _ _ e2 rws rvs;exact⟨⟨as++bs,by rw[fP];exact .cons h1 g1⟩,by simp[fP,PyData.canLayAll0,h2,g2],by simp only[fP,PyData.depthAll];omega,by simp[qr,h4,g4]⟩
theorem j9(I:Inv X pins σ H s)(r:HR (zx X E) ι h H):∀(k:Nat)(w d:Tw.W)(v:V)(u:Value),Tw.rd h k w=some d->RW X.K ι h.length H w v->RelV v u->Dat s k d u:=by
 have flat:∀(k:Nat)(w d:Tw.W)(v:V)(u:Value),Tw.rd h k w=some d->RW X.K ι h.length H w v->RelV v u->(∀ws,w≠.tup ws)->(∀a,w≠.ref a)->Dat s k d u:=by
  intro k w d v u e rw' rv n1 n2;cases rw' with
  |aw=>simp at e;subst e;cases rv;exact⟨⟨[],.none⟩,by simp[toD,PyData.canLay0],by simp[toD,PyData.depth],by simp[nr]⟩
  |bl b=>simp at e;subst e;cases rv;exact⟨⟨[],.bool b⟩,by simp[toD,PyData.canLay0],by simp[toD,PyData.depth],by simp[nr]⟩
  |int i=>simp at e;subst e;obtain⟨t,rfl⟩:=rv;exact⟨⟨[],.int i t⟩,by simp[toD,PyData.canLay0],by simp[toD,PyData.depth],by simp[nr]⟩
  |str x hx=>simp at e;subst e;obtain⟨t,rfl⟩:=rv;exact⟨⟨[],by rw[toD];exact .str _ t⟩,by rw[toD];exact A0 hx,by simp[toD,PyData.depth],by simp[nr]⟩
  |tup _ _=>exact absurd rfl (n1 _)
  |ref _=>exact absurd rfl (n2 _)
 intro k
 induction k with
 |zero=>
  intro w d v u e rw' rv;cases w with
  |tup ws=>simp at e
  |ref a=>simp at e
  |_=>exact flat _ _ _ _ _ e rw' rv (fun _ z=>nomatch z) (fun _ z=>nomatch z)
 |succ k ih=>
  intro w d v u e rw' rv;cases w with
  |tup ws=>
   rw[Tw.rd] at e;cases e2:Tw.dX h k ws with
   |none=>rw[e2] at e;cases e
   |some ds=>
    rw[e2] at e;cases e;cases rw' with
    | @tup a xs _ ea ra=>
     cases rv;obtain⟨its,r1,it,_⟩:=I.tuple (TupAt.sq ea);obtain⟨⟨as,g1⟩,g2,g3,g4⟩:=sX ih ws ds _ _ e2 ra r1;obtain⟨o,h1,h2,n,h3⟩:=it;exact⟨⟨as,by rw[toD];exact .tuple h1 h2 h3 (by simpa using g1)⟩,by rw[toD,PyData.canLay0];exact g2,by rw[toD,PyData.depth];omega,by rw[nr];exact g4⟩
  |ref i=>
   cases rw' with
   |ref hi=>
    cases rv;have e:(match h[i]? with
     |some (.lst xs)=>(Tw.dX h k xs).map Tw.W.lst
     |some (.bh xs)=>(Tw.dX h k xs).map Tw.W.lst
     |_=>none)=some d:=by rw[Tw.rd] at e;exact e
    have fin:∀(ws:List Tw.W)(xs:List V),(Tw.dX h k ws).map Tw.W.lst=some d->dh X.K H (ι i) xs->aT X.K ι h.length H ws xs->Dat s (k+1) d (.ref (ι i)):=by
     intro ws xs e sq rws;cases e2:Tw.dX h k ws with
     |none=>rw[e2] at e;cases e
     |some ds=>
      rw[e2] at e;cases e;obtain⟨its,r1,⟨o,n,h1,h2,_,h3⟩,_⟩:=I.list sq;obtain⟨⟨as,g1⟩,g2,g3,g4⟩:=sX ih ws ds _ _ e2 rws r1;exact⟨⟨_,by rw[toD];exact .list h1 h2 h3 (by simpa using g1)⟩,by rw[toD,PyData.canLay0];exact g2,by rw[toD,PyData.depth];omega,by rw[nr];exact g4⟩
    cases ei:h[i]? with
    |none=>rw[ei] at e;cases e
    |some o=>
     rw[ei] at e;cases o with
     |lst ws=>obtain⟨xs,q1,q2⟩:=r.obj i _ ei;exact fin ws xs e (dh.of q1) q2
     |bh ws=>obtain⟨xs,q1,q2⟩:=r.obj i _ ei;exact fin ws xs e q1.sq q2
     |eV _=>cases e
     |ins _ _=>cases e
     |_=>cases e
  |lst _=>simp[Tw.rd] at e
  |_=>exact flat _ _ _ _ _ e rw' rv (fun _ z=>nomatch z) (fun _ z=>nomatch z)
end
section
variable {K:W.Frag}{ι:Nat->Addr}{n:Nat}{H:L2.Hp}
end
section
variable {X:Cx}{E:XK}{pins:aL}{σ:L2.St}{s:Shared}{ι:Nat->Addr}{h:Tw.Hp}{H:L2.Hp}{A:Around}
end
def xX(K:Zk)(neg:Bool):R2:=fun x y H Q=>∃(ι:Nat->Addr) (h:Tw.Hp) (w u:Tw.W) (b:Bool),HR K ι h H/\RW K.K ι h.length H w x/\RW K.K ι h.length H u y/\Tw.bw h w u=some b/\Q (.bl (if neg then !b else b)) H
section
variable {X:Cx}{E:XK}
theorem Hy(hu:X.A.units+100<cLine):cT X (compareOp .Eq) (xX (zx X E) false):=by
 intro pins s σ H x y v u Q I rx ry ⟨ι,h,w,z,b,r,rw',rz,e,q⟩;unfold Tw.bw at e;cases e1:Tw.cw h w with
 |none=>
  cases e2:Tw.cw h z with
  |some _=>rw[e1,e2] at e;cases e
  |none=>
   rw[e1,e2] at e;cases e3:Tw.rd h 60 w with
   |none=>rw[e3] at e;cases e
   |some a=>
    cases e4:Tw.rd h 60 z with
    |none=>rw[e3,e4] at e;cases e
    |some c=>
     rw[e3,e4] at e;cases e;obtain⟨⟨as,h1⟩,h2,h3,h4⟩:=j9 I r 60 w a x v e3 rw' rx;obtain⟨⟨bs,g1⟩,g2,g3,g4⟩:=j9 I r 60 z c y u e4 rz ry;refine SeqAt.compareEq_reads h1 g1 h2 g2 (by have:=Nat.min_le_left (toD a).depth (toD c).depth;omega) ?_;rw[<-nP a c h4 g4];exact⟨.bl _,H,I,rfl,q⟩
 |some xs=>
  cases e2:Tw.cw h z with
  |none=>rw[e1,e2] at e;cases e
  |some ys=>rw[e1,e2] at e;cases e
theorem GQ(hu:X.A.units+100<cLine):cT X (compareOp .NotEq) (xX (zx X E) true):=by
 intro pins s σ H x y v u Q I rx ry ⟨ι,h,w,z,b,r,rw',rz,e,q⟩;unfold Tw.bw at e;cases e1:Tw.cw h w with
 |none=>
  cases e2:Tw.cw h z with
  |some _=>rw[e1,e2] at e;cases e
  |none=>
   rw[e1,e2] at e;cases e3:Tw.rd h 60 w with
   |none=>rw[e3] at e;cases e
   |some a=>
    cases e4:Tw.rd h 60 z with
    |none=>rw[e3,e4] at e;cases e
    |some c=>
     rw[e3,e4] at e;cases e;obtain⟨⟨as,h1⟩,h2,h3,h4⟩:=j9 I r 60 w a x v e3 rw' rx;obtain⟨⟨bs,g1⟩,g2,g3,g4⟩:=j9 I r 60 z c y u e4 rz ry;refine SeqAt.compareNe_reads h1 g1 h2 g2 (by have:=Nat.min_le_left (toD a).depth (toD c).depth;omega) ?_;rw[<-nP a c h4 g4];exact⟨.bl _,H,I,rfl,q⟩
 |some xs=>
  cases e2:Tw.cw h z with
  |none=>rw[e1,e2] at e;cases e
  |some ys=>rw[e1,e2] at e;cases e
end
noncomputable def dT(d:Tw.Env->Tw.Hp->Tw.R Tw.W):Tw.Env->Tw.Hp->Tw.R Bool:=fun ρ h=>(d ρ h).bind fun w h=>Tw.R.of (Tw.truth h w) h
abbrev tT(K:Zk)(d:Tw.Env->Tw.Hp->Tw.R Tw.W):TT:=tG K RB (dT d)
theorem bind_assoc{α β γ:Type}(m:Tw.R α)(k:α->Tw.Hp->Tw.R β)(l:β->Tw.Hp->Tw.R γ):(m.bind k).bind l=m.bind fun a h=>(k a h).bind l:=by cases m<;>rfl
section
variable {X:Cx}{E:XK}{a b c:Expr}{pos:Pos}{da db dc:Tw.Env->Tw.Hp->Tw.R Tw.W}
theorem FN(ho:cT X (compareOp o) r)
  (hr:∀(ι:Nat->Addr)(h:Tw.Hp)(H:L2.Hp)(w u:Tw.W)(x y:V)(k:Bool)(Q:VK),HR (zx X E) ι h H->RW X.K ι h.length H w x->RW X.K ι h.length H u y->Tw.cmp op w u h=some k->Q (.bl k) H->r x y H Q)
  (ha:PE X a (tE (zx X E) da)) (hb:PE X b (tE (zx X E) db)) (hm:behindInMarks o b=false):
  PE X (.Compare a [o] [b] pos) (tE (zx X E) fun ρ h=>(da ρ h).bind fun x h=>(db ρ h).bind fun y h=>Tw.R.of ((Tw.cmp op x y h).map .bl) h)/\
  PT X (.Compare a [o] [b] pos) (tT (zx X E) fun ρ h=>(da ρ h).bind fun x h=>(db ρ h).bind fun y h=>Tw.R.of ((Tw.cmp op x y h).map .bl) h):=by
 constructor
 .refine PE.imp (Ew ho ha hb hm) (two fun ι h H w u x y Q hR rx ry p=>?_);cases e:Tw.cmp op w u h with
  |none=>rw[e] at p;exact p.elim
  |some k=>rw[e] at p;exact hr ι h H w u x y k Q hR rx ry e (au.self (a:=Tw.W.bl k) p hR (.bl k))
 .refine PT.imp (Er ho ha hb hm) fun σ H Q U=>U.g fun ρ U=>U.g fun h U=>U.g fun ι U=>U.g fun at' p=>?_;simp only[dT,bind_assoc] at p;refine⟨ρ,h,ι,at',(step at' p).mono fun x H1 U=>U.g fun w U=>U.g fun h1 U=>U.g fun ι1 U=>U.g fun at1 U=>U.g fun e1 U=>U.g fun r1 p1=>⟨ρ,h1,ι1,at1,(step at1 p1).mono fun y H2 U=>U.g fun u U=>U.g fun h2 U=>U.g fun ι2 U=>U.g fun at2 U=>U.g fun e2 U=>U.g fun r2 p2=>?_⟩⟩;cases e:Tw.cmp op w u h2 with
  |none=>rw[e] at p2;exact p2.elim
  |some k=>rw[e] at p2;exact hr ι2 h2 H2 w u x y k _ at2.hr (r1.keep (e2.keeps at1.hr)) r2 e ⟨k,rfl,au.self (a:=k) p2 at2.hr rfl⟩
theorem L8(ι:Nat->Addr)(h:Tw.Hp)(H:L2.Hp)(w u:Tw.W)(x y:V)(k:Bool)(Q:VK)(r:HR (zx X E) ι h H)(rx:RW X.K ι h.length H w x)(ry:RW X.K ι h.length H u y)(e:Tw.cmp .eq w u h=some k)(q:Q (.bl k) H):xX (zx X E) false x y H Q:=
 ⟨ι,h,w,u,k,r,rx,ry,e,q⟩
theorem Ma(ι:Nat->Addr)(h:Tw.Hp)(H:L2.Hp)(w u:Tw.W)(x y:V)(k:Bool)(Q:VK)(r:HR (zx X E) ι h H)(rx:RW X.K ι h.length H w x)(ry:RW X.K ι h.length H u y)(e:Tw.cmp .ne w u h=some k)(q:Q (.bl k) H):xX (zx X E) true x y H Q:=by
 have e:(Tw.bw h w u).map (!·)=some k:=e;cases e2:Tw.bw h w u with
 |none=>rw[e2] at e;cases e
 |some b=>rw[e2] at e;cases e;exact⟨ι,h,w,u,b,r,rx,ry,e2,q⟩
theorem sW{f:Int->Int->Bool}(hf:∀w u h,Tw.cmp op w u h=match w,u with | .int i,.int j=>some (f i j)|_,_=>none)
  (ι:Nat->Addr) (h:Tw.Hp) (H:L2.Hp) (w u:Tw.W) (x y:V) (k:Bool) (Q:VK) (r:HR (zx X E) ι h H) (rx:RW X.K ι h.length H w x) (ry:RW X.K ι h.length H u y) (e:Tw.cmp op w u h=some k) (q:Q (.bl k) H):oF (fun i j=>.bl (f i j)) x y H Q:=by
 rw[hf] at e;cases rx with
 |int i=>
  cases ry with
  |int j=>cases e;exact⟨i,j,rfl,rfl,q⟩
  |_=>cases e
 |_=>cases ry<;>cases e
theorem Gk(ι:Nat->Addr)(h:Tw.Hp)(H:L2.Hp)(w u:Tw.W)(x y:V)(k:Bool)(Q:VK)(r:HR (zx X E) ι h H)(rx:RW X.K ι h.length H w x)(ry:RW X.K ι h.length H u y)(e:Tw.cmp .notN w u h=some k)(q:Q (.bl k) H):
  y=.aw/\Q (.bl (!decide (x=.aw))) H:=by
 cases ry with
 |aw=>cases rx<;>(cases e;exact⟨rfl,q⟩)
 |_=>cases e
def qT(K:Zk)(neg:Bool):R2:=fun x y H Q=>∃ι h w ws p xs a ds,HR K ι h H/\RW K.K ι h.length H w x/\y=.ref p/\(dh K.K H p xs\/dW K.K H p xs)/\aT K.K ι h.length H ws xs/\Tw.rd h 60 w=some a/\Tw.dX h 60 ws=some ds/\
 Q (.bl (if neg then !(ds.any fun z=>Tw.bj z a) else ds.any fun z=>Tw.bj z a)) H
open Classical in
noncomputable def jc(s:Shared)(a:PyData)(y:Value):Bool:=decide (∃d as,Reads s.heap y d as/\PyData.eqv d a=true)
open Classical in
theorem zw{a:PyData}(r:Reads s.heap y d as):jc s a y=PyData.eqv d a:=by
 unfold jc;cases e:PyData.eqv d a with
 |true=>exact dG ⟨d,as,r,e⟩
 |false=>exact bA fun⟨d',as',r',e'⟩=>(by obtain⟨rfl,_⟩:=PySem.Reads.unique r _ _ r';rw[e] at e';cases e')
theorem nk{a:Tw.W}{A:Around}(I:Inv X pins σ H s)(r:HR (zx X E) ι h H)(h1:Reads s.heap v (toD a) as)(h2:(toD a).canLay0=true)(h4:nr a=true)(hu:A.units+90<cLine):∀(ws ds:List Tw.W)(xs:List V)(us:List Value),Tw.dX h 60 ws=some ds->aT X.K ι h.length H ws xs->Vals xs us->
  (∀y∈us,SeqAt.EqAt A s y v (jc s (toD a) y))/\us.any (jc s (toD a))=ds.any fun z=>Tw.bj z a
 |[],ds,_,_,e,.nil,.nil=>by rw[Tw.dX] at e;cases e;exact⟨fun y hy=>(nomatch hy),rfl⟩
 |w::ws,ds,_,_,e,.cons rw' rws,.cons rv rvs=>by
  rw[Tw.dX] at e;cases e1:Tw.rd h 60 w with
  |none=>rw[e1] at e;cases e
  |some d=>
   cases e2:Tw.dX h 60 ws with
   |none=>rw[e1,e2] at e;cases e
   |some ds'=>
    rw[e1,e2] at e;cases e;obtain⟨⟨bs,g1⟩,g2,g3,g4⟩:=j9 I r 60 w d _ _ e1 rw' rv;obtain⟨z1,z2⟩:=nk I r h1 h2 h4 hu ws ds' _ _ e2 rws rvs;refine⟨fun y hy=>?_,?_⟩
    .rcases cY.mp hy with rfl|hy
     .rw[zw g1];exact SeqAt.eqAt_reads _ _ A s _ _ _ _ g1 h1 g2 h2 (by have:=Nat.min_le_left (toD d).depth (toD a).depth;omega)
     .exact z1 y hy
    .rw[uW,uW,z2,zw g1,nP d a g4 h4]
theorem HN(hu:X.A.units+100<cLine):cT X (compareOp .In) (qT (zx X E) false):=by
 .intro pins s σ H x y v u Q I rx ry ⟨ι,h,w,ws,p,xs,a,ds,r,rw',ey,sq,rws,e1,e2,q⟩;subst ey;cases ry;obtain⟨⟨as,h1⟩,h2,h3,h4⟩:=j9 I r 60 w a x v e1 rw' rx;rcases sq with sq|sq
  .obtain⟨its,rv,pl,hz⟩:=I.list sq;obtain⟨z1,z2⟩:=nk (A:=X.A.in1) I r h1 h2 h4 (show X.A.units+1+90<cLine by omega) ws ds _ _ e2 rws rv;refine SeqAt.in_listAt (jc s (toD a)) pl.isList (fun w hw=>z1 w (by simpa using hw)) ⟨.bl _,H,I,rfl,?_⟩;rw[show its.toArray.any (jc s (toD a))=its.any (jc s (toD a)) by simp,z2];exact q
  .obtain⟨its,rv,pl,hz⟩:=I.tuple sq;obtain⟨z1,z2⟩:=nk (A:=X.A.in1) I r h1 h2 h4 (show X.A.units+1+90<cLine by omega) ws ds _ _ e2 rws rv;refine SeqAt.in_tupleAt (jc s (toD a)) pl (fun w hw=>z1 w (by simpa using hw)) ⟨.bl _,H,I,rfl,?_⟩;rw[show its.toArray.any (jc s (toD a))=its.any (jc s (toD a)) by simp,z2];exact q
theorem yR(hu:X.A.units+100<cLine):cT X (compareOp .NotIn) (qT (zx X E) true):=by
 .intro pins s σ H x y v u Q I rx ry ⟨ι,h,w,ws,p,xs,a,ds,r,rw',ey,sq,rws,e1,e2,q⟩;subst ey;cases ry;obtain⟨⟨as,h1⟩,h2,h3,h4⟩:=j9 I r 60 w a x v e1 rw' rx;rcases sq with sq|sq
  .obtain⟨its,rv,pl,hz⟩:=I.list sq;obtain⟨z1,z2⟩:=nk (A:=X.A.in1) I r h1 h2 h4 (show X.A.units+1+90<cLine by omega) ws ds _ _ e2 rws rv;refine SeqAt.notIn_listAt (jc s (toD a)) pl.isList (fun w hw=>z1 w (by simpa using hw)) ⟨.bl _,H,I,rfl,?_⟩;rw[show its.toArray.any (jc s (toD a))=its.any (jc s (toD a)) by simp,z2];exact q
  .obtain⟨its,rv,pl,hz⟩:=I.tuple sq;obtain⟨z1,z2⟩:=nk (A:=X.A.in1) I r h1 h2 h4 (show X.A.units+1+90<cLine by omega) ws ds _ _ e2 rws rv;refine SeqAt.notIn_tupleAt (jc s (toD a)) pl (fun w hw=>z1 w (by simpa using hw)) ⟨.bl _,H,I,rfl,?_⟩;rw[show its.toArray.any (jc s (toD a))=its.any (jc s (toD a)) by simp,z2];exact q
theorem in_of(neg:Bool)(ι:Nat->Addr)(h:Tw.Hp)(H:L2.Hp)(w u:Tw.W)(x y:V)(k:Bool)(Q:VK)(r:HR (zx X E) ι h H)(rx:RW X.K ι h.length H w x)(ry:RW X.K ι h.length H u y)(e:Tw.isIn w u h=some k)
  (q:Q (.bl (if neg then !k else k)) H):qT (zx X E) neg x y H Q:=by
 unfold Tw.isIn at e;cases e2:Tw.uT h u with
  |none=>rw[e2] at e;cases e
  |some ws=>
   rw[e2] at e;dsimp only at e;have fin:∀(p:Addr)(xs:List V),y=.ref p->(dh X.K H p xs\/dW X.K H p xs)->aT X.K ι h.length H ws xs->qT (zx X E) neg x y H Q:=by
    intro p xs ey sq rr;cases e3:Tw.rd h 60 w with
    |none=>rw[e3] at e;cases e
    |some a=>
     cases e4:Tw.dX h 60 ws with
     |none=>rw[e3,e4] at e;cases e
     |some ds=>
      rw[e3,e4] at e;cases e;exact⟨ι,h,w,ws,p,xs,a,ds,r,rx,ey,sq,rr,e3,e4,q⟩
   cases ry with
   | @tup a xs us ea ra=>
    have e2:some us=some ws:=e2;cases e2;exact fin a xs rfl (.inr (TupAt.sq ea)) ra
   | @ref i hi=>
    have e2:(match h[i]? with|some (.lst xs)=>some xs|some (.bh xs)=>some xs|_=>none)=some ws:=e2;cases ei:h[i]? with
    |none=>rw[ei] at e2;cases e2
    |some o=>
     rw[ei] at e2;cases o with
     |lst us=>cases e2;obtain⟨xs,q1,q2⟩:=r.obj i _ ei;exact fin _ xs rfl (.inl (dh.of q1)) q2
     |bh us=>cases e2;obtain⟨xs,q1,q2⟩:=r.obj i _ ei;exact fin _ xs rfl (.inl q1.sq) q2
     |_=>cases e2
   |_=>cases e2
theorem Nm(ι:Nat->Addr)(h:Tw.Hp)(H:L2.Hp)(w u:Tw.W)(x y:V)(k:Bool)(Q:VK)(r:HR (zx X E) ι h H)(rx:RW X.K ι h.length H w x)(ry:RW X.K ι h.length H u y)(e:Tw.cmp .isin w u h=some k)(q:Q (.bl k) H):qT (zx X E) false x y H Q:=
 in_of false ι h H w u x y k Q r rx ry e q
theorem DV(ι:Nat->Addr)(h:Tw.Hp)(H:L2.Hp)(w u:Tw.W)(x y:V)(k:Bool)(Q:VK)(r:HR (zx X E) ι h H)(rx:RW X.K ι h.length H w x)(ry:RW X.K ι h.length H u y)(e:Tw.cmp .notin w u h=some k)(q:Q (.bl k) H):qT (zx X E) true x y H Q:=by
 have e:(Tw.isIn w u h).map (!·)=some k:=e;cases e2:Tw.isIn w u h with
 |none=>rw[e2] at e;cases e
 |some b=>rw[e2] at e;cases e;exact in_of true ι h H w u x y b Q r rx ry e2 q
theorem yJ(ι:Nat->Addr)(h:Tw.Hp)(H:L2.Hp)(w:Tw.W)(x:V)(k:Bool)(r:HR (zx X E) ι h H)(rx:RW X.K ι h.length H w x)(e:Tw.truth h w=some k):AR X.K x H k:=by
 cases rx with
 |bl b=>cases e;rfl
 |_=>cases e
end
end TwS
namespace TwS
open PySem L2 PyProof.Rows
section
variable {X:Cx}{E:XK}{a b c:Expr}{pos:Pos}{da db dc:Tw.Env->Tw.Hp->Tw.R Tw.W}
theorem DI(ha:PE X a (tE (zx X E) da))(he:∀whole,isTrue a X.env whole=(do let v <-whole;standAt a.pos;holding [v] (truthy v))):PT X a (tT (zx X E) da):=by
 refine PT.imp (Br ha he) fun σ H Q U=>U.g fun ρ U=>U.g fun h U=>U.g fun ι U=>U.g fun at' p=>⟨ρ,h,ι,at',(step at' p).mono fun x H1 U=>U.g fun w U=>U.g fun h1 U=>U.g fun ι1 U=>U.g fun at1 U=>U.g fun e1 U=>U.g fun r1 p1=>?_⟩;cases e:Tw.truth h1 w with
 |none=>rw[e] at p1;exact p1.elim
 |some k=>rw[e] at p1;exact⟨k,yJ ι1 h1 H1 w x k at1.hr r1 e,au.self (a:=k) p1 at1.hr rfl⟩
theorem Kr(ha:PE X a (tE (zx X E) da))(ht:PT X a (tT (zx X E) da)):
  PE X (.UnaryOp .Not a pos) (tE (zx X E) fun ρ h=>(da ρ h).bind fun x h=>Tw.R.of ((Tw.truth h x).map fun b=>.bl (!b)) h)/\
  PT X (.UnaryOp .Not a pos) (tT (zx X E) fun ρ h=>(da ρ h).bind fun x h=>Tw.R.of ((Tw.truth h x).map fun b=>.bl (!b)) h):=by
 constructor
 .intro pins s σ H Q I ⟨ρ,h,ι,at',p⟩;refine UnaryOp_ (aG (ha pins s σ H _ I ⟨ρ,h,ι,at',step at' p⟩) fun v s1 U=>U.g fun x U=>U.g fun H1 U=>U.g fun I1 U=>U.g fun rv U=>U.g fun w U=>U.g fun h1 U=>U.g fun ι1 U=>U.g fun at1 U=>U.g fun e1 U=>U.g fun r1 p1=>not_of ?_);cases e:Tw.truth h1 w with
  |none=>rw[e] at p1;exact p1.elim
  |some k=>
   rw[e] at p1;refine aG (zQ pins s1 σ H1 x v (fun k' H'=>Q (.bl (!k')) H') I1 rv ⟨k,yJ ι1 h1 H1 w x k at1.hr r1 e,au.self (a:=Tw.W.bl (!k)) p1 at1.hr (.bl _)⟩) fun k' s2 U=>U.g fun H2 U=>U.g fun I2 q=>⟨.bl (!k'),H2,I2,rfl,q⟩
 .refine PT.imp (GL ht) fun σ H Q U=>U.g fun ρ U=>U.g fun h U=>U.g fun ι U=>U.g fun at' p=>?_;refine⟨ρ,h,ι,at',?_⟩;simp only[dT,bind_assoc] at p⊢;cases e0:da ρ h with
  |bad=>rw[e0] at p;exact p.elim
  |aI=>rw[e0] at p;exact p
  |ok w h1=>
   rw[e0] at p;simp only[Tw.R.af] at p⊢;cases e:Tw.truth h1 w with
   |none=>rw[e] at p;exact p.elim
   |some k=>
    rw[e] at p;intro ι' H' b e1 r1 q;cases q;exact p ι' H' (!k) e1 r1 rfl
noncomputable def wU(da db:Tw.Env->Tw.Hp->Tw.R Tw.W):Tw.Env->Tw.Hp->Tw.R Tw.W:=fun ρ h=>(da ρ h).bind fun x h=>match x with
  |.bl true=>db ρ h
  |.bl false=>.ok (.bl false) h
  |_=>.bad
noncomputable def Dk(da db:Tw.Env->Tw.Hp->Tw.R Tw.W):Tw.Env->Tw.Hp->Tw.R Tw.W:=fun ρ h=>(da ρ h).bind fun x h=>match x with
  |.bl false=>db ρ h
  |.bl true=>.ok (.bl true) h
  |_=>.bad
theorem Kx{rest:List Expr}(ha:PE X a (tE (zx X E) da))(hb:PE X (.BoolOp .And (b::rest) pos) (tE (zx X E) db)):PE X (.BoolOp .And (a::b::rest) pos) (tE (zx X E) (wU da db)):=by
 refine PE.imp (Ie ha hb) fun σ H Q U=>U.g fun ρ U=>U.g fun h U=>U.g fun ι U=>U.g fun at' p=>⟨ρ,h,ι,at',(step at' p).mono fun x H1 U=>U.g fun w U=>U.g fun h1 U=>U.g fun ι1 U=>U.g fun at1 U=>U.g fun e1 U=>U.g fun r1 p1=>?_⟩;cases r1 with
 |bl k=>
  refine⟨k,rfl,?_⟩;cases k with
  |true=>rw[if_pos rfl];exact⟨ρ,h1,ι1,at1,p1⟩
  |false=>rw[if_neg (by decide)];exact au.self (a:=Tw.W.bl false) p1 at1.hr (.bl _)
 |_=>exact p1.elim
theorem MD{rest:List Expr}(ha:PE X a (tE (zx X E) da))(hb:PE X (.BoolOp .Or (b::rest) pos) (tE (zx X E) db)):PE X (.BoolOp .Or (a::b::rest) pos) (tE (zx X E) (Dk da db)):=by
 refine PE.imp (Jr ha hb) fun σ H Q U=>U.g fun ρ U=>U.g fun h U=>U.g fun ι U=>U.g fun at' p=>⟨ρ,h,ι,at',(step at' p).mono fun x H1 U=>U.g fun w U=>U.g fun h1 U=>U.g fun ι1 U=>U.g fun at1 U=>U.g fun e1 U=>U.g fun r1 p1=>?_⟩;cases r1 with
 |bl k=>
  refine⟨k,rfl,?_⟩;cases k with
  |true=>rw[if_pos rfl];exact au.self (a:=Tw.W.bl true) p1 at1.hr (.bl _)
  |false=>rw[if_neg (by decide)];exact⟨ρ,h1,ι1,at1,p1⟩
 |_=>exact p1.elim
theorem w_and{rest:List Expr}(ha:PT X a (tT (zx X E) da))(hb:PW X (.BoolOp .And (b::rest) pos) (tT (zx X E) db)):PW X (.BoolOp .And (a::b::rest) pos) (tT (zx X E) (wU da db)):=by
 refine PW.imp (HD ha hb) fun σ H Q U=>U.g fun ρ U=>U.g fun h U=>U.g fun ι U=>U.g fun at' p=>⟨ρ,h,ι,at',?_⟩;simp only[dT,wU,bind_assoc] at p⊢;cases e0:da ρ h with
 |bad=>rw[e0] at p;exact p.elim
 |aI=>rw[e0] at p;exact p
 |ok w h1=>
  rw[e0] at p;simp only[Tw.R.af] at p⊢;cases w with
  |bl k=>
   intro ι' H' k' e1 r1 q;cases q;cases k with
   |true=>rw[if_pos rfl];exact⟨ρ,h1,ι',at'.later e1 r1,au.later p e1⟩
   |false=>rw[if_neg (by decide)];exact au.self (a:=false) (au.later p e1) r1 rfl
  |_=>exact p.elim
theorem w_or{rest:List Expr}(ha:PT X a (tT (zx X E) da))(hb:PW X (.BoolOp .Or (b::rest) pos) (tT (zx X E) db)):PW X (.BoolOp .Or (a::b::rest) pos) (tT (zx X E) (Dk da db)):=by
 refine PW.imp (J6 ha hb) fun σ H Q U=>U.g fun ρ U=>U.g fun h U=>U.g fun ι U=>U.g fun at' p=>⟨ρ,h,ι,at',?_⟩;simp only[dT,Dk,bind_assoc] at p⊢;cases e0:da ρ h with
 |bad=>rw[e0] at p;exact p.elim
 |aI=>rw[e0] at p;exact p
 |ok w h1=>
  rw[e0] at p;simp only[Tw.R.af] at p⊢;cases w with
  |bl k=>
   intro ι' H' k' e1 r1 q;cases q;cases k with
   |true=>rw[if_pos rfl];exact au.self (a:=true) (au.later p e1) r1 rfl
   |false=>rw[if_neg (by decide)];exact⟨ρ,h1,ι',at'.later e1 r1,au.later p e1⟩
  |_=>exact p.elim
theorem Ka(hc:PT X c (tT (zx X E) dc))(ha:PE X a (tE (zx X E) da))(hb:PE X b (tE (zx X E) db)):PE X (.IfExp c a b pos) (tE (zx X E) fun ρ h=>(dc ρ h).bind fun x h=>match Tw.truth h x with
  |some true=>da ρ h
  |some false=>db ρ h
  |none=>.bad):=by
 refine PE.imp (BM hc ha hb) fun σ H Q U=>U.g fun ρ U=>U.g fun h U=>U.g fun ι U=>U.g fun at' p=>⟨ρ,h,ι,at',?_⟩;simp only[dT] at p⊢;cases e0:dc ρ h with
 |bad=>rw[e0] at p;exact p.elim
 |aI=>rw[e0] at p;exact p
 |ok w h1=>
  rw[e0] at p;simp only[Tw.R.af] at p⊢;cases e:Tw.truth h1 w with
  |none=>rw[e] at p;exact p.elim
  |some k=>
   rw[e] at p;intro ι' H' k' e1 r1 q;cases q;cases k with
   |true=>rw[if_pos rfl];exact⟨ρ,h1,ι',at'.later e1 r1,au.later p e1⟩
   |false=>rw[if_neg (by decide)];exact⟨ρ,h1,ι',at'.later e1 r1,au.later p e1⟩
theorem Hk(ι:Nat->Addr)(h:Tw.Hp)(H:L2.Hp)(w u:Tw.W)(x y:V)(Q:VK)(r:HR (zx X E) ι h H)(rx:RW X.K ι h.length H w x)(ry:RW X.K ι h.length H u y)(p:au (zx X E) RE ι h H (Tw.idx w u h) Q):G6 X.K x y H Q:=by
 have lst:∀(i:Nat)(hi:i<h.length)(ws:List Tw.W)(xs:List V),dh X.K H (ι i) xs->aT X.K ι h.length H ws xs->au (zx X E) RE ι h H (match u with | .int k=>Tw.R.of (Tw.dC ws k) h|_=>.bad) Q->G6 X.K (.ref (ι i)) y H Q:=by
  intro i hi ws xs sq rr p;cases ry with
  |int k=>
   dsimp only at p;cases e:Tw.dC ws k with
   |none=>rw[e] at p;exact p.elim
   |some w'=>
    rw[e] at p;obtain⟨v,q1,q2⟩:=rr.dC e;exact .inl ⟨ι i,xs,k,v,rfl,rfl,sq,q1,au.self (a:=w') p r q2⟩
  |_=>exact p.elim
 cases rx with
 | @tup a xs ws ea ra=>
  cases ry with
  |int k=>
   have p:au (zx X E) RE ι h H (Tw.R.of (Tw.dC ws k) h) Q:=p;cases e:Tw.dC ws k with
   |none=>rw[e] at p;exact p.elim
   |some w'=>
    rw[e] at p;obtain⟨v,q1,q2⟩:=ra.dC e;exact .inr (.inl ⟨a,xs,k,v,rfl,rfl,TupAt.sq ea,q1,au.self (a:=w') p r q2⟩)
  |_=>exact p.elim
 | @ref i hi=>
  cases ei:h[i]? with
  |none=>
   have:h.length<=i:=by
    rcases qS i h.length with z|z
    .rw[gJ z] at ei;cases ei
    .exact z
   omega
  |some o=>
   cases o with
   |lst ws=>
    obtain⟨xs,q1,q2⟩:=r.obj i _ ei;refine lst i hi ws xs (dh.of q1) q2 ?_;simp only[Tw.idx,ei] at p;cases u<;>exact p
   |bh ws=>
    obtain⟨xs,q1,q2⟩:=r.obj i _ ei;refine lst i hi ws xs q1.sq q2 ?_;simp only[Tw.idx,ei] at p;cases u<;>exact p
   |ins _ _=>exfalso;cases ry<;>simp[Tw.idx,ei] at p<;>exact p
   |_=>exfalso;cases ry<;>simp[Tw.idx,ei] at p<;>exact p
 |_=>cases ry<;>exact p.elim
theorem Kc(hu:X.A.units+1<cLine)(ha:PE X a (tE (zx X E) da))(hb:PE X b (tE (zx X E) db))(hs:qW b):PE X (.Subscript a b pos) (tE (zx X E) fun ρ h=>(da ρ h).bind fun x h=>(db ρ h).bind fun y h=>Tw.idx x y h):=
 PE.imp (Jw HI ha hb hs) (two Hk)
end
section
variable {X:Cx}{E:XK}{a b c:Expr}{pos:Pos}{da db dc:Tw.Env->Tw.Hp->Tw.R Tw.W}
abbrev zt(K:Zk)(d:Tw.Env->Tw.Hp->Tw.R (Option Tw.W)):TO:=fun σ H Q=>∃ρ h ι,At K ι h H ρ σ/\au K (fun _ _ _ _ (a:Option Tw.W) (b:Option Tw.W)=>a=b) ι h H (d ρ h) fun o H1=>∃i,Tw.hF o=some i/\Q i H1
theorem Bf:PO X none (zt (zx X E) fun _ h=>.ok none h):=fun pins s σ H Q I U=>U.g fun ρ U=>U.g fun h U=>U.g fun ι U=>U.g fun at' p=>by
 obtain⟨i,e,q⟩:=p.self at'.hr rfl;cases e;exact DM pins s σ H Q I q
theorem Bj(ha:PE X a (tE (zx X E) da)):PO X (some a) (zt (zx X E) fun ρ h=>(da ρ h).bind fun x h=>.ok (some x) h):=fun pins s σ H Q I U=>U.g fun ρ U=>U.g fun h U=>U.g fun ι U=>U.g fun at' p=>by
 refine Ec ha pins s σ H Q I ⟨ρ,h,ι,at',(step at' p).mono fun x H1 U=>U.g fun w U=>U.g fun h1 U=>U.g fun ι1 U=>U.g fun at1 U=>U.g fun e1 U=>U.g fun r1 p1=>?_⟩;obtain⟨i,e,q⟩:=au.self (a:=some w) p1 at1.hr rfl;cases r1 with
 |int k=>cases e;exact⟨k,rfl,q⟩
 |_=>cases e
theorem Bb{ι:Nat->Addr}(r:HR (zx X E) ι h H)(rx:RW X.K ι h.length H w x)(el:Tw.hF l=some i)(eu:Tw.hF u=some j)
  (p:au (zx X E) RE ι h H (Tw.slice w l u h) Q):Ip X.K x i j H Q:=by
 unfold Tw.slice at p;rw[el,eu] at p;dsimp only at p;cases rx with
 | @tup a xs ws ea ra=>
  dsimp only at p;by_cases c:Tw.bc ws.length 0 i=0/\Tw.bc ws.length ws.length j=ws.length
  .rw[if_pos c] at p;exact p.elim
  .rw[if_neg c] at p;refine⟨a,xs,rfl,TupAt.sq ea,?_,p.tup r (ra.cut i j)⟩;rw[<-ra.length,<-qm,<-qm];exact c
 |_=>exact p.elim
theorem EH{lo hi:Option Expr}{p2:Pos}{dl du:Tw.Env->Tw.Hp->Tw.R (Option Tw.W)}(ha:PE X a (tE (zx X E) da))(hl:PO X lo (zt (zx X E) dl))(hu:PO X hi (zt (zx X E) du)):
  PE X (.Subscript a (.Slice lo hi none p2) pos) (tE (zx X E) fun ρ h=>(da ρ h).bind fun x h=>(dl ρ h).bind fun l h=>(du ρ h).gy.bind fun u h=>Tw.slice x l u h):=by
 refine PE.imp (AJ E8 ha hl hu) fun σ H Q U=>U.g fun ρ U=>U.g fun h U=>U.g fun ι U=>U.g fun at' p=>⟨ρ,h,ι,at',(step at' p).mono fun x H1 U=>U.g fun w U=>U.g fun h1 U=>U.g fun ι1 U=>U.g fun at1 U=>U.g fun e1 U=>U.g fun r1 p1=>?_⟩;refine⟨ρ,h1,ι1,at1,?_⟩;cases el:dl ρ h1 with
 |bad=>rw[el] at p1;exact p1.elim
 |aI=>rw[el] at p1;exact p1
 |ok l h2=>
  rw[el] at p1;simp only[Tw.R.af] at p1;intro ι2 H2 l' e2 r2 q2;cases q2;cases eu:du ρ h2 with
  |bad=>rw[eu] at p1;exact p1.elim
  |aI=>rw[eu] at p1;exact p1.elim
  |ok u h3=>
   rw[eu] at p1;simp only[Tw.R.dY,Tw.R.af] at p1;have pl:∃i,Tw.hF l=some i:=by
    cases e:Tw.hF l with
    |some i=>exact⟨i,rfl⟩
    |none=>unfold Tw.slice at p1;rw[e] at p1;exact p1.elim
   have pu:∃i,Tw.hF u=some i:=by
    cases e:Tw.hF u with
    |some i=>exact⟨i,rfl⟩
    |none=>unfold Tw.slice at p1;rw[e] at p1;obtain⟨i,e'⟩:=pl;rw[e'] at p1;exact p1.elim
   obtain⟨i,ei⟩:=pl;obtain⟨j,ej⟩:=pu;refine⟨i,ei,ρ,h2,ι2,at1.later e2 r2,?_⟩;rw[eu];intro ι3 H3 u' e3 r3 q3;cases q3;have p3:=au.later (au.later p1 e2) e3;exact⟨j,ej,Bb r3 ((r1.keep (e2.keeps at1.hr)).keep (e3.keeps r2)) ei ej p3⟩
theorem xE{r:List V->L2.Hp->VK->Prop}(hp:PE X (.Call (.Name x p) [a] [] pos) (HG r (sV (tE (zx X E) da) xT)))
  (hr:∀(ι:Nat->Addr)(h:Tw.Hp)(H:L2.Hp)(w:Tw.W)(x:V)(Q:VK),HR (zx X E) ι h H->RW X.K ι h.length H w x->au (zx X E) RE ι h H (Tw.builtin o w h) Q->r [x] H Q):
  PE X (.Call (.Name x p) [a] [] pos) (tE (zx X E) fun ρ h=>(da ρ h).bind fun x h=>Tw.builtin o x h):=
 PE.imp hp fun σ H Q U=>U.g fun ρ U=>U.g fun h U=>U.g fun ι U=>U.g fun at' p=>⟨ρ,h,ι,at',(step at' p).mono fun x H1 U=>U.g fun w U=>U.g fun h1 U=>U.g fun ι1 U=>U.g fun at1 U=>U.g fun e1 U=>U.g fun r1 p1=>hr ι1 h1 H1 w x Q at1.hr r1 p1⟩
theorem HH(ι:Nat->Addr)(h:Tw.Hp)(H:L2.Hp)(w:Tw.W)(x:V)(Q:VK)(r:HR (zx X E) ι h H)(rx:RW X.K ι h.length H w x)(p:au (zx X E) RE ι h H (Tw.builtin .len w h) Q):∃p ys,[x]=[V.ref p]/\(dh X.K H p ys\/dW X.K H p ys)/\Q (.int ys.length) H:=by
 unfold Tw.builtin at p;dsimp only at p;cases rx with
 | @tup a xs ws ea ra=>exact⟨a,xs,rfl,.inr (TupAt.sq ea),by rw[<-ra.length];exact p.self r (.int _)⟩
 | @ref k hk=>
  dsimp only at p;cases ei:h[k]? with
  |none=>rw[ei] at p;exact p.elim
  |some o=>
   rw[ei] at p;cases o with
   |lst ws=>obtain⟨xs,q1,q2⟩:=r.obj k _ ei;exact⟨_,xs,rfl,.inl (dh.of q1),by rw[<-q2.length];exact p.self r (.int _)⟩
   |bh ws=>obtain⟨xs,q1,q2⟩:=r.obj k _ ei;exact⟨_,xs,rfl,.inl q1.sq,by rw[<-q2.length];exact p.self r (.int _)⟩
   |ins _ _=>exact p.elim
   |_=>exact p.elim
 |_=>exact p.elim
theorem EB(ι:Nat->Addr)(h:Tw.Hp)(H:L2.Hp)(w:Tw.W)(x:V)(Q:VK)(r:HR (zx X E) ι h H)(rx:RW X.K ι h.length H w x)(p:au (zx X E) RE ι h H (Tw.builtin .list w h) Q):∃p ys,[x]=[V.ref p]/\(dh X.K H p ys\/dW X.K H p ys)/\∀l,H l=none->Q (.ref l) (upd H l (.lst ys)):=by
 unfold Tw.builtin at p;dsimp only at p;cases rx with
 | @tup a xs ws ea ra=>exact⟨a,xs,rfl,.inr (TupAt.sq ea),p.lst r ra⟩
 | @ref k hk=>
  dsimp only at p;cases ei:h[k]? with
  |none=>rw[ei] at p;exact p.elim
  |some o=>
   rw[ei] at p;cases o with
   |lst ws=>obtain⟨xs,q1,q2⟩:=r.obj k _ ei;exact⟨_,xs,rfl,.inl (dh.of q1),p.lst r q2⟩
   |bh ws=>obtain⟨xs,q1,q2⟩:=r.obj k _ ei;exact⟨_,xs,rfl,.inl q1.sq,p.lst r q2⟩
   |ins _ _=>exact p.elim
   |_=>exact p.elim
 |_=>exact p.elim
theorem Hl(ι:Nat->Addr)(h:Tw.Hp)(H:L2.Hp)(w:Tw.W)(x:V)(Q:VK)(r:HR (zx X E) ι h H)(rx:RW X.K ι h.length H w x)(p:au (zx X E) RE ι h H (Tw.builtin .int w h) Q):
  (∃i,[x]=[V.int i]/\Q (.int i) H)\/∃k,[x]=[V.bl k]/\Q (.int (if k then 1 else 0)) H:=by
 unfold Tw.builtin at p;dsimp only at p;cases rx with
 |int i=>exact .inl ⟨i,rfl,p.self r (.int _)⟩
 |bl b=>exact .inr ⟨b,rfl,p.self r (.int _)⟩
 |_=>exact p.elim
end
section
variable {X:Cx}{E:XK}{a b c o e f:Expr}{pos apos cpos:Pos}{da db dc d1 d2:Tw.Env->Tw.Hp->Tw.R Tw.W}
def eJ(K:W.Frag)(mg:Str->Option Value)(cl:fu)(F:List Tw.W->Tw.Hp->Tw.R Tw.W):Sp:=fun vs H Q E=>∃ws h ι,HR ⟨K,mg,E,cl⟩ ι h H/\aT K ι h.length H ws vs/\au ⟨K,mg,E,cl⟩ RE ι h H (F ws h) Q
theorem s_call{F:List Tw.W->Tw.Hp->Tw.R Tw.W}{ds:Tw.Env->Tw.Hp->Tw.R (List Tw.W)}
  (G:cD X.prog X.w X.K X.mg X.base CX k g fd ps (eJ X.K X.mg X.cl F)) (hx:Passes CX X E) (hr:cz k X.A) (hg:Gl X x) (hm:X.mg x=some (.ref g)) (hk:W.keepIn X.K (.ref g)=true) (hb:Binds X.K fd ps [])
  (hs:PA X (e::es) (tA (zx X E) n ds)) (hd:(x== ("__debug__" : Str))=false) (hst:starEach (e::es) X.env=(false,eval e X.env)::starEach es X.env) (hpl:(backTo pos (starEach es X.env)).any (·.1)=false):
  PE X (.Call (.Name x p) (e::es) [] pos) (tE (zx X E) fun ρ h=>(ds ρ h).bind fun xs h=>F xs h):=by
 refine PE.imp (EW (dvs:=[]) (ds:=[]) (E:=E) G hr hg hm hk hb .nil hx hs hd hst hpl) fun σ H Q U=>U.g fun ρ U=>U.g fun h U=>U.g fun ι U=>U.g fun at' p=>⟨ρ,h,ι,at',(step at' p).mono fun xs H1 U=>U.g fun ws U=>U.g fun h1 U=>U.g fun ι1 U=>U.g fun at1 U=>U.g fun e1 U=>U.g fun r1 p1=>?_⟩;rw[gI];exact⟨ws,h1,ι1,at1.hr,r1.1,p1⟩
structure Me(X:Cx)(o:Expr)(m:Str)(apos:Pos)(es:List Expr)(cpos:Pos):Prop where
 base:attributeBase o m X.env (eval o X.env)=eval o X.env
 Gs:((backTo cpos (starEach es X.env)).all (fun x=>!x.1)&&(backToKw cpos (keywordEach [] X.env)).all (fun x=>x.1.isSome)
  && decide (es.length+([]:List Keyword).length+(if ([]:List Keyword).isEmpty then 0 else 1)<30))=true
 line:(apos.endLine== cpos.line)=true
def Fz(m:Tw.Mt)(da db:Tw.Env->Tw.Hp->Tw.R Tw.W):Tw.Env->Tw.Hp->Tw.R Tw.W:=fun ρ h=>(da ρ h).bind fun x h=>if Tw.mG m x h then (db ρ h).bind fun y h=>Tw.method m x [y] h else .bad
theorem au.ite{K:Zk}{α β:Type}{R:Rl α β}{ι:Nat->Addr}{h:Tw.Hp}{H:L2.Hp}{c:Bool}{m:Tw.R α}{Q:β->L2.Hp->Prop}(p:au K R ι h H (if c=true then m else .bad) Q):c=true/\au K R ι h H m Q:=by
 cases c with
 |true=>exact⟨rfl,by simpa using p⟩
 |false=>rw[if_neg (by decide)] at p;exact p.elim
theorem yV(e:Tw.mG .append w h=true):∃i ws,w=.ref i/\h[i]?=some (.lst ws):=by
 cases w with
 |ref i=>
  have e:(match h[i]? with|some (.lst _)=>true|_=>false)=true:=e;cases ei:h[i]? with
  |none=>rw[ei] at e;cases e
  |some o=>
   rw[ei] at e;cases o with
   |lst ws=>exact⟨i,ws,rfl,ei⟩
   |_=>cases e
 |_=>cases e
theorem Bh(me:Me X o "append" apos [e] cpos)(hst:starEach [e] X.env=[(false,eval e X.env)])(ho:PE X o (tE (zx X E) da))(he:PE X e (tE (zx X E) db)):
  PE X (.Call (.Attribute o "append" apos) [e] [] cpos) (tE (zx X E) (Fz .append da db)):=by
 refine PE.imp (J9 wY PySem.F.slot_list_append PySem.F.type_list_append sx ho (bU he eQ hst) me.base me.Gs me.line hst rfl) fun σ H Q U=>U.g fun ρ U=>U.g fun h U=>U.g fun ι U=>U.g fun at' p=>?_;refine⟨ρ,h,ι,at',(step at' p).mono fun x H1 U=>U.g fun w U=>U.g fun h1 U=>U.g fun ι1 U=>U.g fun at1 U=>U.g fun e1 U=>U.g fun r1 p1=>?_⟩;obtain⟨hc,p1⟩:=au.ite p1;obtain⟨i,ws,rfl,ei⟩:=yV hc;cases r1 with
 |ref hi=>
  obtain⟨xs,q1,q2⟩:=at1.hr.lst ei;refine⟨.inl ⟨rfl,xs,dh.of q1⟩,ρ,h1,ι1,at1,(step at1 p1).mono fun y H2 U=>U.g fun u U=>U.g fun h2 U=>U.g fun ι2 U=>U.g fun at2 U=>U.g fun e2 U=>U.g fun r2 p2=>?_⟩;have p2:au (zx X E) RE ι2 h2 H2 (match h2[i]? with
   |some (.lst ys)=>if ys.length<Tw.SZ then .ok .aw (h2.set i (.lst (ys++[u]))) else .bad
   |_=>.bad) Q:=p2
  have same:ι2 i=ι1 i:=e2.same i hi;cases ej:h2[i]? with
  |none=>rw[ej] at p2;exact p2.elim
  |some oj=>
   rw[ej] at p2;cases oj with
   |lst ys=>
    dsimp only at p2;by_cases c:ys.length<Tw.SZ
    .rw[if_pos c] at p2;obtain⟨zs,g1,g2⟩:=at2.hr.lst ej;refine⟨ι1 i,zs,y,rfl,rfl,by rw[<-same];exact g1,by rw[<-g2.length,nR];exact c,?_⟩;obtain⟨hr',ex⟩:=at2.hr.put (o:=.lst (zs++[y])) (u:=.lst (ys++[u])) ej rfl rfl (fun _ z=>nomatch z) fun H' k z=>⟨zs++[y],z,(g2.append (.cons r2 .nil)).keep k⟩;rw[<-same];exact p2 ι2 _ _ ex hr' .aw
    .rw[if_neg c] at p2;exact p2.elim
   |_=>exact p2.elim
theorem FT:PE X (.Dict [] [] pos) (tE (zx X E) fun _ h=>Tw.new (.eV []) h):=
 PE.imp AU fun σ H Q U=>U.g fun ρ U=>U.g fun h U=>U.g fun ι U=>U.g fun at' p=>p.eV at'.hr .nil
end
def bG(K:Zk)(ι:Nat->Addr)(h:Tw.Hp)(H:L2.Hp)(m:Tw.R Tw.Fl)(D:Ends):Prop:=match m with
 |.ok (.next ρ) h'=>∀ι' H' σ',Ext ι h H ι' h' H'->At K ι' h' H' ρ σ'->D.nx σ' H'
 |.ok (.brk ρ) h'=>∀ι' H' σ',Ext ι h H ι' h' H'->At K ι' h' H' ρ σ'->D.bk σ' H'
 |.ok (.cont ρ) h'=>∀ι' H' σ',Ext ι h H ι' h' H'->At K ι' h' H' ρ σ'->D.ct σ' H'
 |.ok (.ret w) h'=>∀ι' H' v,Ext ι h H ι' h' H'->HR K ι' h' H'->RW K.K ι' h'.length H' w v->D.rt v H'
 |.aI a h'=>∀ι' H',Ext ι h H ι' h' H'->HR K ι' h' H'->K.ex (.ref (ι' a)) none H'
 |.bad=>False
noncomputable def dq(K:Zk)(d:Tw.Env->Tw.Hp->Tw.R Tw.Fl):TS:=fun D σ H=>∃ρ h ι,At K ι h H ρ σ/\bG K ι h H (d ρ h) D
section
variable {K:Zk}{α β:Type}{R:Rl α β}{ι ι1:Nat->Addr}{h h1:Tw.Hp}{H H1:L2.Hp}{ρ:Tw.Env}{σ:L2.St}
theorem bG.later(p:bG K ι h H m D)(e:Ext ι h H ι1 h1 H1):bG K ι1 h1 H1 m D:=by
 cases m with
 |ok f h'=>cases f<;>exact fun ι' H' σ' e'=>p ι' H' σ' (e.trans e')
 |aI a h'=>exact fun ι' H' e' r=>p ι' H' (e.trans e') r
 |bad=>exact p
theorem fZ{k:α->Tw.Hp->Tw.R Tw.Fl}(a:At K ι h H ρ σ)(p:bG K ι h H (m.bind k) D):
  au K R ι h H m (fun x H1=>∃w h1 ι1,At K ι1 h1 H1 ρ σ/\Ext ι h H ι1 h1 H1/\R K.K ι1 h1.length H1 w x/\bG K ι1 h1 H1 (k w h1) D):=by
 cases m with
 |ok w h1=>exact fun ι' H' b e r q=>⟨w,h1,ι',a.later e r,e,q,bG.later p e⟩
 |aI=>exact p
 |bad=>exact p
theorem At.set(a:At K ι h H ρ σ)(r:RW K.K ι h.length H w v)(i:Nat):At K ι h H (ρ.set i (some w)) (σ.set i (some v)) where
 hr:=a.hr
 len:=by rw[uK,uK];exact a.len
 st:=fun j u e=>by
  by_cases z:i=j
  .subst z;have hi:i<ρ.length:=by
    have:=(ib.mp e).1;simpa using this
   rw[iV hi] at e;cases e;exact⟨v,iV (by rw[a.len];exact hi),r⟩
  .rw[iW z] at e;obtain⟨v',h1,h2⟩:=a.st j u e;exact⟨v',by rw[iW z];exact h1,h2⟩
theorem bG.next(p:bG K ι h H (.ok (.next ρ) h) D)(a:At K ι h H ρ σ):D.nx σ H:=p ι H σ (Ext.refl _ _ _) a
end
section
variable {X:Cx}{E:XK}{a b c e o:Expr}{pos pos':Pos}{da db dc:Tw.Env->Tw.Hp->Tw.R Tw.W}
theorem H8(ha:PE X a (tE (zx X E) da))(hs:swapsWith a none pos.line X.env=pure false):PS X (.Expr a pos) (dq (zx X E) fun ρ h=>(da ρ h).bind fun _ h=>.ok (.next ρ) h):=
 PS.imp (DD ha hs) fun D σ H U=>U.g fun ρ U=>U.g fun h U=>U.g fun ι U=>U.g fun at' p=>⟨ρ,h,ι,at',(fZ at' p).mono fun x H1 U=>U.g fun w U=>U.g fun h1 U=>U.g fun ι1 U=>U.g fun at1 U=>U.g fun e1 U=>U.g fun r1 p1=>p1.next at1⟩
theorem CA(ha:PE X a (tE (zx X E) da)):PS X (.Return (some a) pos) (dq (zx X E) fun ρ h=>(da ρ h).bind fun x h=>.ok (.ret x) h):=
 PS.imp (HA ha) fun D σ H U=>U.g fun ρ U=>U.g fun h U=>U.g fun ι U=>U.g fun at' p=>⟨ρ,h,ι,at',(fZ at' p).mono fun x H1 U=>U.g fun w U=>U.g fun h1 U=>U.g fun ι1 U=>U.g fun at1 U=>U.g fun e1 U=>U.g fun r1 p1=>p1 ι1 H1 x (Ext.refl _ _ _) at1.hr r1⟩
theorem Dj(hN:X.N.Nodup)(hi:X.N[i]?=some x)(hx:Loc X.env.scope x)(ha:PE X a (tE (zx X E) da))(hs:swapsWith a (some (.Name x pos')) pos.line X.env=pure false)(hf:X.fn x=true\/X.env.scope.names.lookup x=some .local):
  PS X (.Assign [.Name x pos'] a pos) (dq (zx X E) fun ρ h=>(da ρ h).bind fun w h=>.ok (.next (ρ.set i (some w))) h):=
 PS.imp (Fg hN hi hx ha hs hf) fun D σ H U=>U.g fun ρ U=>U.g fun h U=>U.g fun ι U=>U.g fun at' p=>⟨ρ,h,ι,at',(fZ at' p).mono fun y H1 U=>U.g fun w U=>U.g fun h1 U=>U.g fun ι1 U=>U.g fun at1 U=>U.g fun e1 U=>U.g fun r1 p1=>p1.next (at1.set r1 i)⟩
theorem Nn{ta tb:Tw.Env->Tw.Hp->Tw.R Tw.Fl}(hc:PT X c (tT (zx X E) dc))(ha:eE X sa (dq (zx X E) ta))(hb:eE X sb (dq (zx X E) tb)):
  PS X (.If c sa sb pos) (dq (zx X E) fun ρ h=>(dc ρ h).bind fun x h=>match Tw.truth h x with
   |some true=>ta ρ h
   |some false=>tb ρ h
   |none=>.bad):=by
 refine PS.imp (Jc hc ha hb) fun D σ H U=>U.g fun ρ U=>U.g fun h U=>U.g fun ι U=>U.g fun at' p=>⟨ρ,h,ι,at',?_⟩;simp only[dT];dsimp only at p;cases e0:dc ρ h with
 |bad=>rw[e0] at p;exact p.elim
 |aI=>rw[e0] at p;exact p
 |ok w h1=>
  simp only[e0,Tw.R.af] at p⊢;cases e:Tw.truth h1 w with
  |none=>rw[e] at p;exact p.elim
  |some k=>
   rw[e] at p;intro ι' H' k' e1 r1 q;cases q;cases k with
   |true=>rw[if_pos rfl];exact⟨ρ,h1,ι',at'.later e1 r1,bG.later p e1⟩
   |false=>rw[if_neg (by decide)];exact⟨ρ,h1,ι',at'.later e1 r1,bG.later p e1⟩
theorem zC:eE X [] (dq (zx X E) fun ρ h=>.ok (.next ρ) h):=eE.imp EI fun D σ H U=>U.g fun ρ U=>U.g fun h U=>U.g fun ι U=>U.g fun at' p=>p.next at'
theorem vG{st:Stmt}{rest:List Stmt}{t u:Tw.Env->Tw.Hp->Tw.R Tw.Fl}(h1:PS X st (dq (zx X E) t))(h2:eE X rest (dq (zx X E) u)):
  eE X (st::rest) (dq (zx X E) fun ρ h=>(t ρ h).bind fun f h=>match f with
   |.next ρ=>u ρ h
   |f=>.ok f h):=by
 refine eE.imp (B3 h1 h2) fun D σ H U=>U.g fun ρ U=>U.g fun h U=>U.g fun ι U=>U.g fun at' p=>⟨ρ,h,ι,at',?_⟩;dsimp only at p;cases e:t ρ h with
 |bad=>rw[e] at p;exact p.elim
 |aI=>rw[e] at p;exact p
 |ok f h1=>
  simp only[e,Tw.R.af] at p;cases f with
  |next ρ1=>exact fun ι' H' σ' e1 a1=>⟨ρ1,h1,ι',a1,bG.later p e1⟩
  |ret w=>exact p
  |brk ρ1=>exact p
  |cont ρ1=>exact p
theorem Ho{ι:Nat->Addr}{h:Tw.Hp}{H:L2.Hp}{wo wk wv:Tw.W}{o k v:V}{ρ:Tw.Env}{σ:L2.St}{D:Ends}
  (a:At (zx X E) ι h H ρ σ) (ro:RW X.K ι h.length H wo o) (rk:RW X.K ι h.length H wk k) (rv:RW X.K ι h.length H wv v) (p:bG (zx X E) ι h H ((Tw.kH wo wk wv h).bind fun _ h=>.ok (.next ρ) h) D):
  CU o k v H fun H'=>D.nx σ H':=by
 cases ro with
 | @ref i hi=>
  cases ei:h[i]? with
  |none=>simp only[Tw.kH,ei] at p;exact p.elim
  |some ob=>
   cases ob with
   |lst ws=>
    obtain⟨xs,q1,q2⟩:=a.hr.lst ei;cases rk with
    |int n=>
     simp only[Tw.kH,ei] at p;cases e2:Tw.ij ws.length n with
     |none=>rw[e2] at p;exact p.elim
     |some j=>
      rw[e2] at p;refine⟨_,xs,n,j,rfl,rfl,q1,by rw[<-q2.length,<-zr];exact e2,?_⟩;obtain⟨hr',ex⟩:=a.hr.put (o:=.lst (xs.set j v)) (u:=.lst (ws.set j wv)) ei rfl rfl (fun _ z=>nomatch z) fun H' kp z=>⟨xs.set j v,z,(q2.set rv j).keep kp⟩;exact p ι _ σ ex (a.later ex hr')
    |_=>simp only[Tw.kH,ei] at p;exact p.elim
   |bh ws=>simp only[Tw.kH,ei] at p;cases wk<;>exact p.elim
   |ins _ _=>simp only[Tw.kH,ei] at p;cases wk<;>exact p.elim
   |_=>simp only[Tw.kH,ei] at p;cases wk<;>exact p.elim
 |_=>exact p.elim
end
theorem At.xU{K:Zk}{ι:Nat->Addr}{h:Tw.Hp}{H:L2.Hp}{ρ:Tw.Env}{σ:L2.St}(a:At K ι h H ρ σ)(j:Nat)(x:Option V):At K ι h H (ρ.set j none) (σ.set j x) where
 hr:=a.hr
 len:=by rw[uK,uK];exact a.len
 st:=fun i u e=>by
  by_cases z:j=i
  .subst z;have hi:j<ρ.length:=by
    have:=(ib.mp e).1;simpa using this
   rw[iV hi] at e;cases e
  .rw[iW z] at e;obtain⟨v',h1,h2⟩:=a.st i u e;exact⟨v',by rw[iW z];exact h1,h2⟩
section
variable {X:Cx}{E:XK}{a b c e o k:Expr}{pos pos':Pos}{da db dc dv:Tw.Env->Tw.Hp->Tw.R Tw.W}
theorem Ag(v x y:Expr)(p:Pos)(l:Nat)(env:Env):swapsWithSole [.Subscript x y p] v l env=pure false:=by cases v<;>rfl
theorem xi(v x y:Expr)(p:Pos)(env:Env):swappedStores [.Subscript x y p] v env=pure none:=by cases v<;>rfl
theorem JB(hu:X.A.units+1<cLine)(hv:PE X a (tE (zx X E) dv))(ho:PE X o (tE (zx X E) da))(hk:PE X k (tE (zx X E) db))
  (has:∀v,assign (.Subscript o k pos') X.env v=(do
   let ov <-holding [v] (eval o X.env)
   let iv <-holding [v,ov] (eval k X.env)
   standAt pos'
   holding [v,ov,iv] (setItem ov iv v)
   release [v,ov,iv] [])):
  PS X (.Assign [.Subscript o k pos'] a pos) (dq (zx X E) fun ρ h=>(dv ρ h).bind fun v h=>(da ρ h).bind fun x h=>(db ρ h).bind fun y h=>(Tw.kH x y v h).bind fun _ h=>.ok (.next ρ) h):=by
 refine PS.imp (zq hv (G2 ho hk set_list has) (Ag _ _ _ _ _ _) (xi _ _ _ _ _)) fun D σ H U=>U.g fun ρ U=>U.g fun h U=>U.g fun ι U=>U.g fun at' p=>?_;refine⟨ρ,h,ι,at',(fZ at' p).mono fun v H1 U=>U.g fun wv U=>U.g fun h1 U=>U.g fun ι1 U=>U.g fun at1 U=>U.g fun e1 U=>U.g fun r1 p1=>⟨ρ,h1,ι1,at1,(fZ at1 p1).mono fun x H2 U=>U.g fun wo U=>U.g fun h2 U=>U.g fun ι2 U=>U.g fun at2 U=>U.g fun e2 U=>U.g fun r2 p2=>⟨ρ,h2,ι2,at2,(fZ at2 p2).mono fun y H3 U=>U.g fun wk U=>U.g fun h3 U=>U.g fun ι3 U=>U.g fun at3 U=>U.g fun e3 U=>U.g fun r3 p3=>?_⟩⟩⟩;exact Ho at3 (r2.keep (e3.keeps at2.hr)) r3 ((r1.keep (e2.keeps at1.hr)).keep (e3.keeps at2.hr)) p3
theorem PI.or(h1:PI X tg iter w)(h2:PI X tg iter w'):PI X tg iter (fun σ H R=>w σ H R\/w' σ H R):=by
 intro pins s σ H R I q;rcases q with q|q
 .exact h1 pins s σ H R I q
 .exact h2 pins s σ H R I q
def Gn(K:Zk)(t:Tw.Tg)(g:TG):Prop:=∀(ι:Nat->Addr)(h:Tw.Hp)(H:L2.Hp)(ρ ρ1:Tw.Env)(σ:L2.St)(w:Tw.W)(x:V)(Q:L2.St->L2.Hp->Prop),At K ι h H ρ σ->RW K.K ι h.length H w x->Tw.rj t w ρ=some ρ1->
 (∀σ1,At K ι h H ρ1 σ1->Q σ1 H)->g x σ H Q
theorem HB(K:Zk)(i:Nat):Gn K (.var i) (iN i):=fun ι h H ρ ρ1 σ w x Q a r e q=>by
 cases e;exact q _ (a.set r i)
theorem se{K:Zk}{ι:Nat->Addr}{h:Tw.Hp}{H:L2.Hp}{m:Tw.R Tw.Fl}{go:Tw.Env->Tw.Hp->Tw.R Tw.Fl}{D:Ends}{N:L2.St->L2.Hp->Prop}
  (p:bG K ι h H (m.bind fun f h=>match f with
   |.next σ=>go σ h
   |.cont σ=>go σ h
   |.brk σ=>.ok (.next σ) h
   |.ret w=>.ok (.ret w) h) D)
  (hN:∀ρ h1 ι1 H1 σ1,Ext ι h H ι1 h1 H1->At K ι1 h1 H1 ρ σ1->bG K ι1 h1 H1 (go ρ h1) D->N σ1 H1):bG K ι h H m {D with nx:=N,ct:=N,bk:=D.nx}:=by
 cases m with
 |bad=>exact p
 |aI=>exact p
 |ok f h1=>
  cases f with
  |next ρ=>exact fun ι' H' σ' e a=>hN ρ h1 ι' H' σ' e a (bG.later p e)
  |cont ρ=>exact fun ι' H' σ' e a=>hN ρ h1 ι' H' σ' e a (bG.later p e)
  |brk ρ=>exact p
  |ret w=>exact p
theorem wt{α:Type}{ws:List α}{i:Nat}{w:α}(e:ws[i]?=some w):ws.drop i=w::ws.drop (i+1):=by obtain⟨hi,e⟩:=ib.mp e;rw[AX hi,e]
end
section
variable {X:Cx}{E:XK}{pins:aL}{σ:L2.St}{H:L2.Hp}{s:Shared}{h':Heap}{fp:List Addr}
theorem vK(I:Inv X pins σ H s)(hf:∀b∈fp,gm X pins H b)(k:∀b o,b∉fp->s.heap.get? b=some o->h'.get? b=some o):Inv X pins σ H {s with heap:=h',toks:=t'}:=by
 have nf:∀b u,H b=some u->b∉fp:=fun b u e z=>by rw[(hf b z).1] at e;cases e
 have u:Un (bp X.stack) fp H H s.heap h':=
  ⟨fun b o e _ _ h2=>k b o h2 e,fun b o e _ _ h2=>⟨o.slots,k b o h2 e⟩,fun _ _ _ n _=>n,fun b o e h2=>⟨o,k b o h2 e⟩,fun _ _ q=>q,fun _ _ _ q=>q,fun _ ps q=>⟨#[],by rw[q];simp⟩⟩
 have aD:dI X.prog X.w H h':=fun b v e=>(I.aD b v e).gd (fun c w hc q=>k c w (by
  rcases hc with z|z
  .rw[z];exact nf _ _ e
  .exact nf _ _ z) q) (fun _ q=>q) fun _ _ q=>q
 exact I.call (g':=s.gens) (d':=s.drawn) (t':=t') u aD I.bare fun b hb=>⟨(hf b hb).2.2.2.1,(hf b hb).2.1,(hf b hb).2.2.2.2.1,(hf b hb).2.2.2.2.2⟩
end
section
variable {X:Cx}{a:Expr}{p pos:Pos}{tg:Expr}
theorem BU:bootBuiltins "reversed" = some (.type "reversed"):=by decide+kernel
end
theorem yQ{α β:Type}{M:Model}{A:Around}{v:α}{Q:α->Shared->Prop}{E:ba}{s:Shared}{t:Sem β}{Q':β->Shared->Prop}{E':ba}(h:wpAny M A (pure v) Q E s)(k:Q v s->wpAny M A t Q' E' s):wpAny M A t Q' E' s:=
 fun Γ p hΓ=>k (h Γ p hΓ) Γ p hΓ
section
variable {prog:Program}{w:World}{A:Around}{s:Shared}{R:Result->Shared->Prop}{E:ba}
variable {I:Addr}
end
section
variable {prog:Program}{w:World}{A:Around}{s:Shared}{E:ba}{I:Addr}
end
section
variable {X:Cx}{pins:aL}{σ:L2.St}
end
section
variable {K:Zk}{ι ι1:Nat->Addr}{h h1:Tw.Hp}{H H1:L2.Hp}{ρ:Tw.Env}{σ:L2.St}{a:Addr}
def fj(ι:Nat->Addr)(h:Tw.Hp)(a:Addr):Prop:=∀(i:Nat)(o:Tw.O),h[i]?=some o->e8 o=true->ι i≠a
theorem fj.later(al:fj ι h a)(e:Ext ι h H ι1 h1 H1)(ha:H a≠none):fj ι1 h1 a:=fun i o ei m z=>by
 by_cases hi:i<h.length
 .obtain⟨o',eo⟩:∃o',h[i]?=some o':=⟨_,gJ hi⟩;rw[e.same i hi] at z;exact al i o' eo (by rw[<-e.fz i o' o eo ei];exact m) z
 .exact ha (by rw[<-z];exact e.new i (jT.mp hi) (eG ei))
theorem HR.Ac(r:HR K ι h H)(al:fj ι h a)(ha:H a=some u)(n1:∀xs,u≠.tup xs)(n2:∀o v,u≠.bh o v)(n3:∀gs,u≠.xd gs)(n4:∀φ,u≠.ext φ)(ht:(∀b o' u',H b=some (.bh o' u')->upd H a o b=some (.bh o' u'))->∀t∈K.cl.tb,p6 (upd H a o) t):HR K ι h (upd H a o):=by
 have kp:Keeps ι h.length H ι h.length (upd H a o):=⟨aV _,fun _ _=>rfl,fun b xs e=>by
  rw[aJ (fun z=>by rw[z,ha] at e;cases e;exact n1 _ rfl)];exact e⟩
 have sf:∀b o' u',H b=some (.bh o' u')->upd H a o b=some (.bh o' u'):=fun b o' u' e=>by
  rw[aJ (fun z=>by rw[z,ha] at e;cases e;exact n2 _ _ rfl)];exact e
 refine⟨fun i v q=>?_,r.inj,ht sf,fun i f ws q=>(r.fn i f ws q).keep kp (eG q) sf⟩;by_cases m:e8 v=true
 .exact (r.obj i v q).keep kp fun w e hw z=>by
   rw[aJ]
   .exact z
   .rcases hw with rfl|⟨gs,rfl⟩
    .exact al i v q m
    .intro y;rw[y,ha] at z;cases z;exact n3 _ rfl
 .cases v with
  |bh ws=>
   obtain⟨xs,sq,rr⟩:=r.obj i _ q;rcases sq with ⟨o',sq⟩|sq
   .refine⟨xs,.inl ⟨o',?_⟩,rr.keep kp⟩;rw[aJ (fun z=>by rw[z,ha] at sq;cases sq;exact n2 _ _ rfl)];exact sq
   .exact⟨xs,.inr sq,rr.keep kp⟩
  |aI c fs=>
   obtain⟨C,dx,gs,q0,q1,q2,q3⟩:=r.obj i _ q;refine⟨C,dx,gs,q0,?_,?_,q3.keep kp⟩
   .rw[aJ (fun z=>by rw[z,ha] at q1;cases q1;exact n4 _ rfl)];exact q1
   .exact XD.keep q2 fun b v ⟨_,hv⟩ q=>by
     subst hv;rw[aJ (fun z=>by rw[z,ha] at q;cases q;exact n3 _ rfl)];exact q
  | «fun» f ws=>trivial
  |dead=>trivial
  |_=>exact absurd rfl m
theorem HR.other(r:HR K ι h H)(al:fj ι h a)(ha:H a=some u)(n1:∀xs,u≠.tup xs)(n2:∀o v,u≠.bh o v)(n3:∀gs,u≠.xd gs:=by intro _ z;cases z)(n4:∀φ,u≠.ext φ:=by intro _ z;cases z)(n5:∀ps,u≠.eD ps:=by intro _ z;cases z):HR K ι h (upd H a o):=
 r.Ac al ha n1 n2 n3 n4 fun sf t ht=>(r.tab t ht).keep sf fun ps e=>by rw[aJ (fun z=>by rw[z,ha] at e;cases e;exact n5 _ rfl)];exact e
theorem Ext.other(e:Ext ι h H ι1 h1 H1)(ha:H a=none)(ha1:H1 a=some u):Ext ι h H ι1 h1 (upd H1 a o):=
 ⟨e.len,e.same,fun b v q t n=>by rw[aJ (fc q ha)];exact e.fr b v q t n,e.new,fun b q=>e.uH b (kS b q),e.fz⟩
theorem HR.adopt(r:HR K ι h H)(al:fj ι h a)(ha:H a=some o)(m:e8 u=true)(ro:∀ι' n',Keeps ι h.length H ι' n' H->RO K ι' n' H a u):HR K (c4 ι h.length a) (h++[u]) H:=by
 have hl:(h++[u]).length=h.length+1:=by simp
 have kp:Keeps ι h.length H (c4 ι h.length a) (h++[u]).length H:=⟨by omega,fun i hi=>bH hi,fun _ _ e=>e⟩;have two:∀{i:Nat}{v:Tw.O},(h++[u])[i]?=some v->(i<h.length/\h[i]?=some v)\/(i=h.length/\v=u):=fun {i v} e=>by
  have hi:=eG e;by_cases z:i<h.length
  .rw[gi z] at e;exact .inl ⟨z,e⟩
  .have z':i=h.length:=by omega
   subst z';simp at e;exact .inr ⟨rfl,e.symm⟩
 refine⟨fun i v q=>?_,fun i j v w q1 q2 m1 m2 z=>?_,r.tab,fun i f ws q=>by
  rcases two q with ⟨hi,q⟩|⟨_,q⟩
  .exact (r.fn i f ws q).keep kp hi fun _ _ _ e=>e
  .rw[<-q] at m;cases m⟩
 .rcases two q with ⟨hi,q⟩|⟨rfl,rfl⟩
  .rw[bH hi];exact (r.obj i v q).keep kp fun _ _ _ e=>e
  .rw[cg];exact ro _ _ kp
 .rcases two q1 with ⟨hi,p1⟩|⟨ei,ev⟩<;>rcases two q2 with ⟨hj,p2⟩|⟨ej,ew⟩
  .rw[bH hi,bH hj] at z;exact r.inj i j v w p1 p2 m1 m2 z
  .rw[bH hi,ej,cg] at z;exact absurd z (al i v p1 m1)
  .rw[ei,cg,bH hj] at z;exact absurd z.symm (al j w p2 m2)
  .rw[ei,ej]
theorem Ext.adopt(e:Ext ι h H ι1 h1 H1)(ha:H a=none):Ext ι h H (c4 ι1 h1.length a) (h1++[u]) H1:=by
 have hl:(h1++[u]).length=h1.length+1:=by simp
 refine⟨by have:=e.len;omega,fun i hi=>(bH (cH hi e.len)).trans (e.same i hi),e.fr,fun i g1 g2=>?_,e.uH,fun i o v q1 q2=>?_⟩
 .by_cases hi:i<h1.length
  .rw[bH hi];exact e.new i g1 hi
  .have:i=h1.length:=by omega
   subst this;rw[cg];exact ha
 .have hi:=cH (eG q1) e.len;rw[gi hi] at q2;exact e.fz i o v q1 q2
end
end TwS
namespace TwS
open PySem L2 PyProof.Rows
open AutoSeq1 (wpAny_loadPart')
theorem rB:Manifest.owners.lookup (String.ofList ['d','e','s','r','e','v','e','r'].reverse)=some Manifest.sig_reversed:=by kernel_rfl
theorem sA:Slot "reversed" "__init__" "object.__init__" :=
 .of (owner:= "object") (n:= "__init__") (by rw[sH,sE];kernel_rfl) (by decide+kernel) (by decide+kernel) (by decide+kernel)
  (by first|exact .inl (by decide+kernel)|exact .inr (by decide+kernel)) (by rw[sQ];kernel_rfl)
theorem fD:Slot "reversed" "__next__" "reversed.__next__" :=
 .of (owner:= "reversed") (n:= "__next__") (by rw[sH,sE];kernel_rfl) (by decide+kernel) (by decide+kernel) (by decide+kernel)
  (by first|exact .inl (by decide+kernel)|exact .inr (by decide+kernel)) (by rw[sQ];kernel_rfl)
theorem k7:entryFor table "reversed.__next__" = some Builtin.«reversed.__next__» := entryFor_of_tree (by kernel_rfl)
theorem mq(a:Value):argsOk "reversed.__next__" ⟨[a],[]⟩:=by unfold argsOk;rw[signature?_of (id:= "reversed.__next__") (n:=['_','_','t','x','e','n','_','_']) (o:=['d','e','s','r','e','v','e','r']) (by kernel_rfl) rB];kernel_rfl
theorem mr:Slot "reversed" "__iter__" "reversed.__iter__" :=
 .of (owner:= "reversed") (n:= "__iter__") (by rw[sH,sE];kernel_rfl) (by decide+kernel) (by decide+kernel) (by decide+kernel)
  (by first|exact .inl (by decide+kernel)|exact .inr (by decide+kernel)) (by rw[sQ];kernel_rfl)
theorem sy(a:Value):argsOk "reversed.__iter__" ⟨[a],[]⟩:=by unfold argsOk;rw[signature?_of (id:= "reversed.__iter__") (n:=['_','_','r','e','t','i','_','_']) (o:=['d','e','s','r','e','v','e','r']) (by kernel_rfl) rB];kernel_rfl
theorem q8:entryFor table "reversed.__iter__" = some Builtin.«dict_keyiterator.__iter__» :=
 entryFor_alias (id':= "dict_keyiterator.__iter__") (by kernel_rfl) (by first|rfl|decide+kernel|(unfold String.splitOn;simp+decide [String.splitOnAux])) (by decide+kernel) (by kernel_rfl)
theorem xr:TypeCalled "reversed" "reversed.__new__" "object.__init__" :=
 ⟨by decide+kernel,by decide+kernel,⟨_,_,F.mro_reversed⟩,F.made_reversed,by decide+kernel,F.sub_reversed_self,sA⟩
theorem ue:typeLookup (.type "tuple") "__reversed__" = pure none:=by rw[sH,sE];kernel_rfl
theorem sub_tuple_dict:isSubtype (.type "tuple") (.type "dict")=pure false:=by rw[sQ];kernel_rfl
noncomputable def Dc(l:Addr)(i:Int):Obj:={cls:=.type "reversed",data:=.fields #[.ref l,rawInt i]}
def jx(h:Heap)(a l:Addr)(i:Int):Prop:=∃o,h.get? a=some o/\o.cls=.type "reversed" /\o.data=.fields #[.ref l,rawInt i]
section
variable {prog:Program}{w:World}{A:Around}{E:ba}{s:Shared}{l it:Addr}{xs:Array Value}
theorem jx.typeIs(x:jx s.heap a l i):s.TypeIs (.ref a) "reversed" := let ⟨o,ho,hc,_⟩:=x;⟨o,ho,hc⟩
theorem jx.at(x:jx h a l i)(e:∀o,h.get? a=some o->h'.get? a=some o):jx h' a l i:=let ⟨o,ho,r⟩:=x;⟨o,e _ ho,r⟩
theorem BN(l:Addr)(xs:Array Value)(hz:xs.size<=sizeLine):
  Meets (Builtin.«reversed.__new__» ⟨[.type "reversed",.ref l],[]⟩) (fun _ R s=>IsTup s.heap l xs/\
   ∀tk,R (.ok (.ret (.ref s.heap.objs.size))) {s with heap:=s.heap.push (Dc l ((xs.size:Int)-1)),toks:=tk}):=
 .of_wp fun prog w A R s h=>by
  obtain⟨ht,h⟩:=h;unfold Builtin.«reversed.__new__»;refine aj (kq (newClass_reversed _) ?_)
  try dsimp only
  refine aj (kq (a:=()) (by first|rfl|kernel_rfl) ?_);refine aj (kq (a:=()) (by first|rfl|kernel_rfl) ?_)
  try dsimp only
  refine aj (wpAny_specialOf ht.typeIs ue ?_)
  try dsimp only
  refine aj ?_;show wpAny _ _ ((do
   if <-isInstance (.ref l) (.type "dict") then return false
   match <-specialOf (.ref l) "__getitem__" with
   |none=>return false
   |some (.builtin id)=>
    if ["tuple.__getitem__", "str.__getitem__", "bytes.__getitem__", "bytearray.__getitem__", "memoryview.__getitem__", "numpy.ndarray.__getitem__", "sqlite3.Row.__getitem__"].contains id then return true
    if id== "sqlite3.Blob.__getitem__" then return false
    unsupported "reversed.__new__:is-it-a-sequence"
   |some _=>return true):Sem Bool) _ _ _
  refine aj (wpAny_isInstance ht.typeIs sub_tuple_dict ?_);rw[if_neg (by decide)];refine aj (wpAny_specialOf ht.typeIs slot_tuple_getitem.lookup ?_)
  try dsimp only
  rw[if_pos (by decide+kernel)];refine aM ?_;rw[if_neg (by decide)];refine aj (len_tuple ht (by rw[f7] at hz;omega) ?_);refine aj (kq (a:=some (xs.size:Int)) rfl ?_)
  try dsimp only
  refine aj ?_;show wpAny _ _ (newObj (.type "reversed") (.fields [Value.ref l,rawInt ((xs.size:Int)-1)].toArray)) _ _ _;exact jj (aM ⟨_,rfl,h _⟩) (by size_fits)
theorem Fu{Q:ba}(ht:IsTup s.heap l xs)(hz:xs.size<=sizeLine)
  (h:∀tk,Q (.ref s.heap.objs.size) {s with heap:=s.heap.push (Dc l ((xs.size:Int)-1)),toks:=tk}):wpAny (model prog w) A (call (.type "reversed") [.ref l]) Q E s:=
 callType_new xr (by decide) (F.typeCall_reversed_1 _) (F.newCall_reversed_1 _) (fun obj=>F.args_object_init_2 obj _) F.entry_reversed_new (BN l xs hz) ⟨ht,fun tk=>⟨⟨_,gk _ rfl,rfl⟩,h tk⟩⟩
theorem Eh{i:Nat}{x:Value}{Q:Option Value->Shared->Prop}(hit:jx s.heap it l (i:Int))(ht:IsTup s.heap l xs)(hx:xs[i]?=some x)(hz:xs.size<=sizeLine)(hne:l≠it)
  (hQ:∀h' tk,jx h' it l ((i:Int)-1)->Heap.SameBut it s.heap h'->Q (some x) {s with heap:=h',toks:=tk}):wpAny (model prog w) A (pyNext (.ref it)) Q E s:=by
 obtain⟨o,ho,hc,hd⟩:=id hit;have hlt:i<xs.size:=by
  by_cases z:i<xs.size
  .exact z
  .rw[Array.getElem?_eq_none (by omega)] at hx;cases hx
 rw[f7] at hz;unfold pyNext;refine aj (pV (xB (name:=Str.ofString "__next__") hit.typeIs fD
  (sP fD hit.typeIs k7 ?_ (mq _))))
 unfold Builtin.«reversed.__next__»;refine aj (kq (a:=(Value.ref it,[])) rfl ?_)
 try dsimp only
 refine aj (gB ho hd (x:=.ref l) rfl ?_);refine aj (gB ho hd (x:=rawInt (i:Int)) rfl ?_);show wpAny _ _ (if (i:Int)<0 then _ else _) _ _ s;rw[if_neg (by omega)];refine aj (wpAny_specialOf ht.typeIs slot_tuple_getitem.lookup ?_);rw[if_neg (by simp)];refine aj (wpAny_mkInt ?_);refine aj (pV (getItem_tuple (s:={s with toks:=s.toks+1}) ht (by omega) (by omega) (j:=i) ?_ hx ?_))
 .unfold seqIndex?;first|(rw[if_neg (by omega),if_pos (by omega)];simp)|(simp;omega)
 .try dsimp only
  refine aj (gB ho hd (x:=rawInt (i:Int)) rfl ?_);show wpAny _ _ (setField (.ref it) 1 (rawInt ((i:Int)-1)) >>= _) _ _ _;refine aj (om ho hd (by simp) ?_);refine aM ⟨x,rfl,aM (hQ _ _ ?_ (Ca ..))⟩;exact⟨_,qZ _ ho (vm (pA hd _)),(Obj.cls_mapFields ..).trans hc,by rw[pA hd];simp⟩
theorem FH{Q:Option Value->Shared->Prop}(hh:A.handled=none)(hit:jx s.heap it l (-1))
  (hQ:∀h',Heap.ExtBut it s.heap h'->Q none {s with heap:=h'}):wpAny (model prog w) A (pyNext (.ref it)) Q E s:=by
 obtain⟨o,ho,hc,hd⟩:=id hit;unfold pyNext;refine aj (pV (xB (name:=Str.ofString "__next__") hit.typeIs fD
  (sP fD hit.typeIs k7 ?_ (mq _))))
 unfold Builtin.«reversed.__next__»;refine aj (kq (a:=(Value.ref it,[])) rfl ?_)
 try dsimp only
 refine aj (gB ho hd (x:=.ref l) rfl ?_);refine aj (gB ho hd (x:=rawInt (-1)) rfl ?_);show wpAny _ _ (if (-1:Int)<0 then _ else _) _ _ s;rw[if_pos (by decide)];refine aj (wpAny_rule ?_);refine aj ?_;show wpAny _ _ ((do setField (.ref it) 1 (rawInt (-1));setField (.ref it) 0 .none):Sem Unit) _ _ _;refine aj (om ho hd (by simp) ?_);have g1:=qZ (Obj.mapFields fun x=>x.setIfInBounds 1 (rawInt (-1))) ho (vm (pA hd _));refine om g1 (pA hd _) (by simp) ?_;have k1:Heap.ExtBut it s.heap ((s.heap.update it (Obj.mapFields fun x=>x.setIfInBounds 1 (rawInt (-1)))).update it (Obj.mapFields fun x=>x.setIfInBounds 0 .none)):=fun b o hb e=>
  (Ca ..).extBut b o hb ((Ca ..).extBut b o hb e)
 refine aj ?_;show wpAny _ _ (newExc (.type "StopIteration") [] >>= _) _ _ _;refine aj ?_;simp only[newExc,newTuple];refine aj (jj ?_ (by size_fits));refine aj (m:=firstArgMember _ _) (kq (a:=Value.none) (by first|rfl|(simp only[firstArgMember];rfl)) ?_);refine jj ?_ (by size_fits);simp only[raiseNew];refine aj (wpAny_handled ?_);first|rw[show A.in1.handled=none from hh]|rw[hh]
 refine aj (aM (wpAny_throw ?_));refine aj (wpAny_isInstance (T:= "StopIteration") (b:=true) ⟨_,gk _ rfl,rfl⟩ isSubtype_stop ?_);exact aM (hQ _ ((k1.push _).push _))
theorem vT{i:Int}{Q:ba}(hit:jx s.heap it l i)(h:Q (.ref it) s):wpAny (model prog w) A (pyIter (.ref it)) Q E s:=by refine wpAny_pyIter_slot hit.typeIs mr (sP mr hit.typeIs q8 ?_ (sy _));show wpAny _ _ (ret (.ref it)) _ _ s;exact aM ⟨_,rfl, "reversed",_,hit.typeIs,fD.lookup,h⟩
end
def FX(K:W.Frag)(a:Addr)(n:Nat):It:=
 ⟨fun i H=>∃xs x,i<n/\dW K H a xs/\xs[n-1-i]?=some x,fun i H x H'=>H'=H/\∀xs,dW K H a xs->xs[n-1-i]?=some x,fun i _=>n<=i⟩
theorem DN{P:Program}{w:World}{K:W.Frag}{tg:Expr}(a it:Addr)(n:Nat)(ne:a≠it):Turn P w K tg (FX K a n) [it] it (fun i h=>i<=n/\jx h it a ((n:Int)-1-i)) where
 mem:=by simp
 obj:=fun i h Z c hc=>by
  have e:c=it:=by simpa using hc
  subst e;obtain⟨_,o,e,c,d⟩:=Z;exact⟨o,e,fun v q=>by rw[d] at q;cases q⟩
 keep:=fun i h h' Z k=>⟨Z.1,Z.2.at fun o e=>k it (by simp) o e⟩
 item:=by
  intro X hP hw hK hc i pins s σ H E I hf Z hg;subst hP hw hK;obtain⟨xs,x,hi,hq,hx⟩:=hg;obtain⟨us,rv,pl,hz⟩:=I.tuple hq;obtain⟨u,hu,ru⟩:=rv.get hx;obtain⟨_,hit⟩:=Z;have e1:(n:Int)-1-(i:Int)=((n-1-i:Nat):Int):=by omega
  rw[e1] at hit;refine Eh hit pl (x:=u) (by simpa using hu) (by simpa [rv.length] using hz) ne fun h' tk hit' hs'=>⟨u,rfl,?_⟩;have e2:((n-1-i:Nat):Int)-1=(n:Int)-1-((i+1:Nat):Int):=by omega
  rw[e2] at hit';obtain⟨o,ho,hc',hd⟩:=id hit';refine sT (n:= "reversed") ho hc' hd (by decide) ?_;have I':Inv X pins σ H {s with heap:=h',toks:=tk}:=vK I hf fun c o hc e=>hs'.extBut c o (fun z=>hc (by simp[z])) e;refine⟨x,H,I',ru,⟨rfl,fun xs' q=>?_⟩,⟨hi,hit'⟩,fun c hc=>(hf c hc).1⟩;rw[I.r0 q hq];exact hx
 done:=by
  intro X hP hw hK hc i pins s σ H E I hf Z hg;subst hP hw hK;have hg:n<=i:=hg;obtain⟨hle,hit⟩:=Z;have e1:(n:Int)-1-(i:Int)= -1:=by omega
  rw[e1] at hit;refine FH (I.ok.hd hc) hit fun h' kh=>⟨rfl,?_⟩;exact vK (t':=s.toks) I hf fun c o hc e=>kh c o (fun z=>hc (by simp[z])) e
 self:=fun _ _ _ _ _ Z h=>vT Z.2 h
section
variable {X:Cx}{a:Expr}{p pos:Pos}{tg:Expr}
theorem Je{ta:TA}(hg:Gl X "reversed")(hm:X.mg "reversed" = none)(ha:PA X [a] ta)(hs:starEach [a] X.env=[(false,eval a X.env)]):
  PI X tg (.Call (.Name "reversed" p) [a] [] pos) (fun σ H R=>ta σ H fun vs H1=>∃c xs,vs=[.ref c]/\dW X.K H1 c xs/\R (FX X.K c xs.length) H1):=by
 intro pins s σ H R I h;refine Call_ (jv I hg hm BU (u4 (aG (ha pos pins s σ H _ I h) fun us s1 ⟨vs,H1,I1,r1,c,xs,e,q⟩=>?_) (by rw[hs];rfl) (by rfl)) (by decide) (by decide));subst e;obtain⟨u,rfl,ru⟩:=vals1 r1;cases ru;have fp:∀c',c'∈ [s1.heap.objs.size]->gm X pins H1 c':=fun c' hc'=>by
  have le:c'=s1.heap.objs.size:=by simpa using hc'
  subst le;exact I1.tD (aV _) (I1.aD.fresh (aV _))
 obtain⟨q1,q⟩:=q
 .obtain⟨as,rv,pl,hz⟩:=I1.tuple q1;have el:as.toArray.size=xs.length:=by rw[cW];exact rv.length.symm
  refine Fu pl (by rw[el];exact hz) fun tk=>?_;have hit:jx (s1.heap.push (Dc c ((as.toArray.size:Int)-1))) s1.heap.objs.size c ((as.toArray.size:Int)-1):=⟨_,gk _ rfl,rfl,rfl⟩;refine vT hit ?_;have I2:Inv X pins σ H1 {s1 with heap:=s1.heap.push (Dc c ((as.toArray.size:Int)-1)),toks:=tk}:=I1.kept (t':=tk) fun b o e=>bX _ e;exact⟨_,_,_,_,H1,rfl,I2,DN c _ xs.length (dr pl.lt),⟨iy _,by rw[show (xs.length:Int)-1-((0:Nat):Int)=(as.toArray.size:Int)-1 by rw[el];simp];exact hit⟩,fp,q⟩
end
end TwS
namespace TwS
open PySem L2 PyProof.Rows
noncomputable def nextOf(src:Tw.Src)(i:Nat)(h:Tw.Hp):Option (Option Tw.W):=match src with
 |.fix ws=>some ws[i]?
 |.at a _=>(Tw.dO h a).map fun ys=>ys[i]?
def fX(K:W.Frag)(J:It)(src:Tw.Src)(ι:Nat->Addr)(q:Nat)(H:L2.Hp):Prop:=
 (∃ad xs ws,J=E7 K ad/\src=.fix ws/\TupAt K H ad xs/\aT K ι q H ws xs)\/(∃lo n,J=Df lo n/\src=.fix (Tw.upTo lo n))\/(∃i n b,J=GH K b/\b=ι i/\src=.at i n/\i<q)\/
 (∃ad xs ws,J=FX K ad xs.length/\src=.fix ws.reverse/\TupAt K H ad xs/\aT K ι q H ws xs)
theorem fX.later{K:W.Frag}{J:It}{src:Tw.Src}{ι ι1:Nat->Addr}{q q1:Nat}{H H1:L2.Hp}(f:fX K J src ι q H)(k:Keeps ι q H ι1 q1 H1):fX K J src ι1 q1 H1:=by
 rcases f with ⟨ad,xs,ws,e1,e2,e3,r⟩|f|⟨i,n,b,e1,e2,e3,hi⟩|⟨ad,xs,ws,e1,e2,e3,r⟩
 .exact .inl ⟨ad,xs,ws,e1,e2,k.wW e3,r.keep k⟩
 .exact .inr (.inl f)
 .exact .inr (.inr (.inl ⟨i,n,b,e1,e2.trans (k.same i hi).symm,e3,cH hi k.le⟩))
 .exact .inr (.inr (.inr ⟨ad,xs,ws,e1,e2,k.wW e3,r.keep k⟩))
theorem qw:∀(n:Nat)(lo:Int)(i:Nat),(Tw.upTo lo n)[i]?=if i<n then some (.int (lo+i)) else none
 |0,_,_=>by simp[Tw.upTo]
 |n+1,lo,0=>by simp[Tw.upTo]
 |n+1,lo,i+1=>by
  simp only[Tw.upTo,List.getElem?_cons_succ];rw[qw n (lo+1) i];by_cases h:i<n
  .rw[if_pos h,if_pos (by omega)]
   congr 2
   push_cast;omega
  .rw[if_neg h,if_neg (by omega)]
def pC(ws:List Tw.W)(i:Nat):Nat:=ws.length-1-i
theorem ji{K:Zk}{J:It}{src:Tw.Src}{ι:Nat->Addr}{h:Tw.Hp}{H:L2.Hp}(r:HR K ι h H)(f:fX K.K J src ι h.length H)(i:Nat):
  nextOf src i h=none\/(J.stop i H/\nextOf src i h=some none)\/
   ∃w,nextOf src i h=some (some w)/\J.go i H/\∀x H',J.Dr i H x H'->HR K ι h H'/\Ext ι h H ι h H'/\RW K.K ι h.length H' w x:=by
 have gd:∀{w x},RW K.K ι h.length H w x->HR K ι h H/\Ext ι h H ι h H/\RW K.K ι h.length H w x:=fun q=>⟨r,Ext.refl _ _ _,q⟩;rcases f with ⟨ad,xs,ws,rfl,rfl,e3,rr⟩|⟨lo,n,rfl,rfl⟩|⟨j,n,b,rfl,rfl,rfl,hi⟩|⟨ad,xs,ws,rfl,rfl,e3,rr⟩
 .cases hw:ws[i]? with
  |none=>exact .inr (.inl ⟨⟨xs,e3.sq,by rw[<-rr.length];exact xI.mp hw⟩,by simp[nextOf,hw]⟩)
  |some w=>
   obtain⟨v,hv,rv⟩:=rr.get hw;refine .inr (.inr ⟨w,by simp[nextOf,hw],⟨xs,v,e3.sq,hv⟩,fun x H' ⟨eH,hx⟩=>?_⟩);have:=hx xs e3.sq;rw[hv] at this;cases this;subst eH;exact gd rv
 .by_cases hi:i<n
  .refine .inr (.inr ⟨.int (lo+i),by simp[nextOf,qw,hi],hi,fun x H' ⟨eH,hx⟩=>?_⟩);subst eH hx;exact gd (.int _)
  .exact .inr (.inl ⟨jT.mp hi,by simp[nextOf,qw,hi]⟩)
 .cases e:Tw.dO h j with
  |none=>exact .inl (by simp[nextOf,e])
  |some ws=>
   obtain⟨xs,sq,rr⟩:=r.at e;cases hw:ws[i]? with
   |none=>exact .inr (.inl ⟨⟨xs,sq,by rw[<-rr.length];exact xI.mp hw⟩,by simp[nextOf,e,hw]⟩)
   |some w=>
    obtain⟨v,hv,rv⟩:=rr.get hw;refine .inr (.inr ⟨w,by simp[nextOf,e,hw],⟨xs,v,sq,hv⟩,fun x H' ⟨eH,hx⟩=>?_⟩);have:=hx xs sq;rw[hv] at this;cases this;subst eH;exact gd rv
 .have hl:=rr.length;by_cases hin:i<xs.length
  .have hw0:pC ws i<ws.length:=by unfold pC;omega
   have hw:ws[pC ws i]?=some ws[pC ws i]:=gJ hw0;obtain⟨v,hv,rv⟩:=rr.get hw;have en:pC ws i=xs.length-1-i:=by unfold pC;rw[hl]
   rw[en] at hv;refine .inr (.inr ⟨ws[pC ws i],?_,⟨xs,v,hin,e3.sq,hv⟩,fun x H' ⟨eH,hx⟩=>?_⟩)
   .show some ws.reverse[i]?=_;rw[List.getElem?_reverse (by omega)];exact c9 some hw
   .have:=hx xs e3.sq;rw[hv] at this;cases this;subst eH;exact gd rv
  .exact .inr (.inl ⟨jT.mp hin,by show some ws.reverse[i]?=_;rw[nh (by simp;omega)]⟩)
def cnt(src:Tw.Src)(i m:Nat):Prop:=match src with
 |.fix ws=>m=ws.length-i
 |_=>True
noncomputable def jN:Tw.Src->Nat
 |.fix ws=>ws.length
 |.at _ n=>n
theorem rR(src:Tw.Src):cnt src 0 (jN src):=by cases src<;>simp[cnt,jN]
theorem sZ(h:cnt src i (m+1)):cnt src (i+1) m:=by cases src<;>simp only[cnt] at h⊢<;>first|trivial|omega
def wk(src:Tw.Src)(k:Tw.W->List Tw.W->Tw.Hp->Tw.R (List Tw.W))(i m:Nat)(acc:List Tw.W)(h:Tw.Hp):Tw.R (List Tw.W):=match src with
 |.fix ws=>Tw.fo k (ws.drop i) acc h
 |.at a _=>Tw.bY a k m i acc h
theorem jw(src:Tw.Src)(k:Tw.W->List Tw.W->Tw.Hp->Tw.R (List Tw.W))(h:Tw.Hp):Tw.walk src k h=wk src k 0 (jN src) [] h:=by cases src<;>rfl
theorem En{k:Tw.W->List Tw.W->Tw.Hp->Tw.R (List Tw.W)}(hm:cnt src i m):
  wk src k i m acc h=.bad\/(nextOf src i h=some none/\wk src k i m acc h=.ok acc h)\/∃w m',nextOf src i h=some (some w)/\m=m'+1/\wk src k i m acc h=(k w acc h).bind fun acc h=>wk src k (i+1) m' acc h:=by
 cases src with
 |fix ws=>
  have hm:m=ws.length-i:=hm;cases hw:ws[i]? with
  |none=>
   have hl:=xI.mp hw;refine .inr (.inl ⟨by simp[nextOf,hw],?_⟩);show Tw.fo k (ws.drop i) acc h=_;rw[List.drop_eq_nil_of_le hl];rfl
  |some w=>
   have hl:=(ib.mp hw).1;refine .inr (.inr ⟨w,ws.length-(i+1),by simp[nextOf,hw],by omega,?_⟩);show Tw.fo k (ws.drop i) acc h=_;rw[wt hw];rfl
 | «at» a n=>
  cases e:Tw.dO h a with
  |none=>refine .inl ?_;show Tw.bY a k m i acc h=_;unfold Tw.bY;rw[e]
  |some ws=>
   cases hw:ws[i]? with
   |none=>refine .inr (.inl ⟨by simp[nextOf,e,hw],?_⟩);show Tw.bY a k m i acc h=_;unfold Tw.bY;simp only[e,hw]
   |some w=>
    cases m with
    |zero=>refine .inl ?_;show Tw.bY a k 0 i acc h=_;unfold Tw.bY;simp only[e,hw]
    |succ m=>
     refine .inr (.inr ⟨w,m,by simp[nextOf,e,hw],rfl,?_⟩);show Tw.bY a k (m+1) i acc h=_
     conv=>lhs;unfold Tw.bY
     simp only[e,hw];rfl
theorem EU{K:Zk}{J:It}{src:Tw.Src}{ι:Nat->Addr}{h:Tw.Hp}{H:L2.Hp}(r:HR K ι h H)(f:fX K.K J src ι h.length H)(k:Tw.W->List Tw.W->Tw.Hp->Tw.R (List Tw.W))(i m:Nat)(acc:List Tw.W)(hm:cnt src i m):
  wk src k i m acc h=.bad\/(J.stop i H/\wk src k i m acc h=.ok acc h)\/
   ∃w m',m=m'+1/\J.go i H/\(∀x H',J.Dr i H x H'->HR K ι h H'/\Ext ι h H ι h H'/\RW K.K ι h.length H' w x)/\cnt src (i+1) m'/\wk src k i m acc h=(k w acc h).bind fun acc h=>wk src k (i+1) m' acc h:=by
 rcases En (k:=k) (acc:=acc) (h:=h) hm with e|⟨e1,e2⟩|⟨w,m',e1,e2,e3⟩
 .exact .inl e
 .rcases ji r f i with q|⟨st,q⟩|⟨w,q,_⟩
  .rw[e1] at q;cases q
  .exact .inr (.inl ⟨st,e2⟩)
  .rw[e1] at q;cases q
 .rcases ji r f i with q|⟨st,q⟩|⟨w',q,go,hy⟩
  .rw[e1] at q;cases q
  .rw[e1] at q;cases q
  .rw[e1] at q;cases q;exact .inr (.inr ⟨w,m',e2,go,hy,sZ (by rw[<-e2];exact hm),e3⟩)
noncomputable def cF(env:Env):List (Str×NameKind)->List (Str×Addr)->List (Str×Addr)
 |[],cs=>cs
 |(n,k)::r,cs=>cF env r (if k== .free then (n,(env.cells.lookup n).getD 0)::cs else cs)
theorem pL(h:∀y∈scope.names,y.2=.free->∃c,env.cells.lookup y.1=some c):closureFor scope env=pure (cF env scope.names []):=by
 have key:∀(names:List (Str×NameKind))(cs:List (Str×Addr)),(∀y∈names,y.2=.free->∃c,env.cells.lookup y.1=some c)->
   (forIn (m:=Sem) names cs fun x r=>match x with
    |(name,kind)=>if (kind== NameKind.free)=true then do let c <-cellOf env name;pure (ForInStep.yield ((name,c)::r)) else pure (ForInStep.yield r))=pure (cF env names cs):=by
  intro names
  induction names with
  |nil=>intro cs _;rfl
  |cons y r ih=>
   intro cs h;obtain⟨n,k⟩:=y;have ih:=fun cs=>ih cs fun z hz=>h z (jB _ hz);rw[List.forIn_cons];by_cases hk:k=.free
   .subst hk;obtain⟨c,hc⟩:=h (n,.free) oY rfl;have e:cellOf env n=pure c:=by unfold cellOf;rw[hc]
    have t:cF env ((n,NameKind.free)::r) cs=cF env r ((n,c)::cs):=by rw[cF,hc];rfl
    rw[t,<-ih];dsimp only;rw[e];rfl
   .have hb:(k== NameKind.free)=false:=by simpa using hk
    have t:cF env ((n,k)::r) cs=cF env r cs:=by rw[cF,hb];rfl
    rw[t,<-ih];dsimp only;rw[hb];rfl
 unfold closureFor;have k2:=key scope.names [] h;exact (c9 (fun m:Sem (List (Str×Addr))=>m >>= fun cs=>pure cs) k2).trans rfl
theorem rQ:∀{names:List (Str×NameKind)}{cs:List (Str×Addr)}{y:Str}{c:Addr},(cF env names cs).lookup y=some c->
  cs.lookup y=some c\/((y,NameKind.free)∈names/\(env.cells.lookup y).getD 0=c)
 |[],cs,y,c,e=>.inl e
 |(n,k)::r,cs,y,c,e=>by
  rw[cF] at e;rcases rQ e with e|⟨h1,h2⟩
  .by_cases hk:k=.free
   .subst hk;rw[if_pos (by rfl),eA] at e;by_cases hy:(y== n)=true
    .rw[hy] at e;have:y=n:=by simpa using hy
     subst this;cases e;exact .inr ⟨oY,rfl⟩
    .rw[wd] at hy;rw[hy] at e;exact .inl e
   .rw[if_neg (by simpa using hk)] at e;exact .inl e
  .exact .inr ⟨jB _ h1,h2⟩
theorem pH:∀{names:List (Str×NameKind)}{cs:List (Str×Addr)}{y:Str},((y,NameKind.free)∈names\/∃c,cs.lookup y=some c)->∃c,(cF env names cs).lookup y=some c
 |[],cs,y,h=>by
  rcases h with h|h
  .cases h
  .exact h
 |(n,k)::r,cs,y,h=>by
  rw[cF];refine pH ?_;rcases h with h|⟨c,h⟩
  .rcases cY.mp h with h|h
   .cases h;refine .inr ⟨(env.cells.lookup n).getD 0,?_⟩;rw[if_pos (by rfl),eA];simp
   .exact .inl h
  .refine .inr ?_;by_cases hk:(k== NameKind.free)=true
   .rw[if_pos hk,eA];by_cases hy:(y== n)=true
    .rw[hy];exact⟨_,rfl⟩
    .rw[wd] at hy;rw[hy];exact⟨c,h⟩
   .rw[if_neg hk];exact⟨c,h⟩
noncomputable def c5(N:List Str)(x:List Str):List Str:=(N.map fun y=>if y∈x then ("" : Str) else y)++x
structure gu(N:List Str)(outer:Scope)(x:List Str)(sc:Scope):Prop where
 kind:sc.kind=.function
 OH:outer.kind=.function
 uk:∀y∈sc.names,y.2≠.cell
 locs:∀y∈sc.names,y.2=.local->sc.names.lookup y.1=some .local
 ki:∀y∈x,sc.names.lookup y=some .local
 only:∀y k,sc.names.lookup y=some k->k=.local->y∈N->y∈x
 free:∀y∈sc.names,y.2=.free->outer.names.lookup y.1=some .cell\/outer.names.lookup y.1=some .free
 E5:sc.names.lookup ("" : Str)=none
def bq(X:Cx)(scope:Scope)(C:Addr)(x:List Str)(s:Shared)(H:L2.Hp)(pins:aL)(fp:List Addr):Cx:=
 {X with N:=c5 X.N x,aO:=s,jG:=H,env:=compEnvC scope (cF X.env scope.names []) C X.env,outer:=X.stack,stack:=X.stack,ex:=fp,fn:=fun _=>false,pn:=X.pn++pins,xe:=fun _ _=>False}
theorem lookup_mem{l:List (Str×NameKind)}{y:Str}{k:NameKind}(h:l.lookup y=some k):(y,k)∈l:=hZ h
theorem hV{env:Env}{y:Str}{k:NameKind}:∀{names:List (Str×NameKind)},(names.map fun (n,k)=>if (k== NameKind.free&&env.scope.kind== .function&&env.kindOf n== some .cell) then (n,NameKind.cell) else (n,k)).lookup y=some k->
  ∃k',names.lookup y=some k'/\(k=k'\/(k=.cell/\k'=.free))
 |[],h=>by simp at h
 |(n,j)::r,h=>by
  rw[bx,eA] at h;by_cases hc:(j== NameKind.free&&env.scope.kind== .function&&env.kindOf n== some .cell)=true
  .rw[if_pos hc] at h;by_cases hy:(y== n)=true
   .simp only[hy] at h;cases h;refine⟨j,by rw[eA,hy],.inr ⟨rfl,?_⟩⟩;simp only[aE,iF] at hc;exact hc.1.1
   .rw[wd] at hy;simp only[hy] at h;obtain⟨k',h1,h2⟩:=hV h;exact⟨k',by rw[eA,hy];exact h1,h2⟩
  .rw[if_neg hc] at h;by_cases hy:(y== n)=true
   .simp only[hy] at h;cases h;exact⟨_,by rw[eA,hy],.inl rfl⟩
   .rw[wd] at hy;simp only[hy] at h;obtain⟨k',h1,h2⟩:=hV h;exact⟨k',by rw[eA,hy];exact h1,h2⟩
section
variable {X:Cx}{E:XK}{pins:aL}{σ:L2.St}{H:L2.Hp}{s:Shared}{scope:Scope}{x:List Str}
theorem wB(I:Inv X pins σ H s)(cs:gu X.N X.env.scope x scope):∀y∈scope.names,y.2=.free->∃c,X.env.cells.lookup y.1=some c:=fun y hy hf=>by
 rcases cs.free y hy hf with h|h
 .exact I.ok.has y.1 (.inl h)
 .exact I.ok.has y.1 (.inr h)
theorem fN(I:Inv X pins σ H s)(cs:gu X.N X.env.scope x scope)(e:(cF X.env scope.names []).lookup y=some c):X.env.cells.lookup y=some c:=by
 rcases rQ e with e|⟨h1,h2⟩
 .simp at e
 .obtain⟨c',hc⟩:=wB I cs _ h1 rfl;dsimp only at hc;rw[hc] at h2⊢;cases h2;rfl
theorem Ae{h':Heap}{t':Nat}(I:Inv X pins σ H s)(cs:gu X.N X.env.scope x scope){fp:List Addr}(hf:∀b∈fp,gm X pins H b)(hlt:∀b∈fp,b<s.heap.objs.size)
  (ns:h'.Ns s.heap.objs.size fun _=>none) (kp:∀b o,s.heap.get? b=some o->h'.get? b=some o):
  Inv (bq X scope s.heap.objs.size x s H pins fp) [] (σ++List.replicate x.length none) H {s with heap:=h',toks:=t'} where
 ok:={
  mod:=I.ok.mod
  kind:=cs.kind
  glob:=I.ok.glob
  blt:=I.ok.blt
  above:=aV _
  inj:=fun y z c h1 h2=>I.ok.inj y z c (fN I cs h1) (fN I cs h2)
  has:=fun y hy=>by
   have hy:(relabel scope X.env).names.lookup y=some .cell\/(relabel scope X.env).names.lookup y=some .free:=hy;refine pH (.inl ?_);have fr:∀k,(k=.cell\/k=.free)->(relabel scope X.env).names.lookup y=some k->(y,NameKind.free)∈scope.names:=fun k hk e=>by
    obtain⟨k',e',h⟩:=hV (env:=X.env) e;have m:=lookup_mem e';rcases h with h|⟨_,h⟩
    .subst h;rcases hk with hk|hk
     .exact absurd hk (cs.uk _ m)
     .rw[<-hk];exact m
    .rw[<-h];exact m
   rcases hy with hy|hy
   .exact fr _ (.inl rfl) hy
   .exact fr _ (.inr rfl) hy
  pO:=fun y c h=>nomatch h
  hd:=I.ok.hd
  frames:=I.ok.frames
  tB:=.inl rfl
  z9:=fun b hb=>⟨dr (hlt b hb),fun y c e=>(hf b hb).2.2.2.2.1 y c (fN I cs e)⟩
  bs:=I.bs
  kQ:=bW I.ok.kQ I.sz
  nG:=fun b o e z=>by
   rcases (hf b z).2.2.2.1 with w|w
   .exact I.ok.nG b o e w
   .exact absurd (cH (bC e) (bW I.ok.kQ w)) (pj _)
  oP:=fun b hb z=>by
   rcases cY.mp (I.jF b z) with w|w
   .exact (hf b hb).2.1 w
   .exact (hf b hb).2.2.1 w
  fM:=I.stack
  mU:=I.iq}
 os:=rfl
 bare:=I.bare
 base:=Un.kept kp
 loc:=by
  refine⟨_,ns,fun i y v e1 e2 e3=>?_⟩;have hl:i<σ.length:=by
   rcases qS i σ.length with z|z
   .exact z
   .rw[mC z,yI] at e2;split at e2<;>cases e2
  rw[gi hl] at e2;have hN:i<X.N.length:=by rw[<-I.len];exact hl
  have e1:(c5 X.N x)[i]?=some y:=e1;unfold c5 at e1;rw[gi (by simpa using hN),jS,gJ hN] at e1;have e1:(if X.N[i]∈x then ("" : Str) else X.N[i])=y:=by simpa using e1
  have hv:∃k,(relabel scope X.env).names.lookup y=some k:=by
   rcases e3 with e3|e3|e3
   .exact⟨_,e3⟩
   .exact⟨_,e3⟩
   .exact⟨_,e3⟩
  obtain⟨k,hk⟩:=hv;obtain⟨k',hk',hkk⟩:=hV (env:=X.env) hk;by_cases hx:X.N[i]∈x
  .rw[if_pos hx] at e1;rw[<-e1,cs.E5] at hk';cases hk'
  .rw[if_neg hx] at e1;have yN:y∈X.N:=by rw[<-e1];exact uF _
   have hfree:k'=.free/\(k=.cell\/k=.free):=by
    have hne:k'≠.local:=fun z=>hx (by rw[e1];exact cs.only y k' hk' z yN);have hnc:k'≠.cell:=fun z=>cs.uk _ (lookup_mem hk') z;rcases e3 with e3|e3|e3
    .have e3:(relabel scope X.env).names.lookup y=some .local:=e3;rw[hk] at e3;cases e3;rcases hkk with z|⟨z,_⟩
     .exact absurd z.symm hne
     .cases z
    .have e3:(relabel scope X.env).names.lookup y=some .cell:=e3;rw[hk] at e3;cases e3;rcases hkk with z|⟨_,z⟩
     .exact absurd z.symm hnc
     .exact⟨z,.inl rfl⟩
    .have e3:(relabel scope X.env).names.lookup y=some .free:=e3;rw[hk] at e3;cases e3;rcases hkk with z|⟨z,_⟩
     .exact⟨z.symm,.inr rfl⟩
     .cases z
   have m:=lookup_mem hk';rw[hfree.1] at m;have m7:oB X.env.scope y:=by
    rcases cs.free _ m rfl with z|z
    .exact .inr (.inl z)
    .exact .inr (.inr z)
   obtain⟨mm,hns,hl⟩:=I.loc;obtain⟨u,ru,lk⟩:=hl i y v (by rw[gJ hN,e1]) e2 m7;refine⟨u,ru,.inr ⟨?_,?_⟩⟩
   .rcases hfree.2 with z|z
    .exact .inl (by rw[<-z];exact hk)
    .exact .inr (by rw[<-z];exact hk)
   .rcases lk with ⟨z,_⟩|⟨_,c,ec,hc⟩
    .exfalso;have z:X.env.scope.names.lookup y=some .local:=z;rcases cs.free _ m rfl with w|w
     .have w:X.env.scope.names.lookup y=some .cell:=w;rw[z] at w;cases w
     .have w:X.env.scope.names.lookup y=some .free:=w;rw[z] at w;cases w
    .obtain⟨c',ec'⟩:=pH (env:=X.env) (names:=scope.names) (cs:=[]) (y:=y) (.inl m);have:=fN I cs ec';rw[ec] at this;cases this;refine⟨c,ec',?_⟩;obtain⟨o,ho,hd⟩:=hc;exact⟨o,kp _ _ ho,hd⟩
 cell:=fun y c e=>by
  obtain⟨v,o,ho,hd⟩:=I.cell y c (fN I cs e);exact⟨v,o,kp _ _ ho,hd⟩
 free:=I.aD.fresh (aV _)
 fk:=fun y c e=>I.fk y c (fN I cs e)
 pin:=fun p hp=>by
  have hp:p∈(X.pn++pins)++[]:=hp;rw[gI] at hp;obtain⟨h1,h2,h3,h4,h5⟩:=I.pin p hp;refine⟨kp _ _ h1,h2,dr (bC h1),fun z=>?_,h5⟩;rcases cY.mp (I.jF p.1 z) with w|w
  .exact h3 w
  .exact h4 w
 aD:=I.aD.kept kp
 len:=by show (σ++List.replicate x.length none).length=(c5 X.N x).length;unfold c5;simp[I.len]
end
abbrev tI(K:Zk)(d:Tw.Env->Tw.Hp->Tw.R Tw.Src):TI:=tG K (fun K ι n H src J=>fX K J src ι n H) d
section
variable {X:Cx}{E:XK}{a b:Expr}{pos:Pos}{da db:Tw.Env->Tw.Hp->Tw.R Tw.W}
theorem PI.imp(p:PI X tg iter w)(f:∀σ H R,w' σ H R->w σ H R):PI X tg iter w':=fun pins s σ H R I q=>p pins s σ H R I (f σ H R q)
theorem Kt(ha:PE X a (tE (zx X E) da)):PI X tg a (tI (zx X E) fun ρ h=>(da ρ h).bind fun x h=>Tw.R.of (Tw.src h x) h):=by
 refine PI.imp (PI.or (Ei ha) (Fq ha)) fun σ H R U=>U.g fun ρ U=>U.g fun h U=>U.g fun ι U=>U.g fun at' p=>?_;dsimp only at p;cases e0:da ρ h with
 |bad=>rw[e0] at p;exact p.elim
 |aI=>rw[e0] at p;refine .inr ⟨ρ,h,ι,at',?_⟩;rw[e0];exact p
 |ok w h1=>
  rw[e0] at p;simp only[Tw.R.af] at p;cases w with
  |tup ws=>
   refine .inr ⟨ρ,h,ι,at',?_⟩;rw[e0];intro ι1 H1 x e1 r1 rx;cases rx with
   | @tup ad xs _ ea ra=>exact⟨ad,rfl,⟨xs,TupAt.sq ea⟩,p ι1 H1 _ e1 r1 (.inl ⟨ad,xs,ws,rfl,rfl,ea,ra⟩)⟩
  |ref i=>
   cases e2:Tw.dO h1 i with
   |none=>
    have:Tw.src h1 (.ref i)=none:=by
     unfold Tw.dO at e2;simp only[Tw.src];split at e2
     .cases e2
     .cases e2
     .rfl
    rw[this] at p;exact p.elim
   |some ws0=>
    have:Tw.src h1 (.ref i)=some (.at i ws0.length):=by
     unfold Tw.dO at e2;simp only[Tw.src];split at e2
     .cases e2;rfl
     .cases e2;rfl
     .cases e2
    rw[this] at p;refine .inl ⟨ρ,h,ι,at',?_⟩;rw[e0];intro ι1 H1 x e1 r1 rx;cases rx with
    |ref hi=>
     obtain⟨xs0,sq0,_⟩:=r1.at e2;exact⟨_,rfl,⟨xs0,sq0⟩,p ι1 H1 _ e1 r1 (.inr (.inr (.inl ⟨i,_,_,rfl,rfl,rfl,hi⟩)))⟩
  |_=>exact p.elim
theorem J8(hgl:Gl X "range")(hm:X.mg "range" = none)(ha:PE X a (tE (zx X E) da))(hst:starEach [a] X.env=[(false,eval a X.env)]):
  PI X tg (.Call (.Name "range" p1) [a] [] pos2) (tI (zx X E) fun ρ h=>(da ρ h).bind fun x h=>match x with
   |.int j=>if Tw.iH j then .ok (.fix (Tw.upTo 0 j.toNat)) h else .bad
   |_=>.bad):=by
 refine PI.imp (Ap hgl hm (bU ha eQ hst) hst) fun σ H R U=>U.g fun ρ U=>U.g fun h U=>U.g fun ι U=>U.g fun at' p=>?_;refine⟨ρ,h,ι,at',(step at' p).mono fun x H1 U=>U.g fun w U=>U.g fun h1 U=>U.g fun ι1 U=>U.g fun at1 U=>U.g fun e1 U=>U.g fun r1 p1=>?_⟩;cases r1 with
 |int j=>
  dsimp only at p1;by_cases c:Tw.iH j=true
  .rw[if_pos c] at p1;simp only[Tw.iH,aE,aQ] at c;exact⟨j,rfl,c.1,c.2,au.self (a:=Tw.Src.fix (Tw.upTo 0 j.toNat)) p1 at1.hr (.inr (.inl ⟨0,j.toNat,rfl,rfl⟩))⟩
  .rw[if_neg c] at p1;exact p1.elim
 |_=>exact p1.elim
end
theorem rX{k:Tw.W->List Tw.W->Tw.Hp->Tw.R (List Tw.W)}(hk:∀w acc h acc' h',k w acc h=.ok acc' h'->acc.length<=acc'.length):
  ∀(ws acc:List Tw.W)(h:Tw.Hp)(acc':List Tw.W)(h':Tw.Hp),Tw.fo k ws acc h=.ok acc' h'->acc.length<=acc'.length
 |[],acc,h,acc',h',e=>by cases e;exact aV _
 |w::ws,acc,h,acc',h',e=>by
  rw[Tw.fo] at e;cases e1:k w acc h with
  |bad=>rw[e1] at e;cases e
  |aI=>rw[e1] at e;cases e
  |ok acc1 h1=>
   rw[e1] at e;exact bW (hk _ _ _ _ _ e1) (rX hk ws acc1 h1 acc' h' e)
theorem zU{k:Tw.W->List Tw.W->Tw.Hp->Tw.R (List Tw.W)}(hk:∀w acc h acc' h',k w acc h=.ok acc' h'->acc.length<=acc'.length):
  ∀(m i:Nat)(acc:List Tw.W)(h:Tw.Hp)(acc':List Tw.W)(h':Tw.Hp),Tw.bY a k m i acc h=.ok acc' h'->acc.length<=acc'.length:=by
 intro m
 induction m with
 |zero=>
  intro i acc h acc' h' e;unfold Tw.bY at e;split at e
  .cases e
  .split at e
   .cases e;exact aV _
   .cases e
 |succ m ih=>
  intro i acc h acc' h' e;unfold Tw.bY at e;split at e
  .cases e
  .split at e
   .cases e;exact aV _
   .next w _=>
    dsimp only at e;cases e1:k w acc h with
    |bad=>rw[e1] at e;cases e
    |aI=>rw[e1] at e;cases e
    |ok acc1 h1=>
     rw[e1] at e;exact bW (hk _ _ _ _ _ e1) (ih (i+1) acc1 h1 acc' h' e)
theorem Hx{k:Tw.W->List Tw.W->Tw.Hp->Tw.R (List Tw.W)}(hk:∀w acc h acc' h',k w acc h=.ok acc' h'->acc.length<=acc'.length)
  (e:wk src k i m acc h=.ok acc' h'):acc.length<=acc'.length:=by
 cases src with
 |fix ws=>exact rX hk _ _ _ _ _ e
 | «at» a n=>exact zU hk _ _ _ _ _ _ e
noncomputable def cR(un:Tw.W->Option (List Tw.W))(c:Tw.Env->Tw.Hp->Tw.R (Option Tw.W))(elt:Tw.Env->Tw.Hp->Tw.R Tw.W)(σ:Tw.Env)(x:Tw.W)(acc:List Tw.W)(h:Tw.Hp):Tw.R (List Tw.W):=match un x with
 |none=>.bad
 |some ws=>(c (σ++ws.map some) h).gy.bind fun t h=>match Tw.iS h t with
  |none=>.bad
  |some true=>(elt (σ++ws.map some) h).gy.bind fun y h=>.ok (acc++[y]) h
  |some false=>.ok acc h
def HC(w:Tw.W):Option (List Tw.W):=some [w]
theorem zh{un:Tw.W->Option (List Tw.W)}{dc:Tw.Env->Tw.Hp->Tw.R (Option Tw.W)}{de:Tw.Env->Tw.Hp->Tw.R Tw.W}(w:Tw.W)(acc:List Tw.W)(h:Tw.Hp)(acc':List Tw.W)(h':Tw.Hp)(e:cR un dc de ρ w acc h=.ok acc' h'):acc.length<=acc'.length:=by
 unfold cR at e;cases e0:un w with
 |none=>rw[e0] at e;cases e
 |some ws=>
  rw[e0] at e;dsimp only at e;cases e1:dc (ρ++ws.map some) h with
  |bad=>rw[e1] at e;cases e
  |aI=>rw[e1] at e;cases e
  |ok t h1=>
   rw[e1] at e;simp only[Tw.R.dY,Tw.R.af] at e;split at e
   .cases e
   .cases e2:de (ρ++ws.map some) h1 with
    |bad=>rw[e2] at e;cases e
    |aI=>rw[e2] at e;cases e
    |ok y h2=>rw[e2] at e;cases e;simp
   .cases e;exact aV _
theorem rJ{k:Tw.W->List Tw.W->Tw.Hp->Tw.R (List Tw.W)}(hk:∀w acc h a h',k w acc h≠.aI a h'):∀(ws acc:List Tw.W)(h:Tw.Hp)(a:Nat)(h':Tw.Hp),Tw.fo k ws acc h≠.aI a h'
 |[],acc,h,a,h',e=>by cases e
 |w::ws,acc,h,a,h',e=>by
  rw[Tw.fo] at e;cases e1:k w acc h with
  |bad=>rw[e1] at e;cases e
  |aI b g=>exact hk _ _ _ _ _ e1
  |ok acc1 h1=>rw[e1] at e;exact rJ hk ws acc1 h1 a h' e
theorem zd{k:Tw.W->List Tw.W->Tw.Hp->Tw.R (List Tw.W)}(hk:∀w acc h a h',k w acc h≠.aI a h'):∀(m i:Nat)(acc:List Tw.W)(h:Tw.Hp)(b:Nat)(h':Tw.Hp),Tw.bY a k m i acc h≠.aI b h':=by
 intro m
 induction m with
 |zero=>
  intro i acc h b h' e;unfold Tw.bY at e;split at e
  .cases e
  .split at e<;>cases e
 |succ m ih=>
  intro i acc h b h' e;unfold Tw.bY at e;split at e
  .cases e
  .split at e
   .cases e
   .next w _=>
    dsimp only at e;cases e1:k w acc h with
    |bad=>rw[e1] at e;cases e
    |aI c g=>exact hk _ _ _ _ _ e1
    |ok acc1 h1=>rw[e1] at e;exact ih (i+1) acc1 h1 b h' e
theorem rE{un:Tw.W->Option (List Tw.W)}{dc:Tw.Env->Tw.Hp->Tw.R (Option Tw.W)}{de:Tw.Env->Tw.Hp->Tw.R Tw.W}(w:Tw.W)(acc:List Tw.W)(h:Tw.Hp)(a:Nat)(h':Tw.Hp):cR un dc de ρ w acc h≠.aI a h':=by
 intro e;unfold cR at e;split at e
 .cases e
 .next ws _=>
  cases e1:dc (ρ++ws.map some) h with
  |bad=>rw[e1] at e;cases e
  |aI=>rw[e1] at e;cases e
  |ok t h1=>
   rw[e1] at e;simp only[Tw.R.dY,Tw.R.af] at e;split at e
   .cases e
   .cases e2:de (ρ++ws.map some) h1<;>rw[e2] at e<;>cases e
   .cases e
theorem HF{un:Tw.W->Option (List Tw.W)}{dc:Tw.Env->Tw.Hp->Tw.R (Option Tw.W)}{de:Tw.Env->Tw.Hp->Tw.R Tw.W}:wk src (cR un dc de ρ) i m acc h≠.aI a h':=by
 cases src with
 |fix ws=>exact rJ rE _ _ _ _ _
 | «at» b n=>exact zd rE _ _ _ _ _ _
theorem At.JJ{K:Zk}{ι:Nat->Addr}{h:Tw.Hp}{H:L2.Hp}{ρ:Tw.Env}{σ:L2.St}{ws:List Tw.W}{vs:List V}(a:At K ι h H ρ σ)(r:aT K.K ι h.length H ws vs):At K ι h H (ρ++ws.map some) (σ++vs.map some) where
 hr:=a.hr
 len:=by simp[a.len,r.length]
 st:=fun i u e=>by
  rcases qS i ρ.length with hi|hi
  .rw[gi hi] at e;rw[gi (by rw[a.len];exact hi)];exact a.st i u e
  .rw[mC hi,jS] at e;rw[mC (by rw[a.len];exact hi),a.len,jS];cases q:ws[i-ρ.length]? with
   |none=>rw[q] at e;cases e
   |some w=>
    rw[q] at e;cases e;obtain⟨v,hv,rv⟩:=r.get q;exact⟨v,by rw[hv];rfl,rv⟩
theorem HR.ex{K:W.Frag}{mg:Str->Option Value}{E E':XK}{ι:Nat->Addr}{h:Tw.Hp}{H:L2.Hp}(r:HR ⟨K,mg,E,cl⟩ ι h H):HR ⟨K,mg,E',cl⟩ ι h H:=⟨fun i o e=>by
 have q:=r.obj i o e;cases o<;>exact q,r.inj,r.tab,r.fn⟩
theorem At.ex{K:W.Frag}{mg:Str->Option Value}{E E':XK}{ι:Nat->Addr}{h:Tw.Hp}{H:L2.Hp}{ρ:Tw.Env}{σ:L2.St}(a:At ⟨K,mg,E,cl⟩ ι h H ρ σ):At ⟨K,mg,E',cl⟩ ι h H ρ σ:=⟨a.hr.ex,a.len,a.st⟩
def ni(K:Zk)(n k:Nat)(g:TG)(un:Tw.W->Option (List Tw.W)):Prop:=∀(ι:Nat->Addr)(h:Tw.Hp)(H:L2.Hp)(σ os:L2.St)(w:Tw.W)(v:V)(ws:List Tw.W)(Q:L2.St->L2.Hp->Prop),
 σ.length=n->os.length=k->RW K.K ι h.length H w v->un w=some ws->(∀vs,aT K.K ι h.length H ws vs->vs.length=k->Q (σ++vs.map some) H)->g v (σ++os) H Q
theorem tO(K:Zk)(n:Nat):ni K n 1 (iN n) HC:=fun ι h H σ os w v ws Q h1 h2 r e q=>by
 cases e
 match os,h2 with
 |[o],_=>
  show Q _ H;rw[<-h1,List.set_append_right _ _ (aV _)];simpa using q [v] (.cons r .nil) rfl
section
variable {X:Cx}{E:XK}{pins:aL}{σ σ':L2.St}{H Hc:L2.Hp}{s s1:Shared}{scope:Scope}{x:List Str}{fp:List Addr}
theorem su(I:Inv X pins σ H s)(hf:∀b∈fp,gm X pins H b)(J:Inv (bq X scope s.heap.objs.size x s H pins fp) [] σ' Hc s1)(hs:Heap.SameBut s.heap.objs.size s1.heap h'):Inv X pins σ Hc {s1 with heap:=h'}:=by
 have ne:∀b o,s.heap.get? b=some o->b≠s.heap.objs.size:=fun b o e=>dr (bC e);have to':∀b o,b≠s.heap.objs.size->s1.heap.get? b=some o->h'.get? b=some o:=fun b o n e=>hs.extBut b o n e;have B:=J.base;have hC:Hc s.heap.objs.size=none:=J.free;have u:Un (bp X.stack) fp H Hc s.heap h':=by
  refine⟨fun b o e n h1 h2=>to' b o (ne b o e) (B.keep b o e n h1 h2),fun b o e n h1 h2=>?_,B.free,fun b o e h2=>?_,B.gj,B.fL,B.fS⟩
  .obtain⟨sl,q⟩:=B.slot b o e n h1 h2;exact⟨sl,to' b _ (ne b o e) q⟩
  .obtain⟨o',q⟩:=B.there b o e h2;exact⟨o',to' b o' (ne b o e) q⟩
 have aD:dI X.prog X.w Hc h':=fun b v e=>by
  refine (J.aD b v e).gd (fun c w hc q=>to' c w ?_ q) (fun _ q=>q) fun _ _ q=>q;rcases hc with z|z
  .rw[z];intro z';rw[z',hC] at e;cases e
  .intro z';rw[z',hC] at z;cases z
 have os:s1.os=s.os:=J.os;obtain⟨hh,g,d,t,os'⟩:=s1;cases os;have fin:=L2.Inv.call (s:=s) (h':=h') (g':=g) (d':=d) (t':=t) (ch:=fp) I u aD J.bare fun b hb=>⟨(hf b hb).2.2.2.1,(hf b hb).2.1,(hf b hb).2.2.2.2.1,(hf b hb).2.2.2.2.2⟩;exact fin
end
def pJ(X:Cx)(scope:Scope)(x:List Str)(ifs:List Expr)(dc:Tw.Env->Tw.Hp->Tw.R (Option Tw.W)):Prop:=
 (ifs=[]/\∀ρ h,dc ρ h=.ok none h)\/∃c d,ifs=[c]/\(∀ρ h,dc ρ h=(d ρ h).bind fun w h=>.ok (some w) h)/\∀C s H pins fp,PT (bq X scope C x s H pins fp) c (tT (zx X E0) d)
section
variable {X:Cx}{E:XK}{elt iter tg:Expr}{x:List Str}{pos:Pos}{g:TG}{un:Tw.W->Option (List Tw.W)}{ifs:List Expr}{scope:Scope}{dit:Tw.Env->Tw.Hp->Tw.R Tw.Src}{dc:Tw.Env->Tw.Hp->Tw.R (Option Tw.W)}{de:Tw.Env->Tw.Hp->Tw.R Tw.W}
theorem C3(I:Inv X pins σ H3 s3)(cs:gu X.N X.env.scope x scope)(f3:∀b∈fp,gm X pins H3 b)(lt3:∀b∈fp,b<s3.heap.objs.size)(fz:∀b∈fp,Hc b=none):
  ∀b∈fp,gm (bq X scope s3.heap.objs.size x s3 H3 pins fp) [] Hc b:=fun b hb=>by
 obtain⟨_,f1,f2,_,f4,f5⟩:=f3 b hb;refine⟨fz b hb,dr (lt3 b hb),fun z=>?_,.inl hb,fun y c e=>f4 y c (fN I cs e),fun p hp=>?_⟩
 .rcases cY.mp (I.jF b z) with w|w
  .exact f1 w
  .exact f2 w
 .have hp:p∈(X.pn++pins)++[]:=hp;rw[gI] at hp;exact f5 p hp
theorem vb{K K':Zk}{α β γ δ:Type}{R:Rl α β}{R':Rl γ δ}{ι ι0:Nat->Addr}{h h0:Tw.Hp}{H H0:L2.Hp}{m:Tw.R α}{k:α->Tw.Hp->Tw.R γ}{Q:δ->L2.Hp->Prop}(p:au K R' ι0 h0 H0 (m.gy.bind k) Q):
  au K' R ι h H m (fun b H'=>∃a h' ι',m=.ok a h'/\Ext ι h H ι' h' H'/\HR K' ι' h' H'/\R K'.K ι' h'.length H' a b):=by
 cases m with
 |ok w h1=>exact fun ι' H' b e r q=>⟨w,h1,ι',rfl,e,r,q⟩
 |aI=>exact p.elim
 |bad=>exact p
theorem tH{K:Zk}{α β γ δ:Type}{R':Rl γ δ}{ι0:Nat->Addr}{h0:Tw.Hp}{H0:L2.Hp}{m:Tw.R α}{f:α->Tw.Hp->Tw.R β}{g:β->Tw.Hp->Tw.R γ}{Q:δ->L2.Hp->Prop}(p:au K R' ι0 h0 H0 ((m.bind f).bind g) Q):au K R' ι0 h0 H0 (m.bind fun a h=>(f a h).bind g) Q:=by cases m<;>exact p
theorem xw{R:Result->Shared->Prop}(I:Nat->Shared->Prop)
  (turn:∀n s,I n s->wpAny (model prog w) A (pyNext it) (fun r s1=>match r with
   |none=>R (.ok .next) s1
   |some v=>wpAny (model prog w) A (letOwnedTupleGo target it v) (fun _ sg=>wpAny (model prog w) A (assign target env v) (fun _ s2=>
     wpAny (model prog w) A (forIn ifs true fun c r=>if r=true then do let ok <-isTrue c env (eval c env);pure (ForInStep.yield ok) else pure (ForInStep.yield r)) (fun ok s3=>
      if ok=true then wpAny (model prog w) A (eval elt env) (fun x s4=>
       wpAny (model prog w) A (call (.builtin "list.append") [acc,x]) (fun _ s5=>∃m,m<n/\I m s5) (fun _ _=>False) s4) (fun _ _=>False) s3
      else ∃m,m<n/\I m s3) (fun _ _=>False) s2) (fun _ _=>False) sg) (fun _ _=>False) s1) (fun _ _=>False) s)
  (n:Nat) (h:I n s):codeAny (model prog w) A (.compLoop (.ListComp elt [⟨target,iter,ifs,0⟩] scope pos) 0 it acc env) R s:=by
 have no:∀{α:Type}{t:Sem α}{Q1:α->Shared->Prop}{E1:ba}{s0:Shared},wpAny (model prog w) A t Q1 (fun _ _=>False) s0->wpAny (model prog w) A t Q1 E1 s0:=fun h=>iJ h (fun _ _ q=>q) fun _ _ f=>f.elim;refine codeAny_loop rfl I (fun n s hI=>?_) n h;show wpAny _ A ((compTurn (.ListComp elt [⟨target,iter,ifs,0⟩] scope pos) 0 it acc env).onRaise (fun x=>do noteFrame x env;theTreesLotGoes x)) _ _ s;refine wpAny_noted ?_;rw[compTurn_list];refine aj (qh (aj (aG (no (turn n s hI)) fun r s1 h1=>?_)));cases r with
 |none=>exact aM h1
 |some v=>
  refine aj (aG (no h1) fun _ sg hg=>aj (aG (no hg) fun _ s2 h2=>aj (aG (no h2) fun ok s3 h3=>?_)));cases ok with
  |false=>exact aM ⟨rfl,h3⟩
  |true=>exact aj (aj (aG (no h3) fun x s4 h4=>aj (aG (no h4) fun _ s5 h5=>aM (aM ⟨rfl,h5⟩))))
theorem Keeps.trans{ι ι1 ι2:Nat->Addr}(a:Keeps ι n H ι1 n1 H1)(b:Keeps ι1 n1 H1 ι2 n2 H2):Keeps ι n H ι2 n2 H2:=
 ⟨bW a.le b.le,fun i hi=>(b.same i (cH hi a.le)).trans (a.same i hi),fun c xs e=>b.tup c xs (a.tup c xs e)⟩
theorem xS{pins:aL}{s3:Shared}{H2 H3:L2.Hp}{fp:List Addr}{σ:L2.St}{ρ:Tw.Env}{ι1:Nat->Addr}{h1:Tw.Hp}{D it:Addr}{tn:Nat->Heap->Prop}{J:It}{src:Tw.Src}{Q:VK}{h4:Heap}{t4:Nat}
  (hc:X.calm=true) (cs:gu X.N X.env.scope x scope) (hpg:∀C s H pins fp,PG (bq X scope C x s H pins fp) tg g) (hbd:ni (zx X E) X.N.length x.length g un) (hel:∀C s H pins fp,PE (bq X scope C x s H pins fp) elt (tE (zx X E0) de)) (hts:pJ X scope x ifs dc)
  (I3:Inv X pins σ H3 s3) (hD:H3 D=some (.lst [])) (fresh:H2 D=none) (x3:Ext ι1 h1 H2 ι1 h1 H3) (at3:At (zx X E) ι1 h1 H3 ρ σ) (qe:fj ι1 h1 D) (fd3:fX X.K J src ι1 h1.length H3)
  (p1:au (zx X E) RE ι1 h1 H2 ((wk src (cR un dc de ρ) 0 (jN src) [] h1).bind Tw.eL) Q) (T:Turn X.prog X.w X.K tg J fp it tn) (st3:tn 0 s3.heap) (f3:∀b∈fp,gm X pins H3 b) (lt3:∀b∈fp,b<s3.heap.objs.size)
  (ns:h4.Ns s3.heap.objs.size fun _=>none) (kp:∀b o,s3.heap.get? b=some o->h4.get? b=some o)
  {RR:Result->Shared->Prop} (hR:∀s1 Hc σ',Inv (bq X scope s3.heap.objs.size x s3 H3 pins fp) [] σ' Hc s1->Q (.ref D) Hc->RR (.ok .next) s1):
  codeAny (model X.prog X.w) X.A (.compStart (.ListComp elt [⟨tg,iter,ifs,0⟩] scope pos) 0 (.ref it) (.ref D) (compEnvC scope (cF X.env scope.names []) s3.heap.objs.size X.env))
   RR {s3 with heap:=h4,toks:=t4}:=by
 have I4:Inv (bq X scope s3.heap.objs.size x s3 H3 pins fp) [] (σ++List.replicate x.length none) H3 {s3 with heap:=h4,toks:=t4}:=Ae I3 cs f3 lt3 ns kp;have st4:tn 0 h4:=T.keep 0 _ _ st3 fun b _ o e=>kp b o e;have loop:codeAny (model X.prog X.w) X.A (.compLoop (.ListComp elt [⟨tg,iter,ifs,0⟩] scope pos) 0 (.ref it) (.ref D) (compEnvC scope (cF X.env scope.names []) s3.heap.objs.size X.env))
   RR {s3 with heap:=h4,toks:=t4}:=by
  refine xw (fun n s'=>∃i acc ys hh ι' Hc o,Inv (bq X scope s3.heap.objs.size x s3 H3 pins fp) [] (σ++o) Hc s'/\o.length=x.length/\tn i s'.heap/\(∀b∈fp,Hc b=none)/\Hc D=some (.lst ys)/\fj ι' hh D/\
   At (zx X E) ι' hh Hc ρ σ/\Ext ι1 h1 H2 ι' hh Hc/\aT X.K ι' hh.length Hc acc ys/\fX X.K J src ι' hh.length Hc/\cnt src i n/\
   au (zx X E) RE ι1 h1 H2 ((wk src (cR un dc de ρ) i n acc hh).bind Tw.eL) Q) ?_ (jN src)
   ⟨0,[],[],h1,ι1,H3,_,I4,by simp,st4,fun b hb=>(f3 b hb).1,hD,qe,at3,x3,.nil,fd3,rR src,p1⟩
  rintro n s' ⟨i,acc,ys,hh,ι',Hc0,o,J1,lo,tn1,fz,hDc0,rC,at50,ex0,rr0,fd0,hm,pp⟩
  have fpo:=C3 (Hc:=Hc0) I3 cs f3 lt3 fz;rcases EU at50.hr fd0 (cR un dc de ρ) i n acc hm with bad|⟨stop,e⟩|⟨w,m,em,go,hy,hm',e⟩
  .rw[bad] at pp;exact pp.elim
  . -- the end
   refine aG (T.done (bq X scope s3.heap.objs.size x s3 H3 pins fp) rfl rfl rfl hc i [] s' _ Hc0 _ J1 fpo tn1 stop) fun r s1 U=>U.g fun er J2=>?_;subst er;rw[e] at pp;refine hR s1 Hc0 _ J2 ?_;have pp:au (zx X E) RE ι1 h1 H2 (if acc.length<=Tw.SZ then Tw.new (.lst acc) hh else .bad) Q:=pp;by_cases c:acc.length<=Tw.SZ
   .rw[if_pos c] at pp;have hr':=at50.hr.adopt (u:=.lst acc) rC hDc0 rfl fun ι'' n'' k=>⟨ys,hDc0,rr0.keep k⟩;have z:RW X.K (c4 ι' hh.length D) (hh++[Tw.O.lst acc]).length Hc0 (.ref hh.length) (.ref (c4 ι' hh.length D hh.length)):=.ref (by simp);rw[cg] at z;exact pp _ _ _ (ex0.adopt fresh) hr' z
   .rw[if_neg c] at pp;exact pp.elim
  . -- a turn
   subst em;refine aG (T.item (bq X scope s3.heap.objs.size x s3 H3 pins fp) rfl rfl rfl hc i [] s' _ Hc0 _ J1 fpo tn1 go) fun r s1 U=>U.g fun u U=>U.g fun er hl=>?_;subst er;refine aG hl fun _ s1 U=>U.g fun v U=>U.g fun Hc U=>U.g fun J2 U=>U.g fun rv U=>U.g fun yl U=>U.g fun tn2 fz2=>?_;obtain⟨ry,xy,rw'⟩:=hy v Hc yl;have ky:=xy.keeps at50.hr;have hDc:Hc D=some (.lst ys):=xy.fr D _ hDc0 (fun _ z=>nomatch z) rC;have al:fj ι' hh D:=rC;have at5:At (zx X E) ι' hh Hc ρ σ:=at50.later xy ry;have ex:=ex0.trans xy;have rr:=rr0.keep ky;have fd:=fd0.later ky;have fpo:=C3 (Hc:=Hc) I3 cs f3 lt3 fz2;have J3:=J2.pinned fpo (T.obj _ _ tn2);rw[e] at pp;have pp:=tH pp;have pp':=pp;obtain⟨ws,eu⟩:∃ws,un w=some ws:=by
    cases eu:un w with
    |none=>rw[show cR un dc de ρ w acc hh=.bad by unfold cR;rw[eu]] at pp';exact pp'.elim
    |some ws=>exact⟨ws,rfl⟩
   have q0:cR un dc de ρ w acc hh=((dc (ρ++ws.map some) hh).gy.bind fun t h=>match Tw.iS h t with
     |none=>.bad
     |some true=>(de (ρ++ws.map some) h).gy.bind fun y h=>.ok (acc++[y]) h
     |some false=>.ok acc h):=by
    unfold cR;rw[eu]<;>rfl
   rw[q0] at pp';refine iJ (hpg _ _ _ _ _ _ s1 _ Hc v u (fun σ2 H2'=>∃vs,aT X.K ι' hh.length Hc ws vs/\vs.length=x.length/\σ2=σ++vs.map some/\H2'=Hc) J3 rv (hbd ι' hh Hc σ o w v ws _ I3.len lo rw' eu fun vs q1 q2=>⟨vs,q1,q2,rfl,rfl⟩)) (fun _ sa U=>U.g fun σ2 U=>U.g fun Ha U=>U.g fun Ja U=>U.g fun vs U=>U.g fun rws U=>U.g fun lvs U=>U.g fun e1 e2=>?_) fun _ _ f=>f.elim;subst e1 e2;have at6:At (zx X E) ι' hh Ha (ρ++ws.map some) (σ++vs.map some):=at5.JJ rws;have back:∀{Hb:L2.Hp}{sb:Shared}{acc':List Tw.W}{ys':List V}{hb:Tw.Hp}{ι2:Nat->Addr},Inv (bq X scope s3.heap.objs.size x s3 H3 pins fp) ([]++jI fp s1.heap) (σ++vs.map some) Hb sb->Hb D=some (.lst ys')->fj ι2 hb D->
     HR (zx X E) ι2 hb Hb->Ext ι1 h1 H2 ι2 hb Hb->Keeps ι' hh.length Ha ι2 hb.length Hb->aT X.K ι2 hb.length Hb acc' ys'->au (zx X E) RE ι1 h1 H2 ((wk src (cR un dc de ρ) (i+1) m acc' hb).bind Tw.eL) Q->
     ∃k,k<m+1/\∃i acc ys hh ι' Hc o,Inv (bq X scope s3.heap.objs.size x s3 H3 pins fp) [] (σ++o) Hc sb/\o.length=x.length/\tn i sb.heap/\(∀b∈fp,Hc b=none)/\Hc D=some (.lst ys)/\fj ι' hh D/\
      At (zx X E) ι' hh Hc ρ σ/\Ext ι1 h1 H2 ι' hh Hc/\aT X.K ι' hh.length Hc acc ys/\fX X.K J src ι' hh.length Hc/\cnt src i k/\
      au (zx X E) RE ι1 h1 H2 ((wk src (cR un dc de ρ) i k acc hh).bind Tw.eL) Q:=fun {Hb sb acc' ys' hb ι2} Jb hDb alb rb exb kb rrb pb=>by
    refine⟨m,uo _,i+1,acc',ys',hb,ι2,Hb,vs.map some,Jb.jC,by rw[fQ];exact lvs,T.keep _ _ _ tn2 fun b hb o e=>(Jb.pin (b,o) (fU _ (fU _ (hG hb e)))).1,fun b hb=>?_,hDb,alb,⟨rb,at5.len,fun j u q=>?_⟩,exb,rrb,fd.later kb,hm',pb⟩
    .obtain⟨o,e,d⟩:=T.obj _ _ tn2 b hb;exact (Jb.pin (b,o) (fU _ (fU _ (hG hb e)))).2.1
    .obtain⟨v',q1,q2⟩:=at5.st j u q;exact⟨v',q1,q2.keep kb⟩
   have elem:∀{Hb:L2.Hp}{sb:Shared}{hb:Tw.Hp}{ι2:Nat->Addr},Inv (bq X scope s3.heap.objs.size x s3 H3 pins fp) ([]++jI fp s1.heap) (σ++vs.map some) Hb sb->Ext ι' hh Ha ι2 hb Hb->HR (zx X E) ι2 hb Hb->
     au (zx X E) RE ι1 h1 H2 (((de (ρ++ws.map some) hb).gy.bind fun y h=>(.ok (acc++[y]) h:Tw.R (List Tw.W))).bind fun acc h=>(wk src (cR un dc de ρ) (i+1) m acc h).bind Tw.eL) Q->
     wpAny (model X.prog X.w) X.A (eval elt (compEnvC scope (cF X.env scope.names []) s3.heap.objs.size X.env)) (fun xq s₄=>
      wpAny (model X.prog X.w) X.A (call (.builtin "list.append") [.ref D,xq]) (fun _ s₅=>∃k,k<m+1/\∃i acc ys hh ι' Hc o,Inv (bq X scope s3.heap.objs.size x s3 H3 pins fp) [] (σ++o) Hc s₅/\o.length=x.length/\tn i s₅.heap/\(∀b∈fp,Hc b=none)/\Hc D=some (.lst ys)/\fj ι' hh D/\
      At (zx X E) ι' hh Hc ρ σ/\Ext ι1 h1 H2 ι' hh Hc/\aT X.K ι' hh.length Hc acc ys/\fX X.K J src ι' hh.length Hc/\cnt src i k/\
      au (zx X E) RE ι1 h1 H2 ((wk src (cR un dc de ρ) i k acc hh).bind Tw.eL) Q) (fun _ _=>False) s₄) (fun _ _=>False) sb:=fun {Hb sb hb ι2} Jb eb rb pb=>by
    have atb:At (zx X E) ι2 hb Hb (ρ++ws.map some) (σ++vs.map some):=at6.later eb rb;have pb':=tH pb;refine aG (hel _ _ _ _ _ _ sb _ Hb _ Jb ⟨_,hb,ι2,atb.ex,vb pb'⟩) fun xv s4 U=>U.g fun y U=>U.g fun Hd U=>U.g fun Jd U=>U.g fun ry U=>U.g fun yw U=>U.g fun hd U=>U.g fun ι3 U=>U.g fun ed U=>U.g fun exd U=>U.g fun rd rwd=>?_;have rd:HR (zx X E) ι3 hd Hd:=rd.ex;rw[ed] at pb';have pb':au (zx X E) RE ι1 h1 H2 ((wk src (cR un dc de ρ) (i+1) m (acc++[yw]) hd).bind Tw.eL) Q:=pb';have e3:Ext ι' hh Ha ι3 hd Hd:=eb.trans exd;have hDd:Hd D=some (.lst ys):=e3.fr D _ hDc (fun _ z=>nomatch z) al;have ald:fj ι3 hd D:=al.later e3 (by rw[hDc];exact fun z=>nomatch z);have hlen:acc.length+1<=Tw.SZ:=by
     cases q:wk src (cR un dc de ρ) (i+1) m (acc++[yw]) hd with
     |bad=>rw[q] at pb';exact pb'.elim
     |aI=>exact absurd q HF
     |ok acc' h'=>
      rw[q] at pb';have pb':au (zx X E) RE ι1 h1 H2 (if acc'.length<=Tw.SZ then Tw.new (.lst acc') h' else .bad) Q:=pb';by_cases c:acc'.length<=Tw.SZ
      .have:=Hx zh q;rw[gR,List.length_singleton] at this;omega
      .rw[if_neg c] at pb';exact pb'.elim
    have kd:Keeps ι3 hd.length Hd ι3 hd.length (upd Hd D (.lst (ys++[y]))):=⟨aV _,fun _ _=>rfl,fun b xs e=>by
     rw[aJ (fun z=>by rw[z,hDd] at e;cases e)];exact e⟩
    refine aG (sx (X:=bq X scope s3.heap.objs.size x s3 H3 pins fp) _ s4 _ Hd (.ref D) [y] (.ref D) [xv] (fun _ Hn=>Hn=upd Hd D (.lst (ys++[y]))) Jd rfl (.cons ry .nil) ⟨D,ys,y,rfl,rfl,hDd,?_,rfl⟩) fun _ s5 U=>U.g fun _ U=>U.g fun Hn U=>U.g fun Jn U=>U.g fun _ eHn=>?_
    .rw[<-rr.length,nR];omega
    .subst eHn;have kk:Keeps ι' hh.length Ha ι3 hd.length (upd Hd D (.lst (ys++[y]))):=(e3.keeps at5.hr).trans kd;exact back Jn bP ald (rd.other ald hDd (fun _ z=>nomatch z) fun _ _ z=>nomatch z) ((ex.trans e3).other fresh hDd) kk ((rr.keep kk).append (.cons (rwd.keep kd) .nil)) pb'
   rcases hts with ⟨rfl,hd0⟩|⟨c,d,rfl,hd1,hpt⟩
   .refine wpAny_tests_nil ?_;rw[if_pos rfl];refine elem Ja (Ext.refl _ _ _) at5.hr ?_;rw[hd0] at pp';exact pp'
   .refine wpAny_tests_one ?_;rw[hd1] at pp';have pt:au (zx X E) RE ι1 h1 H2 ((dT d (ρ++ws.map some) hh).gy.bind fun b h=>((match b with
      |true=>(de (ρ++ws.map some) h).gy.bind fun y h=>(.ok (acc++[y]) h:Tw.R (List Tw.W))
      |false=>.ok acc h).bind fun acc h=>(wk src (cR un dc de ρ) (i+1) m acc h).bind Tw.eL)) Q:=by
     cases q:d (ρ++ws.map some) hh with
     |bad=>rw[q] at pp';exact pp'.elim
     |aI=>rw[q] at pp';exact pp'.elim
     |ok u hu=>
      rw[q] at pp';simp only[dT,q,Tw.R.af,Tw.R.dY,Tw.iS] at pp'⊢;cases q2:Tw.truth hu u with
      |none=>rw[q2] at pp';exact pp'.elim
      |some b=>
       rw[q2] at pp';cases b<;>exact pp'
    refine aG (hpt _ _ _ _ _ _ sa _ Ha _ Ja ⟨_,hh,ι',at6.ex,vb pt⟩) fun bb s4 U=>U.g fun Hd U=>U.g fun Jd U=>U.g fun b U=>U.g fun hd U=>U.g fun ι3 U=>U.g fun ed U=>U.g fun exd U=>U.g fun rd eb=>?_;have rd:HR (zx X E) ι3 hd Hd:=rd.ex;rw[ed] at pt;have eb:b=bb:=eb;subst eb;cases b with
    |true=>
     rw[if_pos rfl];exact elem Jd exd rd pt
    |false=>
     rw[if_neg (by decide)];exact back Jd (exd.fr D _ hDc (fun _ z=>nomatch z) al) (al.later exd (by rw[hDc];exact fun z=>nomatch z)) rd (ex.trans exd) (exd.keeps at5.hr) (rr.keep (exd.keeps at5.hr)) pt
 exact codeAny_compStart_list loop (T.self _ 0 _ _ _ st4 loop)
end
section
variable {X:Cx}{E:XK}{elt iter tg:Expr}{x:List Str}{pos:Pos}{g:TG}{un:Tw.W->Option (List Tw.W)}{ifs:List Expr}{scope:Scope}{dit:Tw.Env->Tw.Hp->Tw.R Tw.Src}{dc:Tw.Env->Tw.Hp->Tw.R (Option Tw.W)}{de:Tw.Env->Tw.Hp->Tw.R Tw.W}
def tV(un:Tw.W->Option (List Tw.W))(dit:Tw.Env->Tw.Hp->Tw.R Tw.Src)(dc:Tw.Env->Tw.Hp->Tw.R (Option Tw.W))(de:Tw.Env->Tw.Hp->Tw.R Tw.W):Tw.Env->Tw.Hp->Tw.R Tw.W:=
 fun ρ h=>(dit ρ h).bind fun s h=>(Tw.walk s (cR un dc de ρ) h).bind Tw.eL
theorem wG{use:Option (Value->Sem Unit)}{QQ:ba}(I:Inv X pins σ H s)
  (hc:X.calm=true) (cs:gu X.N X.env.scope x scope) (hpg:∀C s H pins fp,PG (bq X scope C x s H pins fp) tg g) (hbd:ni (zx X E) X.N.length x.length g un) (hi:PI X tg iter (tI (zx X E) dit)) (hs:∀v,foldedSetIterable iter X.env v=pure v)
  (hel:∀C s H pins fp,PE (bq X scope C x s H pins fp) elt (tE (zx X E0) de)) (hts:pJ X scope x ifs dc) (q:tE (zx X E) (tV un dit dc de) σ H Q)
  (hR:∀s3 H3 fp D,Inv X pins σ H3 s3->(∀b∈fp,gm X pins H3 b)->∀s1 Hc σ',Inv (bq X scope s3.heap.objs.size x s3 H3 pins fp) [] σ' Hc s1->Q (.ref D) Hc->compPost (model X.prog X.w) X.A X.xe use QQ (.ref D) s3.heap.objs.size (.ok .next) s1):
  wpAny (model X.prog X.w) X.A (comprehension (.ListComp elt [⟨tg,iter,ifs,0⟩] scope pos) scope X.env (firstIterPos [⟨tg,iter,ifs,0⟩] pos) (newList []) false (eval iter X.env) use) QQ X.xe s:=by
 obtain⟨ρ,h,ι,at',p⟩:=q;refine wpAny_comprehension_free rfl hs (pL (wB I cs)) cs.kind cs.locs (aG (hi pins s σ H (fun J H'=>∃src h1 ι1,At (zx X E) ι1 h1 H' ρ σ/\Ext ι h H ι1 h1 H'/\fX X.K J src ι1 h1.length H'/\au (zx X E) RE ι1 h1 H' ((Tw.walk src (cR un dc de ρ) h1).bind Tw.eL) Q) I ⟨ρ,h,ι,at',?_⟩) fun xv s1 h1=>aG h1 fun it s2 h2=>?_)
 .exact step at' p
 .obtain⟨it',fp,tn,J,H2,rfl,I2,T,tn0,fpo,src,h1',ι1,at1,e1,fd,p1⟩:=h2;have hf:H2 s2.heap.objs.size=none:=I2.aD.fresh (aV _);have I3:Inv X pins σ (upd H2 s2.heap.objs.size (.lst [])) {s2 with heap:=s2.heap.push {cls:=.type "list",data:=.seq #[]},toks:=s2.toks}:=
   I2.laid (fun b u e=>bX _ e) (aV _) ⟨iy _,[],0,.nil,gk _ rfl⟩
  have lt2:∀b∈fp,b<s2.heap.objs.size:=fun b hb=>by
   obtain⟨o,e,_⟩:=T.obj _ _ tn0 b hb;exact bC e
  have f3:∀b∈fp,gm X pins (upd H2 s2.heap.objs.size (.lst [])) b:=fun b hb=>by
   obtain⟨g0,g1⟩:=fpo b hb;exact⟨by rw[aJ (dr (lt2 b hb))];exact g0,g1⟩
  refine jj (wpAny_newFunctionEnv cs.uk (by intro y hy;simp at hy) (fun h₁ hns₁ hsb₁=>?_) cs.kind);dsimp only at hns₁ hsb₁⊢;obtain⟨r3,x3⟩:=at1.hr.grow (o:=.lst []) hf;have al:fj ι1 h1' s2.heap.objs.size:=fun i o ei m z=>by
   obtain⟨u,q,_,_⟩:=at1.hr.there ei m;rw[z,hf] at q;cases q
  rw[jw] at p1;have sz:(s2.heap.push {cls:=.type "list",data:=.seq ([]:List Value).toArray}).objs.size=s2.heap.objs.size+1:=o9 _ _;exact xS (h4:=h₁) hc cs hpg hbd hel hts I3 bP hf x3 (at1.later x3 r3) al (fd.later (x3.keeps at1.hr)) p1 T (T.keep 0 _ _ tn0 fun b _ o e=>bX _ e) f3 (fun b hb=>by
    show b<(s2.heap.push _).objs.size;rw[sz];exact Nat.lt_succ_of_lt (lt2 b hb)) hns₁
   (fun b o e=>hsb₁.extBut b o (dr (bC e)) (bX _ e)) (hR _ _ fp _ I3 f3)
theorem GV(hc:X.calm=true)(cs:gu X.N X.env.scope x scope)(hpg:∀C s H pins fp,PG (bq X scope C x s H pins fp) tg g)(hbd:ni (zx X E) X.N.length x.length g un)(hi:PI X tg iter (tI (zx X E) dit))(hs:∀v,foldedSetIterable iter X.env v=pure v)
  (hel:∀C s H pins fp,PE (bq X scope C x s H pins fp) elt (tE (zx X E0) de)) (hts:pJ X scope x ifs dc):
  PE X (.ListComp elt [⟨tg,iter,ifs,0⟩] scope pos) (tE (zx X E) (tV un dit dc de)):=by
 intro pins s σ H Q I q;rw[eval_ListComp];refine wG (use:=none) I hc cs hpg hbd hi hs hel hts q fun s3 H3 fp D I3 f3 s1 Hc σ' J q=>?_;obtain⟨mm,hns2,_⟩:=J.loc;exact⟨mm,hns2,fun h' hs'=>⟨.ref D,Hc,su I3 f3 J hs',rfl,q⟩⟩
theorem GS(hc:X.calm=true)(cs:gu X.N X.env.scope x scope)(hpg:∀C s H pins fp,PG (bq X scope C x s H pins fp) tg g)(hbd:ni (zx X E) X.N.length x.length g un)(hi:PI X tg iter (tI (zx X E) dit))(hs:∀v,foldedSetIterable iter X.env v=pure v)
  (hel:∀C s H pins fp,PE (bq X scope C x s H pins fp) elt (tE (zx X E0) de)) (hts:pJ X scope x ifs dc) (hN:X.N.Nodup) (hy:X.N[i]?=some y) (hl:X.env.scope.names.lookup y=some .local)
  (hsw:swapsWith (.ListComp elt [⟨tg,iter,ifs,0⟩] scope pos) (some (.Name y py)) spos.line X.env=pure true):
  PS X (.Assign [.Name y py] (.ListComp elt [⟨tg,iter,ifs,0⟩] scope pos) spos) (dq (zx X E) fun ρ h=>(tV un dit dc de ρ h).bind fun w h=>.ok (.next (ρ.set i (some w))) h):=by
 intro pins s σ H D I ⟨ρ,h,ι,at',p⟩;rw[exec_Assign_Name_used _ _ _ _ hsw];refine aj (qh (aj ?_));show wpAny _ _ (do let _ <-comprehension (.ListComp elt [⟨tg,iter,ifs,0⟩] scope pos) scope X.env (firstIterPos [⟨tg,iter,ifs,0⟩] pos) (newList []) false (eval iter X.env) (some (assign (.Name y py) X.env))) _ _ s;refine aj (aG (wG (use:=some (assign (.Name y py) X.env)) (QQ:=fun _ s'=>SP X pins D .next s') (Q:=fun v H1=>D.nx (σ.set i (some v)) H1) I hc cs hpg hbd hi hs hel hts ⟨ρ,h,ι,at',(fZ at' p).mono fun v H1 U=>U.g6 fun w h1 ι1 at1 e1 r1 p1=>p1.next (at1.set r1 i)⟩ fun s3 H3 fp A I3 f3 s1 Hc σ' J q=>?_) fun _ s' hq=>aM (aM hq));have I1:Inv X pins σ Hc s1:=su I3 f3 J (Heap.SameBut.refl _ _);have hC:gm X pins Hc s3.heap.objs.size:=I3.tD (aV _) J.free;obtain⟨mm,⟨o,es,ep,ho,hr⟩,_⟩:=J.loc;have I2:Inv X (pins++jI [s3.heap.objs.size] s1.heap) σ Hc s1:=I1.pinned (fun b hb=>by
   rw[gH] at hb;subst hb;exact hC) fun b hb=>by
  rw[gH] at hb;subst hb;exact⟨o,ho,fun v z=>by rw[hr.1] at z;cases z⟩
 refine aG ((qE (i:=i) (pos:=py) hN hy (.inl hl) (.inr hl):PG X (.Name y py) (iN i)) _ s1 σ Hc (.ref A) (.ref A) (fun σ2 H2=>σ2=σ.set i (some (.ref A))/\H2=Hc) I2 rfl ⟨rfl,rfl⟩) fun _ s2 U=>U.g4 fun σ2 H2 J2 e1 e2=>?_;subst e1 e2;have ho2:s2.heap.get? s3.heap.objs.size=some o:=(J2.pin (_,o) (fU _ (fU _ (hG (gH.mpr rfl) ho)))).1;refine⟨mm,⟨o,es,ep,ho2,hr⟩,fun h' hs'=>?_⟩;have J3:=J2.jC;have nm:∀{b:Addr},b∉ [s3.heap.objs.size]->b≠s3.heap.objs.size:=fun hb z=>hb (gH.mpr z);have hf2:H2 s3.heap.objs.size=none:=hC.1;have u:Un (bp X.stack) [s3.heap.objs.size] H2 H2 s2.heap h':=
  ⟨fun b o e _ _ h2=>hs'.extBut b o (nm h2) e,fun b o e _ _ h2=>⟨o.slots,hs'.extBut b o (nm h2) e⟩,fun b o _ n _=>n,fun b o e h2=>⟨o,hs'.extBut b o (nm h2) e⟩,fun _ _ q=>q,fun _ _ _ q=>q,fun _ ps q=>⟨#[],by rw[q];simp⟩⟩
 have aD:dI X.prog X.w H2 h':=fun b v e=>by
  refine (J3.aD b v e).gd (fun c w hc q=>hs'.extBut c w ?_ q) (fun _ q=>q) fun _ _ q=>q;rcases hc with z|z
  .rw[z];intro z';rw[z',hf2] at e;cases e
  .intro z';rw[z',hf2] at z;cases z
 have fin:=J3.call (h':=h') (g':=s2.gens) (d':=s2.drawn) (t':=s2.toks) (ch:=[s3.heap.objs.size]) u aD J3.bare fun b hb=>by
  rw[gH] at hb;subst hb;exact⟨hC.2.2.2.1,hC.2.1,hC.2.2.2.2.1,hC.2.2.2.2.2⟩
 exact⟨_,_,fin,q⟩
end
abbrev DE:=Tw.Env->Tw.Hp->Tw.R Tw.W
noncomputable def Ak:List (DE×DE)->Tw.Env->Tw.Hp->Tw.R (List Tw.W)
 |[],_,h=>.ok [] h
 |(dk,dv)::r,ρ,h=>(dk ρ h).bind fun x h=>(dv ρ h).bind fun y h=>(Ak r ρ h).bind fun xs h=>.ok (x::y::xs) h
section
variable {K:Zk}
end
def Mi(prs:List (DE×DE)):DE:=fun ρ h=>(Ak prs ρ h).bind fun xs h=>match Tw.sM xs [] with
 |some kvs=>Tw.new (.eV kvs) h
 |none=>.bad
def tk(src:Tw.Src)(t:Tw.Tg)(k:Tw.Env->Tw.Hp->Tw.R Tw.Fl)(i m:Nat)(ρ:Tw.Env)(h:Tw.Hp):Tw.R Tw.Fl:=match src with
 |.fix ws=>Tw.cX t k (ws.drop i) ρ h
 |.at a _=>Tw.dZ a t k m i ρ h
theorem B9(src:Tw.Src)(t:Tw.Tg)(k:Tw.Env->Tw.Hp->Tw.R Tw.Fl)(ρ:Tw.Env)(h:Tw.Hp):Tw.turns src t k ρ h=tk src t k 0 (jN src) ρ h:=by cases src<;>rfl
theorem Em{k:Tw.Env->Tw.Hp->Tw.R Tw.Fl}(hm:cnt src i m):
  tk src t k i m ρ h=.bad\/(nextOf src i h=some none/\tk src t k i m ρ h=.ok (.next ρ) h)\/∃w m',nextOf src i h=some (some w)/\m=m'+1/\tk src t k i m ρ h=Tw.turn t k w ρ h fun ρ h=>tk src t k (i+1) m' ρ h:=by
 cases src with
 |fix ws=>
  have hm:m=ws.length-i:=hm;cases hw:ws[i]? with
  |none=>
   have hl:=xI.mp hw;refine .inr (.inl ⟨by simp[nextOf,hw],?_⟩);show Tw.cX t k (ws.drop i) ρ h=_;rw[List.drop_eq_nil_of_le hl];rfl
  |some w=>
   have hl:=(ib.mp hw).1;refine .inr (.inr ⟨w,ws.length-(i+1),by simp[nextOf,hw],by omega,?_⟩);show Tw.cX t k (ws.drop i) ρ h=_;rw[wt hw];rfl
 | «at» a n=>
  cases e:Tw.dO h a with
  |none=>refine .inl ?_;show Tw.dZ a t k m i ρ h=_;unfold Tw.dZ;rw[e]
  |some ws=>
   cases hw:ws[i]? with
   |none=>refine .inr (.inl ⟨by simp[nextOf,e,hw],?_⟩);show Tw.dZ a t k m i ρ h=_;unfold Tw.dZ;simp only[e,hw]
   |some w=>
    cases m with
    |zero=>refine .inl ?_;show Tw.dZ a t k 0 i ρ h=_;unfold Tw.dZ;simp only[e,hw]
    |succ m=>
     refine .inr (.inr ⟨w,m,by simp[nextOf,e,hw],rfl,?_⟩);show Tw.dZ a t k (m+1) i ρ h=_
     conv=>lhs;unfold Tw.dZ
     simp only[e,hw];rfl
theorem Fy{dit:Tw.Env->Tw.Hp->Tw.R Tw.Src}{tb:Tw.Env->Tw.Hp->Tw.R Tw.Fl}(hp:PassesOwn (model X.prog X.w) X.A X.env X.xe)(hc:X.calm=true)(hi:PI X tg iter (tI (zx X E) dit))(hg:PG X tg g)(ht:Gn (zx X E) t g)
  (hb:eE X body (dq (zx X E) tb)) (hs:∀x,foldedSetIterable iter X.env x=pure x):
  PS X (.For tg iter body [] pos) (dq (zx X E) fun ρ h=>(dit ρ h).bind fun s h=>Tw.turns s t tb ρ h):=by
 refine PS.imp (Hw hp hc hi hg hb hs) fun D σ H ⟨ρ,h,ι,at',p⟩=>⟨ρ,h,ι,at',(fZ at' p).mono fun J H1 ⟨src,h1,ι1,at1,e1,fd,p1⟩=>?_⟩;rw[B9] at p1;refine⟨fun i m σ' H'=>∃ρ h ι,At (zx X E) ι h H' ρ σ'/\fX X.K J src ι h.length H'/\cnt src i m/\bG (zx X E) ι h H' (tk src t tb i m ρ h) D,⟨jN src,ρ,h1,ι1,at1,fd,rR src,p1⟩,?_⟩
 rintro i m σ2 H2 ⟨ρ2,h2,ι2,at2,fd2,hm,p2⟩
 rcases Em (t:=t) (k:=tb) (ρ:=ρ2) (h:=h2) hm with e|⟨e1,e⟩|⟨w,m',e1,rfl,e⟩
 .rw[e] at p2;exact p2.elim
 .rw[e] at p2;rcases ji at2.hr fd2 i with q|⟨st,q⟩|⟨w,q,_⟩
  .rw[e1] at q;cases q
  .exact .inl ⟨st,p2.next at2⟩
  .rw[e1] at q;cases q
 .rw[e,Tw.turn] at p2;rcases ji at2.hr fd2 i with q|⟨st,q⟩|⟨w',q,go,hy⟩
  .rw[e1] at q;cases q
  .rw[e1] at q;cases q
  .rw[e1] at q;cases q;refine .inr ⟨go,fun σ' H'=>∃ρ h ι,At (zx X E) ι h H' ρ σ'/\fX X.K J src ι h.length H'/\cnt src (i+1) m'/\bG (zx X E) ι h H' (tk src t tb (i+1) m' ρ h) D,fun σ' H' q=>⟨m',uo _,q⟩,fun x H' hx=>?_⟩;obtain⟨ry,xy,rv⟩:=hy x H' hx;have aty:=at2.later xy ry;cases es:Tw.rj t w ρ2 with
   |none=>rw[es] at p2;exact p2.elim
   |some ρ3=>
    rw[es] at p2;dsimp only at p2;exact ht ι2 h2 _ ρ2 ρ3 σ2 w x _ aty rv es fun σ3 at3=>⟨ρ3,h2,ι2,at3,se (bG.later p2 xy) fun ρ4 h4 ι4 H4 σ4 e4 at4 p4=>⟨ρ4,h4,ι4,at4,fd2.later ((xy.trans e4).keeps at2.hr),sZ hm,p4⟩⟩
section
variable {X:Cx}{E:XK}{a b:Expr}{p pos p1:Pos}{es:List Expr}{n:Nat}{da db:Tw.Env->Tw.Hp->Tw.R Tw.W}
theorem Kj(hgl:Gl X "reversed")(hm:X.mg "reversed" = none)(ha:PE X a (tE (zx X E) da))(hst:starEach [a] X.env=[(false,eval a X.env)]):
  PI X tg (.Call (.Name "reversed" p) [a] [] pos) (tI (zx X E) fun ρ h=>(da ρ h).bind fun x h=>match x with
   |.tup xs=>.ok (.fix xs.reverse) h
   |_=>.bad):=by
 refine PI.imp (Je hgl hm (bU ha eQ hst) hst) fun σ H R ⟨ρ,h,ι,at',p⟩=>?_;refine⟨ρ,h,ι,at',(step at' p).mono fun x H1 ⟨w,h1,ι1,at1,e1,r1,p1⟩=>?_⟩;cases r1 with
 | @tup ad xs ws ea ra=>
  exact⟨_,xs,rfl,TupAt.sq ea,au.self (a:=Tw.Src.fix ws.reverse) p1 at1.hr (.inr (.inr (.inr ⟨ad,xs,ws,rfl,rfl,ea,ra⟩)))⟩
 |_=>exact p1.elim
end
noncomputable def aC:Expr->Bool
 |.Name .. => true | .Constant .. => true | .Tuple .. => true | .List .. => true | .Dict .. => true | .BinOp .. => true | .Compare .. => true | .BoolOp .. => true
 |.UnaryOp .. => true | .IfExp .. => true | .Subscript .. => true | .Call .. => true | .Attribute .. => true | .ListComp .. => true
 |_=>false
noncomputable def mX:Expr->Bool
 |.ListComp .. => true
 |_=>false
noncomputable def nQ:Expr->Bool
 |.Call (.Name _ _) [] [] _=>false
 |_=>true
noncomputable def CD:Expr->Bool
 |.UnaryOp .Not _ _=>false | .BoolOp .. => false | .IfExp .. => false | .Compare .. => false
 |_=>true
section
variable {a b:Expr}{es:List Expr}{env:Env}
theorem bE(h:aC a=true):starEach (a::es) env=(false,eval a env)::starEach es env:=by cases a<;>first|rfl|cases h
theorem AO(h:aC b=true):qW b:=by cases b<;>first|(intro _ _;rfl)|cases h
theorem oC(o:CmpOp)(h:aC b=true):behindInMarks o b=false:=by cases b<;>first|rfl|cases h
theorem jO(h:aC b=true):∀x,foldedSetIterable b env x=pure x:=by cases b<;>first|(intro _;rfl)|cases h
theorem iM(h:aC a=true)(hn:mX a=false):swapsWith a t l env=pure false:=by cases a<;>first|rfl|exact absurd (show false=true from h) jP|exact absurd (show false=true from hn) jP|exact absurd (show true=false from hn) (by decide)
theorem jn(h:aC a=true)(hn:nQ a=true):attributeBase a m env (eval a env)=eval a env:=by
 cases a with
 |Call f as ks p=>
  cases f with
  |Name x q=>
   cases as with
   |nil=>
    cases ks with
    |nil=>cases hn
    |cons _ _=>rfl
   |cons _ _=>rfl
  |_=>rfl
 |_=>first|rfl|cases h
theorem y9(h:aC a=true)(hn:CD a=true)(whole:Sem Value):isTrue a env whole=(do let v <-whole;standAt a.pos;holding [v] (truthy v)):=by
 cases a with
 |UnaryOp o x p=>
  cases o with
  |Not=>cases hn
  |_=>rfl
 |_=>first|rfl|exact absurd (show false=true from h) jP|exact absurd (show false=true from hn) jP|exact absurd (show true=false from hn) (by decide)
end
noncomputable abbrev Sc:=List (Str×NameKind)
def qF(sc:Sc)(x:Str):Bool:=match sc.lookup x with
 |some .local=>true|some .cell=>true|some .free=>true
 |_=>false
def gT(sc:Sc)(x:Str):Bool:=match sc.lookup x with
 |some .local=>true|some .cell=>true
 |_=>false
def Dv(sc:Sc)(x:Str):Bool:=match sc.lookup x with
 |some .cell=>true|some .free=>true
 |_=>false
def gN(sc:Sc)(x:Str):Bool:=match sc.lookup x with
 |some .globalImplicit=>true
 |_=>false
structure eB(sc:Sc)(N:List Str)(X:Cx):Prop where
 n:X.N=N
 kind:X.env.scope.kind=.function
 m7:∀x,qF sc x=true->oB X.env.scope x
 gl:∀x,gN sc x=true->Gl X x
 cf:∀x,Dv sc x=true->X.env.scope.names.lookup x=some .cell\/X.env.scope.names.lookup x=some .free
theorem lg{scope:Scope}{env:Env}{y:Str}{k:NameKind}:∀{names:List (Str×NameKind)},names.lookup y=some k->
  (names.map fun (n,k)=>if (k== NameKind.free&&env.scope.kind== .function&&env.kindOf n== some .cell) then (n,NameKind.cell) else (n,k)).lookup y=some k\/
  (k=.free/\(names.map fun (n,k)=>if (k== NameKind.free&&env.scope.kind== .function&&env.kindOf n== some .cell) then (n,NameKind.cell) else (n,k)).lookup y=some .cell)
 |[],h=>by simp at h
 |(n,j)::r,h=>by
  rw[eA] at h;by_cases hy:(y== n)=true
  .simp only[hy] at h;cases h;rw[bx];dsimp only;by_cases hc:(k== NameKind.free&&env.scope.kind== .function&&env.kindOf n== some .cell)=true
   .refine .inr ⟨?_,?_⟩
    .simp only[aE,iF] at hc;exact hc.1.1
    .rw[if_pos hc,eA];simp only[hy]
   .refine .inl ?_;rw[if_neg hc,eA];simp only[hy]
  .rw[wd] at hy;simp only[hy] at h;rw[bx];dsimp only;have ih:=lg (scope:=scope) (env:=env) h;by_cases hc:(j== NameKind.free&&env.scope.kind== .function&&env.kindOf n== some .cell)=true
   .rw[if_pos hc,eA];simp only[hy];exact ih
   .rw[if_neg hc,eA];simp only[hy];exact ih
theorem jJ{scope:Scope}{env:Env}{y:Str}{k:NameKind}(h:scope.names.lookup y=some k):(relabel scope env).names.lookup y=some k\/(k=.free/\(relabel scope env).names.lookup y=some .cell):=
 lg (scope:=scope) h
theorem eB.comp(hk:scope.kind=.function):
  eB scope.names (c5 X.N x) (bq X scope C x s H pins fp) where
 n:=rfl
 kind:=hk
 m7:=fun y hy=>by
  show oB (relabel scope X.env) y;unfold qF at hy;cases e:scope.names.lookup y with
  |none=>rw[e] at hy;cases hy
  |some k=>
   rcases jJ (env:=X.env) e with q|⟨_,q⟩
   .rw[e] at hy;cases k with
    | «local» => exact .inl q
    |cell=>exact .inr (.inl q)
    |free=>exact .inr (.inr q)
    |_=>cases hy
   .exact .inr (.inl q)
 gl:=fun y hy=>by
  show (relabel scope X.env).names.lookup y=some .globalImplicit;unfold gN at hy;cases e:scope.names.lookup y with
  |none=>rw[e] at hy;cases hy
  |some k=>
   rw[e] at hy;cases k with
   |globalImplicit=>
    rcases jJ (env:=X.env) e with q|⟨q,_⟩
    .exact q
    .cases q
   |_=>cases hy
 cf:=fun y hy=>by
  show (relabel scope X.env).names.lookup y=some .cell\/(relabel scope X.env).names.lookup y=some .free;unfold Dv at hy;cases e:scope.names.lookup y with
  |none=>rw[e] at hy;cases hy
  |some k=>
   rw[e] at hy;rcases jJ (env:=X.env) e with q|⟨_,q⟩
   .cases k with
    |cell=>exact .inl q
    |free=>exact .inr q
    |_=>cases hy
   .exact .inl q
noncomputable def wX(N:List Str)(sc:Sc)(x:List Str)(scope:Scope):Bool:=
 decide (scope.kind=.function)&&scope.names.all (fun y=>(match y.2 with
  |.cell=>false
  |.local=>(match scope.names.lookup y.1 with|some .local=>true|_=>false)&&(x.contains y.1 || !(N.contains y.1))
  |.free=>Dv sc y.1
  |_=>true)&&!(y.1== ("" : Str)))&&x.all (fun y=>match scope.names.lookup y with|some .local=>true|_=>false)
theorem yU(S:eB sc N X)(h:wX N sc x scope=true):gu X.N X.env.scope x scope:=by
 unfold wX at h;simp only[aE,aQ,jD] at h;obtain⟨⟨h1,h2⟩,h3⟩:=h;have ki:∀y∈x,scope.names.lookup y=some .local:=fun y hy=>by
  have h3:=h3 y hy;cases e:scope.names.lookup y with
  |none=>rw[e] at h3;cases h3
  |some k=>rw[e] at h3;cases k<;>first|rfl|cases h3
 refine⟨h1,S.kind,fun y hy z=>?_,fun y hy z=>?_,ki,fun y k e z hN=>?_,fun y hy z=>?_,?_⟩
 .obtain⟨q,_⟩:=h2 y hy;rw[z] at q;cases q
 .obtain⟨q,_⟩:=h2 y hy;rw[z] at q;simp only[aE] at q;cases e:scope.names.lookup y.1 with
  |none=>rw[e] at q;cases q.1
  |some k=>rw[e] at q;cases k<;>first|rfl|cases q.1
 .subst z;obtain⟨q,_⟩:=h2 (y,.local) (hZ e);simp only[aE,zg,ku] at q;rcases q.2 with q|q
  .rw[xQ] at q;simpa using q
  .rw[S.n] at hN;rw[xQ] at q;exact absurd hN (by simpa using q)
 .obtain⟨q,_⟩:=h2 y hy;rw[z] at q;exact S.cf _ q
 .cases e:scope.names.lookup ("" : Str) with
  |none=>rfl
  |some k=>
   obtain⟨_,q⟩:=h2 ("",k) (hZ e);simp at q
theorem str_inj{x y:Tw.S}:((⟨x.toArray⟩:Str)=⟨y.toArray⟩)↔x=y:=by
 constructor
 .intro h;have:=c9 (fun s:Str=>s.cps.toList) h;simpa using this
 .intro h;rw[h]
section
variable {K:W.Frag}{ι:Nat->Addr}{n:Nat}{H:L2.Hp}
theorem str_beq(x y:Tw.S):((⟨x.toArray⟩:Str)== ⟨y.toArray⟩)=(x== y):=by
 by_cases h:x=y
 .subst h;simp
 .rw[jZ.mpr h];exact jZ.mpr fun z=>h (str_inj.mp z)
theorem RF.look:∀{fs:List (Tw.S×Tw.W)}{gs:List (Str×V)},RF K ι n H fs gs->(fs.lookup x=none/\gs.lookup ⟨x.toArray⟩=none)\/∃w v,fs.lookup x=some w/\gs.lookup ⟨x.toArray⟩=some v/\RW K ι n H w v
 |_,_,.nil=>.inl ⟨rfl,rfl⟩
 |_,_,.cons (x:=y) (w:=w) (v:=v) a r=>by
  rw[eA,eA,str_beq];cases e:x== y with
  |true=>exact .inr ⟨w,v,rfl,rfl,a⟩
  |false=>exact RF.look r
theorem RF.put(a:RW K ι n H w v):∀{fs:List (Tw.S×Tw.W)}{gs:List (Str×V)},RF K ι n H fs gs->RF K ι n H (Tw.lT x w fs) (fe ⟨x.toArray⟩ v gs)
 |_,_,.nil=>.cons a .nil
 |_,_,.cons (x:=y) b r=>by
  unfold Tw.lT L2.fe;by_cases e:y=x
  .subst e;rw[if_pos rfl,if_pos rfl];exact .cons a r
  .rw[if_neg e,if_neg (fun z=>e (str_inj.mp z))];exact .cons b (RF.put a r)
end
theorem jE:∀{ys:List Expr},ys.all aC=true->starEach ys env=ys.map fun y=>(false,eval y env)
 |[],_=>rfl
 |y::r,h=>by
  rw[lD,aE] at h;rw[bE h.1,jE h.2,bx]
section
variable {X:Cx}{E:XK}{a b c o e f:Expr}{pos apos cpos pos':Pos}{da db dc dv:Tw.Env->Tw.Hp->Tw.R Tw.W}
theorem HR.ins{K:Zk}{ι:Nat->Addr}{h:Tw.Hp}{H:L2.Hp}(r:HR K ι h H){i:Nat}{c:Tw.S}{fs:List (Tw.S×Tw.W)}(e:h[i]?=some (.ins c fs)):
  ∃C dx gs,(K.mg ⟨c.toArray⟩=some (.ref C)/\GoodC K.K C)/\H (ι i)=some (.ins C dx gs)/\RF K.K ι h.length H fs gs:=r.obj i _ e
theorem Jx{x:Tw.S}(hx:(⟨x.toArray⟩:Str)∈vU)(hb:attributeBase a ⟨x.toArray⟩ X.env (eval a X.env)=eval a X.env)(ha:PE X a (tE (zx X E) da)):
  PE X (.Attribute a ⟨x.toArray⟩ pos) (tE (zx X E) fun ρ h=>(da ρ h).bind fun w h=>Tw.R.of (Tw.field w x h) h):=by
 refine PE.imp (GN ha hb) fun σ H Q U=>U.g fun ρ U=>U.g fun h U=>U.g fun ι U=>U.g fun at' p=>⟨ρ,h,ι,at',(step at' p).mono fun v H1 U=>U.g fun w U=>U.g fun h1 U=>U.g fun ι1 U=>U.g fun at1 U=>U.g fun e1 U=>U.g fun r1 p1=>?_⟩;cases r1 with
 | @ref i hi=>
  cases ei:h1[i]? with
  |none=>simp only[Tw.field,ei] at p1;exact p1.elim
  |some ob=>
   cases ob with
   |ins c fs=>
    simp only[Tw.field,ei] at p1;obtain⟨C,dx,gs,⟨_,gc⟩,q1,q2⟩:=at1.hr.ins ei;rcases q2.look (x:=x) with ⟨z,_⟩|⟨u,v,z1,z2,z3⟩
    .rw[z] at p1;exact p1.elim
    .rw[z1] at p1;exact⟨_,C,dx,gs,v,rfl,q1,gc.cls,gc.no _ hx,z2,au.self (a:=u) p1 at1.hr z3⟩
   |_=>simp only[Tw.field,ei] at p1;exact p1.elim
 |_=>exact p1.elim
theorem Gr{x:Tw.S}(hx:(⟨x.toArray⟩:Str)∈vU)(hv:PE X b (tE (zx X E) dv))(ho:PE X o (tE (zx X E) da))(hs:swapsWith b (some (.Attribute o ⟨x.toArray⟩ pos')) pos.line X.env=pure false):
  PS X (.Assign [.Attribute o ⟨x.toArray⟩ pos'] b pos) (dq (zx X E) fun ρ h=>(dv ρ h).bind fun v h=>(da ρ h).bind fun w h=>(Tw.putField w x v h).bind fun _ h=>.ok (.next ρ) h):=by
 refine PS.imp (FC ho hv hs) fun D σ H U=>U.g fun ρ U=>U.g fun h U=>U.g fun ι U=>U.g fun at' p=>⟨ρ,h,ι,at',(fZ at' p).mono fun y H1 U=>U.g fun wy U=>U.g fun h1 U=>U.g fun ι1 U=>U.g fun at1 U=>U.g fun e1 U=>U.g fun r1 p1=>⟨ρ,h1,ι1,at1,(fZ at1 p1).mono fun z H2 U=>U.g fun w U=>U.g fun h2 U=>U.g fun ι2 U=>U.g fun at2 U=>U.g fun e2 U=>U.g fun r2 p2=>?_⟩⟩;cases r2 with
 | @ref i hi=>
  cases ei:h2[i]? with
  |none=>simp only[Tw.putField,ei] at p2;exact p2.elim
  |some ob=>
   cases ob with
   |ins c fs=>
    simp only[Tw.putField,ei] at p2;obtain⟨C,dx,gs,⟨mc,gc⟩,q1,q2⟩:=at2.hr.ins ei;by_cases cc:fs.length<1000
    .rw[if_pos cc] at p2;refine⟨_,C,dx,gs,rfl,q1,gc.cls,gc.no _ hx,by rw[<-q2.length];exact cc,?_⟩;have ry:=r1.keep (e2.keeps at1.hr);obtain⟨hr',ex⟩:=at2.hr.put (o:=.ins C dx (fe ⟨x.toArray⟩ y gs)) (u:=.ins c (Tw.lT x wy fs)) ei rfl rfl (fun _ z=>nomatch z) fun H' kp z=>⟨C,dx,_,⟨mc,gc⟩,z,((q2.keep kp).put (ry.keep kp))⟩;exact p2 ι2 _ σ ex (at2.later ex hr')
    .rw[if_neg cc] at p2;exact p2.elim
   |_=>simp only[Tw.putField,ei] at p2;exact p2.elim
 |_=>exact p2.elim
theorem vV{F:List Tw.W->Tw.Hp->Tw.R Tw.W}(hm:X.mg ⟨cn.toArray⟩=some (.ref C))(gc:GoodC X.K C){ι1:Nat->Addr}(r:HR (zx X E) ι1 h1 H1)(rs:aT X.K ι1 h1.length H1 ws vs)
  (p:au (zx X E) RE ι1 h1 H1 ((F (.ref h1.length::ws) (h1++[.ins cn []])).bind fun r h'=>match r with
   |.aw=>.ok (.ref h1.length) h'
   |_=>.bad) Q) (x dx:Addr) (hx:H1 x=none) (hdx:H1 dx=none) (ne:dx≠x):
  eJ X.K X.mg X.cl F (.ref x::(vs++[])) (upd (upd H1 dx (.own x)) x (.ins C dx [])) (fun v H2=>v=.aw/\Q (.ref x) H2) E:=by
 obtain⟨r2,x2⟩:=r.grow (o:=.own x) hdx;have hx2:upd H1 dx (.own x) x=none:=by rw[aJ ne.symm];exact hx
 obtain⟨r3,x3⟩:=r2.new (o:=.ins C dx []) (u:=.ins cn []) hx2 rfl fun ι' n' H' kp z=>⟨C,dx,[],⟨hm,gc⟩,z,.nil⟩;have x23:=x2.trans x3;have p':=au.later p x23;refine⟨.ref h1.length::ws,_,_,r3,.cons ?_ (by rw[gI];exact rs.keep (x23.keeps r)),?_⟩
 .have z:RW X.K (c4 ι1 h1.length x) (h1++[Tw.O.ins cn []]).length (upd (upd H1 dx (.own x)) x (.ins C dx [])) (.ref h1.length) (.ref (c4 ι1 h1.length x h1.length)):=.ref (by simp);rw[cg] at z;exact z
 .cases e:F (.ref h1.length::ws) (h1++[.ins cn []]) with
  |bad=>rw[e] at p';exact p'.elim
  |aI a h'=>rw[e] at p';exact p'
  |ok u h2=>
   rw[e] at p';simp only[Tw.R.af] at p';cases u with
   |aw=>
    intro ι4 H4 b e4 r4 rb;cases rb;refine⟨rfl,?_⟩;have hl:h1.length<(h1++[Tw.O.ins cn []]).length:=by simp
    have z:RW X.K ι4 h2.length H4 (.ref h1.length) (.ref (ι4 h1.length)):=.ref (cH hl e4.len);rw[e4.same _ hl,cg] at z;exact p' ι4 H4 _ e4 r4 z
   |_=>exact p'.elim
theorem MN{F:List Tw.W->Tw.Hp->Tw.R Tw.W}{ds:Tw.Env->Tw.Hp->Tw.R (List Tw.W)}(M:Mk X.K C g)(gc:GoodC X.K C)
  (G:cD X.prog X.w X.K X.mg X.base CX k g fd ps (eJ X.K X.mg X.cl F)) (hx:Passes CX X E) (hr:cz (k+1) X.A) (hg:Gl X ⟨cn.toArray⟩) (hm:X.mg ⟨cn.toArray⟩=some (.ref C)) (hb:Binds X.K fd ps [])
  (hs:PA X es (tA (zx X E) n ds)) (hd:((⟨cn.toArray⟩:Str)== ("__debug__" : Str))=false) (hpl:es.all aC=true):
  PE X (.Call (.Name ⟨cn.toArray⟩ p) es [] pos) (tE (zx X E) fun ρ h=>(ds ρ h).bind fun xs h=>(F (.ref h.length::xs) (h++[.ins cn []])).bind fun r h'=>match r with
   |.aw=>.ok (.ref h.length) h'
   |_=>.bad):=by
 cases es with
 |nil=>
  intro pins s σ H Q I ⟨ρ,h,ι,at',p⟩;have z:=hs ⟨0,0,0,0⟩ pins s σ H (fun vs H1=>∀x dx,H1 x=none->H1 dx=none->dx≠x->eJ X.K X.mg X.cl F (.ref x::(vs++[])) (upd (upd H1 dx (.own x)) x (.ins C dx [])) (fun v H2=>v=.aw/\Q (.ref x) H2) E) I
   ⟨ρ,h,ι,at',(step at' p).mono fun xs H1 ⟨ws,h1,ι1,at1,e1,r1,p1⟩ x dx q1 q2 q3=>vV hm gc at1.hr r1.1 p1 x dx q1 q2 q3⟩
  refine jX (fY I hg hm ?_ hd);refine W.callWith_K0 I.dP M.kp ?_;have z:wpAny (model X.prog X.w) X.A (pure []) _ _ s:=z;refine yQ (v:=[]) z fun U=>U.g fun vs U=>U.g fun H1 U=>U.g fun I1 U=>U.g fun r1 q=>?_;cases r1;exact uQ (us:=[]) M G hr hb .nil hx I1 .nil q
 |cons e es=>
  refine PE.imp (ER (dvs:=[]) (ds:=[]) (E:=E) M G hr hg hm hb .nil hx hs hd (bE (by rw[lD,aE] at hpl;exact hpl.1)) ?_) fun σ H Q U=>U.g fun ρ U=>U.g fun h U=>U.g fun ι U=>U.g fun at' p=>⟨ρ,h,ι,at',(step at' p).mono fun xs H1 ⟨ws,h1,ι1,at1,e1,r1,p1⟩ x dx q1 q2 q3=>vV hm gc at1.hr r1.1 p1 x dx q1 q2 q3⟩;rw[jE (by rw[lD,aE] at hpl;exact hpl.2)];simp[backTo]
end
noncomputable abbrev ay{α:Type}{p:α->Bool}{x:Option α}(e:x.any p=true):∃a,x=some a/\p a=true:=W.any_some e
theorem bT{α:Type}{l:List α}(h:l.isEmpty=true):l=[]:=yi.mp h
theorem p7{α:Type}{l:List α}(h:l.isEmpty=false):∃x r,l=x::r:=by
 cases l with
 |nil=>cases h
 |cons x r=>exact⟨x,r,rfl⟩
theorem dv{c:Prop}[Decidable c]{α:Type}{f:c->Option α}{r:α}(h:(if h:c then f h else none)=some r):∃hc,f hc=some r:=by
 by_cases hc:c
 .rw[dif_pos hc] at h;exact⟨hc,h⟩
 .rw[dif_neg hc] at h;cases h
noncomputable def wx(e:Expr)(h:e.ctorIdx=23):Option (Str):=Expr.Name.elim (motive_1:=fun _=>Option (Str)) e h fun x p=>some x
def bB(e:Expr):Option (Str):=if h:e.ctorIdx=23 then wx e h else none
theorem br{e:Expr}{r:Str}(h:bB e=some r):∃p,e=.Name r p:=
 let ⟨c,h⟩:=dv h
 Expr.Name.elim (motive_1:=fun e=>∀c,wx e c=some r->∃p,e=.Name r p) e c (fun x p _ h=>by cases h;exact⟨p,rfl⟩) c h
noncomputable def tK(e:Expr)(h:e.ctorIdx=19):Option (Const):=Expr.Constant.elim (motive_1:=fun _=>Option (Const)) e h fun x k p=>some x
def q9(e:Expr):Option (Const):=if h:e.ctorIdx=19 then tK e h else none
theorem oI{e:Expr}{r:Const}(h:q9 e=some r):∃k p,e=.Constant r k p:=
 let ⟨c,h⟩:=dv h
 Expr.Constant.elim (motive_1:=fun e=>∀c,tK e c=some r->∃k p,e=.Constant r k p) e c (fun x k p _ h=>by cases h;exact⟨k,p,rfl⟩) c h
noncomputable def yO(e:Expr)(h:e.ctorIdx=25):Option (List Expr):=Expr.Tuple.elim (motive_1:=fun _=>Option (List Expr)) e h fun x k p=>some x
def nM(e:Expr):Option (List Expr):=if h:e.ctorIdx=25 then yO e h else none
theorem mF{e:Expr}{r:List Expr}(h:nM e=some r):∃k p,e=.Tuple r k p:=
 let ⟨c,h⟩:=dv h
 Expr.Tuple.elim (motive_1:=fun e=>∀c,yO e c=some r->∃k p,e=.Tuple r k p) e c (fun x k p _ h=>by cases h;exact⟨k,p,rfl⟩) c h
noncomputable def yS(e:Expr)(h:e.ctorIdx=24):Option (List Expr):=Expr.List.elim (motive_1:=fun _=>Option (List Expr)) e h fun x p=>some x
def C8(e:Expr):Option (List Expr):=if h:e.ctorIdx=24 then yS e h else none
theorem yW{e:Expr}{r:List Expr}(h:C8 e=some r):∃p,e=.List r p:=
 let ⟨c,h⟩:=dv h
 Expr.List.elim (motive_1:=fun e=>∀c,yS e c=some r->∃p,e=.List r p) e c (fun x p _ h=>by cases h;exact⟨p,rfl⟩) c h
noncomputable def wR(e:Expr)(h:e.ctorIdx=6):Option (List (Option Expr)×List Expr):=Expr.Dict.elim (motive_1:=fun _=>Option (List (Option Expr)×List Expr)) e h fun ks vs p=>some (ks,vs)
def y4(e:Expr):Option (List (Option Expr)×List Expr):=if h:e.ctorIdx=6 then wR e h else none
theorem xh{e:Expr}{r:List (Option Expr)×List Expr}(h:y4 e=some r):∃p,e=.Dict r.1 r.2 p:=
 let ⟨c,h⟩:=dv h
 Expr.Dict.elim (motive_1:=fun e=>∀c,wR e c=some r->∃p,e=.Dict r.1 r.2 p) e c (fun ks vs p _ h=>by cases h;exact⟨p,rfl⟩) c h
noncomputable def Ai(e:Expr)(h:e.ctorIdx=2):Option (Expr×Operator×Expr):=Expr.BinOp.elim (motive_1:=fun _=>Option (Expr×Operator×Expr)) e h fun x o y p=>some (x,o,y)
def Dd(e:Expr):Option (Expr×Operator×Expr):=if h:e.ctorIdx=2 then Ai e h else none
theorem Ah{e:Expr}{r:Expr×Operator×Expr}(h:Dd e=some r):∃p,e=.BinOp r.1 r.2.1 r.2.2 p:=
 let ⟨c,h⟩:=dv h
 Expr.BinOp.elim (motive_1:=fun e=>∀c,Ai e c=some r->∃p,e=.BinOp r.1 r.2.1 r.2.2 p) e c (fun x o y p _ h=>by cases h;exact⟨p,rfl⟩) c h
noncomputable def Au(e:Expr)(h:e.ctorIdx=15):Option (Expr×List CmpOp×List Expr):=Expr.Compare.elim (motive_1:=fun _=>Option (Expr×List CmpOp×List Expr)) e h fun x os ys p=>some (x,os,ys)
def yh(e:Expr):Option (Expr×List CmpOp×List Expr):=if h:e.ctorIdx=15 then Au e h else none
theorem rA{e:Expr}{r:Expr×List CmpOp×List Expr}(h:yh e=some r):∃p,e=.Compare r.1 r.2.1 r.2.2 p:=
 let ⟨c,h⟩:=dv h
 Expr.Compare.elim (motive_1:=fun e=>∀c,Au e c=some r->∃p,e=.Compare r.1 r.2.1 r.2.2 p) e c (fun x os ys p _ h=>by cases h;exact⟨p,rfl⟩) c h
noncomputable def wH(e:Expr)(h:e.ctorIdx=0):Option (BoolOp×List Expr×Pos):=Expr.BoolOp.elim (motive_1:=fun _=>Option (BoolOp×List Expr×Pos)) e h fun o xs p=>some (o,xs,p)
def uM(e:Expr):Option (BoolOp×List Expr×Pos):=if h:e.ctorIdx=0 then wH e h else none
theorem p5{e:Expr}{r:BoolOp×List Expr×Pos}(h:uM e=some r):e=.BoolOp r.1 r.2.1 r.2.2:=
 let ⟨c,h⟩:=dv h
 Expr.BoolOp.elim (motive_1:=fun e=>∀c,wH e c=some r->e=.BoolOp r.1 r.2.1 r.2.2) e c (fun o xs p _ h=>by cases h;exact rfl) c h
noncomputable def C2(e:Expr)(h:e.ctorIdx=3):Option (UnaryOp×Expr):=Expr.UnaryOp.elim (motive_1:=fun _=>Option (UnaryOp×Expr)) e h fun o x p=>some (o,x)
def Gx(e:Expr):Option (UnaryOp×Expr):=if h:e.ctorIdx=3 then C2 e h else none
theorem B0{e:Expr}{r:UnaryOp×Expr}(h:Gx e=some r):∃p,e=.UnaryOp r.1 r.2 p:=
 let ⟨c,h⟩:=dv h
 Expr.UnaryOp.elim (motive_1:=fun e=>∀c,C2 e c=some r->∃p,e=.UnaryOp r.1 r.2 p) e c (fun o x p _ h=>by cases h;exact⟨p,rfl⟩) c h
noncomputable def C5(e:Expr)(h:e.ctorIdx=5):Option (Expr×Expr×Expr):=Expr.IfExp.elim (motive_1:=fun _=>Option (Expr×Expr×Expr)) e h fun z x y p=>some (z,x,y)
def Ft(e:Expr):Option (Expr×Expr×Expr):=if h:e.ctorIdx=5 then C5 e h else none
theorem Bm{e:Expr}{r:Expr×Expr×Expr}(h:Ft e=some r):∃p,e=.IfExp r.1 r.2.1 r.2.2 p:=
 let ⟨c,h⟩:=dv h
 Expr.IfExp.elim (motive_1:=fun e=>∀c,C5 e c=some r->∃p,e=.IfExp r.1 r.2.1 r.2.2 p) e c (fun z x y p _ h=>by cases h;exact⟨p,rfl⟩) c h
noncomputable def yY(e:Expr)(h:e.ctorIdx=21):Option (Expr×Expr):=Expr.Subscript.elim (motive_1:=fun _=>Option (Expr×Expr)) e h fun x y p=>some (x,y)
def qu(e:Expr):Option (Expr×Expr):=if h:e.ctorIdx=21 then yY e h else none
theorem nu{e:Expr}{r:Expr×Expr}(h:qu e=some r):∃p,e=.Subscript r.1 r.2 p:=
 let ⟨c,h⟩:=dv h
 Expr.Subscript.elim (motive_1:=fun e=>∀c,yY e c=some r->∃p,e=.Subscript r.1 r.2 p) e c (fun x y p _ h=>by cases h;exact⟨p,rfl⟩) c h
noncomputable def zZ(e:Expr)(h:e.ctorIdx=26):Option (Option Expr×Option Expr×Option Expr):=Expr.Slice.elim (motive_1:=fun _=>Option (Option Expr×Option Expr×Option Expr)) e h fun l u s p=>some (l,u,s)
def Cu(e:Expr):Option (Option Expr×Option Expr×Option Expr):=if h:e.ctorIdx=26 then zZ e h else none
theorem zy{e:Expr}{r:Option Expr×Option Expr×Option Expr}(h:Cu e=some r):∃p,e=.Slice r.1 r.2.1 r.2.2 p:=
 let ⟨c,h⟩:=dv h
 Expr.Slice.elim (motive_1:=fun e=>∀c,zZ e c=some r->∃p,e=.Slice r.1 r.2.1 r.2.2 p) e c (fun l u s p _ h=>by cases h;exact⟨p,rfl⟩) c h
noncomputable def wm(e:Expr)(h:e.ctorIdx=16):Option (Expr×List Expr×List Keyword×Pos):=Expr.Call.elim (motive_1:=fun _=>Option (Expr×List Expr×List Keyword×Pos)) e h fun f as ks p=>some (f,as,ks,p)
def tQ(e:Expr):Option (Expr×List Expr×List Keyword×Pos):=if h:e.ctorIdx=16 then wm e h else none
theorem pS{e:Expr}{r:Expr×List Expr×List Keyword×Pos}(h:tQ e=some r):e=.Call r.1 r.2.1 r.2.2.1 r.2.2.2:=
 let ⟨c,h⟩:=dv h
 Expr.Call.elim (motive_1:=fun e=>∀c,wm e c=some r->e=.Call r.1 r.2.1 r.2.2.1 r.2.2.2) e c (fun f as ks p _ h=>by cases h;exact rfl) c h
noncomputable def wL(e:Expr)(h:e.ctorIdx=20):Option (Expr×Str×Pos):=Expr.Attribute.elim (motive_1:=fun _=>Option (Expr×Str×Pos)) e h fun v x p=>some (v,x,p)
def nJ(e:Expr):Option (Expr×Str×Pos):=if h:e.ctorIdx=20 then wL e h else none
theorem lq{e:Expr}{r:Expr×Str×Pos}(h:nJ e=some r):e=.Attribute r.1 r.2.1 r.2.2:=
 let ⟨c,h⟩:=dv h
 Expr.Attribute.elim (motive_1:=fun e=>∀c,wL e c=some r->e=.Attribute r.1 r.2.1 r.2.2) e c (fun v x p _ h=>by cases h;exact rfl) c h
noncomputable def wA(e:Expr)(h:e.ctorIdx=8):Option (Expr×List Comprehension×Scope×Pos):=Expr.ListComp.elim (motive_1:=fun _=>Option (Expr×List Comprehension×Scope×Pos)) e h fun y g scope p=>some (y,g,scope,p)
def uX(e:Expr):Option (Expr×List Comprehension×Scope×Pos):=if h:e.ctorIdx=8 then wA e h else none
theorem pN{e:Expr}{r:Expr×List Comprehension×Scope×Pos}(h:uX e=some r):e=.ListComp r.1 r.2.1 r.2.2.1 r.2.2.2:=
 let ⟨c,h⟩:=dv h
 Expr.ListComp.elim (motive_1:=fun e=>∀c,wA e c=some r->e=.ListComp r.1 r.2.1 r.2.2.1 r.2.2.2) e c (fun y g scope p _ h=>by cases h;exact rfl) c h
noncomputable def sJ:BoolOp->Bool
 |.And=>true
 |.Or=>false
noncomputable def CI:UnaryOp->Bool
 |.Not=>true
 |_=>false
theorem z6{o:UnaryOp}(h:CI o=true):o=.Not:=by cases o<;>first|rfl|cases h
def gY{α:Type}:List α->Option α
 |[x]=>some x
 |_=>none
theorem ez{α:Type}{l:List α}{x:α}(h:gY l=some x):l=[x]:=by rcases l with _|⟨a,_|⟨b,r⟩⟩<;>first|(cases h;rfl)|cases h
def oO{α:Type}:List α->Option (α×α)
 |[x,y]=>some (x,y)
 |_=>none
theorem lh{α:Type}{l:List α}{r:α×α}(h:oO l=some r):l=[r.1,r.2]:=by rcases l with _|⟨a,_|⟨b,_|⟨c,q⟩⟩⟩<;>first|(cases h;rfl)|cases h
def ml{α:Type}:List α->Option (α×List α)
 |x::r=>some (x,r)
 |[]=>none
theorem eO{α:Type}{l:List α}{r:α×List α}(h:ml l=some r):l=r.1::r.2:=by cases l<;>first|(cases h;rfl)|cases h
def gD(e:Expr):Option (Str×List Expr):=(tQ e).bind fun r=>if r.2.2.1.isEmpty then (bB r.1).map fun x=>(x,r.2.1) else none
theorem dj{e:Expr}{r:Str×List Expr}(h:gD e=some r):∃p q,e=.Call (.Name r.1 p) r.2 [] q:=by
 obtain⟨⟨f,as,ks,q⟩,e1,e2⟩:=ir.mp h;have z:=pS e1;dsimp only at e2 z;cases ks with
 |cons _ _=>cases e2
 |nil=>
  obtain⟨x,e3,rfl⟩:=kN.mp e2;obtain⟨p,rfl⟩:=br e3;exact⟨p,q,z⟩
def Ga(e:Expr):Option (Expr×Str×Pos×List Expr×Pos):=(tQ e).bind fun r=>if r.2.2.1.isEmpty then (nJ r.1).map fun a=>(a.1,a.2.1,a.2.2,r.2.1,r.2.2.2) else none
theorem Ba{e:Expr}{r:Expr×Str×Pos×List Expr×Pos}(h:Ga e=some r):e=.Call (.Attribute r.1 r.2.1 r.2.2.1) r.2.2.2.1 [] r.2.2.2.2:=by
 obtain⟨⟨f,as,ks,q⟩,e1,e2⟩:=ir.mp h;have z:=pS e1;dsimp only at e2 z;cases ks with
 |cons _ _=>cases e2
 |nil=>
  obtain⟨a,e3,rfl⟩:=kN.mp e2;rw[lq e3] at z;exact z
noncomputable def yH(g:List Comprehension):Option (Expr×Expr×List Expr):=(gY g).bind fun c=>match c with
 |⟨t,it,ifs,n⟩=>if n=0 then some (t,it,ifs) else none
theorem si{g:List Comprehension}{r:Expr×Expr×List Expr}(h:yH g=some r):g=[⟨r.1,r.2.1,r.2.2,0⟩]:=by
 obtain⟨⟨t,it,ifs,n⟩,e1,e2⟩:=ir.mp h;rw[ez e1];dsimp only at e2;by_cases c:n=0
 .rw[if_pos c] at e2;cases e2;rw[c]
 .rw[if_neg c] at e2;cases e2
noncomputable def yP(e:Stmt)(h:e.ctorIdx=24):Option (Expr):=Stmt.Expr.elim (motive_2:=fun _=>Option (Expr)) e h fun x p=>some x
def C7(e:Stmt):Option (Expr):=if h:e.ctorIdx=24 then yP e h else none
theorem Aw{e:Stmt}{r:Expr}(h:C7 e=some r):∃p,e=.Expr r p:=
 let ⟨c,h⟩:=dv h
 Stmt.Expr.elim (motive_2:=fun e=>∀c,yP e c=some r->∃p,e=.Expr r p) e c (fun x p _ h=>by cases h;exact⟨p,rfl⟩) c h
noncomputable def C9(e:Stmt)(h:e.ctorIdx=3):Option (Option Expr):=Stmt.Return.elim (motive_2:=fun _=>Option (Option Expr)) e h fun x p=>some x
def pB(e:Stmt):Option (Option Expr):=if h:e.ctorIdx=3 then C9 e h else none
theorem lu{e:Stmt}{r:Option Expr}(h:pB e=some r):∃p,e=.Return r p:=
 let ⟨c,h⟩:=dv h
 Stmt.Return.elim (motive_2:=fun e=>∀c,C9 e c=some r->∃p,e=.Return r p) e c (fun x p _ h=>by cases h;exact⟨p,rfl⟩) c h
noncomputable def Dw(e:Stmt)(h:e.ctorIdx=5):Option (List Expr×Expr×Pos):=Stmt.Assign.elim (motive_2:=fun _=>Option (List Expr×Expr×Pos)) e h fun ts v p=>some (ts,v,p)
def Iq(e:Stmt):Option (List Expr×Expr×Pos):=if h:e.ctorIdx=5 then Dw e h else none
theorem BO{e:Stmt}{r:List Expr×Expr×Pos}(h:Iq e=some r):e=.Assign r.1 r.2.1 r.2.2:=
 let ⟨c,h⟩:=dv h
 Stmt.Assign.elim (motive_2:=fun e=>∀c,Dw e c=some r->e=.Assign r.1 r.2.1 r.2.2) e c (fun ts v p _ h=>by cases h;exact rfl) c h
noncomputable def FL(e:Stmt)(h:e.ctorIdx=12):Option (Expr×List Stmt×List Stmt):=Stmt.If.elim (motive_2:=fun _=>Option (Expr×List Stmt×List Stmt)) e h fun x ys zs p=>some (x,ys,zs)
def Lo(e:Stmt):Option (Expr×List Stmt×List Stmt):=if h:e.ctorIdx=12 then FL e h else none
theorem Eb{e:Stmt}{r:Expr×List Stmt×List Stmt}(h:Lo e=some r):∃p,e=.If r.1 r.2.1 r.2.2 p:=
 let ⟨c,h⟩:=dv h
 Stmt.If.elim (motive_2:=fun e=>∀c,FL e c=some r->∃p,e=.If r.1 r.2.1 r.2.2 p) e c (fun x ys zs p _ h=>by cases h;exact⟨p,rfl⟩) c h
noncomputable def Dy(e:Stmt)(h:e.ctorIdx=9):Option (Expr×Expr×List Stmt×List Stmt):=Stmt.For.elim (motive_2:=fun _=>Option (Expr×Expr×List Stmt×List Stmt)) e h fun t i ys zs p=>some (t,i,ys,zs)
def Gu(e:Stmt):Option (Expr×Expr×List Stmt×List Stmt):=if h:e.ctorIdx=9 then Dy e h else none
theorem Bs{e:Stmt}{r:Expr×Expr×List Stmt×List Stmt}(h:Gu e=some r):∃p,e=.For r.1 r.2.1 r.2.2.1 r.2.2.2 p:=
 let ⟨c,h⟩:=dv h
 Stmt.For.elim (motive_2:=fun e=>∀c,Dy e c=some r->∃p,e=.For r.1 r.2.1 r.2.2.1 r.2.2.2 p) e c (fun t i ys zs p _ h=>by cases h;exact⟨p,rfl⟩) c h
noncomputable def Cz(e:Stmt)(h:e.ctorIdx=11):Option (Expr×List Stmt×List Stmt):=Stmt.While.elim (motive_2:=fun _=>Option (Expr×List Stmt×List Stmt)) e h fun x ys zs p=>some (x,ys,zs)
def HM(e:Stmt):Option (Expr×List Stmt×List Stmt):=if h:e.ctorIdx=11 then Cz e h else none
theorem BH{e:Stmt}{r:Expr×List Stmt×List Stmt}(h:HM e=some r):∃p,e=.While r.1 r.2.1 r.2.2 p:=
 let ⟨c,h⟩:=dv h
 Stmt.While.elim (motive_2:=fun e=>∀c,Cz e c=some r->∃p,e=.While r.1 r.2.1 r.2.2 p) e c (fun x ys zs p _ h=>by cases h;exact⟨p,rfl⟩) c h
noncomputable def wq(e:Stmt)(h:e.ctorIdx=16):Option (Option Expr×Option Expr):=Stmt.Raise.elim (motive_2:=fun _=>Option (Option Expr×Option Expr)) e h fun x c p=>some (x,c)
def y0(e:Stmt):Option (Option Expr×Option Expr):=if h:e.ctorIdx=16 then wq e h else none
theorem xC{e:Stmt}{r:Option Expr×Option Expr}(h:y0 e=some r):∃p,e=.Raise r.1 r.2 p:=
 let ⟨c,h⟩:=dv h
 Stmt.Raise.elim (motive_2:=fun e=>∀c,wq e c=some r->∃p,e=.Raise r.1 r.2 p) e c (fun x c p _ h=>by cases h;exact⟨p,rfl⟩) c h
noncomputable def CH(e:Stmt)(h:e.ctorIdx=17):Option (List Stmt×List ExceptHandler×List Stmt×List Stmt):=Stmt.Try.elim (motive_2:=fun _=>Option (List Stmt×List ExceptHandler×List Stmt×List Stmt)) e h fun b hs o f p=>some (b,hs,o,f)
def Gh(e:Stmt):Option (List Stmt×List ExceptHandler×List Stmt×List Stmt):=if h:e.ctorIdx=17 then CH e h else none
theorem AF{e:Stmt}{r:List Stmt×List ExceptHandler×List Stmt×List Stmt}(h:Gh e=some r):∃p,e=.Try r.1 r.2.1 r.2.2.1 r.2.2.2 p:=
 let ⟨c,h⟩:=dv h
 Stmt.Try.elim (motive_2:=fun e=>∀c,CH e c=some r->∃p,e=.Try r.1 r.2.1 r.2.2.1 r.2.2.2 p) e c (fun b hs o f p _ h=>by cases h;exact⟨p,rfl⟩) c h
noncomputable def okN(x:Str):Bool:=!(x== ("__debug__" : Str))&&!(x== ("__classdict__" : Str))
theorem okN.d(h:okN x=true):(x== ("__debug__" : Str))=false/\(x== ("__classdict__" : Str))=false:=by unfold okN at h;simpa using h
section
variable {X:Cx}
end
section
variable {P:Program}{w:World}{K:W.Frag}{mg:Str->Option Value}{base:Heap}
end
section
variable {prog:Program}{w:World}{A:Around}{R:Result->Shared->Prop}{E:ba}{h:Heap}{g:Array GenState}{d:Drawn}{t:Nat}{os:OsState}{M:Model}
variable {nm q:Str}{C N:Addr}{bs bm:List Value}{hdct:Bool}{sn:List Str}{sub:List Value}{ab:Bool}{col:Option Bool}{dd:Option Addr}{k0 k1 k2 k3 k5:Option Value}{Bn newId inN:String}{bmN:List Value}
structure lA(C:Addr)(bm:List Value)(Bn:String):Prop where
 b:(Value.ref C::bm).contains (.type Bn)=true
 e:(Value.ref C::bm).contains (.type "BaseException")=true
 a:(Value.ref C::bm).contains (.type "AttributeError")=false
 n:(Value.ref C::bm).contains (.type "NameError")=false
theorem D6{rest:List Value}{Q:Unit->Shared->Prop}(F:ExcBaseFacts Bn newId inN bmN)(m:lA C bm Bn)(hC:h.get? C=some (excClassObj nm q C N bs bm hdct sn sub ab col dd k0 k1 k2 k3 k5 newId))(hq:Q () ⟨h,g,d,t,os⟩):
  wpAny M A (checkBuiltinCall newId ⟨.ref C::rest,[]⟩) Q E ⟨h,g,d,t,os⟩:=by
 have z:=F.noStar;have c:=m.b;simp only[checkBuiltinCall,F.newKind,F.newSplit,F.newRow];repeat (first|refine jq hC ?_|(refine qq hC ?_;rw[c])|refine wpAny_staticBase_exc hC ?_|refine wpAny_madeBy_exc hC ?_|simp only[bne_self_eq_false,Fx,if_false]|wp_step)
 exact hq
noncomputable abbrev ux(us:List Value):Obj:={cls:=.type "tuple",data:=.seq us.toArray}
noncomputable abbrev nv(C t:Addr):Obj:={cls:=.ref C,data:=.fields #[.ref t,.none,.none,.none,.bool false,.none]}
theorem Kw{rest:List Value}(F:ExcBaseFacts Bn newId inN bmN)(m:lA C bm Bn)(hC:h.get? C=some (excClassObj nm q C N bs bm hdct sn sub ab col dd k0 k1 k2 k3 k5 newId))
  (hq:R (.ok (.ret (.ref (h.objs.size+1)))) ⟨(h.push (ux rest)).push (nv C h.objs.size),g,d,t,os⟩) (hr:rest.length<=sizeLine):codeAny (model prog w) A (.builtin newId ⟨.ref C::rest,[]⟩) R ⟨h,g,d,t,os⟩:=by
 have z:=F.ends;have cb:=m.b;have ca:=m.a;have cn:=m.n;refine codeAny_builtinAt F.entry ?_;unfold Builtin.«BaseException.__new__»;refine PySem.wpAt_bind ?_;show PySem.wpAt _ _ _ (stack >>= _) _ _ _;refine PySem.wpAt_bind (PySem.wpAt_stack fun p below=>PySem.wpAt_of_wpAny ?_)
 wp_walk
 refine PySem.wpAt_of_wpAny ?_;rw[F.owner];repeat (first|with_reducible refine wpAny_madeHere_exc F.canon hC ?_|with_reducible refine jq hC ?_|(with_reducible refine qq hC ?_;first|rw[cb]|rw[ca]|rw[cn])|wp_step)
 show R _ _;rw[o9];exact hq
theorem Hr{e:Addr}{oe:Obj}{rest:List Value}{Q:Unit->Shared->Prop}(F:ExcBaseFacts Bn newId inN bmN)(m:lA C bm Bn)(hC:h.get? C=some (excClassObj nm q C N bs bm hdct sn sub ab col dd k0 k1 k2 k3 k5 newId))(he:h.get? e=some oe)(hcls:oe.cls=.ref C)(hq:Q () ⟨h,g,d,t,os⟩):
  wpAny M A (checkBuiltinCall inN ⟨.ref e::rest,[]⟩) Q E ⟨h,g,d,t,os⟩:=by
 have cb:=m.b;have z:=F.noStar;simp only[checkBuiltinCall,F.initKind,F.initSplit,F.initRow];repeat (first|(with_reducible refine jq he ?_;rw[hcls])|with_reducible refine jq hC ?_|(with_reducible refine qq hC ?_;rw[cb])|wp_step)
 refine wpAny_onRaise ?_;rw[show ∀(a b:String)(n:Nat),Bind.check ⟨.positional, "*",Bn,.self,[⟨"args",.varPos,false⟩]⟩ a b n (List.map (fun x=>x.fst) ({pos:=Value.ref e::rest}:Args).kw)=pure () from fun a b n=>check_star_args _ _ _ _ _ _];exact aM hq
theorem Ej{K:W.Frag}{rest:List Value}{Q:Fin->Shared->Prop}(X:K.In h)(F:ExcBaseFacts Bn newId inN bmN)(m:lA C bm Bn)(hC:h.get? C=some (excClassObj nm q C N bs bm hdct sn sub ab col dd k0 k1 k2 k3 k5 newId))
  (hi:W.findIn K (.ref C) "__init__" = some (some (.builtin inN))) (hr:rest.length<=sizeLine)
  (hq:∀h',(∀b o,h.get? b=some o->h'.get? b=some o)->(∃t,h'.get? (h.objs.size+1)=some (nv C t))->Q (.done (.ret (.ref (h.objs.size+1)))) ⟨h',g,d,t,os⟩):
  wpAny (model prog w) A (Builtin.«type.__call__» ⟨.ref C::rest,[]⟩) Q E ⟨h,g,d,t,os⟩:=by
 repeat (first|with_reducible refine jq hC ?_|with_reducible refine wpAny_madeBy_exc hC ?_|wp_step)
 refine codeAny_call_builtin_code (Code.quiet_builtin _ F.quiet) (D6 F m hC ?_);refine Kw F m hC ?_ hr;show wpAny _ _ _ _ _ _;have kp:∀b o,h.get? b=some o->((h.push (ux rest)).push (nv C h.objs.size)).get? b=some o:=fun b o e=>bX _ (bX _ e);have hC1:=kp _ _ hC;have X1:K.In ((h.push (ux rest)).push (nv C h.objs.size)):=X.keeps kp;have he:((h.push (ux rest)).push (nv C h.objs.size)).get? (h.objs.size+1)=some (nv C h.objs.size):=by
  have:=gk (h.push (ux rest)) (o:=nv C h.objs.size) rfl
  rwa [o9] at this
 have cC:(Value.ref C::bm).contains (.ref C)=true:=by simp
 unfold isInstance;repeat (first|with_reducible refine jq he ?_|(with_reducible refine qq hC1 ?_;rw[cC])|wp_step)
 show wpAny _ _ (typeLookup (.ref C) _) _ _ _;refine (sN X1 hi).at ?_;refine jW (aj (kq (F.init.bind _) ?_));refine aj (kf (codeAny_call_builtin F.init.plain F.initEntry (Hr F m hC1 he rfl ?_)))
 wp_walk
 refine hq _ (fun b o hb=>?_) ⟨h.objs.size+2,?_⟩
 .rw[mS _ _ (nK (Nat.lt_succ_of_lt (bC hb)))];exact bX _ (kp _ _ hb)
 .rw[qZ _ (bX _ he) rfl];simp only[o9];rfl
theorem EJ{K:W.Frag}{rest:List Value}{Q:ba}(X:K.In h)(F:ExcBaseFacts Bn newId inN bmN)(m:lA C bm Bn)(hC:h.get? C=some (excClassObj nm q C N bs bm hdct sn sub ab col dd k0 k1 k2 k3 k5 newId))
  (hi:W.findIn K (.ref C) "__init__" = some (some (.builtin inN))) (hr:rest.length<=sizeLine)
  (hq:∀h',(∀b o,h.get? b=some o->h'.get? b=some o)->(∃t,h'.get? (h.objs.size+1)=some (nv C t))->Q (.ref (h.objs.size+1)) ⟨h',g,d,t,os⟩):
  wpAny (model prog w) A (call (.ref C) rest) Q E ⟨h,g,d,t,os⟩:=by
 have f1:=tc_lookup;have f2:=tc_bind (.ref C);have hT:(⟨h,g,d,t,os⟩:Shared).TypeIs (.ref C) "type" := ⟨_,hC,rfl⟩;refine kf (codeAny_of_tree ?_);show wpAny _ _ (callAny (.ref C) _) _ _ _;repeat (any_goals (first|assumption|with_reducible refine jq hC ?_|wp_step))
 refine⟨rfl,?_⟩;exact codeAny_call_builtin_at (Code.quiet_builtin _ (by decide+kernel)) entry_typeCall (wpAny_check_type_call_sub hC (Ej X F m hC hi hr hq))
theorem FY{Q:Flow->Shared->Prop}(m:lA C bm Bn)(hh:A.handled=none)
  (h:wpAny M A x (fun v s1=>∃e oe vs,v=.ref e/\s1.heap.get? C=some (excClassObj nm q C N bs bm hdct sn sub ab col dd k0 k1 k2 k3 k5 newId)/\s1.heap.get? e=some oe/\oe.cls=.ref C/\oe.data=.fields vs/\vs[1]?=some .none/\E (.ref e) s1) E s):wpAny M A (raiseStmt env (some x) none) Q E s:=by
 have cB:=m.e;unfold raiseStmt;refine aj (iJ h (fun v s1 z=>?_) fun _ _ x=>x);obtain⟨e,⟨oc,od,oda,osl⟩,vs,rfl,hC,he,hc,hd,h1,hE⟩:=z;simp only at hc hd;subst hc hd;obtain⟨hp,g,d,tk,os⟩:=s1;repeat (first|with_reducible refine jq he ?_|with_reducible refine jq hC ?_|(with_reducible refine qq hC ?_;rw[cB])|wp_step)
 rw[h1];refine aM ?_;rw[if_neg (by decide)];exact aM (wpAny_raiseNew_none hh hE)
end
structure uG(K:W.Frag)(C:Addr):Prop where
 obj:∃(nm q:Str) (N:Addr) (bs bm:List Value) (hdct:Bool) (sn:List Str) (sub:List Value) (ab:Bool) (col:Option Bool) (dd:Option Addr) (k0 k1 k2 k3 k5:Option Value),
  K.lookup C=some (excClassObj nm q C N bs bm hdct sn sub ab col dd k0 k1 k2 k3 k5 "ValueError.__new__")/\lA C bm "ValueError"
 init:W.findIn K (.ref C) "__init__" = some (some (.builtin "ValueError.__init__"))
 kp:W.keepIn K (.ref C)=true
section
variable {X:Cx}{pins:aL}{σ:L2.St}{H:L2.Hp}{s:Shared}{C f:Addr}{E:XK}
theorem FA{Q:ba}(M:uG X.K C)(I:Inv X pins σ H s)(hz:us.length<=1000)
  (h:∀e s' oe ws,H e=none->Fly0 X.prog X.w (bp X.stack) H s e C none (upd H e (mI C none e)) s'->s'.heap.get? e=some oe->oe.cls=.ref C->oe.data=.fields ws->ws[1]?=some .none->Q (.ref e) s'):
  wpAny (model X.prog X.w) X.A (call (.ref C) us) Q X.xe s:=by
 obtain⟨nm,q,N,bs,bm,hdct,sn,sub,ab,col,dd,k0,k1,k2,k3,k5,lk,mo⟩:=M.obj;obtain⟨hp,g,d,t,os⟩:=s;refine EJ I.dP PySem.F.excBase_ValueError mo (I.dP _ _ lk) M.init (by rw[f7];omega) fun h' kp ⟨t',he⟩=>?_;have hf:H (hp.objs.size+1)=none:=I.aD.fresh (mR _);have ok:dM X.prog X.w (upd H (hp.objs.size+1) (mI C none (hp.objs.size+1))) h' (hp.objs.size+1) (mI C none (hp.objs.size+1)):=⟨⟨_,_,he,rfl,rfl,rfl⟩,⟨_,he⟩,fun h1 h2 ⟨o,vs,a,b⟩ k=>⟨o,vs,k o a,b⟩⟩;have I2:Inv X pins σ (upd H (hp.objs.size+1) (mI C none (hp.objs.size+1))) ⟨h',g,d,t,os⟩:=I.laid (a:=hp.objs.size+1) (o:=mI C none (hp.objs.size+1)) (h':=h') (t':=t) kp (mR _) ok;exact h _ _ _ _ hf ⟨rfl,I2.bare,Un.laid kp (mR _) hf,I2.aD,bP,Heap.get?_none_of_le (mR _)⟩ he rfl rfl rfl
def E2(C:Addr)(E:XK)(t:TA):TS:=fun _ σ H=>t σ H fun vs H1=>vs.length<=1000/\∀e,H1 e=none->E (.ref e) none (upd H1 e (mI C none e))
theorem yK(hx:X.ex=[])(hs:X.stack=X.env::X.outer)(hfm:X.env.frame=some X.env.locals)(hxe:X.xe=og X E)
  (M:uG X.K C) (cal:X.calm=true) (hg:Gl X x) (hm:X.mg x=some (.ref C))
  (ha:PA X (e::es) t) (hdb:(x== ("__debug__" : Str))=false) (hst:starEach (e::es) X.env=(false,eval e X.env)::starEach es X.env) (hpl:(backTo cpos (starEach es X.env)).any (·.1)=false):
  PS X (.Raise (some (.Call (.Name x np) (e::es) [] cpos)) none pos) (E2 C E t):=by
 intro pins s σ H D I h;obtain⟨nm,q,N,bs,bm,hdct,sn,sub,ab,col,dd,k0,k1,k2,k3,k5,lk,mo⟩:=id M.obj;have key:wpAny (model X.prog X.w) X.A (eval (.Call (.Name x np) (e::es) [] cpos) X.env) (fun v s1=>∃e oe vs,v=.ref e/\s1.heap.get? C=some (excClassObj nm q C N bs bm hdct sn sub ab col dd k0 k1 k2 k3 k5 "ValueError.__new__")/\s1.heap.get? e=some oe/\oe.cls=.ref C/\oe.data=.fields vs/\vs[1]?=some .none/\X.xe (.ref e) s1) X.xe s:=by refine jX (fY I hg hm ?_ hdb);refine pU (h₀:=X.base) I.ok.mod.r8 M.kp (aG (ha cpos pins s σ H _ I h) fun us s1 ⟨vs,H1,I1,r,q1,q2⟩=>⟨I1.dP,?_⟩) hst hpl;refine FA M I1 (by rw[kJ,<-r.length];exact q1) fun ea s2 oe ws z1 F2 a1 a2 a3 a4=>⟨ea,oe,ws,rfl,?_,a1,a2,a3,a4,Gm hx hs hfm hxe I1 F2 a1 a3 a4 (q2 ea z1)⟩;exact (F2.inv I1).dP _ _ lk
 rw[arm_exec_Raise];exact aj (qh (FY mo (I.ok.hd cal) (aj (iJ key (fun v s1 z=>aj (qh (aM z))) fun _ _ z=>z))))
end
noncomputable abbrev hX(X:Cx)(v:Value):Cx:={X with A:=X.A.mark (some v),calm:=false,xe:=fun _ _=>False}
section
variable {X:Cx}{pins:aL}{σ:L2.St}{H:L2.Hp}{s:Shared}
theorem Inv.mark(I:Inv X pins σ H s)(v:Value):Inv (hX X v) pins σ H s:=
 ⟨⟨I.ok.mod,I.ok.kind,I.ok.glob,I.ok.blt,I.ok.above,I.ok.inj,I.ok.has,I.ok.pO,fun z=>(nomatch z),I.ok.frames,I.ok.tB,I.ok.z9,I.ok.bs,I.ok.kQ,I.ok.nG,I.ok.oP,I.ok.fM,I.ok.mU⟩,I.os,I.bare,I.base,I.loc,I.cell,I.free,I.fk,I.pin,I.aD,I.len⟩
theorem Inv.unmark(I:Inv (hX X v) pins σ H s)(hd:X.calm=true->X.A.handled=none):Inv X pins σ H s:=
 ⟨⟨I.ok.mod,I.ok.kind,I.ok.glob,I.ok.blt,I.ok.above,I.ok.inj,I.ok.has,I.ok.pO,hd,I.ok.frames,I.ok.tB,I.ok.z9,I.ok.bs,I.ok.kQ,I.ok.nG,I.ok.oP,I.ok.fM,I.ok.mU⟩,I.os,I.bare,I.base,I.loc,I.cell,I.free,I.fk,I.pin,I.aD,I.len⟩
theorem km{E:ba}{Q:Unit->Shared->Prop}(I:Inv X pins σ H s)(hN:X.N.Nodup)(hj:X.N[j]?=some n)(hl:X.env.scope.names.lookup n=some .local)
  (h:∀s',Inv X pins (σ.set j none) H s'->Q () s'):wpAny M A (do bindName X.env n .none;unbindBehindTheSuite X.env n pos) Q E s:=by
 have hp:(X.env.scope.kind== .class || (X.env.scope.kind== .module&&X.env.locals != X.env.globals))=false:=by rw[I.ok.kind];rfl
 have hk:X.env.kindOf n=some .local:=hl;refine aj (wpAny_bindName (mj (v:=.aw) I hN hj (.inl hl) rfl (fun s1 I1=>?_) (.inr hl)));obtain⟨m,hn,lo⟩:=I1.loc;have jl:j<σ.length:=by rw[I.len];exact (ib.mp hj).1
 have hm:∃u,m n=some u:=by
  obtain⟨u,_,l⟩:=lo j n .aw hj (by rw[iV jl]) (.inl hl);rcases l with ⟨_,z⟩|⟨z,_⟩
  .exact⟨u,z⟩
  .rw[hk] at z;rcases z with z|z<;>cases z
 obtain⟨u,hm⟩:=hm;unfold unbindBehindTheSuite;refine wpAny_onRaise ?_;unfold unbindName;refine aj (wpAny_point (aj ?_));unfold deleteName;simp only[hk,hp];rw[if_neg (by decide)];refine aj (wpAny_nsDel_keeps hn fun h2 v hn2 hs=>?_);rw[hm];simp only[Option.isSome_some,Bool.not_true,Fx,if_false,gQ];refine aM (wpAny_point (h _ ?_));have above:=I1.ok.above;have ne:∀b o,X.aO.heap.get? b=some o->b≠X.env.locals:=fun b o e=>dr (cH (bC e) above);have mO:∀y c,X.env.cells.lookup y=some c->c≠X.env.locals:=fun y c e z=>by
  obtain⟨w',oc,hoc,hcd⟩:=I1.cell y c e;obtain⟨ol,es,ep,hol,hld,_⟩:=hn;rw[z,hol] at hoc;cases hoc;rw[hld] at hcd;cases hcd
 refine⟨I1.ok,I1.os,I1.bare,⟨fun b o e n hb hx=>(hs.2 b (ne b o e)).trans (I1.base.keep b o e n hb hx),fun b o e n hb hx=>?_,I1.base.free,fun b o e hx=>?_,I1.base.gj,I1.base.fL,I1.base.fS⟩,⟨_,hn2,fun i y v' e1 e2 e3=>?_⟩,fun y c e=>?_,I1.free,I1.fk,fun p hp=>?_,fun a o q=>?_,by simpa using I.len⟩
 .obtain⟨sl,q⟩:=I1.base.slot b o e n hb hx;exact⟨sl,(hs.2 b (ne b o e)).trans q⟩
 .obtain⟨o',q⟩:=I1.base.there b o e hx;exact⟨o',(hs.2 b (ne b o e)).trans q⟩
 .by_cases z:i=j
  .subst z;rw[iV jl] at e2;cases e2
  .rw[iW (bo z)] at e2;have ny:y≠n:=fun w=>z (by subst w;exact pD hN e1 hj);obtain⟨u',r',l⟩:=lo i y v' e1 (by rw[iW (bo z)];exact e2) e3;refine⟨u',r',?_⟩;rcases l with ⟨k1,k2⟩|⟨k1,c,k2,k3⟩
   .exact .inl ⟨k1,by show (if y=n then v else m y)=some u';rw[if_neg ny];exact k2⟩
   .exact .inr ⟨k1,c,k2,k3.sameBut hs (mO y c k2)⟩
 .obtain⟨w',z⟩:=I1.cell y c e;exact⟨w',z.sameBut hs (mO y c e)⟩
 .obtain⟨e,n1,n2,n3,d⟩:=I1.pin p hp;exact⟨(hs.2 p.1 n2).trans e,n1,n2,n3,d⟩
 .have nt:∀b u,H b=some u->b≠X.env.locals:=fun b u e z=>by rw[z,I1.free] at e;cases e
  refine (I1.aD a o q).gd (fun b u hb r=>(hs.2 b ?_).trans r) (fun _ q=>q) fun _ _ q=>q;rcases hb with rfl|hb
  .exact nt b o q
  .exact nt b _ hb
theorem Ea{Q:Shared->Prop}(I:Inv X pins σ H s)(hs:X.stack=X.env::X.outer)(hfm:X.env.frame=some X.env.locals)(F:f9 X.prog X.w (bp X.stack) H s ea C dx .none H' s'){E:ba}(k:∀s3,f9 X.prog X.w (bp X.stack) H s ea C dx .none H' s3->Q s3):
  wpAny (model X.prog X.w) X.A (noteFrame (.ref ea) X.env) (fun _ s2=>wpAny (model X.prog X.w) X.A (setFlight (.ref ea) none) (fun _ s3=>Q s3) E s2) E s':=by
 have J:=F.toFly0.inv I;have fr:=J.iq;have st:=J.stack;have fm:=J.ok.frames;rw[hs] at fr st fm F;refine F.note (base:=X.base) fm st hfm fr fun s2 F2=>F2.land fr fun s3 F3=>k s3 ?_;rw[hs];exact F3
theorem f9.cls(F:f9 X.prog X.w (bp X.stack) H s ea C dx fl H' s'):W.Looks (model X.prog X.w) s'.heap (typeOf (.ref ea)) (.ref C):=by obtain⟨⟨o,ws,b1,b2,_⟩,_,_⟩:=F.aD ea _ F.tr;exact b2▸(W.Looks.ld b1).andThen .now
section
variable {ea C Mx:Addr}{dx:Option Addr}{H':L2.Hp}{s':Shared}{x n:Str}{p hp:Pos}{j:Nat}{rest:List ExceptHandler}{Q:Flow->Shared->Prop}
theorem ET(I:Inv X pins σ H s)(F:f9 X.prog X.w (bp X.stack) H s ea C dx .none H' s')(hg:Gl X x)(hm:X.mg x=some (.ref Mx))(hdb:(x== ("__debug__" : Str))=false)(hxm:W.exmOne X.K (.ref C) (.ref Mx)=some false)
  (k:wpAny (model X.prog X.w) X.A (handleBy (.ref ea) X.env rest) Q X.xe s'):wpAny (model X.prog X.w) X.A (handleBy (.ref ea) X.env (.ExceptHandler (some (.Name x p)) nm suite hp::rest)) Q X.xe s':=by
 have I3:=F.toFly0.inv I;refine wpAny_handleBy_cons (codeAny_handlers_test (fY (X:=hX X (.ref ea)) (Inv.mark I3 _) hg hm ?_ hdb)) (by intro q;cases q);exact (W.exm_one I3.dP F.cls hxm).here k
theorem G3(I:Inv X pins σ H s)(F:f9 X.prog X.w (bp X.stack) H s ea C dx .none H' s')
  (hg:Gl X x) (hm:X.mg x=some (.ref Mx)) (hdb:(x== ("__debug__" : Str))=false) (hxm:W.exmOne X.K (.ref C) (.ref Mx)=some true) (hN:X.N.Nodup) (hj:X.N[j]?=some n) (hl:X.env.scope.names.lookup n=some .local)
  (hb:∀v,eE (hX X v) (b₀::suite) t) (D:Ends) (ht:t D (σ.set j (some (.ref ea))) H') (hD:∀f s2,SP X pins D f s2->wpAny (model X.prog X.w) X.A (do bindName X.env n .none;unbindBehindTheSuite X.env n hp) (fun _ s3=>Q f s3) X.xe s2):
  wpAny (model X.prog X.w) X.A (handleBy (.ref ea) X.env (.ExceptHandler (some (.Name x p)) (some n) (b₀::suite) hp::rest)) Q X.xe s':=by
 have I3:=F.toFly0.inv I;have fr0:=I3.iq;refine wpAny_handleBy_cons (codeAny_handlers_test (fY (X:=hX X (.ref ea)) (Inv.mark I3 _) hg hm ?_ hdb)) (by intro q;cases q);refine (W.exm_one I3.dP F.cls hxm).here ?_;refine codeAny_handlers_suite_as (F.land fr0 fun s4 F4=>?_);have I4:=F4.toFly0.inv I;refine mj (X:=hX X (.ref ea)) (v:=.ref ea) (Inv.mark I4 _) hN hj (.inl hl) rfl (fun s5 I5=>?_) (.inr hl);refine iJ (hb _ pins s5 _ H' D I5 ht) (fun f s6 z=>hD f s6 ?_) fun _ _ z=>False.elim z;cases f with
 |next=>obtain⟨σ',H'',J,q⟩:=z;exact⟨σ',H'',Inv.unmark J I.ok.hd,q⟩
 |brk=>obtain⟨σ',H'',J,q⟩:=z;exact⟨σ',H'',Inv.unmark J I.ok.hd,q⟩
 |cont=>obtain⟨σ',H'',J,q⟩:=z;exact⟨σ',H'',Inv.unmark J I.ok.hd,q⟩
 |ret u=>obtain⟨v,σ',H'',J,r,q⟩:=z;exact⟨v,σ',H'',Inv.unmark J I.ok.hd,r,q⟩
end
end
section
variable {prog:Program}{w:World}{A:Around}{E:ba}{s:Shared}{a:Addr}{D:List (Str×Addr)}{k:Str}{tk:Tok}
end
section
variable {X:Cx}{E:XK}{a b c e y:Expr}{pos p1 p2:Pos}{da db dk:Tw.Env->Tw.Hp->Tw.R Tw.W}{t:Addr}{D:List (Str×Addr)}
theorem aT.rev{K:W.Frag}{ι:Nat->Addr}{n:Nat}{H:L2.Hp}:∀{ws:List Tw.W}{vs:List V},aT K ι n H ws vs->aT K ι n H ws.reverse vs.reverse
 |_,_,.nil=>.nil
 |_,_,.cons a r=>by
  rw[xN,xN];exact (aT.rev r).append (.cons a .nil)
theorem aT.dropLast{K:W.Frag}{ι:Nat->Addr}{n:Nat}{H:L2.Hp}{ws:List Tw.W}{vs:List V}(r:aT K ι n H ws vs):aT K ι n H ws.dropLast vs.dropLast:=by rw[List.dropLast_eq_take,List.dropLast_eq_take,r.length];exact r.take _
def we(m:Tw.Mt)(da:Tw.Env->Tw.Hp->Tw.R Tw.W):Tw.Env->Tw.Hp->Tw.R Tw.W:=fun ρ h=>(da ρ h).bind fun x h=>if Tw.mG m x h then Tw.method m x [] h else .bad
theorem wg(hm:m=.rev\/m=.pop)(e:Tw.mG m w h=true):∃i ws,w=.ref i/\h[i]?=some (.lst ws):=by
 have e:Tw.mG .append w h=true:=by rcases hm with rfl|rfl<;>cases w<;>exact e
 exact yV e
theorem Kn(hb:attributeBase o "reverse" X.env (eval o X.env)=eval o X.env)(hl:(apos.endLine== cpos.line)=true)(ho:PE X o (tE (zx X E) da)):
  PE X (.Call (.Attribute o "reverse" apos) [] [] cpos) (tE (zx X E) (we .rev da)):=by
 refine PE.imp (zK wY PySem.F.slot_list_reverse PySem.F.type_list_reverse yz ho hb hl) fun σ H Q U=>U.g fun ρ U=>U.g fun h U=>U.g fun ι U=>U.g fun at' p=>?_;unfold we at p;refine⟨ρ,h,ι,at',(step at' p).mono fun x H1 U=>U.g fun w U=>U.g fun h1 U=>U.g fun ι1 U=>U.g fun at1 U=>U.g fun e1 U=>U.g fun r1 p1=>?_⟩;obtain⟨c1,pp⟩:=au.ite p1;clear p1;obtain⟨i,ws,rfl,ei⟩:=wg (.inl rfl) c1;cases r1;obtain⟨xs,q1,q2⟩:=at1.hr.lst ei;refine⟨.inl ⟨rfl,xs,dh.of q1⟩,_,xs,rfl,rfl,q1,?_⟩
 .simp only[Tw.method,ei] at pp;obtain⟨hr',ex⟩:=at1.hr.put (o:=.lst xs.reverse) (u:=.lst ws.reverse) ei rfl rfl (fun _ z=>nomatch z) fun H' kp z=>⟨_,z,(q2.rev).keep kp⟩;exact pp ι1 _ .aw ex hr' .aw
theorem s_pop(hb:attributeBase o "pop" X.env (eval o X.env)=eval o X.env)(hl:(apos.endLine== cpos.line)=true)(ho:PE X o (tE (zx X E) da)):
  PE X (.Call (.Attribute o "pop" apos) [] [] cpos) (tE (zx X E) (we .pop da)):=by
 refine PE.imp (zK wY PySem.F.slot_list_pop PySem.F.type_list_pop Ia ho hb hl) fun σ H Q U=>U.g fun ρ U=>U.g fun h U=>U.g fun ι U=>U.g fun at' p=>?_;unfold we at p;refine⟨ρ,h,ι,at',(step at' p).mono fun x H1 U=>U.g fun w U=>U.g fun h1 U=>U.g fun ι1 U=>U.g fun at1 U=>U.g fun e1 U=>U.g fun r1 p1=>?_⟩;obtain⟨c1,pp⟩:=au.ite p1;clear p1;obtain⟨i,ws,rfl,ei⟩:=wg (.inr rfl) c1;cases r1;obtain⟨xs,q1,q2⟩:=at1.hr.lst ei;simp only[Tw.method,ei] at pp;cases eg:ws.getLast? with
 |none=>rw[eg] at pp;exact pp.elim
 |some y=>
  rw[eg] at pp;rw[List.getLast?_eq_getElem?] at eg;obtain⟨v,hv,rv⟩:=q2.get eg;rw[q2.length] at hv;refine⟨.inl ⟨rfl,xs,dh.of q1⟩,_,xs,v,rfl,rfl,q1,hv,?_⟩;obtain⟨hr',ex⟩:=at1.hr.put (o:=.lst xs.dropLast) (u:=.lst ws.dropLast) ei rfl rfl (fun _ z=>nomatch z) fun H' kp z=>⟨_,z,(q2.dropLast).keep kp⟩;exact pp ι1 _ v ex hr' (by have:=rv.keep (ex.keeps at1.hr);exact this)
end
section
variable {X:Cx}{E:XK}{a b c e:Expr}{pos pos' p1 p2 pos2:Pos}{da db dc:Tw.Env->Tw.Hp->Tw.R Tw.W}
noncomputable def isCall:Expr->Bool
 |.Call .. => true
 |_=>false
theorem w8(h:isCall a=true):swapsWithSole [.Tuple [x,y,z] k p] a l env=pure false:=by cases a<;>first|rfl|cases h
theorem uy(h:isCall a=true):swappedStores [.Tuple [x,y,z] k p] a env=pure none:=by cases a<;>first|rfl|cases h
theorem Fp{x y z:Expr}{k0:Nat}{p:Pos}{i j k:Nat}(hg:PG X (.Tuple [x,y,z] k0 p) (HK X.K 3 (sU (iN i) (sU (iN j) (sU (iN k) GR)))))(ha:PE X a (tE (zx X E) da))(hc:isCall a=true):
  PS X (.Assign [.Tuple [x,y,z] k0 p] a pos) (dq (zx X E) fun ρ h=>(da ρ h).bind fun x h=>match x with
   |.tup [u,v,w]=>.ok (.next (((ρ.set i (some u)).set j (some v)).set k (some w))) h
   |_=>.bad):=by
 refine PS.imp (zq ha hg (w8 hc) (uy hc)) fun D σ H ⟨ρ,h,ι,at',p⟩=>⟨ρ,h,ι,at',(fZ at' p).mono fun x H1 ⟨w,h1,ι1,at1,e1,r1,p1⟩=>?_⟩;split at p1
 .next u v w=>
  cases r1 with
  | @tup ad xs ws ea ra=>
   cases ra with
   |cons r1 ra=>
    cases ra with
    |cons r2 ra=>
     cases ra with
     |cons r3 ra=>
      cases ra;exact⟨ad,_,rfl,TupAt.sq ea,rfl,_,_,rfl,_,_,rfl,_,_,rfl,rfl,p1.next (((at1.set r1 i).set r2 j).set r3 k)⟩
 .exact p1.elim
theorem KA{tb:Tw.Env->Tw.Hp->Tw.R Tw.Fl}(hp:PassesOwn (model X.prog X.w) X.A X.env X.xe)(hc:PT X c (tT (zx X E) dc))(hb:eE X body (dq (zx X E) tb)):
  PS X (.While c body [] pos) (dq (zx X E) fun ρ h=>Tw.iR dc tb n ρ h):=by
 refine PS.imp (Bw hp hc hb) fun D σ H U=>U.g fun ρ U=>U.g fun h U=>U.g fun ι U=>U.g fun at' p=>?_;refine⟨fun m σ H=>∃ρ h ι,At (zx X E) ι h H ρ σ/\bG (zx X E) ι h H (Tw.iR dc tb m ρ h) D,⟨n,ρ,h,ι,at',p⟩,?_⟩
 rintro m σ2 H2 ⟨ρ2,h2,ι2,at2,p2⟩
 cases m with
 |zero=>exact p2.elim
 |succ m=>
  unfold Tw.iR at p2;refine⟨ρ2,h2,ι2,at2,?_⟩;simp only[dT];cases e0:dc ρ2 h2 with
  |bad=>rw[e0] at p2;exact p2.elim
  |aI=>rw[e0] at p2;exact p2
  |ok w h3=>
   simp only[e0,Tw.R.af] at p2⊢;cases et:Tw.truth h3 w with
   |none=>rw[et] at p2;exact p2.elim
   |some k=>
    rw[et] at p2;intro ι3 H3 k' e3 r3 q;cases q;have at3:=at2.later e3 r3;cases k with
    |false=>rw[if_neg (by decide)];exact (bG.later p2 e3).next at3
    |true=>
     rw[if_pos rfl];refine⟨fun σ H=>∃ρ h ι,At (zx X E) ι h H ρ σ/\bG (zx X E) ι h H (Tw.iR dc tb m ρ h) D,fun σ' H' q=>⟨m,uo _,q⟩,ρ2,h3,ι3,at3,?_⟩;exact se (go:=Tw.iR dc tb m) (bG.later p2 e3) fun ρ4 h4 ι4 H4 σ4 e4 at4 p4=>⟨ρ4,h4,ι4,at4,p4⟩
end
def tL(K:W.Frag)(mg:Str->Option Value)(cl:fu)(c:mx)(F:List Tw.W->Tw.Hp->Tw.R Tw.W):Sp:=fun vs H Q E=>eS H c.cd c.q/\eJ K mg cl F (vs++c.vs) H Q E
def CK(X:Cx)(CX:fR)(C:Tw.Or)(c:mx):Prop:=∃k fd ps,cD X.prog X.w X.K X.mg X.base CX k c.g fd ps (tL X.K X.mg X.cl c (C c.f))/\cz k X.A/\Binds X.K fd ps []/\∃oc od sl,X.base.get? c.g=some ⟨oc,od,.func fd,sl⟩
theorem eS.later{K:Zk}{ι ι1:Nat->Addr}{h h1:Tw.Hp}(x:eS H c q)(r:HR K ι h H)(e:Ext ι h H ι1 h1 H1):eS H1 c q:=by obtain⟨oc,vs,t,e1,r1⟩:=x;refine⟨oc,vs,t,e.fr _ _ e1 (fun _ z=>nomatch z) fun i o ei m z=>?_,r1⟩;obtain⟨u,q,_,n,_⟩:=r.there ei m;rw[z,e1] at q;cases q;exact n _ _ rfl
section
variable {X:Cx}{E:XK}{CX:fR}{C:Tw.Or}{i:Nat}
theorem EN{e:Expr}{es:List Expr}{ds:Tw.Env->Tw.Hp->Tw.R (List Tw.W)}(hi:X.N[i]?=some x)(hv:oB X.env.scope x)(hd:(x== ("__debug__" : Str))=false)(hcd:(x== ("__classdict__" : Str))=false)
  (je:∀i c,X.cl.fs i=some c->CK X CX C c) (hx:Passes CX X E) (hs:PA X (e::es) (tA (zx X E) n ds)) (hpl:(e::es).all aC=true):
  PE X (.Call (.Name x p1) (e::es) [] pos) (tE (zx X E) fun ρ h=>match ρ[i]? with
   |some (some (Tw.W.ref a))=>match h[a]? with
    |some (.fun f ws)=>(ds ρ h).bind fun xs h=>C f (xs++ws) h
    |_=>.bad
   |_=>.bad):=by
 have hst:starEach (e::es) X.env=(false,eval e X.env)::starEach es X.env:=bE (by rw[lD,aE] at hpl;exact hpl.1);intro pins s σ H Q I ⟨ρ,h,ι,at',p⟩;dsimp only at p;cases er:ρ[i]? with
 |none=>rw[er] at p;exact p.elim
 |some ow=>
  cases ow with
  |none=>rw[er] at p;exact p.elim
  |some w=>
   cases w with
   |ref a=>
    rw[er] at p;dsimp only at p;cases ea:h[a]? with
    |none=>rw[ea] at p;exact p.elim
    |some o=>
     rw[ea] at p;cases o with
     | «fun» f ws=>
      dsimp only at p;obtain⟨v,sv,rv⟩:=at'.st i _ er;cases rv with
      |ref ha=>
       obtain⟨c,e1,e2,rfl,e4,e5⟩:=at'.hr.fn a f ws ea;obtain⟨k,fd,ps,G,hr,hb,oc,od,sl,eb⟩:=je a c e1;rw[<-e2] at sv;refine Call_ (aG (mK hi hv hd hcd pins s σ H (fun v H1=>v=.ref c.g/\H1=H) I ⟨_,sv,rfl,rfl⟩) fun fv s1 ⟨v,H1,I1,rv,ev,eH⟩=>?_);subst ev eH;cases rv;have at1:=at';refine W.callWith_F ⟨oc,od,fd,sl,I1.bk _ _ eb⟩ (aG (hs pos pins s1 σ H1 _ I1 ⟨ρ,h,ι,at1,step at1 p⟩) fun us s2 ⟨vs,H2,I2,r2,xs,h2,ι2,at2,x2,rr,p2⟩=>⟨⟨oc,od,fd,sl,I2.bk _ _ eb⟩,?_⟩) hst ?_
       .refine yT (ds:=[]) (dvs:=[]) G hr hb .nil hx I2 r2 ?_;rw[gI];exact⟨e5.later at1.hr x2,xs++ws,h2,ι2,at2.hr,rr.1.append (e4.keep (x2.keeps at1.hr)),p2⟩
       .rw[jE (by rw[lD,aE] at hpl;exact hpl.2)];simp[backTo]
     |_=>exact p.elim
   |_=>rw[er] at p;exact p.elim
end
section
variable {X:Cx}{E:XK}{a b c:Expr}{pos p1 p2 pos2:Pos}{da db dc:Tw.Env->Tw.Hp->Tw.R Tw.W}
noncomputable def uS(da db dc:Tw.Env->Tw.Hp->Tw.R Tw.W):Tw.Env->Tw.Hp->Tw.R Tw.W:=fun ρ h=>(da ρ h).bind fun x h=>(db ρ h).bind fun y h=>match x,y with
 |.int i,.int j=>if i<=j then (dc ρ h).bind fun z h=>(match z with
  |.int k=>.ok (.bl (decide (j<k))) h
  |_=>.bad) else .ok (.bl false) h
 |_,_=>.bad
theorem EL(ha:PE X a (tE (zx X E) da))(hb:PE X b (tE (zx X E) db))(hc:PE X c (tE (zx X E) dc))(pb:aC b=true)(pc:aC c=true):
  PE X (.Compare a [.LtE,.Lt] [b,c] pos) (tE (zx X E) (uS da db dc))/\PT X (.Compare a [.LtE,.Lt] [b,c] pos) (tT (zx X E) (uS da db dc)):=by
 have hm:lastMarks [.LtE,.Lt] [b,c]=false:=by show behindInMarks .Lt c=false;exact oC _ pc
 constructor
 .refine PE.imp (Bu xO xV ha hb hc hm) fun σ H Q ⟨ρ,h,ι,at',p⟩=>⟨ρ,h,ι,at',(step at' p).mono fun x H1 ⟨w,h1,ι1,at1,e1,r1,p1⟩=>⟨ρ,h1,ι1,at1,(step at1 p1).mono fun y H2 ⟨u,h2,ι2,at2,e2,r2,p2⟩=>?_⟩⟩;cases r1 with
  |int i=>
   cases r2 with
   |int j=>
    refine⟨i,j,rfl,rfl,_,rfl,?_⟩;dsimp only at p2;by_cases q:i<=j
    .rw[if_pos q] at p2;rw[if_pos (dG q)];refine⟨ρ,h2,ι2,at2,(step at2 p2).mono fun z H3 ⟨v,h3,ι3,at3,e3,r3,p3⟩=>?_⟩;cases r3 with
     |int k=>exact⟨j,k,rfl,rfl,au.self (a:=Tw.W.bl (decide (j<k))) p3 at3.hr (.bl _)⟩
     |_=>exact p3.elim
    .rw[if_neg q] at p2;rw[if_neg (by rw[aQ];exact q)];exact au.self (a:=Tw.W.bl false) p2 at2.hr (.bl _)
   |_=>exact p2.elim
  |_=>cases u<;>exact p2.elim
 .refine PT.imp (AZ xO xV ha hb hc hm) fun σ H Q ⟨ρ,h,ι,at',p⟩=>?_;simp only[dT,uS,bind_assoc] at p;refine⟨ρ,h,ι,at',(step at' p).mono fun x H1 ⟨w,h1,ι1,at1,e1,r1,p1⟩=>⟨ρ,h1,ι1,at1,(step at1 p1).mono fun y H2 ⟨u,h2,ι2,at2,e2,r2,p2⟩=>?_⟩⟩;cases r1 with
  |int i=>
   cases r2 with
   |int j=>
    refine⟨i,j,rfl,rfl,_,rfl,?_⟩;dsimp only at p2;by_cases q:i<=j
    .rw[if_pos q] at p2;rw[if_pos (dG q)];rw[bind_assoc] at p2;refine⟨ρ,h2,ι2,at2,(step at2 p2).mono fun z H3 ⟨v,h3,ι3,at3,e3,r3,p3⟩=>?_⟩;cases r3 with
     |int k=>exact⟨j,k,rfl,rfl,_,rfl,au.self (a:=decide (j<k)) p3 at3.hr rfl⟩
     |_=>exact p3.elim
    .rw[if_neg q] at p2;rw[if_neg (by rw[aQ];exact q)];exact⟨_,rfl,au.self (a:=false) p2 at2.hr rfl⟩
   |_=>exact p2.elim
  |_=>cases u<;>exact p2.elim
theorem uu{K:W.Frag}{ι:Nat->Addr}{n:Nat}{H:L2.Hp}:∀(m:Nat)(lo:Int),aT K ι n H (Tw.upTo lo m) ((List.range m).map fun k=>V.int (lo+(k:Nat)))
 |0,_=>.nil
 |m+1,lo=>by
  rw[Tw.upTo,List.range_succ_eq_map,bx,List.map_map];have z:(fun k:Nat=>V.int (lo+(k:Nat))) ∘ Nat.succ=fun k:Nat=>V.int (lo+1+(k:Nat)):=by
   funext k;show V.int (lo+((k+1:Nat):Int))=_
   congr 1;omega
  rw[z];have e:lo+((0:Nat):Int)=lo:=by omega
  rw[e];exact .cons (.int lo) (uu m (lo+1))
theorem sD{acc:Array Value}{lo:Int}{m:Nat}(h:ItemsOf (fun i v=>∃t,v=.int (lo+i * 1) t) acc m):Vals ((List.range m).map fun k=>V.int (lo+(k:Nat))) acc.toList:=by
 obtain⟨hs,hi⟩:=h;have key:∀(l:List Value)(lo:Int),(∀j v,l[j]?=some v->∃t,v=Value.int (lo+(j:Nat) * 1) t)->Vals ((List.range l.length).map fun k=>V.int (lo+(k:Nat))) l:=by
  intro l
  induction l with
  |nil=>intro lo _;exact .nil
  |cons v r ih=>
   intro lo hl;rw[dw,List.range_succ_eq_map,bx,List.map_map];have z:(fun k:Nat=>V.int (lo+(k:Nat))) ∘ Nat.succ=fun k:Nat=>V.int (lo+1+(k:Nat)):=by
    funext k;show V.int (lo+((k+1:Nat):Int))=_
    congr 1;omega
   rw[z];obtain⟨t,e⟩:=hl 0 v rfl;refine .cons ⟨t,by rw[e];simp⟩ (ih (lo+1) fun j w hj=>?_);obtain⟨t,e⟩:=hl (j+1) w (by simpa using hj);exact⟨t,by rw[e];congr 1;omega⟩
 have:=key acc.toList lo fun j v hj=>hi j v (by simpa using hj)
 rwa [CY,hs] at this
theorem GK(cal:X.calm=true)(hg1:Gl X "list")(hm1:X.mg "list" = none)(hg2:Gl X "range")(hm2:X.mg "range" = none)(ha:PE X a (tE (zx X E) da))(hb:PE X b (tE (zx X E) db))(pa:aC a=true)(pb:aC b=true):
  PE X (.Call (.Name "list" p1) [.Call (.Name "range" p2) [a,b] [] pos2] [] pos) (tE (zx X E) fun ρ h=>(da ρ h).bind fun x h=>(db ρ h).bind fun y h=>match x,y with
   |.int i,.int j=>if 0<=i/\i<1000/\0<=j/\j<1000 then Tw.new (.lst (Tw.upTo i (j-i).toNat)) h else .bad
   |_,_=>.bad):=by
 intro pins s σ H Q I ⟨ρ,h,ι,at',p⟩;have st2:starEach [b] X.env=[(false,eval b X.env)]:=bE pb;have st1:starEach [a,b] X.env=(false,eval a X.env)::starEach [b] X.env:=bE pa;have PAx:=bU ha (bU hb eQ st2) st1;refine Call_ (jv I hg1 hm1 PyProof.Rows.boot_list (u4 (Calls.spliced_cons (Call_ (jv I hg2 hm2 boot_range (u4 (aG (PAx pos2 pins s σ H (fun vs H1=>∃i j h1 ι1,vs=[.int i,.int j]/\HR (zx X E) ι1 h1 H1/\(0<=i/\i<1000/\0<=j/\j<1000)/\au (zx X E) RE ι1 h1 H1 (Tw.new (.lst (Tw.upTo i (j-i).toNat)) h1) Q) I ?_) fun us s1 ⟨vs,H1,I1,r1,q1⟩=>?_) st1 (by rw[st2];rfl))))) rfl rfl))
 .refine⟨ρ,h,ι,at',(step at' p).mono fun x H1 ⟨w,h1,ι1,at1,e1,r1,p1⟩=>⟨ρ,h1,ι1,at1,(step at1 p1).mono fun y H2 ⟨u,h2,ι2,at2,e2,r2,p2⟩=>?_⟩⟩;cases r1 with
  |int i=>
   cases r2 with
   |int j=>
    dsimp only at p2;by_cases q:0<=i/\i<1000/\0<=j/\j<1000
    .rw[if_pos q] at p2;exact⟨i,j,h2,ι2,rfl,at2.hr,q,p2⟩
    .rw[if_neg q] at p2;exact p2.elim
   |_=>exact p2.elim
  |_=>cases u<;>exact p2.elim
 .obtain⟨i,j,h1,ι1,rfl,hr,hq,p1⟩:=q1;cases r1 with
  |cons ra rr=>
   cases rr with
   |cons rb rr=>
    cases rr;obtain⟨t,rfl⟩:=ra;obtain⟨t',rfl⟩:=rb;refine call_range_2 (Calls.spliced_nil ?_);have hn:Builtin.Range.rangeSize i j 1=(((j-i).toNat:Nat):Int):=by unfold Builtin.Range.rangeSize;rw[if_pos (by decide)];split<;>omega
    refine call_list_range (s:={s1 with heap:=s1.heap.push {cls:=.type "range",data:=.fields #[.int i t,.int j t',.int 1 s1.toks]},toks:=s1.toks+1}) (I1.ok.hd cal) (IsRange.new ..) (small_one (by omega) (by omega) (by omega) (by omega)) hn (by omega) fun h' tk acc' c' kp hg items=>?_;have hsz:s1.heap.objs.size<=(s1.heap.push {cls:=.type "range",data:=.fields #[.int i t,.int j t',.int 1 s1.toks]}).objs.size:=by rw[o9];omega
    have hf:H1 (s1.heap.push {cls:=.type "range",data:=.fields #[.int i t,.int j t',.int 1 s1.toks]}).objs.size=none:=I1.aD.fresh hsz;refine⟨.ref _,upd H1 _ (.lst ((List.range (j-i).toNat).map fun k=>V.int (i+(k:Nat)))),I1.laid (t':=tk) (fun b u e=>kp b u (bX _ e)) hsz ?_,rfl,au.lst p1 hr (uu _ _) _ hf⟩;exact⟨by rw[f7];simp;omega,acc'.toList,c',sD items,by simpa using hg⟩
end
end TwS
namespace TwS
open PySem L2 PyProof.Rows Builtin Builtin.ObjectAttr
abbrev str(x:Tw.S):Str:=⟨x.toArray⟩
structure XT(K:W.Frag)(C:Addr):Prop where
 ha:W.findIn K (.ref C) "__class__" = some (some (.builtin "object.__class__"))
 hn:W.specialIn K (.builtin "object.__class__") "__get__" = some (some (.builtin "getset_descriptor.__get__"))
 ht:W.takesIn K (.builtin "object.__class__")=some true
section
variable {prog:Program}{w:World}{A:Around}{E:ba}{s:Shared}{K:W.Frag}{x C:Addr}{ox:Obj}
theorem D8{Q:Option Value->Shared->Prop}(X:K.In s.heap)(I:W.InstAt s.heap x ox C od)(c:XC K C)(t:XT K C)(h:Q (some (.ref C)) {s with toks:=s.toks+1}):wpAny (model prog w) A (getAttr? (.ref x) "__class__") Q E s:=by
 obtain⟨cd,os,e1,e2,e3⟩:=c.mro;obtain⟨hh,g,d,tk,ost⟩:=s;have L0:=I.type (M:=model prog w);have L1:=sN (M:=model prog w) X c.ga;have L2:=sN (M:=model prog w) X c.gh;have hf:W.findObj K C od "__class__" = some (.bind (.builtin "getset_descriptor.__get__") (.builtin "object.__class__")):=by unfold W.findObj;rw[e1,gf,t.ha,gf];simp[t.hn,t.ht]
 have L3:=W.looks_find (M:=model prog w) X I hf;have LB:W.Looks (model prog w) hh (isInstance (.ref x) (.type "BaseException")) true:=L0.andThen (W.looks_mroIn X (c.sub (by decide)));have G:=PySem.F.excAttr_ValueError.ga;unfold getAttr? getAttrBy? getAttrBy;refine aj (wpAny_mkText (aj (pV (jW (aj (L0.at (aj (L1.at ?_))))))));show wpAny _ _ (getAttrByItsOwn _ _ _ _ _ _) _ _ _;unfold getAttrByItsOwn;refine aj (L2.at (aj (pV (jW ?_))));show wpAny _ _ (boundAndCalled _ _ _) _ _ _;unfold boundAndCalled;rw[G.bind];refine aj (aM (kf (codeAny_call_builtin G.plain PySem.F.entry_bexc_ga (@W.check_slot (model prog w) _ _ _ "BaseException.__getattribute__" "BaseException" "__getattribute__" (.ref x) [.str "__class__" tk] [] _ (by decide+kernel) (by decide+kernel) LB (PySem.F.args_bexc_ga _ _) ?_))));refine aj (aM (aj (aM (aj (L0.at (aj (L3.at ?_)))))));show wpAny _ _ (holding [_] (call _ [_,.ref x,.ref C]) >>= ret) _ _ _;refine aj (jW (kf (W.class_get (ox:=ox) (od:=od) X I (c.sub (by decide)) ?_)));refine aM ?_;show wpAny _ _ (handedOut (.ref C)) _ _ _;rw[W.handedOut_of rfl];exact aM (aM h)
theorem uc(c:XC K C)(t:XT K C):W.KitX K (.ref x) (.ref C) (fun h=>W.InstAt h x ox C od) where
 ty:=fun _ _ _ I=>I.type
 it:=fun _ _ X _=>by
  obtain⟨cd,os,e1,_⟩:=c.mro;unfold W.clsIn at e1;split at e1
  .rename_i c' d' cd' sl' ho;intro A' Q' E' s' k q;unfold isType loadHead;exact aj (wpAny_loadPart (k _ _ (X _ _ ho)) (aM q))
  .cases e1
 ne:=fun h tp dd its n sl X htp=>by
  obtain⟨cd,os,e1,_⟩:=c.mro;refine Bool.eq_false_iff.mpr fun q=>?_;have e:C=tp:=Value.ref.inj (iF.mp q);subst e;unfold W.clsIn at e1;split at e1
  .rename_i c' d' cd' sl' ho;have z:=(X _ _ ho).symm.trans htp;cases z
  .cases e1
 ca:=fun X I k=>D8 X I c t k
end
section
variable {X:Cx}{pins:aL}{σ:L2.St}{H:L2.Hp}{s:Shared}
theorem FR(I:Inv X pins σ H s)(he:H e=some (mI C dx e))(hd:XD H gs dx):∃o od,W.InstAt s.heap e o C od:=by
 obtain⟨⟨o,vs,a1,a2,a3,a4⟩,_,_⟩:=I.aD e _ he;have nc:W.notCls o:=by unfold W.notCls;rw[a4]
 cases dx with
 |none=>exact⟨o,none,a1,a2,nc,by rw[a3];trivial⟩
 |some d=>
  obtain⟨mA,n1,r1⟩:=I.aD d _ hd;obtain⟨od,ho,lk⟩:=rO n1;exact⟨o,some od,a1,a2,nc,by rw[a3];exact ho⟩
theorem rW:∀{ds:List Addr}{us:List Value},Vals (ds.map V.ref) us->us=ds.map Value.ref
 |[],us,r=>by cases r;rfl
 |d::ds,us,r=>by
  cases r with
  |cons a r=>cases a;rw[rW r];rfl
def N6(K:W.Frag):List V->L2.Hp->VK->Prop:=fun xs H Q=>∃e C dx gs y b,xs=[V.ref e,y]/\H e=some (mI C dx e)/\XD H gs dx/\XC K C/\XT K C/\
 ((∃D,y=V.ref D/\W.kitOne K (.ref C) (.ref D)=some b)\/(∃T,y=V.ty T/\W.kitOne K (.ref C) (.type T)=some b)\/∃(p:Addr) (ds:List Addr),y=V.ref p/\H p=some (.tup (ds.map V.ref))/\W.kitAny K (.ref C) (ds.map Value.ref)=some b)/\Q (.bl b) H
theorem uq:nO X (.builtin "isinstance") (N6 X.K):=by
 intro pins s σ H xs us Q I r ⟨e,C,dx,gs,y,b,ex,he,hd,c,t,k,q⟩;subst ex;obtain⟨u,w',rfl,ru,rw'⟩:=vals2 r;cases ru;obtain⟨o,od,J⟩:=FR I he hd;have fin:∀tk,EP X pins σ Q (Value.bool b) {s with toks:=tk}:=fun tk=>⟨.bl b,H,I.tok tk,rfl,q⟩;rcases k with ⟨D,rfl,k⟩|⟨T,rfl,k⟩|⟨p,ds,rfl,hp,k⟩
 .cases rw';exact W.kia_one (uc c t) I.dP J k (fun z=>nomatch z) fin
 .cases rw';exact W.kia_one (uc c t) I.dP J k (fun z=>nomatch z) fin
 .cases rw';obtain⟨z,vs,rv,⟨oc,od',oda,osl⟩,h1,h2,n,h3⟩:=I.aD p _ hp;have ev:=rW rv;simp only at h2 h3;subst h2 h3 ev;exact W.kia_tup (uc c t) I.dP J h1 k (fun z=>nomatch z) fin
end
theorem DJ:bootBuiltins "ValueError" = some (.type "ValueError"):=by decide+kernel
noncomputable def CM:List V->TA
 |[]=>xT
 |v::r=>sV (tC v) (CM r)
theorem zj:∀(vs:List V){Q:List V->L2.Hp->Prop},Q vs H->CM vs σ H Q
 |[],Q,q=>q
 |v::vs,Q,q=>zj (σ:=σ) vs (Q:=fun xs H2=>Q (v::xs) H2) q
theorem AN(h:n<=100):n<=sizeLine:=by rw[f7];omega
def Fj(e:Expr):Option (Str×Expr):=(gD e).bind fun r=>if r.1=("isinstance" : Str) then (oO r.2).bind fun q=>(bB q.1).map fun a=>(a,q.2) else none
theorem BR(h:Fj e=some r):∃p p2 pos,e=.Call (.Name "isinstance" p) [.Name r.1 p2,r.2] [] pos:=by
 obtain⟨⟨f,as⟩,e1,h⟩:=ir.mp h;dsimp only at h;by_cases c:f=("isinstance" : Str)
 .rw[if_pos c] at h;obtain⟨⟨x,y⟩,e2,h⟩:=ir.mp h;obtain⟨a,e3,rfl⟩:=kN.mp h;obtain⟨p,pos,z1⟩:=dj e1;have z2:=lh e2;obtain⟨p2,z3⟩:=br e3;dsimp only at z1 z2 z3⊢;exact⟨p,p2,pos,by rw[z1,z2,z3,c]⟩
 .rw[if_neg c] at h;cases h
noncomputable def pK:List Str->List Expr->Bool
 |[],es=>es.isEmpty
 |n::ns,es=>(ml es).any fun r=>decide (bB r.1=some n)&&pK ns r.2
end TwS
namespace TwS
open PySem L2 PyProof.Rows
section
variable {X:Cx}{E:XK}
theorem As{i:Nat}{ds cs:List Tw.S}{y:Str}{ye:Expr}{v0:V}{p p2 pos:Pos}(hg:Gl X "isinstance")(hm:X.mg "isinstance" = none)(hj:X.N[i]?=some y)(vj:oB X.env.scope y)(oj:okN y=true)(he:PE X ye (tC v0))(hst:starEach [ye] X.env=(false,eval ye X.env)::starEach [] X.env)
  (hk:∀d∈ds,∃C,X.mg (str d)=some (.ref C)/\XC X.K C/\XT X.K C/\((∃D,v0=V.ref D/\W.kitOne X.K (.ref C) (.ref D)=some (cs.contains d))\/∃T,v0=V.ty T/\W.kitOne X.K (.ref C) (.type T)=some (cs.contains d))):
  PE X (.Call (.Name "isinstance" p) [.Name y p2,ye] [] pos) (tE (zx X E) fun ρ h=>(match ρ[i]? with|some (some w)=>Tw.R.ok w h|_=>.bad).bind fun w h=>Tw.R.of ((Tw.mT w ds cs h).map .bl) h):=by
 refine PE.imp (o7 uq hg hm PyProof.Rows.boot_isinstance (bU (mK (i:=i) hj vj (okN.d oj).1 (okN.d oj).2) (bU he eQ hst) rfl) (he:=rfl) (hpl:=by rw[hst];rfl)) fun σ H Q ⟨ρ,h,ι,at',p⟩=>?_;dsimp only at p;cases e:ρ[i]? with
 |none=>rw[e] at p;exact p.elim
 |some ow=>
  cases ow with
  |none=>rw[e] at p;exact p.elim
  |some w=>
   simp only[e,Tw.R.af] at p;obtain⟨v,s1,rv⟩:=at'.st i w e;cases rv with
   | @ref a ha=>
    cases ea:h[a]? with
    |none=>simp only[Tw.mT,ea] at p;exact p.elim
    |some ob=>
     cases ob with
     |aI c fs=>
      simp only[Tw.mT,ea] at p;by_cases cd:ds.contains c=true
      .rw[if_pos cd] at p;obtain⟨C,m,xc,xt,k⟩:=hk c (Ci.mp cd);obtain⟨C0,dx,gs,m0,t0,d0,rf⟩:=at'.hr.obj a _ ea;have em:C0=C:=by
        have m0:X.mg (str c)=some (.ref C0):=m0;rw[m] at m0;cases m0;rfl
       subst em;refine⟨_,s1,ι a,C0,dx,gs,v0,cs.contains c,rfl,t0,d0,xc,xt,?_,au.self (a:=Tw.W.bl (cs.contains c)) p at'.hr (.bl _)⟩;rcases k with k|k
       .exact .inl k
       .exact .inr (.inl k)
      .rw[if_neg cd] at p;exact p.elim
     |_=>simp only[Tw.mT,ea] at p;exact p.elim
   |_=>exact p.elim
theorem GO{i:Nat}{ds cs:List Tw.S}{y:Str}{ye:Expr}{as:List Addr}{p p2 pos:Pos}(hg:Gl X "isinstance")(hm:X.mg "isinstance" = none)(hj:X.N[i]?=some y)(vj:oB X.env.scope y)(oj:okN y=true)(he:PE X ye (Hh (CM (as.map V.ref))))(hl:as.length<=100)(hst:starEach [ye] X.env=(false,eval ye X.env)::starEach [] X.env)
  (hk:∀d∈ds,∃C,X.mg (str d)=some (.ref C)/\XC X.K C/\XT X.K C/\W.kitAny X.K (.ref C) (as.map Value.ref)=some (cs.contains d)):
  PE X (.Call (.Name "isinstance" p) [.Name y p2,ye] [] pos) (tE (zx X E) fun ρ h=>(match ρ[i]? with|some (some w)=>Tw.R.ok w h|_=>.bad).bind fun w h=>Tw.R.of ((Tw.mT w ds cs h).map .bl) h):=by
 refine PE.imp (o7 uq hg hm PyProof.Rows.boot_isinstance (bU (mK (i:=i) hj vj (okN.d oj).1 (okN.d oj).2) (bU he eQ hst) rfl) (he:=rfl) (hpl:=by rw[hst];rfl)) fun σ H Q ⟨ρ,h,ι,at',p⟩=>?_;dsimp only at p;cases e:ρ[i]? with
 |none=>rw[e] at p;exact p.elim
 |some ow=>
  cases ow with
  |none=>rw[e] at p;exact p.elim
  |some w=>
   simp only[e,Tw.R.af] at p;obtain⟨v,s1,rv⟩:=at'.st i w e;cases rv with
   | @ref a ha=>
    cases ea:h[a]? with
    |none=>simp only[Tw.mT,ea] at p;exact p.elim
    |some ob=>
     cases ob with
     |aI c fs=>
      simp only[Tw.mT,ea] at p;by_cases cd:ds.contains c=true
      .rw[if_pos cd] at p;obtain⟨C,m,xc,xt,k⟩:=hk c (Ci.mp cd);obtain⟨C0,dx,gs,m0,t0,d0,rf⟩:=at'.hr.obj a _ ea;have em:C0=C:=by
        have m0:X.mg (str c)=some (.ref C0):=m0;rw[m] at m0;cases m0;rfl
       subst em;replace p:au (zx X E) RE ι h H (Tw.R.ok (Tw.W.bl (cs.contains c)) h) Q:=p;refine⟨_,s1,zj _ ⟨AN (by simpa using hl),fun a4 z4=>?_⟩⟩;obtain⟨r4,e4⟩:=at'.hr.grow (o:=.tup (as.map V.ref)) z4;exact⟨ι a,C0,dx,gs,.ref a4,cs.contains c,rfl,dU (o:=.tup (as.map V.ref)) z4 _ _ t0,XD.keep d0 (fun b u _=>dU (o:=.tup (as.map V.ref)) z4 b u),xc,xt,.inr (.inr ⟨a4,as,rfl,bP,k⟩),p _ _ _ e4 r4 (.bl _)⟩
      .rw[if_neg cd] at p;exact p.elim
     |_=>simp only[Tw.mT,ea] at p;exact p.elim
   |_=>exact p.elim
theorem Du:∀(ns:List Tw.S)(as:List Addr)(es:List Expr),pK (ns.map str) es=true->(∀n∈ns,Gl X (str n)/\(str n== ("__debug__" : Str))=false)->(ns.map fun n=>X.mg (str n))=(as.map fun a=>some (Value.ref a))->PA X es (CM (as.map V.ref))
 |[],[],es,h,_,_=>by
  rw[eh,pK] at h;rw[bT h];exact eQ
 |[],_::_,_,_,_,e=>nomatch e
 |_::_,[],_,_,_,e=>nomatch e
 |n::ns,a::as,es,h,g,e=>by
  rw[bx,pK] at h;replace h:=ay h;obtain⟨⟨x,r⟩,e1,h⟩:=h;obtain rfl:=eO e1;simp only[aE,aQ] at h;obtain⟨p3,z⟩:=br h.1;dsimp only at z⊢;rw[z];simp only[bx,tP] at e;have gn:=g n (by simp);exact bU (qY gn.1 e.1 rfl gn.2) (Du ns as r h.2 (fun m hm=>g m (by simp[hm])) e.2) rfl
end
inductive Fk where
 |fn (x:Str)
 |me (c m:Tw.S)
 |bQ
 deriving DecidableEq
structure Cfg where
 fns:List Fk
 cons:List (Str×Tw.W):=[]
 cU:List (Tw.S×List Tw.S):=[]
 hd:Bool:=false
 ie:List (Tw.S×List Tw.S):=[]
 nA:List (List Tw.S×List Tw.S):=[]
 ci:Nat->Stmt->Bool:=fun _ _=>false
 wk:Bool:=false
mutual
noncomputable def same:Tw.W->Tw.W->Bool
 |.aw,.aw=>true
 |.bl a,.bl b=>decide (a=b)
 |.int a,.int b=>decide (a=b)
 |.str a,.str b=>decide (a=b)
 |.tup xs,.tup ys=>nU xs ys
 |_,_=>false
noncomputable def nU:List Tw.W->List Tw.W->Bool
 |[],[]=>true
 |x::xs,y::ys=>same x y&&nU xs ys
 |_,_=>false
end
mutual
theorem vP:∀(x y:Tw.W),same x y=true->x=y
 |.aw,y,h=>by cases y<;>first|rfl|(simp[same] at h)
 |.bl a,y,h=>by cases y<;>simp[same] at h;rw[h]
 |.int a,y,h=>by cases y<;>simp[same] at h;rw[h]
 |.str a,y,h=>by cases y<;>simp[same] at h;rw[h]
 |.tup xs,y,h=>by
  cases y with
  |tup ys=>rw[same] at h;rw[uY xs ys h]
  |_=>simp[same] at h
 |.ref a,y,h=>by cases y<;>simp[same] at h
 |.lst a,y,h=>by cases y<;>simp[same] at h
theorem uY:∀(xs ys:List Tw.W),nU xs ys=true->xs=ys
 |[],[],_=>rfl
 |[],_::_,h=>by simp[nU] at h
 |_::_,[],h=>by simp[nU] at h
 |x::xs,y::ys,h=>by
  rw[nU,aE] at h;rw[vP x y h.1,uY xs ys h.2]
end
def A1(cf:Cfg)(x:Str)(w:Tw.W):Bool:=match cf.cons.lookup x with
 |some u=>same u w
 |none=>false
def n8:Tw.S:=[95,95,105,110,105,116,95,95]
noncomputable def LG:Tw.Op->Operator
 |.add=>.Add | .sub=>.Sub | .mul=>.Mult | .fdiv=>.FloorDiv | .mod=>.Mod | .pow=>.Pow
noncomputable def CC:Tw.Cp->CmpOp
 |.eq=>.Eq | .ne=>.NotEq | .lt=>.Lt | .le=>.LtE | .gt=>.Gt | .ge=>.GtE | .isin=>.In | .notin=>.NotIn | .notN=>.IsNot
noncomputable def HL:Tw.W->Const->Bool
 |.aw,.none=>true
 |.bl b,.bool c=>b== c
 |.int i,.int j=>decide (i=j)
 |.str x,.str y=>decide (y.cps.toList=x)&&x.all (fun c=>decide (c<0x110000))
 |_,_=>false
noncomputable def bN:Tw.B->Str
 |.len=> "len" | .list=> "list" | .int=> "int"
noncomputable def mN:Tw.Mt->Str
 |.append=> "append" | .pop=> "pop" | .rev=> "reverse"
noncomputable def Gs:Tw.Mt->Nat->Bool
 |.append,1=>true | .pop,0=>true | .rev,0=>true
 |_,_=>false
noncomputable def Hu:Expr->Bool
 |.IfExp .. => false
 |_=>true
def eK(e:Expr):Bool:=aC e&&Hu e
def jy(x:Str):Bool:=!(x== ("__debug__" : Str))
theorem fx(h:jy x=true):(x== ("__debug__" : Str))=false:=by unfold jy at h;simpa using h
noncomputable def isNil:Tw.Es->Bool
 |.nil=>true
 |_=>false
mutual
noncomputable def aS(cf:Cfg)(sc:Sc)(N:List Str):Tw.E->Expr->Bool
 |.var i,e=>(bB e).any fun x=>decide (N[i]?=some x)&&qF sc x&&jy x&&!(x== ("__classdict__" : Str))
 |.cst w,e=>(q9 e).any (fun c=>HL w c) || (bB e).any fun x=>gN sc x&&jy x&&A1 cf x w
 |.tup es,e=>(nM e).any fun xs=>fV cf sc N es xs&&decide (xs.length<=1000)
 |.lst es,e=>(C8 e).any fun xs=>fV cf sc N es xs&&decide (xs.length<=1000)
 |.eV es,e=>(y4 e).any fun r=>r.1.isEmpty&&r.2.isEmpty&&isNil es
 |.bin op a b,e=>(Dd e).any fun r=>decide (r.2.1=LG op)&&aS cf sc N a r.1&&aS cf sc N b r.2.2
 |.cmp op a b,e=>(yh e).any fun r=>decide (r.2.1=[CC op])&&(gY r.2.2).any fun y=>aC y&&aS cf sc N a r.1&&aS cf sc N b y
 |.and a b,e=>(uM e).any fun r=>sJ r.1&&(ml r.2.1).any fun q=>(ml q.2).any fun s=>eK q.1&&aS cf sc N a q.1&&(if s.2.isEmpty then eK s.1&&aS cf sc N b s.1 else aS cf sc N b (.BoolOp .And (s.1::s.2) r.2.2))
 |.or a b,e=>(uM e).any fun r=>!(sJ r.1)&&(ml r.2.1).any fun q=>(ml q.2).any fun s=>eK q.1&&aS cf sc N a q.1&&(if s.2.isEmpty then eK s.1&&aS cf sc N b s.1 else aS cf sc N b (.BoolOp .Or (s.1::s.2) r.2.2))
 |.not a,e=>(Gx e).any fun r=>CI r.1&&eK r.2&&aS cf sc N a r.2
 |.ite c a b,e=>(Ft e).any fun r=>eK r.1&&aS cf sc N c r.1&&aS cf sc N a r.2.1&&aS cf sc N b r.2.2
 |.idx a b,e=>(qu e).any fun r=>aC r.2&&aS cf sc N a r.1&&aS cf sc N b r.2
 |.sl a lo hi,e=>(qu e).any fun r=>(Cu r.2).any fun s=>s.2.2.isNone&&aS cf sc N a r.1&&xK cf sc N lo s.1&&xK cf sc N hi s.2.1
 |.call f es,e=>(gD e).any fun r=>decide (cf.fns[f]?=some (.fn r.1))&&gN sc r.1&&jy r.1&&!(r.2.isEmpty)&&fV cf sc N es r.2
 |.blt b a,e=>!cf.hd&&(gD e).any fun r=>(gY r.2).any fun y=>decide (r.1=bN b)&&gN sc r.1&&aC y&&aS cf sc N a y
 |.ik m o es,e=>(Ga e).any fun r=>decide (r.2.1=mN m)&&Gs m r.2.2.2.1.length&&(r.2.2.1.endLine== r.2.2.2.2.line)&&aC r.1&&nQ r.1&&aS cf sc N o r.1&&fV cf sc N es r.2.2.2.1
 |.comp el it c,e=>!cf.hd&&(uX e).any fun r=>(yH r.2.1).any fun g=>(bB g.1).any fun x=>wX N sc [x] r.2.2.1&&decide (c5 N [x]).Nodup&&aC g.2.1&&xM cf sc N false it g.2.1&&aS cf r.2.2.1.names (c5 N [x]) el r.1&&
   (match c with
    |.none=>g.2.2.isEmpty
    |.some d=>(gY g.2.2).any fun z=>eK z&&aS cf r.2.2.1.names (c5 N [x]) d z)
 |.bad,_=>true
 |.fld a x,e=>(nJ e).any fun r=>decide (r.2.1=⟨x.toArray⟩)&&vU.contains r.2.1&&aC r.1&&nQ r.1&&aS cf sc N a r.1
 |.mk c f es,e=>(gD e).any fun r=>decide (r.1=⟨c.toArray⟩)&&decide (cf.fns[f]?=some (.me c n8))&&gN sc r.1&&jy r.1&&fV cf sc N es r.2
 |.ki a ns ds cs,e=>match a with
  |.var i=>(Fj e).any fun r=>decide (N[i]?=some r.1)&&qF sc r.1&&okN r.1&&gN sc "isinstance" && decide ((ns,cs)∈cf.nA)&&ds.all (fun d=>(cf.cU.lookup d).isSome)&&((bB r.2).any (fun x=>decide (ns.map str=[x])&&gN sc x&&jy x) || (nM r.2).any fun es=>decide (2<=ns.length)&&decide (ns.length<=100)&&pK (ns.map str) es&&ns.all fun n=>gN sc (str n)&&jy (str n))
  |_=>false
 |.oo i es,e=>!cf.hd&&(gD e).any fun r=>decide (N[i]?=some r.1)&&qF sc r.1&&jy r.1&&!(r.1== ("__classdict__" : Str))&&!(r.2.isEmpty)&&fV cf sc N es r.2
 |.chain a b c,e=>(yh e).any fun r=>decide (r.2.1=[.LtE,.Lt])&&(oO r.2.2).any fun q=>aC q.1&&aC q.2&&aS cf sc N a r.1&&aS cf sc N b q.1&&aS cf sc N c q.2
 |.vk a b,e=>!cf.hd&&(gD e).any fun r=>(gY r.2).any fun y=>(gD y).any fun q=>(oO q.2).any fun z=>decide (r.1=("list" : Str))&&decide (q.1=("range" : Str))&&gN sc r.1&&gN sc q.1&&aC z.1&&aC z.2&&aS cf sc N a z.1&&aS cf sc N b z.2
noncomputable def fV(cf:Cfg)(sc:Sc)(N:List Str):Tw.Es->List Expr->Bool
 |.nil,xs=>xs.isEmpty
 |.cons e es,xs=>(ml xs).any fun r=>aC r.1&&aS cf sc N e r.1&&fV cf sc N es r.2
noncomputable def xK(cf:Cfg)(sc:Sc)(N:List Str):Tw.Eo->Option Expr->Bool
 |.none,o=>o.isNone
 |.some e,o=>o.any fun x=>aS cf sc N e x
noncomputable def xM(cf:Cfg)(sc:Sc)(N:List Str)(tp:Bool):Tw.It->Expr->Bool
 |.seq a,e=>aS cf sc N a e
 |.iT a,e=>(gD e).any fun r=>(gY r.2).any fun y=>decide (r.1=("range" : Str))&&gN sc r.1&&aC y&&aS cf sc N a y
 |.rev a,e=>(gD e).any fun r=>(gY r.2).any fun y=>decide (r.1=("reversed" : Str))&&gN sc r.1&&aC y&&aS cf sc N a y
end
noncomputable def cV:List Str:=["len", "list", "int", "isinstance", "range", "reversed"]
structure oQ(K:W.Frag)(mg:Str->Option Value)(cf:Cfg):Prop where
 exc:∀c fs,cf.cU.lookup c=some fs->∃C,mg (str c)=some (.ref C)/\XC K C/\XT K C
 ie:∀n cs,(n,cs)∈cf.ie->∃D,mg (str n)=some (.ref D)/\∀c fs C,cf.cU.lookup c=some fs->mg (str c)=some (.ref C)->W.exmOne K (.ref C) (.ref D)=some (cs.contains c)
 nA:∀ns cs,(ns,cs)∈cf.nA->(∃n D,ns=[n]/\mg (str n)=some (.ref D)/\∀c fs C,cf.cU.lookup c=some fs->mg (str c)=some (.ref C)->W.kitOne K (.ref C) (.ref D)=some (cs.contains c))\/
  (ns.map str=[("ValueError" : Str)]/\mg "ValueError" = none/\∀c fs C,cf.cU.lookup c=some fs->mg (str c)=some (.ref C)->W.kitOne K (.ref C) (.type "ValueError")=some (cs.contains c))\/
  ∃as:List Addr,2<=ns.length/\(ns.map fun n=>mg (str n))=(as.map fun a=>some (Value.ref a))/\∀c fs C,cf.cU.lookup c=some fs->mg (str c)=some (.ref C)->W.kitAny K (.ref C) (as.map Value.ref)=some (cs.contains c)
structure fJ(cf:Cfg)(C:Tw.Or)(CX:fR)(E:XK)(X:Cx):Prop where
 calm:cf.hd=false->X.calm=true
 units:X.A.units+100<cLine
 own:∀f x,cf.fns[f]?=some (.fn x)->∃k g fd ps,cD X.prog X.w X.K X.mg X.base CX k g fd ps (eJ X.K X.mg X.cl (C f))/\cz k X.A/\X.mg x=some (.ref g)/\W.keepIn X.K (.ref g)=true/\Binds X.K fd ps []
 me:∀f c m,cf.fns[f]?=some (.me c m)->∃k g fd ps A,cD X.prog X.w X.K X.mg X.base CX k g fd ps (eJ X.K X.mg X.cl (C f))/\cz (k+1) X.A/\X.mg ⟨c.toArray⟩=some (.ref A)/\GoodC X.K A/\(m=n8->Mk X.K A g)/\Binds X.K fd ps []
 con:∀x w,cf.cons.lookup x=some w->∃v u,X.mg x=some u/\RelV v u/\∀ι n H,RW X.K ι n H w v
 blt:∀x∈cV,X.mg x=none
 xf:oQ X.K X.mg cf
 pass:Passes CX X E
 never:∀outer H s e s',¬ CX outer H s E0 e s'
 je:cf.hd=false->∀i c,X.cl.fs i=some c->CK X CX C c
theorem fJ.comp(r:fJ cf C CX E X):fJ cf C CX E0 (bq X scope c x s H pins fp):=
 ⟨r.calm,r.units,r.own,r.me,r.con,r.blt,r.xf,fun _ _ _ _ _ _ _ h=>(r.never _ _ _ _ _ h).elim,r.never,r.je⟩
theorem fJ.yX(r:fJ cf C CX E X):fJ cf C CX E0 X.yX:=
 ⟨r.calm,r.units,r.own,r.me,r.con,r.blt,r.xf,fun _ _ _ _ _ _ _ h=>(r.never _ _ _ _ _ h).elim,r.never,r.je⟩
abbrev Lu(cf:Cfg):Cfg:={cf with fns:=[],hd:=true}
theorem fJ.hd(r:fJ cf C CX E X)(v:Value):fJ (Lu cf) C CX E0 (hX X v):=
 ⟨fun z=>(nomatch z),r.units,fun f x e=>(by simp at e),fun f c m e=>(by simp at e),r.con,r.blt,⟨r.xf.exc,r.xf.ie,r.xf.nA⟩,fun _ _ _ _ _ _ _ h=>(r.never _ _ _ _ _ h).elim,r.never,fun z=>nomatch z⟩
section
variable {cf:Cfg}{C:Tw.Or}{CX:fR}{E:XK}
def SE(C:Tw.Or)(E:XK)(X:Cx)(t:Tw.E)(e:Expr):Prop:=PE X e (tE (zx X E) (Tw.ag C t))/\(eK e=true->PT X e (tT (zx X E) (Tw.ag C t)))
theorem zJ(h:eK e=true):aC e=true:=by unfold eK at h;rw[aE] at h;exact h.1
theorem SE.val(h:PE X e (tE (zx X E) (Tw.ag C t)))(hv:CD e=true):SE C E X t e:=⟨h,fun hp=>DI h (y9 (zJ hp) hv)⟩
theorem GA(h:HL w c=true):SE C E X (.cst w) (.Constant c k p):=by
 refine SE.val ?_ rfl;rw[show Tw.ag C (.cst w)=fun _ h=>.ok w h from by funext ρ h;rw[Tw.qz]];cases w with
 |aw=>cases c<;>first|exact pT Gy fun _ _ _=>.aw|exact absurd (show false=true from h) jP
 |bl b=>
  cases c with
  |bool b'=>
   have h:(b== b')=true:=h;rw[iF] at h;subst h;exact pT KC fun _ _ _=>.bl _
  |_=>exact absurd (show false=true from h) jP
 |int i=>
  cases c with
  |int j=>
   have h:decide (i=j)=true:=h;rw[aQ] at h;subst h;exact pT HQ fun _ _ _=>.int _
  |_=>exact absurd (show false=true from h) jP
 |str x=>
  cases c with
  |str y=>
   have h:(decide (y.cps.toList=x)&&x.all (fun c=>decide (c<0x110000)))=true:=h;simp only[aE,aQ,jD] at h;obtain⟨rfl,h2⟩:=h;obtain⟨y⟩:=y;exact pT Ax fun ι n H=>by
    have:=RW.str (K:=X.K) (ι:=ι) (n:=n) (H:=H) y.toList h2;simpa using this
  |_=>exact absurd (show false=true from h) jP
 |_=>exact absurd (show false=true from h) jP
theorem E6(R:fJ cf C CX E X)(hg:Gl X x)(hd:(x== ("__debug__" : Str))=false)(h:A1 cf x w=true):SE C E X (.cst w) (.Name x p):=by
 unfold A1 at h;cases e:cf.cons.lookup x with
 |none=>rw[e] at h;exact absurd h jP
 |some u=>
  rw[e] at h;have e2:=vP u w h;subst e2;obtain⟨v,val,hm,rv,rw'⟩:=R.con x u e;refine SE.val ?_ rfl;rw[show Tw.ag C (.cst u)=fun _ h=>.ok u h from by funext ρ h;rw[Tw.qz]];exact pT (qY hg hm rv hd) rw'
theorem PT.bool(h:PT X (.BoolOp op xs p) t):PW X (.BoolOp op xs p) t:=fun _=>h
theorem no{P:Prop}(h:false=true):P:=absurd h jP
theorem HV(R:fJ cf C CX E X)(ha:SE C E X a x)(hb:SE C E X b y)(hp:aC y=true):SE C E X (.cmp op a b) (.Compare x [CC op] [y] p):=by
 have hu:X.A.units+1<cLine:=by have:=R.units;omega
 have key:∀{r:R2},cT X (compareOp (CC op)) r->(∀(ι:Nat->Addr)(h:Tw.Hp)(H:L2.Hp)(w u:Tw.W)(x y:V)(k:Bool)(Q:VK),HR (zx X E) ι h H->RW X.K ι h.length H w x->RW X.K ι h.length H u y->Tw.cmp op w u h=some k->Q (.bl k) H->r x y H Q)->SE C E X (.cmp op a b) (.Compare x [CC op] [y] p):=fun {r} ho hr=>by
  have z:=FN (pos:=p) (op:=op) ho hr ha.1 hb.1 (oC _ hp);have e:Tw.ag C (.cmp op a b)=fun ρ h=>(Tw.ag C a ρ h).bind fun x h=>(Tw.ag C b ρ h).bind fun y h=>Tw.R.of ((Tw.cmp op x y h).map .bl) h:=by funext ρ h;rw[Tw.kT]
  unfold SE;rw[e];exact⟨z.1,fun _=>z.2⟩
 cases op with
 |eq=>exact key (Hy (E:=E) R.units) L8
 |ne=>exact key (GQ (E:=E) R.units) Ma
 |lt=>exact key xV (sW fun w u h=>by cases w<;>cases u<;>rfl)
 |le=>exact key xO (sW fun w u h=>by cases w<;>cases u<;>rfl)
 |gt=>exact key Ke (sW (f:=fun i j=>decide (j<i)) fun w u h=>by cases w<;>cases u<;>rfl)
 |ge=>exact key JD (sW (f:=fun i j=>decide (j<=i)) fun w u h=>by cases w<;>cases u<;>rfl)
 |isin=>exact key (HN (E:=E) R.units) Nm
 |notin=>exact key (yR (E:=E) R.units) DV
 |notN=>exact key EV Gk
theorem HW(ha:SE C E X a x)(hb:SE C E X b y):SE C E X (.bin op a b) (.BinOp x (LG op) y p):=by
 refine SE.val ?_ rfl;rw[show Tw.ag C (.bin op a b)=fun ρ h=>(Tw.ag C a ρ h).bind fun x h=>(Tw.ag C b ρ h).bind fun y h=>Tw.bin op x y h from by funext ρ h;rw[Tw.gO]];cases op with
 |add=>exact Jq ha.1 hb.1
 |sub=>exact Ji ha.1 hb.1
 |mul=>exact Kg ha.1 hb.1
 |fdiv=>exact He ha.1 hb.1
 |mod=>exact Jo ha.1 hb.1
 |pow=>exact J5 ha.1 hb.1
theorem Ad(ha:SE C E X a x)(hx:eK x=true)(hb:PE X (.BoolOp .And (y::r) p) (tE (zx X E) (Tw.ag C b)))(hw:PW X (.BoolOp .And (y::r) p) (tT (zx X E) (Tw.ag C b))):
  SE C E X (.and a b) (.BoolOp .And (x::y::r) p):=by
 have e:Tw.ag C (.and a b)=wU (Tw.ag C a) (Tw.ag C b):=by funext ρ h;rw[Tw.vO];rfl
 unfold SE;rw[e];exact⟨Kx ha.1 hb,fun _=>(w_and (ha.2 hx) hw).pt⟩
theorem Dp(ha:SE C E X a x)(hx:eK x=true)(hb:PE X (.BoolOp .Or (y::r) p) (tE (zx X E) (Tw.ag C b)))(hw:PW X (.BoolOp .Or (y::r) p) (tT (zx X E) (Tw.ag C b))):
  SE C E X (.or a b) (.BoolOp .Or (x::y::r) p):=by
 have e:Tw.ag C (.or a b)=Dk (Tw.ag C a) (Tw.ag C b):=by funext ρ h;rw[Tw.y7];rfl
 unfold SE;rw[e];exact⟨MD ha.1 hb,fun _=>(w_or (ha.2 hx) hw).pt⟩
theorem Gq(ha:SE C E X a x)(hx:eK x=true):SE C E X (.not a) (.UnaryOp .Not x p):=by
 have e:Tw.ag C (.not a)=fun ρ h=>(Tw.ag C a ρ h).bind fun x h=>Tw.R.of ((Tw.truth h x).map fun b=>.bl (!b)) h:=by funext ρ h;rw[Tw.EC]
 unfold SE;rw[e];have z:=Kr (pos:=p) ha.1 (ha.2 hx);exact⟨z.1,fun _=>z.2⟩
theorem Fc(R:fJ cf C CX E X)(cal:X.calm=true)(hg:Gl X (bN b))(ha:SE C E X a y)(hy:aC y=true):SE C E X (.blt b a) (.Call (.Name (bN b) p) [y] [] pos):=by
 refine SE.val ?_ rfl;rw[show Tw.ag C (.blt b a)=fun ρ h=>(Tw.ag C a ρ h).bind fun x h=>Tw.builtin b x h from by funext ρ h;rw[Tw.D5]];have hst:starEach [y] X.env=(false,eval y X.env)::starEach [] X.env:=bE hy;cases b with
 |len=>exact xE (o7 tY hg (R.blt _ (by simp[cV,bN])) PySem.boot_len (bU ha.1 eQ hst) (by decide) (by decide) hst rfl) HH
 |list=>exact xE (rF tM hg (R.blt _ (by simp[cV,bN])) PyProof.Rows.boot_list (bU ha.1 eQ hst) (by decide) (by decide) hst rfl) EB
 |int=>exact xE (rF zD hg (R.blt _ (by simp[cV,bN])) PyProof.Rows.boot_int (bU ha.1 eQ hst) (by decide) (by decide) hst rfl) Hl
theorem Jz(hv:aC v=true)(hn:nQ v=true)(hl:(ap.endLine== cp.line)=true)(hst:starEach ys X.env=ys.map fun y=>(false,eval y X.env))(hy:ys.length<20):Me X v x ap ys cp:=by refine⟨jn hv hn,?_,hl⟩;rw[hst];simp only[backTo,List.map_map,aE];refine⟨⟨by simp,rfl⟩,?_⟩;rw[aQ];show ys.length+0+0<30;omega
end
section
variable {cf:Cfg}{C:Tw.Or}{CX:fR}{E:XK}
theorem wc(ha:SE C E X a x)(hx:eK x=true)(op:BoolOp):PE X (.BoolOp op [x] p) (tE (zx X E) (Tw.ag C a))/\PW X (.BoolOp op [x] p) (tT (zx X E) (Tw.ag C a)):=by
 refine⟨FO ha.1,?_⟩;cases op with
 |And=>exact Eg (ha.2 hx)
 |Or=>exact GY (ha.2 hx)
theorem Be(N:List Str)(x:List Str)(i:Nat):(c5 N x)[N.length+i]?=x[i]?:=by unfold c5;rw[mC (by simp)];simp
theorem ve(hnd:(c5 X.N [x]).Nodup)(cs:gu X.N X.env.scope [x] scope):∀C s H pins fp,PG (bq X scope C [x] s H pins fp) (.Name x px) (iN X.N.length):=fun C s H pins fp=>
 qE hnd (show (c5 X.N [x])[X.N.length]?=some x by have:=Be X.N [x] 0;simpa using this) (.inl (lookup_relabel_local (cs.ki x (by simp)))) (.inr (lookup_relabel_local (cs.ki x (by simp))))
theorem zf(h:sJ o=true):o=.And:=by cases o<;>first|rfl|cases h
theorem Bd(h:sJ o=false):o=.Or:=by cases o<;>first|rfl|cases h
theorem cn(h:fV cf sc N .nil ys=true):ys=[]:=by exact bT h
theorem cc(h:fV cf sc N (.cons t ts) ys=true):∃y r,ys=y::r/\aC y=true/\aS cf sc N t y=true/\fV cf sc N ts r=true:=by replace h:=ay h;obtain⟨⟨x,r⟩,e1,h⟩:=h;simp only[aE] at h;exact⟨x,r,eO e1,h.1.1,h.1.2,h.2⟩
theorem L7(m:Tw.Mt)(o:Tw.E):Tw.ag C (.ik m o .nil)=we m (Tw.ag C o):=by
 funext ρ h;rw[Tw.qX];unfold we
 congr 1
theorem MM(m:Tw.Mt)(o e1:Tw.E):Tw.ag C (.ik m o (.cons e1 .nil))=Fz m (Tw.ag C o) (Tw.ag C e1):=by
 funext ρ h;rw[Tw.qX];unfold Fz
 congr 1
 funext x h
 congr 1
 rw[Tw.ai];cases Tw.ag C e1 ρ h with
 |ok a h=>simp
 |_=>rfl
theorem wa{sc:Sc}{N:List Str}{el:Tw.E}{it:Tw.It}{c:Tw.Eo}{e:Expr}(h:aS cf sc N (.comp el it c) e=true):(!cf.hd)=true/\((uX e).any fun r=>(yH r.2.1).any fun g=>(bB g.1).any fun x=>wX N sc [x] r.2.2.1&&decide (c5 N [x]).Nodup&&aC g.2.1&&xM cf sc N false it g.2.1&&aS cf r.2.2.1.names (c5 N [x]) el r.1&&
   (match c with
    |.none=>g.2.2.isEmpty
    |.some d=>(gY g.2.2).any fun z=>eK z&&aS cf r.2.2.1.names (c5 N [x]) d z))=true:=by
 cases c<;>exact qe.mp h
mutual
theorem aY:∀(t:Tw.E){E:XK}{sc:Sc}{N:List Str}{X:Cx}{e:Expr},fJ cf C CX E X->eB sc N X->aS cf sc N t e=true->SE C E X t e
 |.var i,E,sc,N,X,e,R,S,h=>by
  replace h:=ay h;obtain⟨x,e1,h⟩:=h;obtain⟨p,rfl⟩:=br e1;simp only[aE,aQ,ku] at h;refine SE.val ?_ rfl;exact J4 (by rw[S.n];exact h.1.1.1) (S.m7 x h.1.1.2) (fx h.1.2) h.2
 |.cst w,E,sc,N,X,e,R,S,h=>by
  replace h:=(zg _ _).mp h;rcases h with h|h
  .replace h:=ay h;obtain⟨c,e1,h⟩:=h;obtain⟨k,p,rfl⟩:=oI e1;exact GA h
  .replace h:=ay h;obtain⟨x,e1,h⟩:=h;obtain⟨p,rfl⟩:=br e1;simp only[aE] at h;exact E6 R (S.gl _ h.1.1) (fx h.1.2) h.2
 |.tup es,E,sc,N,X,e,R,S,h=>by
  replace h:=ay h;obtain⟨xs,e1,h⟩:=h;obtain⟨k,p,rfl⟩:=mF e1;simp only[aE,aQ] at h;obtain⟨_,z⟩:=lL es R S h.1;refine SE.val ?_ rfl;exact JQ z (by rw[f7];omega)
 |.lst es,E,sc,N,X,e,R,S,h=>by
  replace h:=ay h;obtain⟨xs,e1,h⟩:=h;obtain⟨p,rfl⟩:=yW e1;simp only[aE,aQ] at h;obtain⟨_,z⟩:=lL es R S h.1;refine SE.val ?_ rfl;exact Jk z (by rw[f7];omega)
 |.eV es,E,sc,N,X,e,R,S,h=>by
  replace h:=ay h;obtain⟨⟨ks,vs⟩,e1,h⟩:=h;obtain⟨p,rfl⟩:=xh e1;simp only[aE] at h;obtain⟨⟨h1,h2⟩,h3⟩:=h;obtain rfl:=bT (show ks.isEmpty=true from h1);obtain rfl:=bT (show vs.isEmpty=true from h2);cases es with
  |cons _ _=>exact no h3
  |nil=>
   refine SE.val ?_ rfl;have e:Tw.ag C (.eV .nil)=Mi []:=by funext ρ h;rw[Tw.DP,Tw.lH];rfl
   rw[e];exact FT
 |.bin op a b,E,sc,N,X,e,R,S,h=>by
  replace h:=ay h;obtain⟨⟨x,o,y⟩,e1,h⟩:=h;obtain⟨p,rfl⟩:=Ah e1;simp only[aE,aQ] at h;obtain⟨⟨rfl,h1⟩,h2⟩:=h;exact HW (aY a R S h1) (aY b R S h2)
 |.cmp op a b,E,sc,N,X,e,R,S,h=>by
  replace h:=ay h;obtain⟨⟨x,os,ys⟩,e1,h⟩:=h;obtain⟨p,rfl⟩:=rA e1;simp only[aE,aQ] at h;obtain⟨rfl,h⟩:=h;replace h:=ay h;obtain⟨y,e2,h⟩:=h;obtain rfl:=ez e2;simp only[aE] at h;exact HV R (aY a R S h.1.2) (aY b R S h.2) h.1.1
 |.and a b,E,sc,N,X,e,R,S,h=>by
  replace h:=ay h;obtain⟨⟨o,xs,p⟩,e1,h⟩:=h;obtain rfl:=p5 e1;simp only[aE] at h;obtain⟨h0,h⟩:=h;obtain rfl:=zf h0;replace h:=ay h;obtain⟨⟨x,r⟩,e2,h⟩:=h;obtain rfl:=eO e2;replace h:=ay h;obtain⟨⟨y,r⟩,e3,h⟩:=h;obtain rfl:=eO e3;simp only[aE] at h;obtain⟨⟨h0,h1⟩,h2⟩:=h;cases c:r.isEmpty with
  |true=>
   obtain rfl:=bT c;have h2:(eK y&&aS cf sc N b y)=true:=h2;rw[aE] at h2;have z:=wc (p:=p) (aY b R S h2.2) h2.1 .And;exact Ad (aY a R S h1) h0 z.1 z.2
  |false=>
   rw[c,if_neg (by decide)] at h2;have z:=aY b R S h2;exact Ad (aY a R S h1) h0 z.1 (PT.bool (z.2 rfl))
 |.or a b,E,sc,N,X,e,R,S,h=>by
  replace h:=ay h;obtain⟨⟨o,xs,p⟩,e1,h⟩:=h;obtain rfl:=p5 e1;simp only[aE,ku] at h;obtain⟨h0,h⟩:=h;obtain rfl:=Bd h0;replace h:=ay h;obtain⟨⟨x,r⟩,e2,h⟩:=h;obtain rfl:=eO e2;replace h:=ay h;obtain⟨⟨y,r⟩,e3,h⟩:=h;obtain rfl:=eO e3;simp only[aE] at h;obtain⟨⟨h0,h1⟩,h2⟩:=h;cases c:r.isEmpty with
  |true=>
   obtain rfl:=bT c;have h2:(eK y&&aS cf sc N b y)=true:=h2;rw[aE] at h2;have z:=wc (p:=p) (aY b R S h2.2) h2.1 .Or;exact Dp (aY a R S h1) h0 z.1 z.2
  |false=>
   rw[c,if_neg (by decide)] at h2;have z:=aY b R S h2;exact Dp (aY a R S h1) h0 z.1 (PT.bool (z.2 rfl))
 |.not a,E,sc,N,X,e,R,S,h=>by
  replace h:=ay h;obtain⟨⟨o,x⟩,e1,h⟩:=h;obtain⟨p,rfl⟩:=B0 e1;simp only[aE] at h;obtain⟨⟨h0,h1⟩,h2⟩:=h;obtain rfl:=z6 h0;exact Gq (aY a R S h2) h1
 |.ite c a b,E,sc,N,X,e,R,S,h=>by
  replace h:=ay h;obtain⟨⟨z,x,y⟩,e1,h⟩:=h;obtain⟨p,rfl⟩:=Bm e1;simp only[aE] at h;obtain⟨⟨⟨h0,h1⟩,h2⟩,h3⟩:=h;refine⟨?_,fun z=>?_⟩
  .rw[show Tw.ag C (.ite c a b)=fun ρ h=>(Tw.ag C c ρ h).bind fun x h=>match Tw.truth h x with
    |some true=>Tw.ag C a ρ h
    |some false=>Tw.ag C b ρ h
    |none=>.bad from by funext ρ h;rw[Tw.vW]<;>rfl]
   exact Ka ((aY c R S h1).2 h0) (aY a R S h2).1 (aY b R S h3).1
  .simp[eK,Hu] at z
 |.idx a b,E,sc,N,X,e,R,S,h=>by
  replace h:=ay h;obtain⟨⟨x,y⟩,e1,h⟩:=h;obtain⟨p,rfl⟩:=nu e1;simp only[aE] at h;refine SE.val ?_ rfl;exact Kc (by have:=R.units;omega) (aY a R S h.1.2).1 (aY b R S h.2).1 (AO h.1.1)
 |.sl a lo hi,E,sc,N,X,e,R,S,h=>by
  replace h:=ay h;obtain⟨⟨x,y⟩,e1,h⟩:=h;obtain⟨p,rfl⟩:=nu e1;replace h:=ay h;obtain⟨⟨l,u,s⟩,e2,h⟩:=h;obtain⟨p2,rfl⟩:=zy e2;simp only[aE,rn] at h;obtain⟨⟨⟨rfl,h1⟩,h2⟩,h3⟩:=h;refine SE.val ?_ rfl;exact EH (aY a R S h1).1 (CO lo R S h2) (CO hi R S h3)
 |.call f es,E,sc,N,X,e,R,S,h=>by
  replace h:=ay h;obtain⟨⟨x,as⟩,e1,h⟩:=h;obtain⟨p,pos,rfl⟩:=dj e1;simp only[aE,aQ,ku] at h;obtain⟨⟨⟨⟨h0,h1⟩,h2⟩,hn⟩,h3⟩:=h;obtain⟨y,ys,rfl⟩:=p7 hn;obtain⟨hp,z⟩:=lL es R S h3;obtain⟨k,g,fd,ps,G,hr,hm,hk,hb⟩:=R.own f x h0;refine SE.val ?_ rfl;have hp':aC y=true/\ys.all aC=true:=by rw[lD,aE] at hp;exact hp
  refine s_call G R.pass hr (S.gl x h1) hm hk hb z (fx h2) (bE hp'.1) ?_;rw[jE hp'.2];simp[backTo]
 |.blt b a,E,sc,N,X,e,R,S,h=>by
  replace h:=qe.mp h;obtain⟨hd,h⟩:=h;have cal:=R.calm (by simpa using hd);replace h:=ay h;obtain⟨⟨x,as⟩,e1,h⟩:=h;obtain⟨p,pos,rfl⟩:=dj e1;replace h:=ay h;obtain⟨y,e2,h⟩:=h;obtain rfl:=ez e2;simp only[aE,aQ] at h;obtain⟨⟨⟨rfl,h2⟩,h3⟩,h4⟩:=h;exact Fc R cal (S.gl _ h2) (aY a R S h4) h3
 |.ik m o es,E,sc,N,X,e,R,S,h=>by
  replace h:=ay h;obtain⟨⟨v,x,ap,ys,cp⟩,e1,h⟩:=h;obtain rfl:=Ba e1;simp only[aE,aQ] at h;obtain⟨⟨⟨⟨⟨⟨rfl,h1⟩,h2⟩,h3⟩,h4⟩,h5⟩,h6⟩:=h;have ho:=(aY o R S h5).1;have hu:X.A.units+1<cLine:=by have:=R.units;omega
  refine SE.val ?_ rfl;cases es with
  |nil=>
   obtain rfl:=cn h6;rw[L7];cases m with
   |rev=>exact Kn (jn h3 h4) h2 ho
   |pop=>exact s_pop (jn h3 h4) h2 ho
   |_=>exact no h1
  |cons t1 es=>
   obtain⟨y,r,rfl,p1,q1,q2⟩:=cc h6;cases es with
   |nil=>
    obtain rfl:=cn q2;have hst:starEach [y] X.env=[(false,eval y X.env)]:=bE p1;have he:=(aY t1 R S q1).1;have me:Me X v (mN m) ap [y] cp:=Jz h3 h4 h2 (by rw[hst];rfl) (by simp);rw[MM];cases m with
    |append=>exact Bh me hst ho he
    |_=>exact no h1
   |cons t2 es=>
    obtain⟨y2,r,rfl,p2,q4,q3⟩:=cc q2;cases m<;>exact no h1
 |.comp el it c,E,sc,N,X,e,R,S,h=>by
  replace h:=wa h;obtain⟨hd,h⟩:=h;have cal:=R.calm (by simpa using hd);replace h:=ay h;obtain⟨⟨y,gs,scope,pos⟩,e1,h⟩:=h;obtain rfl:=pN e1;replace h:=ay h;obtain⟨⟨tg,iter,ifs⟩,e2,h⟩:=h;obtain rfl:=si e2;replace h:=ay h;obtain⟨x,e3,h⟩:=h;obtain⟨px,rfl⟩:=br e3;simp only[aE,aQ] at h;obtain⟨⟨⟨⟨⟨h0,h1⟩,h2⟩,h3⟩,h4⟩,h5⟩:=h;have cs:=yU S h0;have hk:scope.kind=.function:=cs.kind;have hnd:(c5 X.N [x]).Nodup:=by rw[S.n];exact h1
  have sees:∀{Cc:Addr}{s:Shared}{H:L2.Hp}{pins:aL}{fp:List Addr},eB scope.names (c5 N [x]) (bq X scope Cc [x] s H pins fp):=fun {Cc s H pins fp}=>by
   have z:=eB.comp (X:=X) (scope:=scope) (C:=Cc) (x:=[x]) (s:=s) (H:=H) (pins:=pins) (fp:=fp) hk;rw[S.n] at z;exact z
  refine SE.val ?_ rfl;have hev:Tw.ag C (.comp el it c)=tV HC (Tw.dJ C it) (Tw.gp C c) (Tw.ag C el):=by funext ρ h;rw[Tw.iw];rfl
  rw[hev];refine GV cal cs (ve hnd cs) (tO _ _) (AV it R S h3 (fun z=>nomatch z)) (jO h2) (fun Cc s H pins fp=>(aY el R.comp sees h4).1) ?_;cases c with
  |none=>
   obtain rfl:=bT (show ifs.isEmpty=true from h5);exact .inl ⟨rfl,fun ρ h=>by rw[Tw.fT]⟩
  |some d=>
   replace h5:=ay h5;obtain⟨z,e4,h5⟩:=h5;obtain rfl:=ez (show gY ifs=some z from e4);rw[aE] at h5;exact .inr ⟨z,Tw.ag C d,rfl,fun ρ h=>by rw[Tw.gM],fun Cc s H pins fp=>(aY d R.comp sees h5.2).2 h5.1⟩
 |.bad,E,sc,N,X,e,R,S,h=>by
  refine⟨?_,fun _=>?_⟩
  .rw[show Tw.ag C .bad=fun _ _=>.bad from by funext ρ h;rw[Tw.qK]];exact fun pins s σ H Q I ⟨ρ,h,ι,at',p⟩=>p.elim
  .rw[show Tw.ag C .bad=fun _ _=>.bad from by funext ρ h;rw[Tw.qK]];exact fun pins s σ H Q I ⟨ρ,h,ι,at',p⟩=>p.elim
 |.fld a x,E,sc,N,X,e,R,S,h=>by
  replace h:=ay h;obtain⟨⟨v,y,p⟩,e1,h⟩:=h;obtain rfl:=lq e1;simp only[aE,aQ] at h;obtain⟨⟨⟨⟨rfl,h1⟩,h2⟩,h3⟩,h4⟩:=h;refine SE.val ?_ rfl;exact Jx (by rw[xQ] at h1;simpa using h1) (jn h2 h3) (aY a R S h4).1
 |.mk c f es,E,sc,N,X,e,R,S,h=>by
  replace h:=ay h;obtain⟨⟨x,ys⟩,e1,h⟩:=h;obtain⟨p,pos,rfl⟩:=dj e1;simp only[aE,aQ] at h;obtain⟨⟨⟨⟨rfl,h0⟩,h1⟩,h2⟩,h3⟩:=h;obtain⟨hp,z⟩:=lL es R S h3;obtain⟨k,g,fd,ps,A,G,hr,hm,gc,hmk,hb⟩:=R.me f c n8 h0;refine SE.val ?_ rfl;rw[show Tw.ag C (.mk c f es)=fun ρ h=>(Tw.bS C es ρ h).bind fun xs h=>(C f (.ref h.length::xs) (h++[.ins c []])).bind fun r h'=>match r with
   |.aw=>.ok (.ref h.length) h'
   |_=>.bad from by funext ρ h;rw[Tw.HZ]<;>rfl]
  exact MN (hmk rfl) gc G R.pass hr (S.gl _ h1) hm hb z (fx h2) hp
 |.ki a ns ds cs,E,sc,N,X,e,R,S,h=>by
  cases a with
  |var i=>
   replace h:=ay h;obtain⟨⟨y,ye⟩,e1,h⟩:=h;obtain⟨p,p2,pos,rfl⟩:=BR e1;rw[aE] at h;obtain⟨h,h7⟩:=h;simp only[aE,aQ] at h;obtain⟨⟨⟨⟨⟨h1,h2⟩,h3⟩,h4⟩,h5⟩,h6⟩:=h;refine SE.val ?_ rfl;rw[show Tw.ag C (.ki (.var i) ns ds cs)=fun ρ h=>(match ρ[i]? with|some (some w)=>Tw.R.ok w h|_=>.bad).bind fun w h=>Tw.R.of ((Tw.mT w ds cs h).map .bl) h from by funext ρ h;rw[Tw.Ex,Tw.wb]<;>rfl];have hi:X.N[i]?=some y:=by rw[S.n];exact h1
   have hd:∀d∈ds,∃fs,cf.cU.lookup d=some fs:=fun d hd=>Bp.mp (jD.mp h6 d hd);have mi:X.mg "isinstance" = none:=R.blt _ (by simp[cV]);replace h7:=(zg _ _).mp h7;rcases h7 with h7|h7
   .replace h7:=ay h7;obtain⟨x,e2,h7⟩:=h7;obtain⟨px,rfl⟩:=br (show bB ye=some x from e2);simp only[aE,aQ] at h7;obtain⟨⟨h8,h9⟩,h10⟩:=h7;have hI:=R.xf.nA ns cs h5;rcases hI with ⟨n,D,rfl,m,k⟩|⟨en,m,k⟩|⟨as,l2,_⟩
    .obtain rfl:str n=x:=by simpa using h8
     refine As (v0:=.ref D) (S.gl _ h4) mi hi (S.m7 _ h2) h3 (qY (S.gl _ h9) m rfl (fx h10)) rfl fun d hd'=>?_;obtain⟨fs,ef⟩:=hd d hd';obtain⟨Cx,m1,xc,xt⟩:=R.xf.exc d fs ef;exact⟨Cx,m1,xc,xt,.inl ⟨D,rfl,k d fs Cx ef m1⟩⟩
    .obtain rfl:x= "ValueError" := by rw[en] at h8;exact (List.cons.inj h8).1.symm
     refine As (v0:=.ty "ValueError") (S.gl _ h4) mi hi (S.m7 _ h2) h3 (EO (S.gl _ h9) m DJ rfl (by decide) (by decide)) rfl fun d hd'=>?_;obtain⟨fs,ef⟩:=hd d hd';obtain⟨Cx,m1,xc,xt⟩:=R.xf.exc d fs ef;exact⟨Cx,m1,xc,xt,.inr ⟨_,rfl,k d fs Cx ef m1⟩⟩
    .have:=c9 List.length h8;simp at this;omega
   .replace h7:=ay h7;obtain⟨es,e2,h7⟩:=h7;obtain⟨kt,pt,rfl⟩:=mF (show nM ye=some es from e2);simp only[aE,aQ,jD] at h7;obtain⟨⟨⟨h8,h9⟩,h10⟩,h11⟩:=h7;have hI:=R.xf.nA ns cs h5;rcases hI with ⟨n,D,rfl,_⟩|⟨en,_⟩|⟨as,_,ea,k⟩
    .simp at h8
    .have:=c9 List.length en;simp at this;omega
    .refine GO (as:=as) (S.gl _ h4) mi hi (S.m7 _ h2) h3 (Aj (Du ns as es h10 (fun n hn=>⟨S.gl _ (h11 n hn).1,fx (h11 n hn).2⟩) ea)) (by have:=c9 List.length ea;simp at this;omega) rfl fun d hd'=>?_;obtain⟨fs,ef⟩:=hd d hd';obtain⟨Cx,m1,xc,xt⟩:=R.xf.exc d fs ef;exact⟨Cx,m1,xc,xt,k d fs Cx ef m1⟩
  |_=>exact no h
 |.oo i es,E,sc,N,X,e,R,S,h=>by
  replace h:=qe.mp h;obtain⟨hd,h⟩:=h;replace h:=ay h;obtain⟨⟨x,as⟩,e1,h⟩:=h;obtain⟨p,pos,rfl⟩:=dj e1;simp only[aE,aQ,ku] at h;obtain⟨⟨⟨⟨⟨h0,h1⟩,h2⟩,h3⟩,hn⟩,h4⟩:=h;obtain⟨y,ys,rfl⟩:=p7 hn;obtain⟨hp,z⟩:=lL es R S h4;refine SE.val ?_ rfl;exact EN (by rw[S.n];exact h0) (S.m7 _ h1) (fx h2) h3 (R.je (by simpa using hd)) R.pass z hp
 |.chain a b c,E,sc,N,X,e,R,S,h=>by
  replace h:=ay h;obtain⟨⟨x,os,ys⟩,e1,h⟩:=h;obtain⟨p,rfl⟩:=rA e1;rw[aE] at h;obtain⟨h0,h⟩:=h;obtain rfl:os=[.LtE,.Lt]:=sF h0;replace h:=ay h;obtain⟨⟨y,z⟩,e2,h⟩:=h;obtain rfl:=lh (show oO ys=some (y,z) from e2);simp only[aE] at h;obtain⟨⟨⟨⟨h1,h2⟩,h3⟩,h4⟩,h5⟩:=h;have q:=EL (pos:=p) (aY a R S h3).1 (aY b R S h4).1 (aY c R S h5).1 h1 h2;exact⟨q.1,fun _=>q.2⟩
 |.vk a b,E,sc,N,X,e,R,S,h=>by
  replace h:=qe.mp h;obtain⟨hd,h⟩:=h;replace h:=ay h;obtain⟨⟨x,as⟩,e1,h⟩:=h;obtain⟨p,pos,rfl⟩:=dj e1;replace h:=ay h;obtain⟨y,e2,h⟩:=h;obtain rfl:=ez e2;replace h:=ay h;obtain⟨⟨x2,as2⟩,e3,h⟩:=h;obtain⟨p2,pos2,rfl⟩:=dj e3;replace h:=ay h;obtain⟨⟨y1,y2⟩,e4,h⟩:=h;obtain rfl:=lh e4;simp only[aE,aQ] at h;obtain⟨⟨⟨⟨⟨⟨⟨rfl,rfl⟩,h1⟩,h2⟩,h3⟩,h4⟩,h5⟩,h6⟩:=h;refine SE.val ?_ rfl;exact GK (R.calm (by simpa using hd)) (S.gl _ h1) (R.blt _ (by simp[cV])) (S.gl _ h2) (R.blt _ (by simp[cV])) (aY a R S h5).1 (aY b R S h6).1 h3 h4
theorem lL:∀(ts:Tw.Es){E:XK}{sc:Sc}{N:List Str}{X:Cx}{es:List Expr},fJ cf C CX E X->eB sc N X->fV cf sc N ts es=true->es.all aC=true/\PA X es (tA (zx X E) es.length (Tw.bS C ts))
 |.nil,E,sc,N,X,es,R,S,h=>by
  obtain rfl:=bT h;refine⟨rfl,?_⟩;rw[show Tw.bS C .nil=fun _ h=>.ok [] h from by funext ρ h;rw[Tw.lH]];exact Kb
 |.cons t ts,E,sc,N,X,es,R,S,h=>by
  replace h:=ay h;obtain⟨⟨x,r⟩,e1,h⟩:=h;obtain rfl:=eO e1;simp only[aE] at h;obtain⟨⟨h0,h1⟩,h2⟩:=h;obtain⟨z1,z2⟩:=lL ts R S h2;refine⟨by rw[lD,h0,z1];rfl,?_⟩;exact Ge (aY t R S h1).1 z2 (bE h0)
theorem CO:∀(t:Tw.Eo){E:XK}{sc:Sc}{N:List Str}{X:Cx}{o:Option Expr},fJ cf C CX E X->eB sc N X->xK cf sc N t o=true->PO X o (zt (zx X E) (Tw.gp C t))
 |.none,E,sc,N,X,o,R,S,h=>by
  obtain rfl:=rn.mp h;rw[show Tw.gp C .none=fun _ h=>.ok none h from by funext ρ h;rw[Tw.fT]];exact Bf
 |.some t,E,sc,N,X,o,R,S,h=>by
  replace h:=ay h;obtain⟨x,rfl,h⟩:=h;exact Bj (aY t R S h).1
theorem AV:∀(t:Tw.It){E:XK}{sc:Sc}{N:List Str}{X:Cx}{tp:Bool}{tg e:Expr},fJ cf C CX E X->eB sc N X->xM cf sc N tp t e=true->(tp=true->∃es n p,tg=.Tuple es n p)->PI X tg e (tI (zx X E) (Tw.dJ C t))
 |.seq a,E,sc,N,X,tp,tg,e,R,S,h,ht=>by
  exact Kt (aY a R S h).1
 |.iT a,E,sc,N,X,tp,tg,e,R,S,h,ht=>by
  replace h:=ay h;obtain⟨⟨x,as⟩,e1,h⟩:=h;obtain⟨p,pos,rfl⟩:=dj e1;replace h:=ay h;obtain⟨y,e2,h⟩:=h;obtain rfl:=ez e2;simp only[aE,aQ] at h;obtain⟨⟨⟨rfl,h1⟩,h2⟩,h3⟩:=h;rw[show Tw.dJ C (.iT a)=fun ρ h=>(Tw.ag C a ρ h).bind fun x h=>match x with
   |.int j=>if Tw.iH j then .ok (.fix (Tw.upTo 0 j.toNat)) h else .bad
   |_=>.bad from by funext ρ h;rw[Tw.ly]<;>rfl]
  exact J8 (S.gl _ h1) (R.blt _ (by simp[cV])) (aY a R S h3).1 (bE h2)
 |.rev a,E,sc,N,X,tp,tg,e,R,S,h,ht=>by
  replace h:=ay h;obtain⟨⟨x,as⟩,e1,h⟩:=h;obtain⟨p,pos,rfl⟩:=dj e1;replace h:=ay h;obtain⟨y,e2,h⟩:=h;obtain rfl:=ez e2;simp only[aE,aQ] at h;obtain⟨⟨⟨rfl,h1⟩,h2⟩,h3⟩:=h;rw[show Tw.dJ C (.rev a)=fun ρ h=>(Tw.ag C a ρ h).bind fun x h=>match x with
   |.tup xs=>.ok (.fix xs.reverse) h
   |_=>.bad from by funext ρ h;rw[Tw.B6]<;>rfl]
  exact Kj (S.gl _ h1) (R.blt _ (by simp[cV])) (aY a R S h3).1 (bE h2)
end
end
def Jh(X:Cx)(c:Tw.S)(fs:List Tw.S):Prop:=∃C,X.mg (str c)=some (.ref C)/\fs=[]/\uG X.K C
section
variable {X:Cx}{E:XK}
theorem Cm(hx:X.ex=[])(hs:X.stack=X.env::X.outer)(hfm:X.env.frame=some X.env.locals)(hxe:X.xe=og X E)(cal:X.calm=true)(hm:X.mg (str c)=some (.ref C))(M:uG X.K C)(hg:Gl X (str c))(hdb:(str c== ("__debug__" : Str))=false):
  PS X (.Raise (some (.Call (.Name (str c) np) [.Constant (.str y) k p] [] cpos)) none pos) (dq (zx X E) fun _ h=>Tw.iE c [] [] h):=by
 refine PS.imp (yK (t:=sV (tC (.str y)) xT) hx hs hfm hxe M cal hg hm (bU Ax eQ rfl) hdb rfl rfl) fun D σ H ⟨ρ,h,ι,at',p⟩=>⟨by simp,fun ea z1=>?_⟩;obtain⟨r3,e3⟩:=at'.hr.F6 (u:=.aI c []) (o:=mI C none ea) z1 (fun _ _ z=>nomatch z) fun ι' n' H' kp fr eq=>⟨C,none,[],hm,eq,rfl,.nil⟩;have:=p _ _ e3 r3;rw[cg] at this;exact this
end
def qU(s:Stmt):Option (Expr×Expr):=(Iq s).bind fun r=>(gY r.1).map fun t=>(t,r.2.1)
theorem jV(h:qU s=some r):∃p,s=.Assign [r.1] r.2 p:=by obtain⟨⟨ts,v,p⟩,e1,h⟩:=ir.mp h;obtain⟨t,e2,rfl⟩:=kN.mp h;have z1:=BO e1;have z2:=ez e2;dsimp only at z1 z2⊢;exact⟨p,by rw[z1,z2]⟩
def Ct(cf:Cfg)(sc:Sc)(N:List Str)(t:Tw.Tb)(s:Stmt):Bool:=match t with
 |.uw f es=>(pB s).any fun r=>r.any fun e=>(gD e).any fun q=>decide (cf.fns[f]?=some (.fn q.1))&&gN sc q.1&&jy q.1&&!(q.2.isEmpty)&&fV cf sc N es q.2
noncomputable def kZ(cf:Cfg)(sc:Sc)(N:List Str):List Tw.Tb->List Stmt->Bool
 |[],ss=>ss.isEmpty
 |t::ts,ss=>(ml ss).any fun r=>Ct cf sc N t r.1&&kZ cf sc N ts r.2
def De(cf:Cfg)(sc:Sc)(N:List Str)(t:Tw.Hs)(s:Stmt):Bool:=match t with
 |.ret e=>(pB s).any fun r=>r.any fun x=>aS cf sc N e x
 |.set i e=>(qU s).any fun r=>(bB r.1).any fun y=>decide (N[i]?=some y)&&decide (sc.lookup y=some .local)&&aC r.2&&!(mX r.2)&&aS cf sc N e r.2
noncomputable def oy(cf:Cfg)(sc:Sc)(N:List Str):List Tw.Hs->List Stmt->Bool
 |[],ss=>ss.isEmpty
 |t::ts,ss=>(ml ss).any fun r=>De cf sc N t r.1&&oy cf sc N ts r.2
noncomputable def BI:ExceptHandler->Option (Str×Str×List Stmt)
 |.ExceptHandler (some t) (some n) b _=>(bB t).map fun x=>(x,n,b)
 |_=>none
theorem Cq(h:BI l=some r):∃p q,l=.ExceptHandler (some (.Name r.1 p)) (some r.2.1) r.2.2 q:=by
 obtain⟨t,n,b,q⟩:=l;cases t with
 |none=>cases h
 |some t=>
  cases n with
  |none=>cases h
  |some n=>
   obtain⟨x,e1,rfl⟩:=kN.mp h;obtain⟨p,rfl⟩:=br e1;exact⟨p,q,rfl⟩
noncomputable def mh(cf:Cfg)(sc:Sc)(N:List Str):List Tw.Hd->List ExceptHandler->Bool
 |[],l=>l.isEmpty
 |t::ts,l=>(ml l).any fun r=>(BI r.1).any fun h=>decide (h.1=str t.1)&&decide ((t.1,t.2.1)∈cf.ie)&&t.2.1.all (fun c=>(cf.cU.lookup c).isSome)&&gN sc h.1&&jy h.1&&decide (N[t.2.2.1]?=some h.2.1)&&decide (sc.lookup h.2.1=some .local)&&!(t.2.2.2.isEmpty)&&oy (Lu cf) sc N t.2.2.2 h.2.2&&mh cf sc N ts r.2
section
variable {cf:Cfg}{C:Tw.Or}{CX:fR}{E:XK}{sc:Sc}{N:List Str}{X:Cx}
theorem Kl(R:fJ cf C CX E X)(S:eB sc N X)(same:X.env.scope.names=sc)(nd:N.Nodup)(h:De cf sc N t s=true):PS X s (dq (zx X E) fun ρ h=>Tw.GG C ρ h t):=by
 cases t with
 |ret e=>
  replace h:=ay h;obtain⟨o,e1,h⟩:=h;obtain⟨p,rfl⟩:=lu e1;replace h:=ay h;obtain⟨x,rfl,h⟩:=h;exact CA (aY e R S h).1
 |set i e=>
  replace h:=ay h;obtain⟨⟨t,v⟩,e1,h⟩:=h;obtain⟨p,rfl⟩:=jV e1;replace h:=ay h;obtain⟨y,e2,h⟩:=h;obtain⟨py,rfl⟩:=br (show bB t=some y from e2);simp only[aE,aQ,ku] at h;obtain⟨⟨⟨⟨h1,h2⟩,h3⟩,h4⟩,h5⟩:=h;have hl:X.env.scope.names.lookup y=some .local:=by rw[same];exact h2
  exact Dj (by rw[S.n];exact nd) (by rw[S.n];exact h1) (.inl hl) (aY e R S h5).1 (iM h3 h4) (.inr hl)
theorem C4(R:fJ cf C CX E X)(S:eB sc N X)(same:X.env.scope.names=sc)(nd:N.Nodup):∀(ts:List Tw.Hs){ss:List Stmt},oy cf sc N ts ss=true->eE X ss (dq (zx X E) (Tw.oV C ts))
 |[],ss,h=>by
  rw[oy] at h;obtain rfl:=bT h;exact zC
 |t::ts,ss,h=>by
  rw[oy] at h;replace h:=ay h;obtain⟨⟨s,r⟩,e1,h⟩:=h;obtain rfl:=eO e1;rw[aE] at h;exact vG (Kl R S same nd h.1) (C4 R S same nd ts h.2)
abbrev XB(X:Cx)(pins:aL)(σ:L2.St)(EE:XK):ba:=fun ex s'=>∃H1 s1,Inv X pins σ H1 s1/\cO X.prog X.w X.stack H1 s1 EE ex s'
variable {pins:aL}{σ:L2.St}{H:L2.Hp}{s:Shared}{EE:XK}
theorem JY(R:fJ cf C (cO X.prog X.w) E X)(S:eB sc N X){f:Nat}{es:Tw.Es}{e:Expr}(hc:((gD e).any fun q=>decide (cf.fns[f]?=some (.fn q.1))&&gN sc q.1&&jy q.1&&!(q.2.isEmpty)&&fV cf sc N es q.2)=true)(I:Inv X pins σ H s)
  (h:tE ⟨X.K,X.mg,EE,X.cl⟩ (fun ρ h=>(Tw.bS C es ρ h).gy.bind fun xs h=>C f xs h) σ H Q):
  wpAny (model X.prog X.w) X.A (eval e X.env) (EP X pins σ Q) (XB X pins σ EE) s:=by
 replace hc:=ay hc;obtain⟨⟨x,as⟩,e1,hc⟩:=hc;obtain⟨p,cp,rfl⟩:=dj e1;simp only[aE,aQ,ku] at hc;obtain⟨⟨⟨⟨h0,h1⟩,h2⟩,hn⟩,h3⟩:=hc;obtain⟨y,ys,rfl⟩:=p7 hn;have S0:eB sc N X.yX:=⟨S.n,S.kind,S.m7,S.gl,S.cf⟩;obtain⟨hp,z⟩:=lL es R.yX S0 h3;obtain⟨k,g,fd,ps,G,hr,hm,hk,hb⟩:=R.own f x h0;rw[lD,aE] at hp;obtain⟨ρ,h,ι,at',p⟩:=h;dsimp only at p;refine jX (fY I (S.gl x h1) hm ?_ (fx h2));refine pU (h₀:=X.base) I.ok.mod.r8 hk (iJ (z cp pins s σ H (fun vs H1=>∃ws h1 ι1,HR ⟨X.K,X.mg,EE,X.cl⟩ ι1 h1 H1/\aT X.K ι1 h1.length H1 ws vs/\au ⟨X.K,X.mg,EE,X.cl⟩ RE ι1 h1 H1 (C f ws h1) Q) (I.lp _) ⟨ρ,h,ι,at'.ex,?_⟩)
  (fun us s1 ⟨vs,H1,I1,r1,ws,h1,ι1,r2,rr,p1⟩=>⟨I1.p9.dP,?_⟩) fun _ _ z=>False.elim z) (bE hp.1) (by rw[jE hp.2];simp[backTo])
 .cases e0:Tw.bS C es ρ h with
  |bad=>rw[e0] at p;exact p.elim
  |aI=>rw[e0] at p;exact p.elim
  |ok ws h1=>
   simp only[e0,Tw.R.dY,Tw.R.af] at p;exact fun ι1 H1 vs x1 r1 q1=>⟨ws,h1,ι1,HR.ex (E':=EE) r1,q1.1,au.later p x1⟩
 .have I2:=I1.p9;have hsp:eJ X.K X.mg X.cl (C f) vs H1 Q EE:=⟨ws,h1,ι1,r2,rr,p1⟩;have hlen:(us++[]).length=ps.length:=by
   rw[gI,<-r1.length];exact G.len _ _ _ _ hsp
  have hbs:=hb s1 us I2.dP hlen;rw[gI] at hbs;refine kf (ot (G.run X.A X.stack s1 H1 ⟨us,[]⟩ us _ Q EE hr I2.BL hbs r1 hsp) fun r s' hq=>?_);cases r with
  |error e=>exact⟨H1,s1,I2,hq⟩
  |ok fl=>
   cases fl with
   |ret u=>exact I2.after hq
   |next=>exact False.elim hq
   |brk=>exact False.elim hq
   |cont=>exact False.elim hq
def lR(K:Zk)(ι:Nat->Addr)(h:Tw.Hp)(H:L2.Hp)(ρ:Tw.Env)(σ:L2.St)(m:Tw.R Tw.Fl)(nx:L2.Hp->Prop)(rt:VK):Prop:=match m with
 |.ok (.next _) h'=>∀ι' H',Ext ι h H ι' h' H'->At K ι' h' H' ρ σ->nx H'
 |.ok (.ret w) h'=>∀ι' H' v,Ext ι h H ι' h' H'->HR K ι' h' H'->RW K.K ι' h'.length H' w v->rt v H'
 |.aI a h'=>∀ι' H',Ext ι h H ι' h' H'->HR K ι' h' H'->K.ex (.ref (ι' a)) none H'
 |_=>False
def K0(X:Cx)(pins:aL)(σ:L2.St)(nx:L2.Hp->Prop)(rt:VK)(f:Flow)(s':Shared):Prop:=match f with
 |.next=>∃H',Inv X pins σ H' s'/\nx H'
 |.ret u=>∃v H',Inv X pins σ H' s'/\RelV v u/\rt v H'
 |_=>False
theorem lR.later{K:Zk}{ι ι1:Nat->Addr}{h h1:Tw.Hp}{H H1:L2.Hp}{ρ:Tw.Env}{σ:L2.St}{m:Tw.R Tw.Fl}{nx:L2.Hp->Prop}{rt:VK}(p:lR K ι h H ρ σ m nx rt)(e:Ext ι h H ι1 h1 H1):lR K ι1 h1 H1 ρ σ m nx rt:=by
 cases m with
 |ok f h'=>
  cases f with
  |next _=>exact fun ι' H' e'=>p ι' H' (e.trans e')
  |ret w=>exact fun ι' H' v e'=>p ι' H' v (e.trans e')
  |_=>exact p
 |aI a h'=>exact fun ι' H' e' r=>p ι' H' (e.trans e') r
 |bad=>exact p
variable {ρ:Tw.Env}{h:Tw.Hp}{ι:Nat->Addr}{nx:L2.Hp->Prop}{rt:VK}
theorem Ku(R:fJ cf C (cO X.prog X.w) E X)(S:eB sc N X){t:Tw.Tb}{st:Stmt}(hc:Ct cf sc N t st=true)(I:Inv X pins σ H s)(at':At ⟨X.K,X.mg,EE,X.cl⟩ ι h H ρ σ)(p:lR ⟨X.K,X.mg,EE,X.cl⟩ ι h H ρ σ (Tw.uI C ρ h t) nx rt):
  wpAny (model X.prog X.w) X.A (exec st X.env) (K0 X pins σ nx rt) (XB X pins σ EE) s:=by
 have S0:eB sc N X.yX:=⟨S.n,S.kind,S.m7,S.gl,S.cf⟩;cases t with
 |uw f es=>
  replace hc:=ay hc;obtain⟨o,e1,hc⟩:=hc;obtain⟨rp,rfl⟩:=lu e1;replace hc:=ay hc;obtain⟨x,rfl,hc⟩:=hc;dsimp only[Tw.uI] at p;refine xZ (aG (JY R S hc I (Q:=rt) ⟨ρ,h,ι,at',?_⟩) fun v s1 ⟨x,H1,I1,r1,q1⟩=>⟨x,H1,I1,r1,q1⟩);dsimp only;rw[<-bind_assoc] at p;cases e0:((Tw.bS C es ρ h).gy.bind fun xs h=>C f xs h) with
  |bad=>rw[e0] at p;exact p.elim
  |aI a h1=>rw[e0] at p;exact p
  |ok w h1=>rw[e0] at p;exact p
theorem zO(R:fJ cf C (cO X.prog X.w) E X)(S:eB sc N X):∀(ts:List Tw.Tb){ss:List Stmt}{H:L2.Hp}{s:Shared}{h:Tw.Hp}{ι:Nat->Addr},kZ cf sc N ts ss=true->Inv X pins σ H s->At ⟨X.K,X.mg,EE,X.cl⟩ ι h H ρ σ->lR ⟨X.K,X.mg,EE,X.cl⟩ ι h H ρ σ (Tw.iI C ρ ts h) nx rt->
  wpAny (model X.prog X.w) X.A (execs ss X.env) (K0 X pins σ nx rt) (XB X pins σ EE) s
 |[],ss,H,s,h,ι,hc,I,at',p=>by
  rw[kZ] at hc;obtain rfl:=bT hc;exact pI ⟨H,I,p ι H (Ext.refl _ _ _) at'⟩
 |t::ts,ss,H,s,h,ι,hc,I,at',p=>by
  rw[kZ] at hc;replace hc:=ay hc;obtain⟨⟨s0,r⟩,e1,hc⟩:=hc;obtain rfl:=eO e1;rw[aE] at hc;rw[Tw.iI] at p;refine sO (aG (Ku (nx:=fun H'=>∃h1 ι',At ⟨X.K,X.mg,EE,X.cl⟩ ι' h1 H' ρ σ/\lR ⟨X.K,X.mg,EE,X.cl⟩ ι' h1 H' ρ σ (Tw.iI C ρ ts h1) nx rt) (rt:=rt) R S hc.1 I at' ?_) fun f s1 z=>?_)
  .cases e0:Tw.uI C ρ h t with
   |bad=>rw[e0] at p;exact p.elim
   |aI a h1=>rw[e0] at p;exact p
   |ok f h1=>
    rw[e0] at p;cases f with
    |next ρ'=>exact fun ι' H' e a=>⟨h1,ι',a,lR.later p e⟩
    |ret w=>exact p
    |brk _=>exact p.elim
    |cont _=>exact p.elim
  .cases f with
   |next=>obtain⟨H',I',h1,ι',a,q⟩:=z;exact zO R S ts hc.2 I' a q
   |ret u=>exact z
   |brk=>exact z.elim
   |cont=>exact z.elim
theorem vR:∀{hs:List Tw.Hd}{l:List ExceptHandler},mh cf sc N hs l=true->Tw.lx c hs=some r->∃fs,cf.cU.lookup c=some fs
 |[],_,_,e=>nomatch e
 |(n,cs,j,act)::hs,l,h,e=>by
  rw[mh] at h;replace h:=ay h;obtain⟨⟨x,r'⟩,e1,h⟩:=h;replace h:=ay h;obtain⟨y,e2,h⟩:=h;simp only[aE,aQ,jD] at h;rw[Tw.lx] at e;by_cases hc:cs.contains c=true
  .exact Bp.mp (h.1.1.1.1.1.1.1.2 c (Ci.mp hc))
  .rw[if_neg hc] at e;exact vR h.2 e
theorem wF(R:fJ cf C CX E X)(S:eB sc N X)(same:X.env.scope.names=sc)(nd:N.Nodup){ι3:Nat->Addr}(I:Inv X pins σ H s)(F:f9 X.prog X.w (bp X.stack) H s ea Ce dx .none H' s')(ef:cf.cU.lookup c=some fs)(hm:X.mg (str c)=some (.ref Ce))
  (ia:ι3 a=ea) (al:a<h3.length) (at3:At (zx X E) ι3 h3 H' ρ σ) (p:bG (zx X E) ι3 h3 H' ((Tw.oV C act (ρ.set j (some (.ref a))) h3).gy.bind fun fl h=>.ok (Tw.LF j fl) h) D):
  ∀{hs:List Tw.Hd}{l:List ExceptHandler},mh cf sc N hs l=true->Tw.lx c hs=some (j,act)->wpAny (model X.prog X.w) X.A (handleBy (.ref ea) X.env l) (SP X pins D) X.xe s'
 |[],_,_,e=>nomatch e
 |(n,cs,j',act')::hs,l,h,e=>by
  rw[mh] at h;replace h:=ay h;obtain⟨⟨x,r'⟩,e1,h⟩:=h;obtain rfl:=eO e1;replace h:=ay h;obtain⟨⟨y,hn,suite⟩,e2,h⟩:=h;obtain⟨py,ph,rfl⟩:=Cq (show BI x=some (y,hn,suite) from e2);simp only[aE,aQ,ku] at h;obtain⟨⟨⟨⟨⟨⟨⟨⟨⟨rfl,h2⟩,h3'⟩,h4⟩,h5⟩,h6⟩,h7⟩,h8⟩,h9⟩,h10⟩:=h;obtain⟨Mx,mm,ex⟩:=R.xf.ie n cs h2;have exm:=ex c fs Ce ef hm;rw[Tw.lx] at e;by_cases hc:cs.contains c=true
  .rw[if_pos hc] at e;cases e;rw[hc] at exm;have hN:X.N.Nodup:=by rw[S.n];exact nd
   have hj:X.N[j]?=some hn:=by rw[S.n];exact h6
   have hl:X.env.scope.names.lookup hn=some .local:=by rw[same];exact h7
   have jl:j<σ.length:=by rw[I.len];exact (ib.mp hj).1
   have hsu:∀v,eE (hX X v) suite (dq (zx (hX X v) E0) (Tw.oV C act)):=fun v=>C4 (R.hd v) ⟨S.n,S.kind,S.m7,S.gl,S.cf⟩ same nd act h9;cases suite with
   |nil=>
    obtain⟨b,bs,rfl⟩:=p7 h8;rw[oy] at h9;exact no h9
   |cons b₀ bs=>
    refine G3 (t:=dq ⟨X.K,X.mg,E0,X.cl⟩ (Tw.oV C act)) I F (S.gl _ h4) mm (fx h5) exm hN hj hl hsu {nx:=fun σ2 H2=>D.nx (σ2.set j none) H2,rt:=D.rt,bk:=fun σ2 H2=>D.bk (σ2.set j none) H2,ct:=fun σ2 H2=>D.ct (σ2.set j none) H2} ⟨ρ.set j (some (.ref a)),h3,ι3,?_,?_⟩ fun f s3 z=>?_
    .have:=(at3.ex (E':=E0)).set (w:=.ref a) (v:=.ref (ι3 a)) (.ref al) j;rw[ia] at this;exact this
    .cases e0:Tw.oV C act (ρ.set j (some (.ref a))) h3 with
     |bad=>rw[e0] at p;exact p.elim
     |aI=>rw[e0] at p;exact p.elim
     |ok fl h4=>
      rw[e0] at p;cases fl with
      |next ρ'=>exact fun ι' H'' σ' ex a=>p ι' H'' (σ'.set j none) ex (At.xU a.ex j none)
      |brk ρ'=>exact fun ι' H'' σ' ex a=>p ι' H'' (σ'.set j none) ex (At.xU a.ex j none)
      |cont ρ'=>exact fun ι' H'' σ' ex a=>p ι' H'' (σ'.set j none) ex (At.xU a.ex j none)
      |ret w=>exact fun ι' H'' v ex r rw=>p ι' H'' v ex r.ex rw
    .cases f with
     |next=>obtain⟨σ',H'',K1,q⟩:=z;exact km K1 hN hj hl fun s4 K2=>⟨_,H'',K2,q⟩
     |brk=>obtain⟨σ',H'',K1,q⟩:=z;exact km K1 hN hj hl fun s4 K2=>⟨_,H'',K2,q⟩
     |cont=>obtain⟨σ',H'',K1,q⟩:=z;exact km K1 hN hj hl fun s4 K2=>⟨_,H'',K2,q⟩
     |ret u=>obtain⟨v,σ',H'',K1,r,q⟩:=z;exact km K1 hN hj hl fun s4 K2=>⟨v,_,H'',K2,r,q⟩
  .rw[if_neg hc] at e;rw[wd] at hc;rw[hc] at exm;exact ET I F (S.gl _ h4) mm (fx h5) exm (wF R S same nd I F ef hm ia al at3 p h10 e)
theorem GP(R:fJ cf C (cO X.prog X.w) E X)(S:eB sc N X)(same:X.env.scope.names=sc)(nd:N.Nodup)(hs:X.stack=X.env::X.outer)(hfm:X.env.frame=some X.env.locals)(hb:kZ cf sc N b bd=true)(hh:mh cf sc N ie l=true)(ne:l≠ []):
  PS X (.Try bd l [] [] pos) (dq (zx X E) fun ρ h=>Tw.m5 ie C ρ (Tw.iI C ρ b h)):=by
 intro pins s σ H D I ⟨ρ,h,ι,at',p⟩;dsimp only at p;obtain⟨l0,lr,rfl⟩:∃l0 lr,l=l0::lr:=by
  cases l with
  |nil=>exact absurd rfl ne
  |cons x r=>exact⟨x,r,rfl⟩
 let EE:XK:=fun v _ H'=>∃a h3 ι3,Tw.iI C ρ b h=.aI a h3/\v=.ref (ι3 a)/\Ext ι h H ι3 h3 H'/\HR (zx X E) ι3 h3 H'
 refine wpAny_Try_except (iJ (zO (EE:=EE) (nx:=fun H'=>D.nx σ H') (rt:=D.rt) R S b hb I at'.ex ?_) (fun f s1 z=>?_) fun ex s2 z=>?_)
 .cases e0:Tw.iI C ρ b h with
  |bad=>rw[e0] at p;exact p.elim
  |aI a h3=>exact fun ι' H' ex r=>⟨a,h3,ι',e0,rfl,ex,HR.ex (E':=E) r⟩
  |ok f h1=>
   rw[e0] at p;cases f with
   |next ρ'=>exact fun ι' H' ex a=>p ι' H' σ ex a.ex
   |ret w=>exact fun ι' H' v ex r rw=>p ι' H' v ex (HR.ex (E':=E) r) rw
   |brk _=>exact p.elim
   |cont _=>exact p.elim
 .cases f with
  |next=>obtain⟨H',I',q⟩:=z;exact pI ⟨σ,H',I',q⟩
  |ret u=>obtain⟨v,H',I',r,q⟩:=z;exact⟨v,σ,H',I',r,q⟩
  |brk=>exact z.elim
  |cont=>exact z.elim
 .obtain⟨H1,s1,J,ea,Ce,dx,H',rfl,Fl,a,h3,ι3,eF,ev,ex3,r3⟩:=z;rw[eF] at p;simp only[Tw.m5] at p;cases ea':h3[a]? with
  |none=>rw[ea'] at p;exact p.elim
  |some ob=>
   rw[ea'] at p;cases ob with
   |aI c gs=>
    dsimp only at p;cases ep:Tw.lx c ie with
    |none=>rw[ep] at p;exact p.elim
    |some r=>
     obtain⟨j,act⟩:=r;rw[ep] at p;dsimp only at p;obtain⟨fs,ef⟩:=vR hh ep;obtain⟨C0,dx0,gs',m0,t0,d0,rf⟩:=r3.obj a _ ea';have ev:ι3 a=ea:=(Value.ref.inj ev).symm;have ei:Ce=C0:=by obtain⟨⟨o1,v1,b1,b2,b3,_⟩,_,_⟩:=Fl.aD _ _ Fl.tr;obtain⟨⟨o2,v2,c1,c2,c3,_⟩,_,_⟩:=Fl.aD _ _ t0;rw[ev,b1] at c1;cases c1;rw[b2] at c2;cases c2;rfl
     subst ei;exact Ea J hs hfm Fl fun s3 F3=>wF R S same nd J F3 ef m0 ev (eG ea') (at'.later ex3 r3) (bG.later p ex3) hh ep
   |_=>exact p.elim
end
noncomputable def eT(a:Arguments)(ns:List Str):Bool:=a.posonlyargs.isEmpty&&a.vararg.isNone&&a.kwonlyargs.isEmpty&&a.kw_defaults.isEmpty&&a.kwarg.isNone&&a.defaults.isEmpty&&decide (a.args.map (·.arg)=ns)&&a.args.all (fun x=>x.annotation.isNone)
theorem wV{a:Arguments}(h:eT a ns=true):a.defaults=[]/\a.kw_defaults=[]/\∀env,annTrees a none env=[]:=by
 obtain⟨po,ar,va,ko,kd,kw,df⟩:=a;simp only[eT,aE,aQ,yi,rn,jD] at h;obtain⟨⟨⟨⟨⟨⟨⟨h1,h2⟩,h3⟩,h4⟩,h5⟩,h6⟩,h7⟩,h8⟩:=h;subst h1 h2 h3 h4 h5 h6;refine⟨rfl,rfl,fun env=>?_⟩;have key:∀l:List Arg,(∀x∈l,x.annotation=none)->annotationsOf l env=[]:=by
  intro l
  induction l with
  |nil=>intro _;rfl
  |cons x r ih=>
   intro hx;obtain⟨n,an,p⟩:=x;obtain rfl:an=none:=hx _ (.head _);exact ih fun y hy=>hx y (.tail _ hy)
 show annotationsOf (ar++[]++[]++[]++[]) env++[]=[];simp only[gI];exact key ar h8
noncomputable def fC(b:Bool):List Str:=["part", "bound",if b then "kinds" else "within"]
theorem CV{name qual:Str}{a:Arguments}{body:List Stmt}{scope:Scope}{cl:List (Str×Addr)}{doc pm cdv ct:Value}(b:Bool)(h:eT a (fC b)=true):
  ∀us:List Value,us.length=(fC b).length->bindArgs (W.fnX name qual a body scope cl .none .none doc pm none cdv ct) ⟨us,[]⟩=pure ((fC b).zip us):=by
 obtain⟨po,ar,va,ko,kd,kw,df⟩:=a;simp only[eT,aE,aQ,yi,rn,jD] at h;obtain⟨⟨⟨⟨⟨⟨⟨h1,h2⟩,h3⟩,h4⟩,h5⟩,h6⟩,h7⟩,h8⟩:=h;subst h1 h2 h3 h4 h5 h6;intro us hl
 match us,hl with
 |[x,y,z],_=>
  match ar,h7 with
  |[⟨n1,a1,p1⟩,⟨n2,a2,p2⟩,⟨n3,a3,p3⟩],h7=>
   have h7: [n1,n2,n3]=fC b:=h7;unfold fC at h7⊢;cases h7;cases b<;>rfl
structure A3(X:Cx)(nm:Str):Prop where
 ex:∃c P,X.env.code=.ref c/\(∀h:Heap,X.K.In h->W.CodeHd h c P)/\⟨P,X.env.qual++nm⟩∈X.cl.tb/\(∀t∈X.cl.tb,t.P=P->t.q=X.env.qual++nm)
 bm:∃bm ob,X.mg "__builtins__" = some (.ref bm)/\bm≠builtinsNs/\bm≠mainGlobals/\X.K.lookup bm=some ob/\ob.cls=.type "module" /\ob.dict=some builtinsNs/\ob.data=.plain
theorem qf{pos p:Pos}{c cv:Value}:∀(l:List Value),TriplesOk l->codeAmong pos (l++[rawInt p.line,rawInt p.col,c])=some cv->codeAmong pos l=some cv\/cv=c
 |[],_,e=>by
  have e:(if ((p.line:Int)== (pos.line:Int)&&(p.col:Int)== (pos.col:Int))=true then some c else none)=some cv:=e;split at e
  .cases e;exact .inr rfl
  .cases e
 |.int a t:: .int b u::x::r,h,e=>by
  have e:(if (a== (pos.line:Int)&&b== (pos.col:Int))=true then some x else codeAmong pos (r++[rawInt p.line,rawInt p.col,c]))=some cv:=e;show (if (a== (pos.line:Int)&&b== (pos.col:Int))=true then some x else codeAmong pos r)=some cv\/_;split at e
  .next hc=>rw[if_pos hc];exact .inl e
  .next hc=>rw[if_neg hc];exact qf r h e
theorem nI{p:Pos}{c:Value}:∀(l:List Value),TriplesOk l->TriplesOk (l++[rawInt p.line,rawInt p.col,c])
 |[],_=>trivial
 |.int a t:: .int b u::x::r,h=>nI r h
section
variable {X:Cx}{E:XK}{pins:aL}{σ:L2.St}{H:L2.Hp}{s:Shared}{ι:Nat->Addr}{h:Tw.Hp}{j:Nat}
theorem FF{nm:Str}{params:Arguments}{body:List Stmt}{scope:Scope}{pos:Pos}{clos:List (Str×Addr)}(I:Inv X pins σ H s)(r:HR (zx X E) ι h H)(Wa:A3 X nm)(hp:eT params ns=true)(hN:X.N.Nodup)(hj:X.N[j]?=some nm)(hl:X.env.scope.names.lookup nm=some .local)
  (hcl:closureFor scope X.env=pure clos) {Q:Flow->Shared->Prop}
  (fi:∀g cd doc ctv H' s',Inv X (pins++[(g,W.fnMade nm (X.env.qual++nm) params body scope clos doc ((X.mg "__name__").getD .none) cd ctv)]) (σ.set j (some (.ref g))) H' s'->Ext ι h H ι h H'->HR (zx X E) ι h H'->eS H' cd (X.env.qual++nm)->Q .next s'):
  wpAny (model X.prog X.w) X.A (exec (.FunctionDef nm params body [] none [] scope none nm pos) X.env) Q X.xe s:=by
 obtain⟨hd,hk,ha⟩:=wV hp;refine W.nestDef_K hd hk (ha _) ?_;have hq:qualnameIn X.env nm nm=X.env.qual++nm:=by unfold qualnameIn;have:X.env.kindOf nm=some .local:=hl;rw[this];rfl
 rw[hq];obtain⟨c,P,ec,hC,hm,hu⟩:=Wa.ex;obtain⟨ps,eP,ht,hcs⟩:=r.tab _ hm;obtain⟨bm,ob,b1,b2,b3,b4,b5,b6,b7⟩:=Wa.bm;have hP:s.heap.get? P=some (W.tabObj ps):=I.aD P _ eP;have hns:=I.mod.glob.keeps I.bk;have hgP:mainGlobals≠P:=fun z=>by
  obtain⟨o,es,ep,e,hd,_⟩:=hns;rw[z,hP] at e;cases e;cases hd
 have hbP:bm≠P:=fun z=>by
  have e:=I.dP _ _ b4;rw[z,hP] at e;cases e;cases b5
 have hB:s.heap.BuiltinsAt X.mg P:=⟨bm,ob,b1,b2,b3,hbP,I.dP _ _ b4,b5,b6,b7⟩;have fin:∀(g cd:Addr)(doc ctv:Value)(H':L2.Hp)(s1:Shared),Inv X pins σ H' s1->s1.heap.get? g=some (W.fnMade nm (X.env.qual++nm) params body scope clos doc ((X.mg "__name__").getD .none) cd ctv)->H' g=none->s.heap.objs.size<=g->Ext ι h H ι h H'->HR (zx X E) ι h H'->eS H' cd (X.env.qual++nm)->
   wpAny (model X.prog X.w) X.A (storeName X.env nm (.ref g)) (fun _ s''=>Q .next s'') X.xe s1:=by
  intro g cd doc ctv H' s1 I1 eg hg hs e1 r1 hc1;have I2:Inv X (pins++[(g,W.fnMade nm (X.env.qual++nm) params body scope clos doc ((X.mg "__name__").getD .none) cd ctv)]) σ H' s1:=I1.n6 fun p hp=>by
   rcases kK.mp hp with hp|hp
   .exact I1.pin p (fU _ hp)
   .obtain rfl:=gH.mp hp;exact⟨eg,hg,nK (cH I.lt hs),I.Ig hs,fun v z=>nomatch z⟩
  exact sr (v:=.ref g) I2 hN hj (.inl hl) rfl (fun s' I3 _=>fi g cd doc ctv H' s' I3 e1 r1 hc1) (.inr hl)
 cases hf:codeAmong pos ps.toList with
 |some cv=>
  obtain⟨cd,rfl,hcd⟩:=hcs pos cv hf;refine W.makeFunction_hit (mg:=X.mg) hcl I.ok.glob hns ec (hC _ I.dP) hP ht hf hB fun ctv doc h' tk hk hsz=>?_;have hH:H h'.objs.size=none:=I.aD.fresh hsz;refine fin h'.objs.size cd doc ctv H _ (I.kept (t':=tk) fun b o e=>bX _ (hk b o e)) (gk _ rfl) hH hsz (Ext.refl _ _ _) r hcd
 |none=>
  refine W.makeFunction_K (mg:=X.mg) hcl I.ok.glob hns ec (hC _ I.dP) hP ht hf hgP hB fun c' ctv doc h' tk hx hge hlt hrec htb=>?_;obtain⟨c2,oc,vs,t,e2,hoc,hd,hv⟩:=hrec;cases e2;have hc':H c'=none:=I.aD.fresh hge;have hPl:P<s.heap.objs.size:=bC hP;have neP:P≠c':=dr (cH hPl hge);obtain⟨r1,x1⟩:=r.grow (o:=.bh oc (.own c')) hc';have eP1:upd H c' (.bh oc (.own c')) P=some (.eD ps):=by rw[aJ neP];exact eP
  have al:fj ι h P:=fun i o ei m z=>by
   obtain⟨u,q,_,_,_,_,n⟩:=r1.there ei m;rw[z,eP1] at q;cases q;exact n _ rfl
  have nt:∀b u,upd H c' (.bh oc (.own c')) b=some u->(∀ps,u≠.eD ps)->b≠P:=fun b u e n z=>by
   rw[z,eP1] at e;cases e;exact n _ rfl
  have r2:HR (zx X E) ι h (upd (upd H c' (.bh oc (.own c'))) P (.eD (ps++ #[rawInt pos.line,rawInt pos.col,.ref c']))):=
   r1.Ac al eP1 (fun _ z=>nomatch z) (fun _ _ z=>nomatch z) (fun _ z=>nomatch z) (fun _ z=>nomatch z) fun sf t' ht'=>by
    by_cases hz:t'.P=P
    .refine⟨_,by rw[hz];exact bP,by simpa using nI ps.toList ht,fun pos' cv e=>?_⟩;rw[hu t' ht' hz];rcases qf (p:=pos) (c:=.ref c') ps.toList ht (by simpa using e) with e|e
     .obtain⟨c3,z1,z2⟩:=hcs pos' cv e;exact⟨c3,z1,(z2.keep fun b o u=>dU hc' b _).keep sf⟩
     .exact⟨c',e,oc,vs,t,sf _ _ _ bP,hd,hv⟩
    .exact (r1.tab t' ht').keep sf fun ps e=>by rw[aJ hz];exact e
  have x2:Ext ι h (upd H c' (.bh oc (.own c'))) ι h (upd (upd H c' (.bh oc (.own c'))) P (.eD (ps++ #[rawInt pos.line,rawInt pos.col,.ref c']))):=
   ⟨aV _,fun _ _=>rfl,fun b u e n _=>by rw[aJ (nt b u e n)];exact e,fun i a b=>absurd b (jT.mpr a),kS,fun i o u e f=>by rw[e] at f;cases f;rfl⟩
  have hsz:s.heap.objs.size<=h'.objs.size:=bW hge (yv hlt);have kh:∀b o,b≠P->s.heap.get? b=some o->(h'.push (W.fnMade nm (X.env.qual++nm) params body scope clos doc ((X.mg "__name__").getD .none) c' ctv)).get? b=some o:=fun b o hb e=>bX _ (hx b o hb e);have H2ne:∀b,b≠P->b≠c'->upd (upd H c' (.bh oc (.own c'))) P (.eD (ps++ #[rawInt pos.line,rawInt pos.col,.ref c'])) b=H b:=fun b h1 h2=>by rw[aJ h1,aJ h2]
  have old:∀b o,s.heap.get? b=some o->b≠c':=fun b o e=>dr (cH (bC e) hge);have hnP:∀b,H b=none->b≠P:=fun b n z=>by rw[z,eP] at n;cases n
  have hsP:∀b u,H b=some u->(∀ps,u≠.eD ps)->b≠P:=fun b u e n z=>by rw[z,eP] at e;cases e;exact n _ rfl
  have hsc:∀b u,H b=some u->b≠c':=fun b u e z=>by rw[z,hc'] at e;cases e
  have un:Un (bp X.stack) [] H (upd (upd H c' (.bh oc (.own c'))) P (.eD (ps++ #[rawInt pos.line,rawInt pos.col,.ref c']))) s.heap (h'.push (W.fnMade nm (X.env.qual++nm) params body scope clos doc ((X.mg "__name__").getD .none) c' ctv)):=by
   refine⟨fun b o e n _ _=>kh b o (hnP b n) e,fun b o e n _ _=>⟨o.slots,kh b o (hnP b n) e⟩,fun b o e n _=>by rw[H2ne b (hnP b n) (old b o e)];exact n,fun b o e _=>?_,fun b xs e=>by rw[H2ne b (hsP b _ e fun _ z=>nomatch z) (hsc b _ e)];exact e,
    fun b o u e=>by rw[H2ne b (hsP b _ e fun _ z=>nomatch z) (hsc b _ e)];exact e,fun b qs e=>?_⟩
   .by_cases hb:b=P
    .subst hb;exact⟨_,bX _ htb⟩
    .exact⟨o,kh b o hb e⟩
   .by_cases hb:b=P
    .subst hb;rw[eP] at e;cases e;exact⟨_,bP⟩
    .exact⟨#[],by rw[H2ne b hb (hsc b _ e),e];simp⟩
  have aD:dI X.prog X.w (upd (upd H c' (.bh oc (.own c'))) P (.eD (ps++ #[rawInt pos.line,rawInt pos.col,.ref c']))) (h'.push (W.fnMade nm (X.env.qual++nm) params body scope clos doc ((X.mg "__name__").getD .none) c' ctv)):=fun b u e=>by
   by_cases hb:b=P
   .subst hb;rw[bP] at e;cases e;exact bX _ htb
   .by_cases hb2:b=c'
    .subst hb2;rw[aJ hb,bP] at e;cases e;exact⟨bX _ hoc,_,bX _ hoc⟩
    .rw[H2ne b hb hb2] at e;refine (I.aD b u e).gd (fun a v ha q=>kh a v ?_ q) (fun a q=>?_) fun a xs q=>?_
     .rcases ha with rfl|ha
      .exact hb
      .exact hsP a _ ha fun _ z=>nomatch z
     .rw[H2ne a (hsP a _ q fun _ z=>nomatch z) (hsc a _ q)];exact q
     .rw[H2ne a (hsP a _ q fun _ z=>nomatch z) (hsc a _ q)];exact q
  have hg:H h'.objs.size=none:=I.aD.fresh hsz;refine fin h'.objs.size c' doc ctv _ _ (I.call (t':=tk) (ch:=[]) un aD I.bare (fun b z=>absurd z (by simp))) (gk _ rfl) ?_ hsz (x1.trans x2) r2 ⟨oc,vs,t,?_,hd,hv⟩
  .rw[H2ne _ (nK (cH hPl hsz)) (nK hlt)];exact hg
  .rw[aJ (bo neP)];exact bP
end
noncomputable def cq(names:List (Str×NameKind)):List Str:=(names.filter fun y=>y.2== .free).map (·.1)
theorem lI{env:Env}:∀(names:List (Str×NameKind))(cs:List (Str×Addr)),cF env names cs=((cq names).map fun n=>(n,(env.cells.lookup n).getD 0)).reverse++cs
 |[],cs=>rfl
 |(n,k)::r,cs=>by
  rw[cF,lI r];unfold cq;cases hk:(k== NameKind.free) with
  |true=>simp[hk]
  |false=>simp[hk]
def Kept(base:Heap)(names:List (Str×NameKind))(clos:List (Str×Addr))(vs:List V):Prop:=
 (clos=[]/\vs=[]/\cq names=[])\/∃y a u v,clos=[(y,a)]/\vs=[v]/\base.IsCell a (some u)/\RelV v u/\cq names=[y]
def vh(base:Heap)(st:Stmt)(c:mx):Prop:=∃b doc pm ctv clos,eT (dB st) (fC b)=true/\base.get? c.g=some (W.fnMade "answer" c.q (dB st) (cK st) (ax st) clos doc pm c.cd ctv)/\Kept base (ax st).names clos c.vs
def CB(ci:Nat->Stmt->Bool)(base:Heap)(cl:fu):Prop:=∀i c,cl.fs i=some c->∃st,ci c.f st=true/\vh base st c
theorem vh.keep{st:Stmt}(x:vh base st c)(k:∀b o,base.get? b=some o->base'.get? b=some o):vh base' st c:=by
 obtain⟨b,doc,pm,ctv,clos,h1,h2,h3⟩:=x;refine⟨b,doc,pm,ctv,clos,h1,k _ _ h2,h3.imp id ?_⟩
 rintro ⟨y,a,u,v,e1,e2,⟨o,eo,ed⟩,r⟩
 exact⟨y,a,u,v,e1,e2,⟨o,k _ _ eo,ed⟩,r⟩
section
variable {X:Cx}{E:XK}{pins:aL}{σ:L2.St}{H:L2.Hp}{s:Shared}
def iK(X:Cx)(H:L2.Hp)(s:Shared):Heap:=W.hideAll s.heap (vJ s.heap H++bp X.stack)
theorem mQ(e:s.heap.get? b=some o)(n:H b=none)(hf:b∉bp X.stack):(iK X H s).get? b=some o:=W.hideAll_get _ e fun hm=>by
 rcases kK.mp hm with hm|hm
 .have q:(H b).isSome=true:=(lC.mp hm).2;rw[n] at q;simp at q
 .exact hf hm
theorem AM(e:(iK X H s).get? b=some o):s.heap.get? b=some o/\H b=none:=by
 have e':s.heap.get? b=some o:=W.of_hideAll _ e;refine⟨e',?_⟩;cases q:H b with
 |none=>rfl
 |some x=>
  have hm:b∈vJ s.heap H++bp X.stack:=yC _ (lC.mpr ⟨xA.mpr (bC e'),by simp[q]⟩);have z:(iK X H s).get? b=none:=ya _ hm;rw[z] at e;cases e
theorem uv(I:Inv X pins σ H s):∀b o,X.base.get? b=some o->(iK X H s).get? b=some o:=fun b o e=>by
 obtain⟨e1,e2⟩:=I.bs b o e;refine mQ e1 e2 fun hb=>?_;have:=(I.stack.mem hb).1;rw[e] at this;cases this
theorem Md(I:Inv X pins σ H s):lO X.prog X.w X.K X.mg (iK X H s) X.A X.stack s H:=by
 have k:=uv I;have m:=I.mod;refine⟨I.ok.frames,⟨m.r8.keeps k,m.glob.keeps k,let ⟨mb,h1,h2⟩:=m.blt;⟨mb,h1.keeps k,h2⟩,m.nolimit.keeps k⟩,fun b o e=>AM e,qx (W.hideAll_size _ _),?_,I.iq,I.aD,I.bare⟩;have key:∀l:List Env,(∀b∈bp l,b∈bp X.stack)->s.heap.FunFrames X.base l->s.heap.FunFrames (iK X H s) l:=by
  intro l
  induction l with
  |nil=>intro _ _;trivial
  |cons env rest ih=>
   intro hs ⟨h1,⟨L,o,hf,hn,ho,hd⟩,hr⟩;have hL:L∈bp (env::rest):=by unfold bp;rw[qB,hf];exact .head _
   refine⟨h1,⟨L,o,hf,ya _ (fU _ (hs L hL)),ho,hd⟩,ih (fun b hb=>hs b ?_) hr⟩;unfold bp at hb⊢;rw[qB,hf];exact .tail _ hb
 exact key X.stack (fun _ h=>h) I.stack
end
noncomputable def pM(cl:fu)(n:Nat)(c:mx):fu:=⟨fun i=>if i=n then some c else cl.fs i,cl.tb⟩
section
variable {K:W.Frag}{mg:Str->Option Value}{E:XK}{cl:fu}{ι ι':Nat->Addr}{h h':Tw.Hp}{H H':L2.Hp}{c:mx}
theorem HR.je(r:HR ⟨K,mg,E,cl⟩ ι h H)(rw':aT K ι h.length H ws c.vs)(hc:eS H c.cd c.q):HR ⟨K,mg,E,pM cl h.length c⟩ (c4 ι h.length c.g) (h++[.fun c.f ws]) H:=by
 have hl:(h++[Tw.O.fun c.f ws]).length=h.length+1:=by simp
 have kp:Keeps ι h.length H (c4 ι h.length c.g) (h++[Tw.O.fun c.f ws]).length H:=⟨by omega,fun i hi=>bH hi,fun _ _ e=>e⟩;have two:∀{i:Nat}{v:Tw.O},(h++[Tw.O.fun c.f ws])[i]?=some v->(i<h.length/\h[i]?=some v)\/(i=h.length/\v=.fun c.f ws):=fun {i v} e=>by
  have hi:=eG e;by_cases z:i<h.length
  .rw[gi z] at e;exact .inl ⟨z,e⟩
  .have z':i=h.length:=by omega
   subst z';simp at e;exact .inr ⟨rfl,e.symm⟩
 refine⟨fun i v q=>?_,fun i j v w q1 q2 m1 m2 z=>?_,r.tab,fun i f us q=>?_⟩
 .rcases two q with ⟨hi,q⟩|⟨rfl,rfl⟩
  .rw[bH hi];have z:=(r.obj i v q).keep kp fun _ _ _ e=>e;cases v<;>exact z
  .trivial
 .rcases two q1 with ⟨hi,p1⟩|⟨_,rfl⟩
  .rcases two q2 with ⟨hj,p2⟩|⟨_,rfl⟩
   .rw[bH hi,bH hj] at z;exact r.inj i j v w p1 p2 m1 m2 z
   .cases m2
  .cases m1
 .rcases two q with ⟨hi,q⟩|⟨rfl,e⟩
  .obtain⟨c',e1,e2,e3,e4,e5⟩:=(r.fn i f us q).keep kp hi fun _ _ _ e=>e;refine⟨c',?_,e2,e3,e4,e5⟩;show (if i=h.length then some c else cl.fs i)=some c';rw[if_neg (dr hi)];exact e1
  .cases e;exact⟨c,if_pos rfl,cg.symm,rfl,rw'.keep kp,hc⟩
theorem HR.kill(r:HR ⟨K,mg,E,pM cl n c⟩ ι h H):HR ⟨K,mg,E,cl⟩ ι (h.set n .dead) H:=by
 have hl:(h.set n Tw.O.dead).length=h.length:=by simp
 have look:∀{j:Nat}{w:Tw.O},(h.set n Tw.O.dead)[j]?=some w->w=.dead\/(j≠n/\h[j]?=some w):=fun {j w} e=>by
  by_cases z:j=n
  .subst z;have:=eG e;rw[iV (by omega)] at e;cases e;exact .inl rfl
  .rw[iW (bo z)] at e;exact .inr ⟨z,e⟩
 refine⟨fun i v q=>?_,fun i j v w q1 q2 m1 m2 z=>?_,r.tab,fun i f us q=>?_⟩
 .rw[hl];rcases look q with rfl|⟨_,q⟩
  .trivial
  .have z:=r.obj i v q;cases v<;>exact z
 .rcases look q1 with rfl|⟨_,q1⟩
  .cases m1
  .rcases look q2 with rfl|⟨_,q2⟩
   .cases m2
   .exact r.inj i j v w q1 q2 m1 m2 z
 .rw[hl];rcases look q with e|⟨ne,q⟩
  .cases e
  .obtain⟨c',e1,e2⟩:=r.fn i f us q;refine⟨c',?_,e2⟩;have e1:(if i=n then some c else cl.fs i)=some c':=e1;rw[if_neg ne] at e1;exact e1
theorem Ext.kill(x:Ext (c4 ι h.length g) (h++[.fun f ws]) H ι' h' H')(hg:H g=none):Ext ι h H ι' (h'.set h.length .dead) H':=by
 have hl:(h++[Tw.O.fun f ws]).length=h.length+1:=by simp
 have hl':(h'.set h.length Tw.O.dead).length=h'.length:=by simp
 have hle:=x.len;rw[hl] at hle;refine⟨by omega,fun i hi=>(x.same i (by omega)).trans (bH hi),fun b u e t n=>x.fr b u e t fun i o ei m z=>?_,fun i a b=>?_,x.uH,fun i o u e f=>?_⟩
 .have hi:=eG ei;by_cases q:i<h.length
  .rw[gi q] at ei;rw[bH q] at z;exact n i o ei m z
  .have z':i=h.length:=by omega
   subst z';simp at ei;subst ei;cases m
 .by_cases q:i=h.length
  .subst q;rw[x.same _ (by omega),cg];exact hg
  .exact x.new i (by omega) (by omega)
 .have hi:=eG e;rw[iW (by omega)] at f;exact x.fz i o u (by rw[gi hi];exact e) f
end
section
variable {X:Cx}{E:XK}{CX:fR}{C:Tw.Or}{ci:Nat->Stmt->Bool}{j fw f k:Nat}{a b:Tw.E}{ks:List Nat}
theorem Il{params:Arguments}{body:List Stmt}{scope:Scope}{pos p1 p2 cp rp:Pos}{ea eb:Expr}{x:Str}{gw:Addr}{fdw:FuncData}{psw:List Str}{b0:Bool}
  (Wa:A3 X "answer") (hfn:∀x,X.fn x=true) (hN:X.N.Nodup) (hj:X.N[j]?=some "answer") (hl:X.env.scope.names.lookup ("answer" : Str)=some .local)
  (cb:CB ci X.base X.cl) (hci:ci f (.FunctionDef "answer" params body [] none [] scope none "answer" pos)=true) (hp:eT params (fC b0)=true)
  (hfree:(cq scope.names=[]/\ks=[])\/∃y i,cq scope.names=[y]/\ks=[i]/\X.N[i]?=some y/\X.env.scope.names.lookup y=some .cell)
  (own:∀base cl,cl.tb=X.cl.tb->CB ci base cl->cD X.prog X.w X.K X.mg base CX k gw fdw psw (eJ X.K X.mg cl (C fw)))
  (hr:cz k X.A) (hg:Gl X x) (hm:X.mg x=some (.ref gw)) (hk:W.keepIn X.K (.ref gw)=true) (hb:Binds X.K fdw psw []) (hd:(x== ("__debug__" : Str))=false)
  (hx:Passes CX X E) (ha:PE X ea (tE (zx X E) (Tw.ag C a))) (hbb:PE X eb (tE (zx X E) (Tw.ag C b))) (pa:aC ea=true) (pb:aC eb=true):
  eE X [.FunctionDef "answer" params body [] none [] scope none "answer" pos,.Return (some (.Call (.Name x p1) [ea,eb,.Name "answer" p2] [] cp)) rp] (dq (zx X E) (Tw.eM C (.kY j fw a b f ks))):=by
 intro pins s σ H D I ⟨ρ,h,ι,at',p⟩;rw[Tw.qA] at p;have hcl:closureFor scope X.env=pure (cF X.env scope.names []):=pL fun z hz hf=>by
  have hm:z.1∈cq scope.names:=gC.mpr ⟨z,lC.mpr ⟨hz,by rw[hf];rfl⟩,rfl⟩;rcases hfree with ⟨e,_⟩|⟨y,i,e,_,_,hy⟩
  .rw[e] at hm;cases hm
  .rw[e] at hm;obtain rfl:=gH.mp hm;exact I.ok.has _ (.inl hy)
 refine sO (FF I at'.hr Wa hp hN hj hl hcl fun g cd doc ctv H1 s1 I1 x1 r1 hc1=>?_);have at1:At (zx X E) ι h H1 (ρ.set j none) (σ.set j (some (.ref g))):=(at'.later x1 r1).xU j _;have p:=bG.later p x1;have st3:starEach [ea,eb,.Name "answer" p2] X.env=(false,eval ea X.env)::starEach [eb,.Name "answer" p2] X.env:=bE pa;have st2:starEach [eb,.Name "answer" p2] X.env=(false,eval eb X.env)::starEach [.Name "answer" p2] X.env:=bE pb;have hjl:j<σ.length:=by rw[I.len];exact (ib.mp hj).1
 have sv:(σ.set j (some (V.ref g)))[j]?=some (some (V.ref g)):=by rw[iV hjl]
 refine sO (xZ (aG (?_:wpAny (model X.prog X.w) X.A _ (EP X (pins++[(g,W.fnMade "answer" (X.env.qual++ "answer") params body scope (cF X.env scope.names []) doc ((X.mg "__name__").getD .none) cd ctv)]) (σ.set j (some (.ref g))) D.rt) X.xe s1) fun v s5 ⟨x,H5,I5,r5,q5⟩=>⟨x,_,H5,I5.n6 fun p hp=>I5.pin p (fU _ (yC _ hp)),r5,q5⟩));refine jX (fY I1 hg hm ?_ hd);have PAx:=bU ha (bU hbb (bU (mK (pos:=p2) hj (.inl hl)) eQ (bE rfl)) st2) st3;refine pU (h₀:=X.base) I1.ok.mod.r8 hk (aG (PAx cp _ s1 _ H1 (fun vs H4=>∃v1 v2 w1 w2 h3 ι3,vs=[v1,v2,.ref g]/\At (zx X E) ι3 h3 H4 (ρ.set j none) (σ.set j (some (.ref g)))/\Ext ι h H1 ι3 h3 H4/\RW X.K ι3 h3.length H4 w1 v1/\RW X.K ι3 h3.length H4 w2 v2/\
  bG (zx X E) ι3 h3 H4 (match Tw.j0 (ρ.set j none) ks with
   |some ws=>Tw.pZ h3.length (C fw [w1,w2,.ref h3.length] (h3++[.fun f ws]))
   |none=>.bad) D) I1 ?_) fun us s2 ⟨vs,H4,I2,r2,q⟩=>⟨I2.dP,?_⟩) st3 (by rw[st2];rfl)
 .refine⟨_,h,ι,at1,(fZ at1 p).mono fun v1 H2 ⟨w1,h2,ι2,at2,e2,rw2,p2⟩=>⟨_,h2,ι2,at2,(fZ at2 p2).mono fun v2 H3 ⟨w2,h3,ι3,at3,e3,rw3,p3⟩=>⟨_,sv,?_⟩⟩⟩;exact⟨v1,v2,w1,w2,h3,ι3,rfl,at3,e2.trans e3,RW.keep (e3.keeps at2.hr) rw2,rw3,p3⟩
 .obtain⟨v1,v2,w1,w2,h3,ι3,rfl,at3,x3,rw1,rw2,p3⟩:=q;have hc3:eS H4 cd (X.env.qual++ "answer"):=hc1.later r1 x3;obtain⟨eg,hgn,hgl,hgf,_⟩:=I2.pin (g,_) (fU _ (fU _ (.head _)));dsimp only at eg hgn hgl hgf;have xp:∀{a:Addr},a≠X.env.locals->a∉X.fs->a∉bp X.stack:=fun h1 h2 hb=>(cY.mp (I2.jF _ hb)).elim h1 h2;cases ek:Tw.j0 (ρ.set j none) ks with
  |none=>rw[ek] at p3;exact p3.elim
  |some ws=>
   rw[ek] at p3;dsimp only at p3;have kept:∃vs,aT X.K ι3 h3.length H4 ws vs/\Kept (iK X H4 s2) scope.names (cF X.env scope.names []) vs:=by
    rcases hfree with ⟨e,rfl⟩|⟨y,i,e,rfl,hi,hy⟩
    .cases ek;exact⟨[],.nil,.inl ⟨by rw[lI,e];rfl,rfl,e⟩⟩
    .rw[Tw.j0] at ek;cases ew:(ρ.set j none)[i]? with
     |none=>rw[ew] at ek;cases ek
     |some ow=>
      cases ow with
      |none=>rw[ew] at ek;cases ek
      |some w=>
       rw[ew] at ek;cases ek;obtain⟨v,s3,rv⟩:=at3.st i w ew;obtain⟨m,hn,hlo⟩:=I2.loc;obtain⟨u,ru,lk⟩:=hlo i y v hi s3 (.inr (.inl hy));rcases lk with ⟨hk',_⟩|⟨_,c,hc,o,ho,hod⟩
       .have:X.env.scope.names.lookup y=some .local:=hk';rw[hy] at this;cases this
       .refine⟨[v],.cons rv .nil,.inr ⟨y,c,u,v,?_,rfl,⟨o,mQ ho (I2.fk y c hc) (xp (I2.mO y c hc) fun hb=>?_),hod⟩,ru,e⟩⟩
        .rw[lI,e];show [(y,(X.env.cells.lookup y).getD 0)]=_;rw[hc];rfl
        .obtain⟨_,o',ho',_⟩:=I2.ok.fM.mem hb;exact absurd (cH (bC ho') (I2.ok.pO y c (hfn y) hc)) (pj _)
   obtain⟨kvs,rk,kk⟩:=kept;have eg':(iK X H4 s2).get? g=some _:=mQ eg hgn (xp hgl hgf);have CB':CB ci (iK X H4 s2) (pM X.cl h3.length ⟨g,f,kvs,cd,X.env.qual++ "answer"⟩):=fun i c e=>by
    have e:(if i=h3.length then some (⟨g,f,kvs,cd,X.env.qual++ "answer"⟩:mx) else X.cl.fs i)=some c:=e;by_cases hz:i=h3.length
    .rw[if_pos hz] at e;cases e;exact⟨_,hci,b0,doc,_,ctv,_,hp,eg',kk⟩
    .rw[if_neg hz] at e;obtain⟨st,z1,z2⟩:=cb i c e;exact⟨st,z1,z2.keep (uv I2)⟩
   have F:=own (iK X H4 s2) (pM X.cl h3.length ⟨g,f,kvs,cd,X.env.qual++ "answer"⟩) rfl CB';have kp:Keeps ι3 h3.length H4 (c4 ι3 h3.length g) (h3++[Tw.O.fun f ws]).length H4:=⟨by simp,fun i hi=>bH hi,fun _ _ e=>e⟩;have rg:RW X.K (c4 ι3 h3.length g) (h3++[Tw.O.fun f ws]).length H4 (.ref h3.length) (.ref g):=by have z:RW X.K (c4 ι3 h3.length g) (h3++[Tw.O.fun f ws]).length H4 (.ref h3.length) (.ref (c4 ι3 h3.length g h3.length)):=.ref (by simp);rw[cg] at z;exact z
   have hsp:eJ X.K X.mg (pM X.cl h3.length ⟨g,f,kvs,cd,X.env.qual++ "answer"⟩) (C fw) [v1,v2,.ref g] H4 D.rt E:=by
    refine⟨[w1,w2,.ref h3.length],h3++[.fun f ws],c4 ι3 h3.length g,HR.je (c:=⟨g,f,kvs,cd,X.env.qual++ "answer"⟩) at3.hr rk hc3,.cons (rw1.keep kp) (.cons (rw2.keep kp) (.cons rg .nil)),?_⟩;cases er:C fw [w1,w2,.ref h3.length] (h3++[.fun f ws]) with
    |bad=>rw[er] at p3;exact p3.elim
    |aI a' h4=>rw[er] at p3;exact fun ι' H' xx rr=>p3 ι' H' (xx.kill hgn) rr.kill
    |ok w h4=>rw[er] at p3;exact fun ι' H' v xx rr q=>p3 ι' H' v (xx.kill hgn) rr.kill (by simpa using q)
   have hlen:(us++[]).length=psw.length:=by rw[gI,<-r2.length];exact F.len _ _ _ _ hsp
   have hbs:=hb s2 us I2.dP hlen;rw[gI] at hbs;refine kf (ot (F.run X.A X.stack s2 H4 ⟨us,[]⟩ us _ D.rt E hr (Md I2) hbs r2 hsp) fun r s' hq=>?_);cases r with
   |error e=>exact hx _ _ H4 s2 e s' I2 hq
   |ok fl=>
    cases fl with
    |ret u=>exact I2.after hq
    |next=>exact False.elim hq
    |brk=>exact False.elim hq
    |cont=>exact False.elim hq
end
def Ou(sc:Sc)(N:List Str)(t:Tw.Tg)(tg:Expr):Bool:=match t with
 |.var i=>(bB tg).any fun x=>decide (N[i]?=some x)&&gT sc x
noncomputable def L5:Const->Bool
 |.str _=>true
 |_=>false
noncomputable def L6:Tw.Es->Bool
 |.nil=>true
 |_=>false
def isTup(e:Expr):Bool:=decide (e.ctorIdx=25)
noncomputable def Cs(e:Stmt)(h:e.ctorIdx=0):Option (Str×Arguments×List Stmt×Scope×Pos):=Stmt.FunctionDef.elim (motive_2:=fun _=>Option (Str×Arguments×List Stmt×Scope×Pos)) e h fun n a b d r t sc ts bi p=>if d.isEmpty&&r.isNone&&t.isEmpty&&ts.isNone&&decide (bi=n) then some (n,a,b,sc,p) else none
def jK(e:Stmt):Option (Str×Arguments×List Stmt×Scope×Pos):=if h:e.ctorIdx=0 then Cs e h else none
theorem By{e:Stmt}{r:Str×Arguments×List Stmt×Scope×Pos}(h:jK e=some r):e=.FunctionDef r.1 r.2.1 r.2.2.1 [] none [] r.2.2.2.1 none r.1 r.2.2.2.2:=
 let ⟨c,h⟩:=dv h
 Stmt.FunctionDef.elim (motive_2:=fun e=>∀c,Cs e c=some r->e=.FunctionDef r.1 r.2.1 r.2.2.1 [] none [] r.2.2.2.1 none r.1 r.2.2.2.2) e c (fun n a b d r' t sc ts bi p _ h=>by
  have h:(if (d.isEmpty&&r'.isNone&&t.isEmpty&&ts.isNone&&decide (bi=n))=true then some (n,a,b,sc,p) else none)=some r:=h;by_cases q:(d.isEmpty&&r'.isNone&&t.isEmpty&&ts.isNone&&decide (bi=n))=true
  .rw[if_pos q] at h;cases h;simp only[aE,aQ,yi,rn] at q;obtain⟨⟨⟨⟨rfl,rfl⟩,rfl⟩,rfl⟩,rfl⟩:=q;rfl
  .rw[if_neg q] at h;cases h) c h
def xR{α:Type}:List α->Option (α×α×α)
 |[a,b,c]=>some (a,b,c)
 |_=>none
theorem ur{α:Type}{l:List α}{r:α×α×α}(h:xR l=some r):l=[r.1,r.2.1,r.2.2]:=by
 match l,h with
 |[a,b,c],h=>cases h;rfl
def yp(sc:Sc)(N:List Str):List Nat->List Str->Bool
 |[],[]=>true
 |[i],[y]=>decide (N[i]?=some y)&&decide (sc.lookup y=some .cell)
 |_,_=>false
def Bq(cf:Cfg)(sc:Sc)(N:List Str)(t:Tw.St)(ss:List Stmt):Bool:=match t with
 |.kY j fw a b f ks=>cf.wk&&(oO ss).any fun q=>cf.ci f q.1&&(jK q.1).any fun d=>decide (d.1=("answer" : Str))&&(eT d.2.1 (fC true) || eT d.2.1 (fC false))&&decide (N[j]?=some ("answer" : Str))&&decide (sc.lookup ("answer" : Str)=some .local)&&
   yp sc N ks (cq d.2.2.2.1.names)&&(pB q.2).any fun o=>o.any fun e=>(gD e).any fun r=>decide (cf.fns[fw]?=some (.fn r.1))&&gN sc r.1&&jy r.1&&(xR r.2).any fun z=>aC z.1&&aC z.2.1&&(bB z.2.2).any (fun x=>decide (x=("answer" : Str)))&&aS cf sc N a z.1&&aS cf sc N b z.2.1
 |_=>false
mutual
noncomputable def Bv(cf:Cfg)(sc:Sc)(N:List Str):Tw.St->Stmt->Bool
 |.expr e,s=>(C7 s).any fun x=>aC x&&!(mX x)&&aS cf sc N e x
 |.ret e,s=>(pB s).any fun o=>o.any fun x=>aS cf sc N e x
 |.set i e,s=>(qU s).any fun r=>(bB r.1).any fun y=>decide (N[i]?=some y)&&gT sc y&&aC r.2&&aS cf sc N e r.2
 |.put o k e,s=>(qU s).any fun r=>(qu r.1).any fun q=>aC q.2&&aS cf sc N o q.1&&aS cf sc N k q.2&&aS cf sc N e r.2
 |.iff c a b,s=>(Lo s).any fun r=>eK r.1&&aS cf sc N c r.1&&jo cf sc N a r.2.1&&jo cf sc N b r.2.2
 |.for t it b,s=>(Gu s).any fun r=>r.2.2.2.isEmpty&&aC r.2.1&&xM cf sc N (isTup r.1) it r.2.1&&jo cf sc N b r.2.2.1&&Ou sc N t r.1
 |.bad,_=>true
 |.fput o x e,s=>(qU s).any fun r=>(nJ r.1).any fun q=>decide (q.2.1=⟨x.toArray⟩)&&vU.contains q.2.1&&aC r.2&&!(mX r.2)&&aS cf sc N o q.1&&aS cf sc N e r.2
 |.tq c b,s=>(HM s).any fun r=>r.2.2.isEmpty&&eK r.1&&aS cf sc N c r.1&&jo cf sc N b r.2.1
 |.raise c xs es,s=>(y0 s).any fun r=>r.2.isNone&&r.1.any fun e=>(gD e).any fun q=>!(q.2.isEmpty)&&decide (q.1=str c)&&decide (cf.cU.lookup c=some xs)&&gN sc q.1&&jy q.1&&(xs.isEmpty&&L6 es&&(gY q.2).any fun y=>(q9 y).any L5)
 |.qO b hs,s=>(Gh s).any fun r=>r.2.2.1.isEmpty&&r.2.2.2.isEmpty&&!(r.2.1.isEmpty)&&kZ cf sc N b r.1&&mh cf sc N hs r.2.1
 |.pq i j k e,s=>(qU s).any fun r=>(nM r.1).any fun ts=>(xR ts).any fun q=>(bB q.1).any fun x=>(bB q.2.1).any fun y=>(bB q.2.2).any fun z=>decide (N[i]?=some x)&&gT sc x&&decide (N[j]?=some y)&&gT sc y&&decide (N[k]?=some z)&&gT sc z&&isCall r.2&&aS cf sc N e r.2
 |.kY _ _ _ _ _ _,_=>false
noncomputable def jo(cf:Cfg)(sc:Sc)(N:List Str):List Tw.St->List Stmt->Bool
 |[],ss=>ss.isEmpty
 |t::ts,ss=>((ml ss).any fun r=>Bv cf sc N t r.1&&jo cf sc N ts r.2) || (ts.isEmpty&&Bq cf sc N t ss)
end
structure KP(cf:Cfg)(C:Tw.Or)(CX:fR)(X:Cx):Prop where
 at_:A3 X "answer"
 fn:∀x,X.fn x=true
 cb:CB cf.ci X.base X.cl
 own:∀f x,cf.fns[f]?=some (.fn x)->∃k g fd ps,(∀base cl,cl.tb=X.cl.tb->CB cf.ci base cl->cD X.prog X.w X.K X.mg base CX k g fd ps (eJ X.K X.mg cl (C f)))/\cz k X.A/\X.mg x=some (.ref g)/\W.keepIn X.K (.ref g)=true/\Binds X.K fd ps []
structure kz(cf:Cfg)(C:Tw.Or)(CX:fR)(E:XK)(sc:Sc)(N:List Str)(X:Cx):Prop where
 fK:fJ cf C CX E X
 sees:eB sc N X
 same:X.env.scope.names=sc
 nd:N.Nodup
 fn:∀x,gT sc x=true->X.fn x=true\/X.env.scope.names.lookup x=some .local
 pass:PassesOwn (model X.prog X.w) X.A X.env X.xe
 block:X.env.blockKind=.function
 ex:X.ex=[]
 st:X.stack=X.env::X.outer
 fm:X.env.frame=some X.env.locals
 xe:X.xe=og X E
 cx:CX=cO X.prog X.w
 err:∀c fs,cf.cU.lookup c=some fs->Jh X c fs
 hd:cf.hd=false
 wk:cf.wk=true->KP cf C CX X
section
variable {cf:Cfg}{C:Tw.Or}{CX:fR}{E:XK}{sc:Sc}{N:List Str}{X:Cx}
theorem kz.loc(R:kz cf C CX E sc N X)(h:gT sc x=true):Loc X.env.scope x:=by
 unfold gT at h;rw[<-R.same] at h;cases e:X.env.scope.names.lookup x with
 |none=>rw[e] at h;exact no h
 |some k=>
  rw[e] at h;cases k with
  | «local» => exact .inl e
  |cell=>exact .inr e
  |_=>exact no h
theorem kz.C6(R:kz cf C CX E sc N X)(h1:N[i]?=some x)(h2:gT sc x=true):PG X (.Name x p) (iN i):=
 qE (by rw[R.sees.n];exact R.nd) (by rw[R.sees.n];exact h1) (R.loc h2) (R.fn x h2)
theorem yd(hk:aC k=true)(v:Value):assign (.Subscript o k pos') env v=(do
   let ov <-holding [v] (eval o env)
   let iv <-holding [v,ov] (eval k env)
   standAt pos'
   holding [v,ov,iv] (setItem ov iv v)
   release [v,ov,iv] []):=by
 cases k<;>first|rfl|exact absurd (show false=true from hk) jP
theorem F0(R:kz cf C CX E sc N X)(h1:N[i]?=some y)(h2:gT sc y=true)(h3:aC x=true)(h4:aS cf sc N e x=true):
  PS X (.Assign [.Name y py] x p) (dq (zx X E) fun ρ h=>(Tw.ag C e ρ h).bind fun w h=>.ok (.next (ρ.set i (some w))) h):=by
 have plain:swapsWith x (some (.Name y py)) p.line X.env=pure false->PS X (.Assign [.Name y py] x p) (dq (zx X E) fun ρ h=>(Tw.ag C e ρ h).bind fun w h=>.ok (.next (ρ.set i (some w))) h):=fun hs=>
  Dj (by rw[R.sees.n];exact R.nd) (by rw[R.sees.n];exact h1) (R.loc h2) (aY e R.fK R.sees h4).1 hs (R.fn y h2)
 by_cases hc:mX x=true
 .cases x with
  |ListComp elt gens scope pos=>
   have hsw:swapsWith (.ListComp elt gens scope pos) (some (.Name y py)) p.line X.env=pure (X.env.blockKind== .function&&X.env.kindOf y== some .local&&py.line== pos.line&&!(scope.names.any fun (n,k)=>n== y&&(k== .local || k== .cell))):=rfl;cases hb:(X.env.blockKind== .function&&X.env.kindOf y== some .local&&py.line== pos.line&&!(scope.names.any fun (n,k)=>n== y&&(k== .local || k== .cell))) with
   |false=>rw[hb] at hsw;exact plain hsw
   |true=>
    rw[hb] at hsw;have hl:X.env.scope.names.lookup y=some .local:=by simp only[aE,iF] at hb;exact hb.1.1.2
    cases e with
    |comp el it c=>
     replace h4:=wa h4;replace h4:=h4.2
     .replace h4:=ay h4;obtain⟨⟨yy,gs,scope,pos⟩,e1,h4⟩:=h4;cases pN e1;replace h4:=ay h4;obtain⟨⟨tg,iter,ifs⟩,e2,h4⟩:=h4;obtain rfl:=si e2;replace h4:=ay h4;obtain⟨xx,e3,h4⟩:=h4;obtain⟨px,rfl⟩:=br e3;simp only[aE,aQ] at h4;obtain⟨⟨⟨⟨⟨h0,h1'⟩,h2'⟩,h3'⟩,h4⟩,h5⟩:=h4;have S:=R.sees;have cs:=yU S h0;have hk:scope.kind=.function:=cs.kind;have hnd:(c5 X.N [xx]).Nodup:=by rw[S.n];exact h1'
      have sees:∀{Cc:Addr}{s:Shared}{H:L2.Hp}{pins:aL}{fp:List Addr},eB scope.names (c5 N [xx]) (bq X scope Cc [xx] s H pins fp):=fun {Cc s H pins fp}=>by
       have z:=eB.comp (X:=X) (scope:=scope) (C:=Cc) (x:=[xx]) (s:=s) (H:=H) (pins:=pins) (fp:=fp) hk;rw[S.n] at z;exact z
      have hev:Tw.ag C (.comp el it c)=tV HC (Tw.dJ C it) (Tw.gp C c) (Tw.ag C el):=by funext ρ h;rw[Tw.iw];rfl
      rw[hev];refine GS (R.fK.calm R.hd) cs (ve hnd cs) (tO _ _) (AV it R.fK S h3' (fun z=>nomatch z)) (jO h2') (fun Cc s H pins fp=>(aY el R.fK.comp sees h4).1) ?_ (by rw[S.n];exact R.nd) (by rw[S.n];exact h1) hl hsw;cases c with
      |none=>
       obtain rfl:=bT (show ifs.isEmpty=true from h5);exact .inl ⟨rfl,fun ρ h=>by rw[Tw.fT]⟩
      |some d=>
       replace h5:=ay h5;obtain⟨z,e4,h5⟩:=h5;obtain rfl:=ez (show gY ifs=some z from e4);rw[aE] at h5;exact .inr ⟨z,Tw.ag C d,rfl,fun ρ h=>by rw[Tw.gM],fun Cc s H pins fp=>(aY d R.fK.comp sees h5.2).2 h5.1⟩
    |bad=>
     refine fun pins s σ H D I ⟨ρ,h,ι,at',p⟩=>?_;simp only[Tw.qK] at p;exact p.elim
    |ki a ns ds cs=>cases a<;>exact no h4
    |_=>first|exact no h4|exact no (qe.mp h4).2
  |_=>exact no hc
 .exact plain (iM h3 (by simpa using hc))
theorem ED(R:kz cf C CX E sc N X){t:Tw.St}{ss:List Stmt}(h:Bq cf sc N t ss=true):eE X ss (dq (zx X E) (Tw.av C [t])):=by
 cases t with
 |kY j fw a b f ks=>
  replace h:(cf.wk&&(oO ss).any fun q=>cf.ci f q.1&&(jK q.1).any fun d=>decide (d.1=("answer" : Str))&&(eT d.2.1 (fC true) || eT d.2.1 (fC false))&&decide (N[j]?=some ("answer" : Str))&&decide (sc.lookup ("answer" : Str)=some .local)&&
   yp sc N ks (cq d.2.2.2.1.names)&&(pB q.2).any fun o=>o.any fun e=>(gD e).any fun r=>decide (cf.fns[fw]?=some (.fn r.1))&&gN sc r.1&&jy r.1&&(xR r.2).any fun z=>aC z.1&&aC z.2.1&&(bB z.2.2).any (fun x=>decide (x=("answer" : Str)))&&aS cf sc N a z.1&&aS cf sc N b z.2.1)=true:=h
  rw[aE] at h;obtain⟨hw,h⟩:=h;replace h:=ay h;obtain⟨⟨s1,s2⟩,e1,h⟩:=h;obtain rfl:=lh e1;rw[aE] at h;obtain⟨hci,h⟩:=h;replace h:=ay h;obtain⟨⟨nm,params,body,scope,pos⟩,e2,h⟩:=h;obtain rfl:=By (show jK s1=some _ from e2);simp only[aE,aQ,zg] at h;obtain⟨⟨⟨⟨⟨rfl,hp⟩,hj⟩,hl⟩,hk⟩,h⟩:=h;replace h:=ay h;obtain⟨o,e3,h⟩:=h;obtain⟨rp,rfl⟩:=lu (show pB s2=some o from e3);replace h:=ay h;obtain⟨e,rfl,h⟩:=h;replace h:=ay h;obtain⟨⟨x,as⟩,e4,h⟩:=h;obtain⟨p1,cp,rfl⟩:=dj e4;simp only[aE,aQ] at h;obtain⟨⟨⟨h0,h1⟩,h2⟩,h⟩:=h;replace h:=ay h;obtain⟨⟨ea,eb,en⟩,e5,h⟩:=h;obtain rfl:=ur e5;simp only[aE] at h;obtain⟨⟨⟨⟨h3,h4⟩,h5⟩,h6⟩,h7⟩:=h;replace h5:=ay h5;obtain⟨x5,e6,h5⟩:=h5;obtain⟨p2,rfl⟩:=br (show bB en=some x5 from e6);obtain rfl:x5= "answer" := sF h5;have Wa:=R.wk hw;obtain⟨k,g,fd,ps,G,hr,hm,hkp,hb⟩:=Wa.own fw x h0;have hfree:(cq scope.names=[]/\ks=[])\/∃y i,cq scope.names=[y]/\ks=[i]/\X.N[i]?=some y/\X.env.scope.names.lookup y=some .cell:=by
   match ks,hq:cq scope.names,(show yp sc N ks (cq scope.names)=true from hk) with
   |[],[],_=>exact .inl ⟨rfl,rfl⟩
   |[i],[y],hk=>
    have hk:(decide (N[i]?=some y)&&decide (sc.lookup y=some .cell))=true:=hk;simp only[aE,aQ] at hk;exact .inr ⟨y,i,rfl,rfl,by rw[R.sees.n];exact hk.1,by rw[R.same];exact hk.2⟩
   |[],_::_,hk=>exact no hk
   |[_],[],hk=>exact no hk
   |[_],_::_::_,hk=>exact no hk
   |_::_::_,_,hk=>exact no hk
  have key:∀b0,eT params (fC b0)=true->eE X _ (dq (zx X E) (Tw.eM C (.kY j fw a b f ks))):=fun b0 hp=>
   Il (b0:=b0) (p1:=p1) (p2:=p2) (cp:=cp) (rp:=rp) Wa.at_ Wa.fn (by rw[R.sees.n];exact R.nd) (by rw[R.sees.n];exact hj) (by rw[R.same];exact hl) Wa.cb hci hp hfree G hr (R.sees.gl _ h1) hm hkp hb (fx h2) R.fK.pass (aY a R.fK R.sees h6).1 (aY b R.fK R.sees h7).1 h3 h4
  have e:Tw.av C [.kY j fw a b f ks]=Tw.eM C (.kY j fw a b f ks):=by
   funext ρ h;rw[Tw.aN,Tw.qA];cases Tw.ag C a (ρ.set j none) h with
   |bad=>rfl
   |aI=>rfl
   |ok x h1=>
    simp only[Tw.R.af];cases Tw.ag C b (ρ.set j none) h1 with
    |bad=>rfl
    |aI=>rfl
    |ok y h2=>
     simp only[Tw.R.af];cases Tw.j0 (ρ.set j none) ks with
     |none=>rfl
     |some ws=>
      dsimp only;cases C fw [x,y,.ref h2.length] (h2++[.fun f ws])<;>rfl
  rw[e];exact hp.elim (key true) (key false)
 |_=>exact no h
mutual
theorem MG(R:kz cf C CX E sc N X):∀(t:Tw.St){s:Stmt},Bv cf sc N t s=true->PS X s (dq (zx X E) (Tw.eM C t))
 |.expr e,s,h=>by
  replace h:=ay h;obtain⟨x,e1,h⟩:=h;obtain⟨p,rfl⟩:=Aw e1;simp only[aE,ku] at h;exact H8 (aY e R.fK R.sees h.2).1 (iM h.1.1 h.1.2)
 |.ret e,s,h=>by
  replace h:=ay h;obtain⟨o,e1,h⟩:=h;obtain⟨p,rfl⟩:=lu e1;replace h:=ay h;obtain⟨x,rfl,h⟩:=h;exact CA (aY e R.fK R.sees h).1
 |.set i e,s,h=>by
  replace h:=ay h;obtain⟨⟨t,v⟩,e1,h⟩:=h;obtain⟨p,rfl⟩:=jV e1;replace h:=ay h;obtain⟨y,e2,h⟩:=h;obtain⟨py,rfl⟩:=br (show bB t=some y from e2);simp only[aE,aQ] at h;exact F0 R h.1.1.1 h.1.1.2 h.1.2 h.2
 |.put o k e,s,h=>by
  replace h:=ay h;obtain⟨⟨t,v⟩,e1,h⟩:=h;obtain⟨p,rfl⟩:=jV e1;replace h:=ay h;obtain⟨⟨x,y⟩,e2,h⟩:=h;obtain⟨p2,rfl⟩:=nu (show qu t=some (x,y) from e2);simp only[aE] at h;exact JB (by have:=R.fK.units;omega) (aY e R.fK R.sees h.2).1 (aY o R.fK R.sees h.1.1.2).1 (aY k R.fK R.sees h.1.2).1 (yd h.1.1.1)
 |.iff c a b,s,h=>by
  replace h:=ay h;obtain⟨⟨x,ys,zs⟩,e1,h⟩:=h;obtain⟨p,rfl⟩:=Eb e1;simp only[aE] at h;rw[show Tw.eM C (.iff c a b)=fun ρ h=>(Tw.ag C c ρ h).bind fun x h=>match Tw.truth h x with
   |some true=>Tw.av C a ρ h
   |some false=>Tw.av C b ρ h
   |none=>.bad from by funext ρ h;rw[Tw.eR]<;>rfl]
  exact Nn ((aY c R.fK R.sees h.1.1.2).2 h.1.1.1) (lS R a h.1.2) (lS R b h.2)
 |.for t it b,s,h=>by
  replace h:=ay h;obtain⟨⟨tg,iter,ys,zs⟩,e1,h⟩:=h;obtain⟨p,rfl⟩:=Bs e1;simp only[aE] at h;obtain⟨⟨⟨⟨hz,h0⟩,h1⟩,h2⟩,h3⟩:=h;obtain rfl:=bT (show zs.isEmpty=true from hz);cases t with
  |var i=>
   replace h3:=ay h3;obtain⟨x,e2,h3⟩:=h3;obtain⟨px,rfl⟩:=br (show bB tg=some x from e2);simp only[aE,aQ] at h3;exact Fy R.pass (R.fK.calm R.hd) (AV it R.fK R.sees h1 (fun z=>nomatch z)) (R.C6 h3.1 h3.2) (HB _ _) (lS R b h2) (jO h0)
 |.bad,s,h=>by
  exact fun pins s σ H D I ⟨ρ,h,ι,at',p⟩=>p.elim
 |.fput o x e,s,h=>by
  replace h:=ay h;obtain⟨⟨t,z⟩,e1,h⟩:=h;obtain⟨p,rfl⟩:=jV e1;replace h:=ay h;obtain⟨⟨v,y,p2⟩,e2,h⟩:=h;obtain rfl:=lq (show nJ t=some (v,y,p2) from e2);simp only[aE,aQ,ku] at h;obtain⟨⟨⟨⟨⟨rfl,h1⟩,h2⟩,h3⟩,h4⟩,h5⟩:=h;exact Gr (by rw[xQ] at h1;simpa using h1) (aY e R.fK R.sees h5).1 (aY o R.fK R.sees h4).1 (iM h2 h3)
 |.tq c b,s,h=>by
  replace h:=ay h;obtain⟨⟨x,ys,zs⟩,e1,h⟩:=h;obtain⟨p,rfl⟩:=BH e1;simp only[aE] at h;obtain⟨⟨⟨hz,h0⟩,h1⟩,h2⟩:=h;obtain rfl:=bT (show zs.isEmpty=true from hz);exact KA R.pass ((aY c R.fK R.sees h1).2 h0) (lS R b h2)
 |.raise c xs es,s,h=>by
  replace h:=ay h;obtain⟨⟨o,cs⟩,e1,h⟩:=h;obtain⟨p,rfl⟩:=xC e1;rw[aE] at h;obtain⟨hn,h⟩:=h;obtain rfl:=rn.mp (show cs.isNone=true from hn);replace h:=ay h;obtain⟨e,z,h⟩:=h;obtain rfl:o=some e:=z;replace h:=ay h;obtain⟨⟨x,ys⟩,e3,h⟩:=h;obtain⟨np,cp,rfl⟩:=dj e3;simp only[aE,aQ,ku] at h;obtain⟨⟨⟨⟨⟨hy,rfl⟩,h1⟩,h2⟩,h3⟩,h4⟩:=h;obtain⟨⟨xe,h4⟩,h5⟩:=h4;obtain rfl:=bT xe;cases es with
  |cons _ _=>exact no h4
  |nil=>
   replace h5:=ay h5;obtain⟨y,e5,h5⟩:=h5;obtain rfl:=ez (show gY ys=some y from e5);replace h5:=ay h5;obtain⟨k,e6,h5⟩:=h5;obtain⟨kk,kp,rfl⟩:=oI e6;cases k with
   |str z=>
    obtain⟨Ce,hm,_,M⟩:=R.err c [] h1;show PS X _ (dq (zx X E) fun _ h=>Tw.iE c [] [] h);exact Cm R.ex R.st R.fm R.xe (R.fK.calm R.hd) hm M (R.sees.gl _ h2) (fx h3)
   |_=>exact no h5
 |.qO b hs,s,h=>by
  replace h:=ay h;obtain⟨⟨bd,l,oe,fb⟩,e1,h⟩:=h;obtain⟨p,rfl⟩:=AF e1;simp only[aE,ku] at h;obtain⟨⟨⟨⟨w1,w2⟩,w3⟩,h1⟩,h2⟩:=h;obtain rfl:=bT (show oe.isEmpty=true from w1);obtain rfl:=bT (show fb.isEmpty=true from w2);have cx:=R.cx;subst cx;exact GP R.fK R.sees R.same R.nd R.st R.fm h1 h2 (fun z=>by rw[show l=[] from z] at w3;cases w3)
 |.pq i j k e,s,h=>by
  replace h:=ay h;obtain⟨⟨t,v⟩,e1,h⟩:=h;obtain⟨p,rfl⟩:=jV e1;replace h:=ay h;obtain⟨ts,e2,h⟩:=h;obtain⟨kt,pt,rfl⟩:=mF (show nM t=some ts from e2);replace h:=ay h;obtain⟨⟨n1,n2,n3⟩,e3,h⟩:=h;obtain rfl:=ur e3;replace h:=ay h;obtain⟨x,e4,h⟩:=h;obtain⟨px,rfl⟩:=br (show bB n1=some x from e4);replace h:=ay h;obtain⟨y,e5,h⟩:=h;obtain⟨py,rfl⟩:=br (show bB n2=some y from e5);replace h:=ay h;obtain⟨z,e6,h⟩:=h;obtain⟨pz,rfl⟩:=br (show bB n3=some z from e6);simp only[aE,aQ] at h;obtain⟨⟨⟨⟨⟨⟨⟨h1,h2⟩,h3⟩,h4⟩,h5⟩,h6⟩,h7⟩,h8⟩:=h;rw[show Tw.eM C (.pq i j k e)=fun ρ h=>(Tw.ag C e ρ h).bind fun x h=>match x with
   |.tup [u,v,w]=>.ok (.next (((ρ.set i (some u)).set j (some v)).set k (some w))) h
   |_=>.bad from by funext ρ h;rw[Tw.uC]<;>rfl]
  exact Fp (Gg (R.fK.calm R.hd) (o5 (R.C6 h1 h2) (o5 (R.C6 h3 h4) (o5 (R.C6 h5 h6) Ee)))) (aY e R.fK R.sees h8).1 h7
 |.kY j fw a b f ks,s,h=>by
  exact no h
theorem lS(R:kz cf C CX E sc N X):∀(ts:List Tw.St){ss:List Stmt},jo cf sc N ts ss=true->eE X ss (dq (zx X E) (Tw.av C ts))
 |[],ss,h=>by
  obtain rfl:=bT h;exact zC
 |t::ts,ss,h=>by
  replace h:((ml ss).any fun r=>Bv cf sc N t r.1&&jo cf sc N ts r.2)=true\/(ts.isEmpty&&Bq cf sc N t ss)=true:=Bool.or_eq_true_iff.mp h;rcases h with h|h
  rotate_left
  .rw[aE] at h;obtain rfl:=bT h.1;exact ED R h.2
  replace h:=ay h;obtain⟨⟨s,r⟩,e1,h⟩:=h;obtain rfl:=eO e1;simp only[aE] at h;rw[show Tw.av C (t::ts)=fun ρ h=>(Tw.eM C t ρ h).bind fun f h=>match f with
   |.next ρ=>Tw.av C ts ρ h
   |f=>.ok f h from by funext ρ h;rw[Tw.aN]<;>rfl]
  exact vG (MG R t h.1) (lS R ts h.2)
end
end
structure bZ where
 key:Fk
 name:Str
 qual:Str
 st:Stmt
 N:List Str
 ps:List Str
 wk:Bool:=false
def tw(cf:Cfg)(d:bZ)(fn:Tw.Fn):Bool:=
 decide ((ax d.st).kind=.function)&&!(ax d.st).isCoroutine&&!(ax d.st).isGenerator&&decide d.N.Nodup&&decide (d.N.take d.ps.length=d.ps)&&
 d.ps.all (gT (ax d.st).names)&&(ax d.st).names.all (fun y=>decide (y.2≠.free))&&decide (fn.ps=d.ps.length)&&decide (fn.ns=d.N.length)&&jo {cf with wk:=d.wk} (ax d.st).names d.N fn.body (cK d.st)
def x9(cf:Cfg)(st:Stmt)(N:List Str)(b:Bool)(fn:Tw.Fn):Bool:=
 decide ((ax st).kind=.function)&&!(ax st).isCoroutine&&!(ax st).isGenerator&&decide N.Nodup&&decide (N.take 3=fC b)&&(fC b).all (fun x=>decide ((ax st).names.lookup x=some .local))&&
 (ax st).names.all (fun y=>decide (y.2≠.cell))&&decide ((N.drop 3).take (cq (ax st).names).length=cq (ax st).names)&&(cq (ax st).names).all (fun y=>decide ((ax st).names.lookup y=some .free))&&
 decide (fn.ps=3+(cq (ax st).names).length)&&decide (fn.ns=N.length)&&eT (dB st) (fC b)&&jo {cf with wk:=false,ci:=fun _ _=>false} (ax st).names N fn.body (cK st)
def xg(cf:Cfg)(bQ:List (Nat×List Str×Bool×Tw.Fn))(f:Nat)(st:Stmt):Bool:=match bQ.lookup f with
 |some (N,b,fn)=>x9 cf st N b fn
 |none=>false
noncomputable def oq(K:W.Frag)(mg:Str->Option Value)(g:Addr):Fk->Prop
 |.fn x=>mg x=some (.ref g)
 |.me c m=>∃A,mg ⟨c.toArray⟩=some (.ref A)/\GoodC K A/\(m=n8->Mk K A g)
 |.bQ=>False
def Oh(K:W.Frag)(mg:Str->Option Value)(tb:List jY)(q:Str)(fd:FuncData):Prop:=
 (∃c P,fd.code=.ref c/\(∀h:Heap,K.In h->W.CodeHd h c P)/\⟨P,q++ ".<locals>." ++ "answer"⟩∈tb/\(∀t∈tb,t.P=P->t.q=q++ ".<locals>." ++ "answer"))/\
 ∃bm ob,mg "__builtins__" = some (.ref bm)/\bm≠builtinsNs/\bm≠mainGlobals/\K.lookup bm=some ob/\ob.cls=.type "module" /\ob.dict=some builtinsNs/\ob.data=.plain
structure js(K:W.Frag)(mg:Str->Option Value)(tb:List jY)(d:bZ)(g:Addr)(fd:FuncData):Prop where
 F:za K d.name d.qual d.st g fd
 m:oq K mg g d.key
 b:∀us:List Value,us.length=d.ps.length->bindArgs fd ⟨us,[]⟩=pure (d.ps.zip us)
 w:d.wk=true->Oh K mg tb d.qual fd
def kx(K:W.Frag)(mg:Str->Option Value)(x:Str)(w:Tw.W):Prop:=∃v u,mg x=some u/\RelV v u/\∀ι n H,RW K ι n H w v
structure lj(K:W.Frag)(mg:Str->Option Value)(c:Tw.S)(fs:List Tw.S):Prop where
 ex:∃C,mg (str c)=some (.ref C)/\fs=[]/\uG K C
section
variable {P:Program}{w:World}{K:W.Frag}{mg:Str->Option Value}{base:Heap}{cf:Cfg}{C:Tw.Or}
theorem za.Ox{x qual:Str}{st:Stmt}{f:Addr}{fd:FuncData}{N ps:List Str}{k:Nat}{sp:Sp}{cl:fu}(F:za K x qual st f fd)(S:n9 N ps (ax st))(len:∀vs H Q E,sp vs H Q E->vs.length=ps.length)
  (hb:∀(A:Around)(outer:List Env)(s:Shared)(H:L2.Hp)(vs:List V)(Q:VK)(E:XK),cz k (A.deeper (envOfC qual (ax st) s.heap.objs.size f fd.code))->sp vs H Q E->
   ∃t,eE (qv (cO P w) P w K mg base N qual (ax st) f fd.code A outer s H E cl) (cK st) t/\t {nx:=fun _ H'=>Q .aw H',rt:=Q} (start N vs) H):cD P w K mg base (cO P w) (k+1) f fd ps sp:=by
 obtain⟨oc,od,kV,doc,pm,an,cdv,ct,osl,rfl,lk,hcd⟩:=F.ex;exact J7 lk hcd S len fun A outer s H vs Q E hr hsp=>hb A outer s H vs Q E hr hsp
theorem tU{K:Zk}{ι:Nat->Addr}{h:Tw.Hp}{H:L2.Hp}{ws:List Tw.W}{vs:List V}{N:List Str}(r:HR K ι h H)(rw':aT K.K ι h.length H ws vs)(hl:vs.length<=N.length):
  At K ι h H (ws.map some++List.replicate (N.length-ws.length) none) (start N vs):=by
 refine⟨r,?_,fun i w e=>?_⟩
 .unfold L2.start;simp only[gR,fQ,A4,rw'.length]
 .have hi:i<ws.length:=by
   by_cases hi:i<ws.length
   .exact hi
   .rw[mC (by simpa using hi),yI] at e;split at e<;>cases e
  rw[gi (by simpa using hi),jS] at e;cases e1:ws[i]? with
  |none=>rw[e1] at e;cases e
  |some u=>
   rw[e1] at e;cases e;obtain⟨v,g1,g2⟩:=rw'.get e1;refine⟨v,?_,g2⟩;unfold L2.start;rw[gi (by rw[fQ,<-rw'.length];exact hi),jS,g1];rfl
theorem zc{X:Cx}{E:XK}{sc:Scope}{N:List Str}(hP:X.prog=P)(hw:X.w=w)(hN:X.N=N)(hs:X.env.scope=sc)(h1:sc.kind=.function)(h4:N.Nodup)(hc:X.calm=true)(hu:X.A.units+100<cLine)
  (ex:X.ex=[]) (st:X.stack=X.env::X.outer) (fm:X.env.frame=some X.env.locals) (xe:X.xe=og X E) (ps:Passes (cO P w) X E) (po:PassesOwn (model X.prog X.w) X.A X.env X.xe)
  (hr:cz (k+1) X.A) (hb:∀x∈cV,X.mg x=none)
  (own:∀f kk,cf.fns[f]?=some kk->kk≠.bQ->∃g fd ps,cD P w X.K X.mg X.base (cO P w) k g fd ps (eJ X.K X.mg X.cl (C f))/\oq X.K X.mg g kk/\W.keepIn X.K (.ref g)=true/\Binds X.K fd ps [])
  (je:∀i c,X.cl.fs i=some c->∃fd ps,cD P w X.K X.mg X.base (cO P w) k c.g fd ps (tL X.K X.mg X.cl c (C c.f))/\Binds X.K fd ps []/\∃oc od sl,X.base.get? c.g=some ⟨oc,od,.func fd,sl⟩)
   (con:∀x w,cf.cons.lookup x=some w->kx X.K X.mg x w) (err:∀c fs,cf.cU.lookup c=some fs->lj X.K X.mg c fs) (xf:oQ X.K X.mg cf) (hdf:cf.hd=false) (hk2:2<=k)
  (fn:∀x,gT sc.names x=true->X.fn x=true\/X.env.scope.names.lookup x=some .local) (wk:cf.wk=true->KP cf C (cO P w) X):kz cf C (cO P w) E sc.names N X:=by
 subst hP hw;refine⟨⟨fun _=>hc,hu,fun f x e=>?_,fun f c m e=>?_,con,hb,xf,ps,cO.never,fun _ i c e=>?_⟩,⟨hN,by rw[hs];exact h1,fun x hx=>?_,fun x hx=>?_,fun x hx=>?_⟩,by rw[hs],h4,fn,po,?_,ex,st,fm,xe,rfl,fun c fs e=>?_,hdf,wk⟩
 .obtain⟨g',fd',ps',z1,z2,z3,z4⟩:=own f (.fn x) e (fun z=>nomatch z);exact⟨k,g',fd',ps',z1,hr.mono (mR k),z2,z3,z4⟩
 .obtain⟨g',fd',ps',z1,⟨A',y1,y2,y3⟩,z3,z4⟩:=own f (.me c m) e (fun z=>nomatch z);exact⟨k,g',fd',ps',A',z1,hr,y1,y2,y3,z4⟩
 .obtain⟨fd',ps',z1,z2,z3⟩:=je i c e;exact⟨k,fd',ps',z1,hr.mono (mR k),z2,z3⟩
 .show oB X.env.scope x;rw[hs];unfold qF at hx;cases e:sc.names.lookup x with
  |none=>rw[e] at hx;exact no hx
  |some k=>
   rw[e] at hx;cases k with
   | «local» => exact .inl e
   |cell=>exact .inr (.inl e)
   |free=>exact .inr (.inr e)
   |_=>exact no hx
 .show X.env.scope.names.lookup x=some .globalImplicit;rw[hs];unfold gN at hx;cases e:sc.names.lookup x with
  |none=>rw[e] at hx;exact no hx
  |some k=>
   rw[e] at hx;cases k with
   |globalImplicit=>rfl
   |_=>exact no hx
 .show X.env.scope.names.lookup x=some .cell\/X.env.scope.names.lookup x=some .free;rw[hs];unfold Dv at hx;cases e:sc.names.lookup x with
  |none=>rw[e] at hx;exact no hx
  |some k=>
   rw[e] at hx;cases k with
   |cell=>exact .inl rfl
   |free=>exact .inr rfl
   |_=>exact no hx
 .unfold Env.blockKind;rw[hs,h1];exact ite_self _
 .exact (err c fs e).ex
theorem Fb{α:Type}{l:List α}{i:Nat}{x:α}(e:l[i]?=some x):i<l.length:=(ib.mp e).1
theorem kj{K:W.Frag}{ι:Nat->Addr}{h:Tw.Hp}{H:L2.Hp}{cl:fu}{E:XK}{fn:Tw.Fn}{ws:List Tw.W}(p:au ⟨K,mg,E,cl⟩ RE ι h H (Tw.aB C fn ws h) Q):
  ws.length=fn.ps/\bG ⟨K,mg,E,cl⟩ ι h H (Tw.av C fn.body (ws.map some++List.replicate (fn.ns-fn.ps) none) h) {nx:=fun _ H'=>Q .aw H',rt:=Q}:=by
 unfold Tw.aB at p;by_cases c:ws.length=fn.ps
 .rw[if_pos c] at p;refine⟨c,?_⟩;cases e:Tw.av C fn.body (ws.map some++List.replicate (fn.ns-fn.ps) none) h with
  |bad=>rw[e] at p;exact p.elim
  |aI=>rw[e] at p;exact p
  |ok fl h'=>
   rw[e] at p;cases fl with
   |next ρ=>exact fun ι' H' σ' ex a=>p ι' H' .aw ex a.hr .aw
   |ret u=>exact p
   |brk ρ=>exact p.elim
   |cont ρ=>exact p.elim
 .rw[if_neg c] at p;exact p.elim
theorem Kq{tb:List jY}{cl:fu}(htb:cl.tb=tb)(D:js K mg tb d g fd)(h:tw cf d fn=true)(hb:∀x∈cV,mg x=none)(cb:CB cf.ci base cl)
  (own:∀f kk,cf.fns[f]?=some kk->kk≠.bQ->∃g fd ps,(∀base cl,cl.tb=tb->CB cf.ci base cl->cD P w K mg base (cO P w) k g fd ps (eJ K mg cl (C f)))/\oq K mg g kk/\W.keepIn K (.ref g)=true/\Binds K fd ps [])
  (je:∀i c,cl.fs i=some c->∃fd ps,cD P w K mg base (cO P w) k c.g fd ps (tL K mg cl c (C c.f))/\Binds K fd ps []/\∃oc od sl,base.get? c.g=some ⟨oc,od,.func fd,sl⟩)
   (con:∀x w,cf.cons.lookup x=some w->kx K mg x w) (err:∀c fs,cf.cU.lookup c=some fs->lj K mg c fs) (xf:oQ K mg cf) (hdf:cf.hd=false) (hk2:2<=k):
  cD P w K mg base (cO P w) (k+2) g fd d.ps (eJ K mg cl (Tw.aB C fn)):=by
 unfold tw at h;simp only[aE,aQ,ku,jD] at h;obtain⟨⟨⟨⟨⟨⟨⟨⟨⟨h1,h2⟩,h3⟩,h4⟩,h5⟩,h6⟩,h7⟩,h8⟩,h9⟩,h10⟩:=h;have S:n9 d.N d.ps (ax d.st):=⟨h1,h2,h3,h4,h5,fun x hx=>by
  have z:=h6 x hx;unfold gT at z;cases e:(ax d.st).names.lookup x with
  |none=>rw[e] at z;exact no z
  |some k=>
   rw[e] at z;cases k with
   | «local» => exact .inl rfl
   |cell=>exact .inr rfl
   |_=>exact no z,h7⟩
 have hpl:d.ps.length<=d.N.length:=by have:=c9 List.length h5;rw[m6] at this;omega
 have len:∀vs H Q E,eJ K mg cl (Tw.aB C fn) vs H Q E->vs.length=d.ps.length:=fun vs H Q E ⟨ws,h,ι,hr,rr,p⟩=>by
  rw[<-rr.length,(kj p).1,h8]
 refine za.Ox (cl:=cl) D.F S len fun A outer s H vs Q E hr hsp=>⟨dq ⟨K,mg,E,cl⟩ (Tw.av C fn.body),?_,?_⟩
 .refine lS (cf:={cf with wk:=d.wk}) (zc (k:=k) (N:=d.N) rfl rfl rfl rfl h1 h4 rfl (by have:=hr.un;show (A.deeper (envOfC d.qual (ax d.st) s.heap.objs.size g fd.code)).units+100<cLine;omega) rfl rfl rfl rfl (Dq rfl rfl rfl rfl) PassesOwn.leaving hr hb (fun f kk e ne=>?_) je con err ⟨xf.exc,xf.ie,xf.nA⟩ hdf hk2 (fun _ _=>.inl rfl) fun hw=>?_) fn.body h10
  .obtain⟨g',fd',ps',z1,z2⟩:=own f kk e ne;exact⟨g',fd',ps',z1 base cl htb cb,z2⟩
  .obtain⟨⟨c,P',w1,w2,w3,w4⟩,w5⟩:=D.w hw;refine⟨⟨⟨c,P',w1,w2,by rw[<-htb] at w3;exact w3,by rw[<-htb] at w4;exact w4⟩,w5⟩,fun _=>rfl,cb,fun f x e=>?_⟩;obtain⟨g',fd',ps',z1,z2,z3,z4⟩:=own f (.fn x) e (fun z=>nomatch z);exact⟨k,g',fd',ps',fun b' cl' e'=>z1 b' cl' (e'.trans htb),hr.mono (mR k),z2,z3,z4⟩
 .obtain⟨ws,h,ι,hr',rr,p⟩:=hsp;obtain⟨c,p⟩:=kj p;refine⟨_,h,ι,tU (K:=⟨K,mg,E,cl⟩) (N:=d.N) hr' rr (by rw[<-rr.length,c,h8];exact hpl),?_⟩;rw[show d.N.length-ws.length=fn.ns-fn.ps by rw[h9,c]];exact p
noncomputable def vX(CX:fR)(P:Program)(w:World)(K:W.Frag)(mg:Str->Option Value)(base:Heap)(N:List Str)(qual:Str)(scope:Scope)(f:Addr)(cd:Value)(clos:List (Str×Addr))(A:Around)(outer:List Env)(s:Shared)(H:L2.Hp)(E:XK)(cl:fu):Cx where
 prog:=P
 w:=w
 K:=K
 mg:=mg
 base:=base
 A:=A.deeper (W.envX qual scope s.heap.objs.size f cd clos)
 N:=N
 aO:=s
 jG:=H
 env:=W.envX qual scope s.heap.objs.size f cd clos
 outer:=outer
 stack:=W.envX qual scope s.heap.objs.size f cd clos::outer
 ex:=[]
 calm:=true
 fn:=fun _=>false
 pn:=[]
 xe:=fun e s'=>wpAny (model P w) (A.deeper (W.envX qual scope s.heap.objs.size f cd clos)) (leaving (W.envX qual scope s.heap.objs.size f cd clos) e) (fun _ s''=>CX outer H s E e s'') (fun e' s''=>CX outer H s E e' s'') s'
 cl:=cl
theorem Bk{names:List (Str×NameKind)}(h:names.lookup y=some .free):y∈cq names:=
 gC.mpr ⟨(y,.free),lC.mpr ⟨hZ h,rfl⟩,rfl⟩
theorem xW{CX:fR}{N:List Str}{qual:Str}{scope:Scope}{f:Addr}{cd:Value}{clos:List (Str×Addr)}{A:Around}{outer:List Env}{s:Shared}{H:L2.Hp}{E:XK}{us:List Value}{vs kvs:List V}{cl:fu}{b:Bool}{h₀:Heap}{tk:Nat}
  (h1:scope.kind=.function) (h5:N.take 3=fC b) (h6:∀x∈fC b,scope.names.lookup x=some .local) (h7:∀y∈scope.names,y.2≠.cell) (h8:(N.drop 3).take (cq scope.names).length=cq scope.names) (h9:∀y∈cq scope.names,scope.names.lookup y=some .free)
  (hd:A.handled=none) (e0:lO P w K mg base A outer s H) (hl:vs.length=3) (r:Vals vs us) (kk:Kept base scope.names clos kvs) (hns:h₀.Ns s.heap.objs.size (fun x=>((fC b).zip us).reverse.lookup x)) (hk:∀b o,s.heap.get? b=some o->h₀.get? b=some o):
  Inv (vX CX P w K mg base N qual scope f cd clos A outer s H E cl) [] (start N (vs++kvs)) H {s with heap:=h₀,toks:=tk}:=by
 have noA:∀b:Addr,b∉(vX CX P w K mg base N qual scope f cd clos A outer s H E cl).ex:=fun b z=>absurd (show b∈([]:List Addr) from z) (by simp);have one:∀{x:Str}{c:Addr},clos.lookup x=some c->∃y a u v,clos=[(y,a)]/\kvs=[v]/\x=y/\c=a/\base.IsCell a (some u)/\RelV v u/\cq scope.names=[y]:=fun {x c} e=>by
  rcases kk with ⟨rfl,_,_⟩|⟨y,a,u,v,rfl,rfl,hc,rv,hf⟩
  .cases e
  .rw[eA] at e;cases hb:x== y with
   |true=>rw[hb] at e;cases e;exact⟨y,_,u,v,rfl,rfl,eq_of_beq hb,rfl,hc,rv,hf⟩
   |false=>rw[hb] at e;cases e
 have kl:kvs.length=(cq scope.names).length:=by rcases kk with ⟨_,rfl,e⟩|⟨y,a,u,v,_,rfl,_,_,e⟩<;>rw[e]<;>rfl
 have hNl:3+kvs.length<=N.length:=by have z:=c9 List.length h8;rw[m6,xu] at z;have z3:=c9 List.length h5;rw[m6] at z3;have:(fC b).length=3:=rfl;omega
 refine⟨⟨e0.mod,h1,rfl,rfl,aV _,fun y z c e1 e2=>?_,fun y hy=>?_,fun y c hf _=>absurd (show false=true from hf) jP,fun _=>hd,Around.frames_deeper e0.frames,.inr ⟨rfl,rfl⟩,fun b z=>absurd z (noA b),e0.bs,e0.kQ,fun b _ _=>noA b,fun b z=>absurd z (noA b),e0.fM,e0.mU⟩,
  rfl,e0.bare,Un.kept hk,⟨_,hns,fun i y v e1 e2 e3=>?_⟩,fun y c e=>?_,e0.aD.fresh (aV _),fun y c e=>?_,fun p hp=>absurd (show p∈([]:aL) from hp) (by simp),e0.aD.kept hk,?_⟩
 .obtain⟨y1,a1,_,_,q1,_,rfl,_⟩:=one (show clos.lookup y=some c from e1);obtain⟨y2,a2,_,_,q2,_,rfl,_⟩:=one (show clos.lookup z=some c from e2);rw[q1] at q2;cases q2;rfl
 .have hy:scope.names.lookup y=some .cell\/scope.names.lookup y=some .free:=hy;rcases hy with hy|hy
  .exact absurd rfl (h7 _ (hZ hy))
  .have hm:=Bk hy;rcases kk with ⟨_,_,e⟩|⟨y',a,u,v,e1,_,_,_,e⟩
   .rw[e] at hm;cases hm
   .rw[e] at hm;obtain rfl:=gH.mp hm;exact⟨a,by show clos.lookup y=some a;rw[e1];simp⟩
 .unfold L2.start at e2;have hi:i<(vs++kvs).length:=by
   by_cases hi:i<(vs++kvs).length
   .exact hi
   .rw[mC (by simpa using hi),yI] at e2;split at e2<;>cases e2
  rw[gi (by simpa using hi),jS] at e2;have ha:(vs++kvs)[i]?=some v:=by
   cases e:(vs++kvs)[i]? with
   |none=>rw[e] at e2;cases e2
   |some a=>rw[e] at e2;cases e2;rfl
  have e1:N[i]?=some y:=e1;by_cases hi3:i<3
  .rw[gi (by omega)] at ha;obtain⟨u,hu,rv⟩:=r.get ha;have hp:(fC b)[i]?=some y:=by rw[<-h5,Bl hi3];exact e1
   refine⟨u,rv,.inl ⟨h6 y (pd hp),?_⟩⟩;have hu3:us.length=3:=by rw[<-r.length];exact hl
   match us,hu3 with
   |[u1,u2,u3],_=>
    match i,hi3 with
    |0,_=>cases hu;cases hp;cases b<;>rfl
    |1,_=>cases hu;cases hp;cases b<;>rfl
    |2,_=>cases hu;cases hp;cases b<;>rfl
  .rw[mC (by omega)] at ha;have hj:i-vs.length=i-3:=by rw[hl]
   rw[hj] at ha;rcases kk with ⟨_,rfl,_⟩|⟨y',a,u,v',e4,rfl,⟨o,ho,hod⟩,rv,e5⟩
   .cases ha
   .have h0:i-3=0:=by
     have:=Fb ha;simp at this;omega
    rw[h0] at ha;cases ha;have hy:y=y':=by
     have z:((N.drop 3).take 1)[0]?=some y':=by have q:=h8;rw[e5] at q;rw[show (1:Nat)=([y']:List Str).length from rfl,q];rfl
     rw[Bl (by decide),List.getElem?_drop] at z;have:3+0=i:=by omega
     rw[this,e1] at z;cases z;rfl
    subst hy;refine⟨u,rv,.inr ⟨.inr (h9 y (by rw[e5];exact .head _)),a,?_,o,hk _ _ (e0.bs a o ho).1,hod⟩⟩;show clos.lookup y=some a;rw[e4];simp
 .obtain⟨y1,a1,u,_,_,_,_,rfl,⟨o,ho,hod⟩,_⟩:=one (show clos.lookup y=some c from e);exact⟨_,o,hk _ _ (e0.bs _ o ho).1,hod⟩
 .obtain⟨y1,a1,u,_,_,_,_,rfl,⟨o,ho,hod⟩,_⟩:=one (show clos.lookup y=some c from e);exact (e0.bs _ o ho).2
 .unfold L2.start;show _=N.length;rw[gR,fQ,A4,gR,hl];omega
theorem Fm{cl:fu}{c:mx}{st:Stmt}{b:Bool}(B:vh base st c)(h:x9 cf st N b fn=true)(hb:∀x∈cV,mg x=none)
  (own:∀f kk,cf.fns[f]?=some kk->kk≠.bQ->∃g fd ps,cD P w K mg base (cO P w) k g fd ps (eJ K mg cl (C f))/\oq K mg g kk/\W.keepIn K (.ref g)=true/\Binds K fd ps [])
  (je:∀i c,cl.fs i=some c->∃fd ps,cD P w K mg base (cO P w) k c.g fd ps (tL K mg cl c (C c.f))/\Binds K fd ps []/\∃oc od sl,base.get? c.g=some ⟨oc,od,.func fd,sl⟩)
   (con:∀x w,cf.cons.lookup x=some w->kx K mg x w) (err:∀c fs,cf.cU.lookup c=some fs->lj K mg c fs) (xf:oQ K mg cf) (hdf:cf.hd=false) (hk2:2<=k):
  ∃fd ps,cD P w K mg base (cO P w) (k+2) c.g fd ps (tL K mg cl c (Tw.aB C fn))/\Binds K fd ps []/\∃oc od sl,base.get? c.g=some ⟨oc,od,.func fd,sl⟩:=by
 unfold x9 at h;simp only[aE,aQ,ku,jD] at h;obtain⟨⟨⟨⟨⟨⟨⟨⟨⟨⟨⟨⟨h1,h2⟩,h3⟩,h4⟩,h5⟩,h6⟩,h7⟩,h8⟩,h9⟩,h10⟩,h11⟩,h12⟩,h13⟩:=h;obtain⟨_,doc,pm,ctv,clos,_,eg,kk⟩:=B;have kl:c.vs.length=(cq (ax st).names).length:=by rcases kk with ⟨_,e1,e⟩|⟨y,a,u,v,_,e1,_,_,e⟩<;>rw[e,e1]<;>rfl
 have p3:(fC b).length=3:=rfl;have hNl:fn.ps<=N.length:=by have z:=c9 List.length h8;rw[m6,xu] at z;have z3:=c9 List.length h5;rw[m6] at z3;omega
 have len:∀vs H Q E,tL K mg cl c (Tw.aB C fn) vs H Q E->vs.length=(fC b).length:=fun vs H Q E ⟨_,ws,h,ι,hr,rr,p⟩=>by
  have z:=rr.length;rw[(kj p).1,h10,gR] at z;omega
 refine⟨_,fC b,⟨len,fun A outer s H args us vs Q E hr e0 hbd r hsp=>?_⟩,.all (CV b h12),_,_,_,eg⟩;have lim:s.heap.NoLimit:=e0.mod.nolimit.keeps fun b o e=>(e0.bs b o e).1;have hl:=len _ _ _ _ hsp;obtain⟨⟨oc,cvs,ct,hcd,hcdd,hcv⟩,ws,h,ι,hr',rr,p⟩:=hsp;obtain⟨hcg,_⟩:=e0.aD _ _ hcd;refine codeAny_call_def hr.depth (e0.bs _ _ eg).1 rfl lim ⟨_,oc,cvs,ct,rfl,hcg,hcdd,hcv⟩ rfl hbd h7 (fun y hy=>h6 _ (yk hy).1) (fun h₀ hns hk₀=>?_) h2 h3 h1;have I:Inv (vX (cO P w) P w K mg base N c.q (ax st) c.g (.ref c.cd) clos A outer s H E cl) [] (start N (vs++c.vs)) H {s with heap:=h₀,toks:=s.toks+((fC b).zip us).length}:=xW h1 h5 h6 h7 h8 h9 hr.hd e0 hl r kk hns hk₀;have R:kz {cf with wk:=false,ci:=fun _ _=>false} C (cO P w) E (ax st).names N (vX (cO P w) P w K mg base N c.q (ax st) c.g (.ref c.cd) clos A outer s H E cl):=by
  have hr2:cz (k+1) (vX (cO P w) P w K mg base N c.q (ax st) c.g (.ref c.cd) clos A outer s H E cl).A:=hr.deeper _;refine zc (k:=k) (N:=N) rfl rfl rfl rfl h1 h4 rfl (by have:=hr2.un;omega) rfl rfl rfl rfl (Dq rfl rfl rfl rfl) PassesOwn.leaving hr2 hb own je con err ⟨xf.exc,xf.ie,xf.nA⟩ hdf hk2 (fun x hx=>.inr ?_) fun z=>nomatch z;unfold gT at hx;show (ax st).names.lookup x=some .local;cases e:(ax st).names.lookup x with
  |none=>rw[e] at hx;exact no hx
  |some k=>
   rw[e] at hx;cases k with
   | «local» => rfl
   |cell=>exact absurd rfl (h7 _ (hZ e))
   |_=>exact no hx
 obtain⟨c1,p⟩:=kj p;have at0:At ⟨K,mg,E,cl⟩ ι h H (ws.map some++List.replicate (fn.ns-fn.ps) none) (start N (vs++c.vs)):=by have z:=tU (K:=⟨K,mg,E,cl⟩) (N:=N) hr' rr (by rw[<-rr.length,c1];exact hNl);rw[show N.length-ws.length=fn.ns-fn.ps by rw[h11,c1]] at z;exact z
 refine iJ (lS R fn.body h13 [] _ (start N (vs++c.vs)) H {nx:=fun _ H'=>Q .aw H',rt:=Q} I ⟨_,h,ι,at0,p⟩) (fun fl s' hs=>?_) fun e s' hs=>hs;have fin:∀{σ':L2.St}{H':L2.Hp}{v:V}{u:Value},Inv (vX (cO P w) P w K mg base N c.q (ax st) c.g (.ref c.cd) clos A outer s H E cl) [] σ' H' s'->RelV v u->Q v H'->CE outer P w H s Q u s':=
  fun {σ' H' v u} J rv q=>⟨v,H',J.os,J.bare,J.base,J.aD,rv,q⟩
 cases fl with
 |ret u=>
  obtain⟨v,σ',H',J,rv,q⟩:=hs;exact fin J rv q
 |next=>
  obtain⟨σ',H',J,q⟩:=hs;exact fin (v:=V.aw) (u:=Value.none) J rfl q
 |brk=>
  obtain⟨_,_,_,q⟩:=hs;exact False.elim q
 |cont=>
  obtain⟨_,_,_,q⟩:=hs;exact False.elim q
def jM(cf:Cfg):List bZ->List Tw.Fn->Bool
 |[],[]=>true
 |d::ds,f::fs=>(d.key== .bQ || tw cf d f)&&jM cf ds fs
 |_,_=>false
theorem rZ:∀{ds:List bZ}{fs:List Tw.Fn},jM cf ds fs=true->∀{i:Nat}{d:bZ},ds[i]?=some d->∃f,fs[i]?=some f/\(d.key== .bQ || tw cf d f)=true
 |[],[],_,i,d,e=>by simp at e
 |[],_::_,h,_,_,_=>by exact no h
 |_::_,[],h,_,_,_=>by exact no h
 |a::ds,f::fs,h,0,d,e=>by
  rw[jM,aE] at h;simp at e;subst e;exact⟨f,rfl,h.1⟩
 |a::ds,f::fs,h,i+1,d,e=>by
  rw[jM,aE] at h;obtain⟨f',z1,z2⟩:=rZ h.2 (i:=i) (d:=d) (by simpa using e);exact⟨f',by simpa using z1,z2⟩
theorem D4{bQ:List (Nat×List Str×Bool×Tw.Fn)}{tb:List jY}(hcf:cf.hd=false)(hci:cf.ci=xg cf bQ)(hfn:cf.fns=Ds.map (·.key))(h:jM cf Ds T=true)(hI:∀f N b fn,bQ.lookup f=some (N,b,fn)->T[f]?=some fn)
  (hD:∀d∈Ds,d.key≠.bQ->∃g fd,js K mg tb d g fd) (hb:∀x∈cV,mg x=none)
   (hC:∀x w,cf.cons.lookup x=some w->kx K mg x w) (hE:∀c fs,cf.cU.lookup c=some fs->lj K mg c fs) (hX:oQ K mg cf):
  ∀(k:Nat)(base:Heap)(cl:fu),cl.tb=tb->CB cf.ci base cl->(∀(i:Nat)(d:bZ),Ds[i]?=some d->∀g fd,js K mg tb d g fd->cD P w K mg base (cO P w) (2 * k+4) g fd d.ps (eJ K mg cl (Tw.run T k i)))/\
   ∀i c,cl.fs i=some c->∃fd ps,cD P w K mg base (cO P w) (2 * k+4) c.g fd ps (tL K mg cl c (Tw.run T k c.f))/\Binds K fd ps []/\∃oc od sl,base.get? c.g=some ⟨oc,od,.func fd,sl⟩:=by
 have inn_of:∀{d:bZ}{g:Addr}{fd:FuncData},js K mg tb d g fd->d.key≠.bQ:=fun D z=>by
  have:=D.m;rw[z] at this;exact this
 intro k
 induction k with
 |zero=>
  intro base cl htb cb;have bad:∀i vs H Q E,¬ eJ K mg cl (Tw.run T 0 i) vs H Q E:=fun i vs H Q E ⟨ws,h,ι,hr,rr,p⟩=>p.elim;refine⟨fun i d e g fd D=>⟨fun vs H Q E q=>(bad i vs H Q E q).elim,fun A outer s H args us vs Q E _ _ _ _ q=>(bad i vs H Q E q).elim⟩,fun i c e=>?_⟩;obtain⟨st,h1,b,doc,pm,ctv,clos,hp,eg,_⟩:=cb i c e;exact⟨_,fC b,⟨fun vs H Q E q=>(bad _ _ _ _ _ q.2).elim,fun A outer s H args us vs Q E _ _ _ _ q=>(bad _ _ _ _ _ q.2).elim⟩,.all (CV b hp),_,_,_,eg⟩
 |succ k ih=>
  intro base cl htb cb;have er:∀{i:Nat}{f:Tw.Fn},T[i]?=some f->Tw.run T (k+1) i=Tw.aB (Tw.run T k) f:=fun {i f} z1=>by
   funext xs hh;show (match T[i]? with|some fn=>Tw.aB (Tw.run T k) fn xs hh|none=>.bad)=_;rw[z1]
  have own:∀f kk,cf.fns[f]?=some kk->kk≠.bQ->∃g fd ps,(∀base cl,cl.tb=tb->CB cf.ci base cl->cD P w K mg base (cO P w) (2 * k+4) g fd ps (eJ K mg cl (Tw.run T k f)))/\oq K mg g kk/\W.keepIn K (.ref g)=true/\Binds K fd ps []:=fun j x ex ne=>by
   rw[hfn,jS] at ex;cases ed:Ds[j]? with
   |none=>rw[ed] at ex;cases ex
   |some d'=>
    rw[ed] at ex;cases ex;obtain⟨g',fd',D'⟩:=hD d' (pd ed) ne;exact⟨g',fd',d'.ps,fun b' cl' h1 h2=>(ih b' cl' h1 h2).1 j d' ed g' fd' D',D'.m,D'.F.kp,.all D'.b⟩
  have own0:∀f kk,cf.fns[f]?=some kk->kk≠.bQ->∃g fd ps,cD P w K mg base (cO P w) (2 * k+4) g fd ps (eJ K mg cl (Tw.run T k f))/\oq K mg g kk/\W.keepIn K (.ref g)=true/\Binds K fd ps []:=fun j x ex ne=>
   let ⟨g,fd,ps,z1,z2⟩:=own j x ex ne;⟨g,fd,ps,z1 base cl htb cb,z2⟩
  have je:=(ih base cl htb cb).2;rw[show 2 * (k+1)+4=(2 * k+4)+2 by omega];refine⟨fun i d e g fd D=>?_,fun i c e=>?_⟩
  .obtain⟨f,z1,z2⟩:=rZ h e;rw[er z1];have z2:tw cf d f=true:=by
    rcases Bool.or_eq_true_iff.mp z2 with z|z
    .exact absurd (eq_of_beq z) (inn_of D)
    .exact z
   exact Kq htb D z2 hb cb own je hC hE hX hcf (by omega)
  .obtain⟨st,h1,B⟩:=cb i c e;rw[hci] at h1;unfold xg at h1;cases el:bQ.lookup c.f with
   |none=>rw[el] at h1;exact no h1
   |some r=>
    obtain⟨N,b,fn⟩:=r;rw[el] at h1;rw[er (hI _ _ _ _ el)];exact Fm B h1 hb own0 je hC hE hX hcf (by omega)
end
end TwS
namespace TwS
open PySem PySem.W PyProof.Rows
noncomputable def nW(bt:String->Option Builtin)(p:Program)(w:World)(low:Nat)(nt:Option Value):Nat->SharedT->Thread->Option SharedT
 |0,_,_=>none
 |n+1,s,t=>match through t with
  |true=>some s
  |false=>match stepOk low nt t with
   |false=>none
   |true=>match stepT (denote bt) p w s t with
    |some (s',t')=>nW bt p w low nt n s' t'
    |none=>none
theorem xH{bt:String->Option Builtin}:∀{n:Nat}{s r:SharedT}{t:Thread},nW bt p w low nt n s t=some r->topRun bt p w low nt n s.abs t=some r.abs:=by
 intro n
 induction n with
 |zero=>intro s r t h;cases h
 |succ n ih=>
  intro s r t h;rw[nW] at h;rw[topRun];cases a:through t with
  |true=>rw[a] at h;cases h;rfl
  |false=>
   rw[a] at h;cases b:stepOk low nt t with
   |false=>rw[b] at h;cases h
   |true=>
    rw[b] at h;cases c:stepT (denote bt) p w s t with
    |none=>rw[c] at h;cases h
    |some q=>
     obtain⟨s',t'⟩:=q;rw[c] at h;rw[stepT_spec c];exact ih h
noncomputable def grow:List Obj->BT->Nat->Option (BT×Nat)
 |[],t,n=>some (t,n)
 |o::l,t,n=>match ((t.ins n o).get n).isSome with
  |true=>grow l (t.ins n o) (n+1)
  |false=>none
theorem tF:∀{l:List Obj}{t t':BT}{n n':Nat}{xs:List Obj},(absHeap t n life).objs.toList=xs->grow l t n=some (t',n')->absHeap t' n' life=⟨(xs++l).toArray,life⟩
 |[],t,t',n,n',xs,e,h=>by
  cases h;subst e;show Heap.mk _ _=Heap.mk _ _;simp[absHeap]
 |o::l,t,t',n,n',xs,e,h=>by
  rw[grow] at h;cases c:((t.ins n o).get n).isSome with
  |false=>rw[c] at h;cases h
  |true=>
   rw[c] at h;have z:=tF (life:=life) (xs:=xs++[o]) (by rw[absHeap_ins (life:=life) c];exact (Array.toList_push (xs:=(absHeap t n life).objs) (x:=o)).trans (by rw[e])) h;rw[z,rh];rfl
def nZ{α:Type}(p:Program)(N:Nat)(F:Shared->α)(w:World):Option α:=(fencedOpening treeTable p w N).bind fun aO=>match aO.heap.isNs mainGlobals&&aO.gens.size== 0 with
 |false=>none
 |true=>(grow aO.heap.objs.toList .nil 0).bind fun T=>(nW treeTable p w aO.heap.objs.size (aO.heap.nsMap mainGlobals "__annotations__") N ⟨T.1,T.2,aO.heap.life,aO.gens,aO.drawn,aO.toks,aO.os⟩ (topStub p)).bind fun s₁=>
  match staticsOk (importedModules p.main.body) aO.heap s₁.abs.heap&&namesBound p s₁.abs.heap&&gensDone s₁.abs&&laidKept aO.heap s₁.abs.heap with
   |true=>some (F s₁.abs)
   |false=>none
theorem nS{α:Type}{p:Program}{N:Nat}{F:Shared->α}{w:World}{r:α}(h:nZ p N F w=some r):(openEnds treeTable p w N).map F=some r:=by
 unfold nZ at h;unfold openEnds;cases a:fencedOpening treeTable p w N with
 |none=>rw[a] at h;cases h
 |some aO=>
  rw[a] at h;simp only[gf] at h⊢;unfold topFrom;cases b:(aO.heap.isNs mainGlobals&&aO.gens.size== 0) with
  |false=>rw[b] at h;cases h
  |true=>
   rw[b] at h;dsimp only at h⊢;cases c:grow aO.heap.objs.toList .nil 0 with
   |none=>rw[c] at h;cases h
   |some T=>
    rw[c] at h;simp only[gf] at h;obtain⟨s₁,e1,e2⟩:=ir.mp h;have z:=tF (life:=aO.heap.life) (xs:=[]) (by rfl) c;have e3:=xH e1;have ea:(⟨T.1,T.2,aO.heap.life,aO.gens,aO.drawn,aO.toks,aO.os⟩:SharedT).abs=aO:=by show Shared.mk _ _ _ _ _=_;rw[z];simp
    rw[ea] at e3;rw[e3];simp only[gf];cases d:(staticsOk (importedModules p.main.body) aO.heap s₁.abs.heap&&namesBound p s₁.abs.heap&&gensDone s₁.abs&&laidKept aO.heap s₁.abs.heap) with
    |false=>rw[d] at e2;cases e2
    |true=>rw[d] at e2;cases e2;rfl
end TwS
namespace TwS
open PySem L2 PyProof.Rows
theorem bF{K:W.Frag}{tb:List jY}{h:Heap}{mg:Str->Option Value}{x:Str}{st:Stmt}{N ps:List Str}{f:Addr}{od an:Option Addr}{sl:Array (Option Value)}{oc kV dc pm cd ct:Value}(X:K.In h)(G:h.Ns mainGlobals mg)(l:K.lookup f=some ⟨oc,od,.func (W.fnOf x x (dB st) (cK st) (ax st) .none kV dc pm an cd ct),sl⟩)(b:∀(kV doc pm:Value)(an:Option Addr)(cdv ct:Value)(us:List Value),us.length=ps.length->bindArgs (W.fnOf x x (dB st) (cK st) (ax st) .none kV doc pm an cdv ct) ⟨us,[]⟩=pure (ps.zip us))(a:W.nsIn K mainGlobals x=some (some (.ref f)):=by kernel_rfl)(c:W.codeIn K cd x=true:=by kernel_rfl)(k:W.keepIn K (.ref f)=true:=by kernel_rfl):
  ∃g fd,js K mg tb ⟨.fn x,x,x,st,N,ps,false⟩ g fd:=
 have F:=vn (st:=st) l c k
 ⟨f,_,F,gA X G a,fun us hl=>b _ _ _ _ _ _ us hl,fun z=>nomatch z⟩
theorem Oo{P:List Value->Prop}(h:P []):∀us:List Value,us.length=0->P us:=fun us hl=>by cases us with|nil=>exact h|cons _ _=>cases hl
theorem ja{P:List Value->Prop}(h:∀a0,P [a0]):∀us:List Value,us.length=1->P us:=fun us hl=>by cases us with|nil=>cases hl|cons a r=>exact Oo (P:=fun r=>P (a::r)) (h a) r (xj hl)
theorem oK{P:List Value->Prop}(h:∀a0 a1,P [a0,a1]):∀us:List Value,us.length=2->P us:=fun us hl=>by cases us with|nil=>cases hl|cons a r=>exact ja (P:=fun r=>P (a::r)) (fun b0=>h a b0) r (xj hl)
theorem qj{P:List Value->Prop}(h:∀a0 a1 a2,P [a0,a1,a2]):∀us:List Value,us.length=3->P us:=fun us hl=>by cases us with|nil=>cases hl|cons a r=>exact oK (P:=fun r=>P (a::r)) (fun b0 b1=>h a b0 b1) r (xj hl)
theorem Lb{P:List Value->Prop}(h:∀a0 a1 a2 a3,P [a0,a1,a2,a3]):∀us:List Value,us.length=4->P us:=fun us hl=>by cases us with|nil=>cases hl|cons a r=>exact qj (P:=fun r=>P (a::r)) (fun b0 b1 b2=>h a b0 b1 b2) r (xj hl)
theorem BG{β:Type}{P:Str->β->Prop}:∀x g,([]:List (Str×β)).lookup x=some g->P x g:=fun _ _ e=>nomatch e
theorem nC{β:Type}{P:Str->β->Prop}{y:Str}{b:β}{r:List (Str×β)}(h:P y b)(k:∀x g,r.lookup x=some g->P x g):∀x g,((y,b)::r).lookup x=some g->P x g:=by
 intro x g e;rw[eA] at e;cases c:x== y with
 |true=>rw[c] at e;cases e;rw[show x=y by simpa using c];exact h
 |false=>rw[c] at e;exact k x g e
def clsAt(s:Stmt)(j:Nat):Stmt:=match s with
 |.ClassDef _ _ _ b _ _ _ _ _ _ _=>b.getD j (.Pass ⟨0,0,0,0⟩)
 |s=>s
theorem DZ{K:W.Frag}{C:Addr}(g1:W.plainGet K C Str.empty=true:=by kernel_rfl)(g2:W.hasDictIn K C=true:=by kernel_rfl)(g3:W.plainOver K C=true:=by kernel_rfl)(g4:W.findIn K (.ref C) "__setattr__" = some (some (.builtin "object.__setattr__")):=by kernel_rfl)(a1:W.findIn K (.ref C) "free" = some none:=by kernel_rfl)(a4:W.findIn K (.ref C) "definitions" = some none:=by kernel_rfl)(a5:W.findIn K (.ref C) "numbers" = some none:=by kernel_rfl):GoodC K C:=by refine⟨⟨g1,g2,g3,g4⟩,?_⟩;unfold vU;simp only[uL];exact⟨a1,a4,a5,fun _ h=>nomatch h⟩
theorem DO{K:W.Frag}{tb:List jY}{h:Heap}{mg:Str->Option Value}{cn:Tw.S}{qual:Str}{st:Stmt}{N ps:List Str}{C f:Addr}{od an:Option Addr}{sl:Array (Option Value)}{oc kV dc pm cd ct:Value}(X:K.In h)(G:h.Ns mainGlobals mg)(l:K.lookup f=some ⟨oc,od,.func (W.fnOf "__init__" qual (dB st) (cK st) (ax st) .none kV dc pm an cd ct),sl⟩)(g:GoodC K C)(b:∀(kV doc pm:Value)(an:Option Addr)(cdv ct:Value)(us:List Value),us.length=ps.length->bindArgs (W.fnOf "__init__" qual (dB st) (cK st) (ax st) .none kV doc pm an cdv ct) ⟨us,[]⟩=pure (ps.zip us))(a:W.nsIn K mainGlobals ⟨cn.toArray⟩=some (some (.ref C)):=by kernel_rfl)(m2:W.findIn K (.ref C) "__init__" = some (some (.ref f)):=by kernel_rfl)(c:W.codeIn K cd qual=true:=by kernel_rfl)(k:W.keepIn K (.ref f)=true:=by kernel_rfl)(m1:W.makesIn K C=true:=by kernel_rfl)(m3:W.isFn K (.ref f)=true:=by kernel_rfl)(m4:W.keepIn K (.ref C)=true:=by kernel_rfl):
  ∃g fd,js K mg tb ⟨.me cn n8, "__init__",qual,st,N,ps,false⟩ g fd:=
 have F:=vn (st:=st) l c k
 ⟨f,_,F,⟨C,gA X G a,g,fun _=>⟨m1,m2,m3,m4⟩⟩,fun us hl=>b _ _ _ _ _ _ us hl,fun z=>nomatch z⟩
theorem zE{K:W.Frag}{h:Heap}{mg:Str->Option Value}{x:Str}{t:Addr}{od:Option Addr}{z:Tw.S}{tk:Tok}{n:Nat}{sl:Array (Option Value)}(X:K.In h)(G:h.Ns mainGlobals mg)
  (a:W.nsIn K mainGlobals x=some (some (.ref t))) (lk:K.lookup t=some ⟨.type "tuple",od,.seq #[.str ⟨z.toArray⟩ tk] n,sl⟩) (hz:z.all (fun c=>decide (c<0x110000))=true):kx K mg x (.tup [.str z]):=by
 refine⟨.ref t,.ref t,gA X G a,rfl,fun ι n' H=>.tup (xs:=[.str ⟨z.toArray⟩]) (.inr ⟨_,_,n,lk,rfl,rfl,by show 1<=sizeLine;rw[f7];decide,.cons ⟨tk,rfl⟩ .nil⟩) (.cons (.str z ?_) .nil)⟩;intro c hc;have:=(jD.mp hz) c hc;simpa using this
theorem wQ:∀zs:List (Tw.S×Nat),Vals (zs.map fun z=>V.str ⟨z.1.toArray⟩) (zs.map fun z=>Value.str ⟨z.1.toArray⟩ z.2)
 |[]=>.nil
 |z::zs=>.cons ⟨z.2,rfl⟩ (wQ zs)
theorem zT{K:W.Frag}{ι:Nat->Addr}{n:Nat}{H:Hp}:∀zs:List (Tw.S×Nat),zs.all (fun z=>z.1.all fun c=>decide (c<0x110000))=true->aT K ι n H (zs.map fun z=>.str z.1) (zs.map fun z=>V.str ⟨z.1.toArray⟩)
 |[],_=>.nil
 |z::zs,h=>by
  rw[lD,aE] at h;refine .cons (.str z.1 ?_) (zT zs h.2);intro c hc;have:=(jD.mp h.1) c hc;simpa using this
theorem Ef{K:W.Frag}{h:Heap}{mg:Str->Option Value}{x:Str}{t:Addr}{od:Option Addr}{zs:List (Tw.S×Nat)}{n:Nat}{sl:Array (Option Value)}(X:K.In h)(G:h.Ns mainGlobals mg)
  (a:W.nsIn K mainGlobals x=some (some (.ref t))) (lk:K.lookup t=some ⟨.type "tuple",od,.seq (zs.map fun z=>Value.str ⟨z.1.toArray⟩ z.2).toArray n,sl⟩) (hl:zs.length<=100) (hz:zs.all (fun z=>z.1.all fun c=>decide (c<0x110000))=true):kx K mg x (.tup (zs.map fun z=>.str z.1)):=by
 refine⟨.ref t,.ref t,gA X G a,rfl,fun ι n' H=>.tup (xs:=zs.map fun z=>V.str ⟨z.1.toArray⟩) (.inr ⟨_,_,n,lk,rfl,rfl,?_,?_⟩) (zT zs hz)⟩
 .rw[f7];simp;omega
 .simpa using wQ zs
theorem Hg{K:W.Frag}{h:Heap}{mg:Str->Option Value}(X:K.In h)(G:h.Ns mainGlobals mg)(z0:W.nsIn K mainGlobals "len" = some none:=by kernel_rfl)(z1:W.nsIn K mainGlobals "list" = some none:=by kernel_rfl)(z2:W.nsIn K mainGlobals "int" = some none:=by kernel_rfl)(z3:W.nsIn K mainGlobals "isinstance" = some none:=by kernel_rfl)(z4:W.nsIn K mainGlobals "range" = some none:=by kernel_rfl)(z5:W.nsIn K mainGlobals "reversed" = some none:=by kernel_rfl):∀x∈cV,mg x=none:=by unfold cV;simp only[uL];exact⟨lU X G z0,lU X G z1,lU X G z2,lU X G z3,lU X G z4,lU X G z5,fun _ h=>nomatch h⟩
theorem DW{K:W.Frag}{h:Heap}{mg:Str->Option Value}{c:Tw.S}{C:Addr}(X:K.In h)(G:h.Ns mainGlobals mg)(M:uG K C)(a:W.nsIn K mainGlobals (str c)=some (some (.ref C)):=by kernel_rfl):lj K mg c []:=⟨C,gA X G a,rfl,M⟩
theorem Ff{K:W.Frag}{h:Heap}{mg:Str->Option Value}{c:Tw.S}{C:Addr}(X:K.In h)(G:h.Ns mainGlobals mg)(xc:XC K C)(t1:W.findIn K (.ref C) "__class__" = some (some (.builtin "object.__class__")):=by kernel_rfl)(t2:W.specialIn K (.builtin "object.__class__") "__get__" = some (some (.builtin "getset_descriptor.__get__")):=by kernel_rfl)(t3:W.takesIn K (.builtin "object.__class__")=some true:=by kernel_rfl)(a:W.nsIn K mainGlobals (str c)=some (some (.ref C)):=by kernel_rfl):∃C,mg (str c)=some (.ref C)/\XC K C/\XT K C:=
 ⟨C,gA X G a,xc,⟨t1,t2,t3⟩⟩
theorem wM{α β:Type}{P:α->β->Prop}:∀x y,(x,y)∈([]:List (α×β))->P x y:=fun _ _ e=>nomatch e
theorem mem_cons{α β:Type}{P:α->β->Prop}{a:α}{b:β}{r:List (α×β)}(h:P a b)(k:∀x y,(x,y)∈r->P x y):∀x y,(x,y)∈(a,b)::r->P x y:=fun x y e=>by
 rcases cY.mp e with e|e
 .cases e;exact h
 .exact k x y e
theorem um{β:Type}{s:Tw.S}{f:β}:∀{g:List (Tw.S×β)},g.lookup s=some f->(s,f)∈g
 |[],e=>by simp at e
 |(a,b)::g,e=>by
  rw[eA] at e;cases c:s== a with
  |true=>
   rw[c] at e;cases e;have:s=a:=by simpa using c
   subst this;exact oY
  |false=>rw[c] at e;exact jB _ (um e)
theorem each{K:W.Frag}{h:Heap}{mg:Str->Option Value}{cU:List (Tw.S×List Tw.S)}{es:List (Tw.S×Addr)}(X:K.In h)(G:h.Ns mainGlobals mg)(ee:cU.map (·.1)=es.map (·.1))(en:(es.map fun p=>W.nsIn K mainGlobals (str p.1))=es.map fun p=>some (some (Value.ref p.2)))
  {P:Addr->Option Bool}{cs:List Tw.S} (k:(es.map fun p=>P p.2)=es.map fun p=>some (cs.contains p.1)):∀c fs C,cU.lookup c=some fs->mg (str c)=some (.ref C)->P C=some (cs.contains c):=by
 intro c fs C e m;have hc:c∈es.map (·.1):=by rw[<-ee];exact gC.mpr ⟨(c,fs),um e,rfl⟩
 obtain⟨⟨c',A⟩,hm,rfl⟩:=gC.mp hc;have:=gA X G (List.map_inj_left.mp en _ hm);rw[m] at this;cases this;exact List.map_inj_left.mp k _ hm
theorem zk{K:W.Frag}{h:Heap}{mg:Str->Option Value}(X:K.In h)(G:h.Ns mainGlobals mg):∀{ns:List Tw.S}{as:List Addr},(ns.map fun n=>W.nsIn K mainGlobals (str n))=(as.map fun a=>some (some (Value.ref a)))->(ns.map fun n=>mg (str n))=(as.map fun a=>some (Value.ref a))
 |[],[],_=>rfl
 |[],_::_,e=>nomatch e
 |_::_,[],e=>nomatch e
 |n::ns,a::as,e=>by
  simp only[bx,tP] at e;rw[bx,bx,gA X G e.1,zk X G e.2]
theorem ug{P:Tw.S->List Tw.S->Prop}:∀c fs,([]:List (Tw.S×List Tw.S)).lookup c=some fs->P c fs:=fun _ _ e=>nomatch e
theorem rL{P:Tw.S->List Tw.S->Prop}(h:P y b)(k:∀c fs,r.lookup c=some fs->P c fs):∀c fs,((y,b)::r).lookup c=some fs->P c fs:=by
 intro x g e;rw[eA] at e;cases c:x== y with
 |true=>rw[c] at e;cases e;rw[show x=y by simpa using c];exact h
 |false=>rw[c] at e;exact k x g e
theorem uA{K:W.Frag}{ι:Nat->Addr}{n:Nat}{H:L2.Hp}:∀ns:List Int,aT K ι n H (ns.map Tw.W.int) (ns.map V.int)
 |[]=>.nil
 |i::r=>.cons (.int i) (uA r)
theorem Ks{K:W.Frag}{tb:List jY}{h:Heap}{mg:Str->Option Value}{x:Str}{st:Stmt}{N ps:List Str}{f c P bm:Addr}{od an od':Option Addr}{sl sl' sl2:Array (Option Value)}{oc kV dc pm ct:Value}{vs:Array Value}{file:Str}{tf tg tt:Tok}{flags tx:Int}{inF:Bool}(X:K.In h)(G:h.Ns mainGlobals mg)
  (a:W.nsIn K mainGlobals x=some (some (.ref f))) (l:K.lookup f=some ⟨oc,od,.func (W.fnOf x x (dB st) (cK st) (ax st) .none kV dc pm an (.ref c) ct),sl⟩) (cc:W.codeIn K (.ref c) x=true) (k:W.keepIn K (.ref f)=true)
  (b:∀(kV doc pm:Value)(an:Option Addr)(cdv ct:Value)(us:List Value),us.length=ps.length->bindArgs (W.fnOf x x (dB st) (cK st) (ax st) .none kV doc pm an cdv ct) ⟨us,[]⟩=pure (ps.zip us))
  (lc:K.lookup c=some ⟨.type "code",od',.fields vs,sl'⟩) (v1:vs[11]?=some (.ref P)) (v2:vs.getD 18 .none=.str file tf) (v3:vs.getD 7 .none=.int flags tg) (v4:vs.getD 9 .none=.bool inF) (v5:vs.getD 10 .none=.int tx tt) (ne:c≠P)
  (m:⟨P,x++ ".<locals>." ++ "answer"⟩∈tb) (u:∀t∈tb,t.P=P->t.q=x++ ".<locals>." ++ "answer") (lb:W.nsIn K mainGlobals "__builtins__" = some (some (.ref bm))) (n1:bm≠builtinsNs) (n2:bm≠mainGlobals) (lm:K.lookup bm=some ⟨.type "module",some builtinsNs,.plain,sl2⟩):
  ∃g fd,js K mg tb ⟨.fn x,x,x,st,N,ps,true⟩ g fd:=
 have F:=vn (st:=st) l cc k
 ⟨f,_,F,gA X G a,fun us hl=>b _ _ _ _ _ _ us hl,fun _=>⟨⟨c,P,rfl,fun h' X'=>⟨_,vs,file,tf,flags,tg,inF,tx,tt,X' _ _ lc,rfl,rfl,v1,by rw[Array.getD_eq_getD_getElem?,v1];rfl,v2,v3,v4,v5,ne⟩,m,u⟩,bm,_,gA X G lb,n1,n2,lm,rfl,rfl,rfl⟩⟩
def yt(tb:List jY)(H:L2.Hp):Prop:=(∀b,H b=none\/(∃o xs,H b=some (.bh o (.lst xs)))\/∃ps,H b=some (.eD ps))/\∀t∈tb,H t.P=some (.eD #[])
theorem y6{P:Program}{w:World}{K:W.Frag}{mg mb:Str->Option Value}{CX:fR}{k:Nat}{fa a:Addr}{fd:FuncData}{x:Str}{sp:Sp}{s₁:Shared}{vs:List Value}{ns:List Int}{tb:List jY}
  (KX:K.In s₁.heap) (hns:s₁.heap.Ns mainGlobals mg) (hb:s₁.heap.Ns builtinsNs mb) (hbb:∀x:Str,x≠ "__name__" ->mb x=bootBuiltins x) (hlim:s₁.heap.NoLimit) (hg:s₁.gens=#[])
  (ha:s₁.heap.get? a=some {cls:=.type "list",data:=.seq vs.toArray}) (hi:IntsAre vs ns) (hl:ns.length<=sizeLine) (hr:cz k callerA)
  (ht:∀t∈tb,s₁.heap.get? t.P=some (W.tabObj #[])) (hct:∀t∈tb,isCodeTable s₁.heap t.P) (hKt:∀t∈tb,K.lookup t.P=none)
  (F:∀base:Heap,K.In base->base.Ns mainGlobals mg->cD P w K mg base CX k fa fd [x] sp) (hbind:∀(s:Shared)(u:Value),BindsTo s fd ⟨[u],[]⟩ [(x,u)])
  (hsp:∀H:L2.Hp,yt tb H->dh K H a (ns.map V.int)->sp [.ref a] H (fun v _=>v=.bl true) fun _ _ _=>False)
  (hCX:∀H e s',CX [] H s₁ (fun _ _ _=>False) e s'->False):
  codeAny (model P w) callerA (.call (.ref fa) ⟨[.ref a],[]⟩) (fun r s'=>r=.ok (.ret (.bool true))/\OldK s₁.heap s'.heap/\s'.os=s₁.os/\AllBare s'.gens) s₁:=by
 have rv:=sk hi;have lenV:=hi.length;have core:∀H:L2.Hp,yt tb H->dh K H a (ns.map V.int)->dI P w H s₁.heap->(∀b,H b≠none->b=a\/∃t∈tb,b=t.P)->(H a≠none->K.lookup a=none)->
   codeAny (model P w) callerA (.call (.ref fa) ⟨[.ref a],[]⟩) (fun r s'=>r=.ok (.ret (.bool true))/\OldK s₁.heap s'.heap/\s'.os=s₁.os/\AllBare s'.gens) s₁:=by
  intro H hO hS aD hA hK;have base_of:∀{b:Addr}{o:Obj},s₁.heap.get? b=some o->H b=none->(lP s₁.heap H).get? b=some o:=fun e n=>BW e n;have noA:∀{b:Addr}{o:Obj}{es:Array DictEntry}{ep:Nat},s₁.heap.get? b=some o->o.data=.dict es ep->H b=none:=fun {b o es ep} e d=>by
   cases q:H b with
   |none=>rfl
   |some u=>
    rcases hA b (by rw[q];simp) with e'|⟨t,htm,e'⟩
    .subst e';rw[ha] at e;cases e;have d':Data.seq vs.toArray _=Data.dict es ep:=d;cases d'
    .subst e';rw[ht t htm] at e;cases e;have d':Data.fields _=Data.dict es ep:=d;cases d'
  have nsK:∀{b:Addr}{m:Str->Option Value},s₁.heap.Ns b m->(lP s₁.heap H).Ns b m:=fun {b m} ⟨o,es,ep,e,d,r⟩=>⟨o,es,ep,base_of e (noA e d),d,r⟩;have hKb:K.In (lP s₁.heap H):=fun b o e=>base_of (KX b o e) (by
   cases q:H b with
   |none=>rfl
   |some u=>
    rcases hA b (by rw[q];simp) with e'|⟨t,htm,e'⟩
    .subst e';rw[hK (by rw[q];simp)] at e;cases e
    .subst e';rw[hKt t htm] at e;cases e)
  have hM:Mod K mg (lP s₁.heap H):=⟨hKb,nsK hns,⟨mb,nsK hb,hbb⟩,let ⟨mc,h1,h2⟩:=hlim;⟨mc,nsK h1,h2⟩⟩;have e0:lO P w K mg (lP s₁.heap H) callerA [] s₁ H:=⟨rfl,hM,fun b o e=>Eu e,qx (zL _ _),trivial,fun b hb=>absurd (show b∈([]:List Addr) from hb) (by simp),aD,.of_eq hg⟩;refine ot ((F _ hKb (nsK hns)).run callerA [] s₁ H ⟨[.ref a],[]⟩ [.ref a] [.ref a] _ _ hr e0 (hbind s₁ (.ref a)) (.cons rfl .nil) (hsp H hO hS)) fun r s' h=>?_;cases r with
  |error e=>exact (hCX H e s' h).elim
  |ok fl=>
   cases fl with
   |next=>exact False.elim h
   |brk=>exact False.elim h
   |cont=>exact False.elim h
   |ret u=>
    obtain⟨v,H',os,bare,un,hok',r',q⟩:=h;have q':v=.bl true:=q;subst q';obtain rfl:u=Value.bool true:=r';refine⟨rfl,⟨fun b o e=>?_,fun b o e=>un.there b o e (by simp)⟩,os,bare⟩;cases q:H b with
    |none=>exact .inl (un.keep b o e q (by intro z;exact absurd (show b∈([]:List Addr) from z) (by simp)) (by simp))
    |some u=>
     rcases hO.1 b with z|⟨ob,xs,z⟩|⟨ps,z⟩
     .rw[q] at z;cases z
     .have z2:=un.fL b ob _ z;obtain⟨e1,_⟩:=aD b _ z;obtain⟨e2,_⟩:=hok' b _ z2;rw[e] at e1;cases e1;exact .inl e2
     .rcases hA b (by rw[q];simp) with e'|⟨t,htm,e'⟩
      .subst e';have e1:s₁.heap.get? b=some _:=aD b _ z;rw[ha] at e1;cases e1
      .subst e';obtain⟨more,z2⟩:=un.fS _ ps z;have e2:s'.heap.get? t.P=some _:=hok' _ _ z2;have e1:=ht t htm;rw[e] at e1;cases e1;have e3:s₁.heap.get? t.P=some _:=aD _ _ z;rw[e] at e3;cases e3;exact .inr (.inl ⟨hct t htm,rfl,#[],more,rfl,e2⟩)
 have aP:∀t∈tb,t.P≠a:=fun t htm z=>by
  have e:=ht t htm;rw[z,ha] at e;cases e
 have tabH:∀(A:Addr->Option HO)(b:Addr),(∃t∈tb,b=t.P)->(if tb.any (fun t=>t.P== b)=true then some (HO.eD #[]) else A b)=some (.eD #[]):=fun A b ⟨t,h1,h2⟩=>if_pos (List.any_eq_true.mpr ⟨t,h1,by simp[h2]⟩);have tabN:∀(A:Addr->Option HO)(b:Addr),¬ (∃t∈tb,b=t.P)->(if tb.any (fun t=>t.P== b)=true then some (HO.eD #[]) else A b)=A b:=fun A b h=>if_neg fun z=>h (by obtain⟨t,h1,h2⟩:=List.any_eq_true.mp z;exact⟨t,h1,(iF.mp h2).symm⟩)
 have naT:¬ ∃t∈tb,a=t.P:=fun⟨t,h1,h2⟩=>aP t h1 h2.symm;cases hk:K.lookup a with
 |some o=>
  have e:=KX a o hk;rw[ha] at e;cases e;refine core (fun b=>if tb.any (fun t=>t.P== b)=true then some (HO.eD #[]) else none) ⟨fun b=>?_,fun t h=>tabH (fun _=>none) _ ⟨t,h,rfl⟩⟩ (.inr ⟨_,vs.toArray,_,hk,rfl,rfl,rfl,by rw[cW,lenV];exact hl,by simpa using rv⟩) (fun b u z=>?_) (fun b z=>?_) fun z=>absurd (tabN (fun _=>none) a naT) z
  .by_cases c:∃t∈tb,b=t.P
   .exact .inr (.inr ⟨_,tabH (fun _=>none) b c⟩)
   .exact .inl (tabN (fun _=>none) b c)
  .by_cases c:∃t∈tb,b=t.P
   .have z':=(tabH (fun _=>none) b c).symm.trans z;cases z';obtain⟨t,h1,rfl⟩:=c;exact ht t h1
   .have z':=(tabN (fun _=>none) b c).symm.trans z;cases z'
  .by_cases c:∃t∈tb,b=t.P
   .exact .inr c
   .exact absurd (tabN (fun _=>none) b c) z
 |none=>
  obtain⟨A,An,Aa⟩:∃A:Addr->Option HO,(∀b,b≠a->A b=none)/\A a=some (.bh {cls:=.type "list",data:=.seq vs.toArray} (.lst (ns.map V.int))):=⟨fun b=>if b=a then some (.bh {cls:=.type "list",data:=.seq vs.toArray} (.lst (ns.map V.int))) else none,fun b h=>if_neg h,if_pos rfl⟩;refine core (fun b=>if tb.any (fun t=>t.P== b)=true then some (HO.eD #[]) else A b) ⟨fun b=>?_,fun t h=>tabH A _ ⟨t,h,rfl⟩⟩ (.inl (.inr ⟨{cls:=.type "list",data:=.seq vs.toArray},(tabN A a naT).trans Aa⟩)) (fun b u z=>?_) (fun b z=>?_) fun _=>hk
  .by_cases c:∃t∈tb,b=t.P
   .exact .inr (.inr ⟨_,tabH A b c⟩)
   .by_cases hb:b=a
    .subst hb;exact .inr (.inl ⟨_,_,(tabN A b c).trans Aa⟩)
    .exact .inl ((tabN A b c).trans (An b hb))
  .by_cases c:∃t∈tb,b=t.P
   .have z':=(tabH A b c).symm.trans z;cases z';obtain⟨t,h1,rfl⟩:=c;exact ht t h1
   .have z:=(tabN A b c).symm.trans z;by_cases hb:b=a
    .subst hb;have z':=Aa.symm.trans z;cases z';exact⟨ha,by rw[fQ];exact hl,vs,_,rv,ha⟩
    .have z':=(An b hb).symm.trans z;cases z'
  .by_cases c:∃t∈tb,b=t.P
   .exact .inr c
   .by_cases hb:b=a
    .exact .inl hb
    .exact absurd ((tabN A b c).trans (An b hb)) z
theorem BC{T:List Tw.Fn}{Ds:List bZ}{cf:Cfg}{bQ:List (Nat×List Str×Bool×Tw.Fn)}{tb:List jY}{i k:Nat}{st:Stmt}{N:List Str}{l:W.OpenLaw}{q:Program}{loose:List Str}{XP:(Str->Option Value)->Heap->Prop}{YP:World->Heap->Prop}{d:DefRec}{K KF:Params->W.Frag}{x:Str}
  (hcf:cf.hd=false) (hci:cf.ci=xg cf bQ) (hfn:cf.fns=Ds.map (·.key)) (hc:jM cf Ds T=true) (hI:∀f N b fn,bQ.lookup f=some (N,b,fn)->T[f]?=some fn) (hi:Ds[i]?=some ⟨.fn "law", "law", "law",st,N,[x],false⟩) (hn:l.most=some 63) (hdf:d.params.defaults=[])
  (hY:∀(w:World)(h:Heap),YP w h->(KF w.params).In h) (hKF:∀p,KF p=K p++tb.map fun t=>(t.P,W.tabObj #[])) (hKt:∀p,∀t∈tb,(K p).lookup t.P=none) (hKc:∀p,∀t∈tb,∃c od sl vs,(K p).lookup c=some ⟨.type "code",od,.fields vs,sl⟩/\vs[11]?=some (.ref t.P)) (hd:d.name= "law")
  (F:∀(w:World)(mg:Str->Option Value)(h:Heap),(K w.params).In h->h.Ns mainGlobals mg->(∀d∈Ds,d.key≠.bQ->∃g fd,js (K w.params) mg tb d g fd)/\(∀x∈cV,mg x=none)/\(∀x w',cf.cons.lookup x=some w'->kx (K w.params) mg x w')/\(∀c fs,cf.cU.lookup c=some fs->lj (K w.params) mg c fs)/\oQ (K w.params) mg cf)
  (hr:cz (2 * k+4) callerA) (law:∀ns:List Int,ns.length<=63->∃h',Tw.run T k i [.ref 0] [.bh (ns.map .int)]=.ok (.bl true) h'):
  W.WalkO q loose XP YP l.row.toRowW d [] (fun f vs=>PySem.call f vs):=by
 refine Att.vq hn hdf fun w aO s₁ mg mb fa o pm cd doc a vs ns G Y ho hd' hcd hmg hobj hints hlen hg=>?_;have KF1:=hY w _ Y;rw[hKF] at KF1;have KX:(K w.params).In s₁.heap:=fun b o e=>KF1 b o (by rw[List.lookup_append,e];rfl);have mapL:∀(tb:List jY) t,t∈tb->(tb.map fun t=>(t.P,W.tabObj #[])).lookup t.P=some (W.tabObj #[]):=by
  intro tb
  induction tb with
  |nil=>intro t h;cases h
  |cons u r ih=>
   intro t h;rw[bx,eA];cases q:t.P== u.P with
   |true=>rfl
   |false=>
    rcases cY.mp h with rfl|h
    .simp at q
    .exact ih t h
 have ht:∀t∈tb,s₁.heap.get? t.P=some (W.tabObj #[]):=fun t h=>KF1 _ _ (by rw[List.lookup_append,hKt _ t h];exact mapL tb t h);have hct:∀t∈tb,isCodeTable s₁.heap t.P:=fun t h=>by
  obtain⟨c,od,sl,vs,e1,e2⟩:=hKc w.params t h;exact⟨c,_,vs,KX _ _ e1,rfl,rfl,e2⟩
 obtain⟨hD,hb,hC,hE,hX⟩:=F w mg _ KX G.T.g;obtain⟨g,fd,D⟩:=hD _ (pd hi) (fun z=>nomatch z);rw[hd] at hmg;have dm:mg "law" = some (.ref g):=D.m;have e:Value.ref fa=Value.ref g:=kL (hmg.symm.trans dm);cases e;have cb0:∀base,CB cf.ci base ⟨fun _=>none,tb⟩:=fun base i c e=>nomatch e;refine y6 (CX:=cO l.prog w) (k:=2 * k+4) (x:=x) (tb:=tb) (sp:=fun vs H Q E=>∃a:Addr,vs=[.ref a]/\rU (K w.params) H a (ns.map V.int)/\yt tb H/\∀H',Q (.bl true) H') KX G.T.g G.T.b G.T.builtins G.T.nolimit hg hobj hints (bW hlen (by decide)) hr ht hct (hKt w.params)
  (fun base _ _=>((D4 hcf hci hfn hc hI hD hb hC hE hX k base ⟨fun _=>none,tb⟩ rfl (cb0 base)).1 i _ hi _ fd D).imp fun vs H Q E ⟨a,ev,sq,hO,q⟩=>?_) (fun s u=>.of_eq (D.b [u] rfl)) (fun H hO hS=>⟨a,rfl,?_,hO,fun _=>rfl⟩) fun H e s' z=>cO.never _ _ _ _ _ z
 .subst ev;obtain⟨h',e⟩:=law ns hlen;refine⟨[.ref 0],[.bh (ns.map .int)],fun _=>a,⟨fun j o ej=>?_,fun j j' o u ej ej' m=>?_,fun t h=>⟨#[],hO.2 t h,trivial,fun _ _ z=>nomatch z⟩,fun j f us ej=>?_⟩,.cons (.ref (by simp)) .nil,?_⟩
  .cases j with
   |zero=>simp at ej;subst ej;exact⟨_,sq,uA ns⟩
   |succ j=>simp at ej
  .cases j with
   |zero=>simp at ej;subst ej;cases m
   |succ j=>simp at ej
  .cases j with
   |zero=>simp at ej
   |succ j=>simp at ej
  .rw[e];intro ι' H' b _ _ r;cases r;exact q H'
 .rcases hS with (h|h)|h
  .rcases hO.1 a with z|⟨o,xs,z⟩|⟨ps,z⟩
   .rw[h] at z;cases z
   .rw[h] at z;cases z
   .rw[h] at z;cases z
  .exact .inl h
  .exact .inr h
end TwS
namespace Tw
theorem aA{h:Hp}{a:Nat}{o:O}(x:List O)(e:h[a]?=some o):(h++x)[a]?=some o:=by
 have:a<h.length:=by
  rcases qS a h.length with q|q
  .exact q
  .rw[nh q] at e;cases e
 rw[gi this];exact e
theorem kR{h:Hp}{a:Nat}{o:O}(e:h[a]?=some o):a<h.length:=by
 rcases qS a h.length with q|q
 .exact q
 .rw[nh q] at e;cases e
@[simp] theorem a9(h:Hp)(o:O):(h++[o])[h.length]?=some o:=by simp
theorem bJ{h:Hp}{a b:Nat}{o u:O}(n:a≠b)(e:h[b]?=some u):(h.set a o)[b]?=some u:=by rw[iW n];exact e
theorem i6{h:Hp}{a:Nat}{o u:O}(e:h[a]?=some u):(h.set a o)[a]?=some o:=by rw[iV (kR e)]
structure Ext(p:Nat)(h h':Hp):Prop where
 len:h.length<=h'.length
 keep:∀q o,h[q]?=some o->q≠p->h'[q]?=some o
theorem Ext.refl(p:Nat)(h:Hp):Ext p h h:=⟨aV _,fun _ _ e _=>e⟩
theorem Ext.trans{p:Nat}{h h1 h2:Hp}(a:Ext p h h1)(b:Ext p h1 h2):Ext p h h2:=
 ⟨bW a.len b.len,fun q o e n=>b.keep q o (a.keep q o e n) n⟩
theorem Ext.app(p:Nat)(h:Hp)(x:List O):Ext p h (h++x):=⟨by simp,fun _ _ e _=>aA x e⟩
theorem Ext.set(p:Nat)(h:Hp)(o:O):Ext p h (h.set p o):=⟨by simp,fun _ _ e n=>bJ (bo n) e⟩
section
variable {C:Or}{σ σ':Env}{h h' h2:Hp}{s:St}{r a b:List St}{c:E}{w:W}{i:Nat}{z:R Fl}
theorem fW(e:eM C s σ h=.ok (.next σ') h')(k:av C r σ' h'=z):av C (s::r) σ h=z:=by rw[aN,e];exact k
theorem aW(e:ag C c σ h=.ok w h')(k:av C r (σ.set i (some w)) h'=z):av C (.set i c::r) σ h=z:=by rw[aN,wO,e];exact k
theorem aq(e:ag C c σ h=.ok w h'):av C (.ret c::r) σ h=.ok (.ret w) h':=by rw[aN,vH,e];rfl
theorem ah(e:ag C c σ h=.ok (.bl false) h')(k:av C r σ h'=z):av C (.iff c a []::r) σ h=z:=by rw[aN,eR,e];show (av C [] σ h').bind _=_;rw[AI];exact k
theorem aZ(e:ag C c σ h=.ok (.bl true) h')(k:av C a σ h'=.ok (.ret w) h2):av C (.iff c a b::r) σ h=.ok (.ret w) h2:=by rw[aN,eR,e];show (av C a σ h').bind _=_;rw[k];rfl
theorem w9{h3:Hp}(e:ag C c σ h=.ok (.bl true) h')(k1:av C a σ h'=.ok (.next σ') h3)(k:av C r σ' h3=z):av C (.iff c a b::r) σ h=z:=by rw[aN,eR,e];show (av C a σ h').bind _=_;rw[k1];exact k
theorem bR{f:Fn}{xs:List W}(σ:Env)(l:xs.length=f.ps)(eσ:xs.map some++List.replicate (f.ns-f.ps) none=σ)(e:av C f.body σ h=.ok (.ret w) h'):aB C f xs h=.ok w h':=by unfold aB;rw[if_pos l,eσ,e];rfl
theorem pQ{f:Fn}{xs:List W}(l:xs.length=f.ps)(e:av C f.body (xs.map some++List.replicate (f.ns-f.ps) none) h=.ok (.ret w) h'):aB C f xs h=.ok w h':=by unfold aB;rw[if_pos l,e];rfl
end
theorem tu(h:Hp)(n:Nat):∀ns:List Int,dX h n (ns.map W.int)=some (ns.map W.int)
 |[]=>by simp[dX]
 |x::r=>by simp[dX,rd,tu h n r]
theorem oU(h:Hp)(n:Nat):∀ns:List S,dX h n (ns.map W.str)=some (ns.map W.str)
 |[]=>by simp[dX]
 |x::r=>by simp[dX,rd,oU h n r]
structure Gen(p:Nat)(h:Hp):Prop where
 ex:∃(a c:Int) (l:Nat) (ns:List Int),h[p]?=some (.lst [.int a,.ref l,.int c])/\h[l]?=some (.lst (ns.map W.int))/\l<p
theorem Gen.ext{p:Nat}{h:Hp}(g:Gen p h)(x:List O):Gen p (h++x):=by obtain⟨a,c,l,ns,e1,e2,e3⟩:=g.ex;exact⟨a,c,l,ns,aA x e1,aA x e2,e3⟩
noncomputable def tJ:Fn:=⟨2,3,[
 .set 2 (.ite (.cmp .ne (.idx (.var 0) (.cst (.int 1))) (.lst .nil)) (.idx (.idx (.var 0) (.cst (.int 1))) (.bin .mod (.idx (.var 0) (.cst (.int 2))) (.blt .len (.idx (.var 0) (.cst (.int 1)))))) (.cst (.int 0))),
 .put (.var 0) (.cst (.int 0)) (.bin .mod (.bin .add (.bin .add (.bin .mul (.idx (.var 0) (.cst (.int 0))) (.cst (.int 48271))) (.bin .mul (.var 2) (.cst (.int 69621)))) (.cst (.int 11))) (.cst (.int 2147483647))),
 .put (.var 0) (.cst (.int 2)) (.bin .add (.idx (.var 0) (.cst (.int 2))) (.cst (.int 1))),
 .ret (.bin .mod (.bin .fdiv (.idx (.var 0) (.cst (.int 0))) (.cst (.int 7))) (.var 1))]⟩
theorem f6{α:Type}(xs:List α)(i:Nat)(h:i<xs.length):dC xs (i:Int)=some xs[i]:=by
 have e1:(0:Int)<=(i:Int):=by omega
 have e2:(i:Int)<(xs.length:Int):=by omega
 simp[dC,ij,e1,e2,gJ h]
theorem wD{α:Type}(xs:List α)(c:Int)(h:0<xs.length):∃x,x∈xs/\dC xs (c % (xs.length:Int))=some x:=by
 have e1:0<=c % (xs.length:Int):=Int.emod_nonneg _ (by omega);have e2:c % (xs.length:Int)<(xs.length:Int):=Int.emod_lt_of_pos _ (by omega);have e3:(c % (xs.length:Int)).toNat<xs.length:=by omega
 refine⟨xs[(c % (xs.length:Int)).toNat],uF _,?_⟩;have:=f6 xs _ e3;rw[show (((c % (xs.length:Int)).toNat:Nat):Int)=c % (xs.length:Int) by omega] at this;exact this
@[simp] theorem OG{α:Type}(x:α)(xs:List α):dC (x::xs) 0=some x:=by
 have:((0:Nat):Int)<((xs.length:Int)+1):=by omega
 simp[dC,ij]
@[simp] theorem OI{α:Type}(x y:α)(xs:List α):dC (x::y::xs) 1=some y:=by have:=f6 (x::y::xs) 1 (by simp);simpa using this
@[simp] theorem OJ{α:Type}(x y z:α)(xs:List α):dC (x::y::z::xs) 2=some z:=by have:=f6 (x::y::z::xs) 2 (by simp);simpa using this
@[simp] theorem Nv:ij 3 0=some 0:=rfl
@[simp] theorem NH:ij 3 2=some 2:=rfl
@[simp] theorem MI:small 48271=true:=by decide
@[simp] theorem Nc:small 69621=true:=by decide
theorem DK{C:Or}{p:Nat}{h:Hp}(g:Gen p h){m:Int}(hm:0<m):
  ∃v h',aB C tJ [.ref p,.int m] h=.ok (.int v) h'/\0<=v/\v<m/\Ext p h h'/\Gen p h':=by
 obtain⟨a,c,l,ns,e1,e2,e3⟩:=g.ex;have f1:=aA [O.lst []] e1;have f2:=aA [O.lst []] e2;have key:∃x:Int,ag C (.ite (.cmp .ne (.idx (.var 0) (.cst (.int 1))) (.lst .nil)) (.idx (.idx (.var 0) (.cst (.int 1))) (.bin .mod (.idx (.var 0) (.cst (.int 2))) (.blt .len (.idx (.var 0) (.cst (.int 1)))))) (.cst (.int 0)))
   [some (.ref p),some (.int m),none] h=.ok (.int x) (h++[O.lst []]):=by
  cases ns with
  |nil=>
   refine⟨0,?_⟩;simp[e1,f2,bw,cw]
  |cons n r=>
   obtain⟨x,hx,ex⟩:=wD ((n::r).map W.int) c (by simp);obtain⟨y,_,rfl⟩:=gC.mp hx;refine⟨y,?_⟩;have pos:(0:Int)<(r.length:Int)+1:=by omega
   have t:=tu (h++[O.lst []]) 59 r;simp only[bx] at e2 f2 ex;simp only[dw,fQ] at ex;push_cast at ex;simp[e1,f1,f2,t,pos,ex,bw,cw]
 obtain⟨x,ex⟩:=key;have g1:=i6 (o:=O.lst [.int ((a * 48271+x * 69621+11) % 2147483647),.ref l,.int c]) f1;have g2:=i6 (o:=O.lst [.int ((a * 48271+x * 69621+11) % 2147483647),.ref l,.int (c+1)]) g1;have g3:=bJ (o:=O.lst [.int ((a * 48271+x * 69621+11) % 2147483647),.ref l,.int c]) (nK e3) f2;have g4:=bJ (o:=O.lst [.int ((a * 48271+x * 69621+11) % 2147483647),.ref l,.int (c+1)]) (nK e3) g3;refine⟨(((a * 48271+x * 69621+11) % 2147483647) / 7) % m,(((h++[O.lst []]).set p (.lst [.int ((a * 48271+x * 69621+11) % 2147483647),.ref l,.int c]))).set p (.lst [.int ((a * 48271+x * 69621+11) % 2147483647),.ref l,.int (c+1)]),?_,Int.emod_nonneg _ (by omega),Int.emod_lt_of_pos _ hm,?_,?_⟩
 .exact bR [some (.ref p),some (.int m),none] rfl rfl (aW ex (fW (σ':=[some (.ref p),some (.int m),some (.int x)]) (h':=(h++[O.lst []]).set p (.lst [.int ((a * 48271+x * 69621+11) % 2147483647),.ref l,.int c])) (by simp[f1]) (fW (σ':=[some (.ref p),some (.int m),some (.int x)]) (by simp[g1, -List.set_set];rfl) (aq (by simp[g2,hm, -List.set_set])))))
 .exact ((Ext.app p h _).trans (Ext.set p _ _)).trans (Ext.set p _ _)
 .exact⟨_,_,_,_,g2,g4,e3⟩
inductive Kd where
 |num|tru|row (k:Kd)|pair (a b:Kd)|work (a b:Kd)|any (x:S)|gap (n:Int)
 deriving DecidableEq
abbrev bM:S:=[110,117,109,98,101,114]
abbrev gq:S:=[116,114,117,116,104]
abbrev o8:S:=[114,111,119]
abbrev gz:S:=[112,97,105,114]
abbrev dH:S:=[119,111,114,107]
abbrev qD:S:=[97,110,121]
abbrev GJ:S:=[103,97,112]
noncomputable def Kd.ae:Kd->W
 |.num=>.tup [.str bM]
 |.tru=>.tup [.str gq]
 |.row k=>.tup [.str o8,k.ae]
 |.pair a b=>.tup [.str gz,a.ae,b.ae]
 |.work a b=>.tup [.str dH,a.ae,b.ae]
 |.any x=>.tup [.str qD,.str x]
 |.gap n=>.tup [.str GJ,.int n]
noncomputable def Kd.depth:Kd->Nat
 |.row k=>k.depth+1
 |.pair a b=>max a.depth b.depth+1
 |.work a b=>max a.depth b.depth+1
 |_=>0
def Kd.over(l:List S):Kd->Prop
 |.row k=>k.over l
 |.pair a b=>a.over l/\b.over l
 |.work a b=>a.over l/\b.over l
 |.any x=>x∈l
 |.gap _=>False
 |_=>True
theorem Kd.rd(h:Hp):∀(k:Kd)(n:Nat),k.depth+1<=n->Tw.rd h n k.ae=some k.ae
 |.num,n+1,_=>by simp[Kd.ae]
 |.tru,n+1,_=>by simp[Kd.ae]
 |.any x,n+1,_=>by simp[Kd.ae]
 |.gap x,n+1,_=>by simp[Kd.ae]
 |.row k,n+1,e=>by
  have:=Kd.rd h k n (by simp[Kd.depth] at e;omega);simp[Kd.ae,this]
 |.pair a b,n+1,e=>by
  have h1:=Kd.rd h a n (by simp[Kd.depth] at e;omega);have h2:=Kd.rd h b n (by simp[Kd.depth] at e;omega);simp[Kd.ae,h1,h2]
 |.work a b,n+1,e=>by
  have h1:=Kd.rd h a n (by simp[Kd.depth] at e;omega);have h2:=Kd.rd h b n (by simp[Kd.depth] at e;omega);simp[Kd.ae,h1,h2]
theorem Kd.bj:∀a b:Kd,Tw.bj a.ae b.ae=decide (a=b):=by
 intro a
 induction a with
 |num=>intro b;cases b<;>simp[Kd.ae]
 |tru=>intro b;cases b<;>simp[Kd.ae]
 |any x=>intro b;cases b<;>simp[Kd.ae,yM]
 |gap x=>intro b;cases b<;>simp[Kd.ae,yM]
 |row k ih=>intro b;cases b<;>simp[Kd.ae,ih]
 |pair a b iha ihb=>intro c;cases c<;>simp[Kd.ae,iha,ihb]
 |work a b iha ihb=>intro c;cases c<;>simp[Kd.ae,iha,ihb]
theorem Kd.cw(h:Hp)(k:Kd):Tw.cw h k.ae=none:=by cases k<;>simp[Kd.ae,Tw.cw]
theorem Kd.bw(h:Hp)(a b:Kd)(ha:a.depth<=50)(hb:b.depth<=50):Tw.bw h a.ae b.ae=some (decide (a=b)):=by simp[Tw.bw,Kd.cw,Kd.rd h a 60 (by omega),Kd.rd h b 60 (by omega),Kd.bj]
theorem run_eq{T:List Fn}{f:Nat}{fn:Fn}(e:T[f]?=some fn)(k:Nat)(xs:List W)(h:Hp):run T (k+1) f xs h=aB (run T k) fn xs h:=by simp[run,e]
def fy(nx self:Nat):Fn:=⟨3,5,[
 .set 3 (.call nx (.cons (.var 0) (.cons (.cst (.int 8)) .nil))),
 .iff (.and (.cmp .ne (.var 2) (.lst .nil)) (.cmp .eq (.var 3) (.cst (.int 7)))) [.ret (.tup (.cons (.cst (.str [97,110,121])) (.cons (.idx (.var 2) (.call nx (.cons (.var 0) (.cons (.blt .len (.var 2)) .nil)))) .nil)))] [],
 .iff (.or (.cmp .eq (.var 1) (.cst (.int 0))) (.cmp .lt (.var 3) (.cst (.int 3)))) [.ret (.idx (.lst (.cons (.tup (.cons (.cst (.str [110,117,109,98,101,114])) .nil)) (.cons (.tup (.cons (.cst (.str [116,114,117,116,104])) .nil)) .nil))) (.call nx (.cons (.var 0) (.cons (.cst (.int 2)) .nil))))] [],
 .set 4 (.call self (.cons (.var 0) (.cons (.bin .sub (.var 1) (.cst (.int 1))) (.cons (.var 2) .nil)))),
 .iff (.cmp .lt (.var 3) (.cst (.int 5))) [.ret (.tup (.cons (.cst (.str [114,111,119])) (.cons (.var 4) .nil)))] [],
 .ret (.tup (.cons (.idx (.lst (.cons (.cst (.str [112,97,105,114])) (.cons (.cst (.str [119,111,114,107])) .nil))) (.bin .fdiv (.call nx (.cons (.var 0) (.cons (.cst (.int 3)) .nil))) (.cst (.int 2)))) (.cons (.var 4) (.cons (.call self (.cons (.var 0) (.cons (.bin .sub (.var 1) (.cst (.int 1))) (.cons (.var 2) .nil)))) .nil))))]⟩
theorem k4{α:Type}(xs:List α)(i:Int)(h0:0<=i)(h:i<(xs.length:Int)):∃x,x∈xs/\dC xs i=some x:=by
 have e3:i.toNat<xs.length:=by omega
 refine⟨xs[i.toNat],uF _,?_⟩;have:=f6 xs _ e3;rw[show ((i.toNat:Nat):Int)=i by omega] at this;exact this
theorem ne_nil{h:Hp}{q:Nat}{names:List S}(e:h[q]?=some (.lst (names.map W.str))):
  bw (h++[O.lst []]) (.ref q) (.ref h.length)=some (decide (names=[])):=by
 have e2:=aA [O.lst []] e;cases names with
 |nil=>simp[bw,cw,e2]
 |cons x r=>
  have t:=oU (h++[O.lst []]) 59 r;simp only[bx] at e2;simp[bw,cw,e2,t]
structure B2(p:Nat)(names:List S)(d:Nat)(h:Hp)(r:R W)(kd:Kd)(h':Hp):Prop where
 eq:r=.ok kd.ae h'
 deep:kd.depth<=d
 over:kd.over names
 ext:Ext p h h'
 gen:Gen p h'
abbrev tN(C:Or)(nx p:Nat):Prop:=∀(m:Int)(h:Hp),Gen p h->0<m->∃v h',C nx [.ref p,.int m] h=.ok (.int v) h'/\0<=v/\v<m/\Ext p h h'/\Gen p h'
theorem rD{C:Or}{nx self p q:Nat}{names:List S}(kX:tN C nx p)(hq:q≠p)(d:Nat)
  (ih:0<d->∀h,Gen p h->h[q]?=some (.lst (names.map W.str))->∃kd h',B2 p names (d-1) h (C self [.ref p,.int ((d:Int)-1),.ref q] h) kd h')
  (h:Hp) (g:Gen p h) (eq:h[q]?=some (.lst (names.map W.str))):∃kd h',B2 p names d h (aB C (fy nx self) [.ref p,.int d,.ref q] h) kd h':=by
 obtain⟨w,h1,r1,a1,b1,x1,g1⟩:=kX 8 h g (by decide);have eq1:=x1.keep _ _ eq hq;have n1:=ne_nil eq1;have eq2:=aA [O.lst []] eq1;have g2:=g1.ext [O.lst []];have x2:=x1.trans (Ext.app p h1 [O.lst []]);have far:∀(h:Hp),Gen p h->p≠h.length:=fun h g=>by
  obtain⟨_,_,_,_,e,_⟩:=g.ex;exact fun z=>absurd (kR e) (by rw[<-z];omega)
 have cA:∀b:Bool,decide (names=[])=!b->ag C (.and (.cmp .ne (.var 2) (.lst .nil)) (.cmp .eq (.var 3) (.cst (.int 7)))) [some (.ref p),some (.int d),some (.ref q),some (.int w),none] h1=.ok (.bl (b&&decide (w=7))) (h1++[O.lst []]):=by intro b hb;rw[hb] at n1;cases b<;>simp[n1]
 have e1:ag C (.call nx (.cons (.var 0) (.cons (.cst (.int 8)) .nil))) [some (.ref p),some (.int d),some (.ref q),none,none] h=.ok (.int w) h1:=by simp[r1]
 have st:∀{z:R Fl},av C ((fy nx self).body.drop 1) [some (.ref p),some (.int d),some (.ref q),some (.int w),none] h1=z->av C (fy nx self).body ([W.ref p,.int d,.ref q].map some++List.replicate ((fy nx self).ns-(fy nx self).ps) none) h=z:=fun k=>aW e1 k;by_cases c1:names≠ []/\w=7
 .obtain⟨c1,rfl⟩:=c1;obtain⟨v,h3,r3,a3,b3,x3,g3⟩:=kX names.length (h1++[O.lst []]) g2 (by
   have:=List.length_pos_iff.mpr c1;omega)
  obtain⟨x,hx,ex⟩:=k4 (names.map W.str) v a3 (by simpa using b3);obtain⟨y,hy,rfl⟩:=gC.mp hx;have eq3:=x3.keep _ _ eq2 hq;refine⟨.any y,h3,pQ rfl (st (aZ (cA true (by simp[c1])) (aq ?_))),iy _,hy,x2.trans x3,g3⟩;simp[eq2,r3,eq3,ex,Kd.ae]
 .have no1:∀{z:R Fl},av C ((fy nx self).body.drop 2) [some (.ref p),some (.int d),some (.ref q),some (.int w),none] (h1++[O.lst []])=z->av C ((fy nx self).body.drop 1) [some (.ref p),some (.int d),some (.ref q),some (.int w),none] h1=z:=fun k=>by
   by_cases hn:names=[]
   .exact ah (cA false (by simp[hn])) k
   .have:¬ w=7:=fun z=>c1 ⟨hn,z⟩;have cc:=cA true (by simp[hn]);rw[bA this] at cc;exact ah cc k
  have cB:ag C (.or (.cmp .eq (.var 1) (.cst (.int 0))) (.cmp .lt (.var 3) (.cst (.int 3)))) [some (.ref p),some (.int d),some (.ref q),some (.int w),none] (h1++[O.lst []])=.ok (.bl (decide (d=0\/w<3))) (h1++[O.lst []]):=by by_cases hd:d=0<;>by_cases hw:w<3<;>simp[hd,hw]
  by_cases c2:d=0\/w<3
  .rw[dG c2] at cB;obtain⟨v,h3,r3,a3,b3,x3,g3⟩:=kX 2 ((h1++[O.lst []])++[.lst [.tup [.str bM],.tup [.str gq]]]) (g2.ext _) (by decide);have el:=x3.keep _ _ (a9 (h1++[O.lst []]) (.lst [.tup [.str bM],.tup [.str gq]])) (bo (far _ g2));have x4:=(x2.trans (Ext.app p _ [.lst [.tup [.str bM],.tup [.str gq]]])).trans x3;have hv:v=0\/v=1:=by omega
   refine⟨if v=0 then .num else .tru,h3,pQ rfl (st (no1 (aZ cB (aq ?_)))),?_,?_,x4,g3⟩
   .generalize h1++[O.lst []]=hh at *;rcases hv with rfl|rfl
    .simp[r3,el,Kd.ae]
    .simp[r3,el,Kd.ae]
   .rcases hv with rfl|rfl<;>simp[Kd.depth]
   .rcases hv with rfl|rfl<;>simp[Kd.over]
  .rw[bA c2] at cB;have hd:0<d:=by omega
   obtain⟨k1,h3,i1⟩:=ih hd (h1++[O.lst []]) g2 eq2;have eq3:=i1.ext.keep _ _ eq2 hq;have e4:ag C (.call self (.cons (.var 0) (.cons (.bin .sub (.var 1) (.cst (.int 1))) (.cons (.var 2) .nil)))) [some (.ref p),some (.int d),some (.ref q),some (.int w),none] (h1++[O.lst []])=.ok k1.ae h3:=by have t1:=i1.eq;simp[t1]
   have st2:∀{z:R Fl},av C ((fy nx self).body.drop 4) [some (.ref p),some (.int d),some (.ref q),some (.int w),some k1.ae] h3=z->av C (fy nx self).body ([W.ref p,.int d,.ref q].map some++List.replicate ((fy nx self).ns-(fy nx self).ps) none) h=z:=fun k=>st (no1 (ah cB (aW e4 k)));have cC:ag C (.cmp .lt (.var 3) (.cst (.int 5))) [some (.ref p),some (.int d),some (.ref q),some (.int w),some k1.ae] h3=.ok (.bl (decide (w<5))) h3:=by simp
   by_cases c3:w<5
   .rw[dG c3] at cC;refine⟨.row k1,h3,pQ rfl (st2 (aZ cC (aq ?_))),?_,i1.over,x2.trans i1.ext,i1.gen⟩
    .simp[Kd.ae]
    .have:=i1.deep;simp[Kd.depth];omega
   .rw[bA c3] at cC;obtain⟨v,h5,r5,a5,b5,x5,g5⟩:=kX 3 (h3++[.lst [.str gz,.str dH]]) (i1.gen.ext _) (by decide);have el:=x5.keep _ _ (a9 h3 (.lst [.str gz,.str dH])) (bo (far _ i1.gen));have eq5:=x5.keep _ _ (aA [O.lst [.str gz,.str dH]] eq3) hq;obtain⟨k2,h6,i2⟩:=ih hd h5 g5 eq5;have hv:v / 2=0\/v / 2=1:=by omega
    refine⟨if v / 2=0 then .pair k1 k2 else .work k1 k2,h6,pQ rfl (st2 (ah cC (aq ?_))),?_,?_,(((x2.trans i1.ext).trans (Ext.app p _ _)).trans x5).trans i2.ext,i2.gen⟩
    .have t2:=i2.eq;rcases hv with hv|hv
     .simp[t2,r5,el,hv,Kd.ae]
     .simp[t2,r5,el,hv,Kd.ae]
    .have:=i1.deep;have:=i2.deep;rcases hv with hv|hv<;>simp[Kd.depth,hv]<;>omega
    .rcases hv with hv|hv<;>simp[Kd.over,hv]<;>exact⟨i1.over,i2.over⟩
theorem qJ{T:List Fn}{nx:Nat}(hn:T[nx]?=some tJ)(k p:Nat):tN (run T (k+1)) nx p:=fun m h g hm=>by
 rw[run_eq hn];exact DK g hm
theorem vN{T:List Fn}{nx self p q:Nat}{names:List S}(hn:T[nx]?=some tJ)(hs:T[self]?=some (fy nx self))(hq:q≠p):
  ∀(d k:Nat)(h:Hp),Gen p h->h[q]?=some (.lst (names.map W.str))->∃kd h',B2 p names d h (run T (d+k+2) self [.ref p,.int d,.ref q] h) kd h'
 |0,k,h,g,e=>by
  rw[show 0+k+2=(k+1)+1 by omega,run_eq hs];exact rD (qJ hn k p) hq 0 (fun z=>absurd z (by omega)) h g e
 |d+1,k,h,g,e=>by
  rw[show d+1+k+2=(d+k+2)+1 by omega,run_eq hs];refine rD (qJ hn (d+k+1) p) hq (d+1) (fun _ h g e=>?_) h g e;have:=vN hn hs hq d k h g e;simpa using this
theorem Gen.gP{p:Nat}{h:Hp}(g:Gen p h):p≠h.length:=by obtain⟨_,_,_,_,e,_⟩:=g.ex;exact fun z=>absurd (kR e) (by rw[<-z];omega)
theorem wu(x:S):∀l:List S,((l.map W.str).any fun z=>bj z (.str x))=decide (x∈l)
 |[]=>by simp
 |y::r=>by
  simp only[bx,uW,wu x r,oM,cY];by_cases e:y=x<;>by_cases f:x∈r<;>simp[e,f]<;>simp_all [eq_comm]
theorem gE(x:S)(l:List S)(h:Hp):isIn (.str x) (.tup (l.map W.str)) h=some (decide (x∈l)):=by have t:=oU h 60 l;simp only[isIn,uT,rd,t,wu]
structure ak(h h':Hp):Prop where
 len:h.length<=h'.length
 keep:∀(q:Nat)(o:O),h[q]?=some o->h'[q]?=some o
theorem ak.refl(h:Hp):ak h h:=⟨aV _,fun _ _ e=>e⟩
theorem ak.trans{h h1 h2:Hp}(a:ak h h1)(b:ak h1 h2):ak h h2:=⟨bW a.len b.len,fun q o e=>b.keep q o (a.keep q o e)⟩
theorem ak.app(h:Hp)(x:List O):ak h (h++x):=⟨by simp,fun _ _ e=>aA x e⟩
theorem ak.gen{p:Nat}{h h':Hp}(g:Gen p h)(x:ak h h'):Gen p h':=by obtain⟨a,c,l,ns,e1,e2,e3⟩:=g.ex;exact⟨a,c,l,ns,x.keep _ _ e1,x.keep _ _ e2,e3⟩
theorem ak.ext{h h':Hp}(g:ak h h')(p:Nat):Ext p h h':=⟨g.len,fun q o e _=>g.keep q o e⟩
mutual
noncomputable def W.pure:W->Bool
 |.tup xs=>eI xs
 |.ref _=>false
 |.lst _=>false
 |_=>true
noncomputable def eI:List W->Bool
 |[]=>true
 |x::xs=>x.pure&&eI xs
end
mutual
theorem D9(h:Hp):∀(w:W)(n:Nat),w.pure=true->w.deep<=n->rd h n w=some w
 |.aw,n,_,_=>by simp
 |.bl _,n,_,_=>by simp
 |.int _,n,_,_=>by simp
 |.str _,n,_,_=>by simp
 |.ref _,n,p,_=>by simp[W.pure] at p
 |.lst _,n,p,_=>by simp[W.pure] at p
 |.tup xs,0,_,d=>by simp[W.deep] at d
 |.tup xs,n+1,p,d=>by
  simp only[W.pure] at p;simp only[W.deep] at d;simp[lN h xs n p (by omega)]
theorem lN(h:Hp):∀(xs:List W)(n:Nat),eI xs=true->dg xs<=n->dX h n xs=some xs
 |[],n,_,_=>by simp
 |x::xs,n,p,d=>by
  simp only[eI,aE] at p;simp only[dg] at d;simp[D9 h x n p.1 (by omega),lN h xs n p.2 (by omega)]
end
mutual
theorem A2:∀(w:W),w.pure=true->bj w w=true
 |.aw,_=>by simp
 |.bl _,_=>by simp
 |.int _,_=>by simp
 |.str _,_=>by simp
 |.ref _,p=>by simp[W.pure] at p
 |.lst _,p=>by simp[W.pure] at p
 |.tup xs,p=>by
  simp only[W.pure] at p;simp[rP xs p]
theorem rP:∀(xs:List W),eI xs=true->mB xs xs=true
 |[],_=>by simp
 |x::xs,p=>by
  simp only[eI,aE] at p;simp[A2 x p.1,rP xs p.2]
end
theorem iu:∀k:Kd,k.ae.pure=true
 |.num=>rfl
 |.tru=>rfl
 |.any _=>rfl
 |.gap _=>rfl
 |.row k=>by simp[Kd.ae,W.pure,eI,iu k]
 |.pair a b=>by simp[Kd.ae,W.pure,eI,iu a,iu b]
 |.work a b=>by simp[Kd.ae,W.pure,eI,iu a,iu b]
theorem iD:∀k:Kd,k.ae.deep<=k.depth+1
 |.num=>by simp[Kd.ae,W.deep,dg]
 |.tru=>by simp[Kd.ae,W.deep,dg]
 |.any _=>by simp[Kd.ae,W.deep,dg]
 |.gap _=>by simp[Kd.ae,W.deep,dg]
 |.row k=>by have:=iD k;simp[Kd.ae,W.deep,dg,Kd.depth];omega
 |.pair a b=>by have:=iD a;have:=iD b;simp[Kd.ae,W.deep,dg,Kd.depth];omega
 |.work a b=>by have:=iD a;have:=iD b;simp[Kd.ae,W.deep,dg,Kd.depth];omega
theorem nV{h:Hp}{a:Nat}{ws:List W}(e:h[a]?=some (.lst ws))(p:eI ws=true)(d:dg ws<=59):
  bw (h++[O.lst []]) (.ref a) (.ref h.length)=some ws.isEmpty:=by
 have e2:=aA [O.lst []] e;simp only[bw,cw,e2,a9,rd,lN _ ws 59 p d];cases ws<;>simp
theorem map_pure:∀l:List Kd,eI (l.map Kd.ae)=true
 |[]=>rfl
 |k::r=>by simp[eI,iu k,map_pure r]
theorem pk(n:Nat):∀l:List Kd,(∀k∈l,k.depth<=n)->dg (l.map Kd.ae)<=n+1
 |[],_=>by simp[dg]
 |k::r,h=>by
  have h1:=iD k;have h2:=h k oY;have h3:=pk n r fun x hx=>h x (jB _ hx);simp only[bx,dg];omega
theorem yb{a:Nat}{t:Tg}{k:Env->Hp->R Fl}{xs:List W}(P:Nat->Env->Hp->Prop)(hl:∀i σ h,P i σ h->dO h a=some xs)
  (step:∀i σ h x,P i σ h->xs[i]?=some x->∃σ1,rj t x σ=some σ1/\∃σ' h',k σ1 h=.ok (.next σ') h'/\P (i+1) σ' h'):
  ∀n i σ h,i+n=xs.length->P i σ h->∃σ' h',dZ a t k n i σ h=.ok (.next σ') h'/\P xs.length σ' h':=by
 intro n
 induction n with
 |zero=>
  intro i σ h e p;have ei:i=xs.length:=by omega
  refine⟨σ,h,?_,ei▸p⟩;unfold dZ;have:xs[i]?=none:=nh (by omega);simp only[hl i σ h p,this]
 |succ n ih=>
  intro i σ h e p;have hx:xs[i]?=some xs[i]:=gJ (by omega);obtain⟨σ1,e1,σ2,h2,e2,p2⟩:=step i σ h _ p hx;obtain⟨σ3,h3,e3,p3⟩:=ih (i+1) σ2 h2 (by omega) p2;refine⟨σ3,h3,?_,p3⟩;unfold dZ;simp only[hl i σ h p,hx,turn,e1,e2,R.af,e3]
end Tw
namespace K04
open Tw
abbrev cG:Nat:=0
abbrev jm:Nat:=1
abbrev iB:Nat:=2
abbrev la:Nat:=3
abbrev kg:Nat:=4
abbrev nz:Nat:=5
abbrev iO:Nat:=6
abbrev aX:Nat:=7
abbrev gx:Nat:=8
abbrev fI:Nat:=9
abbrev kF:Nat:=10
abbrev lz:Nat:=11
abbrev kG:Nat:=12
abbrev gZ:Nat:=13
abbrev kO:Nat:=14
abbrev kC:Nat:=15
abbrev gK:Nat:=16
abbrev gU:Nat:=17
abbrev az:Nat:=18
abbrev gX:Nat:=19
abbrev bI:Nat:=20
abbrev ff:Nat:=21
abbrev dD:Nat:=22
abbrev gF:Nat:=23
abbrev aR:Nat:=24
abbrev nE:Nat:=25
abbrev dN:Nat:=26
abbrev ip:Nat:=27
abbrev aK:Nat:=28
abbrev cZ:Nat:=29
abbrev lZ:Nat:=30
abbrev eW:Nat:=31
abbrev Dx:Nat:=32
noncomputable def gS:Fn:=⟨1,1,[
 .ret (.tup (.cons (.cst (.str [119,111,114,107])) (.cons (.var 0) (.cons (.tup (.cons (.cst (.str [119,111,114,107])) (.cons (.var 0) (.cons (.cst (.tup [(.str [116,114,117,116,104])])) .nil)))) .nil))))]⟩
noncomputable def gW:Fn:=⟨1,1,[
 .iff (.cmp .eq (.idx (.var 0) (.cst (.int 0))) (.cst (.str [102,117,110]))) [.ret (.sl (.var 0) (.some (.cst (.int 2))) .none)] [],
 .iff (.cmp .isin (.idx (.var 0) (.cst (.int 0))) (.cst (.tup [(.str [99,97,108,108]),(.str [98,111,116,104]),(.str [108,101,102,116]),(.str [114,105,103,104,116]),(.str [109,111,114,101]),(.str [102,111,108,100]),(.str [105,102]),(.str [115,117,109]),(.str [108,101,115,115]),(.str [108,105,107,101,112,97,105,114]),(.str [108,105,107,101,114,111,119])]))) [.ret (.sl (.var 0) (.some (.cst (.int 1))) .none)] [],
 .ret (.tup .nil)]⟩
noncomputable def cQ:E:=(.cmp .gt (.blt .len (.var 4)) (.cst (.int 0)))
noncomputable def kA:List St:=[.expr (.ik .append (.var 4) (.cons (.tup (.cons (.var 10) (.cons (.var 9) (.cons (.cst (.bl false)) .nil)))) .nil))]
def cP:List St:=[.pq 5 6 7 (.ik .pop (.var 4) .nil),.set 8 (.call jm (.cons (.var 5) .nil)),.iff (.var 7) [.expr (.ik .append (.var 3) (.cons (.oo 2 (.cons (.var 5) (.cons (.var 6) (.cons (.call la (.cons (.var 3) (.cons (.blt .len (.var 8)) .nil))) .nil)))) .nil))] [.expr (.ik .append (.var 4) (.cons (.tup (.cons (.var 5) (.cons (.var 6) (.cons (.cst (.bl true)) .nil)))) .nil)),.set 9 (.ite (.cmp .eq (.idx (.var 5) (.cst (.int 0))) (.cst (.str [102,117,110]))) (.bin .add (.var 6) (.lst (.cons (.idx (.var 5) (.cst (.int 1))) .nil))) (.var 6)),.for (.var 10) (.rev (.var 8)) kA]]
def iA:Fn:=⟨3,11,[
 .set 3 (.lst .nil),
 .set 4 (.lst (.cons (.tup (.cons (.var 0) (.cons (.blt .list (.var 1)) (.cons (.cst (.bl false)) .nil)))) .nil)),
 .tq cQ cP,
 .ret (.ik .pop (.var 3) .nil)]⟩
noncomputable def hJ:E:=(.cmp .lt (.blt .len (.var 2)) (.var 1))
noncomputable def lM:List St:=[.expr (.ik .append (.var 2) (.cons (.ik .pop (.var 0) .nil) .nil))]
def qV:Fn:=⟨2,3,[
 .set 2 (.lst .nil),
 .tq hJ lM,
 .expr (.ik .rev (.var 2) .nil),
 .ret (.var 2)]⟩
noncomputable def mJ:Fn:=⟨3,4,[
 .iff (.or (.cmp .lt (.var 1) (.cst (.int 0))) (.cmp .ge (.var 1) (.blt .len (.fld (.var 0) [100,101,102,105,110,105,116,105,111,110,115])))) [.raise [83,116,114,97,121] [] .nil] [],
 .set 3 (.idx (.fld (.var 0) [100,101,102,105,110,105,116,105,111,110,115]) (.var 1)),
 .iff (.cmp .ne (.blt .len (.var 2)) (.blt .len (.fld (.var 3) [102,114,101,101]))) [.raise [83,116,114,97,121] [] .nil] [],
 .ret (.var 3)]⟩
noncomputable def mL:Fn:=⟨3,4,[
 .set 3 (.call kg (.cons (.var 0) (.cons (.var 1) (.cons (.var 2) .nil)))),
 .ret .bad]⟩
noncomputable def iL:Fn:=⟨3,4,[
 .kY 3 iB (.var 2) (.var 1) aX [0]]⟩
noncomputable def dS:Fn:=⟨4,4,[
 .iff (.cmp .eq (.blt .len (.var 2)) (.cst (.int 0))) [.ret (.call kF (.cons (.var 3) (.cons (.var 1) (.cons (.var 0) .nil))))] [],
 .ret (.call gZ (.cons (.var 0) (.cons (.var 2) .nil)))]⟩
noncomputable def qp:Fn:=⟨2,2,[
 .iff (.cmp .ne (.var 0) (.var 1)) [.raise [83,116,114,97,121] [] .nil] []]⟩
noncomputable def iP:Fn:=⟨2,2,[
 .iff (.cmp .ne (.idx (.var 0) (.cst (.int 0))) (.var 1)) [.raise [83,116,114,97,121] [] .nil] []]⟩
noncomputable def kI:Fn:=⟨3,3,[
 .iff (.cmp .eq (.idx (.var 2) (.cst (.int 0))) (.cst (.str [110,117,109,98,101,114]))) [.ret (.cst (.tup [(.str [110,117,109,98,101,114])]))] [],
 .iff (.cmp .eq (.idx (.var 2) (.cst (.int 0))) (.cst (.str [118,97,114]))) [.ret (.call lz (.cons (.var 1) (.cons (.idx (.var 2) (.cst (.int 1))) .nil)))] [],
 .iff (.cmp .eq (.idx (.var 2) (.cst (.int 0))) (.cst (.str [110,111,110,101]))) [.ret (.tup (.cons (.cst (.str [114,111,119])) (.cons (.idx (.var 2) (.cst (.int 1))) .nil)))] [],
 .iff (.cmp .eq (.idx (.var 2) (.cst (.int 0))) (.cst (.str [100,101,102]))) [.ret (.call nz (.cons (.var 0) (.cons (.idx (.var 2) (.cst (.int 1))) (.cons (.idx (.var 2) (.cst (.int 2))) .nil))))] [],
 .iff (.cmp .eq (.idx (.var 2) (.cst (.int 0))) (.cst (.str [108,105,107,101]))) [.ret (.call kG (.cons (.idx (.var 2) (.cst (.int 1))) .nil))] [],
 .ret (.cst (.tup [(.str [116,114,117,116,104])]))]⟩
noncomputable def lV:Fn:=⟨2,2,[
 .iff (.or (.cmp .lt (.var 1) (.cst (.int 0))) (.cmp .ge (.var 1) (.blt .len (.var 0)))) [.raise [83,116,114,97,121] [] .nil] [],
 .ret (.idx (.var 0) (.bin .sub (.bin .sub (.blt .len (.var 0)) (.cst (.int 1))) (.var 1)))]⟩
noncomputable def kM:Fn:=⟨1,1,[
 .iff (.cmp .notin (.var 0) (.tup (.cons (.cst (.tup [(.str [110,117,109,98,101,114])])) (.cons (.cst (.tup [(.str [116,114,117,116,104])])) .nil)))) [.raise [83,116,114,97,121] [] .nil] [],
 .ret (.call cG (.cons (.var 0) .nil))]⟩
noncomputable def bz:Fn:=⟨2,3,[
 .set 2 (.idx (.var 0) (.cst (.int 0))),
 .iff (.cmp .eq (.var 2) (.cst (.str [102,117,110]))) [.ret (.tup (.cons (.cst (.str [119,111,114,107])) (.cons (.idx (.var 0) (.cst (.int 1))) (.cons (.idx (.var 1) (.cst (.int 0))) .nil))))] [],
 .iff (.cmp .eq (.var 2) (.cst (.str [99,97,108,108]))) [.ret (.call kO (.cons (.var 1) .nil))] [],
 .iff (.cmp .eq (.var 2) (.cst (.str [98,111,116,104]))) [.ret (.tup (.cons (.cst (.str [112,97,105,114])) (.cons (.idx (.var 1) (.cst (.int 0))) (.cons (.idx (.var 1) (.cst (.int 1))) .nil))))] [],
 .iff (.cmp .isin (.var 2) (.tup (.cons (.cst (.str [108,101,102,116])) (.cons (.cst (.str [114,105,103,104,116])) .nil)))) [.expr (.call fI (.cons (.idx (.var 1) (.cst (.int 0))) (.cons (.cst (.str [112,97,105,114])) .nil))),.ret (.ite (.cmp .eq (.var 2) (.cst (.str [108,101,102,116]))) (.idx (.idx (.var 1) (.cst (.int 0))) (.cst (.int 1))) (.idx (.idx (.var 1) (.cst (.int 0))) (.cst (.int 2))))] [],
 .iff (.cmp .eq (.var 2) (.cst (.str [109,111,114,101]))) [.expr (.call gx (.cons (.idx (.var 1) (.cst (.int 1))) (.cons (.tup (.cons (.cst (.str [114,111,119])) (.cons (.idx (.var 1) (.cst (.int 0))) .nil))) .nil))),.ret (.idx (.var 1) (.cst (.int 1)))] [],
 .iff (.cmp .eq (.var 2) (.cst (.str [102,111,108,100]))) [.ret (.call kC (.cons (.var 1) .nil))] [],
 .iff (.cmp .eq (.var 2) (.cst (.str [105,102]))) [.expr (.call gx (.cons (.idx (.var 1) (.cst (.int 0))) (.cons (.cst (.tup [(.str [116,114,117,116,104])])) .nil))),.expr (.call gx (.cons (.idx (.var 1) (.cst (.int 2))) (.cons (.idx (.var 1) (.cst (.int 1))) .nil))),.ret (.idx (.var 1) (.cst (.int 1)))] [],
 .iff (.cmp .isin (.var 2) (.tup (.cons (.cst (.str [115,117,109])) (.cons (.cst (.str [108,101,115,115])) .nil)))) [.expr (.call gx (.cons (.idx (.var 1) (.cst (.int 0))) (.cons (.cst (.tup [(.str [110,117,109,98,101,114])])) .nil))),.expr (.call gx (.cons (.idx (.var 1) (.cst (.int 1))) (.cons (.cst (.tup [(.str [110,117,109,98,101,114])])) .nil))),.ret (.ite (.cmp .eq (.var 2) (.cst (.str [115,117,109]))) (.cst (.tup [(.str [110,117,109,98,101,114])])) (.cst (.tup [(.str [116,114,117,116,104])])))] [],
 .iff (.cmp .eq (.var 2) (.cst (.str [108,105,107,101,112,97,105,114]))) [.ret (.call cG (.cons (.tup (.cons (.cst (.str [112,97,105,114])) (.cons (.call gK (.cons (.idx (.var 1) (.cst (.int 0))) .nil)) (.cons (.call gK (.cons (.idx (.var 1) (.cst (.int 1))) .nil)) .nil)))) .nil))] [],
 .ret (.call cG (.cons (.tup (.cons (.cst (.str [114,111,119])) (.cons (.call gK (.cons (.idx (.var 1) (.cst (.int 0))) .nil)) .nil))) .nil))]⟩
noncomputable def kE:Fn:=⟨1,1,[
 .expr (.call fI (.cons (.idx (.var 0) (.cst (.int 0))) (.cons (.cst (.str [119,111,114,107])) .nil))),
 .expr (.call gx (.cons (.idx (.var 0) (.cst (.int 1))) (.cons (.idx (.idx (.var 0) (.cst (.int 0))) (.cst (.int 1))) .nil))),
 .ret (.idx (.idx (.var 0) (.cst (.int 0))) (.cst (.int 2)))]⟩
noncomputable def kD:Fn:=⟨1,1,[
 .expr (.call fI (.cons (.idx (.var 0) (.cst (.int 0))) (.cons (.cst (.str [114,111,119])) .nil))),
 .expr (.call gx (.cons (.idx (.var 0) (.cst (.int 2))) (.cons (.tup (.cons (.cst (.str [119,111,114,107])) (.cons (.idx (.idx (.var 0) (.cst (.int 0))) (.cst (.int 1))) (.cons (.tup (.cons (.cst (.str [119,111,114,107])) (.cons (.idx (.var 0) (.cst (.int 1))) (.cons (.idx (.var 0) (.cst (.int 1))) .nil)))) .nil)))) .nil))),
 .ret (.idx (.var 0) (.cst (.int 1)))]⟩
noncomputable def qL:Fn:=⟨1,1,[
 .expr (.call fI (.cons (.var 0) (.cons (.cst (.str [119,111,114,107])) .nil))),
 .expr (.call gx (.cons (.var 0) (.cons (.call cG (.cons (.idx (.var 0) (.cst (.int 1))) .nil)) .nil))),
 .ret (.idx (.var 0) (.cst (.int 1)))]⟩
noncomputable def jz:Fn:=⟨1,1,[
 .fput (.var 0) [100,101,102,105,110,105,116,105,111,110,115] (.lst .nil),
 .fput (.var 0) [110,117,109,98,101,114,115] (.eV .nil)]⟩
noncomputable def uO:Fn:=⟨2,3,[
 .set 2 (.ite (.cmp .ne (.idx (.var 0) (.cst (.int 1))) (.lst .nil)) (.idx (.idx (.var 0) (.cst (.int 1))) (.bin .mod (.idx (.var 0) (.cst (.int 2))) (.blt .len (.idx (.var 0) (.cst (.int 1)))))) (.cst (.int 0))),
 .put (.var 0) (.cst (.int 0)) (.bin .mod (.bin .add (.bin .add (.bin .mul (.idx (.var 0) (.cst (.int 0))) (.cst (.int 48271))) (.bin .mul (.var 2) (.cst (.int 69621)))) (.cst (.int 11))) (.cst (.int 2147483647))),
 .put (.var 0) (.cst (.int 2)) (.bin .add (.idx (.var 0) (.cst (.int 2))) (.cst (.int 1))),
 .ret (.bin .mod (.bin .fdiv (.idx (.var 0) (.cst (.int 0))) (.cst (.int 7))) (.var 1))]⟩
noncomputable def qk:Fn:=⟨1,2,[
 .set 1 (.lst (.cons (.bin .sub (.call az (.cons (.var 0) (.cons (.cst (.int 14)) .nil))) (.cst (.int 5))) (.cons (.bin .sub (.call az (.cons (.var 0) (.cons (.cst (.int 2000)) .nil))) (.cst (.int 1000))) (.cons (.call az (.cons (.var 0) (.cons (.cst (.int 4)) .nil))) .nil)))),
 .iff (.cmp .ne (.idx (.var 0) (.cst (.int 1))) (.lst .nil)) [.expr (.ik .append (.var 1) (.cons (.bin .sub (.bin .mod (.idx (.idx (.var 0) (.cst (.int 1))) (.bin .mod (.idx (.var 0) (.cst (.int 2))) (.blt .len (.idx (.var 0) (.cst (.int 1)))))) (.bin .pow (.cst (.int 10)) (.cst (.int 59)))) (.bin .pow (.cst (.int 10)) (.cst (.int 30)))) .nil))] [],
 .ret (.idx (.var 1) (.call az (.cons (.var 0) (.cons (.blt .len (.var 1)) .nil))))]⟩
noncomputable def uE:Fn:=⟨3,5,[
 .set 3 (.call az (.cons (.var 0) (.cons (.cst (.int 8)) .nil))),
 .iff (.and (.cmp .ne (.var 2) (.lst .nil)) (.cmp .eq (.var 3) (.cst (.int 7)))) [.ret (.tup (.cons (.cst (.str [97,110,121])) (.cons (.idx (.var 2) (.call az (.cons (.var 0) (.cons (.blt .len (.var 2)) .nil)))) .nil)))] [],
 .iff (.or (.cmp .eq (.var 1) (.cst (.int 0))) (.cmp .lt (.var 3) (.cst (.int 3)))) [.ret (.idx (.lst (.cons (.tup (.cons (.cst (.str [110,117,109,98,101,114])) .nil)) (.cons (.tup (.cons (.cst (.str [116,114,117,116,104])) .nil)) .nil))) (.call az (.cons (.var 0) (.cons (.cst (.int 2)) .nil))))] [],
 .set 4 (.call bI (.cons (.var 0) (.cons (.bin .sub (.var 1) (.cst (.int 1))) (.cons (.var 2) .nil)))),
 .iff (.cmp .lt (.var 3) (.cst (.int 5))) [.ret (.tup (.cons (.cst (.str [114,111,119])) (.cons (.var 4) .nil)))] [],
 .ret (.tup (.cons (.idx (.lst (.cons (.cst (.str [112,97,105,114])) (.cons (.cst (.str [119,111,114,107])) .nil))) (.bin .fdiv (.call az (.cons (.var 0) (.cons (.cst (.int 3)) .nil))) (.cst (.int 2)))) (.cons (.var 4) (.cons (.call bI (.cons (.var 0) (.cons (.bin .sub (.var 1) (.cst (.int 1))) (.cons (.var 2) .nil)))) .nil))))]⟩
noncomputable def mn:E:=(.var 1)
noncomputable def iX:E:=(.not (.call ff (.cons (.var 1) .nil)))
def jk:Fn:=⟨1,1,[
 .iff (.cmp .isin (.idx (.var 0) (.cst (.int 0))) (.tup (.cons (.cst (.str [119,111,114,107])) (.cons (.cst (.str [97,110,121])) .nil)))) [.ret (.cst (.bl false))] [],
 .ret (.cmp .eq (.comp mn (.seq (.sl (.var 0) (.some (.cst (.int 1))) .none)) (.some iX)) (.lst .nil))]⟩
noncomputable def eN:Fn:=⟨2,2,[
 .iff (.cmp .eq (.idx (.var 1) (.cst (.int 0))) (.cst (.str [114,111,119]))) [.ret (.tup (.cons (.cst (.str [108,105,107,101,114,111,119])) (.cons (.call dD (.cons (.var 0) (.cons (.idx (.var 1) (.cst (.int 1))) .nil))) .nil)))] [],
 .iff (.cmp .eq (.idx (.var 1) (.cst (.int 0))) (.cst (.str [112,97,105,114]))) [.ret (.tup (.cons (.cst (.str [108,105,107,101,112,97,105,114])) (.cons (.call dD (.cons (.var 0) (.cons (.idx (.var 1) (.cst (.int 1))) .nil))) (.cons (.call dD (.cons (.var 0) (.cons (.idx (.var 1) (.cst (.int 2))) .nil))) .nil))))] [],
 .ret (.tup (.cons (.cst (.str [108,105,107,101])) (.cons (.var 1) .nil)))]⟩
noncomputable def gv:List St:=[.set 5 (.tup (.cons (.cst (.str [109,111,114,101])) (.cons (.call aR (.cons (.var 0) (.cons (.var 1) (.cons (.idx (.var 2) (.cst (.int 1))) (.cons (.bin .sub (.var 3) (.cst (.int 1))) .nil))))) (.cons (.var 5) .nil))))]
def fg:Fn:=⟨4,7,[
 .iff (.cmp .eq (.idx (.var 2) (.cst (.int 0))) (.cst (.str [110,117,109,98,101,114]))) [.iff (.and (.cmp .gt (.var 3) (.cst (.int 0))) (.cmp .eq (.call az (.cons (.var 0) (.cons (.cst (.int 2)) .nil))) (.cst (.int 0)))) [.ret (.tup (.cons (.cst (.str [115,117,109])) (.cons (.call aR (.cons (.var 0) (.cons (.var 1) (.cons (.var 2) (.cons (.bin .sub (.var 3) (.cst (.int 1))) .nil))))) (.cons (.call aR (.cons (.var 0) (.cons (.var 1) (.cons (.var 2) (.cons (.bin .sub (.var 3) (.cst (.int 1))) .nil))))) .nil))))] [],.ret (.tup (.cons (.cst (.str [110,117,109,98,101,114])) (.cons (.call gX (.cons (.var 0) .nil)) .nil)))] [],
 .iff (.cmp .eq (.idx (.var 2) (.cst (.int 0))) (.cst (.str [116,114,117,116,104]))) [.iff (.and (.cmp .gt (.var 3) (.cst (.int 0))) (.cmp .eq (.call az (.cons (.var 0) (.cons (.cst (.int 2)) .nil))) (.cst (.int 0)))) [.set 4 (.tup (.cons (.cst (.str [110,117,109,98,101,114])) .nil)),.ret (.tup (.cons (.cst (.str [108,101,115,115])) (.cons (.call aR (.cons (.var 0) (.cons (.var 1) (.cons (.var 4) (.cons (.bin .sub (.var 3) (.cst (.int 1))) .nil))))) (.cons (.call aR (.cons (.var 0) (.cons (.var 1) (.cons (.var 4) (.cons (.bin .sub (.var 3) (.cst (.int 1))) .nil))))) .nil))))] [],.ret (.idx (.lst (.cons (.tup (.cons (.cst (.str [121,101,115])) .nil)) (.cons (.tup (.cons (.cst (.str [110,111])) .nil)) .nil))) (.call az (.cons (.var 0) (.cons (.cst (.int 2)) .nil))))] [],
 .iff (.cmp .eq (.idx (.var 2) (.cst (.int 0))) (.cst (.str [112,97,105,114]))) [.ret (.tup (.cons (.cst (.str [98,111,116,104])) (.cons (.call aR (.cons (.var 0) (.cons (.var 1) (.cons (.idx (.var 2) (.cst (.int 1))) (.cons (.bin .sub (.var 3) (.cst (.int 1))) .nil))))) (.cons (.call aR (.cons (.var 0) (.cons (.var 1) (.cons (.idx (.var 2) (.cst (.int 2))) (.cons (.bin .sub (.var 3) (.cst (.int 1))) .nil))))) .nil))))] [],
 .iff (.cmp .eq (.idx (.var 2) (.cst (.int 0))) (.cst (.str [114,111,119]))) [.set 5 (.tup (.cons (.cst (.str [110,111,110,101])) (.cons (.idx (.var 2) (.cst (.int 1))) .nil))),.for (.var 6) (.iT (.call az (.cons (.var 0) (.cons (.cst (.int 3)) .nil)))) gv,.ret (.var 5)] [],
 .iff (.and (.cmp .eq (.idx (.var 2) (.cst (.int 2))) (.tup (.cons (.cst (.str [119,111,114,107])) (.cons (.idx (.var 2) (.cst (.int 1))) (.cons (.tup (.cons (.cst (.str [116,114,117,116,104])) .nil)) .nil))))) (.and (.call ff (.cons (.idx (.var 2) (.cst (.int 1))) .nil)) (.cmp .eq (.call az (.cons (.var 0) (.cons (.cst (.int 2)) .nil))) (.cst (.int 0))))) [.ret (.call dD (.cons (.var 0) (.cons (.idx (.var 2) (.cst (.int 1))) .nil)))] [],
 .ret (.tup (.cons (.cst (.str [102,117,110])) (.cons (.idx (.var 2) (.cst (.int 1))) (.cons (.call aR (.cons (.var 0) (.cons (.bin .add (.var 1) (.lst (.cons (.idx (.var 2) (.cst (.int 1))) .nil))) (.cons (.idx (.var 2) (.cst (.int 2))) (.cons (.bin .sub (.var 3) (.cst (.int 1))) .nil))))) .nil))))]⟩
noncomputable def oG:E:=(.var 10)
noncomputable def oJ:E:=(.cmp .eq (.idx (.var 1) (.bin .sub (.bin .sub (.blt .len (.var 1)) (.cst (.int 1))) (.var 10))) (.var 2))
def lF:Fn:=⟨4,10,[
 .set 4 (.call az (.cons (.var 0) (.cons (.cst (.int 9)) .nil))),
 .set 5 (.comp oG (.iT (.blt .len (.var 1))) (.some oJ)),
 .iff (.and (.cmp .ne (.var 5) (.lst .nil)) (.or (.cmp .lt (.var 4) (.cst (.int 3))) (.cmp .lt (.var 3) (.cst (.int 0))))) [.ret (.tup (.cons (.cst (.str [118,97,114])) (.cons (.idx (.var 5) (.call az (.cons (.var 0) (.cons (.blt .len (.var 5)) .nil)))) .nil)))] [],
 .set 6 (.call bI (.cons (.var 0) (.cons (.cst (.int 1)) (.cons (.lst .nil) .nil)))),
 .iff (.or (.cmp .le (.var 3) (.cst (.int 0))) (.cmp .gt (.var 4) (.cst (.int 7)))) [.ret (.call gF (.cons (.var 0) (.cons (.var 1) (.cons (.var 2) (.cons (.var 3) .nil)))))] [],
 .iff (.cmp .eq (.var 4) (.cst (.int 3))) [.set 7 (.call aR (.cons (.var 0) (.cons (.var 1) (.cons (.tup (.cons (.cst (.str [119,111,114,107])) (.cons (.var 6) (.cons (.var 2) .nil)))) (.cons (.bin .sub (.var 3) (.cst (.int 1))) .nil))))),.ret (.tup (.cons (.cst (.str [99,97,108,108])) (.cons (.var 7) (.cons (.call aR (.cons (.var 0) (.cons (.var 1) (.cons (.var 6) (.cons (.bin .sub (.var 3) (.cst (.int 1))) .nil))))) .nil))))] [],
 .iff (.cmp .eq (.var 4) (.cst (.int 4))) [.set 7 (.call aR (.cons (.var 0) (.cons (.var 1) (.cons (.tup (.cons (.cst (.str [116,114,117,116,104])) .nil)) (.cons (.bin .sub (.var 3) (.cst (.int 1))) .nil))))),.ret (.tup (.cons (.cst (.str [105,102])) (.cons (.var 7) (.cons (.call aR (.cons (.var 0) (.cons (.var 1) (.cons (.var 2) (.cons (.bin .sub (.var 3) (.cst (.int 1))) .nil))))) (.cons (.call aR (.cons (.var 0) (.cons (.var 1) (.cons (.var 2) (.cons (.bin .sub (.var 3) (.cst (.int 1))) .nil))))) .nil)))))] [],
 .iff (.cmp .eq (.var 4) (.cst (.int 5))) [.set 8 (.call aR (.cons (.var 0) (.cons (.var 1) (.cons (.tup (.cons (.cst (.str [114,111,119])) (.cons (.var 6) .nil))) (.cons (.bin .sub (.var 3) (.cst (.int 1))) .nil))))),.set 9 (.call aR (.cons (.var 0) (.cons (.var 1) (.cons (.var 2) (.cons (.bin .sub (.var 3) (.cst (.int 1))) .nil))))),.ret (.tup (.cons (.cst (.str [102,111,108,100])) (.cons (.var 8) (.cons (.var 9) (.cons (.call aR (.cons (.var 0) (.cons (.var 1) (.cons (.tup (.cons (.cst (.str [119,111,114,107])) (.cons (.var 6) (.cons (.tup (.cons (.cst (.str [119,111,114,107])) (.cons (.var 2) (.cons (.var 2) .nil)))) .nil)))) (.cons (.bin .sub (.var 3) (.cst (.int 1))) .nil))))) .nil)))))] [],
 .iff (.cmp .eq (.var 4) (.cst (.int 6))) [.ret (.tup (.cons (.cst (.str [108,101,102,116])) (.cons (.call aR (.cons (.var 0) (.cons (.var 1) (.cons (.tup (.cons (.cst (.str [112,97,105,114])) (.cons (.var 2) (.cons (.var 6) .nil)))) (.cons (.bin .sub (.var 3) (.cst (.int 1))) .nil))))) .nil)))] [],
 .iff (.cmp .eq (.var 4) (.cst (.int 7))) [.ret (.tup (.cons (.cst (.str [114,105,103,104,116])) (.cons (.call aR (.cons (.var 0) (.cons (.var 1) (.cons (.tup (.cons (.cst (.str [112,97,105,114])) (.cons (.var 6) (.cons (.var 2) .nil)))) (.cons (.bin .sub (.var 3) (.cst (.int 1))) .nil))))) .nil)))] [],
 .ret (.call gF (.cons (.var 0) (.cons (.var 1) (.cons (.var 2) (.cons (.var 3) .nil)))))]⟩
noncomputable def iU:Fn:=⟨1,1,[
 .iff (.cmp .isin (.idx (.var 0) (.cst (.int 0))) (.tup (.cons (.cst (.str [110,117,109,98,101,114])) (.cons (.cst (.str [121,101,115])) (.cons (.cst (.str [110,111])) (.cons (.cst (.str [118,97,114])) (.cons (.cst (.str [100,101,102])) (.cons (.cst (.str [110,111,110,101])) (.cons (.cst (.str [108,105,107,101])) .nil))))))))) [.ret (.lst .nil)] [],
 .ret (.ite (.cmp .eq (.idx (.var 0) (.cst (.int 0))) (.cst (.str [102,117,110]))) (.lst (.cons (.cst (.int 2)) .nil)) (.vk (.cst (.int 1)) (.blt .len (.var 0))))]⟩
noncomputable def iY:E:=(.bin .add (.tup (.cons (.var 2) .nil)) (.var 3))
def i7:List St:=[.set 1 (.bin .add (.var 1) (.comp iY (.seq (.call dN (.cons (.idx (.var 0) (.var 2)) .nil))) .none))]
def lW:Fn:=⟨1,3,[
 .set 1 (.lst (.cons (.tup .nil) .nil)),
 .for (.var 2) (.seq (.call nE (.cons (.var 0) .nil))) i7,
 .ret (.var 1)]⟩
noncomputable def ou:Fn:=⟨3,3,[
 .iff (.cmp .eq (.var 1) (.tup .nil)) [.ret (.var 2)] [],
 .ret (.bin .add (.bin .add (.sl (.var 0) .none (.some (.idx (.var 1) (.cst (.int 0))))) (.tup (.cons (.call ip (.cons (.idx (.var 0) (.idx (.var 1) (.cst (.int 0)))) (.cons (.sl (.var 1) (.some (.cst (.int 1))) .none) (.cons (.var 2) .nil)))) .nil))) (.sl (.var 0) (.some (.bin .add (.idx (.var 1) (.cst (.int 0))) (.cst (.int 1)))) .none))]⟩
noncomputable def i8:Fn:=⟨1,1,[
 .ret (.tup (.cons (.cst (.str [119,111,114,107])) (.cons (.var 0) (.cons (.tup (.cons (.cst (.str [119,111,114,107])) (.cons (.var 0) (.cons (.tup (.cons (.cst (.str [116,114,117,116,104])) .nil)) .nil)))) .nil))))]⟩
noncomputable def jL:E:=(.call cZ (.cons (.var 7) (.cons (.var 1) (.cons (.var 2) .nil))))
def dR:Fn:=⟨3,7,[
 .set 3 (.idx (.var 0) (.cst (.int 0))),
 .iff (.cmp .isin (.var 3) (.tup (.cons (.cst (.str [110,117,109,98,101,114])) (.cons (.cst (.str [121,101,115])) (.cons (.cst (.str [110,111])) .nil))))) [.ret (.ite (.cmp .eq (.var 3) (.cst (.str [110,117,109,98,101,114]))) (.tup (.cons (.cst (.str [110,117,109,98,101,114])) .nil)) (.tup (.cons (.cst (.str [116,114,117,116,104])) .nil)))] [],
 .iff (.cmp .eq (.var 3) (.cst (.str [118,97,114]))) [.ret (.ite (.chain (.cst (.int 0)) (.idx (.var 0) (.cst (.int 1))) (.blt .len (.var 1))) (.idx (.var 1) (.bin .sub (.bin .sub (.blt .len (.var 1)) (.cst (.int 1))) (.idx (.var 0) (.cst (.int 1))))) (.cst .aw))] [],
 .iff (.cmp .eq (.var 3) (.cst (.str [100,101,102]))) [.set 4 (.and (.chain (.cst (.int 0)) (.idx (.var 0) (.cst (.int 1))) (.blt .len (.var 2))) (.cmp .eq (.blt .len (.idx (.var 0) (.cst (.int 2)))) (.blt .len (.idx (.idx (.var 2) (.idx (.var 0) (.cst (.int 1)))) (.cst (.int 1)))))),.ret (.ite (.var 4) .bad (.cst .aw))] [],
 .iff (.cmp .eq (.var 3) (.cst (.str [110,111,110,101]))) [.ret (.tup (.cons (.cst (.str [114,111,119])) (.cons (.idx (.var 0) (.cst (.int 1))) .nil)))] [],
 .iff (.cmp .eq (.var 3) (.cst (.str [108,105,107,101]))) [.ret (.ite (.cmp .isin (.idx (.var 0) (.cst (.int 1))) (.tup (.cons (.tup (.cons (.cst (.str [110,117,109,98,101,114])) .nil)) (.cons (.tup (.cons (.cst (.str [116,114,117,116,104])) .nil)) .nil)))) (.call aK (.cons (.idx (.var 0) (.cst (.int 1))) .nil)) (.cst .aw))] [],
 .iff (.cmp .eq (.var 3) (.cst (.str [102,117,110]))) [.set 5 (.call cZ (.cons (.idx (.var 0) (.cst (.int 2))) (.cons (.bin .add (.var 1) (.lst (.cons (.idx (.var 0) (.cst (.int 1))) .nil))) (.cons (.var 2) .nil)))),.ret (.ite (.cmp .notN (.var 5) (.cst .aw)) (.tup (.cons (.cst (.str [119,111,114,107])) (.cons (.idx (.var 0) (.cst (.int 1))) (.cons (.var 5) .nil)))) (.cst .aw))] [],
 .set 6 (.comp jL (.seq (.sl (.var 0) (.some (.cst (.int 1))) .none)) .none),
 .iff (.cmp .isin (.cst .aw) (.var 6)) [.ret (.cst .aw)] [],
 .ret (.call lZ (.cons (.var 3) (.cons (.var 6) .nil)))]⟩
noncomputable def i5:E:=(.var 5)
noncomputable def fB:E:=(.or (.cmp .ne (.idx (.var 5) (.cst (.int 0))) (.cst (.str [119,111,114,107]))) (.cmp .ne (.var 5) (.call aK (.cons (.idx (.var 5) (.cst (.int 1))) .nil))))
def bg:Fn:=⟨2,5,[
 .set 2 (.idx (.var 1) (.cst (.int 0))),
 .set 3 (.tup (.cons (.cst (.str [110,117,109,98,101,114])) .nil)),
 .iff (.cmp .eq (.var 0) (.cst (.str [99,97,108,108]))) [.ret (.ite (.and (.cmp .eq (.idx (.var 2) (.cst (.int 0))) (.cst (.str [119,111,114,107]))) (.cmp .eq (.idx (.var 2) (.cst (.int 1))) (.idx (.var 1) (.cst (.int 1))))) (.idx (.var 2) (.cst (.int 2))) (.cst .aw))] [],
 .iff (.cmp .eq (.var 0) (.cst (.str [98,111,116,104]))) [.ret (.tup (.cons (.cst (.str [112,97,105,114])) (.cons (.var 2) (.cons (.idx (.var 1) (.cst (.int 1))) .nil))))] [],
 .iff (.cmp .isin (.var 0) (.tup (.cons (.cst (.str [108,101,102,116])) (.cons (.cst (.str [114,105,103,104,116])) .nil)))) [.ret (.ite (.cmp .eq (.idx (.var 2) (.cst (.int 0))) (.cst (.str [112,97,105,114]))) (.idx (.var 2) (.bin .add (.cst (.int 1)) (.blt .int (.cmp .eq (.var 0) (.cst (.str [114,105,103,104,116])))))) (.cst .aw))] [],
 .iff (.cmp .eq (.var 0) (.cst (.str [109,111,114,101]))) [.ret (.ite (.cmp .eq (.idx (.var 1) (.cst (.int 1))) (.tup (.cons (.cst (.str [114,111,119])) (.cons (.var 2) .nil)))) (.idx (.var 1) (.cst (.int 1))) (.cst .aw))] [],
 .iff (.cmp .eq (.var 0) (.cst (.str [102,111,108,100]))) [.set 4 (.and (.cmp .eq (.idx (.var 2) (.cst (.int 0))) (.cst (.str [114,111,119]))) (.cmp .eq (.idx (.var 1) (.cst (.int 2))) (.tup (.cons (.cst (.str [119,111,114,107])) (.cons (.idx (.var 2) (.cst (.int 1))) (.cons (.tup (.cons (.cst (.str [119,111,114,107])) (.cons (.idx (.var 1) (.cst (.int 1))) (.cons (.idx (.var 1) (.cst (.int 1))) .nil)))) .nil)))))),.ret (.ite (.var 4) (.idx (.var 1) (.cst (.int 1))) (.cst .aw))] [],
 .iff (.cmp .eq (.var 0) (.cst (.str [105,102]))) [.ret (.ite (.and (.cmp .eq (.var 2) (.tup (.cons (.cst (.str [116,114,117,116,104])) .nil))) (.cmp .eq (.idx (.var 1) (.cst (.int 1))) (.idx (.var 1) (.cst (.int 2))))) (.idx (.var 1) (.cst (.int 1))) (.cst .aw))] [],
 .iff (.cmp .isin (.var 0) (.tup (.cons (.cst (.str [115,117,109])) (.cons (.cst (.str [108,101,115,115])) .nil)))) [.ret (.ite (.cmp .eq (.var 1) (.lst (.cons (.var 3) (.cons (.var 3) .nil)))) (.idx (.lst (.cons (.var 3) (.cons (.tup (.cons (.cst (.str [116,114,117,116,104])) .nil)) .nil))) (.blt .int (.cmp .eq (.var 0) (.cst (.str [108,101,115,115]))))) (.cst .aw))] [],
 .iff (.cmp .ne (.comp i5 (.seq (.var 1)) (.some fB)) (.lst .nil)) [.ret (.cst .aw)] [],
 .iff (.cmp .eq (.var 0) (.cst (.str [108,105,107,101,114,111,119]))) [.ret (.call aK (.cons (.tup (.cons (.cst (.str [114,111,119])) (.cons (.idx (.var 2) (.cst (.int 1))) .nil))) .nil))] [],
 .ret (.call aK (.cons (.tup (.cons (.cst (.str [112,97,105,114])) (.cons (.idx (.var 2) (.cst (.int 1))) (.cons (.idx (.idx (.var 1) (.cst (.int 1))) (.cst (.int 1))) .nil)))) .nil))]⟩
noncomputable def iQ:Fn:=⟨2,4,[
 .qO [.uw iO (.cons (.mk [83,104,101,108,102] gU .nil) (.cons (.blt .list (.var 0)) (.cons (.var 1) .nil)))] [([77,101,101,116,69,114,114,111,114],[[83,116,114,97,121]],2,[.set 3 (.and (.ki (.var 2) [[83,116,114,97,121]] [[83,116,114,97,121]] [[83,116,114,97,121]]) (.ki (.var 2) [[86,97,108,117,101,69,114,114,111,114]] [[83,116,114,97,121]] [[83,116,114,97,121]])),.ret (.ite (.and (.var 3) (.not (.ki (.var 2) [[82,101,102,117,115,101,100],[84,111,111,76,111,110,103]] [[83,116,114,97,121]] []))) (.cst .aw) (.cst (.str [111,116,104,101,114])))])]]⟩
noncomputable def jH:List St:=[.set 6 (.call dN (.cons (.var 4) .nil)),.set 7 (.call aR (.cons (.var 1) (.cons (.lst .nil) (.cons (.call bI (.cons (.var 1) (.cons (.cst (.int 1)) (.cons (.lst .nil) .nil)))) (.cons (.cst (.int 1)) .nil))))),.iff (.cmp .eq (.var 5) (.cst (.int 0))) [.set 7 (.tup (.cons (.cst (.str [118,97,114])) (.cons (.call az (.cons (.var 1) (.cons (.cst (.int 12)) .nil))) .nil)))] [],.iff (.cmp .eq (.var 5) (.cst (.int 1))) [.set 7 (.lst (.cons (.tup (.cons (.cst (.str [108,105,107,101])) (.cons (.tup (.cons (.cst (.str [114,111,119])) (.cons (.tup (.cons (.cst (.str [116,114,117,116,104])) .nil)) .nil))) .nil))) (.cons (.tup (.cons (.cst (.str [108,105,107,101,114,111,119])) (.cons (.tup (.cons (.cst (.str [121,101,115])) .nil)) .nil))) (.cons (.tup (.cons (.cst (.str [108,105,107,101,112,97,105,114])) (.cons (.var 4) (.cons (.var 4) .nil)))) (.cons (.tup (.cons (.cst (.str [108,105,107,101])) (.cons (.var 3) .nil))) .nil))))),.set 7 (.idx (.bin .add (.var 7) (.lst (.cons (.tup (.cons (.cst (.str [100,101,102])) (.cons (.call az (.cons (.var 1) (.cons (.cst (.int 2)) .nil))) (.cons (.tup (.cons (.var 3) .nil)) .nil)))) (.cons (.tup (.cons (.cst (.str [100,101,102])) (.cons (.cst (.int 0)) (.cons (.tup .nil) .nil)))) .nil)))) (.call az (.cons (.var 1) (.cons (.cst (.int 6)) .nil))))] [],.set 8 (.call ip (.cons (.var 4) (.cons (.idx (.var 6) (.call az (.cons (.var 1) (.cons (.blt .len (.var 6)) .nil)))) (.cons (.var 7) .nil)))),.iff (.cmp .ne (.call eW (.cons (.var 2) (.cons (.var 8) .nil))) (.call cZ (.cons (.var 8) (.cons (.var 2) (.cons (.lst .nil) .nil))))) [.ret (.cst (.bl false))] []]
def qg:Fn:=⟨1,10,[
 .set 1 (.lst (.cons (.cst (.int 17)) (.cons (.blt .list (.var 0)) (.cons (.cst (.int 0)) .nil)))),
 .set 2 (.lst (.cons (.call bI (.cons (.var 1) (.cons (.cst (.int 1)) (.cons (.lst .nil) .nil)))) (.cons (.call bI (.cons (.var 1) (.cons (.cst (.int 1)) (.cons (.lst .nil) .nil)))) .nil))),
 .set 3 (.call bI (.cons (.var 1) (.cons (.cst (.int 2)) (.cons (.lst .nil) .nil)))),
 .set 4 (.call aR (.cons (.var 1) (.cons (.var 2) (.cons (.var 3) (.cons (.cst (.int 3)) .nil))))),
 .iff (.or (.cmp .ne (.call eW (.cons (.var 2) (.cons (.var 4) .nil))) (.var 3)) (.cmp .ne (.call cZ (.cons (.var 4) (.cons (.var 2) (.cons (.lst .nil) .nil)))) (.var 3))) [.ret (.cst (.bl false))] [],
 .for (.var 5) (.iT (.cst (.int 4))) jH,
 .set 9 (.tup (.cons (.cst (.str [108,105,107,101,112,97,105,114])) (.cons (.tup (.cons (.cst (.str [108,105,107,101])) (.cons (.tup (.cons (.cst (.str [110,117,109,98,101,114])) .nil)) .nil))) (.cons (.tup (.cons (.cst (.str [108,105,107,101,114,111,119])) (.cons (.tup (.cons (.cst (.str [108,105,107,101])) (.cons (.tup (.cons (.cst (.str [116,114,117,116,104])) .nil)) .nil))) .nil))) .nil)))),
 .ret (.cmp .eq (.call eW (.cons (.lst .nil) (.cons (.var 9) .nil))) (.call aK (.cons (.tup (.cons (.cst (.str [112,97,105,114])) (.cons (.tup (.cons (.cst (.str [110,117,109,98,101,114])) .nil)) (.cons (.tup (.cons (.cst (.str [114,111,119])) (.cons (.tup (.cons (.cst (.str [116,114,117,116,104])) .nil)) .nil))) .nil)))) .nil)))]⟩
def T:List Fn:=[gS,gW,iA,qV,mJ,mL,iL,dS,qp,iP,kI,lV,kM,bz,kE,kD,qL,jz,uO,qk,uE,jk,eN,fg,lF,iU,lW,ou,i8,dR,bg,iQ,qg]
theorem DB:T[cG]?=some gS:=rfl
theorem Kh:T[jm]?=some gW:=rfl
theorem My:T[iB]?=some iA:=rfl
theorem NG:T[la]?=some qV:=rfl
theorem K6:T[kg]?=some mJ:=rfl
theorem LX:T[nz]?=some mL:=rfl
theorem ID:T[iO]?=some iL:=rfl
theorem zz:T[aX]?=some dS:=rfl
theorem NK:T[gx]?=some qp:=rfl
theorem IK:T[fI]?=some iP:=rfl
theorem IA:T[kF]?=some kI:=rfl
theorem Jg:T[lz]?=some lV:=rfl
theorem IH:T[kG]?=some kM:=rfl
theorem CN:T[gZ]?=some bz:=rfl
theorem II:T[kO]?=some kE:=rfl
theorem IV:T[kC]?=some kD:=rfl
theorem NA:T[gK]?=some qL:=rfl
theorem H9:T[gU]?=some jz:=rfl
theorem Mu:T[az]?=some uO:=rfl
theorem xD:T[gX]?=some qk:=rfl
theorem M9:T[bI]?=some uE:=rfl
theorem Ju:T[ff]?=some jk:=rfl
theorem Fi:T[dD]?=some eN:=rfl
theorem MQ:T[gF]?=some fg:=rfl
theorem MC:T[aR]?=some lF:=rfl
theorem Lh:T[nE]?=some iU:=rfl
theorem Kf:T[dN]?=some lW:=rfl
theorem Ny:T[ip]?=some ou:=rfl
theorem E3:T[aK]?=some i8:=rfl
theorem K3:T[cZ]?=some dR:=rfl
theorem JH:T[lZ]?=some bg:=rfl
theorem Lx:T[eW]?=some iQ:=rfl
theorem OF:T[Dx]?=some qg:=rfl
inductive Lf where
 |num (i:Int)|yes|no|var (i:Int)|aw (k:Kd)|dE (k:Kd)|dfn (n:Int) (ks:List Kd)
inductive T1 where|left|right|lrow
inductive T2 where|call|both|more|sum|less|lpair
inductive T3 where|fold|ife
inductive Co where
 |lf (l:Lf)
 |fn (k:Kd) (c:Co)
 |n1 (t:T1) (a:Co)
 |n2 (t:T2) (a b:Co)
 |n3 (t:T3) (a b c:Co)
abbrev iZ:S:=[102,117,110]
abbrev oS:S:=[118,97,114]
abbrev oz:S:=[110,111,110,101]
abbrev lX:S:=[108,105,107,101]
abbrev jK:S:=[100,101,102]
abbrev iz:S:=[121,101,115]
abbrev kU:S:=[110,111]
noncomputable abbrev T1.s:T1->S
 |.left=>[108,101,102,116]
 |.right=>[114,105,103,104,116]
 |.lrow=>[108,105,107,101,114,111,119]
noncomputable abbrev T2.s:T2->S
 |.call=>[99,97,108,108]
 |.both=>[98,111,116,104]
 |.more=>[109,111,114,101]
 |.sum=>[115,117,109]
 |.less=>[108,101,115,115]
 |.lpair=>[108,105,107,101,112,97,105,114]
noncomputable abbrev T3.s:T3->S
 |.fold=>[102,111,108,100]
 |.ife=>[105,102]
noncomputable def Lf.ae:Lf->W
 |.num i=>.tup [.str bM,.int i]
 |.yes=>.tup [.str iz]
 |.no=>.tup [.str kU]
 |.var i=>.tup [.str oS,.int i]
 |.aw k=>.tup [.str oz,k.ae]
 |.dE k=>.tup [.str lX,k.ae]
 |.dfn n ks=>.tup [.str jK,.int n,.tup (ks.map Kd.ae)]
noncomputable def Co.ae:Co->W
 |.lf l=>l.ae
 |.fn k c=>.tup [.str iZ,k.ae,c.ae]
 |.n1 t a=>.tup [.str t.s,a.ae]
 |.n2 t a b=>.tup [.str t.s,a.ae,b.ae]
 |.n3 t a b c=>.tup [.str t.s,a.ae,b.ae,c.ae]
noncomputable def Co.depth:Co->Nat
 |.lf _=>0
 |.fn _ c=>c.depth+1
 |.n1 _ a=>a.depth+1
 |.n2 _ a b=>max a.depth b.depth+1
 |.n3 _ a b c=>max a.depth (max b.depth c.depth)+1
def Lf.kd(D:Nat):Lf->Prop
 |.aw k=>k.depth<=D
 |.dE k=>k.depth<=D
 |.dfn _ ks=>∀k∈ks,k.depth<=D
 |_=>True
def Co.kd(D:Nat):Co->Prop
 |.lf l=>l.kd D
 |.fn k c=>k.depth<=D/\c.kd D
 |.n1 _ a=>a.kd D
 |.n2 _ a b=>a.kd D/\b.kd D
 |.n3 _ a b c=>a.kd D/\b.kd D/\c.kd D
def aF(k:Kd):Kd:=.work k (.work k .tru)
noncomputable def likeOf:Kd->Option Kd
 |.work x y=>if y=.work x .tru then some x else none
 |_=>none
def Lf.jd(bd:List Kd):Lf->Option Kd
 |.num _=>some .num
 |.yes=>some .tru
 |.no=>some .tru
 |.var i=>if 0<=i/\i<bd.length then bd[bd.length-1-i.toNat]? else none
 |.aw k=>some (.row k)
 |.dE k=>if k=.num\/k=.tru then some (aF k) else none
 |.dfn _ _=>none
noncomputable def T1.j:T1->Kd->Option Kd
 |.left,.pair a _=>some a
 |.right,.pair _ b=>some b
 |.lrow,k=>(likeOf k).map fun x=>aF (.row x)
 |_,_=>none
noncomputable def T2.j:T2->Kd->Kd->Option Kd
 |.call,.work a b,c=>if a=c then some b else none
 |.both,a,b=>some (.pair a b)
 |.more,a,b=>if b=.row a then some b else none
 |.sum,a,b=>if a=.num/\b=.num then some .num else none
 |.less,a,b=>if a=.num/\b=.num then some .tru else none
 |.lpair,a,b=>(likeOf a).bind fun x=>(likeOf b).map fun y=>aF (.pair x y)
 |_,_,_=>none
noncomputable def T3.j:T3->Kd->Kd->Kd->Option Kd
 |.fold,.row a,b,c=>if c=.work a (.work b b) then some b else none
 |.ife,a,b,c=>if a=.tru/\b=c then some b else none
 |_,_,_,_=>none
noncomputable def jd:Co->List Kd->Option Kd
 |.lf l,bd=>l.jd bd
 |.fn k c,bd=>(jd c (bd++[k])).map (.work k)
 |.n1 t a,bd=>(jd a bd).bind t.j
 |.n2 t a b,bd=>(jd a bd).bind fun x=>(jd b bd).bind fun y=>t.j x y
 |.n3 t a b c,bd=>(jd a bd).bind fun x=>(jd b bd).bind fun y=>(jd c bd).bind fun z=>t.j x y z
noncomputable def oW:Option Kd->W
 |none=>.aw
 |some k=>k.ae
theorem fF(h:likeOf k=some x):k=aF x:=by
 cases k with
 |work a b=>
  simp only[likeOf] at h;split at h
  .next e=>cases h;subst e;rfl
  .cases h
 |_=>cases h
theorem dA(k:Kd):(aF k).depth=k.depth+2:=by simp[aF,Kd.depth]<;>omega
theorem T1.deep(t:T1)(h:t.j a=some k):k.depth<=a.depth+1:=by
 cases t with
 |left=>cases a<;>simp[T1.j] at h;subst h;simp[Kd.depth];omega
 |right=>cases a<;>simp[T1.j] at h;subst h;simp[Kd.depth];omega
 |lrow=>
  simp only[T1.j,kN] at h;obtain⟨x,e,rfl⟩:=h;rw[fF e,dA,dA];simp[Kd.depth]
theorem T2.deep(t:T2)(h:t.j a b=some k):k.depth<=max a.depth b.depth+1:=by
 cases t with
 |call=>cases a<;>simp[T2.j] at h;obtain⟨_,rfl⟩:=h;simp[Kd.depth];omega
 |both=>simp[T2.j] at h;subst h;simp[Kd.depth]
 |more=>simp[T2.j] at h;obtain⟨_,rfl⟩:=h;omega
 |sum=>simp[T2.j] at h;obtain⟨_,rfl⟩:=h;simp[Kd.depth]
 |less=>simp[T2.j] at h;obtain⟨_,rfl⟩:=h;simp[Kd.depth]
 |lpair=>
  simp only[T2.j,ir,kN] at h;obtain⟨x,e,y,f,rfl⟩:=h;rw[fF e,fF f,dA,dA,dA];simp[Kd.depth]<;>omega
theorem T3.deep(t:T3)(h:t.j a b c=some k):k.depth<=max a.depth (max b.depth c.depth)+1:=by
 cases t with
 |fold=>cases a<;>simp[T3.j] at h;obtain⟨_,rfl⟩:=h;omega
 |ife=>simp[T3.j] at h;obtain⟨_,rfl⟩:=h;omega
theorem Lf.deep{bd:List Kd}(hb:∀x∈bd,x.depth<=D):∀l:Lf,l.kd D->l.jd bd=some k->k.depth<=D+2
 |.num _,_,h=>by cases h;simp[Kd.depth]
 |.yes,_,h=>by cases h;simp[Kd.depth]
 |.no,_,h=>by cases h;simp[Kd.depth]
 |.var i,_,h=>by
  simp only[Lf.jd] at h;split at h
  .have:=hb k (pd h);omega
  .cases h
 |.aw k,kd,h=>by cases h;simp[Kd.depth];simp[Lf.kd] at kd;omega
 |.dE k,kd,h=>by
  simp only[Lf.jd] at h;split at h
  .next e=>cases h;rw[dA];rcases e with rfl|rfl<;>simp[Kd.depth]
  .cases h
 |.dfn _ _,_,h=>by cases h
theorem cL:∀(c:Co)(bd:List Kd)(k:Kd),(∀x∈bd,x.depth<=D)->c.kd D->jd c bd=some k->k.depth<=D+2+c.depth
 |.lf l,bd,k,hb,kd,h=>Lf.deep hb l kd h
 |.fn k0 c,bd,k,hb,kd,h=>by
  simp only[jd,kN] at h;obtain⟨x,e,rfl⟩:=h;have:=cL c (bd++[k0]) x (by
   intro y hy;rcases kK.mp hy with hy|hy
   .exact hb y hy
   .obtain rfl:=gH.mp hy;exact kd.1) kd.2 e
  have:=kd.1;simp[Kd.depth,Co.depth];omega
 |.n1 t a,bd,k,hb,kd,h=>by
  simp only[jd,ir] at h;obtain⟨x,e,h⟩:=h;have:=cL a bd x hb kd e;have:=t.deep h;simp only[Co.depth];omega
 |.n2 t a b,bd,k,hb,kd,h=>by
  simp only[jd,ir] at h;obtain⟨x,e,y,f,h⟩:=h;have:=cL a bd x hb kd.1 e;have:=cL b bd y hb kd.2 f;have:=t.deep h;simp only[Co.depth];omega
 |.n3 t a b c,bd,k,hb,kd,h=>by
  simp only[jd,ir] at h;obtain⟨x,e,y,f,z,g,h⟩:=h;have:=cL a bd x hb kd.1 e;have:=cL b bd y hb kd.2.1 f;have:=cL c bd z hb kd.2.2 g;have:=t.deep h;simp only[Co.depth];omega
section
variable {C:Or}{h h1 h2 h':Hp}{q k i:Nat}{a b c:Kd}{w s:S}{f v u:W}{r:List W}{σ:Env}{o p:Bool}{x y z:E}
theorem eqs(e:σ[i]?=some (some (.str w)))(g:decide (w=s)=o):ag C (.cmp .eq (.var i) (.cst (.str s))) σ h=.ok (.bl o) h:=by subst g;simp[e]
theorem bO(e:σ[i]?=some (some (.tup (.str w::r))))(g:decide (w=s)=o):ag C (.cmp .eq (.idx (.var i) (.cst (.int 0))) (.cst (.str s))) σ h=.ok (.bl o) h:=by subst g;simp[e]
noncomputable def kw:Kd->S
 |.num=>bM | .tru=>gq | .row _=>o8 | .pair _ _=>gz | .work _ _=>dH | .any _=>qD | .gap _=>GJ
theorem qi(a:Kd):∃r,a.ae=.tup (.str (kw a)::r):=by cases a<;>simp[Kd.ae,kw]
theorem i9(e:σ[i]?=some (some a.ae))(g:decide (kw a=s)=o):ag C (.cmp .eq (.idx (.var i) (.cst (.int 0))) (.cst (.str s))) σ h=.ok (.bl o) h:=by obtain⟨r,er⟩:=qi a;rw[er] at e;exact bO e g
theorem bL(e:ag C x σ h=.ok (.bl o) h1)(k:o=true->ag C y σ h1=.ok u h')(k2:o=false->ag C z σ h1=.ok u h'):ag C (.ite x y z) σ h=.ok u h':=by
 rw[vW,e];cases o with
 |true=>exact k rfl
 |false=>exact k2 rfl
theorem fq(e:ag C x σ h=.ok u h1)(f:ag C y σ h1=.ok v h2)(k:bw h2 u v=some o):ag C (.cmp .eq x y) σ h=.ok (.bl o) h2:=by rw[kT,e,R.af,f,R.af];show R.of ((bw h2 u v).map W.bl) h2=_;rw[k];rfl
theorem jh(e:ag C x σ h=.ok u h1)(f:ag C y σ h1=.ok v h2)(k:bw h2 u v=some o):ag C (.cmp .ne x y) σ h=.ok (.bl (!o)) h2:=by rw[kT,e,R.af,f,R.af];show R.of (((bw h2 u v).map (!·)).map W.bl) h2=_;rw[k];rfl
theorem fh(e:ag C x σ h=.ok (.bl o) h1)(f:o=true->ag C y σ h1=.ok (.bl p) h2)(g:o=false->h2=h1):ag C (.and x y) σ h=.ok (.bl (o&&p)) h2:=by
 rw[vO,e];cases o with
 |true=>exact f rfl
 |false=>rw[g rfl];rfl
theorem bK(e:σ[i]?=some (some (.ref q)))(f:h[q]?=some (.lst r))(n:Nat)(g:r[n]?=some v):ag C (.idx (.var i) (.cst (.int (n:Int)))) σ h=.ok v h:=by
 have hn:n<r.length:=by
  by_cases z:n<r.length
  .exact z
  .rw[nh (by omega)] at g;cases g
 have t:=f6 r n hn;rw[gJ hn] at g;cases g;simp[e,f,t]
theorem ao(e:σ[i]?=some (some v)):ag C (.var i) σ h=.ok v h:=by simp[e]
theorem ins{w a b:S}{o:Bool}(e:σ[i]?=some (some (.str w)))(g:decide (w∈ [a,b])=o):ag C (.cmp .isin (.var i) (.tup (.cons (.cst (.str a)) (.cons (.cst (.str b)) .nil)))) σ h=.ok (.bl o) h:=by have t:=gE w [a,b] h;rw[g] at t;simp only[bx,eh] at t;simp[e,t]
theorem m8{w a b c:S}{o:Bool}(e:σ[i]?=some (some (.str w)))(g:decide (w∈ [a,b,c])=o):ag C (.cmp .isin (.var i) (.tup (.cons (.cst (.str a)) (.cons (.cst (.str b)) (.cons (.cst (.str c)) .nil))))) σ h=.ok (.bl o) h:=by have t:=gE w [a,b,c] h;rw[g] at t;simp only[bx,eh] at t;simp[e,t]
theorem nF(C:Or)(a:Kd)(h:Hp):aB C i8 [a.ae] h=.ok (aF a).ae h:=bR [some a.ae] rfl rfl (aq (by kernel_rfl))
noncomputable abbrev sj(w:S)(q:Nat)(f:W)(g:Option W):Env:=[some (.str w),some (.ref q),some f,some (.tup [.str bM]),g]
abbrev jb(n:Nat):List St:=bg.body.drop n
theorem b9(e:h[q]?=some (.lst (f::r)))(k:av C (jb 2) (sj w q f none) h=.ok (.ret v) h'):aB C bg [.str w,.ref q] h=.ok v h':=
 bR [some (.str w),some (.ref q),none,none,none] rfl rfl (aW (w:=f) (bK rfl e 0 rfl) (aW (w:=.tup [.str bM]) (by kernel_rfl) k))
theorem vz(e:h[q]?=some (.lst [a.ae])):aB C bg [.str T1.left.s,.ref q] h=.ok (oW (T1.left.j a)) h:=by
 refine b9 e (ah (eqs rfl rfl) (ah (eqs rfl rfl) (aZ (ins rfl rfl) (aq (bL (o:=decide (kw a=gz)) (i9 rfl rfl) (fun t=>?_) (fun t=>?_))))))
 .cases a<;>simp[kw] at t;simp[Kd.ae,T1.j,oW]
 .cases a<;>simp[kw] at t<;>rfl
theorem uJ(e:h[q]?=some (.lst [a.ae])):aB C bg [.str T1.right.s,.ref q] h=.ok (oW (T1.right.j a)) h:=by
 refine b9 e (ah (eqs rfl rfl) (ah (eqs rfl rfl) (aZ (ins rfl rfl) (aq (bL (o:=decide (kw a=gz)) (i9 rfl rfl) (fun t=>?_) (fun t=>?_))))))
 .cases a<;>simp[kw] at t;simp[Kd.ae,T1.j,oW]
 .cases a<;>simp[kw] at t<;>rfl
theorem vB(ha:a.depth<=50)(hb:b.depth<=50)(e:h[q]?=some (.lst [a.ae,b.ae])):aB C bg [.str T2.call.s,.ref q] h=.ok (oW (T2.call.j a b)) h:=by
 refine b9 e (aZ (eqs rfl rfl) (aq ?_));cases a with
 |work x y=>
  have t:=Kd.bw h x b (by simp[Kd.depth] at ha;omega) hb;refine bL (o:=true&&decide (x=b)) (fh (bO rfl rfl) (fun _=>fq (u:=x.ae) (by simp[Kd.ae]) (bK rfl e 1 rfl) t) fun z=>nomatch z) (fun z=>?_) (fun z=>?_)
  .simp at z;simp[T2.j,z,oW,Kd.ae]
  .simp at z;simp[T2.j,z,oW]
 |_=>exact bL (o:=false&&true) (fh (p:=true) (bO rfl rfl) (fun z=>nomatch z) fun _=>rfl) (fun z=>nomatch z) fun _=>rfl
theorem vp(e:h[q]?=some (.lst [a.ae,b.ae])):aB C bg [.str T2.both.s,.ref q] h=.ok (oW (T2.both.j a b)) h:=by refine b9 e (ah (eqs rfl rfl) (aZ (eqs rfl rfl) (aq ?_)));simp[e,T2.j,oW,Kd.ae]
theorem vy(ha:a.depth<=49)(hb:b.depth<=50)(e:h[q]?=some (.lst [a.ae,b.ae])):aB C bg [.str T2.more.s,.ref q] h=.ok (oW (T2.more.j a b)) h:=by
 have t:=Kd.bw h b (.row a) hb (by simp[Kd.depth];omega);refine b9 e (ah (eqs rfl rfl) (ah (eqs rfl rfl) (ah (ins rfl rfl) (aZ (eqs rfl rfl) (aq (bL (fq (bK rfl e 1 rfl) (v:=(Kd.row a).ae) (h2:=h) (by kernel_rfl) t) (fun z=>?_) (fun z=>?_)))))))
 .rw[show T2.more.j a b=some b from if_pos (by simpa using z)];exact bK rfl e 1 rfl
 .simp at z;simp[T2.j,z,oW]
theorem zp(ha:a.depth<=50)(hb:b.depth<=50)(hc:c.depth<=50)(e:h[q]?=some (.lst [a.ae,b.ae,c.ae])):aB C bg [.str T3.ife.s,.ref q] h=.ok (oW (T3.ife.j a b c)) h:=by
 have t1:=Kd.bw h a .tru ha (by simp[Kd.depth]);have t2:=Kd.bw h b c hb hc;refine b9 e (ah (eqs rfl rfl) (ah (eqs rfl rfl) (ah (ins rfl rfl) (ah (eqs rfl rfl) (ah (eqs rfl rfl) (aZ (eqs rfl rfl) (aq (bL (fh (fq (ao rfl) (h1:=h) (v:=Kd.tru.ae) (h2:=h) (by kernel_rfl) t1) (fun _=>fq (bK rfl e 1 rfl) (bK rfl e 2 rfl) t2) fun _=>rfl) (fun z=>?_) (fun z=>?_)))))))))
 .rw[show T3.ife.j a b c=some b from if_pos (by simpa using z)];exact bK rfl e 1 rfl
 .rw[show T3.ife.j a b c=none from if_neg (by simpa using z)];rfl
theorem vv(ha:a.depth<=50)(hb:b.depth<=48)(hc:c.depth<=50)(e:h[q]?=some (.lst [a.ae,b.ae,c.ae])):aB C bg [.str T3.fold.s,.ref q] h=.ok (oW (T3.fold.j a b c)) h:=by
 have key:∀(o:Bool)(v:W),ag C (.and (.cmp .eq (.idx (.var 2) (.cst (.int 0))) (.cst (.str o8))) (.cmp .eq (.idx (.var 1) (.cst (.int 2))) (.tup (.cons (.cst (.str dH)) (.cons (.idx (.var 2) (.cst (.int 1))) (.cons (.tup (.cons (.cst (.str dH)) (.cons (.idx (.var 1) (.cst (.int 1))) (.cons (.idx (.var 1) (.cst (.int 1))) .nil)))) .nil)))))) (sj T3.fold.s q a.ae none) h=.ok (.bl o) h->
   (o=true->v=b.ae)->(o=false->v=.aw)->aB C bg [.str T3.fold.s,.ref q] h=.ok v h:=fun o v h1 h2 h3=>by
  refine b9 e (ah (eqs rfl rfl) (ah (eqs rfl rfl) (ah (ins rfl rfl) (ah (eqs rfl rfl) (aZ (eqs rfl rfl) (aW h1 (aq (bL (o:=o) (ao rfl) (fun z=>?_) (fun z=>?_)))))))))
  .rw[h2 z];exact bK rfl e 1 rfl
  .rw[h3 z];rfl
 cases a with
 |row x=>
  have t:=Kd.bw h c (.work x (.work b b)) hc (by simp[Kd.depth] at ha⊢;omega);refine key (true&&decide (c=.work x (.work b b))) _ (fh (bO rfl rfl) (fun _=>fq (bK rfl e 2 rfl) (v:=(Kd.work x (.work b b)).ae) (h2:=h) ?_ t) fun z=>nomatch z) (fun z=>?_) (fun z=>?_)
  .simp[e,Kd.ae]
  .simp at z;simp[T3.j,z,oW]
  .simp at z;simp[T3.j,z,oW]
 |_=>exact key (false&&true) _ (fh (p:=true) (bO rfl rfl) (fun z=>nomatch z) fun _=>rfl) (fun z=>nomatch z) fun _=>rfl
theorem HS(ha:a.depth<=50)(hb:b.depth<=50)(e:h[q]?=some (.lst [a.ae,b.ae])):bw (h++[.lst [Kd.num.ae,Kd.num.ae]]) (.ref q) (.ref h.length)=some (decide (a=.num/\b=.num)):=by have e2:=aA [O.lst [Kd.num.ae,Kd.num.ae]] e;have r1:=Kd.rd (h++[O.lst [Kd.num.ae,Kd.num.ae]]) a 59 (by omega);have r2:=Kd.rd (h++[O.lst [Kd.num.ae,Kd.num.ae]]) b 59 (by omega);have r3:=Kd.rd (h++[O.lst [Kd.num.ae,Kd.num.ae]]) .num 59 (by decide);simp[bw,cw,e2,r1,r2,r3,Kd.bj]
theorem rS(t:T2)(ht:t=.sum\/t=.less)(ha:a.depth<=50)(hb:b.depth<=50)(e:h[q]?=some (.lst [a.ae,b.ae])):∃h',aB C bg [.str t.s,.ref q] h=.ok (oW (t.j a b)) h'/\ak h h':=by
 have t0:=HS ha hb e;have c1:∀w,ag C (.cmp .eq (.var 1) (.lst (.cons (.var 3) (.cons (.var 3) .nil)))) (sj w q a.ae none) h=.ok (.bl (decide (a=.num/\b=.num))) (h++[.lst [Kd.num.ae,Kd.num.ae]]):=fun w=>fq (ao rfl) (by kernel_rfl) t0;by_cases z:a=.num/\b=.num
 .refine⟨(h++[.lst [Kd.num.ae,Kd.num.ae]])++[.lst [Kd.num.ae,Kd.tru.ae]],?_,(ak.app _ _).trans (ak.app _ _)⟩;rcases ht with rfl|rfl
  .refine b9 e (ah (eqs rfl rfl) (ah (eqs rfl rfl) (ah (ins rfl rfl) (ah (eqs rfl rfl) (ah (eqs rfl rfl) (ah (eqs rfl rfl) (aZ (ins rfl rfl) (aq (bL (c1 _) (fun _=>?_) (fun y=>?_)))))))))) 
   .simp[T2.j,z,oW,Kd.ae]
   .simp[z] at y
  .refine b9 e (ah (eqs rfl rfl) (ah (eqs rfl rfl) (ah (ins rfl rfl) (ah (eqs rfl rfl) (ah (eqs rfl rfl) (ah (eqs rfl rfl) (aZ (ins rfl rfl) (aq (bL (c1 _) (fun _=>?_) (fun y=>?_))))))))))
   .simp[T2.j,z,oW,Kd.ae]
   .simp[z] at y
 .refine⟨h++[.lst [Kd.num.ae,Kd.num.ae]],?_,ak.app _ _⟩;rcases ht with rfl|rfl
  .refine b9 e (ah (eqs rfl rfl) (ah (eqs rfl rfl) (ah (ins rfl rfl) (ah (eqs rfl rfl) (ah (eqs rfl rfl) (ah (eqs rfl rfl) (aZ (ins rfl rfl) (aq (bL (c1 _) (fun y=>?_) (fun _=>?_))))))))))
   .simp[z] at y
   .simp[T2.j,z,oW]
  .refine b9 e (ah (eqs rfl rfl) (ah (eqs rfl rfl) (ah (ins rfl rfl) (ah (eqs rfl rfl) (ah (eqs rfl rfl) (ah (eqs rfl rfl) (aZ (ins rfl rfl) (aq (bL (c1 _) (fun y=>?_) (fun _=>?_))))))))))
   .simp[z] at y
   .simp[T2.j,z,oW]
end
section
variable {C:Or}{h h1 h2 h':Hp}{q k i:Nat}{a b c:Kd}{w s:S}{f v u:W}{r:List W}{σ:Env}{o p:Bool}{x y z:E}
theorem uP(e:ag C x σ h=.ok (.bl o) h1)(f:o=false->ag C y σ h1=.ok (.bl p) h2)(g:o=true->h2=h1):ag C (.or x y) σ h=.ok (.bl (o || p)) h2:=by
 rw[y7,e];cases o with
 |false=>exact f rfl
 |true=>rw[g rfl];rfl
theorem rK{α:Type}{g:α->W}{K:W->List W->Hp->R (List W)}{l:List α}{P:α->Bool}(e:dO h q=some (l.map g))(hK:∀x∈l,∀acc,K (g x) acc h=.ok (if P x then acc++[g x] else acc) h):∀(n i:Nat)(acc:List W),i+n=l.length->bY q K n i acc h=.ok (acc++((l.drop i).filter P).map g) h
 |0,i,acc,hn=>by
  unfold bY;rw[e];have:(l.map g)[i]?=none:=nh (by simp;omega);simp only[this];rw[List.drop_of_length_le (by omega)];simp
 |n+1,i,acc,hn=>by
  unfold bY;have hx:(l.map g)[i]?=some (g l[i]):=by rw[jS,gJ (by omega)];rfl
  simp only[e,hx,hK _ (uF _),R.af];rw[rK e hK n (i+1) _ (by omega),AX (by omega:i<l.length)];rw[qy];split<;>simp
theorem Af{α:Type}{g:α->W}{elt co:E}{l:List α}{P:α->Bool}{j:Nat}(es:σ[j]?=some (some (.ref q)))(e:h[q]?=some (.lst (l.map g)))(hl:l.length<=SZ)(hc:∀x∈l,ag C co (σ++[some (g x)]) h=.ok (.bl (P x)) h)(he:∀x∈l,ag C elt (σ++[some (g x)]) h=.ok (g x) h):
  ag C (.comp elt (.seq (.var j)) (.some co)) σ h=.ok (.ref h.length) (h++[.lst ((l.filter P).map g)]):=by
 rw[iw];have e1:dJ C (.seq (.var j)) σ h=.ok (.at q l.length) h:=by simp[es,e]
 rw[e1,R.af];show (bY q _ l.length 0 [] h).bind eL=_;rw[rK (g:=g) (P:=P) (l:=l) (by simp[dO,e]) (fun x hx acc=>?_) l.length 0 [] (by omega)]
 .simp only[List.drop_zero,kJ,R.af,eL];rw[if_pos (by rw[fQ];exact bW (List.length_filter_le _ _) hl)];rfl
 .unfold iG;rw[gM,hc x hx];simp only[R.af,R.dY,iS,truth];cases P x with
  |true=>simp only[he x hx,R.dY,R.af,gQ]
  |false=>simp
def bV(a:Kd):Bool:=(likeOf a).isNone
theorem vx(hk:∀y:Kd,C aK [y.ae] h=.ok (aF y).ae h){w:S}{f:W}(a:Kd)(ha:a.depth<=48):ag C fB (sj w q f none++[some a.ae]) h=.ok (.bl (bV a)) h:=by
 have one:ag C (.cmp .ne (.idx (.var 5) (.cst (.int 0))) (.cst (.str dH))) (sj w q f none++[some a.ae]) h=.ok (.bl (!decide (kw a=dH))) h:=by obtain⟨r,er⟩:=qi a;rw[er];exact jh (u:=.str (kw a)) (h1:=h) (by simp) (h2:=h) (v:=.str dH) (by kernel_rfl) (by simp)
 cases a with
 |work x y=>
  have t:=Kd.bw h (.work x y) (aF x) (by omega) (by rw[dA];simp[Kd.depth] at ha;omega);have q2:ag C (.call aK (.cons (.idx (.var 5) (.cst (.int 1))) .nil)) (sj w q f none++[some (Kd.work x y).ae]) h=.ok (aF x).ae h:=by rw[bf];simp[Kd.ae];exact hk x
  have z:=uP (C:=C) (p:=!decide (Kd.work x y=aF x)) (h2:=h) one (fun _=>jh (u:=(Kd.work x y).ae) (h1:=h) (ao (i:=5) rfl) q2 t) fun _=>rfl;rw[fB,z];simp[bV,likeOf,aF,kw];by_cases g:y=x.work .tru<;>simp[g]
 |_=>exact uP (p:=true) one (fun z=>nomatch z) fun _=>rfl
theorem rH(l:List Kd)(hl:∀k∈l,k.depth<=48)(hk:∀y:Kd,C aK [y.ae] h=.ok (aF y).ae h){w:S}{f:W}(e:h[q]?=some (.lst (l.map Kd.ae)))(hn:l.length<=3):
  ag C (.cmp .ne (.comp i5 (.seq (.var 1)) (.some fB)) (.lst .nil)) (sj w q f none) h=.ok (.bl (!((l.filter bV).map Kd.ae).isEmpty)) ((h++[.lst ((l.filter bV).map Kd.ae)])++[.lst []]):=by
 have e1:=Af (C:=C) (σ:=sj w q f none) (j:=1) (elt:=i5) (co:=fB) (P:=bV) rfl e (by simp[SZ];omega) (fun x hx=>vx hk x (hl x hx)) (fun x hx=>ao (i:=5) rfl);refine jh e1 (v:=.ref (h++[O.lst ((l.filter bV).map Kd.ae)]).length) (h2:=(h++[O.lst ((l.filter bV).map Kd.ae)])++[O.lst []]) rfl (nV (a9 _ _) (map_pure _) ?_);have:=pk 48 (l.filter bV) fun k hk=>hl k (lC.mp hk).1;omega
theorem BF(hk:∀(h:Hp)(y:Kd),C aK [y.ae] h=.ok (aF y).ae h)(x:Kd)(h:Hp):ag C (.call aK (.cons (.tup (.cons (.cst (.str o8)) (.cons (.idx (.var 2) (.cst (.int 1))) .nil))) .nil)) (sj w q (aF x).ae none) h=.ok (aF (.row x)).ae h:=by
 have t:=hk h (.row x);have e:bS C (.cons (.tup (.cons (.cst (.str o8)) (.cons (.idx (.var 2) (.cst (.int 1))) .nil))) .nil) (sj w q (aF x).ae none) h=.ok [(Kd.row x).ae] h:=by simp[aF,Kd.ae]
 rw[bf,e];exact t
theorem Am(hk:∀(h:Hp)(y:Kd),C aK [y.ae] h=.ok (aF y).ae h)(x y:Kd)(h:Hp)(e2:h[q]?=some (.lst [(aF x).ae,(aF y).ae])):ag C (.call aK (.cons (.tup (.cons (.cst (.str gz)) (.cons (.idx (.var 2) (.cst (.int 1))) (.cons (.idx (.idx (.var 1) (.cst (.int 1))) (.cst (.int 1))) .nil)))) .nil)) (sj w q (aF x).ae none) h=.ok (aF (.pair x y)).ae h:=by
 have t:=hk h (.pair x y);simp only[aF,Kd.ae] at e2;have e:bS C (.cons (.tup (.cons (.cst (.str gz)) (.cons (.idx (.var 2) (.cst (.int 1))) (.cons (.idx (.idx (.var 1) (.cst (.int 1))) (.cst (.int 1))) .nil)))) .nil) (sj w q (aF x).ae none) h=.ok [(Kd.pair x y).ae] h:=by simp[aF,Kd.ae,e2]
 rw[bf,e];exact t
theorem vE(ha:a.depth<=48)(hk:∀(h:Hp)(y:Kd),C aK [y.ae] h=.ok (aF y).ae h)(e:h[q]?=some (.lst [a.ae])):∃h',aB C bg [.str T1.lrow.s,.ref q] h=.ok (oW (T1.lrow.j a)) h'/\ak h h':=by
 have c:=rH (C:=C) (w:=T1.lrow.s) (f:=a.ae) [a] (by simpa using ha) (hk h) e (by simp);refine⟨(h++[O.lst (([a].filter bV).map Kd.ae)])++[O.lst []],?_,(ak.app _ _).trans (ak.app _ _)⟩;cases g:likeOf a with
 |none=>
  have n:bV a=true:=by simp[bV,g]
  simp only[qy,n,gQ,List.filter_nil,bx,eh,List.isEmpty_cons,Bool.not_false] at c⊢;refine b9 e (ah (eqs rfl rfl) (ah (eqs rfl rfl) (ah (ins rfl rfl) (ah (eqs rfl rfl) (ah (eqs rfl rfl) (ah (eqs rfl rfl) (ah (ins rfl rfl) (aZ c (aq ?_)))))))));simp[T1.j,g,oW]
 |some x=>
  have n:bV a=false:=by simp[bV,g]
  simp only[qy,n,Fx,if_false,List.filter_nil,eh,Az,Bool.not_true] at c⊢;refine b9 e (ah (eqs rfl rfl) (ah (eqs rfl rfl) (ah (ins rfl rfl) (ah (eqs rfl rfl) (ah (eqs rfl rfl) (ah (eqs rfl rfl) (ah (ins rfl rfl) (ah c (aZ (eqs rfl rfl) (aq ?_))))))))));have ea:=fF g;subst ea;rw[show T1.lrow.j (aF x)=some (aF (.row x)) by simp[T1.j,g]];exact BF hk x _
theorem tm(ha:a.depth<=48)(hb:b.depth<=48)(hk:∀(h:Hp)(y:Kd),C aK [y.ae] h=.ok (aF y).ae h)(e:h[q]?=some (.lst [a.ae,b.ae])):∃h',aB C bg [.str T2.lpair.s,.ref q] h=.ok (oW (T2.lpair.j a b)) h'/\ak h h':=by
 have c:=rH (C:=C) (w:=T2.lpair.s) (f:=a.ae) [a,b] (by simp[ha,hb]) (hk h) e (by simp);have e2:=aA [O.lst []] (aA [O.lst (([a,b].filter bV).map Kd.ae)] e);refine⟨(h++[O.lst (([a,b].filter bV).map Kd.ae)])++[O.lst []],?_,(ak.app _ _).trans (ak.app _ _)⟩;have bad:(likeOf a=none\/likeOf b=none)->aB C bg [.str T2.lpair.s,.ref q] h=.ok (oW (T2.lpair.j a b)) ((h++[.lst (([a,b].filter bV).map Kd.ae)])++[.lst []]):=fun g=>by
  have n:(!((([a,b].filter bV).map Kd.ae).isEmpty))=true:=by
   rcases g with g|g
   .simp[bV,g]
   .by_cases z:(likeOf a).isNone=true<;>simp[bV,g,z,qy]
  rw[n] at c;refine b9 e (ah (eqs rfl rfl) (ah (eqs rfl rfl) (ah (ins rfl rfl) (ah (eqs rfl rfl) (ah (eqs rfl rfl) (ah (eqs rfl rfl) (ah (ins rfl rfl) (aZ c (aq ?_)))))))));have:T2.lpair.j a b=none:=by
   rcases g with g|g
   .simp[T2.j,g]
   .cases y:likeOf a<;>simp[T2.j,g,y]
  rw[this];rfl
 cases ga:likeOf a with
 |none=>exact bad (.inl ga)
 |some x=>
  cases gb:likeOf b with
  |none=>exact bad (.inr gb)
  |some y=>
   have n:([a,b].filter bV)=[]:=by simp[bV,ga,gb]
   rw[n] at c e2⊢;simp only[eh,Az,Bool.not_true] at c;refine b9 e (ah (eqs rfl rfl) (ah (eqs rfl rfl) (ah (ins rfl rfl) (ah (eqs rfl rfl) (ah (eqs rfl rfl) (ah (eqs rfl rfl) (ah (ins rfl rfl) (ah c (ah (eqs rfl rfl) (aq ?_))))))))));have ea:=fF ga;have eb:=fF gb;subst ea eb;rw[show T2.lpair.j (aF x) (aF y)=some (aF (.pair x y)) by simp[T2.j,ga,gb]];exact Am hk x y _ e2
end
section
variable {C:Or}{h h1 h2 h':Hp}{q k i b d:Nat}{w s:S}{f v u:W}{r:List W}{σ:Env}{o p:Bool}{x y z:E}{bd:List Kd}
noncomputable abbrev sg(c:W)(b d:Nat)(w:S)(g5 g6:Option W):Env:=[some c,some (.ref b),some (.ref d),some (.str w),none,g5,g6]
theorem eZ{r:List W}(k:av C (dR.body.drop 1) (sg (.tup (.str w::r)) b d w none none) h=.ok (.ret v) h'):aB C dR [.tup (.str w::r),.ref b,.ref d] h=.ok v h':=
 bR [some (.tup (.str w::r)),some (.ref b),some (.ref d),none,none,none,none] rfl rfl (aW (w:=.str w) (by simp) k)
theorem vM(k:Kd)(h:Hp)(hk:k.depth<=50):isIn k.ae (.tup [Kd.num.ae,Kd.tru.ae]) h=some (decide (k=.num\/k=.tru)):=by have r:=Kd.rd h k 60 (by omega);have r1:=Kd.rd h .num 60 (by decide);have r2:=Kd.rd h .tru 60 (by decide);have e1:=Kd.bj .num k;have e2:=Kd.bj .tru k;simp only[isIn,uT,r,dX,r1,r2,uW,List.any_nil,e1,e2,Bool.or_false];cases k<;>simp
theorem qM(hi:0<=i'/\i'<(bd.length:Int)):∃x,bd[bd.length-1-i'.toNat]?=some x/\dC (bd.map Kd.ae) ((bd.length:Int)-1-i')=some x.ae:=by
 have h0:bd.length-1-i'.toNat<bd.length:=by omega
 refine⟨bd[bd.length-1-i'.toNat],gJ h0,?_⟩;have t:=f6 (bd.map Kd.ae) (bd.length-1-i'.toNat) (by simpa using h0);rw[show (((bd.length-1-i'.toNat:Nat)):Int)=(bd.length:Int)-1-i' by omega] at t;rw[t];simp
theorem Bi(hk:∀(h:Hp)(y:Kd),C aK [y.ae] h=.ok (aF y).ae h)(l:Lf)(kd:l.kd 8)(e:h[b]?=some (.lst (bd.map Kd.ae)))(e2:h[d]?=some (.lst [])):aB C dR [l.ae,.ref b,.ref d] h=.ok (oW (l.jd bd)) h:=by
 cases l with
 |num i=>exact eZ (aZ (m8 rfl rfl) (aq (bL (eqs rfl rfl) (fun _=>by kernel_rfl) (fun z=>nomatch z))))
 |yes=>exact eZ (aZ (m8 rfl rfl) (aq (bL (eqs rfl rfl) (fun z=>nomatch z) (fun _=>by kernel_rfl))))
 |no=>exact eZ (aZ (m8 rfl rfl) (aq (bL (eqs rfl rfl) (fun z=>nomatch z) (fun _=>by kernel_rfl))))
 |var i=>
  refine eZ (ah (m8 rfl rfl) (aZ (eqs rfl rfl) (aq ?_)));by_cases z:0<=i/\i<(bd.length:Int)
  .obtain⟨x,t1,t2⟩:=qM z;simp[e,z.1,z.2,t2,Lf.jd,t1,oW]
  .by_cases z1:0<=i
   .have z2:¬ i<(bd.length:Int):=fun y=>z ⟨z1,y⟩;simp[e,z1,z2,Lf.jd,oW]
   .simp[e,z1,Lf.jd,oW]
 |dfn n ks=>
  refine eZ (ah (m8 rfl rfl) (ah (eqs rfl rfl) (aZ (eqs rfl rfl) (aW (w:=.bl false) (h':=h) ?_ (aq (bL (o:=false) (ao rfl) (fun z=>nomatch z) (fun _=>rfl)))))));refine fh (o:=false) (p:=true) ?_ (fun z=>nomatch z) fun _=>rfl;by_cases z1:0<=n
  .have z2:¬ n<0:=by omega
   simp[e2,z1,z2]
  .simp[e2,z1]
 |aw k=>
  refine eZ (ah (m8 rfl rfl) (ah (eqs rfl rfl) (ah (eqs rfl rfl) (aZ (eqs rfl rfl) (aq (by kernel_rfl))))))
 |dE k=>
  have t:=vM k h (by simp[Lf.kd] at kd;omega);have c:ag C (.cmp .isin (.idx (.var 0) (.cst (.int 1))) (.tup (.cons (.tup (.cons (.cst (.str bM)) .nil)) (.cons (.tup (.cons (.cst (.str gq)) .nil)) .nil)))) (sg (Lf.dE k).ae b d lX none none) h=.ok (.bl (decide (k=.num\/k=.tru))) h:=by simp only[Kd.ae] at t;simp[Lf.ae,t]
  refine eZ (ah (m8 rfl rfl) (ah (eqs rfl rfl) (ah (eqs rfl rfl) (ah (eqs rfl rfl) (aZ (eqs rfl rfl) (aq (bL c (fun z=>?_) (fun z=>?_))))))))
  .rw[show (Lf.dE k).jd bd=some (aF k) from if_pos (by simpa using z)];have:=hk h k;rw[bf];simp[this,oW]
  .rw[show (Lf.dE k).jd bd=none from if_neg (by simpa using z)];rfl
end
section
variable {C:Or}{h h1 h2 h':Hp}{q k i b d:Nat}{w s:S}{f v u:W}{r:List W}{σ:Env}{o p:Bool}{x y z:E}{bd:List Kd}{ka kb kc:Kd}
abbrev yo(C:Or):Prop:=∀(h:Hp)(y:Kd),C aK [y.ae] h=.ok (aF y).ae h
theorem B4(t:T1)(ha:ka.depth<=48)(hk:yo C)(e:h[q]?=some (.lst [ka.ae])):∃h',aB C bg [.str t.s,.ref q] h=.ok (oW (t.j ka)) h'/\ak h h':=by
 cases t with
 |left=>exact⟨h,vz e,ak.refl h⟩
 |right=>exact⟨h,uJ e,ak.refl h⟩
 |lrow=>exact vE ha hk e
theorem Cn(t:T2)(ha:ka.depth<=48)(hb:kb.depth<=48)(hk:yo C)(e:h[q]?=some (.lst [ka.ae,kb.ae])):∃h',aB C bg [.str t.s,.ref q] h=.ok (oW (t.j ka kb)) h'/\ak h h':=by
 cases t with
 |call=>exact⟨h,vB (by omega) (by omega) e,ak.refl h⟩
 |both=>exact⟨h,vp e,ak.refl h⟩
 |more=>exact⟨h,vy (by omega) (by omega) e,ak.refl h⟩
 |sum=>exact rS .sum (.inl rfl) (by omega) (by omega) e
 |less=>exact rS .less (.inr rfl) (by omega) (by omega) e
 |lpair=>exact tm ha hb hk e
theorem Cd(t:T3)(ha:ka.depth<=48)(hb:kb.depth<=48)(hc:kc.depth<=48)(e:h[q]?=some (.lst [ka.ae,kb.ae,kc.ae])):∃h',aB C bg [.str t.s,.ref q] h=.ok (oW (t.j ka kb kc)) h'/\ak h h':=by
 cases t with
 |fold=>exact⟨h,vv (by omega) (by omega) (by omega) e,ak.refl h⟩
 |ife=>exact⟨h,zp (by omega) (by omega) (by omega) e,ak.refl h⟩
theorem JP(h:Hp)(x:Option Kd)(hx:∀k,x=some k->k.depth<=50):rd h 60 (oW x)=some (oW x):=by
 cases x with
 |none=>simp[oW]
 |some k=>exact Kd.rd h k 60 (by have:=hx k rfl;omega)
theorem zS(h:Hp):∀l:List (Option Kd),(∀k,some k∈l->k.depth<=50)->dX h 60 (l.map oW)=some (l.map oW)
 |[],_=>by simp
 |x::l,hl=>by
  have a:=JP h x (fun k e=>hl k (by simp[e]));have b:=zS h l (fun k e=>hl k (by simp[e]));simp[dX,a,b]
theorem GW(x:Option Kd):bj (oW x) .aw=x.isNone:=by
 cases x with
 |none=>simp[oW]
 |some k=>obtain⟨r,er⟩:=qi k;simp[oW,er]
theorem BP{l:List (Option Kd)}(e:h[q]?=some (.lst (l.map oW)))(hl:∀k,some k∈l->k.depth<=50):isIn .aw (.ref q) h=some (l.any Option.isNone):=by
 have a:=zS h l hl;have g:((l.map oW).any fun z=>bj z .aw)=l.any Option.isNone:=by rw[List.any_map];congr 1;funext x;exact GW x
 simp only[isIn,uT,items,e,rd,a,g]
theorem vZ{α:Type}{elt:E}{g:α->W}{f:α->W}:∀(l:List α)(acc:List W)(h:Hp),(∀x∈l,∀h1,ak h h1->∃h2,ag C elt (σ++[some (g x)]) h1=.ok (f x) h2/\ak h1 h2)->∃h',fo (iG (gp C .none) (ag C elt) σ) (l.map g) acc h=.ok (acc++l.map f) h'/\ak h h'
 |[],acc,h,_=>⟨h,by simp,ak.refl h⟩
 |x::l,acc,h,hl=>by
  obtain⟨h2,e2,g2⟩:=hl x (by simp) h (ak.refl h);obtain⟨h3,e3,g3⟩:=vZ l (acc++[f x]) h2 (fun y hy h1 hh=>hl y (by simp[hy]) h1 (g2.trans hh));refine⟨h3,?_,g2.trans g3⟩;have:iG (gp C .none) (ag C elt) σ (g x) acc h=.ok (acc++[f x]) h2:=by unfold iG;rw[fT];simp only[R.dY,R.af,iS,e2]
  simp only[bx,fo,this,R.af,e3,rh,xG,kJ]
theorem D0{α:Type}{elt:E}{it:It}{g:α->W}{f:α->W}{l:List α}(ei:dJ C it σ h=.ok (.fix (l.map g)) h)(hn:l.length<=SZ)(hl:∀x∈l,∀h1,ak h h1->∃h2,ag C elt (σ++[some (g x)]) h1=.ok (f x) h2/\ak h1 h2):∃h',ag C (.comp elt it .none) σ h=.ok (.ref h'.length) (h'++[.lst (l.map f)])/\ak h h':=by obtain⟨h',e,g1⟩:=vZ (σ:=σ) (elt:=elt) (g:=g) (f:=f) (C:=C) l [] h hl;refine⟨h',?_,g1⟩;rw[iw,ei,R.af];show (fo _ _ _ _).bind eL=_;rw[e];simp only[kJ,R.af,eL];rw[if_pos (by rw[fQ];exact hn)];rfl
end
section
variable {C:Or}{h h1 h2 h':Hp}{q k i b d:Nat}{w s:S}{f v u:W}{r:List W}{σ:Env}{o p:Bool}{x y z:E}{bd:List Kd}{ka kb kc:Kd}
def uD(w:S):Prop:=w∉ [bM,iz,kU]/\w≠oS/\w≠jK/\w≠oz/\w≠lX/\w≠iZ
theorem all_some:∀l:List (Option Kd),l.any Option.isNone=false->∃ks:List Kd,l=ks.map some
 |[],_=>⟨[],rfl⟩
 |none::l,h=>by simp at h
 |some k::l,h=>by
  simp only[uW,Option.isNone_some,Bool.false_or] at h;obtain⟨ks,rfl⟩:=all_some l h;exact⟨k::ks,rfl⟩
theorem vY{l:List W}{a:W}(e:σ[0]?=some (some (.tup (a::l)))):dJ C (.seq (.sl (.var 0) (.some (.cst (.int 1))) .none)) σ h=.ok (.fix l) h:=by
 have h1:bc (l.length+1) 0 (some 1)=1:=by simp[bc]
 have h2:bc (l.length+1) (l.length+1) none=l.length+1:=rfl;have h3:cut (a::l) (some 1) none=l:=by simp[cut,h1,h2]
 simp[e,h1,h2,h3]
theorem DT(hw:w∉ [bM,iz,kU])(c:W)(g:List (Option W)):ag C (.cmp .isin (.var 3) (.tup (.cons (.cst (.str bM)) (.cons (.cst (.str iz)) (.cons (.cst (.str kU)) .nil))))) (some c::some (.ref b)::some (.ref d)::some (.str w)::g) h=.ok (.bl false) h:=by have t:=gE w [bM,iz,kU] h;simp only[bx,eh,hw,decide_false] at t;simp[t]
theorem pv(hw:uD w)(l:List Co)(g:Co->Option Kd)(hn:l.length<=3)(hl:∀x∈l,∀h1,ak h h1->∃h2,C cZ [x.ae,.ref b,.ref d] h1=.ok (oW (g x)) h2/\ak h1 h2)
  (hd:∀x∈l,∀k,g x=some k->k.depth<=48) (jr:Option Kd) (hj:∀ks:List Kd,l.map g=ks.map some->∀h1 q,h1[q]?=some (.lst (ks.map Kd.ae))->∃h2,C lZ [.str w,.ref q] h1=.ok (oW jr) h2/\ak h1 h2) (hno:(l.map g).any Option.isNone=true->jr=none):
  ∃h',aB C dR [.tup (.str w::l.map Co.ae),.ref b,.ref d] h=.ok (oW jr) h'/\ak h h':=by
 obtain⟨h0,e0,g0⟩:=D0 (C:=C) (h:=h) (σ:=sg (.tup (.str w::l.map Co.ae)) b d w none none) (elt:=jL) (it:=.seq (.sl (.var 0) (.some (.cst (.int 1))) .none)) (g:=Co.ae) (f:=fun x=>oW (g x)) (l:=l) (vY rfl) (by simp[SZ];omega) (fun x hx h1 gh=>by
  obtain⟨h2,e2,g2⟩:=hl x hx h1 gh;refine⟨h2,?_,g2⟩;rw[jL,bf];simpa using e2)
 have el:(h0++[O.lst (l.map fun x=>oW (g x))])[h0.length]?=some (.lst ((l.map g).map oW)):=by simp
 have hq:∀k,some k∈l.map g->k.depth<=50:=fun k hk=>by
  obtain⟨x,hx,e⟩:=gC.mp hk;have:=hd x hx k e;omega
 have ein:=BP el hq;have gg:=g0.trans (ak.app h0 [O.lst (l.map fun x=>oW (g x))]);have c:∀h',av C (dR.body.drop 8) ((sg (.tup (.str w::l.map Co.ae)) b d w none none).set 6 (some (.ref h0.length))) (h0++[O.lst (l.map fun x=>oW (g x))])=.ok (.ret (oW jr)) h'->aB C dR [.tup (.str w::l.map Co.ae),.ref b,.ref d] h=.ok (oW jr) h':=fun h' z=>
  eZ (ah (h':=h) (DT hw.1 _ _) (ah (eqs rfl (bA hw.2.1)) (ah (eqs rfl (bA hw.2.2.1)) (ah (eqs rfl (bA hw.2.2.2.1)) (ah (eqs rfl (bA hw.2.2.2.2.1)) (ah (eqs rfl (bA hw.2.2.2.2.2)) (aW e0 z)))))))
 have ein':ag C (.cmp .isin (.cst .aw) (.var 6)) ((sg (.tup (.str w::l.map Co.ae)) b d w none none).set 6 (some (.ref h0.length))) (h0++[O.lst (l.map fun x=>oW (g x))])=.ok (.bl ((l.map g).any Option.isNone)) (h0++[O.lst (l.map fun x=>oW (g x))]):=by simp only[kT,qz,R.af,List.set,wb];simp[ein]
 cases hb:(l.map g).any Option.isNone with
 |true=>
  rw[hb] at ein';refine⟨_,c _ (aZ ein' (aq (h':=h0++[O.lst (l.map fun x=>oW (g x))]) ?_)),gg⟩;rw[hno hb];rfl
 |false=>
  rw[hb] at ein';obtain⟨ks,ek⟩:=all_some _ hb;obtain⟨h2,e2,g2⟩:=hj ks ek (h0++[O.lst (l.map fun x=>oW (g x))]) h0.length (by rw[el,ek];simp[oW,Function.comp_def])
  refine⟨h2,c _ (ah ein' (aq ?_)),gg.trans g2⟩;rw[bf];simpa using e2
theorem FE{c:Co}{kk:Kd}{jr:Option Kd}(e:h[b]?=some (.lst (bd.map Kd.ae)))(hn:bd.length<SZ)(hc:∃h',C cZ [c.ae,.ref (h.length+1),.ref d] (h++[.lst [kk.ae]]++[.lst ((bd++[kk]).map Kd.ae)])=.ok (oW jr) h'/\ak (h++[.lst [kk.ae]]++[.lst ((bd++[kk]).map Kd.ae)]) h'):
  ∃h',aB C dR [.tup [.str iZ,kk.ae,c.ae],.ref b,.ref d] h=.ok (oW (jr.map (.work kk))) h'/\ak h h':=by
 obtain⟨h',e',g'⟩:=hc;refine⟨h',?_,((ak.app _ _).trans (ak.app _ _)).trans g'⟩;refine eZ (ah (m8 rfl rfl) (ah (eqs rfl rfl) (ah (eqs rfl rfl) (ah (eqs rfl rfl) (ah (eqs rfl rfl) (aZ (eqs rfl rfl) (aW (w:=oW jr) (h':=h') ?_ (aq ?_))))))))
 .rw[bf];have e2:=aA [O.lst [kk.ae]] e;simp only[List.map_append,bx,eh] at e';have:bd.length+1<=SZ:=hn;simp[SZ] at this;simp only[rh,xG,kJ] at e';simp[e2,e',this,SZ]
 .cases jr with
  |none=>exact bL (o:=false) (h1:=h') (by kernel_rfl) (fun z=>nomatch z) (fun _=>by kernel_rfl)
  |some k=> 
   obtain⟨r,er⟩:=qi k;refine bL (o:=true) (h1:=h') ?_ (fun _=>?_) (fun z=>nomatch z)
   .simp[oW,er]
   .simp[oW,Kd.ae]
end
theorem M1(t:T1):uD t.s:=by cases t<;>(unfold uD;decide)
theorem M5(t:T2):uD t.s:=by cases t<;>(unfold uD;decide)
theorem MW(t:T3):uD t.s:=by cases t<;>(unfold uD;decide)
theorem yG(k:Nat):yo (run T (k+1)):=fun h y=>nF (run T k) y h
theorem judge_ok:∀(c:Co)(bd:List Kd)(h:Hp)(b d k:Nat),c.depth+3<=k->h[b]?=some (.lst (bd.map Kd.ae))->h[d]?=some (.lst [])->(∀x∈bd,x.depth<=8)->c.kd 8->c.depth<=39->bd.length+c.depth<=1000->
  ∃h',run T k cZ [c.ae,.ref b,.ref d] h=.ok (oW (jd c bd)) h'/\ak h h'
 |.lf l,bd,h,b,d,k,hk,eb,ed,hb,hc,hd,hn=>by
  obtain⟨k,rfl⟩:∃j,k=j+2:=⟨k-2,by omega⟩;exact⟨h,Bi (yG k) l hc eb ed,ak.refl h⟩
 |.fn kk c,bd,h,b,d,k,hk,eb,ed,hb,hc,hd,hn=>by
  simp only[Co.depth] at hk hd hn;obtain⟨k,rfl⟩:∃j,k=j+1:=⟨k-1,by omega⟩;have:=judge_ok c (bd++[kk]) (h++[.lst [kk.ae]]++[.lst ((bd++[kk]).map Kd.ae)]) (h.length+1) d k (by omega) (by simp) (aA _ (aA _ ed)) (by
   intro x hx;rcases kK.mp hx with hx|hx
   .exact hb x hx
   .obtain rfl:=gH.mp hx;exact hc.1) hc.2 (by omega) (by simp;omega)
  exact FE eb (by simp[SZ];omega) this
 |.n1 t a,bd,h,b,d,k,hk,eb,ed,hb,hc,hd,hn=>by
  simp only[Co.depth] at hk hd hn;obtain⟨k,rfl⟩:∃j,k=j+1:=⟨k-1,by omega⟩;have ha:=fun h1 (g:ak h h1)=>judge_ok a bd h1 b d k (by omega) (g.keep _ _ eb) (g.keep _ _ ed) hb hc (by omega) (by omega);have da:=fun x e=>cL (D:=8) a bd x hb hc e;refine pv (C:=run T k) (M1 t) [a] (fun x=>jd x bd) (by simp) (by simpa using ha) (by intro x hx y e;obtain rfl:=gH.mp hx;have:=da y e;omega) ((jd a bd).bind t.j) ?_ ?_
  .intro ks e h1 q eq;simp only[bx,eh] at e
   match ks,e with
   |_::_::_,e=>simp at e
   |[x],e=>
    simp only[bx,eh,tP,and_true] at e;obtain⟨k,rfl⟩:∃j,k=j+2:=⟨k-2,by omega⟩;have:=B4 (C:=run T (k+1)) t (by have:=da x e;omega) (yG k) eq;rw[e,gf];exact this
  .intro z;cases e:jd a bd with
   |none=>rfl
   |some x=>simp[e] at z
 |.n2 t a a2,bd,h,b,d,k,hk,eb,ed,hb,hc,hd,hn=>by
  simp only[Co.depth] at hk hd hn;obtain⟨k,rfl⟩:∃j,k=j+1:=⟨k-1,by omega⟩;have ha:=fun h1 (g:ak h h1)=>judge_ok a bd h1 b d k (by omega) (g.keep _ _ eb) (g.keep _ _ ed) hb hc.1 (by omega) (by omega);have ha2:=fun h1 (g:ak h h1)=>judge_ok a2 bd h1 b d k (by omega) (g.keep _ _ eb) (g.keep _ _ ed) hb hc.2 (by omega) (by omega);have da:=fun x e=>cL (D:=8) a bd x hb hc.1 e;have da2:=fun x e=>cL (D:=8) a2 bd x hb hc.2 e;refine pv (C:=run T k) (M5 t) [a,a2] (fun x=>jd x bd) (by simp) (by
   intro x hx;simp only[cY,rm,or_false] at hx;rcases hx with rfl|rfl
   .exact ha
   .exact ha2) (by
   intro x hx y e;simp only[cY,rm,or_false] at hx;rcases hx with rfl|rfl
   .have:=da y e;omega
   .have:=da2 y e;omega) ((jd a bd).bind fun x=>(jd a2 bd).bind fun y=>t.j x y) ?_ ?_
  .intro ks e h1 q eq;simp only[bx,eh] at e
   match ks,e with
   |[_],e=>simp at e
   |_::_::_::_,e=>simp at e
   |[x,y],e=>
    simp only[bx,eh,tP,and_true] at e;obtain⟨k,rfl⟩:∃j,k=j+2:=⟨k-2,by omega⟩;have:=Cn (C:=run T (k+1)) t (by have:=da x e.1;omega) (by have:=da2 y e.2;omega) (yG k) eq;rw[e.1,e.2,gf,gf];exact this
  .intro z;cases e:jd a bd with
   |none=>rfl
   |some x=>
    cases e2:jd a2 bd with
    |none=>rfl
    |some y=>simp[e,e2] at z
 |.n3 t a a2 a3,bd,h,b,d,k,hk,eb,ed,hb,hc,hd,hn=>by
  simp only[Co.depth] at hk hd hn;obtain⟨k,rfl⟩:∃j,k=j+1:=⟨k-1,by omega⟩;have ha:=fun h1 (g:ak h h1)=>judge_ok a bd h1 b d k (by omega) (g.keep _ _ eb) (g.keep _ _ ed) hb hc.1 (by omega) (by omega);have ha2:=fun h1 (g:ak h h1)=>judge_ok a2 bd h1 b d k (by omega) (g.keep _ _ eb) (g.keep _ _ ed) hb hc.2.1 (by omega) (by omega);have ha3:=fun h1 (g:ak h h1)=>judge_ok a3 bd h1 b d k (by omega) (g.keep _ _ eb) (g.keep _ _ ed) hb hc.2.2 (by omega) (by omega);have da:=fun x e=>cL (D:=8) a bd x hb hc.1 e;have da2:=fun x e=>cL (D:=8) a2 bd x hb hc.2.1 e;have da3:=fun x e=>cL (D:=8) a3 bd x hb hc.2.2 e;refine pv (C:=run T k) (MW t) [a,a2,a3] (fun x=>jd x bd) (by simp) (by
   intro x hx;simp only[cY,rm,or_false] at hx;rcases hx with rfl|rfl|rfl
   .exact ha
   .exact ha2
   .exact ha3) (by
   intro x hx y e;simp only[cY,rm,or_false] at hx;rcases hx with rfl|rfl|rfl
   .have:=da y e;omega
   .have:=da2 y e;omega
   .have:=da3 y e;omega) ((jd a bd).bind fun x=>(jd a2 bd).bind fun y=>(jd a3 bd).bind fun z=>t.j x y z) ?_ ?_
  .intro ks e h1 q eq;simp only[bx,eh] at e
   match ks,e with
   |[_],e=>simp at e
   |[_,_],e=>simp at e
   |_::_::_::_::_,e=>simp at e
   |[x,y,z],e=>
    simp only[bx,eh,tP,and_true] at e;obtain⟨k,rfl⟩:∃j,k=j+2:=⟨k-2,by omega⟩;have:=Cd (C:=run T (k+1)) t (by have:=da x e.1;omega) (by have:=da2 y e.2.1;omega) (by have:=da3 z e.2.2;omega) eq;rw[e.1,e.2.1,e.2.2,gf,gf,gf];exact this
  .intro z;cases e:jd a bd with
   |none=>rfl
   |some x=>
    cases e2:jd a2 bd with
    |none=>rfl
    |some y=>
     cases e3:jd a3 bd with
     |none=>rfl
     |some y=>simp[e,e2,e3] at z
abbrev mz:S:=[83,116,114,97,121]
abbrev qo(h:Hp):Hp:=h++[.aI mz []]
def out(x:Option Kd)(h:Hp):R W:=match x with
 |some k=>.ok k.ae h
 |none=>.aI h.length (qo h)
def jQ(x:Option Kd)(h:Hp):R Fl:=match x with
 |some k=>.ok (.ret k.ae) h
 |none=>.aI h.length (qo h)
noncomputable def lY(o:Bool)(h:Hp):R W:=if o then .ok .aw h else .aI h.length (qo h)
section
variable {C:Or}{h h1 h2 h':Hp}{q k i b d:Nat}{w s:S}{f v u:W}{r a2 b2:List St}{σ:Env}{o p:Bool}{c:E}{es:Es}{x:Option Kd}{ka kb kc:Kd}
theorem cj(e:ag C c σ h=.ok (.bl true) h)(k:av C a2 σ h=jQ x h):av C (.iff c a2 b2::r) σ h=jQ x h:=by rw[aN,eR,e];simp only[R.af,truth,k];cases x<;>rfl
theorem fE(e:ag C c σ h=out x h):av C (.ret c::r) σ h=jQ x h:=by rw[aN,vH,e];cases x<;>rfl
theorem ck(e:ag C c σ h=.ok ka.ae h):av C (.ret c::r) σ h=jQ (some ka) h:=fE (x:=some ka) e
theorem eY(e:ag C c σ h=lY o h)(k:o=true->av C r σ h=jQ x h)(k2:o=false->x=none):av C (.expr c::r) σ h=jQ x h:=by
 rw[aN,oZ,e];cases o with
 |true=>exact k rfl
 |false=>rw[k2 rfl];rfl
theorem oE{f:Fn}{xs:List W}(σ:Env)(l:xs.length=f.ps)(eσ:xs.map some++List.replicate (f.ns-f.ps) none=σ)(e:av C f.body σ h=jQ x h):aB C f xs h=out x h:=by unfold aB;rw[if_pos l,eσ,e];cases x<;>rfl
theorem aH{ws:List W}{z:R W}{g:Nat}(e:bS C es σ h=.ok ws h)(k:C g ws h=z):ag C (.call g es) σ h=z:=by rw[bf,e];exact k
theorem dF{x y:E}(e:ag C x σ h=.ok u h)(e2:ag C y σ h=.ok v h):bS C (.cons x (.cons y .nil)) σ h=.ok [u,v] h:=by simp[e,e2]
theorem gG{x:E}(e:ag C x σ h=.ok u h):bS C (.cons x .nil) σ h=.ok [u] h:=by simp[e]
theorem bu:ag C (.cst v) σ h=.ok v h:=rfl
theorem EZ(e:bw h u v=some o):aB C qp [u,v] h=lY o h:=by have c:=jh (C:=C) (σ:=[some u,some v]) (x:=.var 0) (y:=.var 1) (h1:=h) (h2:=h) (ao rfl) (ao rfl) e;unfold aB;simp only[qp,dw,ll,Nat.reduceAdd,gQ,bx,eh,Nat.sub_self,List.replicate_zero,gI];rw[aN,eR,c];cases o<;>simp[lY,iE,mD]
theorem DH(a:Kd):aB C iP [a.ae,.str s] h=lY (decide (kw a=s)) h:=by obtain⟨r,er⟩:=qi a;have c:=jh (C:=C) (σ:=[some a.ae,some (.str s)]) (x:=.idx (.var 0) (.cst (.int 0))) (y:=.var 1) (h:=h) (h1:=h) (h2:=h) (u:=.str (kw a)) (v:=.str s) (o:=decide (kw a=s)) (by simp[er]) (ao rfl) (by simp);unfold aB;simp only[iP,dw,ll,Nat.reduceAdd,gQ,bx,eh,Nat.sub_self,List.replicate_zero,gI];rw[aN,eR,c];by_cases z:kw a=s<;>simp[lY,iE,mD,z]
structure nL(C:Or):Prop where
 want:∀(h:Hp)(u v:W)(o:Bool),bw h u v=some o->C gx [u,v] h=lY o h
 word:∀(h:Hp)(a:Kd)(s:S),C fI [a.ae,.str s] h=lY (decide (kw a=s)) h
 dE:∀(h:Hp)(a:Kd),C cG [a.ae] h=.ok (aF a).ae h
theorem wants(k:Nat):nL (run T (k+1)):=
 ⟨fun h u v o e=>EZ (C:=run T k) e,fun h a s=>DH (C:=run T k) a,fun h a=>bR (C:=run T k) (f:=gS) [some a.ae] rfl rfl (aq (by kernel_rfl))⟩
theorem A8(W:nL C)(a:Kd)(ha:a.depth<=48):aB C qL [a.ae] h=out (likeOf a) h:=by
 refine oE [some a.ae] rfl rfl (eY (aH (dF (ao rfl) bu) (W.word h a dH)) (fun t=>?_) (fun t=>?_))
 .cases a with
  |work x y=>
   have t:=Kd.bw h (.work x y) (aF x) (by omega) (by rw[dA];simp[Kd.depth] at ha;omega);have q2:ag C (.call cG (.cons (.idx (.var 0) (.cst (.int 1))) .nil)) [some (Kd.work x y).ae] h=.ok (aF x).ae h:=aH (gG (by simp[Kd.ae])) (W.dE h x);refine eY (aH (dF (ao rfl) q2) (W.want h _ _ _ t)) (fun z=>?_) (fun z=>?_)
   .have z:y=.work x .tru:=by simpa [aF] using z
    rw[show likeOf (.work x y)=some x from if_pos z];exact ck (by simp[Kd.ae])
   .have z:¬ y=.work x .tru:=by simpa [aF] using z
    exact if_neg z
  |_=>simp[kw] at t
 .cases a<;>simp[kw] at t<;>rfl
end
section
variable {C:Or}{h h1 h2 h':Hp}{q k i b d:Nat}{w s:S}{f v u:W}{r:List W}{σ:Env}{o p:Bool}{c:E}{es:Es}{x:Option Kd}{ka kb kc:Kd}
structure Parts(C:Or):Prop extends nL C where
 liked:∀(h:Hp)(a:Kd),a.depth<=48->C gK [a.ae] h=out (likeOf a) h
 JF:∀(h:Hp)(q:Nat)(a b:Kd),a.depth<=48->b.depth<=48->h[q]?=some (.lst [a.ae,b.ae])->C kO [.ref q] h=out (T2.call.j a b) h
 Jt:∀(h:Hp)(q:Nat)(a b c:Kd),a.depth<=48->b.depth<=48->c.depth<=48->h[q]?=some (.lst [a.ae,b.ae,c.ae])->C kC [.ref q] h=out (T3.fold.j a b c) h
theorem vo(W:nL C)(ha:ka.depth<=48)(hb:kb.depth<=48)(e:h[q]?=some (.lst [ka.ae,kb.ae])):aB C kE [.ref q] h=out (T2.call.j ka kb) h:=by
 refine oE [some (.ref q)] rfl rfl (eY (aH (dF (bK rfl e 0 rfl) bu) (W.word h ka dH)) (fun t=>?_) (fun t=>?_))
 .cases ka with
  |work x y=>
   have t:=Kd.bw h kb x (by omega) (by simp[Kd.depth] at ha;omega);refine eY (aH (dF (bK rfl e 1 rfl) (by simp[e,Kd.ae])) (W.want h _ _ _ t)) (fun z=>?_) (fun z=>?_)
   .rw[show T2.call.j (.work x y) kb=some y from if_pos (by simpa [eq_comm] using z)];exact ck (by simp[e,Kd.ae])
   .exact if_neg (by simpa [eq_comm] using z)
  |_=>simp[kw] at t
 .cases ka<;>simp[kw] at t<;>rfl
theorem uf(W:nL C)(ha:ka.depth<=48)(hb:kb.depth<=48)(hc:kc.depth<=48)(e:h[q]?=some (.lst [ka.ae,kb.ae,kc.ae])):aB C kD [.ref q] h=out (T3.fold.j ka kb kc) h:=by
 refine oE [some (.ref q)] rfl rfl (eY (aH (dF (bK rfl e 0 rfl) bu) (W.word h ka o8)) (fun t=>?_) (fun t=>?_))
 .cases ka with
  |row x=>
   have t:=Kd.bw h kc (.work x (.work kb kb)) (by omega) (by simp[Kd.depth] at ha⊢;omega);refine eY (aH (dF (bK rfl e 2 rfl) (v:=(Kd.work x (.work kb kb)).ae) (by simp[e,Kd.ae])) (W.want h _ _ _ t)) (fun z=>?_) (fun z=>?_)
   .rw[show T3.fold.j (.row x) kb kc=some kb from if_pos (by simpa using z)];exact ck (bK rfl e 1 rfl)
   .exact if_neg (by simpa using z)
  |_=>simp[kw] at t
 .cases ka<;>simp[kw] at t<;>rfl
theorem EK(k:Nat):Parts (run T (k+2)):=
 ⟨wants (k+1),fun h a ha=>A8 (C:=run T (k+1)) (wants k) a ha,fun h q a b ha hb e=>vo (C:=run T (k+1)) (wants k) ha hb e,fun h q a b c ha hb hc e=>uf (C:=run T (k+1)) (wants k) ha hb hc e⟩
noncomputable abbrev sb(w:S)(r:List W)(q:Nat):Env:=[some (.tup (.str w::r)),some (.ref q),some (.str w)]
theorem di(k:av C (bz.body.drop 1) (sb w r q) h=jQ x h):aB C bz [.tup (.str w::r),.ref q] h=out x h:=
 oE [some (.tup (.str w::r)),some (.ref q),none] rfl rfl (aW (w:=.str w) (by simp) k)
theorem GC(kk:Kd)(cc:W)(e:h[q]?=some (.lst [ka.ae])):aB C bz [.tup [.str iZ,kk.ae,cc],.ref q] h=out (some (.work kk ka)) h:=
 di (cj (eqs rfl rfl) (ck (by simp[e,Kd.ae])))
theorem L9(P:Parts C)(t:T1)(ha:ka.depth<=48)(e:h[q]?=some (.lst [ka.ae])):aB C bz [.tup (.str t.s::r),.ref q] h=out (t.j ka) h:=by
 cases t with
 |left=>
  refine di (ah (eqs rfl rfl) (ah (eqs rfl rfl) (ah (eqs rfl rfl) (cj (ins rfl rfl) (eY (aH (dF (bK rfl e 0 rfl) bu) (P.word h ka gz)) (fun t=>?_) (fun t=>?_))))))
  .cases ka<;>simp[kw] at t;exact ck (bL (o:=true) (eqs rfl rfl) (fun _=>by simp[e,Kd.ae]) (fun z=>nomatch z))
  .cases ka<;>simp[kw] at t<;>rfl
 |right=>
  refine di (ah (eqs rfl rfl) (ah (eqs rfl rfl) (ah (eqs rfl rfl) (cj (ins rfl rfl) (eY (aH (dF (bK rfl e 0 rfl) bu) (P.word h ka gz)) (fun t=>?_) (fun t=>?_))))))
  .cases ka<;>simp[kw] at t;exact ck (bL (o:=false) (eqs rfl rfl) (fun z=>nomatch z) (fun _=>by simp[e,Kd.ae]))
  .cases ka<;>simp[kw] at t<;>rfl
 |lrow=>
  refine di (ah (eqs rfl rfl) (ah (eqs rfl rfl) (ah (eqs rfl rfl) (ah (ins rfl rfl) (ah (eqs rfl rfl) (ah (eqs rfl rfl) (ah (eqs rfl rfl) (ah (ins rfl rfl) (ah (eqs rfl rfl) (fE ?_))))))))));have l:=P.liked h ka ha;have i0:=bK (C:=C) (i:=1) (σ:=sb T1.lrow.s r q) rfl e 0 rfl;have l2:ag C (.call gK (.cons (.idx (.var 1) (.cst (.int 0))) .nil)) (sb T1.lrow.s r q) h=out (likeOf ka) h:=aH (gG i0) l;simp only[T1.j];cases g:likeOf ka with
  |none=>
   rw[g] at l2;rw[bf,ai,cN,ai,bu,R.af,ai,l2];rfl
  |some y=>
   rw[g] at l2;have l3:=P.dE h (.row y);rw[bf,ai,cN,ai,bu,R.af,ai,l2];exact l3
end
section
variable {C:Or}{h h1 h2 h':Hp}{q k i b d:Nat}{w s:S}{f v u:W}{r:List W}{σ:Env}{o p:Bool}{c:E}{es:Es}{x:Option Kd}{ka kb kc:Kd}
theorem CP(P:Parts C)(t:T2)(ht:t=.sum\/t=.less)(ha:ka.depth<=48)(hb:kb.depth<=48)(e:h[q]?=some (.lst [ka.ae,kb.ae])):aB C bz [.tup (.str t.s::r),.ref q] h=out (t.j ka kb) h:=by
 have t1:=Kd.bw h ka .num (by omega) (by decide);have t2:=Kd.bw h kb .num (by omega) (by decide);rcases ht with rfl|rfl
 .refine di (ah (eqs rfl rfl) (ah (eqs rfl rfl) (ah (eqs rfl rfl) (ah (ins rfl rfl) (ah (eqs rfl rfl) (ah (eqs rfl rfl) (ah (eqs rfl rfl) (cj (ins rfl rfl) (eY (aH (dF (bK rfl e 0 rfl) bu) (P.want h _ _ _ t1)) (fun z=>eY (aH (dF (bK rfl e 1 rfl) bu) (P.want h _ _ _ t2)) (fun y=>?_) (fun y=>?_)) (fun z=>?_))))))))))
  .rw[show T2.sum.j ka kb=some .num from if_pos ⟨by simpa using z,by simpa using y⟩];exact ck (bL (o:=true) (eqs rfl rfl) (fun _=>rfl) (fun z=>nomatch z))
  .exact if_neg (by simp at y;simp[y])
  .exact if_neg (by simp at z;simp[z])
 .refine di (ah (eqs rfl rfl) (ah (eqs rfl rfl) (ah (eqs rfl rfl) (ah (ins rfl rfl) (ah (eqs rfl rfl) (ah (eqs rfl rfl) (ah (eqs rfl rfl) (cj (ins rfl rfl) (eY (aH (dF (bK rfl e 0 rfl) bu) (P.want h _ _ _ t1)) (fun z=>eY (aH (dF (bK rfl e 1 rfl) bu) (P.want h _ _ _ t2)) (fun y=>?_) (fun y=>?_)) (fun z=>?_))))))))))
  .rw[show T2.less.j ka kb=some .tru from if_pos ⟨by simpa using z,by simpa using y⟩];exact ck (bL (o:=false) (eqs rfl rfl) (fun z=>nomatch z) (fun _=>rfl))
  .exact if_neg (by simp at y;simp[y])
  .exact if_neg (by simp at z;simp[z])
theorem MT(P:Parts C)(t:T2)(ha:ka.depth<=48)(hb:kb.depth<=48)(e:h[q]?=some (.lst [ka.ae,kb.ae])):aB C bz [.tup (.str t.s::r),.ref q] h=out (t.j ka kb) h:=by
 cases t with
 |sum=>exact CP P .sum (.inl rfl) ha hb e
 |less=>exact CP P .less (.inr rfl) ha hb e
 |call=>exact di (ah (eqs rfl rfl) (cj (eqs rfl rfl) (fE (aH (gG (ao rfl)) (P.JF h q ka kb ha hb e)))))
 |both=>exact di (ah (eqs rfl rfl) (ah (eqs rfl rfl) (cj (eqs rfl rfl) (ck (ka:=.pair ka kb) (by simp[e,Kd.ae])))))
 |more=>
  have t1:=Kd.bw h kb (.row ka) (by omega) (by simp[Kd.depth];omega);refine di (ah (eqs rfl rfl) (ah (eqs rfl rfl) (ah (eqs rfl rfl) (ah (ins rfl rfl) (cj (eqs rfl rfl) (eY (aH (dF (bK rfl e 1 rfl) (v:=(Kd.row ka).ae) (by simp[e,Kd.ae])) (P.want h _ _ _ t1)) (fun z=>?_) (fun z=>?_)))))))
  .rw[show T2.more.j ka kb=some kb from if_pos (by simpa using z)];exact ck (bK rfl e 1 rfl)
  .exact if_neg (by simpa using z)
 |lpair=>
  refine di (ah (eqs rfl rfl) (ah (eqs rfl rfl) (ah (eqs rfl rfl) (ah (ins rfl rfl) (ah (eqs rfl rfl) (ah (eqs rfl rfl) (ah (eqs rfl rfl) (ah (ins rfl rfl) (cj (eqs rfl rfl) (fE ?_))))))))));have i0:=bK (C:=C) (i:=1) (σ:=sb T2.lpair.s r q) rfl e 0 rfl;have i1:=bK (C:=C) (i:=1) (σ:=sb T2.lpair.s r q) rfl e 1 rfl;have l2:ag C (.call gK (.cons (.idx (.var 1) (.cst (.int 0))) .nil)) (sb T2.lpair.s r q) h=out (likeOf ka) h:=aH (gG i0) (P.liked h ka ha);have l3:ag C (.call gK (.cons (.idx (.var 1) (.cst (.int 1))) .nil)) (sb T2.lpair.s r q) h=out (likeOf kb) h:=aH (gG i1) (P.liked h kb hb);simp only[T2.j];cases g:likeOf ka with
  |none=>
   rw[g] at l2;rw[bf,ai,cN,ai,bu,R.af,ai,l2];rfl
  |some y=>
   rw[g] at l2;cases g3:likeOf kb with
   |none=>
    rw[g3] at l3;rw[bf,ai,cN,ai,bu,R.af,ai,l2];simp only[out,R.af];rw[ai,l3];rfl
   |some z=>
    rw[g3] at l3;have l4:=P.dE h (.pair y z);rw[bf,ai,cN,ai,bu,R.af,ai,l2];simp only[out,R.af];rw[ai,l3];exact l4
theorem MZ(P:Parts C)(t:T3)(ha:ka.depth<=48)(hb:kb.depth<=48)(hc:kc.depth<=48)(e:h[q]?=some (.lst [ka.ae,kb.ae,kc.ae])):aB C bz [.tup (.str t.s::r),.ref q] h=out (t.j ka kb kc) h:=by
 cases t with
 |fold=>exact di (ah (eqs rfl rfl) (ah (eqs rfl rfl) (ah (eqs rfl rfl) (ah (ins rfl rfl) (ah (eqs rfl rfl) (cj (eqs rfl rfl) (fE (aH (gG (ao rfl)) (P.Jt h q ka kb kc ha hb hc e)))))))))
 |ife=>
  have t1:=Kd.bw h ka .tru (by omega) (by decide);have t2:=Kd.bw h kc kb (by omega) (by omega);refine di (ah (eqs rfl rfl) (ah (eqs rfl rfl) (ah (eqs rfl rfl) (ah (ins rfl rfl) (ah (eqs rfl rfl) (ah (eqs rfl rfl) (cj (eqs rfl rfl) (eY (aH (dF (bK rfl e 0 rfl) bu) (P.want h _ _ _ t1)) (fun z=>eY (aH (dF (bK rfl e 2 rfl) (bK rfl e 1 rfl)) (P.want h _ _ _ t2)) (fun y=>?_) (fun y=>?_)) (fun z=>?_)))))))))
  .rw[show T3.ife.j ka kb kc=some kb from if_pos ⟨by simpa using z,by simpa [eq_comm] using y⟩];exact ck (bK rfl e 1 rfl)
  .exact if_neg (by simp at y;simp[bo y])
  .exact if_neg (by simp at z;simp[z])
end
noncomputable abbrev cJ:S:=[100,101,102,105,110,105,116,105,111,110,115]
section
variable {C:Or}{h h1 h2 h':Hp}{q k i b d s0:Nat}{w s cn:S}{f v u:W}{r:List W}{σ:Env}{o p:Bool}{c:E}{es:Es}{x:Option Kd}{ka kb kc:Kd}{bd:List Kd}{fs:List (S×W)}
theorem pf{a2 r:List St}(e:ag C c σ h=.ok (.bl o) h)(k1:o=true->x=none)(k2:o=false->av C r σ h=jQ x h):av C (.iff c [.raise mz [] .nil] []::r) σ h=jQ x h:=by
 cases o with
 |true=>rw[k1 rfl,aN,eR,e];simp[mD,iE,jQ]
 |false=>exact ah e (k2 rfl)
theorem vw(j:Int)(e:h[b]?=some (.lst (bd.map Kd.ae))):aB C lV [.ref b,.int j] h=out ((Lf.var j).jd bd) h:=by
 have c1:ag C (.or (.cmp .lt (.var 1) (.cst (.int 0))) (.cmp .ge (.var 1) (.blt .len (.var 0)))) [some (.ref b),some (.int j)] h=.ok (.bl (decide (j<0) || decide ((bd.length:Int)<=j))) h:=
  uP (o:=decide (j<0)) (h1:=h) (by simp) (fun _=>by simp[e]) (fun _=>rfl)
 refine oE [some (.ref b),some (.int j)] rfl rfl (pf (a2:=[]) c1 (fun z=>?_) (fun z=>?_))
 .simp at z;exact if_neg (by omega)
 .simp at z;obtain⟨y,t1,t2⟩:=qM (bd:=bd) (i':=j) ⟨by omega,by omega⟩;rw[show (Lf.var j).jd bd=some y from (if_pos ⟨by omega,by omega⟩).trans t1];exact ck (by simp[e,t2])
theorem sC(W:nL C)(a:Kd)(ha:a.depth<=50):aB C kM [a.ae] h=out ((Lf.dE a).jd bd) h:=by
 have t:=vM a h ha;have c1:ag C (.cmp .notin (.var 0) (.tup (.cons (.cst (.tup [.str bM])) (.cons (.cst (.tup [.str gq])) .nil)))) [some a.ae] h=.ok (.bl (!decide (a=.num\/a=.tru))) h:=by simp only[show Kd.num.ae=.tup [.str bM] from rfl,show Kd.tru.ae=.tup [.str gq] from rfl] at t;simp[t]
 refine oE [some a.ae] rfl rfl (pf (a2:=[]) c1 (fun z=>?_) (fun z=>?_))
 .exact if_neg (by simpa using z)
 .rw[show (Lf.dE a).jd bd=some (K04.aF a) from if_pos (by rw[Bool.not_eq_false'] at z;exact sF z)];exact ck (aH (gG (ao rfl)) (W.dE h a))
theorem yA(n:Int)(ks:W)(e:h[s0]?=some (.ins cn fs))(ef:fs.lookup cJ=some (.ref d))(ed:h[d]?=some (.lst [])):aB C mJ [.ref s0,.int n,ks] h=out none h:=by
 have c1:ag C (.or (.cmp .lt (.var 1) (.cst (.int 0))) (.cmp .ge (.var 1) (.blt .len (.fld (.var 0) cJ)))) [some (.ref s0),some (.int n),some ks,none] h=.ok (.bl (decide (n<0) || decide (0<=n))) h:=
  uP (o:=decide (n<0)) (h1:=h) (by simp) (fun _=>by simp[e,ef,ed]) (fun _=>rfl)
 refine oE [some (.ref s0),some (.int n),some ks,none] rfl rfl (pf (a2:=[]) c1 (fun _=>rfl) (fun z=>?_));simp at z;omega
structure zF(C:Or):Prop where
 MX:∀(h:Hp)(b:Nat)(bd:List Kd)(j:Int),h[b]?=some (.lst (bd.map Kd.ae))->C lz [.ref b,.int j] h=out ((Lf.var j).jd bd) h
 aF:∀(h:Hp)(bd:List Kd)(a:Kd),a.depth<=50->C kG [a.ae] h=out ((Lf.dE a).jd bd) h
 JT:∀(h:Hp)(s0 d:Nat)(cn:S)(fs:List (S×W))(n:Int)(ks:W),h[s0]?=some (.ins cn fs)->fs.lookup cJ=some (.ref d)->h[d]?=some (.lst [])->C nz [.ref s0,.int n,ks] h=out none h
theorem AY(k:Nat):zF (run T (k+2)):=by refine⟨fun h b bd j e=>vw (C:=run T (k+1)) j e,fun h bd a ha=>sC (C:=run T (k+1)) (wants k) a ha,fun h s0 d cn fs n ks e ef ed=>?_⟩;have t:run T (k+1) kg [.ref s0,.int n,ks] h=out none h:=yA (C:=run T k) n ks e ef ed;refine oE (C:=run T (k+1)) (f:=mL) [some (.ref s0),some (.int n),some ks,none] rfl rfl ?_;have c1:ag (run T (k+1)) (.call kg (.cons (.var 0) (.cons (.var 1) (.cons (.var 2) .nil)))) [some (.ref s0),some (.int n),some ks,none] h=out none h:=aH (by simp) t;show av (run T (k+1)) (.set 3 _::_) _ h=_;rw[aN,wO,c1];rfl
theorem uj(L:zF C)(l:Lf)(hl:l.kd 8)(e:h[b]?=some (.lst (bd.map Kd.ae)))(es:h[s0]?=some (.ins cn fs))(ef:fs.lookup cJ=some (.ref d))(ed:h[d]?=some (.lst [])):aB C kI [.ref s0,.ref b,l.ae] h=out (l.jd bd) h:=by
 refine oE [some (.ref s0),some (.ref b),some l.ae] rfl rfl ?_;cases l with
 |num i=>exact cj (bO rfl rfl) (ck (ka:=.num) rfl)
 |yes=>exact ah (bO rfl rfl) (ah (bO rfl rfl) (ah (bO rfl rfl) (ah (bO rfl rfl) (ah (bO rfl rfl) (ck (ka:=.tru) rfl)))))
 |no=>exact ah (bO rfl rfl) (ah (bO rfl rfl) (ah (bO rfl rfl) (ah (bO rfl rfl) (ah (bO rfl rfl) (ck (ka:=.tru) rfl)))))
 |var i=>exact ah (bO rfl rfl) (cj (bO rfl rfl) (fE (aH (dF (ao rfl) (by simp[Lf.ae])) (L.MX h b bd i e))))
 |aw k=>exact ah (bO rfl rfl) (ah (bO rfl rfl) (cj (bO rfl rfl) (ck (ka:=.row k) (by simp[Lf.ae,Kd.ae]))))
 |dfn n ks=>exact ah (bO rfl rfl) (ah (bO rfl rfl) (ah (bO rfl rfl) (cj (bO rfl rfl) (fE (aH (ws:=[.ref s0,.int n,.tup (ks.map Kd.ae)]) (by simp[Lf.ae]) (L.JT h s0 d cn fs n _ es ef ed))))))
 |dE k=>exact ah (bO rfl rfl) (ah (bO rfl rfl) (ah (bO rfl rfl) (ah (bO rfl rfl) (cj (bO rfl rfl) (fE (aH (gG (by simp[Lf.ae])) (L.aF h bd k (by simp[Lf.kd] at hl;omega))))))))
end
noncomputable def Co.parts:Co->List Co
 |.lf _=>[]
 |.fn _ c=>[c]
 |.n1 _ a=>[a]
 |.n2 _ a b=>[a,b]
 |.n3 _ a b c=>[a,b,c]
def node(bd:List Kd):Co->List Kd->Option Kd
 |.lf l,[]=>l.jd bd
 |.fn k _,[x]=>some (.work k x)
 |.n1 t _,[x]=>t.j x
 |.n2 t _ _,[x,y]=>t.j x y
 |.n3 t _ _ _,[x,y,z]=>t.j x y z
 |_,_=>none
section
variable {C:Or}{h h1 h2 h':Hp}{q k i b d s0:Nat}{w s cn:S}{f v u:W}{r:List W}{σ:Env}{o p:Bool}{c:E}{es:Es}{x:Option Kd}{ka kb kc:Kd}{bd:List Kd}{fs:List (S×W)}
noncomputable abbrev pY:List S:=[[99,97,108,108],[98,111,116,104],[108,101,102,116],[114,105,103,104,116],[109,111,114,101],[102,111,108,100],[105,102],[115,117,109],[108,101,115,115],[108,105,107,101,112,97,105,114],[108,105,107,101,114,111,119]]
theorem HJ(L:List S){r:List W}:ag C (.cmp .isin (.idx (.var 0) (.cst (.int 0))) (.cst (.tup (L.map W.str)))) [some (.tup (.str w::r))] h=.ok (.bl (decide (w∈L))) h:=by have t:=gE w L h;simp[t]
theorem Cv{r:List W}:ag C (.cmp .isin (.idx (.var 0) (.cst (.int 0))) (.cst (.tup (pY.map W.str)))) [some (.tup (.str w::r))] h=.ok (.bl (decide (w∈pY))) h:=HJ pY
theorem Nd{l:List W}{a:W}(e:σ[0]?=some (some (.tup (a::l)))):ag C (.sl (.var 0) (.some (.cst (.int 1))) .none) σ h=.ok (.tup l) h:=by
 have h1:bc (l.length+1) 0 (some 1)=1:=by simp[bc]
 have h2:bc (l.length+1) (l.length+1) none=l.length+1:=rfl;have h3:cut (a::l) (some 1) none=l:=by simp[cut,h1,h2]
 simp[e,h1,h2,h3]
theorem vg(hw:w∈pY):aB C gW [.tup (.str w::r)] h=.ok (.tup r) h:=by
 have hf:w≠iZ:=by rintro rfl;revert hw;decide
 exact bR [some (.tup (.str w::r))] rfl rfl (ah (bO rfl (bA hf)) (aZ (h':=h) (by have:=Cv (C:=C) (h:=h) (w:=w) (r:=r);rw[dG hw] at this;exact this) (aq (Nd rfl))))
theorem Cj(hw:w∉pY)(hf:w≠iZ):aB C gW [.tup (.str w::r)] h=.ok (.tup []) h:=
 bR [some (.tup (.str w::r))] rfl rfl (ah (bO rfl (bA hf)) (ah (h':=h) (by have:=Cv (C:=C) (h:=h) (w:=w) (r:=r);rw[bA hw] at this;exact this) (aq rfl)))
theorem vt(c:Co):aB C gW [c.ae] h=.ok (.tup (c.parts.map Co.ae)) h:=by
 cases c with
 |lf l=>cases l<;>exact Cj (by decide) (by decide)
 |fn k c=>exact bR [some (Co.fn k c).ae] rfl rfl (aZ (bO rfl rfl) (aq (by simp[Co.ae,Co.parts,cut,bc])))
 |n1 t a=>exact vg (by cases t<;>decide)
 |n2 t a b=>exact vg (by cases t<;>decide)
 |n3 t a b c=>exact vg (by cases t<;>decide)
structure LN(C:Or):Prop where
 leaf:∀(h:Hp)(b s0 d:Nat)(cn:S)(fs:List (S×W))(bd:List Kd)(l:Lf),l.kd 8->h[b]?=some (.lst (bd.map Kd.ae))->h[s0]?=some (.ins cn fs)->fs.lookup cJ=some (.ref d)->h[d]?=some (.lst [])->C kF [.ref s0,.ref b,l.ae] h=out (l.jd bd) h
 NW:∀(h:Hp)(q:Nat)(c:Co)(bd ks:List Kd),(∀k∈ks,k.depth<=48)->c.parts.length=ks.length->ks≠ []->h[q]?=some (.lst (ks.map Kd.ae))->C gZ [c.ae,.ref q] h=out (node bd c ks) h
theorem JS(k:Nat):LN (run T (k+3)):=by
 refine⟨fun h b s0 d cn fs bd l hl e es ef ed=>uj (C:=run T (k+2)) (AY k) l hl e es ef ed,fun h q c bd ks hk hl hn e=>?_⟩;have P:=EK k;show aB (run T (k+2)) bz [c.ae,.ref q] h=_;cases c with
 |lf l=>cases ks<;>simp[Co.parts] at hl hn
 |fn kk c=>
  match ks,hl with
  |[x],_=>exact GC kk c.ae e
 |n1 t a=>
  match ks,hl with
  |[x],_=>exact L9 P t (hk x (by simp)) e
 |n2 t a b=>
  match ks,hl with
  |[x,y],_=>exact MT P t (hk x (by simp)) (hk y (by simp)) e
 |n3 t a b c=>
  match ks,hl with
  |[x,y,z],_=>exact MZ P t (hk x (by simp)) (hk y (by simp)) (hk z (by simp)) e
theorem zM(A:LN C)(c:Co)(ks:List Kd)(hc:c.kd 8)(hk:∀k∈ks,k.depth<=48)(hl:c.parts.length=ks.length)(eq:h[q]?=some (.lst (ks.map Kd.ae)))(e:h[b]?=some (.lst (bd.map Kd.ae)))(es:h[s0]?=some (.ins cn fs))(ef:fs.lookup cJ=some (.ref d))(ed:h[d]?=some (.lst [])):aB C dS [c.ae,.ref b,.ref q,.ref s0] h=out (node bd c ks) h:=by
 have c1:ag C (.cmp .eq (.blt .len (.var 2)) (.cst (.int 0))) [some c.ae,some (.ref b),some (.ref q),some (.ref s0)] h=.ok (.bl (decide (ks.length=0))) h:=
  fq (u:=.int ks.length) (h1:=h) (by simp[eq]) bu (by simp)
 refine oE [some c.ae,some (.ref b),some (.ref q),some (.ref s0)] rfl rfl ?_;cases ks with
 |nil=>
  cases c with
  |lf l=>exact cj c1 (fE (aH (ws:=[.ref s0,.ref b,l.ae]) (by simp[Co.ae]) (A.leaf h b s0 d cn fs bd l hc e es ef ed)))
  |_=>simp[Co.parts] at hl
 |cons x r=>exact ah c1 (fE (aH (dF (ao rfl) (ao rfl)) (A.NW h q c bd (x::r) hk hl (by simp) eq)))
end
structure aU(a l:Nat)(h h':Hp):Prop where
 len:h.length<=h'.length
 keep:∀(q:Nat)(o:O),q≠a->q≠l->h[q]?=some o->h'[q]?=some o
theorem aU.refl(a l:Nat)(h:Hp):aU a l h h:=⟨aV _,fun _ _ _ _ e=>e⟩
theorem aU.trans{a l:Nat}{h h1 h2:Hp}(x:aU a l h h1)(y:aU a l h1 h2):aU a l h h2:=⟨bW x.len y.len,fun q o n m e=>y.keep q o n m (x.keep q o n m e)⟩
theorem aU.of{a l:Nat}{h h1:Hp}(x:ak h h1):aU a l h h1:=⟨x.len,fun q o _ _ e=>x.keep q o e⟩
theorem aU.set{a l p:Nat}(o:O)(h:Hp)(hp:p=a\/p=l):aU a l h (h.set p o):=
 ⟨by simp,fun q u n m e=>bJ (by rcases hp with rfl|rfl;exact bo n;exact bo m) e⟩
theorem bD{h:Hp}{a:Nat}{o:O}(e:h[a]?=some o):a<h.length:=by
 rcases qS a h.length with q|q
 .exact q
 .rw[nh q] at e;cases e
theorem eC{h:Hp}{a:Nat}{o u:O}(e:h[a]?=some o):(h.set a u)[a]?=some u:=by rw[iV (bD e)]
section
variable {C:Or}{h h1 h2 h':Hp}{q k i b d s0 p:Nat}{w s cn:S}{f v u:W}{A:List W}{σ:Env}{o:Bool}{c:E}{es:Es}
theorem qC{y:W}(e:σ[i]?=some (some (.ref q)))(f:h[q]?=some (.lst (A++[y]))):ag C (.ik .pop (.var i) .nil) σ h=.ok y (h.set q (.lst A)):=by simp[e,f]
theorem nX{y:W}{x:E}{acc acc':List W}(e:σ[i]?=some (some (.ref p)))(ep:h[p]?=some (.lst acc))(ex:ag C x σ h=.ok y h1)(ep1:h1[p]?=some (.lst acc'))(hz:acc'.length<SZ):ag C (.ik .append (.var i) (.cons x .nil)) σ h=.ok .aw (h1.set p (.lst (acc'++[y]))):=by simp[e,ep,ex,ep1,hz]
theorem oa{x:E}{y:W}{r:List St}{z:R Fl}(e:ag C x σ h=.ok y h1)(k:av C r σ h1=z):av C (.expr x::r) σ h=z:=by rw[aN,oZ,e];exact k
theorem vL{n:Nat}(hn:n<=3)(hqp:q≠p):∀(rs acc:List W)(h:Hp)(m:Nat),h[q]?=some (.lst (A++rs.reverse))->h[p]?=some (.lst acc)->acc.length+rs.length=n->
  ∃h',iR (ag C hJ) (av C lM) (m+rs.length+1) [some (.ref q),some (.int n),some (.ref p)] h=.ok (.next [some (.ref q),some (.int n),some (.ref p)]) h'/\h'[q]?=some (.lst A)/\h'[p]?=some (.lst (acc++rs))/\aU q p h h'
 |[],acc,h,m,eq,ep,hl=>by
  refine⟨h,?_,by simpa using eq,by simpa using ep,aU.refl _ _ _⟩;have:¬ ((acc.length:Int)<n):=by simp at hl;omega
  simp[iR,hJ,ep,this]
 |y::rs,acc,h,m,eq,ep,hl=>by
  simp only[dw] at hl;have hlt:((acc.length:Int)<n):=by omega
  have hz:acc.length<SZ:=by simp[SZ];omega
  have e1:(h.set q (.lst (A++rs.reverse)))[p]?=some (.lst acc):=bJ hqp ep;have e2:((h.set q (.lst (A++rs.reverse))).set p (.lst (acc++[y])))[q]?=some (.lst (A++rs.reverse)):=bJ (bo hqp) (eC eq);have e3:((h.set q (.lst (A++rs.reverse))).set p (.lst (acc++[y])))[p]?=some (.lst (acc++[y])):=eC e1;obtain⟨h',t1,t2,t3,t4⟩:=vL hn hqp rs (acc++[y]) _ m e2 e3 (by simp;omega);refine⟨h',?_,t2,by simpa using t3,(aU.set _ h (.inl rfl)).trans ((aU.set _ _ (.inr rfl)).trans t4)⟩;rw[show m+(y::rs).length+1=(m+rs.length+1)+1 by simp;omega];have c1:ag C hJ [some (.ref q),some (.int n),some (.ref p)] h=.ok (.bl true) h:=by simp[hJ,ep,hlt]
  have b1:av C lM [some (.ref q),some (.int n),some (.ref p)] h=.ok (.next [some (.ref q),some (.int n),some (.ref p)]) ((h.set q (.lst (A++rs.reverse))).set p (.lst (acc++[y]))):=
   oa (nX rfl ep (qC rfl (by rw[eq];simp)) e1 hz) rfl
  rw[iR,c1,R.af];simp only[truth,b1,R.af];exact t1
theorem AB{ks:List W}(hk:ks.length<=3)(eq:h[q]?=some (.lst (A++ks))):∃h',aB C qV [.ref q,.int ks.length] h=.ok (.ref h.length) h'/\h'[q]?=some (.lst A)/\h'[h.length]?=some (.lst ks)/\aU q h.length h h':=by
 have hq:=bD eq;obtain⟨h1,t1,t2,t3,t4⟩:=vL (C:=C) (A:=A) (n:=ks.length) (q:=q) (p:=h.length) hk (by omega) ks.reverse [] (h++[.lst []]) (FU-ks.reverse.length-1) (by rw[List.reverse_reverse];exact aA _ eq) (by simp) (by simp);rw[show FU-ks.reverse.length-1+ks.reverse.length+1=FU by simp[FU];omega] at t1;have e5:(h1.set h.length (.lst ks))[q]?=some (.lst A):=bJ (by omega) t2;refine⟨h1.set h.length (.lst ks),?_,e5,eC t3,((aU.of (ak.app h [O.lst []])).trans t4).trans (aU.set _ _ (.inr rfl))⟩;refine bR [some (.ref q),some (.int ks.length),none] rfl rfl (aW (w:=.ref h.length) (h':=h++[.lst []]) (by kernel_rfl) (fW (σ':=[some (.ref q),some (.int ks.length),some (.ref h.length)]) (h':=h1) ?_ (fW (σ':=[some (.ref q),some (.int ks.length),some (.ref h.length)]) (h':=h1.set h.length (.lst ks)) ?_ (aq (ao rfl)))))
 .rw[qQ];exact t1
 .simp only[kJ] at t3;simp[t3]
end
structure Wk(C:Or):Prop where
 parts:∀(h:Hp)(c:Co),C jm [c.ae] h=.ok (.tup (c.parts.map Co.ae)) h
 taken:∀(h:Hp)(q:Nat)(A ks:List W),ks.length<=3->h[q]?=some (.lst (A++ks))->∃h',C la [.ref q,.int ks.length] h=.ok (.ref h.length) h'/\h'[q]?=some (.lst A)/\h'[h.length]?=some (.lst ks)/\aU q h.length h h'
 NZ:∀(h:Hp)(q b s0 d:Nat)(cn:S)(fs:List (S×W))(bd ks:List Kd)(c:Co),c.kd 8->(∀k∈ks,k.depth<=48)->c.parts.length=ks.length->h[q]?=some (.lst (ks.map Kd.ae))->h[b]?=some (.lst (bd.map Kd.ae))->h[s0]?=some (.ins cn fs)->fs.lookup cJ=some (.ref d)->h[d]?=some (.lst [])->C aX [c.ae,.ref b,.ref q,.ref s0] h=out (node bd c ks) h
theorem MO(k:Nat):Wk (run T (k+4)):=
 ⟨fun h c=>vt (C:=run T (k+3)) c,fun h q A ks hk e=>AB (C:=run T (k+3)) hk e,fun h q b s0 d cn fs bd ks c hc hk hl eq e es ef ed=>zM (C:=run T (k+3)) (JS k) c ks hc hk hl eq e es ef ed⟩
noncomputable abbrev sw(c0 b0:W)(fa a l:Nat)(t5 t6 t7 t8 t9 t10:Option W):Env:=[some c0,some b0,some (.ref fa),some (.ref a),some (.ref l),t5,t6,t7,t8,t9,t10]
structure Base(fa a l s0 d:Nat)(cn:S)(fs:List (S×W))(h:Hp):Prop where
 fn:h[fa]?=some (.fun aX [.ref s0])
 sh:h[s0]?=some (.ins cn fs)
 df:fs.lookup cJ=some (.ref d)
 dn:h[d]?=some (.lst [])
 n1:fa≠a/\s0≠a/\d≠a
 n2:fa≠l/\s0≠l/\d≠l
 n3:a≠l
theorem Base.grow{fa a l s0 d:Nat}{cn:S}{fs:List (S×W)}{h h':Hp}(B:Base fa a l s0 d cn fs h)(g:aU a l h h'):Base fa a l s0 d cn fs h':=
 ⟨g.keep _ _ B.n1.1 B.n2.1 B.fn,g.keep _ _ B.n1.2.1 B.n2.2.1 B.sh,B.df,g.keep _ _ B.n1.2.2 B.n2.2.2 B.dn,B.n1,B.n2,B.n3⟩
theorem aU.less{a l n:Nat}{h h':Hp}(g:aU a n h h')(hn:h.length<=n)(ha:a<h.length):aU a l h h':=
 ⟨g.len,fun q o x _ e=>g.keep q o x (by have:=bD e;omega) e⟩
section
variable {C:Or}{h h1 h2 h':Hp}{q k i b d s0 p fa a l:Nat}{w s cn:S}{f v u c0 b0:W}{L A:List W}{σ:Env}{o:Bool}{es:Es}{fs:List (S×W)}{bd ks:List Kd}{t5 t6 t7 t8 t9 t10:Option W}{c:Co}
theorem jw(W:Wk C){r:List St}{z:R Fl}(el:h[l]?=some (.lst (L++[.tup [c.ae,.ref b,.bl o]])))(k:av C r (sw c0 b0 fa a l (some c.ae) (some (.ref b)) (some (.bl o)) (some (.tup (c.parts.map Co.ae))) t9 t10) (h.set l (.lst L))=z):
  av C (.pq 5 6 7 (.ik .pop (.var 4) .nil):: .set 8 (.call jm (.cons (.var 5) .nil))::r) (sw c0 b0 fa a l t5 t6 t7 t8 t9 t10) h=z:=by
 have p1:=qC (C:=C) (i:=4) (σ:=sw c0 b0 fa a l t5 t6 t7 t8 t9 t10) rfl el;rw[aN,uC,p1];simp only[R.af];exact aW (w:=.tup (c.parts.map Co.ae)) (h':=h.set l (.lst L)) (aH (gG (ao rfl)) (W.parts _ c)) k
theorem ES(W:Wk C)(B:Base fa a l s0 d cn fs h)(hc:c.kd 8)(hk:∀k∈ks,k.depth<=48)(hl:c.parts.length=ks.length)(h3:ks.length<=3)(ea:h[a]?=some (.lst (A++ks.map Kd.ae)))(eb:h[b]?=some (.lst (bd.map Kd.ae)))(hb:b≠a/\b≠l):
  ∃h1,ag C (.oo 2 (.cons (.var 5) (.cons (.var 6) (.cons (.call la (.cons (.var 3) (.cons (.blt .len (.var 8)) .nil))) .nil)))) (sw c0 b0 fa a l (some c.ae) (some (.ref b)) (some (.bl true)) (some (.tup (c.parts.map Co.ae))) t9 t10) h=out (node bd c ks) h1/\h1[a]?=some (.lst A)/\aU a h.length h h1:=by
 obtain⟨h1,t1,t2,t3,t4⟩:=W.taken h a A (ks.map Kd.ae) (by simpa using h3) ea;have B1:∀q o,q≠a->h[q]?=some o->h1[q]?=some o:=fun q o n e=>t4.keep q o n (by have:=bD e;omega) e;have e1:=W.NZ h1 h.length b s0 d cn fs bd ks c hc hk hl t3 (B1 _ _ hb.1 eb) (B1 _ _ B.n1.2.1 B.sh) B.df (B1 _ _ B.n1.2.2 B.dn);refine⟨h1,?_,t2,t4⟩;have tk:ag C (.call la (.cons (.var 3) (.cons (.blt .len (.var 8)) .nil))) (sw c0 b0 fa a l (some c.ae) (some (.ref b)) (some (.bl true)) (some (.tup (c.parts.map Co.ae))) t9 t10) h=.ok (.ref h.length) h1:=
  aH (ws:=[.ref a,.int (ks.map Kd.ae).length]) (by simp[hl]) t1
 rw[Av];simp only[List.getElem?_cons_succ,List.getElem?_cons_zero,B.fn];rw[ai,ao (i:=5) rfl,R.af,ai,ao (i:=6) rfl,R.af,ai,tk];simpa using e1
theorem vi(W:Wk C)(B:Base fa a l s0 d cn fs h)(hc:c.kd 8)(hk:∀k∈ks,k.depth<=48)(hl:c.parts.length=ks.length)(h3:ks.length<=3)(hA:A.length<SZ)(el:h[l]?=some (.lst (L++[.tup [c.ae,.ref b,.bl true]])))(ea:h[a]?=some (.lst (A++ks.map Kd.ae)))(eb:h[b]?=some (.lst (bd.map Kd.ae)))(hb:b≠a/\b≠l):
  ∃h',(match node bd c ks with
   |some k=>av C cP (sw c0 b0 fa a l t5 t6 t7 t8 t9 t10) h=.ok (.next (sw c0 b0 fa a l (some c.ae) (some (.ref b)) (some (.bl true)) (some (.tup (c.parts.map Co.ae))) t9 t10)) h'/\h'[l]?=some (.lst L)/\h'[a]?=some (.lst (A++[k.ae]))
   |none=>∃x,av C cP (sw c0 b0 fa a l t5 t6 t7 t8 t9 t10) h=.aI x h'/\h'[x]?=some (.aI mz []))/\aU a l h h':=by
 have g0:aU a l h (h.set l (.lst L)):=aU.set _ h (.inr rfl);have ea0:(h.set l (.lst L))[a]?=some (.lst (A++ks.map Kd.ae)):=bJ (bo B.n3) ea;obtain⟨h1,t1,t2,t3⟩:=ES (c0:=c0) (b0:=b0) (t9:=t9) (t10:=t10) W (B.grow g0) hc hk hl h3 ea0 (g0.keep _ _ hb.1 hb.2 eb) hb;have g1:aU a l (h.set l (.lst L)) h1:=t3.less (aV _) (bD ea0);have ja:h1[l]?=some (.lst L):=t3.keep _ _ (bo B.n3) (by have:=bD el;simp;omega) (eC el);cases g:node bd c ks with
 |some k=>
  rw[g] at t1;refine⟨h1.set a (.lst (A++[k.ae])),⟨?_,bJ B.n3 ja,eC t2⟩,(g0.trans g1).trans (aU.set _ _ (.inl rfl))⟩;refine jw W el ?_;rw[aN,eR,ao (i:=7) rfl];simp only[R.af,truth];rw[oa (nX (i:=3) rfl ea0 t1 t2 hA) rfl];rfl
 |none=>
  rw[g] at t1;refine⟨qo h1,⟨h1.length,?_,by simp⟩,(g0.trans g1).trans (aU.of (ak.app _ _))⟩;refine jw W el ?_;rw[aN,eR,ao (i:=7) rfl];simp only[R.af,truth];rw[aN,oZ,qX,ao (i:=3) rfl,R.af];simp only[mG,ea0,gQ];rw[ai,t1];rfl
end
def Co.inner(bd:List Kd):Co->List Kd
 |.fn k _=>bd++[k]
 |_=>bd
abbrev gL(b:Nat)(x:Co):W:=.tup [x.ae,.ref b,.bl false]
theorem aU.one{a l:Nat}{h h':Hp}(g:aU l l h h'):aU a l h h':=⟨g.len,fun q o _ n e=>g.keep q o n n e⟩
section
variable {C:Or}{h h1 h2 h':Hp}{q k i b d s0 p fa a l b':Nat}{w s cn:S}{f v u c0 b0:W}{L A:List W}{σ:Env}{o:Bool}{es:Es}{fs:List (S×W)}{bd ks:List Kd}{t5 t6 t7 t8 t9 t10:Option W}{c:Co}
theorem uh:∀(xs:List Co)(L:List W)(h:Hp)(t10:Option W),h[l]?=some (.lst L)->L.length+xs.length<=SZ->
  ∃h' t',cX (.var 10) (av C kA) (xs.map Co.ae) (sw c0 b0 fa a l t5 t6 t7 t8 (some (.ref b')) t10) h=.ok (.next (sw c0 b0 fa a l t5 t6 t7 t8 (some (.ref b')) t')) h'/\h'[l]?=some (.lst (L++xs.map (gL b')))/\aU l l h h'
 |[],L,h,t10,el,hn=>⟨h,t10,rfl,by simpa using el,aU.refl _ _ _⟩
 |x::xs,L,h,t10,el,hn=>by
  simp only[dw] at hn;obtain⟨h',t',e1,e2,e3⟩:=uh xs (L++[gL b' x]) (h.set l (.lst (L++[gL b' x]))) (some x.ae) (eC el) (by simp;omega);refine⟨h',t',?_,by simpa using e2,(aU.set _ h (.inl rfl)).trans e3⟩;have b1:av C kA (sw c0 b0 fa a l t5 t6 t7 t8 (some (.ref b')) (some x.ae)) h=.ok (.next (sw c0 b0 fa a l t5 t6 t7 t8 (some (.ref b')) (some x.ae))) (h.set l (.lst (L++[gL b' x]))):=
   oa (nX (i:=4) rfl el (y:=gL b' x) (h1:=h) (by simp) el (by omega)) rfl
  simp only[bx,cX,turn,rj,List.set,b1,R.af];exact e1
theorem Ey(eb:h[b]?=some (.lst (bd.map Kd.ae)))(hb:b≠a/\b≠l)(ha:a<h.length)(hl:l<h.length)(hn:bd.length<1000):
  ∃h1 b',ag C (.ite (.cmp .eq (.idx (.var 5) (.cst (.int 0))) (.cst (.str iZ))) (.bin .add (.var 6) (.lst (.cons (.idx (.var 5) (.cst (.int 1))) .nil))) (.var 6)) (sw c0 b0 fa a l (some c.ae) (some (.ref b)) t7 t8 t9 t10) h=.ok (.ref b') h1/\h1[b']?=some (.lst ((c.inner bd).map Kd.ae))/\(b'≠a/\b'≠l)/\ak h h1:=by
 cases c with
 |fn k c=>
  have e2:=aA [O.lst [k.ae]] eb;refine⟨h++[.lst [k.ae]]++[.lst ((bd++[k]).map Kd.ae)],h.length+1,bL (o:=true) (h1:=h) (bO (w:=iZ) rfl rfl) (fun _=>?_) (fun z=>nomatch z),by simp[Co.inner],by omega,(ak.app _ _).trans (ak.app _ _)⟩;have:bd.length+1<=16777216:=by omega
  simp[e2,Co.ae,SZ];omega
 |lf l=> 
  refine⟨h,b,bL (o:=false) (h1:=h) ?_ (fun z=>nomatch z) (fun _=>ao rfl),eb,hb,ak.refl h⟩;cases l<;>exact bO rfl rfl
 |n1 t x=>
  refine⟨h,b,bL (o:=false) (h1:=h) ?_ (fun z=>nomatch z) (fun _=>ao rfl),eb,hb,ak.refl h⟩;cases t<;>exact bO rfl rfl
 |n2 t x y=>
  refine⟨h,b,bL (o:=false) (h1:=h) ?_ (fun z=>nomatch z) (fun _=>ao rfl),eb,hb,ak.refl h⟩;cases t<;>exact bO rfl rfl
 |n3 t x y z=>
  refine⟨h,b,bL (o:=false) (h1:=h) ?_ (fun z=>nomatch z) (fun _=>ao rfl),eb,hb,ak.refl h⟩;cases t<;>exact bO rfl rfl
theorem ub(c:Co):c.parts.length<=3:=by cases c<;>simp[Co.parts]
theorem Bo(W:Wk C)(B:Base fa a l s0 d cn fs h)(hL:L.length<1000)(hn:bd.length<1000)(el:h[l]?=some (.lst (L++[gL b c])))(ea:h[a]?=some (.lst A))(eb:h[b]?=some (.lst (bd.map Kd.ae)))(hb:b≠a/\b≠l):
  ∃h' b' t9' t10',av C cP (sw c0 b0 fa a l t5 t6 t7 t8 t9 t10) h=.ok (.next (sw c0 b0 fa a l (some c.ae) (some (.ref b)) (some (.bl false)) (some (.tup (c.parts.map Co.ae))) t9' t10')) h'/\h'[l]?=some (.lst (L++[.tup [c.ae,.ref b,.bl true]]++c.parts.reverse.map (gL b')))/\h'[a]?=some (.lst A)/\h'[b']?=some (.lst ((c.inner bd).map Kd.ae))/\(b'≠a/\b'≠l)/\aU a l h h':=by
 have e1:(h.set l (.lst L))[l]?=some (.lst L):=eC el;have e2:((h.set l (.lst L)).set l (.lst (L++[.tup [c.ae,.ref b,.bl true]])))[l]?=some (.lst (L++[.tup [c.ae,.ref b,.bl true]])):=eC e1;have g2:aU l l h ((h.set l (.lst L)).set l (.lst (L++[.tup [c.ae,.ref b,.bl true]]))):=(aU.set _ _ (.inl rfl)).trans (aU.set _ _ (.inl rfl));have ea2:=g2.keep _ _ B.n3 B.n3 ea;obtain⟨h3,b',i1,i2,i3,i4⟩:=Ey (C:=C) (c0:=c0) (b0:=b0) (fa:=fa) (t7:=some (.bl false)) (t8:=some (.tup (c.parts.map Co.ae))) (t9:=t9) (t10:=t10) (c:=c) (g2.keep _ _ hb.2 hb.2 eb) hb (bD ea2) (bD e2) hn;obtain⟨h4,t',p1,p2,p3⟩:=uh (C:=C) (c0:=c0) (b0:=b0) (fa:=fa) (a:=a) (l:=l) (b':=b') (t5:=some c.ae) (t6:=some (.ref b)) (t7:=some (.bl false)) (t8:=some (.tup (c.parts.map Co.ae))) c.parts.reverse _ h3 t10 (i4.keep _ _ e2) (by have:=ub c;simp[SZ];omega);refine⟨h4,b',some (.ref b'),t',jw W el ?_,p2,p3.keep _ _ B.n3 B.n3 (i4.keep _ _ ea2),p3.keep _ _ i3.2 i3.2 i2,i3,(g2.one.trans (aU.of i4)).trans p3.one⟩;rw[aN,eR,ao (i:=7) rfl];simp only[R.af,truth];have it:dJ C (.rev (.var 8)) (sw c0 b0 fa a l (some c.ae) (some (.ref b)) (some (.bl false)) (some (.tup (c.parts.map Co.ae))) (some (.ref b')) t10) h3=.ok (.fix (c.parts.reverse.map Co.ae)) h3:=by simp
 rw[oa (nX (i:=4) rfl e1 (y:=.tup [c.ae,.ref b,.bl true]) (h1:=h.set l (.lst L)) (by simp) e1 (by simp[SZ];omega)) (aW i1 (fW (h':=h4) (σ':=sw c0 b0 fa a l (some c.ae) (some (.ref b)) (some (.bl false)) (some (.tup (c.parts.map Co.ae))) (some (.ref b')) t') (by rw[jt,show List.set (sw c0 b0 fa a l (some c.ae) (some (.ref b)) (some (.bl false)) (some (.tup (c.parts.map Co.ae))) t9 t10) 9 (some (.ref b'))=sw c0 b0 fa a l (some c.ae) (some (.ref b)) (some (.bl false)) (some (.tup (c.parts.map Co.ae))) (some (.ref b')) t10 from rfl,it];exact p1) rfl))];rfl
end
noncomputable def Co.turns:Co->Nat
 |.lf _=>2
 |.fn _ c=>c.turns+2
 |.n1 _ a=>a.turns+2
 |.n2 _ a b=>a.turns+b.turns+2
 |.n3 _ a b c=>a.turns+b.turns+c.turns+2
theorem vD(c:Co):c.turns=(c.parts.map Co.turns).sum+2:=by cases c<;>simp[Co.turns,Co.parts]<;>omega
def jA(bd:List Kd):List Co->Option (List Kd)
 |[]=>some []
 |p::ps=>(jd p bd).bind fun k=>(jA bd ps).map (k:: ·)
theorem wI(c:Co)(bd:List Kd):jd c bd=(jA (c.inner bd) c.parts).bind (node bd c):=by
 cases c with
 |lf l=>rfl
 |fn k c=>simp only[jd,Co.parts,Co.inner,jA];cases jd c (bd++[k])<;>rfl
 |n1 t a=>simp only[jd,Co.parts,Co.inner,jA];cases jd a bd<;>rfl
 |n2 t a b=>simp only[jd,Co.parts,Co.inner,jA];cases jd a bd<;>cases jd b bd<;>rfl
 |n3 t a b c=>simp only[jd,Co.parts,Co.inner,jA];cases jd a bd<;>cases jd b bd<;>cases jd c bd<;>rfl
theorem fG(c:Co):∀p∈c.parts,p.depth+1<=c.depth:=by cases c<;>simp[Co.parts,Co.depth]<;>omega
theorem u0(c:Co)(hc:c.kd 8):∀p∈c.parts,p.kd 8:=by
 cases c<;>simp[Co.parts,Co.kd] at hc⊢
 .exact hc.2
 .exact hc
 .exact hc
 .exact hc
theorem uR(c:Co)(hc:c.kd 8)(bd:List Kd)(hb:∀x∈bd,x.depth<=8):∀x∈c.inner bd,x.depth<=8:=by
 cases c<;>simp only[Co.inner]
 case fn k c=>
  intro x hx;rcases kK.mp hx with hx|hx
  .exact hb x hx
  .obtain rfl:=gH.mp hx;exact hc.1
 all_goals exact hb
theorem zv(c:Co)(bd:List Kd):(c.inner bd).length<=bd.length+1:=by cases c<;>simp[Co.inner]
theorem wK(bd:List Kd):∀(ps:List Co)(ks:List Kd),jA bd ps=some ks->ps.length=ks.length
 |[],ks,e=>by cases e;rfl
 |p::ps,ks,e=>by
  simp only[jA,ir,kN] at e;obtain⟨k,_,r,f,rfl⟩:=e;simp[wK bd ps r f]
theorem uN(bd:List Kd)(hb:∀x∈bd,x.depth<=8):∀(ps:List Co)(ks:List Kd),(∀p∈ps,p.kd 8/\p.depth<=38)->jA bd ps=some ks->∀k∈ks,k.depth<=48
 |[],ks,_,e=>by cases e;simp
 |p::ps,ks,hp,e=>by
  simp only[jA,ir,kN] at e;obtain⟨k,e1,r,f,rfl⟩:=e;intro x hx;rcases cY.mp hx with rfl|hx
  .have:=cL (D:=8) p bd x hb (hp p (by simp)).1 e1;have:=(hp p (by simp)).2;omega
  .exact uN bd hb ps r (fun q hq=>hp q (by simp[hq])) f x hx
section
variable {C:Or}{h h1 h2 h':Hp}{q k i b d s0 p fa a l b':Nat}{w s cn:S}{f v u c0 b0:W}{L A:List W}{σ σ':Env}{o:Bool}{es:Es}{fs:List (S×W)}{bd ks:List Kd}{t5 t6 t7 t8 t9 t10:Option W}{c:Co}
abbrev wN(C:Or)(m:Nat)(σ:Env)(h:Hp):R Fl:=iR (ag C cQ) (av C cP) m σ h
theorem tZ(el:h[l]?=some (.lst (L++[u]))):ag C cQ (sw c0 b0 fa a l t5 t6 t7 t8 t9 t10) h=.ok (.bl true) h:=by
 have:(0:Int)<(L.length:Int)+1:=by omega
 simp[cQ,el,this]
theorem qH{n:Nat}(c1:ag C cQ σ h=.ok (.bl true) h)(b1:av C cP σ h=.ok (.next σ') h'):wN C (n+1) σ h=wN C n σ' h':=by unfold wN;rw[iR,c1,R.af];simp only[truth,b1,R.af]
theorem zG{n x:Nat}(c1:ag C cQ σ h=.ok (.bl true) h)(b1:av C cP σ h=.aI x h'):wN C (n+1) σ h=.aI x h':=by unfold wN;rw[iR,c1,R.af];simp only[truth,b1];rfl
def xa(C:Or)(c0 b0:W)(fa a l n:Nat)(L A:List W)(r:Option (List W))(h:Hp):Prop:=
 ∀(t5 t6 t7 t8 t9 t10:Option W)(m:Nat),∃h',(match r with
  |some ys=>(∃u5 u6 u7 u8 u9 u10,wN C (n+m) (sw c0 b0 fa a l t5 t6 t7 t8 t9 t10) h=wN C m (sw c0 b0 fa a l u5 u6 u7 u8 u9 u10) h')/\h'[l]?=some (.lst L)/\h'[a]?=some (.lst (A++ys))
  |none=>∃x,wN C (n+m) (sw c0 b0 fa a l t5 t6 t7 t8 t9 t10) h=.aI x h'/\h'[x]?=some (.aI mz []))/\aU a l h h'
theorem zX{ps:List Co}(hp:∀p∈ps,∀(L A:List W)(h:Hp),Base fa a l s0 d cn fs h->L.length+4 * p.depth<990->A.length+4 * p.depth<990->h[l]?=some (.lst (L++[gL b' p]))->h[a]?=some (.lst A)->h[b']?=some (.lst (bd.map Kd.ae))->xa C c0 b0 fa a l p.turns L A ((jd p bd).map fun k=>[k.ae]) h)(hb:b'≠a/\b'≠l){D:Nat}(hD:∀p∈ps,p.depth<=D):
  ∀(A:List W)(h:Hp),Base fa a l s0 d cn fs h->L.length+ps.length+4 * D<990->A.length+ps.length+4 * D<990->h[l]?=some (.lst (L++ps.reverse.map (gL b')))->h[a]?=some (.lst A)->h[b']?=some (.lst (bd.map Kd.ae))->xa C c0 b0 fa a l (ps.map Co.turns).sum L A ((jA bd ps).map (·.map Kd.ae)) h:=by
 induction ps with
 |nil=>
  intro A h B hL hA el ea eb t5 t6 t7 t8 t9 t10 m;exact⟨h,⟨⟨t5,t6,t7,t8,t9,t10,by simp⟩,by simpa using el,by simpa using ea⟩,aU.refl _ _ _⟩
 |cons p ps ih=>
  intro A h B hL hA el ea eb t5 t6 t7 t8 t9 t10 m;simp only[dw] at hL hA;have dp:=hD p (by simp);have ih:=ih (fun q hq=>hp q (by simp[hq])) (fun q hq=>hD q (by simp[hq]));obtain⟨h1,r1,g1⟩:=hp p (by simp) (L++ps.reverse.map (gL b')) A h B (by simp;omega) (by omega) (by simpa using el) ea eb t5 t6 t7 t8 t9 t10 ((ps.map Co.turns).sum+m);rw[show p.turns+((ps.map Co.turns).sum+m)=((p::ps).map Co.turns).sum+m by simp;omega] at r1;simp only[jA];cases e:jd p bd with
  |none=>
   rw[e] at r1;exact⟨h1,r1,g1⟩
  |some k=>
   rw[e] at r1;obtain⟨⟨u5,u6,u7,u8,u9,u10,r1⟩,r2,r3⟩:=r1;obtain⟨h2,s1,g2⟩:=ih (A++[k.ae]) h1 (B.grow g1) (by omega) (by simp;omega) r2 r3 (g1.keep _ _ hb.1 hb.2 eb) u5 u6 u7 u8 u9 u10 m;refine⟨h2,?_,g1.trans g2⟩;cases e2:jA bd ps with
   |none=>
    rw[e2] at s1;obtain⟨x,s1,s2⟩:=s1;exact⟨x,r1.trans s1,s2⟩
   |some ks=>
    rw[e2] at s1;obtain⟨⟨v5,v6,v7,v8,v9,v10,s1⟩,s2,s3⟩:=s1;exact⟨⟨v5,v6,v7,v8,v9,v10,r1.trans s1⟩,s2,by simpa using s3⟩
theorem vI(W0:Wk C):∀(n:Nat)(c:Co)(bd:List Kd)(L A:List W)(h:Hp)(b:Nat),c.depth<n->Base fa a l s0 d cn fs h->c.kd 8->(∀x∈bd,x.depth<=8)->c.depth<=39->L.length+4 * c.depth<990->A.length+4 * c.depth<990->bd.length+c.depth<1000->h[l]?=some (.lst (L++[gL b c]))->h[a]?=some (.lst A)->h[b]?=some (.lst (bd.map Kd.ae))->b≠a/\b≠l->
  xa C c0 b0 fa a l c.turns L A ((jd c bd).map fun k=>[k.ae]) h
 |0,c,bd,L,A,h,b,hn,_,_,_,_,_,_,_,_,_,_,_=>by omega
 |n+1,c,bd,L,A,h,b,hn,B,hc,hb8,hd,hL,hA,hbd,el,ea,eb,hb=>by
  intro t5 t6 t7 t8 t9 t10 m;obtain⟨h1,b',t9',t10',e1,e2,e3,e4,e5,g1⟩:=Bo (C:=C) (c0:=c0) (b0:=b0) (t5:=t5) (t6:=t6) (t7:=t7) (t8:=t8) (t9:=t9) (t10:=t10) W0 B (by omega) (by omega) el ea eb hb;have st:=qH (n:=(c.parts.map Co.turns).sum+(1+m)) (tZ (C:=C) (c0:=c0) (b0:=b0) (fa:=fa) (a:=a) (t5:=t5) (t6:=t6) (t7:=t7) (t8:=t8) (t9:=t9) (t10:=t10) el) e1;rw[show (c.parts.map Co.turns).sum+(1+m)+1=c.turns+m by rw[vD];omega] at st;have pl:=ub c;have il:=zv c bd;by_cases z:c.parts=[]
  . -- a leaf
   obtain⟨l0,rfl⟩:∃l0,c=.lf l0:=by cases c<;>simp[Co.parts] at z;exact⟨_,rfl⟩
   simp only[Co.parts,eh,List.sum_nil,Nat.zero_add,List.reverse_nil,gI] at st e2;obtain⟨h2,r,g2⟩:=vi (C:=C) (c0:=c0) (b0:=b0) (ks:=[]) (t5:=some (Co.lf l0).ae) (t6:=some (.ref b)) (t7:=some (.bl false)) (t8:=some (.tup [])) (t9:=t9') (t10:=t10') W0 (B.grow g1) hc (by simp) rfl (by simp) (A:=A) (by simp[SZ];omega) e2 (by simpa using e3) (g1.keep _ _ hb.1 hb.2 eb) hb;refine⟨h2,?_,g1.trans g2⟩;rw[wI];simp only[Co.parts,jA,gf];rw[Nat.add_comm 1 m] at st;cases e:node bd (.lf l0) [] with
   |none=>
    rw[e] at r;obtain⟨x,r1,r2⟩:=r;exact⟨x,st.trans (zG (tZ e2) r1),r2⟩
   |some k=>
    rw[e] at r;exact⟨⟨_,_,_,_,_,_,st.trans (qH (tZ e2) r.1)⟩,r.2⟩
  .have dd:1<=c.depth:=by
    cases hp:c.parts with
    |nil=>exact absurd hp z
    |cons p r=>have:=fG c p (by simp[hp]);omega
   have ls:=zX (C:=C) (c0:=c0) (b0:=b0) (L:=L++[.tup [c.ae,.ref b,.bl true]]) (ps:=c.parts) (bd:=c.inner bd) (b':=b') (D:=c.depth-1) (cn:=cn) (fs:=fs) (s0:=s0) (d:=d) (fun p hp L A h B hL hA el ea eb=>vI W0 n p (c.inner bd) L A h b' (by have:=fG c p hp;omega) B (u0 c hc p hp) (uR c hc bd hb8) (by have:=fG c p hp;omega) hL hA (by have:=fG c p hp;omega) el ea eb e5) e5 (fun p hp=>by have:=fG c p hp;omega) A h1 (B.grow g1) (by simp;omega) (by omega) e2 e3 e4 (some c.ae) (some (.ref b)) (some (.bl false)) (some (.tup (c.parts.map Co.ae))) t9' t10' (1+m);obtain⟨h2,r1,g2⟩:=ls;rw[wI];cases e:jA (c.inner bd) c.parts with
   |none=>
    rw[e] at r1;obtain⟨x,r1,r2⟩:=r1;exact⟨h2,⟨x,st.trans r1,r2⟩,g1.trans g2⟩
   |some ks=>
    rw[e] at r1;obtain⟨⟨u5,u6,u7,u8,u9,u10,r1⟩,r2,r3⟩:=r1;have kl:=wK _ _ _ e;have kd:=uN _ (uR c hc bd hb8) _ _ (fun p hp=>⟨u0 c hc p hp,by have:=fG c p hp;omega⟩) e;obtain⟨h3,q,g3⟩:=vi (C:=C) (c0:=c0) (b0:=b0) (ks:=ks) (t5:=u5) (t6:=u6) (t7:=u7) (t8:=u8) (t9:=u9) (t10:=u10) W0 (B.grow (g1.trans g2)) hc kd kl (by omega) (A:=A) (by simp[SZ];omega) r2 r3 ((g1.trans g2).keep _ _ hb.1 hb.2 eb) hb;refine⟨h3,?_,(g1.trans g2).trans g3⟩;rw[Nat.add_comm 1 m] at st r1;simp only[gf];cases e9:node bd c ks with
    |none=>
     rw[e9] at q;obtain⟨x,q1,q2⟩:=q;exact⟨x,(st.trans r1).trans (zG (tZ r2) q1),q2⟩
    |some k=>
     rw[e9] at q;exact⟨⟨_,_,_,_,_,_,(st.trans r1).trans (qH (tZ r2) q.1)⟩,q.2⟩
end
def Tells(x:Option Kd)(r:R W)(h:Hp):Prop:=∃h',(match x with
 |some k=>r=.ok k.ae h'
 |none=>∃a,r=.aI a h'/\h'[a]?=some (.aI mz []))/\ak h h'
section
variable {C:Or}{h h1 h2 h':Hp}{q k i b d s0 p fa a l b':Nat}{w s cn:S}{f v u c0 b0:W}{L A:List W}{σ σ':Env}{o:Bool}{es:Es}{fs:List (S×W)}{bd ks:List Kd}{t5 t6 t7 t8 t9 t10:Option W}{c:Co}
theorem zo(W0:Wk C)(efa:h[fa]?=some (.fun aX [.ref s0]))(es:h[s0]?=some (.ins cn fs))(ef:fs.lookup cJ=some (.ref d))(ed:h[d]?=some (.lst []))(eb:h[b]?=some (.lst (bd.map Kd.ae)))(hc:c.kd 8)(hb8:∀x∈bd,x.depth<=8)(hd:c.depth<=39)(hbd:bd.length<900)(ht:c.turns<FU):
  Tells (jd c bd) (aB C iA [c.ae,.ref b,.ref fa] h) h:=by
 have l1:=bD efa;have l2:=bD es;have l3:=bD ed;have G:ak h (h++[.lst []]++[.lst (bd.map Kd.ae)]++[.lst [gL (h.length+1) c]]):=((ak.app _ _).trans (ak.app _ _)).trans (ak.app _ _);have ea:(h++[O.lst []]++[O.lst (bd.map Kd.ae)]++[O.lst [gL (h.length+1) c]])[h.length]?=some (.lst []):=aA _ (aA _ (a9 _ _));have el:(h++[O.lst []]++[O.lst (bd.map Kd.ae)]++[O.lst [gL (h.length+1) c]])[h.length+2]?=some (.lst ([]++[gL (h.length+1) c])):=by simp
 have B:Base fa h.length (h.length+2) s0 d cn fs (h++[.lst []]++[.lst (bd.map Kd.ae)]++[.lst [gL (h.length+1) c]]):=
  ⟨G.keep _ _ efa,G.keep _ _ es,ef,G.keep _ _ ed,⟨by omega,by omega,by omega⟩,⟨by omega,by omega,by omega⟩,by omega⟩
 obtain⟨h1,r,g⟩:=vI (C:=C) (c0:=c.ae) (b0:=.ref b) W0 (c.depth+1) c bd [] [] _ (h.length+1) (by omega) B hc hb8 hd (by simp;omega) (by simp;omega) (by omega) el ea (by simp) ⟨by omega,by omega⟩ none none none none none none (FU-c.turns);rw[show c.turns+(FU-c.turns)=FU by omega] at r;have gr:∀{h2:Hp},aU h.length (h.length+2) (h++[.lst []]++[.lst (bd.map Kd.ae)]++[.lst [gL (h.length+1) c]]) h2->ak h h2:=fun g=>⟨bW G.len g.len,fun q o e=>g.keep q o (by have:=bD e;omega) (by have:=bD e;omega) (G.keep q o e)⟩;have start:∀{z:R Fl},av C (iA.body.drop 2) (sw c.ae (.ref b) fa h.length (h.length+2) none none none none none none) (h++[.lst []]++[.lst (bd.map Kd.ae)]++[.lst [gL (h.length+1) c]])=z->av C iA.body [some c.ae,some (.ref b),some (.ref fa),none,none,none,none,none,none,none,none] h=z:=fun k=>
  aW (w:=.ref h.length) (h':=h++[O.lst []]) (by kernel_rfl) (aW (w:=.ref (h.length+2)) (h':=h++[O.lst []]++[O.lst (bd.map Kd.ae)]++[O.lst [gL (h.length+1) c]]) (by
   have e2:=aA [O.lst []] eb;have:bd.length<=16777216:=by omega
   simp[e2,SZ,this]) k)
 cases e:jd c bd with
 |some k=>
  rw[e] at r;obtain⟨⟨u5,u6,u7,u8,u9,u10,r1⟩,r2,r3⟩:=r;refine⟨h1.set h.length (.lst []),?_,gr (g.trans (aU.set _ _ (.inl rfl)))⟩;refine bR [some c.ae,some (.ref b),some (.ref fa),none,none,none,none,none,none,none,none] rfl rfl (start (fW (σ':=sw c.ae (.ref b) fa h.length (h.length+2) u5 u6 u7 u8 u9 u10) (h':=h1) ?_ (aq (qC (A:=[]) (i:=3) rfl r3))));rw[qQ];refine r1.trans ?_;obtain⟨m,hm⟩:∃m,FU-c.turns=m+1:=⟨FU-c.turns-1,by omega⟩;rw[hm];unfold wN;rw[iR];simp[cQ,r2]
 |none=>
  rw[e] at r;obtain⟨x,r1,r2⟩:=r;refine⟨h1,⟨x,?_,r2⟩,gr g⟩;have r1:iR (ag C cQ) (av C cP) FU (sw c.ae (.ref b) fa h.length (h.length+2) none none none none none none) (h++[.lst []]++[.lst (bd.map Kd.ae)]++[.lst [gL (h.length+1) c]])=.aI x h1:=r1;have:=start (z:=.aI x h1) (by show av C (.tq cQ cP::_) _ _=_;rw[aN,qQ,r1];rfl)
  unfold aB;rw[if_pos (by rfl)];show (av C iA.body [some c.ae,some (.ref b),some (.ref fa),none,none,none,none,none,none,none,none] h).bind _=_;rw[this];rfl
end
section
variable {C:Or}{h h1 h2 h':Hp}{q k i b d s0 p fa a l b':Nat}{w s cn:S}{f v u c0 b0:W}{L A:List W}{σ σ':Env}{o:Bool}{es:Es}{fs:List (S×W)}{bd ks:List Kd}{c:Co}
theorem tS(hw:Tells (jd c bd) (C iB [c.ae,.ref b,.ref h.length] (h++[.fun aX [.ref s0]])) (h++[.fun aX [.ref s0]])):Tells (jd c bd) (aB C iL [.ref s0,.ref b,c.ae] h) h:=by
 obtain⟨h1,r,g⟩:=hw;have ef:h1[h.length]?=some (.fun aX [.ref s0]):=g.keep _ _ (a9 _ _);have G:ak h (h1.set h.length .dead):=⟨by have:=g.len;simp at this⊢;omega,fun q o e=>bJ (by have:=bD e;omega) (g.keep _ _ (aA _ e))⟩;have st:eM C (.kY 3 iB (.var 2) (.var 1) aX [0]) [some (.ref s0),some (.ref b),some c.ae,none] h=pZ h.length (C iB [c.ae,.ref b,.ref h.length] (h++[.fun aX [.ref s0]])):=by rw[qA];simp[j0]
 have fn:aB C iL [.ref s0,.ref b,c.ae] h=(av C [.kY 3 iB (.var 2) (.var 1) aX [0]] [some (.ref s0),some (.ref b),some c.ae,none] h).bind fun fl h=>match fl with
  |.next _=>.ok .aw h
  |.ret w=>.ok w h
  |_=>.bad:=by
  unfold aB;rw[if_pos (by rfl)];rfl
 refine⟨h1.set h.length .dead,?_,G⟩;rw[fn,aN,st];cases e:jd c bd with
 |some k=>rw[e] at r;rw[r];rfl
 |none=>
  rw[e] at r;obtain⟨x,r1,r2⟩:=r;rw[r1];refine⟨x,rfl,bJ (fun z=>?_) r2⟩;rw[<-z,ef] at r2;cases r2
theorem AK(cn:S)(h:Hp):∃h1 fs,aB C jz [.ref h.length] (h++[.ins cn []])=.ok .aw h1/\h1[h.length]?=some (.ins cn fs)/\fs.lookup cJ=some (.ref (h.length+1))/\h1[h.length+1]?=some (.lst [])/\ak h h1:=by
 have e0:(h++[O.ins cn []]++[O.lst []])[h.length]?=some (.ins cn []):=aA _ (a9 _ _);have e1:=eC (u:=.ins cn [(cJ,.ref (h.length+1))]) e0;have e2:=aA [O.eV []] e1;have g:ak h (((h++[O.ins cn []]++[O.lst []]).set h.length (.ins cn [(cJ,.ref (h.length+1))])++[O.eV []]).set h.length (.ins cn [(cJ,.ref (h.length+1)),([110,117,109,98,101,114,115],.ref (h.length+2))])):=
  ⟨by simp,fun q o e=>by
   have:=bD e;exact bJ (by omega) (aA _ (bJ (by omega) (aA _ (aA _ e))))⟩
 refine⟨_,_,?_,eC e2,rfl,bJ (by omega) (aA _ (bJ (by omega) (by simp))),g⟩;unfold aB;rw[if_pos (by rfl)];have s1:eM C (.fput (.var 0) cJ (.lst .nil)) [some (.ref h.length)] (h++[.ins cn []])=.ok (.next [some (.ref h.length)]) ((h++[O.ins cn []]++[O.lst []]).set h.length (.ins cn [(cJ,.ref (h.length+1))])):=by simp only[rh,xG,kJ] at e0;simp[e0,lT]
 have s2:eM C (.fput (.var 0) [110,117,109,98,101,114,115] (.eV .nil)) [some (.ref h.length)] ((h++[O.ins cn []]++[O.lst []]).set h.length (.ins cn [(cJ,.ref (h.length+1))]))=.ok (.next [some (.ref h.length)]) (((h++[O.ins cn []]++[O.lst []]).set h.length (.ins cn [(cJ,.ref (h.length+1))])++[O.eV []]).set h.length (.ins cn [(cJ,.ref (h.length+1)),([110,117,109,98,101,114,115],.ref (h.length+2))])):=by
  generalize hz:(h++[O.ins cn []]++[O.lst []]).set h.length (.ins cn [(cJ,.ref (h.length+1))])=z at *;have hl:z.length=h.length+2:=by rw[<-hz];simp
  simp[e2,lT,hl]
 show (av C [.fput (.var 0) cJ (.lst .nil),.fput (.var 0) [110,117,109,98,101,114,115] (.eV .nil)] [some (.ref h.length)] (h++[.ins cn []])).bind _=_;rw[aN,s1];simp only[R.af];rw[aN,s2];rfl
theorem DR{hs:List Hd}{z:R Fl}(k:av C iQ.body [some (.ref b),some c.ae,none,none] h=.ok (.ret v) h'):aB C iQ [.ref b,c.ae] h=.ok v h':=
 bR [some (.ref b),some c.ae,none,none] rfl rfl k
theorem BV(hS:∀h:Hp,∃h1 fs,C gU [.ref h.length] (h++[.ins [83,104,101,108,102] []])=.ok .aw h1/\h1[h.length]?=some (.ins [83,104,101,108,102] fs)/\fs.lookup cJ=some (.ref (h.length+1))/\h1[h.length+1]?=some (.lst [])/\ak h h1)
  (hK:∀(h:Hp)(s0 d b:Nat)(cn:S)(fs:List (S×W)),h[s0]?=some (.ins cn fs)->fs.lookup cJ=some (.ref d)->h[d]?=some (.lst [])->h[b]?=some (.lst (bd.map Kd.ae))->Tells (jd c bd) (C iO [.ref s0,.ref b,c.ae] h) h)
  (eb:h[b]?=some (.lst (bd.map Kd.ae))) (hbd:bd.length<900):∃h',aB C iQ [.ref b,c.ae] h=.ok (oW (jd c bd)) h'/\ak h h':=by
 obtain⟨h1,fs,a1,a2,a3,a4,g1⟩:=hS h;have eb1:=g1.keep _ _ eb;have hz:bd.length<=16777216:=by omega
 have args:bS C (.cons (.mk [83,104,101,108,102] gU .nil) (.cons (.blt .list (.var 0)) (.cons (.var 1) .nil))) [some (.ref b),some c.ae,none,none] h=.ok [.ref h.length,.ref h1.length,c.ae] (h1++[.lst (bd.map Kd.ae)]):=by simp[a1,eb1,SZ,hz]
 obtain⟨h2,r,g2⟩:=hK (h1++[.lst (bd.map Kd.ae)]) h.length (h.length+1) h1.length _ fs (aA _ a2) a3 (aA _ a4) (a9 _ _);refine⟨h2,?_,(g1.trans (ak.app _ _)).trans g2⟩;refine DR (hs:=[]) (z:=.bad) ?_;show av C (.qO [.uw iO _] _::_) _ h=_;rw[aN,Ay,iI,uI,args];simp only[R.dY,R.af];cases e:jd c bd with
 |some k=>rw[e] at r;rw[r];rfl
 |none=>
  rw[e] at r;obtain⟨x,r1,r2⟩:=r;rw[r1];simp[R.bind,m5,r2,oW]
end
theorem Al(c:Co)(bd:List Kd)(h:Hp)(b k:Nat)(hk:7<=k)(eb:h[b]?=some (.lst (bd.map Kd.ae)))(hc:c.kd 8)(hb8:∀x∈bd,x.depth<=8)(hd:c.depth<=39)(hbd:bd.length<900)(ht:c.turns<FU):
  ∃h',run T k eW [.ref b,c.ae] h=.ok (oW (jd c bd)) h'/\ak h h':=by
 obtain⟨k,rfl⟩:∃j,k=j+7:=⟨k-7,by omega⟩;refine BV (C:=run T (k+6)) (fun h=>AK (C:=run T (k+5)) _ h) (fun h s0 d b cn fs es ef ed eb=>?_) eb hbd;refine tS (C:=run T (k+5)) ?_;exact zo (C:=run T (k+4)) (MO k) (a9 _ _) (aA _ es) ef (aA _ ed) (aA _ eb) hc hb8 hd hbd ht
theorem Kk{f:Nat}{fn:Fn}(e:T[f]?=some fn)(k:Nat)(xs:List W)(h:Hp):run T (k+1) f xs h=aB (run T k) fn xs h:=run_eq e k xs h
theorem kX(k p:Nat):tN (run T (k+1)) az p:=qJ (nx:=az) rfl k p
theorem rG:∀ns:List Int,eI (ns.map W.int)=true
 |[]=>rfl
 |x::r=>by simp[eI,W.pure,rG r]
theorem r9:∀ns:List Int,dg (ns.map W.int)=0
 |[]=>rfl
 |x::r=>by simp[dg,W.deep,r9 r]
theorem DY(k p:Nat)(h:Hp)(g:Gen p h):∃v h',run T (k+2) gX [.ref p] h=.ok (.int v) h'/\Ext p h h'/\Gen p h':=by
 obtain⟨v1,h1,r1,a1,b1,x1,g1⟩:=kX k p 14 h g (by decide);obtain⟨v2,h2,r2,a2,b2,x2,g2⟩:=kX k p 2000 h1 g1 (by decide);obtain⟨v3,h3,r3,a3,b3,x3,g3⟩:=kX k p 4 h2 g2 (by decide);have x123:=(x1.trans x2).trans x3;have g4:=g3.ext [O.lst [.int (v1-5),.int (v2-1000),.int v3]];have n4:=g3.gP;obtain⟨a,c,l,ns,e1',e2',e3⟩:=g3.ex;have nl:l≠h3.length:=fun z=>absurd (kR e2') (by omega);have e1:=aA [O.lst [.int (v1-5),.int (v2-1000),.int v3]] e1';have e2:=aA [O.lst [.int (v1-5),.int (v2-1000),.int v3]] e2';have q:=nV e2 (rG ns) (by rw[r9];omega);have f1:=aA [O.lst []] e1;have f2:=aA [O.lst []] e2;have g5:=g4.ext [O.lst []];have A5:=aA [O.lst []] (a9 h3 (O.lst [.int (v1-5),.int (v2-1000),.int v3]));have x5:Ext p h ((h3++[O.lst [.int (v1-5),.int (v2-1000),.int v3]])++[O.lst []]):=(x123.trans (Ext.app p _ _)).trans (Ext.app p _ _);rw[Kk xD];simp only[rh,xG,kJ] at q f1 f2 g5 A5 x5;simp only[gR,dw,ll] at q;cases ns with
 |nil=>
  obtain⟨v6,h6,r6,a6,b6,x6,g6⟩:=kX k p 3 _ g5 (by decide);have A6:=x6.keep _ _ A5 (bo n4);obtain⟨y,hy,ey⟩:=k4 [W.int (v1-5),.int (v2-1000),.int v3] v6 a6 (by simpa using b6);obtain⟨z,rfl⟩:∃z,y=.int z:=by simp at hy;rcases hy with rfl|rfl|rfl<;>exact⟨_,rfl⟩
  refine⟨z,h6,?_,x5.trans x6,g6⟩;simp only[eh,Az] at q;exact bR [some (.ref p),none] rfl rfl (aW (w:=.ref h3.length) (h':=h3++[O.lst [.int (v1-5),.int (v2-1000),.int v3]]) (by simp[r1,r2,r3]) (ah (h':=h3++[O.lst [.int (v1-5),.int (v2-1000),.int v3],O.lst []]) (by simp[e1,q]) (aq (by simp[A5,r6,A6,ey]))))
 |cons n r=>
  obtain⟨w,hw,ew⟩:=wD ((n::r).map W.int) c (by simp);obtain⟨y,_,rfl⟩:=gC.mp hw;have pos:(0:Int)<(r.length:Int)+1:=by omega
  have B:Gen p ((h3++[O.lst [.int (v1-5),.int (v2-1000),.int v3],O.lst []]).set h3.length (O.lst [.int (v1-5),.int (v2-1000),.int v3,.int (y % 100000000000000000000000000000000000000000000000000000000000-1000000000000000000000000000000)])):=by refine⟨a,c,l,n::r,bJ (bo n4) f1,bJ (bo nl) f2,e3⟩
  obtain⟨v6,h6,r6,a6,b6,x6,g6⟩:=kX k p 4 _ B (by decide);have A6:=x6.keep _ _ (i6 (o:=O.lst [.int (v1-5),.int (v2-1000),.int v3,.int (y % 100000000000000000000000000000000000000000000000000000000000-1000000000000000000000000000000)]) A5) (bo n4);obtain⟨u,hu,eu⟩:=k4 [W.int (v1-5),.int (v2-1000),.int v3,.int (y % 100000000000000000000000000000000000000000000000000000000000-1000000000000000000000000000000)] v6 a6 (by simpa using b6);obtain⟨z,rfl⟩:∃z,u=.int z:=by simp at hu;rcases hu with rfl|rfl|rfl|rfl<;>exact⟨_,rfl⟩
  have xs:Ext p h3 ((h3++[O.lst [.int (v1-5),.int (v2-1000),.int v3],O.lst []]).set h3.length (O.lst [.int (v1-5),.int (v2-1000),.int v3,.int (y % 100000000000000000000000000000000000000000000000000000000000-1000000000000000000000000000000)])):=⟨by simp,fun q o e n=>bJ (fun z=>absurd (kR e) (by omega)) (aA _ e)⟩;refine⟨z,h6,?_,(x123.trans xs).trans x6,g6⟩;simp only[bx,List.isEmpty_cons] at q f2 ew;simp only[dw,fQ] at ew;push_cast at ew;simp at r6 A6;exact bR [some (.ref p),none] rfl rfl (aW (w:=.ref h3.length) (h':=h3++[O.lst [.int (v1-5),.int (v2-1000),.int v3]]) (by simp[r1,r2,r3]) (w9 (h':=h3++[O.lst [.int (v1-5),.int (v2-1000),.int v3],O.lst []]) (σ':=[some (.ref p),some (.ref h3.length)]) (h3:=h3++[O.lst [.int (v1-5),.int (v2-1000),.int v3,.int (y % 100000000000000000000000000000000000000000000000000000000000-1000000000000000000000000000000)],O.lst []]) (by simp[e1,q]) (by simp[-binI,f1,f2,A5,pos,ew,SZ,binI.eq_def]) (aq (by simp[r6,A6,eu]))))
noncomputable def dy:Kd->Bool
 |.row k=>dy k
 |.pair a b=>dy a&&dy b
 |.num=>true
 |.tru=>true
 |_=>false
noncomputable def lc:Kd->Co
 |.row k=>.n1 .lrow (lc k)
 |.pair a b=>.n2 .lpair (lc a) (lc b)
 |k=>.lf (.dE k)
theorem kB(k:Kd):likeOf (aF k)=some k:=by simp[likeOf,aF]
theorem sG(bd:List Kd):∀k:Kd,dy k=true->jd (lc k) bd=some (aF k)
 |.num,_=>by simp[lc,jd,Lf.jd]
 |.tru,_=>by simp[lc,jd,Lf.jd]
 |.row k,h=>by simp only[lc,jd,sG bd k h,gf,T1.j,kB,Option.map_some]
 |.pair a b,h=>by
  simp only[dy,aE] at h;simp only[lc,jd,sG bd a h.1,sG bd b h.2,gf,T2.j,kB,Option.map_some]
 |.work _ _,h=>by simp[dy] at h
 |.any _,h=>by simp[dy] at h
 |.gap _,h=>by simp[dy] at h
theorem lQ:∀k:Kd,(lc k).depth<=k.depth
 |.num=>by simp[lc,Co.depth]
 |.tru=>by simp[lc,Co.depth]
 |.row k=>by have:=lQ k;simp[lc,Co.depth,Kd.depth];omega
 |.pair a b=>by have:=lQ a;have:=lQ b;simp[lc,Co.depth,Kd.depth];omega
 |.work _ _=>by simp[lc,Co.depth]
 |.any _=>by simp[lc,Co.depth]
 |.gap _=>by simp[lc,Co.depth]
theorem sR(D:Nat):∀k:Kd,k.depth<=D->(lc k).kd D
 |.num,h=>by simp[lc,Co.kd,Lf.kd,Kd.depth]
 |.tru,h=>by simp[lc,Co.kd,Lf.kd,Kd.depth]
 |.row k,h=>by simp only[Kd.depth] at h;exact sR D k (by omega)
 |.pair a b,h=>by simp only[Kd.depth] at h;exact⟨sR D a (by omega),sR D b (by omega)⟩
 |.work _ _,h=>h
 |.any _,h=>h
 |.gap _,h=>h
theorem pR(p:Nat):∀(kd:Kd)(k:Nat)(h:Hp),dy kd=true->kd.depth+1<=k->run T k dD [.ref p,kd.ae] h=.ok (lc kd).ae h
 |.num,k+1,h,_,_=>bR (C:=run T k) (f:=eN) [some (.ref p),some Kd.num.ae] rfl rfl (ah (bO rfl rfl) (ah (bO rfl rfl) (aq rfl)))
 |.tru,k+1,h,_,_=>bR (C:=run T k) (f:=eN) [some (.ref p),some Kd.tru.ae] rfl rfl (ah (bO rfl rfl) (ah (bO rfl rfl) (aq rfl)))
 |.row x,k+1,h,l,d=>by
  have t:=pR p x k h l (by simp only[Kd.depth] at d;omega);exact bR (C:=run T k) (f:=eN) [some (.ref p),some (Kd.row x).ae] rfl rfl (aZ (bO rfl rfl) (aq (by simp[Kd.ae,t,lc,Co.ae])))
 |.pair x y,k+1,h,l,d=>by
  simp only[dy,aE] at l;simp only[Kd.depth] at d;have t:=pR p x k h l.1 (by omega);have t2:=pR p y k h l.2 (by omega);exact bR (C:=run T k) (f:=eN) [some (.ref p),some (Kd.pair x y).ae] rfl rfl (ah (bO rfl rfl) (aZ (bO rfl rfl) (aq (by simp[Kd.ae,t,t2,lc,Co.ae]))))
 |.work _ _,k+1,h,l,_=>by simp[dy] at l
 |.any _,k+1,h,l,_=>by simp[dy] at l
 |.gap _,k+1,h,l,_=>by simp[dy] at l
 |_,0,h,l,d=>by omega
section
variable {C:Or}{h h1 h2 h':Hp}{σ:Env}
theorem vd{α:Type}{elt co:E}{g:α->W}{P:α->Bool}(he:∀x h,ag C elt (σ++[some (g x)]) h=.ok (g x) h):∀(l:List α)(acc:List W)(h:Hp),(∀x∈l,∀h1,ak h h1->∃h2,ag C co (σ++[some (g x)]) h1=.ok (.bl (P x)) h2/\ak h1 h2)->∃h',fo (iG (gp C (.some co)) (ag C elt) σ) (l.map g) acc h=.ok (acc++(l.filter P).map g) h'/\ak h h'
 |[],acc,h,_=>⟨h,by simp,ak.refl h⟩
 |x::l,acc,h,hl=>by
  obtain⟨h2,e2,g2⟩:=hl x (by simp) h (ak.refl h);obtain⟨h3,e3,g3⟩:=vd he l (if P x then acc++[g x] else acc) h2 (fun y hy h1 hh=>hl y (by simp[hy]) h1 (g2.trans hh));refine⟨h3,?_,g2.trans g3⟩;have:iG (gp C (.some co)) (ag C elt) σ (g x) acc h=.ok (if P x then acc++[g x] else acc) h2:=by
   unfold iG;rw[gM,e2];simp only[R.dY,R.af,iS,truth];cases P x with
   |true=>simp only[he x h2,R.dY,R.af,gQ]
   |false=>simp
  simp only[bx,fo,this,R.af,e3];rw[qy];split<;>simp
theorem vf{α:Type}{elt co:E}{it:It}{g:α->W}{P:α->Bool}{l:List α}(ei:dJ C it σ h=.ok (.fix (l.map g)) h)(hn:l.length<=SZ)(he:∀x h,ag C elt (σ++[some (g x)]) h=.ok (g x) h)(hl:∀x∈l,∀h1,ak h h1->∃h2,ag C co (σ++[some (g x)]) h1=.ok (.bl (P x)) h2/\ak h1 h2):∃h',ag C (.comp elt it (.some co)) σ h=.ok (.ref h'.length) (h'++[.lst ((l.filter P).map g)])/\ak h h':=by obtain⟨h',e,g1⟩:=vd (σ:=σ) (co:=co) (g:=g) (P:=P) (C:=C) he l [] h hl;refine⟨h',?_,g1⟩;rw[iw,ei,R.af];show (fo _ _ _ _).bind eL=_;rw[e];simp only[kJ,R.af,eL];rw[if_pos (by rw[fQ];exact bW (List.length_filter_le _ _) hn)];rfl
noncomputable def fA:Kd->List Kd
 |.row k=>[k]
 |.pair a b=>[a,b]
 |_=>[]
theorem pX(kd:Kd)(w:S)(hw:w≠dH/\w≠qD)(ek:kd.ae=.tup (.str w::(fA kd).map Kd.ae))(hd:∀x∈fA kd,x.depth<=48)(hr:∀x∈fA kd,∀h,∃h',C ff [x.ae] h=.ok (.bl (dy x)) h'/\ak h h')(hl:dy kd=(fA kd).all dy)(hn:(fA kd).length<=2):
  ∃h',aB C jk [kd.ae] h=.ok (.bl (dy kd)) h'/\ak h h':=by
 obtain⟨h1,e1,g1⟩:=vf (C:=C) (h:=h) (σ:=[some kd.ae]) (elt:=mn) (co:=iX) (it:=.seq (.sl (.var 0) (.some (.cst (.int 1))) .none)) (g:=Kd.ae) (P:=fun x=>!dy x) (l:=fA kd) (vY (a:=.str w) (by rw[ek];rfl)) (by simp[SZ];omega) (fun x h=>ao rfl) (fun x hx h1 _=>by
  obtain⟨h2,e2,g2⟩:=hr x hx h1;refine⟨h2,?_,g2⟩;simp[iX,e2])
 have g2:=g1.trans ((ak.app h1 [O.lst (((fA kd).filter fun x=>!dy x).map Kd.ae)]).trans (ak.app _ [O.lst []]));have md:=pk 48 ((fA kd).filter fun x=>!dy x) fun k hk=>hd k (lC.mp hk).1;have q:=nV (h:=h1++[O.lst (((fA kd).filter fun x=>!dy x).map Kd.ae)]) (a:=h1.length) (a9 _ _) (map_pure _) (by omega);refine⟨_,?_,g2⟩;have z:(((fA kd).filter fun x=>!dy x).map Kd.ae).isEmpty=dy kd:=by
  rw[hl];generalize fA kd=l
  induction l with
  |nil=>rfl
  |cons x r ih=>cases hx:dy x<;>simp[qy,hx]<;>simpa using ih
 rw[z] at q;have c0:ag C (.cmp .isin (.idx (.var 0) (.cst (.int 0))) (.tup (.cons (.cst (.str dH)) (.cons (.cst (.str qD)) .nil)))) [some kd.ae] h=.ok (.bl false) h:=by have t:=gE w [dH,qD] h;rw[bA (by simp[hw.1,hw.2])] at t;simp only[bx,eh] at t;simp[ek,t]
 exact bR [some kd.ae] rfl rfl (ah c0 (aq (fq e1 (h2:=(h1++[O.lst (((fA kd).filter fun x=>!dy x).map Kd.ae)])++[O.lst []]) rfl q)))
end
theorem oh:∀(kd:Kd)(k:Nat)(h:Hp),kd.over []->kd.depth+1<=k->kd.depth<=40->∃h',run T k ff [kd.ae] h=.ok (.bl (dy kd)) h'/\ak h h'
 |.num,k+1,h,_,_,_=>pX (C:=run T k) .num bM (by decide) rfl (by simp[fA]) (by simp[fA]) rfl (by simp[fA])
 |.tru,k+1,h,_,_,_=>pX (C:=run T k) .tru gq (by decide) rfl (by simp[fA]) (by simp[fA]) rfl (by simp[fA])
 |.row x,k+1,h,o,d,m=>by
  simp only[Kd.depth] at d m;exact pX (C:=run T k) (.row x) o8 (by decide) rfl (by simp[fA];omega) (fun y hy h=>by
   obtain rfl:=gH.mp hy;exact oh y k h o (by omega) (by omega)) (by simp[fA,dy]) (by simp[fA])
 |.pair x y,k+1,h,o,d,m=>by
  simp only[Kd.depth] at d m;exact pX (C:=run T k) (.pair x y) gz (by decide) rfl (by simp[fA];omega) (fun z hz h=>by
   simp only[fA,cY,rm,or_false] at hz;rcases hz with rfl|rfl
   .exact oh z k h o.1 (by omega) (by omega)
   .exact oh z k h o.2 (by omega) (by omega)) (by simp[fA,dy]) (by simp[fA])
 |.work x y,k+1,h,_,_,_=>⟨h,bR (C:=run T k) (f:=jk) [some (Kd.work x y).ae] rfl rfl (aZ (h':=h) (by have t:=gE dH [dH,qD] h;simp only[bx,eh] at t;simp[Kd.ae,t]) (aq rfl)),ak.refl h⟩
 |.any _,k+1,h,o,_,_=>by simp[Kd.over] at o
 |.gap _,k+1,h,o,_,_=>by simp[Kd.over] at o
 |_,0,h,o,d,m=>by omega
theorem ym(n:Nat):∀i:Nat,upTo (i:Int) n=(List.range' i n).map fun (j:Nat)=>W.int (j:Int):=by
 induction n with
 |zero=>intro i;rfl
 |succ n ih=>
  intro i;have:=ih (i+1);simp only[upTo,List.range'_succ,bx];rw[<-this];rfl
theorem mH{n:Nat}(hn:n<=1000):iH (n:Int)=true:=by unfold iH;rw[dG (by omega),dG (by omega)];rfl
section
variable {C:Or}{h h1 h2 h':Hp}{p b:Nat}{bd:List Kd}{kd:Kd}{e v:Int}
noncomputable abbrev sc(p b:Nat)(kd:Kd)(e v:Int)(g5 g6 g7 g8 g9:Option W):Env:=[some (.ref p),some (.ref b),some kd.ae,some (.int e),some (.int v),g5,g6,g7,g8,g9]
noncomputable def fit(bd:List Kd)(kd:Kd)(i:Nat):Bool:=decide (bd[bd.length-1-i]?=some kd)
theorem EY(eb:h[b]?=some (.lst (bd.map Kd.ae)))(hk:kd.depth<=50)(hb:∀x∈bd,x.depth<=8)(hn:bd.length<=1000):
  ∃h',ag C (.comp oG (.iT (.blt .len (.var 1))) (.some oJ)) (sc p b kd e v none none none none none) h=.ok (.ref h'.length) (h'++[.lst (((List.range bd.length).filter (fit bd kd)).map fun (j:Nat)=>W.int (j:Int))])/\ak h h':=by
 have it:dJ C (.iT (.blt .len (.var 1))) (sc p b kd e v none none none none none) h=.ok (.fix ((List.range bd.length).map fun (j:Nat)=>W.int (j:Int))) h:=by
  have u:=ym bd.length 0;have r1:iH (bd.length:Int)=true:=mH hn;have l1:ag C (.blt .len (.var 1)) (sc p b kd e v none none none none none) h=.ok (.int bd.length) h:=by simp[eb]
  rw[ly,l1,R.af];simp only[r1,gQ,Int.toNat_natCast];rw[List.range_eq_range',<-u];rfl
 refine vf (g:=fun (j:Nat)=>W.int (j:Int)) it (by simp[SZ];omega) (fun x h=>ao rfl) (fun j hj h1 g1=>⟨h1,?_,ak.refl _⟩);have hj:j<bd.length:=xA.mp hj;have e1:=g1.keep _ _ eb;obtain⟨y,t1,t2⟩:=qM (bd:=bd) (i':=(j:Int)) ⟨by omega,by omega⟩;have hy:=hb y (pd t1);have q:=Kd.bw h1 y kd (by omega) hk;have f:fit bd kd j=decide (y=kd):=by
  have:bd[bd.length-1-j]?=some y:=by simpa using t1
  simp[fit,this]
 rw[f];exact fq (u:=y.ae) (h1:=h1) (by simp[e1,t2]) (ao rfl) q
theorem Gp{i:Nat}(hi:i<bd.length)(f:fit bd kd i=true):jd (.lf (.var i)) bd=some kd:=by simp only[fit,aQ] at f;simp only[jd,Lf.jd];rw[if_pos ⟨by omega,by omega⟩];simpa using f
end
noncomputable def Co.sub:Co->Nat->Option Co
 |.fn _ c,2=>some c
 |.n1 _ a,1=>some a
 |.n2 _ a _,1=>some a
 |.n2 _ _ b,2=>some b
 |.n3 _ a _ _,1=>some a
 |.n3 _ _ b _,2=>some b
 |.n3 _ _ _ c,3=>some c
 |_,_=>none
noncomputable def Co.jR:Co->Nat->Co->Co
 |.fn k _,2,x=>.fn k x
 |.n1 t _,1,x=>.n1 t x
 |.n2 t _ b,1,x=>.n2 t x b
 |.n2 t a _,2,x=>.n2 t a x
 |.n3 t _ b c,1,x=>.n3 t x b c
 |.n3 t a _ c,2,x=>.n3 t a x c
 |.n3 t a b _,3,x=>.n3 t a b x
 |c,_,_=>c
inductive At:Co->List Nat->Prop
 |nil (c:Co):At c []
 |cons {c x:Co}{i:Nat}{r:List Nat}:c.sub i=some x->At x r->At c (i::r)
noncomputable def Co.put:Co->List Nat->Co->Co
 |_,[],n=>n
 |c,i::r,n=>match c.sub i with
  |some x=>c.jR i (x.put r n)
  |none=>c
noncomputable def Co.items:Co->List W
 |.lf (.num i)=>[.str bM,.int i]
 |.lf .yes=>[.str iz]
 |.lf .no=>[.str kU]
 |.lf (.var i)=>[.str oS,.int i]
 |.lf (.aw k)=>[.str oz,k.ae]
 |.lf (.dE k)=>[.str lX,k.ae]
 |.lf (.dfn n ks)=>[.str jK,.int n,.tup (ks.map Kd.ae)]
 |.fn k c=>[.str iZ,k.ae,c.ae]
 |.n1 t a=>[.str t.s,a.ae]
 |.n2 t a b=>[.str t.s,a.ae,b.ae]
 |.n3 t a b c=>[.str t.s,a.ae,b.ae,c.ae]
theorem kr(c:Co):c.ae=.tup c.items:=by
 cases c with
 |lf l=>cases l<;>rfl
 |_=>rfl
theorem zu{c x:Co}{i:Nat}(e:c.sub i=some x):i<c.items.length/\0<i/\c.items[i]?=some x.ae/\∀y:Co,(c.jR i y).ae=.tup (c.items.take i++[y.ae]++c.items.drop (i+1)):=by unfold Co.sub at e;split at e<;>first|(cases e;done)|(cases e;refine⟨by simp[Co.items],by decide,rfl,fun y=>rfl⟩)
theorem rN{c x:Co}{i:Nat}(e:c.sub i=some x):x.depth+1<=c.depth/\(c.kd 8->x.kd 8)/\∀y:Co,(c.jR i y).depth<=max c.depth (y.depth+1)/\(c.kd 8->y.kd 8->(c.jR i y).kd 8)/\(c.jR i y).turns<=c.turns+y.turns:=by unfold Co.sub at e;split at e<;>first|(cases e;done)|(cases e;refine⟨by simp only[Co.depth];omega,by simp only[Co.kd];intro a;simp_all,fun y=>⟨by simp only[Co.jR,Co.depth];omega,by simp only[Co.jR,Co.kd];intro a a2;simp_all,by simp only[Co.jR,Co.turns];omega⟩⟩)
theorem so{c:Co}{r:List Nat}(a:At c r)(n:Co):r.length<=c.depth/\(c.put r n).depth<=c.depth+n.depth/\(c.kd 8->n.kd 8->(c.put r n).kd 8)/\(c.put r n).turns<=c.depth * c.turns+c.turns+n.turns:=by
 induction a with
 |nil c=>exact⟨by simp,by simp[Co.put],fun _ h=>by simpa [Co.put] using h,by simp[Co.put]⟩
 | @cons c x i r e a ih=>
  obtain⟨s1,s2,s3⟩:=rN e;obtain⟨t1,t2,t3⟩:=s3 (x.put r n);have ex:c.put (i::r) n=c.jR i (x.put r n):=by simp[Co.put,e]
  rw[ex];refine⟨by simp;omega,by omega,fun hc hn=>t2 hc (ih.2.2.1 (s2 hc) hn),?_⟩;have xt:x.turns<=c.turns:=by unfold Co.sub at e;split at e<;>first|(cases e;done)|(cases e;simp only[Co.turns];omega)
  have m1:x.depth * x.turns<=x.depth * c.turns:=Nat.mul_le_mul_left _ xt;have m2:(x.depth+1) * c.turns<=c.depth * c.turns:=Nat.mul_le_mul_right _ s1;rw[Nat.add_mul] at m2;have:=ih.2.2.2;omega
abbrev cI(r:List Nat):W:=.tup (r.map fun (j:Nat)=>W.int (j:Int))
theorem mM:∀r:List Nat,eI (r.map fun (j:Nat)=>W.int (j:Int))=true
 |[]=>rfl
 |x::r=>by simp[eI,W.pure,mM r]
theorem nD:∀r:List Nat,dg (r.map fun (j:Nat)=>W.int (j:Int))=0
 |[]=>rfl
 |x::r=>by simp[dg,W.deep,nD r]
theorem Dm(h:Hp)(r:List Nat):bw h (cI r) (.tup [])=some r.isEmpty:=by
 have t:=lN h (r.map fun (j:Nat)=>W.int (j:Int)) 59 (mM r) (by rw[nD];omega);cases r with
 |nil=>simp[bw,cw]
 |cons x r=> 
  simp only[bx] at t;simp[bw,cw] at t⊢;simp[t]
section
variable {C:Or}{h:Hp}{σ:Env}{xs l:List W}{a:W}{i n:Nat}
theorem Nb(e:σ[n]?=some (some (.tup (a::l)))):ag C (.sl (.var n) (.some (.cst (.int 1))) .none) σ h=.ok (.tup l) h:=by
 have h1:bc (l.length+1) 0 (some 1)=1:=by simp[bc]
 have h2:bc (l.length+1) (l.length+1) none=l.length+1:=rfl;have h3:cut (a::l) (some 1) none=l:=by simp[cut,h1,h2]
 simp[e,h1,h2,h3]
theorem Bc(hi:i<xs.length):slice (.tup xs) none (some (.int (i:Int))) h=.ok (.tup (xs.take i)) h:=by
 have h2:bc xs.length xs.length (some (i:Int))=i:=by unfold bc;simp only[];rw[if_neg (by omega)];omega
 have h1:bc xs.length 0 none=0:=rfl;have h3:cut xs none (some (i:Int))=xs.take i:=by simp[cut,h1,h2]
 simp[h2,h3,show ¬ i=xs.length by omega]
theorem xl(hi:i<xs.length):slice (.tup xs) (some (.int ((i:Int)+1))) none h=.ok (.tup (xs.drop (i+1))) h:=by
 have h1:bc xs.length 0 (some ((i:Int)+1))=i+1:=by unfold bc;simp only[];rw[if_neg (by omega)];omega
 have h2:bc xs.length xs.length none=xs.length:=rfl;have h3:cut xs (some ((i:Int)+1)) none=xs.drop (i+1):=by simp only[cut,h1,h2];rw[List.take_of_length_le (by simp)]
 simp[h1,h3]
theorem BQ(c:Co):c.items.length<=4:=by
 cases c with
 |lf l=>cases l<;>simp[Co.items]
 |_=>simp[Co.items]
theorem AW{c x n y:Co}{i:Nat}{r:List Nat}(e:c.sub i=some x)(hr:C ip [x.ae,cI r,n.ae] h=.ok y.ae h):aB C ou [c.ae,cI (i::r),n.ae] h=.ok (c.jR i y).ae h:=by
 obtain⟨s1,s2,s3,s4⟩:=zu e;have il:=BQ c;have q:ag C (.cmp .eq (.var 1) (.tup .nil)) [some c.ae,some (cI (i::r)),some n.ae] h=.ok (.bl false) h:=fq (ao rfl) (v:=.tup []) (h2:=h) rfl (Dm h (i::r));have i0:ag C (.idx (.var 1) (.cst (.int 0))) [some c.ae,some (cI (i::r)),some n.ae] h=.ok (.int (i:Int)) h:=by simp
 have x0:ag C (.idx (.var 0) (.idx (.var 1) (.cst (.int 0)))) [some c.ae,some (cI (i::r)),some n.ae] h=.ok x.ae h:=by have t:=f6 c.items i s1;rw[gJ s1] at s3;injection s3 with s3;rw[s3] at t;rw[iC,ao (v:=c.ae) rfl,R.af,i0,R.af,kr c];simp[t]
 have a1:ag C (.sl (.var 0) .none (.some (.idx (.var 1) (.cst (.int 0))))) [some c.ae,some (cI (i::r)),some n.ae] h=.ok (.tup (c.items.take i)) h:=by have t:=Bc (h:=h) s1;rw[zb,ao (v:=c.ae) rfl,R.af,fT,R.af,gM,i0];simp only[R.af,R.dY];rw[kr c];exact t
 have a2:ag C (.sl (.var 0) (.some (.bin .add (.idx (.var 1) (.cst (.int 0))) (.cst (.int 1)))) .none) [some c.ae,some (cI (i::r)),some n.ae] h=.ok (.tup (c.items.drop (i+1))) h:=by
  have t:=xl (h:=h) s1;have b1:ag C (.bin .add (.idx (.var 1) (.cst (.int 0))) (.cst (.int 1))) [some c.ae,some (cI (i::r)),some n.ae] h=.ok (.int ((i:Int)+1)) h:=by rw[gO,i0];simp
  rw[zb,ao (v:=c.ae) rfl,R.af,gM,b1];simp only[R.af,R.dY,fT];rw[kr c];exact t
 have a3:ag C (.tup (.cons (.call ip (.cons (.idx (.var 0) (.idx (.var 1) (.cst (.int 0)))) (.cons (.sl (.var 1) (.some (.cst (.int 1))) .none) (.cons (.var 2) .nil)))) .nil)) [some c.ae,some (cI (i::r)),some n.ae] h=.ok (.tup [y.ae]) h:=by have s:=Nb (C:=C) (h:=h) (n:=1) (σ:=[some c.ae,some (cI (i::r)),some n.ae]) (a:=.int (i:Int)) (l:=r.map fun (j:Nat)=>W.int (j:Int)) rfl;rw[cN,ai,bf,ai,x0,R.af,ai,s,R.af,ai,ao (i:=2) rfl];simp only[R.af,lH,hr]
 refine bR [some c.ae,some (cI (i::r)),some n.ae] rfl rfl (ah q (aq ?_));rw[gO,gO,a1,R.af,a3,R.af];have t1:(c.items.take i).length<=4:=by simp;omega
 have t2:(c.items.drop (i+1)).length<=4:=by simp;omega
 have e1:bin .add (.tup (c.items.take i)) (.tup [y.ae]) h=.ok (.tup (c.items.take i++[y.ae])) h:=by simp only[bin];rw[if_pos ⟨trivial,by simp only[dw,ll,SZ];omega⟩]
 have e2:bin .add (.tup (c.items.take i++[y.ae])) (.tup (c.items.drop (i+1))) h=.ok (.tup (c.items.take i++[y.ae]++c.items.drop (i+1))) h:=by simp only[bin];rw[if_pos ⟨trivial,by simp only[gR,dw,ll,SZ];omega⟩]
 rw[e1,R.af,a2,R.af,e2,s4]
end
theorem D7{c:Co}{r:List Nat}(a:At c r)(n:Co)(h:Hp):∀k,r.length+1<=k->run T k ip [c.ae,cI r,n.ae] h=.ok (c.put r n).ae h:=by
 induction a with
 |nil c=>
  intro k hk;obtain⟨k,rfl⟩:∃j,k=j+1:=⟨k-1,by omega⟩;exact bR (C:=run T k) (f:=ou) [some c.ae,some (cI []),some n.ae] rfl rfl (aZ (fq (ao rfl) (v:=.tup []) (h2:=h) rfl (Dm h [])) (aq (ao rfl)))
 | @cons c x i r e a ih=>
  intro k hk;simp only[dw] at hk;obtain⟨k,rfl⟩:∃j,k=j+1:=⟨k-1,by omega⟩;rw[show c.put (i::r) n=c.jR i (x.put r n) by simp[Co.put,e]];exact AW (C:=run T k) e (ih k (by omega))
noncomputable def Co.bQ:Co->List Nat
 |.lf _=>[]
 |.fn _ _=>[2]
 |.n1 _ _=>[1]
 |.n2 _ _ _=>[1,2]
 |.n3 _ _ _ _=>[1,2,3]
theorem DF(c:Co):∀i∈c.bQ,∃x,c.sub i=some x:=by cases c<;>simp[Co.bQ,Co.sub]
section
variable {C:Or}{h:Hp}
abbrev nB:List S:=[bM,iz,kU,oS,jK,oz,lX]
theorem Bt{w:S}{r:List W}:ag C (.cmp .isin (.idx (.var 0) (.cst (.int 0))) (.tup (.cons (.cst (.str bM)) (.cons (.cst (.str iz)) (.cons (.cst (.str kU)) (.cons (.cst (.str oS)) (.cons (.cst (.str jK)) (.cons (.cst (.str oz)) (.cons (.cst (.str lX)) .nil))))))))) [some (.tup (.str w::r))] h=.ok (.bl (decide (w∈nB))) h:=by
 have t:=gE w nB h;have t2:ag C (.tup (.cons (.cst (.str bM)) (.cons (.cst (.str iz)) (.cons (.cst (.str kU)) (.cons (.cst (.str oS)) (.cons (.cst (.str jK)) (.cons (.cst (.str oz)) (.cons (.cst (.str lX)) .nil)))))))) [some (.tup (.str w::r))] h=.ok (.tup (nB.map W.str)) h:=rfl;have t1:ag C (.idx (.var 0) (.cst (.int 0))) [some (.tup (.str w::r))] h=.ok (.str w) h:=by simp
 rw[kT,t1,R.af,t2,R.af];simp only[cmp,t];rfl
theorem mZ{w:S}{r:List W}(hw:w∉nB)(hf:w≠iZ)(hr:r.length<900):aB C iU [.tup (.str w::r)] h=.ok (.ref h.length) (h++[.lst (upTo 1 r.length)]):=by
 refine bR [some (.tup (.str w::r))] rfl rfl (ah (h':=h) (by rw[Bt,bA hw]) (aq (bL (o:=false) (bO rfl (bA hf)) (fun z=>nomatch z) (fun _=>?_))));have l1:ag C (.blt .len (.var 0)) [some (.tup (.str w::r))] h=.ok (.int ((r.length:Int)+1)) h:=by simp
 rw[AD,bu,R.af,l1,R.af];simp only[];rw[if_pos ⟨by omega,by omega,by omega,by omega⟩];rw[show ((r.length:Int)+1-1).toNat=r.length by omega];rfl
theorem BE(c:Co):aB C iU [c.ae] h=.ok (.ref h.length) (h++[.lst (c.bQ.map fun (j:Nat)=>W.int (j:Int))]):=by
 cases c with
 |lf l=>
  have key:∀(w:S)(r:List W),w∈nB->aB C iU [.tup (.str w::r)] h=.ok (.ref h.length) (h++[.lst []]):=fun w r hw=>
   bR [some (.tup (.str w::r))] rfl rfl (aZ (h':=h) (by rw[Bt,dG hw]) (aq rfl))
  cases l<;>exact key _ _ (by decide)
 |fn k c=>
  exact bR [some (Co.fn k c).ae] rfl rfl (ah (h':=h) (by have t:=Bt (C:=C) (h:=h) (w:=iZ) (r:=[k.ae,c.ae]);rw[bA (by decide)] at t;exact t) (aq (bL (o:=true) (h1:=h) (bO (w:=iZ) rfl rfl) (fun _=>rfl) (fun z=>nomatch z))))
 |n1 t a=>exact mZ (w:=t.s) (r:=[a.ae]) (by cases t<;>decide) (by cases t<;>decide) (by simp)
 |n2 t a b=>exact mZ (w:=t.s) (r:=[a.ae,b.ae]) (by cases t<;>decide) (by cases t<;>decide) (by simp)
 |n3 t a b c=>exact mZ (w:=t.s) (r:=[a.ae,b.ae,c.ae]) (by cases t<;>decide) (by cases t<;>decide) (by simp)
end
noncomputable def cu:Co->List (List Nat)
 |.lf _=>[[]]
 |.fn _ c=>[]::(cu c).map (2:: ·)
 |.n1 _ a=>[]::(cu a).map (1:: ·)
 |.n2 _ a b=>[]::((cu a).map (1:: ·)++(cu b).map (2:: ·))
 |.n3 _ a b c=>[]::((cu a).map (1:: ·)++((cu b).map (2:: ·)++(cu c).map (3:: ·)))
def kv(c:Co)(i:Nat):List (List Nat):=match c.sub i with
 |some x=>(cu x).map (i:: ·)
 |none=>[]
theorem p0(c:Co):cu c=[]::c.bQ.flatMap (kv c):=by cases c<;>simp[cu,Co.bQ,kv,Co.sub]
theorem fH:∀c:Co,2 * (cu c).length=c.turns
 |.lf _=>rfl
 |.fn _ c=>by have:=fH c;simp[cu,Co.turns];omega
 |.n1 _ a=>by have:=fH a;simp[cu,Co.turns];omega
 |.n2 _ a b=>by have:=fH a;have:=fH b;simp[cu,Co.turns];omega
 |.n3 _ a b c=>by have:=fH a;have:=fH b;have:=fH c;simp[cu,Co.turns];omega
theorem hU:∀(c:Co),∀r∈cu c,At c r
 |.lf _,r,h=>by simp[cu] at h;subst h;exact .nil _
 |.fn k c,r,h=>by
  simp only[cu,cY,gC] at h;rcases h with rfl|⟨x,hx,rfl⟩
  .exact .nil _
  .exact .cons (x:=c) rfl (hU c x hx)
 |.n1 t a,r,h=>by
  simp only[cu,cY,gC] at h;rcases h with rfl|⟨x,hx,rfl⟩
  .exact .nil _
  .exact .cons (x:=a) rfl (hU a x hx)
 |.n2 t a b,r,h=>by
  simp only[cu,cY,kK,gC] at h;rcases h with rfl|⟨x,hx,rfl⟩|⟨x,hx,rfl⟩
  .exact .nil _
  .exact .cons (x:=a) rfl (hU a x hx)
  .exact .cons (x:=b) rfl (hU b x hx)
 |.n3 t a b c,r,h=>by
  simp only[cu,cY,kK,gC] at h;rcases h with rfl|⟨x,hx,rfl⟩|⟨x,hx,rfl⟩|⟨x,hx,rfl⟩
  .exact .nil _
  .exact .cons (x:=a) rfl (hU a x hx)
  .exact .cons (x:=b) rfl (hU b x hx)
  .exact .cons (x:=c) rfl (hU c x hx)
section
variable {C:Or}{h h1:Hp}{q:Nat}{σ:Env}
theorem tR{α:Type}{g f:α->W}{K:W->List W->Hp->R (List W)}{l:List α}(e:dO h q=some (l.map g))(hK:∀x∈l,∀acc,K (g x) acc h=.ok (acc++[f x]) h):∀(n i:Nat)(acc:List W),i+n=l.length->bY q K n i acc h=.ok (acc++(l.drop i).map f) h
 |0,i,acc,hn=>by
  unfold bY;rw[e];have:(l.map g)[i]?=none:=nh (by simp;omega);simp only[this];rw[List.drop_of_length_le (by omega)];simp
 |n+1,i,acc,hn=>by
  unfold bY;have hx:(l.map g)[i]?=some (g l[i]):=by rw[jS,gJ (by omega)];rfl
  simp only[e,hx,hK _ (uF _),R.af];rw[tR e hK n (i+1) _ (by omega),AX (by omega:i<l.length),bx,rh];rfl
theorem BD{α:Type}{g f:α->W}{elt:E}{it:It}{l:List α}(ei:dJ C it σ h=.ok (.at q l.length) h1)(e:h1[q]?=some (.lst (l.map g)))(hl:l.length<=SZ)(he:∀x∈l,ag C elt (σ++[some (g x)]) h1=.ok (f x) h1):
  ag C (.comp elt it .none) σ h=.ok (.ref h1.length) (h1++[.lst (l.map f)]):=by
 rw[iw,ei,R.af];show (bY q _ l.length 0 [] h1).bind eL=_;rw[tR (g:=g) (f:=f) (l:=l) (by simp[dO,e]) (fun x hx acc=>?_) l.length 0 [] (by omega)]
 .simp only[List.drop_zero,kJ,R.af,eL];rw[if_pos (by rw[fQ];exact hl)];rfl
 .unfold iG;rw[fT];simp only[R.dY,R.af,iS,he x hx]
theorem DU{c x:Co}{i f:Nat}{done:List (List Nat)}{o2:Option W}(e:c.sub i=some x)(ef:h[f]?=some (.lst (done.map cI)))(hx:∃h1 q,C dN [x.ae] h=.ok (.ref q) h1/\h1[q]?=some (.lst ((cu x).map cI))/\ak h h1)(hd:∀r∈cu x,r.length<=1000)(h1:(cu x).length<=1000000)(h2:done.length<=1000000):
  ∃h' f',av C i7 [some c.ae,some (.ref f),some (.int (i:Int))] h=.ok (.next [some c.ae,some (.ref f'),some (.int (i:Int))]) h'/\h'[f']?=some (.lst ((done++kv c i).map cI))/\ak h h':=by
 obtain⟨h3,q,c1,c2,g⟩:=hx;obtain⟨s1,s2,s3,s4⟩:=zu e;have x0:ag C (.idx (.var 0) (.var 2)) [some c.ae,some (.ref f),some (.int (i:Int))] h=.ok x.ae h:=by have t:=f6 c.items i s1;rw[gJ s1] at s3;injection s3 with s3;rw[s3] at t;rw[iC,ao (v:=c.ae) rfl,R.af,ao (v:=.int (i:Int)) rfl,R.af,kr c];simp[t]
 have it:dJ C (.seq (.call dN (.cons (.idx (.var 0) (.var 2)) .nil))) [some c.ae,some (.ref f),some (.int (i:Int))] h=.ok (.at q (cu x).length) h3:=by have cc:ag C (.call dN (.cons (.idx (.var 0) (.var 2)) .nil)) [some c.ae,some (.ref f),some (.int (i:Int))] h=.ok (.ref q) h3:=aH (gG x0) c1;rw[ua,cc,R.af];simp[c2]
 have cm:=BD (C:=C) (g:=cI) (f:=fun r=>cI (i::r)) (elt:=iY) it c2 (by simp[SZ];omega) (fun r hr=>by
  have:=hd r hr;have t1:ag C (.tup (.cons (.var 2) .nil)) ([some c.ae,some (.ref f),some (.int (i:Int))]++[some (cI r)]) h3=.ok (.tup [.int (i:Int)]) h3:=rfl;have t2:ag C (.var 3) ([some c.ae,some (.ref f),some (.int (i:Int))]++[some (cI r)]) h3=.ok (cI r) h3:=ao rfl;rw[iY,gO,t1,R.af,t2,R.af];simp only[bin];rw[if_pos ⟨trivial,by simp only[dw,ll,fQ,SZ];omega⟩];rfl)
 have ef3:=aA [O.lst ((cu x).map fun r=>cI (i::r))] (g.keep _ _ ef);have en:=a9 h3 (O.lst ((cu x).map fun r=>cI (i::r)));refine⟨(h3++[O.lst ((cu x).map fun r=>cI (i::r))])++[O.lst (done.map cI++(cu x).map fun r=>cI (i::r))],(h3++[O.lst ((cu x).map fun r=>cI (i::r))]).length,?_,?_,(g.trans (ak.app _ _)).trans (ak.app _ _)⟩
 .refine aW (w:=.ref (h3++[O.lst ((cu x).map fun r=>cI (i::r))]).length) (h':=(h3++[O.lst ((cu x).map fun r=>cI (i::r))])++[O.lst (done.map cI++(cu x).map fun r=>cI (i::r))]) ?_ rfl;rw[gO,ao (v:=.ref f) rfl,R.af,cm,R.af];simp only[bin,ef3,en];rw[if_pos ⟨trivial,by simp[SZ];omega⟩];rfl
 .rw[a9];simp[kv,e,Function.comp_def]
end
theorem z7{c:Co}{r:List Nat}(a:At c r):r.length<=c.depth:=(so a c).1
theorem zN{c x:Co}{i:Nat}(e:c.sub i=some x):x.turns<=c.turns:=by unfold Co.sub at e;split at e<;>first|(cases e;done)|(cases e;simp only[Co.turns];omega)
theorem qc:∀(n:Nat)(c:Co)(k:Nat)(h:Hp),c.depth<n->c.depth+2<=k->c.depth<=900->c.turns<=1000000->∃h' q,run T k dN [c.ae] h=.ok (.ref q) h'/\h'[q]?=some (.lst ((cu c).map cI))/\ak h h'
 |0,c,k,h,hn,_,_,_=>by omega
 |n+1,c,k,h,hn,hk,hd,ht=>by
  obtain⟨k,rfl⟩:∃j,k=j+2:=⟨k-2,by omega⟩;have e0:(h++[O.lst [W.tup []]]++[O.lst (c.bQ.map fun (j:Nat)=>W.int (j:Int))])[h.length+1]?=some (.lst (c.bQ.map fun (j:Nat)=>W.int (j:Int))):=by simp
  have G0:ak h (h++[O.lst [W.tup []]]++[O.lst (c.bQ.map fun (j:Nat)=>W.int (j:Int))]):=(ak.app _ _).trans (ak.app _ _);obtain⟨σ',h',t1,f',o2,t2,t3,t4⟩:=yb (a:=h.length+1) (t:=.var 2) (k:=av (run T (k+1)) i7) (xs:=c.bQ.map fun (j:Nat)=>W.int (j:Int))
   (fun i σ h1=>∃f o2,σ=[some c.ae,some (.ref f),o2]/\h1[f]?=some (.lst (([]::(c.bQ.take i).flatMap (kv c)).map cI))/\ak (h++[O.lst [W.tup []]]++[O.lst (c.bQ.map fun (j:Nat)=>W.int (j:Int))]) h1)
   (fun i σ h1 ⟨f,o2,_,_,g⟩=>by simp[dO,g.keep _ _ e0])
   (fun i σ h1 x ⟨f,o2,es,ef,g⟩ ex=>by
    rw[jS] at ex;cases ei:c.bQ[i]? with
    |none=>rw[ei] at ex;cases ex
    |some j=>
     rw[ei] at ex;cases ex;subst es;obtain⟨y,ey⟩:=DF c j (pd ei);have sd:=(rN ey).1;have st:=zN ey;have pc:=fH c;have py:=fH y;have dl:([]::(c.bQ.take i).flatMap (kv c)).length<=(cu c).length:=by have z:=c9 (fun l=>(l.flatMap (kv c)).length) (List.take_append_drop i c.bQ);simp only[List.flatMap_append,gR] at z;rw[p0 c];simp only[dw];omega
     obtain⟨h2,f2,p1,p2,p3⟩:=DU (C:=run T (k+1)) (c:=c) (x:=y) (i:=j) (done:=[]::(c.bQ.take i).flatMap (kv c)) (o2:=o2) ey ef (by obtain⟨h3,q,a1,a2,a3⟩:=qc n y (k+1) h1 (by omega) (by omega) (by omega) (by omega);exact⟨h3,q,a1,a2,a3⟩) (fun r hr=>by have:=z7 (hU y r hr);omega) (by omega) (by omega)
     refine⟨[some c.ae,some (.ref f),some (.int (j:Int))],rfl,_,h2,p1,f2,_,rfl,?_,g.trans p3⟩;rw[p2,List.take_add_one,ei];simp[List.flatMap_append])
   c.bQ.length 0 [some c.ae,some (.ref h.length),none] (h++[O.lst [W.tup []]]++[O.lst (c.bQ.map fun (j:Nat)=>W.int (j:Int))]) (by simp) ⟨h.length,none,rfl,by simp,ak.refl _⟩
  subst t2;refine⟨h',f',?_,?_,G0.trans t4⟩
  .refine bR (C:=run T (k+1)) (f:=lW) [some c.ae,none,none] rfl rfl (aW (w:=.ref h.length) (h':=h++[O.lst [W.tup []]]) (by kernel_rfl) (fW (σ':=[some c.ae,some (.ref f'),o2]) (h':=h') ?_ (aq (ao rfl))));have ic:ag (run T (k+1)) (.call nE (.cons (.var 0) .nil)) [some c.ae,some (.ref h.length),none] (h++[O.lst [W.tup []]])=.ok (.ref (h.length+1)) (h++[O.lst [W.tup []]]++[O.lst (c.bQ.map fun (j:Nat)=>W.int (j:Int))]):=by
    have:=BE (C:=run T k) (h:=h++[O.lst [W.tup []]]) c;refine aH (gG (ao rfl)) ?_;rw[show h.length+1=(h++[O.lst [W.tup []]]).length by simp];exact this
   rw[jt,show List.set [some c.ae,none,none] 1 (some (W.ref h.length))=[some c.ae,some (.ref h.length),none] from rfl,ua,ic,R.af];simp only[src,e0,R.of,R.af,turns,fQ];exact t1
  .rw[t3,p0 c];simp
theorem Ao(d k p:Nat)(h:Hp)(g:Gen p h)(hk:d+2<=k):∃(kd:Kd) (h':Hp),run T k bI [.ref p,.int d,.ref h.length] (h++[.lst []])=.ok kd.ae h'/\kd.depth<=d/\kd.over []/\Ext p h h'/\Gen p h':=by obtain⟨kd,h1,i⟩:=vN (T:=T) (nx:=az) (self:=bI) (p:=p) (q:=h.length) (names:=[]) rfl rfl (bo g.gP) d (k-d-2) (h++[O.lst []]) (g.ext _) (by simp);rw[show d+(k-d-2)+2=k by omega] at i;exact⟨kd,h1,i.eq,i.deep,i.over,(Ext.app p h _).trans i.ext,i.gen⟩
section
variable {C:Or}{h h1:Hp}{σ:Env}{i p:Nat}
theorem ui(d:Nat)(ei:σ[i]?=some (some (.ref p))){kd:Kd}(e:C bI [.ref p,.int d,.ref h.length] (h++[.lst []])=.ok kd.ae h1):ag C (.call bI (.cons (.var i) (.cons (.cst (.int d)) (.cons (.lst .nil) .nil)))) σ h=.ok kd.ae h1:=by have l:ag C (.lst .nil) σ h=.ok (.ref h.length) (h++[.lst []]):=rfl;rw[bf,ai,ao ei,R.af,ai,bu,R.af,ai,l];exact e
theorem mV{m v:Int}(ei:σ[i]?=some (some (.ref p)))(e:C az [.ref p,.int m] h=.ok (.int v) h1):ag C (.call az (.cons (.var i) (.cons (.cst (.int m)) .nil))) σ h=.ok (.int v) h1:=
 aH (dF (ao ei) bu) e
end
structure Mk(p:Nat)(bd:List Kd)(kd:Kd)(D t:Nat)(h:Hp)(r:R W)(c:Co)(h':Hp):Prop where
 eq:r=.ok c.ae h'
 jd:K04.jd c bd=some kd
 fO:c.kd 8
 deep:c.depth<=D
 ig:c.turns<=t
 ext:Ext p h h'
 gen:Gen p h'
structure In(p b:Nat)(bd:List Kd)(h:Hp):Prop where
 look:h[b]?=some (.lst (bd.map Kd.ae))
 ne:b≠p
theorem In.to{p b:Nat}{bd:List Kd}{h h':Hp}(i:In p b bd h)(x:Ext p h h'):In p b bd h':=⟨x.keep _ _ i.look i.ne,i.ne⟩
theorem Mk.le{p:Nat}{bd:List Kd}{kd:Kd}{D t D' t':Nat}{h h':Hp}{r:R W}{c:Co}(m:Mk p bd kd D t h r c h')(a:D<=D')(b:t<=t'):Mk p bd kd D' t' h r c h':=
 ⟨m.eq,m.jd,m.fO,bW m.deep a,bW m.ig b,m.ext,m.gen⟩
theorem Mk.as{p:Nat}{bd:List Kd}{kd:Kd}{D t:Nat}{h h0 h':Hp}{r r':R W}{c:Co}(m:Mk p bd kd D t h r c h')(x:Ext p h0 h)(e:r'=.ok c.ae h'):Mk p bd kd D t h0 r' c h':=
 ⟨e,m.jd,m.fO,m.deep,m.ig,x.trans m.ext,m.gen⟩
noncomputable abbrev cE(X:E):E:=.call aR (.cons (.var 0) (.cons (.var 1) (.cons X (.cons (.bin .sub (.var 3) (.cst (.int 1))) .nil))))
def Cr(C:Or)(p b:Nat)(bd:List Kd)(e:Int)(D t:Nat)(k:Kd):Prop:=∀h,Gen p h->In p b bd h->∃c h',Mk p bd k D t h (C aR [.ref p,.ref b,k.ae,.int (e-1)] h) c h'
def Pt(C:Or)(σ:Env)(p b:Nat)(bd:List Kd)(D t:Nat)(k:Kd)(Y:E):Prop:=∀h,Gen p h->In p b bd h->∃c h',Mk p bd k D t h (ag C Y σ h) c h'
section
variable {C:Or}{σ:Env}{p b D t i:Nat}{bd:List Kd}{k ka kb kc kd:Kd}{e:Int}{X Y Z:E}{c:Co}
theorem cM(s0:σ[0]?=some (some (.ref p)))(s1:σ[1]?=some (some (.ref b)))(s3:σ[3]?=some (some (.int e)))(eX:∀h,ag C X σ h=.ok k.ae h)(cr:Cr C p b bd e D t k):Pt C σ p b bd D t k (cE X):=by
 intro h g i;obtain⟨c,h',m⟩:=cr h g i;refine⟨c,h',m.as (Ext.refl _ _) ?_⟩;have l:ag C (.bin .sub (.var 3) (.cst (.int 1))) σ h=.ok (.int (e-1)) h:=by simp[s3]
 rw[bf,ai,ao s0,R.af,ai,ao s1,R.af,ai,eX,R.af,ai,l];exact m.eq
theorem mW(s:σ[i]?=some (some c.ae))(j:jd c bd=some k)(k8:c.kd 8)(d:c.depth<=D)(tr:c.turns<=t):Pt C σ p b bd D t k (.var i):=by intro h g _;exact⟨c,h,ao s,j,k8,d,tr,Ext.refl _ _,g⟩
theorem node1{D' t':Nat}(tg:T1)(a:Pt C σ p b bd D t ka X)(j:tg.j ka=some kd)(hD:D+1<=D')(ht:t+2<=t'):Pt C σ p b bd D' t' kd (.tup (.cons (.cst (.str tg.s)) (.cons X .nil))):=by
 intro h g i;obtain⟨c,h1,m⟩:=a h g i;refine⟨.n1 tg c,h1,?_,?_,m.fO,bW (Nat.succ_le_succ m.deep) hD,bW (Nat.add_le_add_right m.ig 2) ht,m.ext,m.gen⟩
 .rw[cN,ai,bu,R.af,ai,m.eq];rfl
 .rw[jd,m.jd];exact j
theorem node2{D2 t2 D' t':Nat}(tg:T2)(a:Pt C σ p b bd D t ka X)(a2:Pt C σ p b bd D2 t2 kb Y)(j:tg.j ka kb=some kd)(hD:D+1<=D')(wz:D2+1<=D')(ht:t+t2+2<=t'):Pt C σ p b bd D' t' kd (.tup (.cons (.cst (.str tg.s)) (.cons X (.cons Y .nil)))):=by
 intro h g i;obtain⟨c,h1,m⟩:=a h g i;obtain⟨c2,h2,m2⟩:=a2 h1 m.gen (i.to m.ext);refine⟨.n2 tg c c2,h2,?_,?_,⟨m.fO,m2.fO⟩,?_,?_,m.ext.trans m2.ext,m2.gen⟩
 .rw[cN,ai,bu,R.af,ai,m.eq,R.af,ai,m2.eq];rfl
 .rw[jd,m.jd,m2.jd];exact j
 .have:=m.deep;have:=m2.deep;simp only[Co.depth];omega
 .have:=m.ig;have:=m2.ig;simp only[Co.turns];omega
theorem node3{D' t':Nat}(tg:T3)(a:Pt C σ p b bd D t ka X)(a2:Pt C σ p b bd D t kb Y)(a3:Pt C σ p b bd D t kc Z)(j:tg.j ka kb kc=some kd)(hD:D+1<=D')(ht:3 * t+2<=t'):Pt C σ p b bd D' t' kd (.tup (.cons (.cst (.str tg.s)) (.cons X (.cons Y (.cons Z .nil))))):=by
 intro h g i;obtain⟨c,h1,m⟩:=a h g i;obtain⟨c2,h2,m2⟩:=a2 h1 m.gen (i.to m.ext);obtain⟨c3,h3,m3⟩:=a3 h2 m2.gen ((i.to m.ext).to m2.ext);refine⟨.n3 tg c c2 c3,h3,?_,?_,⟨m.fO,m2.fO,m3.fO⟩,?_,?_,(m.ext.trans m2.ext).trans m3.ext,m3.gen⟩
 .rw[cN,ai,bu,R.af,ai,m.eq,R.af,ai,m2.eq,R.af,ai,m3.eq];rfl
 .rw[jd,m.jd,m2.jd,m3.jd];exact j
 .have:=m.deep;have:=m2.deep;have:=m3.deep;simp only[Co.depth];omega
 .have:=m.ig;have:=m2.ig;have:=m3.ig;simp only[Co.turns];omega
end
noncomputable def tn:Nat->Nat->Nat
 |N,0=>2 ^ (N+3)-6
 |N,E+1=>3 * tn (N+2) E+2
theorem sI:∀E N,2 ^ (N+3)<=tn N E+6
 |0,N=>by simp[tn];omega
 |E+1,N=>by
  have:=sI E (N+2);have a:0<2 ^ N:=mY (by decide);simp only[tn,mE,Nat.reducePow] at *;omega
theorem qR:∀E N,tn N E<=tn (N+1) E
 |0,N=>by
  have a:0<2 ^ N:=mY (by decide);simp only[tn,mE,Nat.reducePow] at *;omega
 |E+1,N=>by
  have:=qR E (N+2);simp only[tn];exact Nat.add_le_add_right (Nat.mul_le_mul_left _ this) _
theorem l7:∀k:Kd,(lc k).turns+2<=2 ^ (k.depth+2)
 |.num=>by simp[lc,Co.turns,Kd.depth]
 |.tru=>by simp[lc,Co.turns,Kd.depth]
 |.any _=>by simp[lc,Co.turns,Kd.depth]
 |.gap _=>by simp[lc,Co.turns,Kd.depth]
 |.work _ _=>by
  simp only[lc,Co.turns];exact bW (by decide) (tW (by decide:0<2) (show 2<=_ by omega))
 |.row k=>by
  have:=l7 k;have a:0<2 ^ k.depth:=mY (by decide);simp only[lc,Co.turns,Kd.depth,mE,Nat.reducePow] at *;omega
 |.pair x y=>by
  have h1:=bW (l7 x) (tW (by decide:0<2) (show x.depth+2<=max x.depth y.depth+2 by omega));have h2:=bW (l7 y) (tW (by decide:0<2) (show y.depth+2<=max x.depth y.depth+2 by omega));simp only[lc,Co.turns,Kd.depth];generalize max x.depth y.depth=m at *;have a:0<2 ^ m:=mY (by decide);simp only[mE,Nat.reducePow] at *;omega
structure Dz(C:Or)(p b D t D1 t1 N:Nat)(bd:List Kd)(kd:Kd)(e:Int):Prop where
 nx:tN C az p
 kn:∀h,Gen p h->∃(k:Kd) (h':Hp),C bI [.ref p,.int 1,.ref h.length] (h++[.lst []])=.ok k.ae h'/\k.depth<=1/\k.over []/\Ext p h h'/\Gen p h'
 bs:∀h,Gen p h->In p b bd h->∃c h',Mk p bd kd D t h (C gF [.ref p,.ref b,kd.ae,.int e] h) c h'
 cr:0<e->∀k:Kd,k.over []->k.depth<=N+2->Cr C p b bd e D1 t1 k
 hD:0<e->D1+1<=D
 ht:0<e->3 * t1+2<=t
 uV:2<=t
 hk:kd.depth<=N
 hN:N<=8
 ov:kd.over []
 hb:∀x∈bd,x.depth<=8
 hn:bd.length<=100
def Rt(C:Or)(ss:List St)(σ:Env)(p:Nat)(bd:List Kd)(D t:Nat)(k:Kd)(h:Hp):Prop:=∃c h',av C ss σ h=.ok (.ret c.ae) h'/\Mk p bd k D t h (.ok c.ae h') c h'
section
variable {C:Or}{σ:Env}{p b D t D1 t1 N i:Nat}{bd:List Kd}{kd k ka:Kd}{e v:Int}{h h1:Hp}{X:E}{r a2 b2:List St}{c:E}
theorem hW(a:Pt C σ p b bd D t k X)(g:Gen p h)(j:In p b bd h):Rt C (.ret X::r) σ p bd D t k h:=by obtain⟨c,h',m⟩:=a h g j;exact⟨c,h',aq m.eq,m.as (Ext.refl _ _) rfl⟩
theorem cy(e:ag C c σ h=.ok (.bl false) h1)(x:Ext p h h1)(k1:Rt C r σ p bd D t k h1):Rt C (.iff c a2 []::r) σ p bd D t k h:=by obtain⟨c,h',q,m⟩:=k1;exact⟨c,h',ah e q,m.as x rfl⟩
theorem dQ(e:ag C c σ h=.ok (.bl true) h1)(x:Ext p h h1)(k1:Rt C a2 σ p bd D t k h1):Rt C (.iff c a2 b2::r) σ p bd D t k h:=by obtain⟨c,h',q,m⟩:=k1;exact⟨c,h',aZ e q,m.as x rfl⟩
theorem kW{w:W}(e:ag C c σ h=.ok w h1)(x:Ext p h h1)(k1:Rt C r (σ.set i (some w)) p bd D t k h1):Rt C (.set i c::r) σ p bd D t k h:=by obtain⟨c,h',q,m⟩:=k1;exact⟨c,h',aW e q,m.as x rfl⟩
theorem nY{D1 t1:Nat}(a:Pt C σ p b bd D1 t1 ka X)(g:Gen p h)(j:In p b bd h)(k1:∀(c:Co)(h1:Hp),jd c bd=some ka->c.kd 8->c.depth<=D1->c.turns<=t1->Gen p h1->In p b bd h1->Rt C r (σ.set i (some c.ae)) p bd D t k h1):Rt C (.set i X::r) σ p bd D t k h:=by obtain⟨c,h',m⟩:=a h g j;exact kW m.eq m.ext (k1 c h' m.jd m.fO m.deep m.ig m.gen (j.to m.ext))
theorem DC{f:Fn}{xs:List W}(σ:Env)(l:xs.length=f.ps)(eσ:xs.map some++List.replicate (f.ns-f.ps) none=σ)(k1:Rt C f.body σ p bd D t k h):∃c h',Mk p bd k D t h (aB C f xs h) c h':=by obtain⟨c,h',q,m⟩:=k1;exact⟨c,h',m.as (Ext.refl _ _) (bR σ l eσ q)⟩
theorem Aq{m:Int}(s:σ[i]?=some (some (.int v))):ag C (.cmp .eq (.var i) (.cst (.int m))) σ h=.ok (.bl (decide (v=m))) h:=by simp[s]
theorem EF(s0:σ[0]?=some (some (.ref p)))(s1:σ[1]?=some (some (.ref b)))(s2:σ[2]?=some (some kd.ae))(s3:σ[3]?=some (some (.int e)))(bs:∀h,Gen p h->In p b bd h->∃c h',Mk p bd kd D t h (C gF [.ref p,.ref b,kd.ae,.int e] h) c h'):Pt C σ p b bd D t kd (.call gF (.cons (.var 0) (.cons (.var 1) (.cons (.var 2) (.cons (.var 3) .nil))))):=by intro h g i;obtain⟨c,h',m⟩:=bs h g i;refine⟨c,h',m.as (Ext.refl _ _) ?_⟩;rw[bf,ai,ao s0,R.af,ai,ao s1,R.af,ai,ao s2,R.af,ai,ao s3];exact m.eq
abbrev CG:List St:=lF.body
theorem rY(H:Dz C p b D t D1 t1 N bd kd e)(hv:0<=v/\v<9){g5:Option W}(g:Gen p h)(j:In p b bd h):Rt C (CG.drop 3) (sc p b kd e v g5 none none none none) p bd D t kd h:=by
 obtain⟨k6,h6,r6,d6,o6,x6,g6⟩:=H.kn h g;have j6:=j.to x6;have hk:=H.hk;refine kW (h1:=h6) (ui 1 rfl r6) x6 ?_;have B:∀(ss:List St),Rt C (.ret (.call gF (.cons (.var 0) (.cons (.var 1) (.cons (.var 2) (.cons (.var 3) .nil)))))::ss) (sc p b kd e v g5 (some k6.ae) none none none) p bd D t kd h6:=fun ss=>hW (b:=b) (EF rfl rfl rfl rfl H.bs) g6 j6;by_cases c1:e<=0\/7<v
 .refine dQ (h1:=h6) ?_ (Ext.refl _ _) (B _);by_cases c2:e<=0
  .simp[c2]
  .have:7<v:=by omega
   simp[c2,this]
 have he:0<e:=by omega
 have hv7:v<=7:=by omega
 refine cy (h1:=h6) (by simp[show ¬ e<=0 by omega,show ¬ 7<v by omega]) (Ext.refl _ _) ?_;have cr:=H.cr he;have hD:=H.hD he;have ht:=H.ht he;have Eq:∀(m:Int)(σ:Env)(h:Hp),σ[4]?=some (some (.int v))->ag C (.cmp .eq (.var 4) (.cst (.int m))) σ h=.ok (.bl (decide (v=m))) h:=fun m σ h s=>Aq s;by_cases v3:v=3
 .refine dQ (h1:=h6) (by rw[Eq 3 _ _ rfl,dG v3]) (Ext.refl _ _) ?_;refine nY (ka:=.work k6 kd) (cM (k:=.work k6 kd) rfl rfl rfl (fun h=>by kernel_rfl) (cr _ ⟨o6,H.ov⟩ (by simp only[Kd.depth];omega))) g6 j6 fun c h1 a1 a2 a3 a4 g7 j7=>?_;exact hW (b:=b) (node2 .call (mW (c:=c) rfl a1 a2 a3 a4) (cM (k:=k6) rfl rfl rfl (fun h=>ao rfl) (cr _ o6 (by omega))) (by simp[T2.j]) hD hD (by omega)) g7 j7
 refine cy (h1:=h6) (by rw[Eq 3 _ _ rfl,bA v3]) (Ext.refl _ _) ?_;by_cases v4:v=4
 .refine dQ (h1:=h6) (by rw[Eq 4 _ _ rfl,dG v4]) (Ext.refl _ _) ?_;refine nY (ka:=.tru) (cM (k:=.tru) rfl rfl rfl (fun h=>by kernel_rfl) (cr _ trivial (by simp only[Kd.depth];omega))) g6 j6 fun c h1 a1 a2 a3 a4 g7 j7=>?_;exact hW (b:=b) (node3 .ife (mW (c:=c) rfl a1 a2 a3 a4) (cM (k:=kd) rfl rfl rfl (fun h=>ao rfl) (cr _ H.ov (by omega))) (cM (k:=kd) rfl rfl rfl (fun h=>ao rfl) (cr _ H.ov (by omega))) (by simp[T3.j]) hD ht) g7 j7
 refine cy (h1:=h6) (by rw[Eq 4 _ _ rfl,bA v4]) (Ext.refl _ _) ?_;by_cases v5:v=5
 .refine dQ (h1:=h6) (by rw[Eq 5 _ _ rfl,dG v5]) (Ext.refl _ _) ?_;refine nY (ka:=.row k6) (cM (k:=.row k6) rfl rfl rfl (fun h=>by kernel_rfl) (cr _ o6 (by simp only[Kd.depth];omega))) g6 j6 fun c h1 a1 a2 a3 a4 g7 j7=>?_;refine nY (ka:=kd) (cM (k:=kd) rfl rfl rfl (fun h=>ao rfl) (cr _ H.ov (by omega))) g7 j7 fun c2 h2 b1 b2 b3 b4 g8 j8=>?_;exact hW (b:=b) (node3 .fold (mW (c:=c) rfl a1 a2 a3 a4) (mW (c:=c2) rfl b1 b2 b3 b4) (cM (k:=.work k6 (.work kd kd)) rfl rfl rfl (fun h=>by kernel_rfl) (cr _ ⟨o6,H.ov,H.ov⟩ (by simp only[Kd.depth];omega))) (by simp[T3.j]) hD ht) g8 j8
 refine cy (h1:=h6) (by rw[Eq 5 _ _ rfl,bA v5]) (Ext.refl _ _) ?_;by_cases v6:v=6
 .refine dQ (h1:=h6) (by rw[Eq 6 _ _ rfl,dG v6]) (Ext.refl _ _) ?_;exact hW (b:=b) (node1 .left (cM (k:=.pair kd k6) rfl rfl rfl (fun h=>by kernel_rfl) (cr _ ⟨H.ov,o6⟩ (by simp only[Kd.depth];omega))) (by simp[T1.j]) hD (by omega)) g6 j6
 refine cy (h1:=h6) (by rw[Eq 6 _ _ rfl,bA v6]) (Ext.refl _ _) ?_;by_cases v7:v=7
 .refine dQ (h1:=h6) (by rw[Eq 7 _ _ rfl,dG v7]) (Ext.refl _ _) ?_;exact hW (b:=b) (node1 .right (cM (k:=.pair k6 kd) rfl rfl rfl (fun h=>by kernel_rfl) (cr _ ⟨o6,H.ov⟩ (by simp only[Kd.depth];omega))) (by simp[T1.j]) hD (by omega)) g6 j6
 refine cy (h1:=h6) (by rw[Eq 7 _ _ rfl,bA v7]) (Ext.refl _ _) ?_;exact B _
theorem Ab(H:Dz C p b D t D1 t1 N bd kd e)(g:Gen p h)(j:In p b bd h):∃c h',Mk p bd kd D t h (aB C lF [.ref p,.ref b,kd.ae,.int e] h) c h':=by
 refine DC [some (.ref p),some (.ref b),some kd.ae,some (.int e),none,none,none,none,none,none] rfl rfl ?_;obtain⟨v,h1,r1,v0,v9,x1,g1⟩:=H.nx 9 h g (by decide);have j1:=j.to x1;refine kW (h1:=h1) (mV rfl r1) x1 ?_;obtain⟨h2,r2,w2⟩:=EY (C:=C) (p:=p) (e:=e) (v:=v) (kd:=kd) j1.look (by have:=H.hk;have:=H.hN;omega) H.hb (by have:=H.hn;omega);have hl:∀x∈(List.range bd.length).filter (fit bd kd),x<bd.length/\fit bd kd x=true:=fun x hx=>by
  have:=lC.mp hx;exact⟨xA.mp this.1,this.2⟩
 generalize (List.range bd.length).filter (fit bd kd)=fs at r2 hl;have x2:=(w2.ext p).trans (Ext.app p h2 [O.lst (fs.map fun (j:Nat)=>W.int (j:Int))]);have g2:=(w2.gen g1).ext [O.lst (fs.map fun (j:Nat)=>W.int (j:Int))];refine kW r2 x2 ?_;have j2:=j1.to x2;have lk:=a9 h2 (O.lst (fs.map fun (j:Nat)=>W.int (j:Int)));generalize h2.length=q at lk;generalize h2++[O.lst (fs.map fun (j:Nat)=>W.int (j:Int))]=h3 at lk j2 g2 x2;have q0:=nV lk (mM fs) (by rw[nD];omega);have ne:ag C (.cmp .ne (.var 5) (.lst .nil)) (sc p b kd e v (some (.ref q)) none none none none) h3=.ok (.bl (!fs.isEmpty)) (h3++[O.lst []]):=by refine jh (ao rfl) (v:=.ref h3.length) (h2:=h3++[O.lst []]) rfl ?_;rw[q0];cases fs<;>rfl
 show Rt C (CG.drop 2) (sc p b kd e v (some (.ref q)) none none none none) p bd D t kd h3;have x3:=Ext.app p h3 [O.lst []];have g3:=g2.ext [O.lst []];have j3:=j2.to x3;have lk3:=aA [O.lst []] lk;generalize h3++[O.lst []]=h4 at *;cases ef:fs with
 |nil=>
  refine cy (h1:=h4) ?_ x3 (rY H ⟨v0,v9⟩ g3 j3);have:=fh (p:=false) (y:=.or (.cmp .lt (.var 4) (.cst (.int 3))) (.cmp .lt (.var 3) (.cst (.int 0)))) ne (fun z=>by rw[ef] at z;cases z) (fun _=>rfl);rw[this];simp
 |cons f0 fr=>
  have or1:ag C (.or (.cmp .lt (.var 4) (.cst (.int 3))) (.cmp .lt (.var 3) (.cst (.int 0)))) (sc p b kd e v (some (.ref q)) none none none none) h4=.ok (.bl (decide (v<3) || decide (e<0))) h4:=by by_cases z1:v<3<;>simp[z1]
  have an:=fh ne (fun _=>or1) (fun _=>rfl);cases eo:decide (v<3) || decide (e<0) with
  |false=>
   refine cy (h1:=h4) ?_ x3 (rY H ⟨v0,v9⟩ g3 j3);rw[an,eo];simp
  |true=>
   refine dQ (h1:=h4) (by rw[an,eo,ef];rfl) x3 ?_;obtain⟨v5,h5,r5,a5,b5,x5,g5⟩:=H.nx (fs.length:Int) h4 g3 (by rw[ef];simp only[dw];omega);have lk5:=x5.keep _ _ lk3 (by rintro rfl;obtain⟨a,c,l,ns,e1,_,_⟩:=g3.ex;rw[lk3] at e1;injection e1 with e1;injection e1 with e1;cases fs with
    |nil=>cases e1
    |cons _ fr=>cases fr with
     |nil=>cases e1
     |cons _ _=>simp at e1)
   have b5':v5<((fs.map fun (j:Nat)=>W.int (j:Int)).length:Int):=by simpa using b5
   obtain⟨y,hy,ey⟩:=k4 (fs.map fun (j:Nat)=>W.int (j:Int)) v5 a5 b5';obtain⟨n,hn,rfl⟩:=gC.mp hy;obtain⟨l1,l2⟩:=hl n hn;refine⟨.lf (.var n),h5,aq ?_,rfl,Gp l1 l2,trivial,iy _,H.uV,x5,g5⟩;have ln:ag C (.blt .len (.var 5)) (sc p b kd e v (some (.ref q)) none none none none) h4=.ok (.int fs.length) h4:=by simp[lk3]
   have nc:ag C (.call az (.cons (.var 0) (.cons (.blt .len (.var 5)) .nil))) (sc p b kd e v (some (.ref q)) none none none none) h4=.ok (.int v5) h5:=aH (dF (ao rfl) ln) r5;have ix:ag C (.idx (.var 5) (.call az (.cons (.var 0) (.cons (.blt .len (.var 5)) .nil)))) (sc p b kd e v (some (.ref q)) none none none none) h4=.ok (.int n) h5:=by rw[iC,ao (i:=5) rfl,R.af,nc];simp[lk5,ey]
   rw[cN,ai,bu,R.af,ai,ix];rfl
end
structure lK(C:Or)(p b D t D1 t1 D2 t2:Nat)(bd:List Kd)(kd:Kd)(e:Int):Prop where
 nx:tN C az p
 num:∀h,Gen p h->∃v h',C gX [.ref p] h=.ok (.int v) h'/\Ext p h h'/\Gen p h'
 lk:∀(x:Kd)(h:Hp),x.over []->x.depth+1<=kd.depth->∃h',C ff [x.ae] h=.ok (.bl (dy x)) h'/\ak h h'
 Oa:∀(x:Kd)(h:Hp),dy x=true->x.depth+1<=kd.depth->C dD [.ref p,x.ae] h=.ok (lc x).ae h
 Lc:0<e->Cr C p b bd e D1 t1 .num
 vc:0<e->D1+1<=D
 zm:0<e->2 * t1+2<=t
 HP:∀k:Kd,k.over []->k.depth+1<=kd.depth->Cr C p b bd e D2 t2 k
 N0:∀(k1 k:Kd)(b':Nat),k1.over []->k.over []->k1.depth+1<=kd.depth->k.depth+1<=kd.depth->Cr C p b' (bd++[k1]) e D2 t2 k
 wz:0<kd.depth->D2+2<=D
 uV:0<kd.depth->2 * t2+6<=t
 hL:2 ^ (kd.depth+1)<=t+2
 ud:kd.depth<=D
 tt:2<=t
 k8:kd.depth<=8
 ov:kd.over []
 hn:bd.length<=100
noncomputable abbrev sB(p b:Nat)(kd:Kd)(e:Int)(g4 g5 g6:Option W):Env:=[some (.ref p),some (.ref b),some kd.ae,some (.int e),g4,g5,g6]
section
variable {C:Or}{σ:Env}{p b D t D1 t1 D2 t2 N i:Nat}{bd:List Kd}{kd k k1 k2 ka:Kd}{e v:Int}{h h1:Hp}{X:E}{r a2 b2:List St}{c:Co}{g4 g5 g6:Option W}
theorem LL(s:σ[3]?=some (some (.int e))):ag C (.cmp .gt (.var 3) (.cst (.int 0))) σ h=.ok (.bl (decide (0<e))) h:=by simp[s]
theorem drawn(nx:tN C az p)(s0:σ[0]?=some (some (.ref p)))(s3:σ[3]?=some (some (.int e)))(g:Gen p h):∃(o:Bool) (h1:Hp),ag C (.and (.cmp .gt (.var 3) (.cst (.int 0))) (.cmp .eq (.call az (.cons (.var 0) (.cons (.cst (.int 2)) .nil))) (.cst (.int 0)))) σ h=.ok (.bl o) h1/\(o=true->0<e)/\Ext p h h1/\Gen p h1:=by
 by_cases he:0<e
 .obtain⟨v,h1,r1,_,_,x1,g1⟩:=nx 2 h g (by decide);refine⟨_,h1,fh (LL s3) (fun _=>fq (mV s0 r1) bu (show bw h1 (.int v) (.int 0)=some (decide (v=0)) by simp)) (fun z=>by rw[dG he] at z;cases z),fun _=>he,x1,g1⟩
 .exact⟨_,h,fh (p:=false) (LL s3) (fun z=>absurd (sF z) he) (fun _=>rfl),fun z=>by simp at z,Ext.refl _ _,g⟩
theorem BZ(H:lK C p b D t D1 t1 D2 t2 bd .num e)(g:Gen p h)(j:In p b bd h):Rt C fg.body (sB p b .num e none none none) p bd D t .num h:=by
 refine dQ (h1:=h) (i9 (a:=.num) rfl rfl) (Ext.refl _ _) ?_;obtain⟨o,h1,r1,o1,x1,g1⟩:=drawn (C:=C) (p:=p) (e:=e) (σ:=sB p b .num e none none none) H.nx rfl rfl g;have j1:=j.to x1;cases o with
 |true=>
  have he:=o1 rfl;have P:=cM (C:=C) (σ:=sB p b .num e none none none) (p:=p) (b:=b) (bd:=bd) (X:=.var 2) rfl rfl rfl (fun h=>ao rfl) (H.Lc he);exact dQ r1 x1 (hW (b:=b) (node2 .sum P P (by simp[T2.j]) (H.vc he) (H.vc he) (by have:=H.zm he;omega)) g1 j1)
 |false=>
  refine cy r1 x1 ?_;obtain⟨v,h2,r2,x2,g2⟩:=H.num h1 g1;refine⟨.lf (.num v),h2,aq ?_,rfl,rfl,trivial,iy _,H.tt,x2,g2⟩;have q:ag C (.call gX (.cons (.var 0) .nil)) (sB p b .num e none none none) h1=.ok (.int v) h2:=aH (gG (ao rfl)) r2;rw[cN,ai,bu,R.af,ai,q];rfl
theorem BS(H:lK C p b D t D1 t1 D2 t2 bd .tru e)(g:Gen p h)(j:In p b bd h):Rt C fg.body (sB p b .tru e none none none) p bd D t .tru h:=by
 refine cy (h1:=h) (i9 (a:=.tru) rfl rfl) (Ext.refl _ _) (dQ (h1:=h) (i9 (a:=.tru) rfl rfl) (Ext.refl _ _) ?_);obtain⟨o,h1,r1,o1,x1,g1⟩:=drawn (C:=C) (p:=p) (e:=e) (σ:=sB p b .tru e none none none) H.nx rfl rfl g;have j1:=j.to x1;cases o with
 |true=>
  have he:=o1 rfl;have P:=cM (C:=C) (σ:=sB p b .tru e (some Kd.num.ae) none none) (p:=p) (b:=b) (bd:=bd) (X:=.var 4) rfl rfl rfl (fun h=>ao rfl) (H.Lc he);exact dQ r1 x1 (kW (w:=Kd.num.ae) (h1:=h1) (by kernel_rfl) (Ext.refl _ _) (hW (b:=b) (node2 .less P P (by simp[T2.j]) (H.vc he) (H.vc he) (by have:=H.zm he;omega)) g1 j1))
 |false=>
  refine cy r1 x1 ?_;have ne:=g1.gP;obtain⟨v,h2,r2,v0,v2,x2,g2⟩:=H.nx 2 _ (g1.ext [O.lst [W.tup [.str iz],W.tup [.str kU]]]) (by decide);have lk:=x2.keep _ _ (a9 h1 _) (bo ne);have x2':=(Ext.app p h1 _).trans x2;have q:ag C (.call az (.cons (.var 0) (.cons (.cst (.int 2)) .nil))) (sB p b .tru e none none none) (h1++[O.lst [W.tup [.str iz],W.tup [.str kU]]])=.ok (.int v) h2:=mV rfl r2;have l:ag C (.lst (.cons (.tup (.cons (.cst (.str iz)) .nil)) (.cons (.tup (.cons (.cst (.str kU)) .nil)) .nil))) (sB p b .tru e none none none) h1=.ok (.ref h1.length) (h1++[O.lst [W.tup [.str iz],W.tup [.str kU]]]):=rfl;obtain rfl|rfl:v=0\/v=1:=by omega
  .refine⟨.lf .yes,h2,aq ?_,rfl,rfl,trivial,iy _,H.tt,x2',g2⟩;rw[iC,l,R.af,q];simp[lk,Co.ae,Lf.ae]
  .refine⟨.lf .no,h2,aq ?_,rfl,rfl,trivial,iy _,H.tt,x2',g2⟩;rw[iC,l,R.af,q];simp[lk,Co.ae,Lf.ae]
theorem zP(H:lK C p b D t D1 t1 D2 t2 bd (.pair k1 k2) e)(g:Gen p h)(j:In p b bd h):Rt C fg.body (sB p b (.pair k1 k2) e none none none) p bd D t (.pair k1 k2) h:=by refine cy (h1:=h) (i9 (a:=.pair k1 k2) rfl rfl) (Ext.refl _ _) (cy (h1:=h) (i9 (a:=.pair k1 k2) rfl rfl) (Ext.refl _ _) (dQ (h1:=h) (i9 (a:=.pair k1 k2) rfl rfl) (Ext.refl _ _) ?_));have hD:=H.wz (by simp[Kd.depth]);have ht:=H.uV (by simp[Kd.depth]);have P1:=cM (C:=C) (σ:=sB p b (.pair k1 k2) e none none none) (p:=p) (b:=b) (bd:=bd) (X:=.idx (.var 2) (.cst (.int 1))) rfl rfl rfl (fun h=>by simp[Kd.ae]) (H.HP k1 H.ov.1 (by simp only[Kd.depth];omega));have P2:=cM (C:=C) (σ:=sB p b (.pair k1 k2) e none none none) (p:=p) (b:=b) (bd:=bd) (X:=.idx (.var 2) (.cst (.int 2))) rfl rfl rfl (fun h=>by simp[Kd.ae]) (H.HP k2 H.ov.2 (by simp only[Kd.depth];omega));exact hW (b:=b) (node2 .both P1 P2 (by simp[T2.j]) (by omega) (by omega) (by omega)) g j
theorem pF(cr:Cr C p b bd e D2 t2 k)(x:W){c:Co}{d s:Nat}(a1:jd c bd=some (.row k))(a2:c.kd 8)(a3:c.depth<=d)(a4:c.turns<=s)(hd:D2<=d)(g:Gen p h)(j:In p b bd h):∃(c':Co) (h':Hp),av C gv (sB p b (.row k) e none (some c.ae) (some x)) h=.ok (.next (sB p b (.row k) e none (some c'.ae) (some x))) h'/\jd c' bd=some (.row k)/\c'.kd 8/\c'.depth<=d+1/\c'.turns<=s+t2+2/\Ext p h h'/\Gen p h'/\In p b bd h':=by have P:=cM (C:=C) (σ:=sB p b (.row k) e none (some c.ae) (some x)) (p:=p) (b:=b) (bd:=bd) (X:=.idx (.var 2) (.cst (.int 1))) rfl rfl rfl (fun h=>by simp[Kd.ae]) cr;obtain⟨c',h',m⟩:=node2 (D':=d+1) (t':=s+t2+2) (kd:=.row k) .more P (mW (i:=5) rfl a1 a2 a3 a4) (by simp[T2.j]) (by omega) (by omega) (by omega) h g j;refine⟨c',h',?_,m.jd,m.fO,m.deep,m.ig,m.ext,m.gen,j.to m.ext⟩;exact aW m.eq rfl
theorem ju{t:Tg}{k:Env->Hp->R Fl}{x:W}{σ σ1 σ2:Env}{h h':Hp}{go:Env->Hp->R Fl}(es:rj t x σ=some σ1)(e:k σ1 h=.ok (.next σ2) h'):turn t k x σ h go=go σ2 h':=by unfold turn;rw[es];simp only[e,R.af]
theorem AH(H:lK C p b D t D1 t1 D2 t2 bd (.row k) e)(g:Gen p h)(j:In p b bd h):Rt C fg.body (sB p b (.row k) e none none none) p bd D t (.row k) h:=by
 refine cy (h1:=h) (i9 (a:=.row k) rfl rfl) (Ext.refl _ _) (cy (h1:=h) (i9 (a:=.row k) rfl rfl) (Ext.refl _ _) (cy (h1:=h) (i9 (a:=.row k) rfl rfl) (Ext.refl _ _) (dQ (h1:=h) (i9 (a:=.row k) rfl rfl) (Ext.refl _ _) ?_)));have hD:=H.wz (by simp[Kd.depth]);have ht:=H.uV (by simp[Kd.depth]);have cr:=H.HP k H.ov (by simp only[Kd.depth];omega);have fO:k.depth<=8:=by have:=H.k8;simp only[Kd.depth] at this;omega
 refine kW (w:=(Co.lf (.aw k)).ae) (h1:=h) (by simp[Kd.ae,Co.ae,Lf.ae]) (Ext.refl _ _) ?_;obtain⟨v,h1,r1,v0,v3,x1,g1⟩:=H.nx 3 h g (by decide);have j1:=j.to x1;have key:∃(c:Co) (h':Hp) (o6:Option W),eM C (.for (.var 6) (.iT (.call az (.cons (.var 0) (.cons (.cst (.int 3)) .nil)))) gv) (sB p b (.row k) e none (some (Co.lf (.aw k)).ae) none) h=.ok (.next (sB p b (.row k) e none (some c.ae) o6)) h'/\jd c bd=some (.row k)/\c.kd 8/\c.depth<=D/\c.turns<=t/\Ext p h1 h'/\Gen p h':=by
  have it:∀n:Nat,v=n->n<=3->dJ C (.iT (.call az (.cons (.var 0) (.cons (.cst (.int 3)) .nil)))) (sB p b (.row k) e none (some (Co.lf (.aw k)).ae) none) h=.ok (.fix (upTo 0 n)) h1:=fun n hn h3=>by
   rw[ly,mV rfl r1,R.af,hn];simp only[mH (show n<=1000 by omega),gQ,Int.toNat_natCast]
  have b1:jd (.lf (.aw k)) bd=some (.row k):=rfl;obtain rfl|rfl|rfl:v=0\/v=1\/v=2:=by omega
  .refine⟨.lf (.aw k),h1,none,?_,b1,fO,iy _,H.tt,Ext.refl _ _,g1⟩;rw[jt,it 0 rfl (by decide),R.af];rfl
  .obtain⟨c,h2,e2,a1,a2,a3,a4,x2,g2,j2⟩:=pF cr (.int 0) (d:=D2) (s:=2) b1 fO (iy _) (aV _) (aV _) g1 j1;refine⟨c,h2,some (.int 0),?_,a1,a2,by omega,by omega,x2,g2⟩;rw[jt,it 1 rfl (by decide),R.af];show cX (.var 6) (av C gv) [.int 0] _ _=_;rw[cX,ju rfl e2];rfl
  .obtain⟨c,h2,e2,a1,a2,a3,a4,x2,g2,j2⟩:=pF cr (.int 0) (d:=D2) (s:=2) b1 fO (iy _) (aV _) (aV _) g1 j1;obtain⟨c3,h3,e3,b1,b2,b3,b4,x3,g3,j3⟩:=pF cr (.int 1) (d:=D2+1) (s:=2+t2+2) a1 a2 a3 a4 (by omega) g2 j2;refine⟨c3,h3,some (.int 1),?_,b1,b2,by omega,by omega,x2.trans x3,g3⟩;rw[jt,it 2 rfl (by decide),R.af];show cX (.var 6) (av C gv) [.int 0,.int 1] _ _=_;rw[cX,ju rfl e2,cX,ju rfl e3];rfl
 obtain⟨c,h',o6,q,a1,a2,a3,a4,x2,g2⟩:=key;exact⟨c,h',fW q (aq (ao rfl)),rfl,a1,a2,a3,a4,x1.trans x2,g2⟩
theorem oR(H:lK C p b D t D1 t1 D2 t2 bd (.work k1 k2) e)(g:Gen p h)(j:In p b bd h):Rt C (fg.body.drop 5) (sB p b (.work k1 k2) e none none none) p bd D t (.work k1 k2) h:=by
 have hD:=H.wz (by simp[Kd.depth]);have ht:=H.uV (by simp[Kd.depth]);have k8:=H.k8;simp only[Kd.depth] at k8;have i1:∀h:Hp,ag C (.idx (.var 2) (.cst (.int 1))) (sB p b (.work k1 k2) e none none none) h=.ok k1.ae h:=fun h=>by simp[Kd.ae]
 have i2:∀h:Hp,ag C (.idx (.var 2) (.cst (.int 2))) (sB p b (.work k1 k2) e none none none) h=.ok k2.ae h:=fun h=>by simp[Kd.ae]
 have x1:=Ext.app p h [O.lst [k1.ae]];have j1:=j.to x1;have x2:=Ext.app p (h++[O.lst [k1.ae]]) [O.lst ((bd++[k1]).map Kd.ae)];have g2:=(g.ext [O.lst [k1.ae]]).ext [O.lst ((bd++[k1]).map Kd.ae)];have ad:ag C (.bin .add (.var 1) (.lst (.cons (.idx (.var 2) (.cst (.int 1))) .nil))) (sB p b (.work k1 k2) e none none none) h=.ok (.ref (h++[O.lst [k1.ae]]).length) (h++[O.lst [k1.ae]]++[O.lst ((bd++[k1]).map Kd.ae)]):=by
  have l:ag C (.lst (.cons (.idx (.var 2) (.cst (.int 1))) .nil)) (sB p b (.work k1 k2) e none none none) h=.ok (.ref h.length) (h++[O.lst [k1.ae]]):=by rw[qG,ai,i1];rfl
  rw[gO,ao (i:=1) rfl,R.af,l,R.af];have n:=H.hn;simp only[bin,j1.look,a9];rw[if_pos ⟨trivial,by simp only[fQ,dw,ll,SZ];omega⟩];simp[Tw.new]
 obtain⟨c,h3,m⟩:=H.N0 k1 k2 (h++[O.lst [k1.ae]]).length H.ov.1 H.ov.2 (by simp only[Kd.depth];omega) (by simp only[Kd.depth];omega) _ g2 ⟨a9 _ _,bo (g.ext [O.lst [k1.ae]]).gP⟩;refine⟨.fn k1 c,h3,aq ?_,rfl,?_,⟨by omega,m.fO⟩,?_,?_,(x1.trans x2).trans m.ext,m.gen⟩
 .have l:∀h:Hp,ag C (.bin .sub (.var 3) (.cst (.int 1))) (sB p b (.work k1 k2) e none none none) h=.ok (.int (e-1)) h:=fun h=>by simp
  rw[cN,ai,bu,R.af,ai,i1,R.af,ai,bf,ai,ao (i:=0) rfl,R.af,ai,ad,R.af,ai,i2,R.af,ai,l];simp only[R.af,lH,m.eq];rfl
 .simp only[jd,m.jd,Option.map_some]
 .have:=m.deep;simp only[Co.depth];omega
 .have:=m.ig;simp only[Co.turns];omega
theorem y8(H:lK C p b D t D1 t1 D2 t2 bd (.work k1 k2) e)(g:Gen p h)(j:In p b bd h):Rt C fg.body (sB p b (.work k1 k2) e none none none) p bd D t (.work k1 k2) h:=by
 refine cy (h1:=h) (i9 (a:=.work k1 k2) rfl rfl) (Ext.refl _ _) (cy (h1:=h) (i9 (a:=.work k1 k2) rfl rfl) (Ext.refl _ _) (cy (h1:=h) (i9 (a:=.work k1 k2) rfl rfl) (Ext.refl _ _) (cy (h1:=h) (i9 (a:=.work k1 k2) rfl rfl) (Ext.refl _ _) ?_)));have k8:=H.k8;simp only[Kd.depth] at k8;have i1:∀h:Hp,ag C (.idx (.var 2) (.cst (.int 1))) (sB p b (.work k1 k2) e none none none) h=.ok k1.ae h:=fun h=>by simp[Kd.ae]
 have i2:∀h:Hp,ag C (.idx (.var 2) (.cst (.int 2))) (sB p b (.work k1 k2) e none none none) h=.ok k2.ae h:=fun h=>by simp[Kd.ae]
 have c1:ag C (.cmp .eq (.idx (.var 2) (.cst (.int 2))) (.tup (.cons (.cst (.str dH)) (.cons (.idx (.var 2) (.cst (.int 1))) (.cons (.tup (.cons (.cst (.str gq)) .nil)) .nil))))) (sB p b (.work k1 k2) e none none none) h=.ok (.bl (decide (k2=.work k1 .tru))) h:=by refine fq (i2 h) (v:=(Kd.work k1 .tru).ae) (h2:=h) ?_ (Kd.bw h k2 (.work k1 .tru) (by omega) (by simp only[Kd.depth];omega));rw[cN,ai,bu,R.af,ai,i1];rfl
 by_cases e2:k2=.work k1 .tru
 .rw[dG e2] at c1;obtain⟨h1,r1,w1⟩:=H.lk k1 h H.ov.1 (by simp only[Kd.depth];omega);have x1:=w1.ext p;have g1:=w1.gen g;have l1:ag C (.call ff (.cons (.idx (.var 2) (.cst (.int 1))) .nil)) (sB p b (.work k1 k2) e none none none) h=.ok (.bl (dy k1)) h1:=aH (gG (i1 h)) r1;cases el:dy k1 with
  |false=>
   rw[el] at l1;exact cy (fh c1 (fun _=>fh (p:=false) l1 (fun z=>by cases z) (fun _=>rfl)) (fun z=>by cases z)) x1 (oR H g1 (j.to x1))
  |true=>
   rw[el] at l1;obtain⟨v,h2,r2,_,_,x2,g2⟩:=H.nx 2 h1 g1 (by decide);have z1:ag C (.cmp .eq (.call az (.cons (.var 0) (.cons (.cst (.int 2)) .nil))) (.cst (.int 0))) (sB p b (.work k1 k2) e none none none) h1=.ok (.bl (decide (v=0))) h2:=fq (mV rfl r2) bu (by simp);have an:=fh c1 (fun _=>fh l1 (fun _=>z1) (fun z=>by cases z)) (fun z=>by cases z);by_cases v0:v=0
   .rw[dG v0] at an;refine dQ an (x1.trans x2) ?_;have lt:=l7 k1;have ld:=lQ k1;have hL:=H.hL;have ud:=H.ud;refine⟨lc k1,h2,aq (aH (dF (ao rfl) (i1 h2)) (H.Oa k1 h2 el (by simp only[Kd.depth];omega))),rfl,?_,sR 8 k1 (by omega),?_,?_,Ext.refl _ _,g2⟩
    .rw[sG bd k1 el,e2];rfl
    .simp only[Kd.depth] at ud;omega
    .have:=tW (by decide:0<2) (show k1.depth+2<=(Kd.work k1 k2).depth+1 by simp only[Kd.depth];omega);omega
   .rw[bA v0] at an;exact cy an (x1.trans x2) (oR H g2 (j.to (x1.trans x2)))
 .rw[bA e2] at c1;exact cy (fh (p:=false) c1 (fun z=>by cases z) (fun _=>rfl)) (Ext.refl _ _) (oR H g j)
theorem zB(H:lK C p b D t D1 t1 D2 t2 bd kd e)(g:Gen p h)(j:In p b bd h):∃c h',Mk p bd kd D t h (aB C fg [.ref p,.ref b,kd.ae,.int e] h) c h':=by
 refine DC (sB p b kd e none none none) rfl rfl ?_;cases kd with
 |num=>exact BZ H g j
 |tru=>exact BS H g j
 |row k=>exact AH H g j
 |pair k1 k2=>exact zP H g j
 |work k1 k2=>exact y8 H g j
 |any _=>exact absurd H.ov (by simp[Kd.over])
 |gap _=>exact absurd H.ov (by simp[Kd.over])
end
def yZ(k N E:Nat):Prop:=∀(p b:Nat)(bd:List Kd)(kd:Kd)(e:Int)(h:Hp),Gen p h->In p b bd h->(∀x∈bd,x.depth<=8)->bd.length+N+3 * E<=100->N+2 * E<=8->kd.over []->kd.depth<=N->e<=(E:Int)->∃c h',Mk p bd kd (2 * N+5 * E) (tn N E) h (run T k aR [.ref p,.ref b,kd.ae,.int e] h) c h'
theorem my{k N D t D1 t1 D2 t2 p b:Nat}{e:Int}{bd:List Kd}{kd:Kd}{h:Hp}(hk:2 * N+4<=k)(hN:N<=8)(ov:kd.over [])(hd:kd.depth<=N)(hn:bd.length<=100)(hb:∀x∈bd,x.depth<=8)
  (A:0<e->∀j,k<=j->∀kk:Kd,kk.over []->kk.depth<=N+2->Cr (run T j) p b bd e D1 t1 kk)
  (P:∀kk:Kd,kk.over []->kk.depth+1<=kd.depth->Cr (run T k) p b bd e D2 t2 kk)
  (F:∀(k1 kk:Kd)(b':Nat),k1.over []->kk.over []->k1.depth+1<=kd.depth->kk.depth+1<=kd.depth->Cr (run T k) p b' (bd++[k1]) e D2 t2 kk)
  (vc:0<e->D1+1<=D) (zm:0<e->3 * t1+2<=t) (wz:0<kd.depth->D2+2<=D) (uV:0<kd.depth->2 * t2+6<=t) (hL:2 ^ (kd.depth+1)<=t+2) (ud:kd.depth<=D) (tt:2<=t)
  (g:Gen p h) (i:In p b bd h):∃c h',Mk p bd kd D t h (run T (k+2) aR [.ref p,.ref b,kd.ae,.int e] h) c h':=by
 obtain⟨j,rfl⟩:∃j,k=j+2:=⟨k-2,by omega⟩;refine Ab (C:=run T (j+3)) (N:=N) (D1:=D1) (t1:=t1) ?_ g i;refine⟨kX _ _,fun h g=>Ao 1 (j+3) p h g (by omega),fun h g i=>?_,fun he kk o d=>A he _ (by omega) kk o d,vc,zm,tt,hd,hN,ov,hb,hn⟩;refine zB (C:=run T (j+2)) (D1:=D1) (t1:=t1) (D2:=D2) (t2:=t2) ?_ g i;exact⟨kX _ _,fun h g=>DY j p h g,fun x h o d=>oh x (j+2) h o (by omega) (by omega),fun x h l d=>pR p x (j+2) h l (by omega),fun he=>A he _ (aV _) .num trivial (iy _),vc,fun he=>by have:=zm he;omega,P,F,wz,uV,hL,ud,tt,by omega,ov,hn⟩
theorem uU(N E:Nat):2<=tn N E:=by have:=sI E N;have a:0<2 ^ N:=mY (by decide);simp only[mE,Nat.reducePow] at this;omega
theorem yg{N E d:Nat}(h:d<=N):2 ^ (d+1)<=tn N E+2:=by have:=sI E N;have a:0<2 ^ N:=mY (by decide);have b:=tW (by decide:0<2) h;simp only[mE,Nat.reducePow] at *;omega
theorem tX{bd:List Kd}{k1:Kd}(hb:∀x∈bd,x.depth<=8)(h:k1.depth<=8):∀x∈bd++[k1],x.depth<=8:=fun x hx=>by
 rcases kK.mp hx with q|q
 .exact hb x q
 .rw[gH.mp q];exact h
theorem ze:∀N k,2 * N+6<=k->yZ k N 0
 |0,k,hk=>by
  intro p b bd kd e h g i hb hn hN ov hd he;obtain⟨k,rfl⟩:∃j,k=j+2:=⟨k-2,by omega⟩;exact my (D1:=0) (t1:=0) (D2:=0) (t2:=0) (N:=0) (by omega) (by omega) ov hd (by omega) hb (fun z=>by omega) (fun kk o d=>by omega) (fun k1 kk b' _ _ d=>by omega) (fun z=>by omega) (fun z=>by omega) (fun z=>by omega) (fun z=>by omega) (yg hd) (by omega) (uU _ _) g i
 |N+1,k,hk=>by
  intro p b bd kd e h g i hb hn hN ov hd he;obtain⟨k,rfl⟩:∃j,k=j+2:=⟨k-2,by omega⟩;have ih:=ze N k (by omega);refine my (D1:=0) (t1:=0) (D2:=2 * N) (t2:=tn N 0) (N:=N+1) (by omega) (by omega) ov hd (by omega) hb (fun z=>by omega) (fun kk o d h g i=>ih p b bd kk (e-1) h g i hb (by omega) (by omega) o (by omega) (by omega)) (fun k1 kk b' o1 o d1 d h g i=>ih p b' (bd++[k1]) kk (e-1) h g i (tX hb (by omega)) (by simp only[gR,dw,ll];omega) (by omega) o (by omega) (by omega)) (fun z=>by omega) (fun z=>by omega) (fun z=>by omega) (fun z=>?_) (yg hd) (by omega) (uU _ _) g i;have a:0<2 ^ N:=mY (by decide);simp only[tn,mE,Nat.reducePow];omega
theorem lG:∀E N k,2 * N+6 * E+6<=k->yZ k N E
 |0,N,k,hk=>ze N k (by omega)
 |E+1,N,k,hk=>by
  intro p b bd kd e h g i hb hn hN ov hd he;obtain⟨k,rfl⟩:∃j,k=j+2:=⟨k-2,by omega⟩;have ihA:=fun j (hj:k<=j)=>lG E (N+2) j (by omega);have ihP:=lG E N k (by omega);have m1:=qR E N;have m2:tn (N+1) E<=tn (N+2) E:=qR E (N+1);have m3:=sI E (N+2);have a:0<2 ^ N:=mY (by decide);simp only[mE,Nat.reducePow] at m3;refine my (D1:=2 * (N+2)+5 * E) (t1:=tn (N+2) E) (D2:=2 * N+5 * E) (t2:=tn N E) (N:=N) (by omega) (by omega) ov hd (by omega) hb (fun z j hj kk o d h g i=>ihA j hj p b bd kk (e-1) h g i hb (by omega) (by omega) o (by omega) (by omega)) (fun kk o d h g i=>ihP p b bd kk (e-1) h g i hb (by omega) (by omega) o (by omega) (by omega)) (fun k1 kk b' o1 o d1 d h g i=>ihP p b' (bd++[k1]) kk (e-1) h g i (tX hb (by omega)) (by simp only[gR,dw,ll];omega) (by omega) o (by omega) (by omega)) (fun z=>by omega) (fun z=>?_) (fun z=>by omega) (fun z=>?_) (yg hd) (by omega) (uU _ _) g i
  .simp only[tn];omega
  .simp only[tn];omega
theorem Ko:tn 2 3=55160:=by decide
theorem Kz:tn 1 1=176:=by decide
structure mf(C:Or)(p:Nat):Prop where
 nx:tN C az p
 kn:∀(d:Nat)(h:Hp),d<=2->Gen p h->∃(k:Kd) (h':Hp),C bI [.ref p,.int d,.ref h.length] (h++[.lst []])=.ok k.ae h'/\k.depth<=d/\k.over []/\Ext p h h'/\Gen p h'
 c3:∀(b:Nat)(bd:List Kd)(kd:Kd)(h:Hp),Gen p h->In p b bd h->(∀x∈bd,x.depth<=8)->bd.length<=2->kd.over []->kd.depth<=2->∃c h',Mk p bd kd 19 55160 h (C aR [.ref p,.ref b,kd.ae,.int 3] h) c h'
 c1:∀(b:Nat)(kd:Kd)(h:Hp),Gen p h->In p b [] h->kd.over []->kd.depth<=1->∃c h',Mk p [] kd 7 176 h (C aR [.ref p,.ref b,kd.ae,.int 1] h) c h'
 pl:∀(c:Co)(h:Hp),c.depth<=19->c.turns<=55160->∃h' q,C dN [c.ae] h=.ok (.ref q) h'/\h'[q]?=some (.lst ((cu c).map cI))/\ak h h'
 pu:∀(c n:Co)(r:List Nat)(h:Hp),At c r->c.depth<=19->C ip [c.ae,cI r,n.ae] h=.ok (c.put r n).ae h
 fd:∀(c:Co)(bd:List Kd)(h:Hp)(b:Nat),h[b]?=some (.lst (bd.map Kd.ae))->c.kd 8->(∀x∈bd,x.depth<=8)->c.depth<=39->bd.length<900->c.turns<FU->∃h',C eW [.ref b,c.ae] h=.ok (oW (jd c bd)) h'/\ak h h'
 jg:∀(c:Co)(bd:List Kd)(h:Hp)(b d:Nat),h[b]?=some (.lst (bd.map Kd.ae))->h[d]?=some (.lst [])->c.kd 8->(∀x∈bd,x.depth<=8)->c.depth<=39->bd.length<900->∃h',C cZ [c.ae,.ref b,.ref d] h=.ok (oW (jd c bd)) h'/\ak h h'
 lk:∀(k:Kd)(h:Hp),C aK [k.ae] h=.ok (aF k).ae h
theorem M8(p:Nat):mf (run T 59) p where
 nx:=kX _ _
 kn:=fun d h hd g=>Ao d 59 p h g (by omega)
 c3:=fun b bd kd h g i hb hn ov hd=>by
  obtain⟨c,h',m⟩:=lG 3 2 59 (by decide) p b bd kd 3 h g i hb (by omega) (by decide) ov hd (by decide);exact⟨c,h',m.le (by decide) (qx Ko)⟩
 c1:=fun b kd h g i ov hd=>by
  obtain⟨c,h',m⟩:=lG 1 1 59 (by decide) p b [] kd 1 h g i (by simp) (by simp) (by decide) ov hd (by decide);exact⟨c,h',m.le (by decide) (qx Kz)⟩
 pl:=fun c h hd ht=>qc (c.depth+1) c 59 h (by omega) (by omega) (by omega) (by omega)
 pu:=fun c n r h a hd=>D7 a n h 59 (by have:=z7 a;omega)
 fd:=fun c bd h b eb hc hb hd hn ht=>Al c bd h b 59 (by decide) eb hc hb hd hn ht
 jg:=fun c bd h b d eb ed hc hb hd hn=>judge_ok c bd h b d 59 (by omega) eb ed hb hc hd (by omega)
 lk:=fun k h=>nF (run T 58) k h
noncomputable abbrev sL(p b:Nat)(k:Kd)(c:Co)(g5 g6 g7 g8:Option W):Env:=[some (.ref 0),some (.ref p),some (.ref b),some k.ae,some c.ae,g5,g6,g7,g8,none]
theorem JG(h:Hp)(x:Option Kd)(d:∀k,x=some k->k.depth<=50):bw h (oW x) (oW x)=some true:=by
 cases x with
 |none=>simp[oW,bw,cw]
 |some k=>have:=Kd.bw h k k (d k rfl) (d k rfl);simpa [oW] using this
section
variable {C:Or}{p b q:Nat}{k3:Kd}{c:Co}{h:Hp}{g5 g6 g7 g8:Option W}
structure Nw(p:Nat)(h:Hp)(n:Co)(h':Hp):Prop where
 fO:n.kd 8
 deep:n.depth<=20
 ig:n.turns<=110322
 ext:Ext p h h'
 gen:Gen p h'
theorem Jj(H:mf C p)(g:Gen p h){σ:Env}(s1:σ[1]?=some (some (.ref p))):∃(n:Co) (h':Hp),ag C (.call aR (.cons (.var 1) (.cons (.lst .nil) (.cons (.call bI (.cons (.var 1) (.cons (.cst (.int 1)) (.cons (.lst .nil) .nil)))) (.cons (.cst (.int 1)) .nil))))) σ h=.ok n.ae h'/\Nw p h n h':=by obtain⟨kd,h1,r1,d1,o1,x1,g1⟩:=H.kn 1 (h++[O.lst []]) (by decide) (g.ext _);have lk:=x1.keep _ _ (a9 h (O.lst [])) (bo g.gP);obtain⟨c,h2,m⟩:=H.c1 h.length kd h1 g1 ⟨lk,bo g.gP⟩ o1 d1;refine⟨c,h2,?_,m.fO,bW m.deep (by decide),bW m.ig (by decide),((Ext.app p h _).trans x1).trans m.ext,m.gen⟩;have l:ag C (.lst .nil) σ h=.ok (.ref h.length) (h++[.lst []]):=rfl;have k:ag C (.call bI (.cons (.var 1) (.cons (.cst (.int 1)) (.cons (.lst .nil) .nil)))) σ (h++[.lst []])=.ok kd.ae h1:=ui 1 s1 r1;rw[bf,ai,ao s1,R.af,ai,l,R.af,ai,k,R.af,ai,bu];exact m.eq
theorem Mp(H:mf C p)(g:Gen p h){σ:Env}(s1:σ[1]?=some (some (.ref p))):∃(n:Co) (h':Hp),ag C (.tup (.cons (.cst (.str oS)) (.cons (.call az (.cons (.var 1) (.cons (.cst (.int 12)) .nil))) .nil))) σ h=.ok n.ae h'/\Nw p h n h':=by obtain⟨v,h1,r1,_,_,x1,g1⟩:=H.nx 12 h g (by decide);refine⟨.lf (.var v),h1,?_,trivial,by simp[Co.depth],by simp[Co.turns],x1,g1⟩;rw[cN,ai,bu,R.af,ai,mV s1 r1];rfl
noncomputable def six(c:Co)(k3:Kd)(v:Int):List Co:=[.lf (.dE (.row .tru)),.n1 .lrow (.lf .yes),.n2 .lpair c c,.lf (.dE k3),.lf (.dfn v [k3]),.lf (.dfn 0 [])]
noncomputable abbrev MR:E:=.lst (.cons (.tup (.cons (.cst (.str [108,105,107,101])) (.cons (.tup (.cons (.cst (.str [114,111,119])) (.cons (.tup (.cons (.cst (.str [116,114,117,116,104])) .nil)) .nil))) .nil))) (.cons (.tup (.cons (.cst (.str [108,105,107,101,114,111,119])) (.cons (.tup (.cons (.cst (.str [121,101,115])) .nil)) .nil))) (.cons (.tup (.cons (.cst (.str [108,105,107,101,112,97,105,114])) (.cons (.var 4) (.cons (.var 4) .nil)))) (.cons (.tup (.cons (.cst (.str [108,105,107,101])) (.cons (.var 3) .nil))) .nil))))
noncomputable abbrev Bg:E:=.lst (.cons (.tup (.cons (.cst (.str [100,101,102])) (.cons (.call az (.cons (.var 1) (.cons (.cst (.int 2)) .nil))) (.cons (.tup (.cons (.var 3) .nil)) .nil)))) (.cons (.tup (.cons (.cst (.str [100,101,102])) (.cons (.cst (.int 0)) (.cons (.tup .nil) .nil)))) .nil))
theorem DS:ag C MR (sL p b k3 c g5 g6 g7 g8) h=.ok (.ref h.length) (h++[O.lst (((six c k3 0).take 4).map Co.ae)]):=by kernel_rfl
theorem EM{v:Int}{h1:Hp}(r:C az [.ref p,.int 2] h=.ok (.int v) h1):ag C Bg (sL p b k3 c g5 g6 g7 g8) h=.ok (.ref h1.length) (h1++[O.lst (((six c k3 v).drop 4).map Co.ae)]):=by have q:ag C (.call az (.cons (.var 1) (.cons (.cst (.int 2)) .nil))) (sL p b k3 c g5 g6 g7 g8) h=.ok (.int v) h1:=mV rfl r;rw[qG,ai,cN,ai,bu,R.af,ai,q];rfl
theorem M4(H:mf C p)(g:Gen p h)(hk:k3.depth<=2)(hc:c.kd 8)(hd:c.depth<=19)(ht:c.turns<=55160)(e7:h[q]?=some (.lst (((six c k3 0).take 4).map Co.ae)))(nq:q≠p):∃(n:Co) (h':Hp),ag C (.idx (.bin .add (.var 7) Bg) (.call az (.cons (.var 1) (.cons (.cst (.int 6)) .nil)))) (sL p b k3 c g5 g6 (some (.ref q)) g8) h=.ok n.ae h'/\Nw p h n h':=by
 obtain⟨v,h1,r1,_,_,x1,g1⟩:=H.nx 2 h g (by decide);have l2:=EM (b:=b) (k3:=k3) (c:=c) (g5:=g5) (g6:=g6) (g7:=some (.ref q)) (g8:=g8) r1;have e71:=x1.keep _ _ e7 nq;have x2:=Ext.app p h1 [O.lst (((six c k3 v).drop 4).map Co.ae)];have g2:=g1.ext [O.lst (((six c k3 v).drop 4).map Co.ae)];have e72:=x2.keep _ _ e71 nq;have lk2:=a9 h1 (O.lst (((six c k3 v).drop 4).map Co.ae));generalize h1++[O.lst (((six c k3 v).drop 4).map Co.ae)]=h2 at *;generalize h1.length=q2 at *;have ad:ag C (.bin .add (.var 7) Bg) (sL p b k3 c g5 g6 (some (.ref q)) g8) h=.ok (.ref h2.length) (h2++[O.lst ((six c k3 v).map Co.ae)]):=by rw[gO,ao (i:=7) rfl,R.af,l2,R.af];simp only[bin,e72,lk2];rw[if_pos ⟨trivial,by simp[six,SZ]⟩];rfl
 have x3:=Ext.app p h2 [O.lst ((six c k3 v).map Co.ae)];have g3:=g2.ext [O.lst ((six c k3 v).map Co.ae)];obtain⟨v6,h4,r4,a4,b4,x4,g4⟩:=H.nx 6 _ g3 (by decide);have lk4:=x4.keep _ _ (a9 h2 (O.lst ((six c k3 v).map Co.ae))) (bo g2.gP);obtain⟨y,hy,ey⟩:=k4 ((six c k3 v).map Co.ae) v6 a4 (by simpa [six] using b4);obtain⟨n,hn,rfl⟩:=gC.mp hy;have X:=((x1.trans x2).trans x3).trans x4;refine⟨n,h4,?_,?_⟩
 .rw[iC,ad,R.af,mV (i:=1) rfl r4];simp[lk4,ey]
 .simp only[six,cY,rm,or_false] at hn;rcases hn with rfl|rfl|rfl|rfl|rfl|rfl
  .exact⟨by simp[Co.kd,Lf.kd,Kd.depth],by simp[Co.depth],by simp[Co.turns],X,g4⟩
  .exact⟨trivial,by simp[Co.depth],by simp[Co.turns],X,g4⟩
  .exact⟨⟨hc,hc⟩,by simp only[Co.depth];omega,by simp only[Co.turns];omega,X,g4⟩
  .exact⟨by simp only[Co.kd,Lf.kd];omega,by simp[Co.depth],by simp[Co.turns],X,g4⟩
  .exact⟨by intro k hk';rw[gH.mp hk'];omega,by simp[Co.depth],by simp[Co.turns],X,g4⟩
  .exact⟨(by intro k hk';cases hk'),by simp[Co.depth],by simp[Co.turns],X,g4⟩
end
section
variable {C:Or}{p b q:Nat}{k3:Kd}{c:Co}{h:Hp}{g5 g6 g7 g8:Option W}{bd:List Kd}
theorem F9(H:mf C p)(g:Gen p h)(hk:k3.depth<=2)(hc:c.kd 8)(hd:c.depth<=19)(ht:c.turns<=55160)(i:Int):∃(n:Co) (h':Hp),Nw p h n h'/\∀z,av C (jH.drop 4) (sL p b k3 c (some (.int i)) g6 (some n.ae) g8) h'=z->av C (jH.drop 1) (sL p b k3 c (some (.int i)) g6 g7 g8) h=z:=by
 obtain⟨n1,h1,e1,m1⟩:=Jj H g (σ:=sL p b k3 c (some (.int i)) g6 g7 g8) rfl;have Eq:∀(m:Int)(x:Option W)(h:Hp),ag C (.cmp .eq (.var 5) (.cst (.int m))) (sL p b k3 c (some (.int i)) g6 x g8) h=.ok (.bl (decide (i=m))) h:=fun m x h=>Aq rfl;by_cases i0:i=0
 .obtain⟨n2,h2,e2,m2⟩:=Mp H m1.gen (σ:=sL p b k3 c (some (.int i)) g6 (some n1.ae) g8) rfl;refine⟨n2,h2,⟨m2.fO,m2.deep,m2.ig,m1.ext.trans m2.ext,m2.gen⟩,fun z k=>?_⟩;refine aW e1 (w9 (h':=h1) (σ':=sL p b k3 c (some (.int i)) g6 (some n2.ae) g8) (h3:=h2) (by rw[<-decide_eq_true i0];exact Eq 0 _ _) (aW e2 rfl) (ah (h':=h2) (by rw[<-decide_eq_false (show ¬ i=1 by omega)];exact Eq 1 _ _) k))
 by_cases i1:i=1
 .have g2:=m1.gen.ext [O.lst (((six c k3 0).take 4).map Co.ae)];have ne:=bo m1.gen.gP;obtain⟨n2,h2,e2,m2⟩:=M4 (b:=b) (g5:=some (.int i)) (g6:=g6) (g8:=g8) (q:=h1.length) H g2 hk hc hd ht (a9 _ _) ne;refine⟨n2,h2,⟨m2.fO,m2.deep,m2.ig,(m1.ext.trans (Ext.app p _ _)).trans m2.ext,m2.gen⟩,fun z k=>?_⟩;exact aW e1 (ah (h':=h1) (by rw[<-decide_eq_false i0];exact Eq 0 _ _) (w9 (h':=h1) (σ':=sL p b k3 c (some (.int i)) g6 (some n2.ae) g8) (h3:=h2) (by rw[<-decide_eq_true i1];exact Eq 1 _ _) (aW DS (aW e2 rfl)) k))
 .refine⟨n1,h1,m1,fun z k=>?_⟩;exact aW e1 (ah (h':=h1) (by rw[<-decide_eq_false i0];exact Eq 0 _ _) (ah (h':=h1) (by rw[<-decide_eq_false i1];exact Eq 1 _ _) k))
theorem lE(H:mf C p)(g:Gen p h)(j:In p b bd h)(hb:∀x∈bd,x.depth<=8)(hn:bd.length<=2)(hk:k3.depth<=2)(hc:c.kd 8)(hd:c.depth<=19)(ht:c.turns<=55160)(i:Int):∃(g6' g7' g8':Option W) (h':Hp),av C jH (sL p b k3 c (some (.int i)) g6 g7 g8) h=.ok (.next (sL p b k3 c (some (.int i)) g6' g7' g8')) h'/\Gen p h'/\In p b bd h':=by
 obtain⟨h1,q,r1,l1,w1⟩:=H.pl c h hd ht;have g1:=w1.gen g;have j1:=j.to (w1.ext p);obtain⟨n,h2,m,K⟩:=F9 (b:=b) (k3:=k3) (c:=c) (g6:=some (.ref q)) (g7:=g7) (g8:=g8) H g1 hk hc hd ht i;have nq:q≠p:=by
  rintro rfl
  obtain⟨a,c',l,ns,e1,_,_⟩:=g1.ex;rw[l1] at e1;injection e1 with e1;injection e1 with e1;rw[p0 c] at e1;simp at e1
 have l2:=m.ext.keep _ _ l1 nq;have j2:=j1.to m.ext;have pl:=fH c;have pe:0<(cu c).length:=by rw[p0 c];simp
 obtain⟨v,h3,r3,v0,v1,x3,g3⟩:=H.nx ((cu c).length:Int) h2 m.gen (by omega);have l3:=x3.keep _ _ l2 nq;have j3:=j2.to x3;obtain⟨y,hy,ey⟩:=k4 ((cu c).map cI) v v0 (by simpa using v1);obtain⟨r,hr,rfl⟩:=gC.mp hy;have A:=hU c r hr;obtain⟨p1,p2,p3,p4⟩:=so A n;have md:=m.deep;have mt:=m.ig;have k8:=p3 hc m.fO;have dp:(c.put r n).depth<=39:=by omega
 have tp:(c.put r n).turns<FU:=by have:c.depth * c.turns<=19 * 55160:=Nat.mul_le_mul hd ht;refine Nat.lt_of_le_of_lt (m:=2000000) (by omega) ?_;unfold FU;decide
 obtain⟨h4,r4,w4⟩:=H.fd (c.put r n) bd h3 b j3.look k8 hb dp (by omega) tp;have j4:=j3.to (w4.ext p);have G4:=ak.app h4 [O.lst []];obtain⟨h5,r5,w5⟩:=H.jg (c.put r n) bd (h4++[O.lst []]) b h4.length (G4.keep _ _ j4.look) (a9 _ _) k8 hb dp (by omega);have w6:=(w4.trans G4).trans w5;have z:=JG h5 (jd (c.put r n) bd) (fun k e=>by have:=cL (D:=8) _ _ _ hb k8 e;omega);refine⟨some (.ref q),some n.ae,some (c.put r n).ae,h5,?_,w6.gen g3,j3.to (w6.ext p)⟩;refine aW (w:=.ref q) (h':=h1) (aH (gG (ao rfl)) r1) (K _ (aW (w:=(c.put r n).ae) (h':=h3) ?_ (ah (h':=h5) ?_ rfl)))
 .have ln:ag C (.blt .len (.var 6)) (sL p b k3 c (some (.int i)) (some (.ref q)) (some n.ae) g8) h2=.ok (.int ((cu c).length:Int)) h2:=by simp[l2]
  have nc:ag C (.call az (.cons (.var 1) (.cons (.blt .len (.var 6)) .nil))) (sL p b k3 c (some (.int i)) (some (.ref q)) (some n.ae) g8) h2=.ok (.int v) h3:=aH (dF (ao rfl) ln) r3;have ix:ag C (.idx (.var 6) (.call az (.cons (.var 1) (.cons (.blt .len (.var 6)) .nil)))) (sL p b k3 c (some (.int i)) (some (.ref q)) (some n.ae) g8) h2=.ok (cI r) h3:=by rw[iC,ao (i:=6) rfl,R.af,nc];simp[l3,ey]
  rw[bf,ai,ao (i:=4) rfl,R.af,ai,ix,R.af,ai,ao (i:=7) rfl];exact H.pu c n r h3 A hd
 .have f1:ag C (.call eW (.cons (.var 2) (.cons (.var 8) .nil))) (sL p b k3 c (some (.int i)) (some (.ref q)) (some n.ae) (some (c.put r n).ae)) h3=.ok (oW (jd (c.put r n) bd)) h4:=aH (dF (ao rfl) (ao rfl)) r4;have f2:ag C (.call cZ (.cons (.var 8) (.cons (.var 2) (.cons (.lst .nil) .nil)))) (sL p b k3 c (some (.int i)) (some (.ref q)) (some n.ae) (some (c.put r n).ae)) h4=.ok (oW (jd (c.put r n) bd)) h5:=by
   have l:ag C (.lst .nil) (sL p b k3 c (some (.int i)) (some (.ref q)) (some n.ae) (some (c.put r n).ae)) h4=.ok (.ref h4.length) (h4++[.lst []]):=rfl;rw[bf,ai,ao (i:=8) rfl,R.af,ai,ao (i:=2) rfl,R.af,ai,l];exact r5
  exact jh f1 f2 z
end
section
variable {C:Or}{p b q:Nat}{k3:Kd}{c:Co}{h:Hp}{g5 g6 g7 g8:Option W}{bd:List Kd}
noncomputable abbrev jf:Co:=.n2 .lpair (.lf (.dE .num)) (.n1 .lrow (.lf (.dE .tru)))
theorem EX:jd jf []=some (aF (.pair .num (.row .tru))):=by simp[jf,jd,Lf.jd,T1.j,T2.j,kB]
theorem Ez(H:mf C p)(σ:Env)(s9:σ[9]?=some (some jf.ae)):∃h',av C (qg.body.drop 7) σ h=.ok (.ret (.bl true)) h':=by
 obtain⟨h1,r1,w1⟩:=H.fd jf [] (h++[O.lst []]) h.length (a9 _ _) (by simp[jf,Co.kd,Lf.kd,Kd.depth]) (by simp) (by simp[jf,Co.depth]) (by simp) (by unfold FU;simp[jf,Co.turns]);rw[EX] at r1;refine⟨h1,aq (fq (u:=(aF (.pair .num (.row .tru))).ae) (v:=(aF (.pair .num (.row .tru))).ae) (h1:=h1) (h2:=h1) ?_ ?_ ?_)⟩
 .have l:ag C (.lst .nil) σ h=.ok (.ref h.length) (h++[.lst []]):=rfl;rw[bf,ai,l,R.af,ai,ao s9];exact r1
 .have t:ag C (.tup (.cons (.cst (.str [112,97,105,114])) (.cons (.tup (.cons (.cst (.str [110,117,109,98,101,114])) .nil)) (.cons (.tup (.cons (.cst (.str [114,111,119])) (.cons (.tup (.cons (.cst (.str [116,114,117,116,104])) .nil)) .nil))) .nil)))) σ h1=.ok (Kd.pair .num (.row .tru)).ae h1:=by kernel_rfl
  exact aH (gG t) (H.lk _ h1)
 .have:=Kd.bw h1 (aF (.pair .num (.row .tru))) (aF (.pair .num (.row .tru))) (by simp[aF,Kd.depth]) (by simp[aF,Kd.depth]);simpa using this
theorem AG(H:mf C p)(g:Gen p h)(j:In p b bd h)(hb:∀x∈bd,x.depth<=8)(hn:bd.length<=2)(hk:k3.depth<=2)(hc:c.kd 8)(hd:c.depth<=19)(ht:c.turns<=55160):∃h',av C (qg.body.drop 5) (sL p b k3 c none none none none) h=.ok (.ret (.bl true)) h':=by
 obtain⟨a6,a7,a8,h1,e1,g1,j1⟩:=lE (g6:=none) (g7:=none) (g8:=none) H g j hb hn hk hc hd ht 0;obtain⟨b6,b7,b8,h2,e2,g2,j2⟩:=lE (g6:=a6) (g7:=a7) (g8:=a8) H g1 j1 hb hn hk hc hd ht 1;obtain⟨c6,c7,c8,h3,e3,g3,j3⟩:=lE (g6:=b6) (g7:=b7) (g8:=b8) H g2 j2 hb hn hk hc hd ht 2;obtain⟨d6,d7,d8,h4,e4,g4,j4⟩:=lE (g6:=c6) (g7:=c7) (g8:=c8) H g3 j3 hb hn hk hc hd ht 3;obtain⟨h5,e5⟩:=Ez (h:=h4) H ((sL p b k3 c (some (.int 3)) d6 d7 d8).set 9 (some jf.ae)) rfl;refine⟨h5,fW (σ':=sL p b k3 c (some (.int 3)) d6 d7 d8) (h':=h4) ?_ (aW (w:=jf.ae) (h':=h4) (by kernel_rfl) e5)⟩;have it:dJ C (.iT (.cst (.int 4))) (sL p b k3 c none none none none) h=.ok (.fix [.int 0,.int 1,.int 2,.int 3]) h:=by rw[ly,bu,R.af];simp only[show iH 4=true from mH (n:=4) (by decide),gQ];rfl
 rw[jt,it,R.af];show cX (.var 5) (av C jH) [.int 0,.int 1,.int 2,.int 3] _ _=_;rw[cX,ju rfl e1,cX,ju rfl e2,cX,ju rfl e3,cX,ju rfl e4];rfl
theorem B5(H:mf C 2)(ns:List Int):∃h',aB C qg [.ref 0] [.bh (ns.map .int)]=.ok (.bl true) h':=by
 have g0:Gen 2 [O.bh (ns.map W.int),O.lst (ns.map W.int),O.lst [.int 17,.ref 1,.int 0]]:=⟨17,0,1,ns,rfl,rfl,by decide⟩;generalize e0:([O.bh (ns.map W.int),O.lst (ns.map W.int),O.lst [.int 17,.ref 1,.int 0]]:Hp)=h0 at g0;obtain⟨ka,h1,r1,d1,o1,x1,g1⟩:=H.kn 1 h0 (by decide) g0;obtain⟨kb,h2,r2,d2,o2,x2,g2⟩:=H.kn 1 h1 (by decide) g1;have j2:In 2 h2.length [ka,kb] (h2++[O.lst [ka.ae,kb.ae]]):=⟨a9 _ _,bo g2.gP⟩;obtain⟨k3,h3,r3,d3,o3,x3,g3⟩:=H.kn 2 (h2++[O.lst [ka.ae,kb.ae]]) (by decide) (g2.ext _);have j3:=j2.to x3;generalize eb:h2.length=b at j3;have hb:∀x∈ [ka,kb],x.depth<=8:=by intro x hx;simp at hx;rcases hx with rfl|rfl<;>omega
 obtain⟨c,h4,m⟩:=H.c3 b [ka,kb] k3 h3 g3 j3 hb (by simp) o3 d3;have j4:=j3.to m.ext;have ft:c.turns<FU:=Nat.lt_of_le_of_lt m.ig (by unfold FU;decide);obtain⟨h5,r5,w5⟩:=H.fd c [ka,kb] h4 b j4.look m.fO hb (bW m.deep (by decide)) (by simp) ft;have j5:=j4.to (w5.ext 2);have G5:=ak.app h5 [O.lst []];obtain⟨h6,r6,w6⟩:=H.jg c [ka,kb] (h5++[O.lst []]) b h5.length (G5.keep _ _ j5.look) (a9 _ _) m.fO hb (bW m.deep (by decide)) (by simp);have w46:=(w5.trans G5).trans w6;have g6:=w46.gen m.gen;have j6:=j4.to (w46.ext 2);rw[m.jd] at r5 r6;obtain⟨h7,e7⟩:=AG H g6 j6 hb (by simp) d3 m.fO m.deep m.ig;refine⟨h7,bR [some (.ref 0),none,none,none,none,none,none,none,none,none] rfl rfl ?_⟩;refine aW (w:=.ref 2) (h':=h0) ?_ (aW (w:=.ref b) (h':=h2++[O.lst [ka.ae,kb.ae]]) ?_ (aW (w:=k3.ae) (h':=h3) (ui 2 rfl r3) (aW (w:=c.ae) (h':=h4) ?_ (ah (h':=h6) ?_ e7))))
 .subst e0;simp
 .have a1:ag C (.call bI (.cons (.var 1) (.cons (.cst (.int 1)) (.cons (.lst .nil) .nil)))) [some (.ref 0),some (.ref 2),none,none,none,none,none,none,none,none] h0=.ok ka.ae h1:=ui 1 rfl r1;have a2:ag C (.call bI (.cons (.var 1) (.cons (.cst (.int 1)) (.cons (.lst .nil) .nil)))) [some (.ref 0),some (.ref 2),none,none,none,none,none,none,none,none] h1=.ok kb.ae h2:=ui 1 rfl r2;show ag C _ [some (.ref 0),some (.ref 2),none,none,none,none,none,none,none,none] h0=_;rw[qG,ai,a1,R.af,ai,a2,<-eb];rfl
 .show ag C _ (sL 2 b k3 c none none none none |>.set 4 none) h3=_;rw[bf,ai,ao (i:=1) rfl,R.af,ai,ao (i:=2) rfl,R.af,ai,ao (i:=3) rfl,R.af,ai,bu];exact m.eq
 .have z:∀h:Hp,bw h k3.ae k3.ae=some true:=fun h=>by
   have:=Kd.bw h k3 k3 (by omega) (by omega);simpa using this
  have l:ag C (.lst .nil) (sL 2 b k3 c none none none none) h5=.ok (.ref h5.length) (h5++[.lst []]):=rfl;have f2:ag C (.call cZ (.cons (.var 4) (.cons (.var 2) (.cons (.lst .nil) .nil)))) (sL 2 b k3 c none none none none) h5=.ok k3.ae h6:=by rw[bf,ai,ao (i:=4) rfl,R.af,ai,ao (i:=2) rfl,R.af,ai,l];exact r6
  have f1:ag C (.call eW (.cons (.var 2) (.cons (.var 4) .nil))) (sL 2 b k3 c none none none none) h4=.ok k3.ae h5:=aH (dF (ao rfl) (ao rfl)) r5;exact uP (o:=false) (p:=false) (jh (o:=true) f1 (ao rfl) (z h5)) (fun _=>jh (o:=true) f2 (ao rfl) (z h6)) (fun z=>by cases z)
end
theorem zA(ns:List Int):∃h',run T 60 Dx [.ref 0] [.bh (ns.map .int)]=.ok (.bl true) h':=B5 (M8 2) ns
end K04
set_option maxHeartbeats 0
namespace K04G
open PySem PySem.W L2 TwS PyProof.Rows
open K04 (T zA)
noncomputable abbrev pw:Program:=PySem.Challenge.pw_twomeet_k04_kinds_of_cores
abbrev top(i:Nat):Stmt:=pw.main.body.getD i (.Pass ⟨0,0,0,0⟩)
abbrev s0:Stmt:=top 29
abbrev d0:bZ:=⟨.fn "likeness_kind", "likeness_kind", "likeness_kind",s0,["kind"],["kind"],false⟩
abbrev s1:Stmt:=top 32
abbrev d1:bZ:=⟨.fn "parts_of", "parts_of", "parts_of",s1,["core"],["core"],false⟩
abbrev s2:Stmt:=top 34
abbrev d2:bZ:=⟨.fn "walked", "walked", "walked",s2,["core", "context", "answer", "answers", "left", "part", "bound", "ready", "within", "inside", "one"],["core", "context", "answer"],false⟩
abbrev s3:Stmt:=top 35
abbrev d3:bZ:=⟨.fn "taken", "taken", "taken",s3,["answers", "many", "last"],["answers", "many"],false⟩
abbrev s4:Stmt:=top 43
abbrev d4:bZ:=⟨.fn "told_at", "told_at", "told_at",s4,["shelf", "number", "kinds", "definition"],["shelf", "number", "kinds"],false⟩
abbrev s5:Stmt:=top 44
abbrev d5:bZ:=⟨.fn "kind_at", "kind_at", "kind_at",s5,["shelf", "number", "kinds", "definition"],["shelf", "number", "kinds"],false⟩
abbrev s6:Stmt:=top 47
abbrev d6:bZ:=⟨.fn "core_kind", "core_kind", "core_kind",s6,["shelf", "context", "core", "answer"],["shelf", "context", "core"],true⟩
noncomputable abbrev s7:Stmt:=(cK s6).getD 0 (.Pass ⟨0,0,0,0⟩)
abbrev d7:bZ:=⟨.bQ, "answer", "",s7,["part", "bound", "kinds", "shelf"],["part", "bound", "kinds"],false⟩
abbrev s8:Stmt:=top 48
abbrev d8:bZ:=⟨.fn "want", "want", "want",s8,["kind", "wanted"],["kind", "wanted"],false⟩
abbrev s9:Stmt:=top 49
abbrev d9:bZ:=⟨.fn "want_word", "want_word", "want_word",s9,["kind", "word"],["kind", "word"],false⟩
abbrev LD:Stmt:=top 50
abbrev LR:bZ:=⟨.fn "leaf_kind", "leaf_kind", "leaf_kind",LD,["shelf", "bound", "core"],["shelf", "bound", "core"],false⟩
abbrev Li:Stmt:=top 51
abbrev LA:bZ:=⟨.fn "var_kind", "var_kind", "var_kind",Li,["bound", "rounds"],["bound", "rounds"],false⟩
abbrev LM:Stmt:=top 52
abbrev KY:bZ:=⟨.fn "like_kind", "like_kind", "like_kind",LM,["kind"],["kind"],false⟩
abbrev LI:Stmt:=top 53
abbrev KS:bZ:=⟨.fn "kind_by_parts", "kind_by_parts", "kind_by_parts",LI,["core", "kinds", "word"],["core", "kinds"],false⟩
abbrev Ln:Stmt:=top 54
abbrev LQ:bZ:=⟨.fn "call_kind", "call_kind", "call_kind",Ln,["kinds"],["kinds"],false⟩
abbrev LH:Stmt:=top 55
abbrev KH:bZ:=⟨.fn "fold_kind", "fold_kind", "fold_kind",LH,["kinds"],["kinds"],false⟩
abbrev LP:Stmt:=top 56
abbrev LS:bZ:=⟨.fn "liked", "liked", "liked",LP,["kind"],["kind"],false⟩
abbrev LU:Stmt:=clsAt (top 115) 0
abbrev Lw:bZ:=⟨.me [83,104,101,108,102] n8, "__init__", "Shelf.__init__",LU,["self"],["self"],false⟩
abbrev K8:Stmt:=top 118
abbrev Lq:bZ:=⟨.fn "_law_next", "_law_next", "_law_next",K8,["_law_h", "_law_many", "_law_cell"],["_law_h", "_law_many"],false⟩
abbrev KU:Stmt:=top 119
abbrev LC:bZ:=⟨.fn "_law_number", "_law_number", "_law_number",KU,["_law_h", "_law_some"],["_law_h"],false⟩
abbrev Ls:Stmt:=top 121
abbrev KN:bZ:=⟨.fn "_law_kind", "_law_kind", "_law_kind",Ls,["_law_h", "_law_deep", "_law_names", "_law_way", "_law_one"],["_law_h", "_law_deep", "_law_names"],false⟩
abbrev Lj:Stmt:=top 122
abbrev K7:bZ:=⟨.fn "_law_likely", "_law_likely", "_law_likely",Lj,["_law_kind_here"],["_law_kind_here"],false⟩
abbrev LK:Stmt:=top 123
abbrev KQ:bZ:=⟨.fn "_law_likecore", "_law_likecore", "_law_likecore",LK,["_law_h", "_law_kind_here"],["_law_h", "_law_kind_here"],false⟩
abbrev Lv:Stmt:=top 124
abbrev KI:bZ:=⟨.fn "_law_base", "_law_base", "_law_base",Lv,["_law_h", "_law_bound", "_law_kind_here", "_law_deep", "_law_number_here", "_law_made", "_law_k"],["_law_h", "_law_bound", "_law_kind_here", "_law_deep"],false⟩
abbrev KR:Stmt:=top 125
abbrev Le:bZ:=⟨.fn "_law_core", "_law_core", "_law_core",KR,["_law_h", "_law_bound", "_law_kind_here", "_law_deep", "_law_way", "_law_fars", "_law_other", "_law_part", "_law_row", "_law_start"],["_law_h", "_law_bound", "_law_kind_here", "_law_deep"],false⟩
abbrev K9:Stmt:=top 126
abbrev LJ:bZ:=⟨.fn "_law_inner", "_law_inner", "_law_inner",K9,["_law_core_here"],["_law_core_here"],false⟩
abbrev Ly:Stmt:=top 127
abbrev LW:bZ:=⟨.fn "_law_places", "_law_places", "_law_places",Ly,["_law_core_here", "_law_found_here", "_law_k"],["_law_core_here"],false⟩
abbrev Lr:Stmt:=top 128
abbrev KG:bZ:=⟨.fn "_law_put", "_law_put", "_law_put",Lr,["_law_core_here", "_law_place", "_law_new"],["_law_core_here", "_law_place", "_law_new"],false⟩
abbrev K5:Stmt:=top 129
abbrev Lg:bZ:=⟨.fn "_law_like_kind", "_law_like_kind", "_law_like_kind",K5,["_law_kind_here"],["_law_kind_here"],false⟩
abbrev Ll:Stmt:=top 132
abbrev Lp:bZ:=⟨.fn "_law_judge", "_law_judge", "_law_judge",Ll,["_law_core_here", "_law_bound", "_law_defs", "_law_head", "_law_good", "_law_inner_here", "_law_kinds"],["_law_core_here", "_law_bound", "_law_defs"],false⟩
abbrev KJ:Stmt:=top 133
abbrev KO:bZ:=⟨.fn "_law_joined", "_law_joined", "_law_joined",KJ,["_law_head", "_law_kinds", "_law_first", "_law_number_here", "_law_good"],["_law_head", "_law_kinds"],false⟩
abbrev LO:Stmt:=top 134
abbrev KD:bZ:=⟨.fn "_law_found", "_law_found", "_law_found",LO,["_law_bound", "_law_core_here", "e", "_law_good"],["_law_bound", "_law_core_here"],false⟩
abbrev Ld:Stmt:=top 135
abbrev KL:bZ:=⟨.fn "law", "law", "law",Ld,["_law_script", "_law_h", "_law_bound", "_law_kind_here", "_law_core_here", "_law_turn", "_law_ways", "_law_new", "_law_spoilt", "_law_like"],["_law_script"],false⟩
noncomputable abbrev cU:List (Tw.S×List Tw.S):=[([83,116,114,97,121],[])]
noncomputable abbrev ie:List (Tw.S×List Tw.S):=[([77,101,101,116,69,114,114,111,114],[[83,116,114,97,121]])]
noncomputable abbrev nA:List (List Tw.S×List Tw.S):=[([[86,97,108,117,101,69,114,114,111,114]],[[83,116,114,97,121]]),([[83,116,114,97,121]],[[83,116,114,97,121]]),([[82,101,102,117,115,101,100],[84,111,111,76,111,110,103]],[])]
noncomputable abbrev Oj:List (Tw.S×Addr):=[([83,116,114,97,121],87)]
abbrev Ds:List bZ:=[d0,d1,d2,d3,d4,d5,d6,d7,d8,d9,LR,LA,KY,KS,LQ,KH,LS,Lw,Lq,LC,KN,K7,KQ,KI,Le,LJ,LW,KG,Lg,Lp,KO,KD,KL]
noncomputable abbrev cons:List (Str×Tw.W):=[("MADE_OF_PARTS",.tup [(.str [99,97,108,108]),(.str [98,111,116,104]),(.str [108,101,102,116]),(.str [114,105,103,104,116]),(.str [109,111,114,101]),(.str [102,111,108,100]),(.str [105,102]),(.str [115,117,109]),(.str [108,101,115,115]),(.str [108,105,107,101,112,97,105,114]),(.str [108,105,107,101,114,111,119])]),("NUMBER",.tup [(.str [110,117,109,98,101,114])]),("TRUTH",.tup [(.str [116,114,117,116,104])])]
abbrev bQ:List (Nat×List Str×Bool×Tw.Fn):=[(7,["part", "bound", "kinds", "shelf"],true,K04.dS)]
noncomputable abbrev tb:List jY:=[⟨402,("core_kind" : Str)++ ".<locals>." ++ "answer"⟩]
abbrev KZ:Cfg:={fns:=Ds.map (·.key),cons:=cons,cU:=cU,ie:=ie,nA:=nA}
abbrev cf:Cfg:={KZ with ci:=xg KZ bQ}
theorem Om:jM cf Ds T=true:=by decide+kernel
noncomputable abbrev ke(P:Params)(x:Str)(t:Nat)(v:Value):DictEntry:=⟨PyData.keyHash P x,.str x t,v⟩
noncomputable abbrev eU(n q:Str)(a b c d:Nat)(l x y z u:Int)(r1:Nat)(bb:Bool)(i1:Int)(r2:Nat)(v:Value)(r3 r4 r5:Nat)(k:Int):Obj:=⟨.type "code",none,.fields #[.str n a,.str q b,.str "/claim/cut.py" c,.int l 0,.int x 0,.int y 0,.int z 0,.int u 0,.ref r1,.bool bb,.int i1 0,.ref r2,v,.ref r3,.ref r4,.ref r5,.int k 0,.int l 0,.str "/claim/cut.py" d],#[]⟩
noncomputable abbrev dz(n q:Str)(s:Stmt)(m:Str)(t c:Nat):Obj:=⟨.type "function",none,.func (fnOf n q (dB s) (cK s) (ax s) .none .none .none (.str m t) none (.ref c) .none),#[]⟩
abbrev o2(P:Params):Obj:=⟨.none,none,(.dict #[] 0),#[]⟩
abbrev o3(P:Params):Obj:=⟨(.type "dict"),none,(.dict #[ke P "__name__" 165 (.str "law_twomeet_k04_kinds_of_cores" 1638),ke P "__doc__" 166 .none,ke P "__package__" 167 .none,ke P "__loader__" 168 (.builtin "__main__.__loader__#opaque"),ke P "__spec__" 169 .none,ke P "__annotations__" 170 (.ref 6),ke P "__builtins__" 171 (.ref 4),ke P "__file__" 173 (.str "/claim/cut.py" 172),ke P "__cached__" 174 .none,ke P "_wall" 193 (.ref 21),ke P "MeetError" 213 (.ref 31),ke P "Refused" 238 (.ref 51),ke P "Told" 254 (.ref 63),ke P "Loose" 270 (.ref 75),ke P "Stray" 286 (.ref 87),ke P "TooLong" 302 (.ref 99),ke P "Unmet" 330 (.ref 118),ke P "Unfit" 356 (.ref 137),ke P "Misused" 382 (.ref 156),ke P "NoRule" 408 (.ref 175),ke P "Unbound" 434 (.ref 194),ke P "Unsaid" 450 (.ref 206),ke P "NUMBER" 454 (.ref 209),ke P "TRUTH" 456 (.ref 210),ke P "parts" 463 (.ref 217),ke P "filled" 471 (.ref 224),ke P "gaps_filled" 479 (.ref 231),ke P "replaced" 491 (.ref 238),ke P "has_gaps" 500 (.ref 245),ke P "names_in" 508 (.ref 252),ke P "put_names" 517 (.ref 259),ke P "met" 530 (.ref 266),ke P "met_gap" 540 (.ref 273),ke P "unlikely" 552 (.ref 280),ke P "likeness" 560 (.ref 287),ke P "likeness_kind" 567 (.ref 294),ke P "MADE_OF_PARTS" 581 (.ref 295),ke P "parts_of" 588 (.ref 302),ke P "with_parts" 596 (.ref 309),ke P "walked" 613 (.ref 316),ke P "taken" 622 (.ref 323),ke P "put_in" 632 (.ref 330),ke P "marked" 639 (.ref 337),ke P "bare" 646 (.ref 344),ke P "unmarked" 654 (.ref 351),ke P "core_filled" 664 (.ref 358),ke P "Definition" 704 (.ref 375),ke P "told_at" 714 (.ref 386),ke P "kind_at" 724 (.ref 393),ke P "core_at" 734 (.ref 400),ke P "core_kind" 747 (.ref 407),ke P "want" 755 (.ref 414),ke P "want_word" 763 (.ref 421),ke P "leaf_kind" 772 (.ref 428),ke P "var_kind" 780 (.ref 435),ke P "like_kind" 787 (.ref 442),ke P "kind_by_parts" 796 (.ref 449),ke P "call_kind" 803 (.ref 456),ke P "fold_kind" 810 (.ref 463),ke P "liked" 817 (.ref 470),ke P "Scope" 895 (.ref 518),ke P "YES" 899 (.ref 523),ke P "NO" 901 (.ref 524),ke P "becomes" 911 (.ref 531),ke P "truth" 918 (.ref 538),ke P "taken_apart" 926 (.ref 545),ke P "call_becomes" 935 (.ref 552),ke P "if_becomes" 943 (.ref 559),ke P "fold_becomes" 953 (.ref 566),ke P "likeness_becomes" 963 (.ref 573),ke P "asked" 972 (.ref 580),ke P "like_becomes" 981 (.ref 587),ke P "likerow_becomes" 990 (.ref 594),ke P "STEPPING" 1026 (.ref 595),ke P "LIKENESSES" 1030 (.ref 596),ke P "ENDS" 1041 (.ref 597),ke P "ends_by_parts" 1048 (.ref 604),ke P "with_part" 1057 (.ref 611),ke P "Reckoning" 1135 (.ref 670),ke P "run" 1146 (.ref 681),ke P "come_up" 1157 (.ref 688),ke P "go_down" 1167 (.ref 695),ke P "found_to_be" 1179 (.ref 702),ke P "number_up" 1188 (.ref 709),ke P "truth_up" 1197 (.ref 716),ke P "told_up" 1207 (.ref 723),ke P "fun_up" 1216 (.ref 730),ke P "fun_down" 1227 (.ref 737),ke P "both_up" 1240 (.ref 744),ke P "both_down" 1252 (.ref 751),ke P "side_up" 1263 (.ref 758),ke P "rowof_up" 1277 (.ref 765),ke P "rowof_down" 1283 (.ref 770),ke P "row_of" 1293 (.ref 777),ke P "ahead_up" 1305 (.ref 784),ke P "ahead_down" 1317 (.ref 791),ke P "fold_up" 1331 (.ref 798),ke P "if_up" 1344 (.ref 805),ke P "if_down" 1357 (.ref 812),ke P "let_up" 1370 (.ref 819),ke P "let_down" 1383 (.ref 826),ke P "reckoned_up" 1394 (.ref 833),ke P "like_up" 1406 (.ref 840),ke P "called_up" 1415 (.ref 847),ke P "called_down" 1427 (.ref 854),ke P "called" 1442 (.ref 861),ke P "work_called" 1454 (.ref 868),ke P "definition_called" 1460 (.ref 873),ke P "part_met" 1475 (.ref 880),ke P "left_met" 1486 (.ref 887),ke P "definition_at" 1492 (.ref 892),ke P "COMING_UP" 1529 (.ref 893),ke P "GOING_DOWN" 1546 (.ref 895),ke P "Shelf" 1625 (.ref 947),ke P "refuse_names" 1637 (.ref 958),ke P "_law_next" 1648 (.ref 965),ke P "_law_number" 1656 (.ref 972),ke P "_law_word" 1662 (.ref 977),ke P "_law_kind" 1673 (.ref 984),ke P "_law_likely" 1679 (.ref 989),ke P "_law_likecore" 1687 (.ref 996),ke P "_law_base" 1700 (.ref 1003),ke P "_law_core" 1706 (.ref 1008),ke P "_law_inner" 1713 (.ref 1015),ke P "_law_places" 1719 (.ref 1020),ke P "_law_put" 1728 (.ref 1027),ke P "_law_like_kind" 1735 (.ref 1034),ke P "_law_fill" 1741 (.ref 1039),ke P "_law_def_kind" 1753 (.ref 1046),ke P "_law_judge" 1759 (.ref 1051),ke P "_law_joined" 1765 (.ref 1056),ke P "_law_found" 1775 (.ref 1063),ke P "law" 1791 (.ref 1070)] 133),#[]⟩
noncomputable abbrev o4:Obj:=⟨(.type "module"),(some 0),.plain,#[]⟩
abbrev Oc(P:Params):Obj:=⟨(.type "dict"),none,(.dict #[ke P "__module__" 203 (.str "twomeet.errors" 194),ke P "__firstlineno__" 207 (.int 5 206),ke P "__static_attributes__" 208 (.ref 29),ke P "__weakref__" 210 (.ref 32),ke P "__doc__" 211 .none] 3),#[]⟩
abbrev N2:Obj:=⟨(.type "type"),none,(.cls ⟨"MeetError",[(.type "ValueError")],((.ref 31)::mP),30, "MeetError",true,[],[(.ref 51),(.ref 63),(.ref 75),(.ref 87),(.ref 99)],false,none,false⟩),#[(some (.ref 22)),none,(some (.str "MeetError" 196)),(some (.str "MeetError" 204)),(some (.builtin "ValueError.__new__")),(some (.bool true))]⟩
abbrev NY(P:Params):Obj:=⟨(.type "dict"),none,(.dict #[ke P "__module__" 221 (.str "twomeet.errors" 194),ke P "__firstlineno__" 225 (.int 7 224),ke P "__init__" 233 (.ref 48),ke P "__static_attributes__" 235 (.ref 49),ke P "__doc__" 236 .none] 2),#[]⟩
abbrev Oq:Obj:=⟨(.type "type"),none,(.cls ⟨"Refused",[(.ref 31)],((.ref 51)::(.ref 31)::mP),50, "Refused",true,[],[(.ref 118),(.ref 137),(.ref 156),(.ref 175),(.ref 194),(.ref 206)],false,none,false⟩),#[(some (.ref 35)),none,(some (.str "Refused" 214)),(some (.str "Refused" 222)),(some (.builtin "ValueError.__new__")),(some (.bool true))]⟩
abbrev N5(P:Params):Obj:=⟨(.type "dict"),none,(.dict #[ke P "__module__" 278 (.str "twomeet.errors" 194),ke P "__firstlineno__" 282 (.int 15 281),ke P "__static_attributes__" 283 (.ref 85),ke P "__doc__" 284 .none] 2),#[]⟩
abbrev NQ:Obj:=⟨(.type "type"),none,(.cls ⟨"Stray",[(.ref 31)],((.ref 87)::(.ref 31)::mP),86, "Stray",true,[],[],false,none,false⟩),#[(some (.ref 78)),none,(some (.str "Stray" 271)),(some (.str "Stray" 279)),(some (.builtin "ValueError.__new__")),(some (.bool true))]⟩
abbrev NP(P:Params):Obj:=⟨(.type "dict"),none,(.dict #[ke P "__module__" 294 (.str "twomeet.errors" 194),ke P "__firstlineno__" 298 (.int 17 297),ke P "__static_attributes__" 299 (.ref 97),ke P "__doc__" 300 .none] 2),#[]⟩
abbrev NN:Obj:=⟨(.type "type"),none,(.cls ⟨"TooLong",[(.ref 31)],((.ref 99)::(.ref 31)::mP),98, "TooLong",true,[],[],false,none,false⟩),#[(some (.ref 90)),none,(some (.str "TooLong" 287)),(some (.str "TooLong" 295)),(some (.builtin "ValueError.__new__")),(some (.bool true))]⟩
noncomputable abbrev Gz:Obj:=⟨(.type "tuple"),none,(.seq #[(.str "number" 453)] 0),#[]⟩
noncomputable abbrev Ht:Obj:=⟨(.type "tuple"),none,(.seq #[(.str "truth" 455)] 0),#[]⟩
abbrev Mz:Obj:=eU "likeness_kind" "likeness_kind" 561 562 563 566 123 1 0 0 3 288 true 181 289 .none 290 291 292 565
abbrev FQ:Obj:=dz "likeness_kind" "likeness_kind" s0 "twomeet.likes" 541 293
noncomputable abbrev Fw:Obj:=⟨(.type "tuple"),none,(.seq #[(.str "call" 570),(.str "both" 571),(.str "left" 572),(.str "right" 573),(.str "more" 574),(.str "fold" 575),(.str "if" 576),(.str "sum" 577),(.str "less" 578),(.str "likepair" 579),(.str "likerow" 580)] 0),#[]⟩
abbrev MF:Obj:=eU "parts_of" "parts_of" 582 583 584 587 127 1 0 0 3 296 true 181 297 .none 298 299 300 586
abbrev G1:Obj:=dz "parts_of" "parts_of" s1 "twomeet.walks" 568 301
abbrev MU:Obj:=eU "walked" "walked" 597 598 599 612 139 3 0 0 3 310 true 181 311 .none 312 313 314 611
abbrev Ic:Obj:=dz "walked" "walked" s2 "twomeet.walks" 568 315
abbrev Mo:Obj:=eU "taken" "taken" 614 615 616 621 153 2 0 0 3 317 true 181 318 .none 319 320 321 620
abbrev Fe:Obj:=dz "taken" "taken" s3 "twomeet.walks" 568 322
abbrev M0:Obj:=eU "told_at" "told_at" 705 706 707 713 200 3 0 0 3 380 true 181 381 .none 382 383 384 712
abbrev FW:Obj:=dz "told_at" "told_at" s4 "twomeet.definitions" 665 385
abbrev M6:Obj:=eU "kind_at" "kind_at" 715 716 717 723 207 3 0 0 3 387 true 181 388 .none 389 390 391 722
abbrev GD:Obj:=dz "kind_at" "kind_at" s5 "twomeet.definitions" 665 392
abbrev E9:Obj:=eU "core_kind" "core_kind" 737 738 739 746 214 3 0 0 3 401 true 181 402 .none 403 404 405 745
abbrev E4:Obj:=dz "core_kind" "core_kind" s6 "twomeet.core" 735 406
abbrev MA:Obj:=eU "want" "want" 748 749 750 754 221 2 0 0 3 408 true 181 409 .none 410 411 412 753
abbrev Gi:Obj:=dz "want" "want" s8 "twomeet.core" 735 413
abbrev Mn:Obj:=eU "want_word" "want_word" 756 757 758 762 224 2 0 0 3 415 true 181 416 .none 417 418 419 761
abbrev Gw:Obj:=dz "want_word" "want_word" s9 "twomeet.core" 735 420
abbrev Ml:Obj:=eU "leaf_kind" "leaf_kind" 764 765 766 771 227 3 0 0 3 422 true 181 423 .none 424 425 426 770
abbrev HY:Obj:=dz "leaf_kind" "leaf_kind" LD "twomeet.core" 735 427
abbrev Nh:Obj:=eU "var_kind" "var_kind" 773 774 775 779 239 2 0 0 3 429 true 181 430 .none 431 432 433 778
abbrev G7:Obj:=dz "var_kind" "var_kind" Li "twomeet.core" 735 434
abbrev MS:Obj:=eU "like_kind" "like_kind" 781 782 783 786 243 1 0 0 3 436 true 181 437 .none 438 439 440 785
abbrev F8:Obj:=dz "like_kind" "like_kind" LM "twomeet.core" 735 441
abbrev M3:Obj:=eU "kind_by_parts" "kind_by_parts" 788 789 790 795 247 2 0 0 3 443 true 181 444 .none 445 446 447 794
abbrev Ib:Obj:=dz "kind_by_parts" "kind_by_parts" LI "twomeet.core" 735 448
abbrev Mj:Obj:=eU "call_kind" "call_kind" 797 798 799 802 274 1 0 0 3 450 true 181 451 .none 452 453 454 801
abbrev Ii:Obj:=dz "call_kind" "call_kind" Ln "twomeet.core" 735 455
abbrev Mb:Obj:=eU "fold_kind" "fold_kind" 804 805 806 809 278 1 0 0 3 457 true 181 458 .none 459 460 461 808
abbrev Gj:Obj:=dz "fold_kind" "fold_kind" LH "twomeet.core" 735 462
abbrev MJ:Obj:=eU "liked" "liked" 811 812 813 816 282 1 0 0 3 464 true 181 465 .none 466 467 468 815
abbrev FV:Obj:=dz "liked" "liked" LP "twomeet.core" 735 469
abbrev Mg:Obj:=eU "__init__" "Shelf.__init__" 1561 1562 1563 1566 631 1 0 0 3 903 true 181 904 .none 905 906 907 1565
abbrev Fd:Obj:=dz "__init__" "Shelf.__init__" LU "twomeet.shelf" 1547 908
abbrev Mf(P:Params):Obj:=⟨(.type "dict"),none,(.dict #[ke P "__module__" 1556 (.str "twomeet.shelf" 1547),ke P "__firstlineno__" 1560 (.int 629 1559),ke P "__init__" 1567 (.ref 909),ke P "tell" 1580 (.ref 916),ke P "write" 1588 (.ref 923),ke P "write_as" 1597 (.ref 930),ke P "end" 1608 (.ref 937),ke P "outside" 1615 (.ref 944),ke P "__static_attributes__" 1618 (.ref 945),ke P "__dict__" 1620 (.ref 948),ke P "__weakref__" 1622 (.ref 949),ke P "__doc__" 1623 .none] 4),#[]⟩
noncomputable abbrev Nk:Obj:=⟨(.type "type"),none,(.cls ⟨"Shelf",[(.type "object")],[(.ref 947),(.type "object")],946, "Shelf",true,[],[],false,none,false⟩),#[none,none,(some (.str "Shelf" 1549)),(some (.str "Shelf" 1557)),(some (.builtin "object.__new__")),(some (.bool true))]⟩
abbrev Mh:Obj:=eU "_law_next" "_law_next" 1640 1641 1642 1647 667 2 0 0 3 959 true 181 960 .none 961 962 963 1646
abbrev G8:Obj:=dz "_law_next" "_law_next" K8 "law_twomeet_k04_kinds_of_cores" 1638 964
abbrev L4:Obj:=eU "_law_number" "_law_number" 1649 1650 1651 1655 672 1 0 0 3 966 true 181 967 .none 968 969 970 1654
abbrev G9:Obj:=dz "_law_number" "_law_number" KU "law_twomeet_k04_kinds_of_cores" 1638 971
abbrev Nq:Obj:=eU "_law_kind" "_law_kind" 1663 1664 1665 1672 680 3 0 0 3 978 true 181 979 .none 980 981 982 1671
abbrev HX:Obj:=dz "_law_kind" "_law_kind" Ls "law_twomeet_k04_kinds_of_cores" 1638 983
abbrev MH:Obj:=⟨(.type "code"),none,(.fields #[(.str "_law_likely" 1674),(.str "_law_likely" 1675),(.str "/claim/cut.py" 1676),(.int 690 0),(.int 1 0),(.int 0 0),(.int 0 0),(.int 3 0),(.ref 985),(.bool true),(.int 181 0),(.ref 986),.none,.none,.none,(.ref 987),(.int 1677 0),(.int 690 0),(.str "/claim/cut.py" 1678)]),#[]⟩
abbrev GF:Obj:=dz "_law_likely" "_law_likely" Lj "law_twomeet_k04_kinds_of_cores" 1638 988
abbrev MV:Obj:=eU "_law_likecore" "_law_likecore" 1680 1681 1682 1686 694 2 0 0 3 990 true 181 991 .none 992 993 994 1685
abbrev Ij:Obj:=dz "_law_likecore" "_law_likecore" LK "law_twomeet_k04_kinds_of_cores" 1638 995
abbrev JC:Obj:=eU "_law_base" "_law_base" 1688 1689 1690 1699 700 4 0 0 3 997 true 181 998 .none 999 1000 1001 1698
abbrev Dl:Obj:=dz "_law_base" "_law_base" Lv "law_twomeet_k04_kinds_of_cores" 1638 1002
abbrev JM:Obj:=⟨(.type "code"),none,(.fields #[(.str "_law_core" 1701),(.str "_law_core" 1702),(.str "/claim/cut.py" 1703),(.int 720 0),(.int 4 0),(.int 0 0),(.int 0 0),(.int 3 0),(.ref 1004),(.bool true),(.int 181 0),(.ref 1005),.none,.none,.none,(.ref 1006),(.int 1704 0),(.int 720 0),(.str "/claim/cut.py" 1705)]),#[]⟩
abbrev CJ:Obj:=dz "_law_core" "_law_core" KR "law_twomeet_k04_kinds_of_cores" 1638 1007
abbrev I0:Obj:=eU "_law_inner" "_law_inner" 1707 1708 1709 1712 743 1 0 0 3 1009 true 181 1010 .none 1011 1012 1013 1711
abbrev CF:Obj:=dz "_law_inner" "_law_inner" K9 "law_twomeet_k04_kinds_of_cores" 1638 1014
abbrev JI:Obj:=⟨(.type "code"),none,(.fields #[(.str "_law_places" 1714),(.str "_law_places" 1715),(.str "/claim/cut.py" 1716),(.int 747 0),(.int 1 0),(.int 0 0),(.int 0 0),(.int 3 0),(.ref 1016),(.bool true),(.int 181 0),(.ref 1017),.none,.none,.none,(.ref 1018),(.int 1717 0),(.int 747 0),(.str "/claim/cut.py" 1718)]),#[]⟩
abbrev Dn:Obj:=dz "_law_places" "_law_places" Ly "law_twomeet_k04_kinds_of_cores" 1638 1019
abbrev JU:Obj:=eU "_law_put" "_law_put" 1720 1721 1722 1727 752 3 0 0 3 1021 true 181 1022 .none 1023 1024 1025 1726
abbrev Dg:Obj:=dz "_law_put" "_law_put" Lr "law_twomeet_k04_kinds_of_cores" 1638 1026
abbrev Jv:Obj:=eU "_law_like_kind" "_law_like_kind" 1729 1730 1731 1734 756 1 0 0 3 1028 true 181 1029 .none 1030 1031 1032 1733
abbrev CZ:Obj:=dz "_law_like_kind" "_law_like_kind" K5 "law_twomeet_k04_kinds_of_cores" 1638 1033
abbrev JN:Obj:=⟨(.type "code"),none,(.fields #[(.str "_law_judge" 1754),(.str "_law_judge" 1755),(.str "/claim/cut.py" 1756),(.int 770 0),(.int 3 0),(.int 0 0),(.int 0 0),(.int 3 0),(.ref 1047),(.bool true),(.int 181 0),(.ref 1048),.none,.none,.none,(.ref 1049),(.int 1757 0),(.int 770 0),(.str "/claim/cut.py" 1758)]),#[]⟩
abbrev CW:Obj:=dz "_law_judge" "_law_judge" Ll "law_twomeet_k04_kinds_of_cores" 1638 1050
abbrev JW:Obj:=⟨(.type "code"),none,(.fields #[(.str "_law_joined" 1760),(.str "_law_joined" 1761),(.str "/claim/cut.py" 1762),(.int 790 0),(.int 2 0),(.int 0 0),(.int 0 0),(.int 3 0),(.ref 1052),(.bool true),(.int 181 0),(.ref 1053),.none,.none,.none,(.ref 1054),(.int 1763 0),(.int 790 0),(.str "/claim/cut.py" 1764)]),#[]⟩
abbrev C1:Obj:=dz "_law_joined" "_law_joined" KJ "law_twomeet_k04_kinds_of_cores" 1638 1055
abbrev JV:Obj:=eU "_law_found" "_law_found" 1766 1767 1768 1774 813 2 0 0 3 1057 true 181 1058 .none 1059 1060 1061 1773
abbrev DA:Obj:=dz "_law_found" "_law_found" LO "law_twomeet_k04_kinds_of_cores" 1638 1062
abbrev IZ:Obj:=eU "law" "law" 1776 1777 1778 1790 819 1 0 0 3 1064 true 181 1065 .none 1066 1067 1068 1789
abbrev CQ:Obj:=dz "law" "law" Ld "law_twomeet_k04_kinds_of_cores" 1638 1069
def K(P:Params):Frag:=[(2,(o2 P)),(3,(o3 P)),(4,o4),(30,(Oc P)),(31,N2),(50,(NY P)),(51,Oq),(86,(N5 P)),(87,NQ),(98,(NP P)),(99,NN),(209,Gz),(210,Ht),(293,Mz),(294,FQ),(295,Fw),(301,MF),(302,G1),(315,MU),(316,Ic),(322,Mo),(323,Fe),(385,M0),(386,FW),(392,M6),(393,GD),(406,E9),(407,E4),(413,MA),(414,Gi),(420,Mn),(421,Gw),(427,Ml),(428,HY),(434,Nh),(435,G7),(441,MS),(442,F8),(448,M3),(449,Ib),(455,Mj),(456,Ii),(462,Mb),(463,Gj),(469,MJ),(470,FV),(908,Mg),(909,Fd),(946,(Mf P)),(947,Nk),(964,Mh),(965,G8),(971,L4),(972,G9),(983,Nq),(984,HX),(988,MH),(989,GF),(995,MV),(996,Ij),(1002,JC),(1003,Dl),(1007,JM),(1008,CJ),(1014,I0),(1015,CF),(1019,JI),(1020,Dn),(1026,JU),(1027,Dg),(1033,Jv),(1034,CZ),(1050,JN),(1051,CW),(1055,JW),(1056,C1),(1062,JV),(1063,DA),(1069,IZ),(1070,CQ)]
def KF(P:Params):Frag:=K P++tb.map fun t=>(t.P,tabObj #[])
noncomputable def as:List Addr:=[2,3,4,30,31,50,51,86,87,98,99,209,210,293,294,295,301,302,315,316,322,323,385,386,392,393,406,407,413,414,420,421,427,428,434,435,441,442,448,449,455,456,462,463,469,470,908,909,946,947,964,965,971,972,983,984,988,989,995,996,1002,1003,1007,1008,1014,1015,1019,1020,1026,1027,1033,1034,1050,1051,1055,1056,1062,1063,1069,1070,402]
def H:Hook:=kHook KF as fun _=>by kernel_rfl
def view:Program:={pw with main:={pw.main with body:=[top 135]}}
def loose:List Str:=(["_wall", "MeetError", "Refused", "Told", "Loose", "Stray", "TooLong", "Unmet", "Unfit", "Misused", "NoRule", "Unbound", "Unsaid", "NUMBER", "TRUTH", "parts", "filled", "gaps_filled", "replaced", "has_gaps", "names_in", "put_names", "met", "met_gap", "unlikely", "likeness", "likeness_kind", "MADE_OF_PARTS", "parts_of", "with_parts", "walked", "taken", "put_in", "marked", "bare", "unmarked", "core_filled", "Definition", "told_at", "kind_at", "core_at", "core_kind", "want", "want_word", "leaf_kind", "var_kind", "like_kind", "kind_by_parts", "call_kind", "fold_kind", "liked", "Scope", "YES", "NO", "becomes", "truth", "taken_apart", "call_becomes", "if_becomes", "fold_becomes", "likeness_becomes", "asked", "like_becomes", "likerow_becomes", "STEPPING", "LIKENESSES", "ENDS", "ends_by_parts", "with_part", "Reckoning", "run", "come_up", "go_down", "found_to_be", "number_up", "truth_up", "told_up", "fun_up", "fun_down", "both_up", "both_down", "side_up", "rowof_up", "rowof_down", "row_of", "ahead_up", "ahead_down", "fold_up", "if_up", "if_down", "let_up", "let_down", "reckoned_up", "like_up", "called_up", "called_down", "called", "work_called", "definition_called", "part_met", "left_met", "definition_at", "COMING_UP", "GOING_DOWN", "Shelf", "refuse_names", "_law_next", "_law_number", "_law_word", "_law_kind", "_law_likely", "_law_likecore", "_law_base", "_law_core", "_law_inner", "_law_places", "_law_put", "_law_like_kind", "_law_fill", "_law_def_kind", "_law_judge", "_law_joined", "_law_found"]:List String).map Str.ofString
def seen(s:Shared):Bool:=xlAt view [] s&&recOk (PySem.Challenge.rw_twomeet_k04_kinds_of_cores).row.toRowW.records s
noncomputable def _root_.PySem.W.Fast.tw4921764558902915832:Program:=PySem.Challenge.pw_twomeet_k04_kinds_of_cores
theorem _root_.PySem.W.Fast.te4921764558902915832:PySem.Challenge.pw_twomeet_k04_kinds_of_cores=PySem.W.Fast.tw4921764558902915832:=rfl
def vS(s:Shared):=openSeen view loose (importedModules pw.main.body) seen true s
def vQ(s:Shared):=as.map s.heap.get?
def obs(s:Shared):=(vS s,vQ s)
theorem both{o:Option Shared}{a:_}{b:_}(h1:o.map vS=some a)(h2:o.map vQ=some b):o.map obs=some (a,b):=by
 cases o with
 |none=>cases h1
 |some s=>cases h1;cases h2;rfl
def xF(w:World):=nZ pw 12000 vS (w.withFollow "special-get-raises" false)
theorem A9:xF=xF:=rfl
name_quick runF1_K04G for K04G.xF by K04G.A9
theorem GI(w:World):(openEnds treeTable pw (w.withFollow "special-get-raises" false) 12000).map vS=some (openGood view loose):=nS ((congrFun PySem.W.Fast.runF1_K04G_eq w).trans (by kernel_rfl))
def yF(w:World):=nZ pw 12000 vQ (w.withFollow "special-get-raises" false)
theorem BJ:yF=yF:=rfl
name_quick runF2_K04G for K04G.yF by K04G.BJ
theorem FJ(w:World):(openEnds treeTable pw (w.withFollow "special-get-raises" false) 12000).map vQ=some (Hook.val H (w.withFollow "special-get-raises" false)):=nS ((congrFun PySem.W.Fast.runF2_K04G_eq w).trans (by kernel_rfl))
theorem JR(w:World):(openEnds treeTable pw (w.withFollow "special-get-raises" false) 12000).map obs=some (openGood view loose,Hook.val H (w.withFollow "special-get-raises" false)):=both (GI w) (FJ w)
def yx(w:World):=nZ pw 12000 vS (w.withFollow "special-get-raises" true)
theorem A7:yx=yx:=rfl
name_quick runT1_K04G for K04G.yx by K04G.A7
theorem F7(w:World):(openEnds treeTable pw (w.withFollow "special-get-raises" true) 12000).map vS=some (openGood view loose):=nS ((congrFun PySem.W.Fast.runT1_K04G_eq w).trans (by kernel_rfl))
def yr(w:World):=nZ pw 12000 vQ (w.withFollow "special-get-raises" true)
theorem Cg:yr=yr:=rfl
name_quick runT2_K04G for K04G.yr by K04G.Cg
theorem FG(w:World):(openEnds treeTable pw (w.withFollow "special-get-raises" true) 12000).map vQ=some (Hook.val H (w.withFollow "special-get-raises" true)):=nS ((congrFun PySem.W.Fast.runT2_K04G_eq w).trans (by kernel_rfl))
theorem JO(w:World):(openEnds treeTable pw (w.withFollow "special-get-raises" true) 12000).map obs=some (openGood view loose,Hook.val H (w.withFollow "special-get-raises" true)):=both (F7 w) (FG w)
theorem left:LeftO pw view loose seen (Hook.obs H) (Hook.val H) 12000:=byRow2 "special-get-raises" (P:=fun w=>(openEnds treeTable pw w 12000).map obs=some (openGood view loose,Hook.val H w)) JR JO
section
variable (P:Params)
theorem l0:(K P).lookup 294=some FQ:=by kernel_rfl
theorem l1:(K P).lookup 302=some G1:=by kernel_rfl
theorem l2:(K P).lookup 316=some Ic:=by kernel_rfl
theorem l3:(K P).lookup 323=some Fe:=by kernel_rfl
theorem l4:(K P).lookup 386=some FW:=by kernel_rfl
theorem l5:(K P).lookup 393=some GD:=by kernel_rfl
theorem l6:(K P).lookup 407=some E4:=by kernel_rfl
theorem l8:(K P).lookup 414=some Gi:=by kernel_rfl
theorem l9:(K P).lookup 421=some Gw:=by kernel_rfl
theorem NM:(K P).lookup 428=some HY:=by kernel_rfl
theorem Of:(K P).lookup 435=some G7:=by kernel_rfl
theorem NT:(K P).lookup 442=some F8:=by kernel_rfl
theorem NX:(K P).lookup 449=some Ib:=by kernel_rfl
theorem Ob:(K P).lookup 456=some Ii:=by kernel_rfl
theorem OE:(K P).lookup 463=some Gj:=by kernel_rfl
theorem NL:(K P).lookup 470=some FV:=by kernel_rfl
theorem N3:(K P).lookup 909=some Fd:=by kernel_rfl
theorem OD:(K P).lookup 965=some G8:=by kernel_rfl
theorem Ow:(K P).lookup 972=some G9:=by kernel_rfl
theorem NS:(K P).lookup 984=some HX:=by kernel_rfl
theorem N7:(K P).lookup 989=some GF:=by kernel_rfl
theorem Ol:(K P).lookup 996=some Ij:=by kernel_rfl
theorem NR:(K P).lookup 1003=some Dl:=by kernel_rfl
theorem Ov:(K P).lookup 1008=some CJ:=by kernel_rfl
theorem OC:(K P).lookup 1015=some CF:=by kernel_rfl
theorem Oz:(K P).lookup 1020=some Dn:=by kernel_rfl
theorem OB:(K P).lookup 1027=some Dg:=by kernel_rfl
theorem OA:(K P).lookup 1034=some CZ:=by kernel_rfl
theorem N8:(K P).lookup 1051=some CW:=by kernel_rfl
theorem N9:(K P).lookup 1056=some C1:=by kernel_rfl
theorem NU:(K P).lookup 1063=some DA:=by kernel_rfl
theorem Oe:(K P).lookup 1070=some CQ:=by kernel_rfl
theorem qt:(K P).lookup 295=some Fw:=by kernel_rfl
theorem B7:(K P).lookup 209=some Gz:=by kernel_rfl
theorem EG:(K P).lookup 210=some Ht:=by kernel_rfl
theorem ng:(K P).lookup 406=some E9:=by kernel_rfl
theorem N1:(K P).lookup 4=some o4:=by kernel_rfl
theorem x8:GoodC (K P) 947:=by exact DZ
end
section
variable (P:Params)
theorem BK:uG (K P) 87:=⟨⟨"Stray", "Stray",86,[(.ref 31)],((.ref 31)::mP),true,[],[],false,none,none,(some (.ref 78)),none,(some (.str "Stray" 271)),(some (.str "Stray" 279)),(some (.bool true)),by kernel_rfl,by decide+kernel,by decide+kernel,by decide+kernel,by decide+kernel⟩,by kernel_rfl,by kernel_rfl⟩
theorem Cf:XC (K P) 87:=⟨⟨⟨"Stray",[(.ref 31)],((.ref 87)::(.ref 31)::mP),86, "Stray",true,[],[],false,none,false⟩,[31],by kernel_rfl,rfl,rfl⟩,by kernel_rfl,by kernel_rfl,by kernel_rfl⟩
end
theorem Mv:∀f N b fn,bQ.lookup f=some (N,b,fn)->T[f]?=some fn:=by
 intro f N b fn e;rw[eA] at e;by_cases hz:f=7
 .subst hz;cases e;rfl
 .rw[show (f== 7)=false from jZ.mpr hz] at e;cases e
theorem Oy:∀p,∀t∈tb,(K p).lookup t.P=none:=fun p=>by
 simp only[uL];exact⟨(by kernel_rfl),fun _ h=>nomatch h⟩
theorem Od:∀p,∀t∈tb,∃c od sl vs,(K p).lookup c=some ⟨.type "code",od,.fields vs,sl⟩/\vs[11]?=some (.ref t.P):=fun p=>by
 simp only[uL];exact⟨⟨406,_,_,_,ng p,rfl⟩,fun _ h=>nomatch h⟩
theorem facts(w:World)(mg:Str->Option Value)(h:Heap)(KX:(K w.params).In h)(G:h.Ns mainGlobals mg):(∀d∈Ds,d.key≠.bQ->∃g fd,js (K w.params) mg tb d g fd)/\(∀x∈cV,mg x=none)/\(∀x w',cf.cons.lookup x=some w'->kx (K w.params) mg x w')/\(∀c fs,cf.cU.lookup c=some fs->lj (K w.params) mg c fs)/\oQ (K w.params) mg cf:=by
 have ea:=fun {P:Addr->Option Bool}{cs:List Tw.S} k=>each (cU:=cU) (es:=Oj) (P:=P) (cs:=cs) KX G rfl (by kernel_rfl) k;refine⟨?D,?B,?C,?X,?E,?H,?I⟩
 case E=>
  refine rL (Ff (C:=87) KX G (Cf _)) ?_;exact ug
 case H=>
  refine mem_cons ⟨31,gA KX G (by kernel_rfl),ea (by kernel_rfl)⟩ ?_;exact wM
 case I=>
  refine mem_cons (.inr (.inl ⟨rfl,lU KX G (by kernel_rfl),ea (by kernel_rfl)⟩)) ?_;refine mem_cons (.inl ⟨_,87,rfl,gA KX G (by kernel_rfl),ea (by kernel_rfl)⟩) ?_;refine mem_cons (.inr (.inr ⟨[51,99],by decide,zk KX G (by kernel_rfl),ea (by kernel_rfl)⟩)) ?_;exact wM
 case X=>
  refine rL (DW (C:=87) KX G (BK _)) ?_;exact ug
 case C=>
  refine nC (Ef (t:=295) (zs:=[([99,97,108,108],570),([98,111,116,104],571),([108,101,102,116],572),([114,105,103,104,116],573),([109,111,114,101],574),([102,111,108,100],575),([105,102],576),([115,117,109],577),([108,101,115,115],578),([108,105,107,101,112,97,105,114],579),([108,105,107,101,114,111,119],580)]) KX G (by kernel_rfl) (qt _) (by decide) rfl) ?_;refine nC (zE (t:=209) (z:=[110,117,109,98,101,114]) KX G (by kernel_rfl) (B7 _) rfl) ?_;refine nC (zE (t:=210) (z:=[116,114,117,116,104]) KX G (by kernel_rfl) (EG _) rfl) ?_;exact BG
 case D=>
  show ∀d∈ [d0,d1,d2,d3,d4,d5,d6,d7,d8,d9,LR,LA,KY,KS,LQ,KH,LS,Lw,Lq,LC,KN,K7,KQ,KI,Le,LJ,LW,KG,Lg,Lp,KO,KD,KL],_;simp only[uL];refine⟨?_,?_,?_,?_,?_,?_,?_,?_,?_,?_,?_,?_,?_,?_,?_,?_,?_,?_,?_,?_,?_,?_,?_,?_,?_,?_,?_,?_,?_,?_,?_,?_,?_,fun _ h=>nomatch h⟩
  .exact fun _=>bF (f:=294) KX G (l0 _) (fun _ _ _ _ _ _=>ja (fun _=>rfl))
  .exact fun _=>bF (f:=302) KX G (l1 _) (fun _ _ _ _ _ _=>ja (fun _=>rfl))
  .exact fun _=>bF (f:=316) KX G (l2 _) (fun _ _ _ _ _ _=>qj (fun _ _ _=>rfl))
  .exact fun _=>bF (f:=323) KX G (l3 _) (fun _ _ _ _ _ _=>oK (fun _ _=>rfl))
  .exact fun _=>bF (f:=386) KX G (l4 _) (fun _ _ _ _ _ _=>qj (fun _ _ _=>rfl))
  .exact fun _=>bF (f:=393) KX G (l5 _) (fun _ _ _ _ _ _=>qj (fun _ _ _=>rfl))
  .exact fun _=>Ks (f:=407) (c:=406) (P:=402) (bm:=4) KX G (by kernel_rfl) (l6 _) (by kernel_rfl) (by kernel_rfl) (fun _ _ _ _ _ _=>qj (fun _ _ _=>rfl)) (ng _) rfl rfl rfl rfl rfl (by decide) (.head _) (by intro t ht;rcases cY.mp ht with rfl|ht;exact fun _=>rfl;exact nomatch ht) (by kernel_rfl) (by decide) (by decide) (N1 _)
  .exact fun h=>absurd rfl h
  .exact fun _=>bF (f:=414) KX G (l8 _) (fun _ _ _ _ _ _=>oK (fun _ _=>rfl))
  .exact fun _=>bF (f:=421) KX G (l9 _) (fun _ _ _ _ _ _=>oK (fun _ _=>rfl))
  .exact fun _=>bF (f:=428) KX G (NM _) (fun _ _ _ _ _ _=>qj (fun _ _ _=>rfl))
  .exact fun _=>bF (f:=435) KX G (Of _) (fun _ _ _ _ _ _=>oK (fun _ _=>rfl))
  .exact fun _=>bF (f:=442) KX G (NT _) (fun _ _ _ _ _ _=>ja (fun _=>rfl))
  .exact fun _=>bF (f:=449) KX G (NX _) (fun _ _ _ _ _ _=>oK (fun _ _=>rfl))
  .exact fun _=>bF (f:=456) KX G (Ob _) (fun _ _ _ _ _ _=>ja (fun _=>rfl))
  .exact fun _=>bF (f:=463) KX G (OE _) (fun _ _ _ _ _ _=>ja (fun _=>rfl))
  .exact fun _=>bF (f:=470) KX G (NL _) (fun _ _ _ _ _ _=>ja (fun _=>rfl))
  .exact fun _=>DO (f:=909) (C:=947) KX G (N3 _) (x8 _) (fun _ _ _ _ _ _=>ja (fun _=>rfl))
  .exact fun _=>bF (f:=965) KX G (OD _) (fun _ _ _ _ _ _=>oK (fun _ _=>rfl))
  .exact fun _=>bF (f:=972) KX G (Ow _) (fun _ _ _ _ _ _=>ja (fun _=>rfl))
  .exact fun _=>bF (f:=984) KX G (NS _) (fun _ _ _ _ _ _=>qj (fun _ _ _=>rfl))
  .exact fun _=>bF (f:=989) KX G (N7 _) (fun _ _ _ _ _ _=>ja (fun _=>rfl))
  .exact fun _=>bF (f:=996) KX G (Ol _) (fun _ _ _ _ _ _=>oK (fun _ _=>rfl))
  .exact fun _=>bF (f:=1003) KX G (NR _) (fun _ _ _ _ _ _=>Lb (fun _ _ _ _=>rfl))
  .exact fun _=>bF (f:=1008) KX G (Ov _) (fun _ _ _ _ _ _=>Lb (fun _ _ _ _=>rfl))
  .exact fun _=>bF (f:=1015) KX G (OC _) (fun _ _ _ _ _ _=>ja (fun _=>rfl))
  .exact fun _=>bF (f:=1020) KX G (Oz _) (fun _ _ _ _ _ _=>ja (fun _=>rfl))
  .exact fun _=>bF (f:=1027) KX G (OB _) (fun _ _ _ _ _ _=>qj (fun _ _ _=>rfl))
  .exact fun _=>bF (f:=1034) KX G (OA _) (fun _ _ _ _ _ _=>ja (fun _=>rfl))
  .exact fun _=>bF (f:=1051) KX G (N8 _) (fun _ _ _ _ _ _=>qj (fun _ _ _=>rfl))
  .exact fun _=>bF (f:=1056) KX G (N9 _) (fun _ _ _ _ _ _=>oK (fun _ _=>rfl))
  .exact fun _=>bF (f:=1063) KX G (NU _) (fun _ _ _ _ _ _=>oK (fun _ _=>rfl))
  .exact fun _=>bF (f:=1070) KX G (Oe _) (fun _ _ _ _ _ _=>ja (fun _=>rfl))
 case B=>
  exact Hg KX G
theorem walk{l:OpenLaw}{q:Program}{lo:List Str}{XP:(Str->Option Value)->Heap->Prop}{YP:World->Heap->Prop}{d:DefRec}(hn:l.most=some 63)(hdf:d.params.defaults=[])(hY:∀(w:World)(h:Heap),YP w h->(KF w.params).In h)(hd:d.name= "law"):WalkO q lo XP YP l.row.toRowW d [] (fun f vs=>PySem.call f vs):=
 BC (T:=T) (Ds:=Ds) (cf:=cf) (bQ:=bQ) (tb:=tb) (K:=K) (KF:=KF) (i:=32) (k:=60) rfl rfl rfl Om Mv rfl hn hdf hY (fun _=>rfl) Oy Od hd facts (by exact⟨rfl,by decide,by decide⟩) fun ns hl=>zA ns
end K04G
open PySem PySem.W PyProof.Rows
set_option maxRecDepth 100000 in
set_option maxHeartbeats 0 in
theorem PySem.Challenge.cw_twomeet_k04_kinds_of_cores_holds : PySem.Challenge.rw_twomeet_k04_kinds_of_cores.Holds := by
 w_on;o_law
 refine holds_open (q:=K04G.view) (loose:=K04G.loose) (Xt:=K04G.seen) (XP:=XL K04G.view []) (Yf:=Hook.obs K04G.H) (Ya:=Hook.val K04G.H) (YP:=Hook.says K04G.H) (N:=12000) K04G.left (Hook.of K04G.H) (Hook.keeps K04G.H) (fun s e=>xl_of s (qe.mp e).1) XL.keeps (by rfl) (by rfl) (by rfl) (fun s e=>recFacts_of (qe.mp e).2) (by rfl) (by assumption) (by decide+kernel) ⟨rfl,rfl,rfl,rfl,rfl,by decide+kernel⟩ ?hw ?hc
 case hw=>w_witness2
 exact K04G.walk (l:=PySem.Challenge.rw_twomeet_k04_kinds_of_cores) rfl rfl (fun w h Y=>kIn_of Y) rfl

