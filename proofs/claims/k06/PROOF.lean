import PyProof.Rows.All
import PyProof.TableCode
import PyProof.DefCall
import KE.KRevIter
import KE.KNest
import Wide.All
import OpenK.AllK
import Wide.FinOn
import Lean
import PyProof.EqAt
import PyProof.EqKinds
import PyProof.TupleCall
import PySem.Challenge.RW_twomeet_k06_run_to_the_end
set_option Elab.async false
set_option genSizeOf false
set_option genInjectivity false
set_option linter.all false
set_option maxRecDepth 100000
set_option maxHeartbeats 4000000
set_option compiler.extract_closed false
noncomputable section
abbrev aY:=PySem.Value->PySem.Shared->Prop
abbrev aH:=List (PySem.Addr×PySem.Obj)
abbrev dO:=@And.intro
abbrev Gy:=@Array.getElem?_eq_some_iff
abbrev MD:=@Array.length_toList
abbrev aq:=@Bool.and_eq_true
abbrev zI:=@Bool.and_eq_true_iff
abbrev nK:=@Bool.and_false
abbrev Cy:=@Bool.beq_eq_decide_eq
abbrev eL:=@Bool.false_eq_true
abbrev kx:=@Bool.false_ne_true
abbrev yq:=@Bool.not_eq_true
abbrev iT:=@Bool.not_eq_true'
abbrev vw:=@Bool.or_eq_true
abbrev Et:=@PySem.Calls.callWith_builtin
abbrev ER:=@PySem.Calls.spliced_cons
abbrev Eu:=@PySem.Heap.SameBut.update
abbrev bZ:=@PySem.Heap.get?_push_of_some
abbrev gi:=@PySem.Heap.get?_push_size
abbrev pA:=@PySem.Heap.get?_update_other
abbrev sP:=@PySem.Heap.get?_update_self
abbrev bJ:=@PySem.Heap.lt_size
abbrev tH:=@PySem.Heap.size_push
abbrev km:=@List.all_cons
abbrev kE:=@List.all_eq_true
abbrev fK:=@List.append_nil
abbrev zM:=@List.contains_eq_mem
abbrev Fj:=@List.contains_iff_mem
abbrev tq:=@List.filterMap_cons
abbrev vF:=@List.forall_mem_cons
abbrev fI:=@List.getElem?_append_left
abbrev mZ:=@List.getElem?_append_right
abbrev lN:=@List.getElem?_eq_getElem
abbrev wx:=@List.getElem?_eq_none
abbrev Ab:=@List.getElem?_eq_none_iff
abbrev fV:=@List.getElem?_eq_some_iff
abbrev lP:=@List.getElem?_map
abbrev AH:=@List.getElem?_replicate
abbrev jE:=@List.getElem?_set_ne
abbrev jD:=@List.getElem?_set_self
abbrev DC:=@List.getElem?_take_of_lt
abbrev vC:=@List.getElem_mem
abbrev Ap:=@List.isEmpty_iff
abbrev lI:=@List.length_append
abbrev gK:=@List.length_cons
abbrev zQ:=@List.length_drop
abbrev i9:=@List.length_map
abbrev DK:=@List.length_replicate
abbrev x8:=@List.length_set
abbrev pv:=@List.length_take
abbrev dE:=@List.lookup_cons
abbrev fJ:=@List.map_cons
abbrev zX:=@List.map_nil
abbrev qK:=@List.mem_append
abbrev vD:=@List.mem_append_left
abbrev fL:=@List.mem_append_right
abbrev fH:=@List.mem_cons
abbrev jc:=@List.mem_cons_of_mem
abbrev nh:=@List.mem_cons_self
abbrev tY:=@List.mem_filter
abbrev o9:=@List.mem_map
abbrev vo:=@List.mem_of_getElem?
abbrev jH:=@List.mem_singleton
abbrev AS:=@List.nodup_cons
abbrev Af:=@List.of_mem_zip
abbrev z9:=@List.reverse_cons
abbrev cP:=@List.size_toArray
abbrev Fc:=@Nat.add_eq_zero_iff
abbrev sX:=@Nat.add_le_add_right
abbrev Bo:=@Nat.add_sub_cancel
abbrev Bz:=@Nat.le_add_right
abbrev b8:=@Nat.le_max_left
abbrev bD:=@Nat.le_max_right
abbrev Bp:=@Nat.le_of_eq
abbrev Bi:=@Nat.le_of_lt
abbrev aA:=@Nat.le_refl
abbrev tX:=@Nat.le_succ
abbrev oR:=@Nat.le_succ_of_le
abbrev aF:=@Nat.le_trans
abbrev qP:=@Nat.lt_irrefl
abbrev bY:=@Nat.lt_of_lt_of_le
abbrev tD:=@Nat.lt_or_ge
abbrev xP:=@Nat.lt_succ_self
abbrev ie:=@Nat.max_le
abbrev pd:=@Nat.ne_of_gt
abbrev dw:=@Nat.ne_of_lt
abbrev jC:=@Nat.not_lt
abbrev AO:=@Nat.pow_le_pow_right
abbrev BB:=@Nat.pow_succ
abbrev z6:=@Nat.succ.inj
abbrev cY:=@Nat.succ_le_succ
abbrev bw:=@Nat.zero_le
abbrev bj:=@Ne.symm
abbrev qT:=@PySem.Obj.data_mapFields
abbrev v7:=@PySem.Obj.isFreed_of_fields
abbrev lO:=@Option.bind_eq_some_iff
abbrev sQ:=@Option.bind_some
abbrev ua:=@Option.isNone_iff_eq_none
abbrev E2:=@Option.isSome_iff_exists
abbrev sR:=@Option.map_eq_some_iff
abbrev kj:=@Option.some.inj
abbrev Er:=@PyProof.Rows.boot_isinstance
abbrev u0:=@PyProof.Rows.callWith_type1
abbrev zV:=@PyProof.Rows.slot_tuple_getitem
abbrev Ar:=@PySem.F.args_tuple_add_2
abbrev Bh:=@PySem.F.entry_tuple_add
abbrev Az:=@PySem.F.plainAttrs_list
abbrev zW:=@PySem.F.slot_tuple_add
abbrev qh:=@PySem.W.callWith_K
abbrev zR:=@PySem.W.hideAll_none
abbrev gp:=@PySem.W.kia_one
abbrev uV:=@PySem.W.looks_findIn
abbrev jQ:=@PySem.W.mg_none_of
abbrev eh:=@PySem.W.mg_of
abbrev Ay:=@PySem.W.plainGet_of
abbrev iD:=@PySem.mem_of_lookup
abbrev nB:=@True.intro
abbrev j2:=@beq_eq_false_iff_ne
abbrev iK:=@beq_iff_eq
abbrev u6:=@PySem.builtinLookup_eq_fast
abbrev pH:=@PySem.codeAny_mono
abbrev dg:=@congrArg
abbrev bc:=@decide_eq_false
abbrev bT:=@decide_eq_true
abbrev az:=@decide_eq_true_eq
abbrev bp:=@if_false
abbrev bU:=@if_true
abbrev vb:=@PySem.isSubtype_type
abbrev A8:=@PySem.noFill_tuple_add
abbrev Bm:=@of_decide_eq_true
abbrev gX:=@PySem.sizeLine_eq
abbrev AL:=@PySem.slot_dict_getitem
abbrev vf:=@PySem.typeLookup_type
abbrev lj:=@PySem.wpAny_Call_Name_kw
abbrev AI:=@PySem.wpAny_Return_some
abbrev sA:=@PySem.wpAny_attempt
abbrev ag:=@PySem.wpAny_bind
abbrev lq:=@PySem.wpAny_call
abbrev u4:=@PySem.wpAny_callSpecial?_slot
abbrev rT:=@PySem.wpAny_call_entry
abbrev rE:=@PySem.wpAny_execs_cons
abbrev qi:=@PySem.wpAny_execs_nil
abbrev gW:=@PySem.wpAny_field
abbrev jU:=@PySem.wpAny_holding
abbrev rj:=@PySem.wpAny_isSubtype_exc
abbrev j5:=@PySem.wpAny_loadPart_at
abbrev jr:=@PySem.wpAny_mono
abbrev jR:=@PySem.wpAny_newObj_type
abbrev lh:=@PySem.wpAny_of_eq
abbrev mR:=@PySem.wpAny_passesOwn
abbrev aG:=@PySem.wpAny_pure
abbrev p7:=@PySem.wpAny_setField
abbrev rm:=@PySem.wpAny_standAt
abbrev vh:=@PySem.wpAny_truthy_bool
theorem Exists.g{α:Sort u}{p:α->Prop}{b:Prop}(h:∃x,p x)(k:∀a,p a->b):b:=Exists.elim h k
theorem And.g{a b c:Prop}(h:a/\b)(k:a->b->c):c:=k h.1 h.2
theorem Exists.g4{α:Sort u}{β:Sort v}{p q s:α->β->Prop}{r:Prop}(h:∃a b,p a b/\q a b/\s a b)(k:∀a b,p a b->q a b->s a b->r):r:=h.elim fun a h=>h.elim fun b h=>k a b h.1 h.2.1 h.2.2
theorem Exists.g6{α:Sort u}{β:Sort v}{γ:Sort w}{p q s t:α->β->γ->Prop}{r:Prop}(h:∃a b c,p a b c/\q a b c/\s a b c/\t a b c)(k:∀a b c,p a b c->q a b c->s a b c->t a b c->r):r:=h.elim fun a h=>h.elim fun b h=>h.elim fun c h=>k a b c h.1 h.2.1 h.2.2.1 h.2.2.2
theorem Exists.k1{α:Type}{p q:α->Prop}{r:Prop}(h:∃a,p a/\q a)(f:∀a,p a->q a->r):r:=h.elim fun a u=>f a u.1 u.2
theorem Exists.k2{α β:Type}{p q s:α->β->Prop}{r:Prop}(h:∃a b,p a b/\q a b/\s a b)(f:∀a b,p a b->q a b->s a b->r):r:=h.elim fun a u=>u.elim fun b u=>f a b u.1 u.2.1 u.2.2
theorem Exists.k3{α β γ:Type}{p q:α->β->γ->Prop}{r:Prop}(h:∃a b c,p a b c/\q a b c)(f:∀a b c,p a b c->q a b c->r):r:=h.elim fun a u=>u.elim fun b u=>u.elim fun c u=>f a b c u.1 u.2
theorem Exists.k4{α β γ:Type}{p q s t:α->β->γ->Prop}{r:Prop}(h:∃a b c,p a b c/\q a b c/\s a b c/\t a b c)(f:∀a b c,p a b c->q a b c->s a b c->t a b c->r):r:=h.elim fun a u=>u.elim fun b u=>u.elim fun c u=>f a b c u.1 u.2.1 u.2.2.1 u.2.2.2
namespace L2
open PySem PySem.Spec PyProof.Rows
noncomputable abbrev Key:=Sum Int Str
noncomputable def Gr:Key->Value->Bool
 |.inl k,v=>Value.isInt k v
 |.inr x,v=>Value.isStrOf x v
def QG(w:World):Key->Int
 |.inl k=>hashInt k
 |.inr x=>hashStr w x
def cU:∀{k:Key}{v:Value},Gr k v=true->(∃i t,k=Sum.inl i/\v=Value.int i t)\/(∃x t,k=Sum.inr x/\v=Value.str x t)
 |.inl i,v,h=>by
  obtain⟨t,e⟩:=Value.isInt_shape (k:=i) (v:=v) h;exact .inl ⟨i,t,rfl,e⟩
 |.inr x,v,h=>by
  obtain⟨t,e⟩:=Value.isStrOf_shape (x:=x) (v:=v) h;exact .inr ⟨x,t,rfl,e⟩
def Lc(a b:Int):decide ((Sum.inl a:Key)=Sum.inl b)=(a== b):=by
 by_cases e:a=b
 .subst e;simp
 .have h:¬ (Sum.inl a:Key)=Sum.inl b:=fun q=>e (Sum.inl.inj q);rw[bc h];exact (j2.mpr e).symm
def Jp(a b:Str):decide ((Sum.inr a:Key)=Sum.inr b)=decide (a=b):=by
 by_cases e:a=b
 .subst e;simp
 .have h:¬ (Sum.inr a:Key)=Sum.inr b:=fun q=>e (Sum.inr.inj q);rw[bc h,bc e]
def L4(a:Int)(b:Str):decide ((Sum.inl a:Key)=Sum.inr b)=false:=bc (fun q=>nomatch q)
def J7(a:Str)(b:Int):decide ((Sum.inr a:Key)=Sum.inl b)=false:=bc (fun q=>nomatch q)
def tQ(prog:Program)(w:World):PySem.KeyKind prog w Key where
 is:=Gr
 hash:=QG w
 inj:=fun v a b ha hb=>by
  rcases cU ha with ⟨i,t,rfl,rfl⟩|⟨x,t,rfl,rfl⟩
  .rcases cU hb with ⟨j,u,rfl,e⟩|⟨y,u,rfl,e⟩
   .injection e with e1 _;rw[e1]
   .exact nomatch e
  .rcases cU hb with ⟨j,u,rfl,e⟩|⟨y,u,rfl,e⟩
   .exact nomatch e
   .injection e with e1 _;rw[e1]
 byValue:=fun k v h=>by
  rcases cU h with ⟨i,t,rfl,rfl⟩|⟨x,t,rfl,rfl⟩<;>rfl
 pyHash:=fun hv h=>by
  rcases cU hv with ⟨i,t,rfl,rfl⟩|⟨x,t,rfl,rfl⟩
  .exact wpAny_pyHash_int h
  .exact wpAny_pyHash_str h
 eqBool:=fun hu hv h=>by
  rcases cU hu with ⟨i,t,rfl,rfl⟩|⟨x,t,rfl,rfl⟩
  .rcases cU hv with ⟨j,u,rfl,rfl⟩|⟨y,u,rfl,rfl⟩
   .rw[Lc] at h;exact wpAny_eqBool_int h
   .rw[L4] at h;exact SeqAt.EqAt.int_str i t y u _ _ _ _ h
  .rcases cU hv with ⟨j,u,rfl,rfl⟩|⟨y,u,rfl,rfl⟩
   .rw[J7] at h;exact SeqAt.EqAt.str_int x t j u _ _ _ _ h
   .rw[Jp] at h;exact wpAny_eqBool_str h
 «strs» := fun k x t v h=>by
  rcases cU h with ⟨i,u,rfl,e⟩|⟨y,u,rfl,e⟩
  .exact nomatch e
  .injection e with e1 _;subst e1;cases v<;>rfl
inductive V where
 |ah|bl (b:Bool)|int (i:Int)|str (x:Str)|byt (b:Array UInt8)|flt (b:UInt64)|ref (a:Addr)|ty (n:String)
 deriving DecidableEq
noncomputable def RelV:V->Value->Prop
 |.ah,u=>u=Value.none
 |.bl b,u=>u=Value.bool b
 |.int i,u=>∃t,u=Value.int i t
 |.str x,u=>∃t,u=Value.str x t
 |.byt b,u=>∃t,u=Value.bytes b t
 |.flt b,u=>∃t,u=Value.float b t
 |.ref a,u=>u=Value.ref a
 |.ty n,u=>u=Value.type n
abbrev Vals:List V->List Value->Prop:=Paired RelV
def Vals.length{xs:List V}{us:List Value}(r:Vals xs us):xs.length=us.length:=Paired.length r
theorem Vals.get:∀{xs:List V}{us:List Value}{i:Nat}{x:V},Vals xs us->xs[i]?=some x->∃u,us[i]?=some u/\RelV x u
 |_,_,_,_,.nil,e=>by simp at e
 |_,_,0,_,.cons r _,e=>by simp at e;subst e;exact⟨_,rfl,r⟩
 |_,_,i+1,x,.cons _ t,e=>by
  obtain⟨u,h1,h2⟩:=Vals.get (i:=i) (x:=x) t (by simpa using e);exact⟨u,by simpa using h1,h2⟩
theorem Vals.set{x:V}{u:Value}(r:RelV x u):∀{xs:List V}{us:List Value}(i:Nat),Vals xs us->Vals (xs.set i x) (us.set i u)
 |_,_,_,.nil=>.nil
 |_,_,0,.cons _ t=>.cons r t
 |_,_,i+1,.cons q t=>.cons q (Vals.set r i t)
theorem Vals.append:∀{xs ys:List V}{us ws:List Value},Vals xs us->Vals ys ws->Vals (xs++ys) (us++ws)
 |_,_,_,_,.nil,s=>s
 |_,_,_,_,.cons r t,s=>.cons r (Vals.append t s)
theorem Vals.take:∀{xs:List V}{us:List Value}(n:Nat),Vals xs us->Vals (xs.take n) (us.take n)
 |_,_,0,_=>.nil
 |_,_,_+1,.nil=>.nil
 |_,_,n+1,.cons r t=>.cons r (Vals.take n t)
theorem Vals.drop:∀{xs:List V}{us:List Value}(n:Nat),Vals xs us->Vals (xs.drop n) (us.drop n)
 |_,_,0,r=>r
 |_,_,_+1,.nil=>.nil
 |_,_,n+1,.cons _ t=>Vals.drop n t
noncomputable def lJ:Option V->Option Value->Prop
 |some v,some u=>RelV v u
 |none,none=>True
 |_,_=>False
def KV{κ:Type}:List (κ×V)->List (κ×Value)->Prop:=Paired fun (p:κ×V) (q:κ×Value)=>p.1=q.1/\RelV p.2 q.2
noncomputable def kV:Key->V
 |.inl i=>.int i
 |.inr x=>.str x
inductive HO where
 |lst (xs:List V)
 |tup (xs:List V)
 |dK (kvs:List (Key×V))|dT (kvs:List (List Key×V))
 |set (S:Int->Bool) (n:Nat)
 |ins (C dx:Addr) (fs:List (Str×V))
 |own (x:Addr)
 |xd (fs:List (Str×V))
 |met (f x:Addr)
 |ml (lo hi:Int)
 |aV (o:Obj) (u:HO)
 |dZ (ps:Array Value)
 |ext (φ:Heap->Prop)
noncomputable abbrev Hp:=Addr->Option HO
noncomputable def upd(H:Hp)(a:Addr)(o:HO):Hp:=fun b=>if b=a then some o else H b
def bV{H:Hp}{a:Addr}{o:HO}:upd H a o a=some o:=by unfold upd;rw[if_pos rfl]
def aI{H:Hp}{a b:Addr}{o:HO}(h:b≠a):upd H a o b=H b:=by unfold upd;rw[if_neg h]
def fj{H:Hp}{a b:Addr}{o:HO}(h:H a=some o)(h':H b=none):a≠b:=by intro e;subst e;rw[h] at h';cases h'
section
variable (P:Program) (w:World)
def cI(H:Hp)(h:Heap)(a:Addr):HO->Prop
 |.lst xs=>xs.length<=sizeLine/\∃(its:List Value) (n:Nat),Vals xs its/\h.get? a=some {cls:=.type "list",data:=.seq its.toArray n}
 |.tup xs=>xs.length<=sizeLine/\∃its:List Value,Vals xs its/\IsTup h a its.toArray
 |.dK kvs=>kvs.length<=sizeLine/\(a== sysModules)=false/\∃vs,KV kvs vs/\h.DictOf (tQ P w) a vs
 |.dT kvs=>kvs.length<=sizeLine/\(a== sysModules)=false/\∃xs:List (List Key×Addr×Value),
   Paired (fun (p:List Key×V) (q:List Key×Addr×Value)=>p.1=q.1/\H q.2.1=some (.tup (p.1.map kV))/\RelV p.2 q.2.2) kvs xs/\
   ∃o es ep,h.get? a=some o/\o.ExactDict/\o.data=.dict es ep/\es.toList=xs.map (entryOfKey (tupleKind (tQ P w)))/\(xs.map (·.1)).Nodup
 |.set S n=>h.SetOf (intKind P w) a S n
 |.ins C dx fs=>H dx=some (.own a)/\fs.length<=1000/\dx≠a/\h.get? a=some (W.instObj C dx)/\
   ∃mA,h.Ns1 dx mA/\(∀f,lJ (fs.lookup f) (mA f))/\PySem.Within mA (fs.map (·.1))
 |.own _=>∃o,h.get? a=some o
 |.xd fs=>∃mA,h.Ns1 a mA/\∀f,lJ (fs.lookup f) (mA f)
 |.ml lo hi=>∃t u v,h.get? a=some {cls:=.type "range",data:=.fields #[.int lo t,.int hi u,.int 1 v]}
 |.aV o u=>h.get? a=some o/\cI H h a u
 |.dZ ps=>h.get? a=some {cls:=.none,data:=.fields ps}
 |.met f x=>h.get? a=some (W.methodObj (.ref f) (.ref x))
 |.ext φ=>φ h/\(∃o,h.get? a=some o)/\∀h1 h2:Heap,φ h1->(∀o,h1.get? a=some o->h2.get? a=some o)->φ h2
def dN(H:Hp)(h:Heap):Prop:=∀a o,H a=some o->cI P w H h a o
end
section
variable {P:Program}{w:World}{H H':Hp}{h h':Heap}{a:Addr}{o:HO}
def cI.lt(x:cI P w H h a o):a<h.objs.size:=by
 cases o with
 |lst xs=>obtain⟨_,_,_,_,e⟩:=x;exact bJ e
 |tup xs=>obtain⟨_,_,_,p⟩:=x;exact p.lt
 |dK kvs=>obtain⟨_,_,_,_,o,_,_,e,_⟩:=x;exact bJ e
 |dT kvs=>obtain⟨_,_,_,_,o,_,_,e,_⟩:=x;exact bJ e
 |set S n=>obtain⟨o,_,_,_,e,_⟩:=x;exact bJ e
 |ins C dx fs=>obtain⟨_,_,_,e,_⟩:=x;exact bJ e
 |own y=>obtain⟨_,e⟩:=x;exact bJ e
 |xd fs=>obtain⟨_,⟨_,_,_,e,_⟩,_⟩:=x;exact bJ e
 |ml lo hi=>obtain⟨_,_,_,e⟩:=x;exact bJ e
 |aV ob u=>obtain⟨e,_⟩:=x;exact bJ e
 |dZ ps=>exact bJ (show h.get? a=some _ from x)
 |met f y=>exact bJ (show h.get? a=some _ from x)
 |ext φ=>obtain⟨_,⟨_,e⟩,_⟩:=x;exact bJ e
theorem Paired.LJ{α β:Type}{F G:α->β->Prop}:∀{l₁:List α}{l₂:List β},Paired F l₁ l₂->(∀a b,F a b->G a b)->Paired G l₁ l₂
 |_,_,.nil,_=>.nil
 |_,_,.cons r t,f=>.cons (f _ _ r) (Paired.LJ t f)
def cI.gb(x:cI P w H h a o)(k:∀b u,(b=a\/H b=some (.own a))->h.get? b=some u->h'.get? b=some u)
  (ho:∀b,H b=some (.own a)->H' b=some (.own a)) (ht:∀b xs,H b=some (.tup xs)->H' b=some (.tup xs)):cI P w H' h' a o:=by
 induction o with
 |lst xs=>obtain⟨z,its,n,r,e⟩:=x;exact⟨z,its,n,r,k _ _ (.inl rfl) e⟩
 |tup xs=>obtain⟨z,its,r,ob,e,c⟩:=x;exact⟨z,its,r,ob,k _ _ (.inl rfl) e,c⟩
 |dK kvs=>obtain⟨z,y,vs,r,ob,es,ep,e,c⟩:=x;exact⟨z,y,vs,r,ob,es,ep,k _ _ (.inl rfl) e,c⟩
 |dT kvs=>
  obtain⟨z,y,xs,r,ob,es,ep,e,c⟩:=x;exact⟨z,y,xs,Paired.LJ r fun p q z=>⟨z.1,ht _ _ z.2.1,z.2.2⟩,ob,es,ep,k _ _ (.inl rfl) e,c⟩
 |set S n=>obtain⟨ob,es,ep,t,e,c⟩:=x;exact⟨ob,es,ep,t,k _ _ (.inl rfl) e,c⟩
 |ins C dx fs=>
  obtain⟨d,z,ne,e,mA,⟨od,es,ep,e2,c⟩,r⟩:=x;exact⟨ho _ d,z,ne,k _ _ (.inl rfl) e,mA,⟨od,es,ep,k _ _ (.inr d) e2,c⟩,r⟩
 |own y=>obtain⟨ob,e⟩:=x;exact⟨ob,k _ _ (.inl rfl) e⟩
 |xd fs=>obtain⟨mA,⟨od,es,ep,e,c⟩,r⟩:=x;exact⟨mA,⟨od,es,ep,k _ _ (.inl rfl) e,c⟩,r⟩
 |ml lo hi=>obtain⟨t,u,v,e⟩:=x;exact⟨t,u,v,k _ _ (.inl rfl) e⟩
 |aV ob u ih=>obtain⟨e,q⟩:=x;exact⟨k _ _ (.inl rfl) e,ih q⟩
 |dZ ps=>
  have e:h.get? a=some {cls:=.none,data:=.fields ps}:=x;show h'.get? a=some {cls:=.none,data:=.fields ps};exact k a _ (.inl rfl) e
 |met f y=>
  have e:h.get? a=some (W.methodObj (.ref f) (.ref y)):=x;show h'.get? a=some (W.methodObj (.ref f) (.ref y));exact k a _ (.inl rfl) e
 |ext φ=>obtain⟨p,⟨o,e⟩,st⟩:=x;exact⟨st _ _ p fun o q=>k _ _ (.inl rfl) q,⟨o,k _ _ (.inl rfl) e⟩,st⟩
def dN.lt(x:dN P w H h)(e:H a=some o):a<h.objs.size:=(x a o e).lt
def dN.fresh(x:dN P w H h)(e:h.objs.size<=a):H a=none:=by
 cases q:H a with
 |none=>rfl
 |some u=>exact absurd (bY (x.lt q) e) (qP _)
def dN.kept(x:dN P w H h)(k:∀b u,h.get? b=some u->h'.get? b=some u):dN P w H h':=fun a o e=>
 (x a o e).gb (fun b u _ q=>k b u q) (fun _ q=>q) fun _ _ q=>q
def dN.laid(x:dN P w H h)(k:∀b u,h.get? b=some u->h'.get? b=some u)(hp:h.objs.size<=a)(new:cI P w (upd H a o) h' a o):dN P w (upd H a o) h':=fun b u e=>by
 have hn:=x.fresh hp;by_cases hb:b=a
 .subst hb;rw[bV] at e;cases e;exact new
 .rw[aI hb] at e;exact (x b u e).gb (fun c v _ q=>k c v q) (fun c q=>by rw[aI (fj q hn)];exact q) fun c xs q=>by rw[aI (fj q hn)];exact q
end
def Rd(H:Hp)(a:Addr)(u:HO):Prop:=H a=some u\/∃o,H a=some (.aV o u)
def Rd.ok{P:Program}{w:World}{H:Hp}{h:Heap}{a:Addr}{u:HO}(r:Rd H a u)(x:dN P w H h):cI P w H h a u:=by
 rcases r with r|⟨o,r⟩
 .exact x a u r
 .obtain⟨_,q⟩:=x a _ r;exact q
noncomputable def GB:Option HO->Prop
 |some (.lst _)=>True
 |some (.dK _)=>True
 |some (.dT _)=>True
 |some (.set _ _)=>True
 |some (.ins _ _ _)=>True
 |some (.ext _)=>True
 |_=>False
section
variable {P:Program}{w:World}{H:Hp}{h h':Heap}{x e:Addr}{o':HO}
def dN.write(ok:dN P w H h)(mu:GB (H x))(he:e=x\/H e=some (.own x))(k:∀b u,b≠e->h.get? b=some u->h'.get? b=some u)(heo:∃u,h'.get? e=some u)
  (new:cI P w (upd H x o') h' x o'):dN P w (upd H x o') h':=fun b u q=>by
 have nown:∀c y,H c=some (.own y)->c≠x:=fun c y r z=>by subst z;rw[r] at mu;exact mu
 have ntup:∀c xs,H c=some (.tup xs)->c≠x:=fun c xs r z=>by subst z;rw[r] at mu;exact mu
 by_cases hb:b=x
 .subst hb;rw[bV] at q;cases q;exact new
 .rw[aI hb] at q;by_cases hbe:b=e
  .have q':H b=some (.own x):=by
    rcases he with z|z
    .exact absurd (hbe.trans z) hb
    .rw[hbe];exact z
   rw[q] at q';cases q';obtain⟨v,hv⟩:=heo;exact⟨v,by rw[hbe];exact hv⟩
  .refine (ok b u q).gb (fun c v hc r=>k c v ?_ r) (fun c r=>by rw[aI (nown c b r)];exact r) fun c xs r=>by rw[aI (ntup c xs r)];exact r
   rcases hc with rfl|hc
   .exact hbe
   .rintro rfl
    rcases he with z|z
    .exact nown c b hc z
    .rw[hc] at z;cases z;exact hb rfl
end
structure Un(fs ex:List Addr)(H H':Hp)(h h':Heap):Prop where
 keep:∀b o,h.get? b=some o->H b=none->b∉fs->b∉ex->h'.get? b=some o
 slot:∀b o,h.get? b=some o->H b=none->b∈fs->b∉ex->∃sl,h'.get? b=some {o with slots:=sl}
 free:∀b o,h.get? b=some o->H b=none->b∉ex->H' b=none
 there:∀b o,h.get? b=some o->b∉ex->∃o',h'.get? b=some o'
 gM:∀b xs,H b=some (.tup xs)->H' b=some (.tup xs)
 f6:∀b o u,H b=some (.aV o u)->H' b=some (.aV o u)
 fX:∀b ps,H b=some (.dZ ps)->∃more,H' b=some (.dZ (ps++more))
section
variable {fs fs' ex ex':List Addr}{H H1 H2:Hp}{h h1 h2 h':Heap}{a x e:Addr}{o:HO}
def Un.any(u:Un fs ex H H1 h h1){b:Addr}{ob:Obj}(q:h.get? b=some ob)(n:H b=none)(hx:b∉ex):∃sl,h1.get? b=some {ob with slots:=sl}:=by
 by_cases hb:b∈fs
 .exact u.slot b ob q n hb hx
 .exact⟨ob.slots,u.keep b ob q n hb hx⟩
def Un.trans(a:Un fs ex H H1 h h1)(b:Un fs ex H1 H2 h1 h2):Un fs ex H H2 h h2 where
 keep:=fun c ob q n hc hx=>b.keep c ob (a.keep c ob q n hc hx) (a.free c ob q n hx) hc hx
 slot:=fun c ob q n hc hx=>by
  obtain⟨sl,e1⟩:=a.slot c ob q n hc hx;obtain⟨sl',e2⟩:=b.slot c _ e1 (a.free c ob q n hx) hc hx;exact⟨sl',e2⟩
 free:=fun c ob q n hx=>by
  obtain⟨o',e1⟩:=a.there c ob q hx;exact b.free c o' e1 (a.free c ob q n hx) hx
 there:=fun c ob q hx=>by
  obtain⟨o',e1⟩:=a.there c ob q hx;exact b.there c o' e1 hx
 gM:=fun c xs q=>b.gM c xs (a.gM c xs q)
 f6:=fun c ob xs q=>b.f6 c ob xs (a.f6 c ob xs q)
 fX:=fun c ps q=>by
  obtain⟨m1,e1⟩:=a.fX c ps q;obtain⟨m2,e2⟩:=b.fX c _ e1;exact⟨m1++m2,by rw[e2,Array.append_assoc]⟩
def Un.kept(k:∀b u,h.get? b=some u->h'.get? b=some u):Un fs ex H H h h':=
 ⟨fun b ob q _ _ _=>k b ob q,fun b ob q _ _ _=>⟨ob.slots,k b ob q⟩,fun _ _ _ n _=>n,fun b ob q _=>⟨ob,k b ob q⟩,fun _ _ q=>q,fun _ _ _ q=>q,fun _ ps q=>⟨#[],by rw[q];simp⟩⟩
def Un.refl:Un fs ex H H h h:=Un.kept fun _ _ q=>q
def Un.laid(k:∀b u,h.get? b=some u->h'.get? b=some u)(hp:h.objs.size<=a)(hn:H a=none):Un fs ex H (upd H a o) h h' where
 keep:=fun b u q _ _ _=>k b u q
 slot:=fun b u q _ _ _=>⟨u.slots,k b u q⟩
 free:=fun b u q n _=>by rw[aI (dw (bY (bJ q) hp))];exact n
 there:=fun b u q _=>⟨u,k b u q⟩
 gM:=fun b xs q=>by rw[aI (fj q hn)];exact q
 f6:=fun b u xs q=>by rw[aI (fj q hn)];exact q
 fX:=fun b ps q=>⟨#[],by rw[aI (fj q hn),q];simp⟩
def Un.write(mu:GB (H x))(he:e=x\/H e=some (.own x))(k:∀b u,b≠e->h.get? b=some u->h'.get? b=some u)(heo:∃u,h'.get? e=some u):Un fs ex H (upd H x o) h h':=by
 have hx:∀b,H b=none->b≠x:=fun b n z=>by subst z;rw[n] at mu;exact mu
 have hb:∀b,H b=none->b≠e:=fun b n z=>by
  subst z;rcases he with r|r
  .exact hx b n r
  .rw[n] at r;cases r
 have hm:∀b u,H b=some u->¬ GB (some u)->b≠x:=fun b u q nm z=>by subst z;rw[q] at mu;exact nm mu
 refine⟨fun b u q n _ _=>k b u (hb b n) q,fun b u q n _ _=>⟨u.slots,k b u (hb b n) q⟩,fun b u q n _=>by rw[aI (hx b n)];exact n,fun b u q _=>?_,
  fun b xs q=>by rw[aI (hm b _ q fun z=>z)];exact q,fun b u xs q=>by rw[aI (hm b _ q fun z=>z)];exact q,fun b ps q=>⟨#[],by rw[aI (hm b _ q fun z=>z),q];simp⟩⟩
 by_cases hbe:b=e
 .subst hbe;exact heo
 .exact⟨u,k b u hbe q⟩
def Un.mono(u:Un fs ex H H1 h h1)(hs:∀b∈fs,b∈fs')(hx:∀b∈ex,b∈ex'):Un fs' ex' H H1 h h1:=
 ⟨fun b ob q n hb he=>u.keep b ob q n (fun z=>hb (hs b z)) fun z=>he (hx b z),fun _ _ q n _ he=>u.any q n fun z=>he (hx _ z),fun b ob q n he=>u.free b ob q n fun z=>he (hx b z),fun b ob q he=>u.there b ob q fun z=>he (hx b z),u.gM,u.f6,u.fX⟩
end
noncomputable def yP(h:Heap)(H:Hp):List Addr:=(List.range h.objs.size).filter fun a=>(H a).isSome
def mS(h:Heap)(H:Hp):Heap:=W.hideAll h (yP h H)
def BV(h:Heap)(H:Hp):(mS h H).objs.size=h.objs.size:=W.hideAll_size _ _
def DR{h:Heap}{H:Hp}{b:Addr}{o:Obj}(e:h.get? b=some o)(n:H b=none):(mS h H).get? b=some o:=
 W.hideAll_get _ e fun hm=>by
  have q:(H b).isSome=true:=(tY.mp hm).2;rw[n] at q;simp at q
def HP{h:Heap}{H:Hp}{b:Addr}{o:Obj}(e:(mS h H).get? b=some o):h.get? b=some o/\H b=none:=by
 have e':h.get? b=some o:=W.of_hideAll (yP h H) e;refine⟨e',?_⟩;cases q:H b with
 |none=>rfl
 |some x=>
  have hm:b∈yP h H:=tY.mpr ⟨List.mem_range.mpr (bJ e'),by simp[q]⟩;have z:(mS h H).get? b=none:=zR (yP h H) hm;rw[z] at e;cases e
noncomputable def GO(g h:Heap)(L:Addr):aH:=(List.range h.objs.size).filterMap fun a=>if a=L\/(g.get? a).isSome=true then none else (h.get? a).map fun o=>(a,o)
def rest(g h:Heap)(L d:Addr):aH:=(GO g h L).filter fun p=>decide (p.1≠d)
structure Mod(K:W.Frag)(mg:Str->Option Value)(base:Heap):Prop where
 rK:K.In base
 glob:base.Ns mainGlobals mg
 blt:∃mb,base.Ns builtinsNs mb/\∀x:Str,x≠ "__name__" ->mb x=bootBuiltins x
 nolimit:base.NoLimit
structure oQ where
 g:Addr
 f:Nat
 vs:List V
 cd:Addr
 q:Str
structure kF where
 P:Addr
 q:Str
structure ff where
 fs:Nat->Option oQ
 tb:List kF
noncomputable abbrev P7:ff:=⟨fun _=>none,[]⟩
structure Cx where
 prog:Program
 w:World
 K:W.Frag
 mg:Str->Option Value
 base:Heap
 A:Around
 N:List Str
 aL:Shared
 kD:Hp
 env:Env
 outer:List Env
 stack:List Env
 ex:List Addr
 fn:Str->Bool
 calm:Bool
 pn:aH
 xe:aY
 cl:ff:=P7
def bu(l:List Env):List Addr:=l.filterMap (·.frame)
abbrev Cx.fs(X:Cx):List Addr:=bu X.outer
def oE(sc:Scope)(x:Str):Prop:=sc.names.lookup x=some .local\/sc.names.lookup x=some .cell\/sc.names.lookup x=some .free
def Loc(sc:Scope)(x:Str):Prop:=sc.names.lookup x=some .local\/sc.names.lookup x=some .cell
def Look(env:Env)(h:Heap)(m:Str->Option Value)(x:Str)(u:Value):Prop:=
 (env.kindOf x=some .local/\m x=some u)\/((env.kindOf x=some .cell\/env.kindOf x=some .free)/\∃c,env.cells.lookup x=some c/\h.IsCell c (some u))
structure Cx.Ok(X:Cx):Prop where
 mod:Mod X.K X.mg X.base
 kind:X.env.scope.kind=.function
 glob:X.env.globals=mainGlobals
 blt:X.env.builtins=builtinsNs
 above:X.aL.heap.objs.size<=X.env.locals
 inj:∀x y c,X.env.cells.lookup x=some c->X.env.cells.lookup y=some c->x=y
 has:∀x,(X.env.kindOf x=some .cell\/X.env.kindOf x=some .free)->∃c,X.env.cells.lookup x=some c
 rN:∀x c,X.fn x=true->X.env.cells.lookup x=some c->X.aL.heap.objs.size<=c
 hd:X.calm=true->X.A.handled=none
 frames:X.A.frames=some X.stack
 vS:X.stack=X.outer\/(X.stack=X.env::X.outer/\X.env.frame=some X.env.locals)
 Dc:∀b∈X.ex,b≠X.env.locals/\∀x c,X.env.cells.lookup x=some c->c≠b
 bs:∀b o,X.base.get? b=some o->X.aL.heap.get? b=some o/\X.kD b=none
 mG:X.base.objs.size<=X.aL.heap.objs.size
 oU:∀b o,X.base.get? b=some o->b∉X.ex
 qN:∀b∈X.ex,b∉X.fs
 gf:X.aL.heap.FunFrames X.base X.outer
 oq:∀b∈X.fs,X.kD b=none
structure Inv(X:Cx)(pins:aH)(σ:List (Option V))(H:Hp)(s:Shared):Prop where
 ok:X.Ok
 os:s.os=X.aL.os
 bare:AllBare s.gens
 base:Un X.fs X.ex X.kD H X.aL.heap s.heap
 loc:∃m,s.heap.Ns X.env.locals m/\∀(i:Nat)(x:Str)(v:V),X.N[i]?=some x->σ[i]?=some (some v)->oE X.env.scope x->∃u,RelV v u/\Look X.env s.heap m x u
 cell:∀x c,X.env.cells.lookup x=some c->∃v,s.heap.IsCell c v
 free:H X.env.locals=none
 fg:∀x c,X.env.cells.lookup x=some c->H c=none
 pin:∀p∈X.pn++pins,s.heap.get? p.1=some p.2/\H p.1=none/\p.1≠X.env.locals/\p.1∉X.fs/\∀v,p.2.data≠.cell v
 av:dN X.prog X.w H s.heap
 len:σ.length=X.N.length
section
variable {X:Cx}{pins:aH}{σ:List (Option V)}{H H':Hp}{s:Shared}{h':Heap}
def Cx.Ok.Bg(ok:X.Ok){b:Addr}{o:Obj}(e:X.base.get? b=some o):b∉X.fs:=fun hb=>by
 have:=(ok.gf.mem hb).1;rw[e] at this;cases this
def Inv.bs(I:Inv X pins σ H s):∀b o,X.base.get? b=some o->s.heap.get? b=some o/\H b=none:=fun b o e=>
 ⟨I.base.keep b o (I.ok.bs b o e).1 (I.ok.bs b o e).2 (I.ok.Bg e) (I.ok.oU b o e),I.base.free b o (I.ok.bs b o e).1 (I.ok.bs b o e).2 (I.ok.oU b o e)⟩
def Inv.bk(I:Inv X pins σ H s):∀b o,X.base.get? b=some o->s.heap.get? b=some o:=fun b o e=>(I.bs b o e).1
def Inv.mod(I:Inv X pins σ H s):Mod X.K X.mg X.base:=I.ok.mod
def Inv.b9(I:Inv X pins σ H s):X.K.In s.heap:=I.ok.mod.rK.keeps I.bk
def Inv.lt(I:Inv X pins σ H s):X.env.locals<s.heap.objs.size:=let ⟨_,hn,_⟩:=I.loc;hn.lt
def Inv.sz(I:Inv X pins σ H s):X.aL.heap.objs.size<=s.heap.objs.size:=aF I.ok.above (Bi I.lt)
def Inv.Mg(I:Inv X pins σ H s){a:Addr}(h:s.heap.objs.size<=a):a∉X.fs:=fun hb=>by
 obtain⟨_,o,ho,_⟩:=I.ok.gf.mem hb;exact absurd (bY (bJ ho) (aF I.sz h)) (qP _)
def Inv.oS(I:Inv X pins σ H s):∀x c,X.env.cells.lookup x=some c->c≠X.env.locals:=fun x c e z=>by
 obtain⟨v,o,ho,hd⟩:=I.cell x c e;obtain⟨m,⟨o',es,ep,ho',hd',_⟩,_⟩:=I.loc;rw[z,ho'] at ho;cases ho;rw[hd'] at hd;cases hd
def Inv.gf(I:Inv X pins σ H s):s.heap.FunFrames X.base X.outer:=by
 have all:∀(l:List Env),(∀b∈bu l,b∈X.fs)->X.aL.heap.FunFrames X.base l->s.heap.FunFrames X.base l:=by
  intro l
  induction l with
  |nil=>intro _ _;trivial
  |cons env r ih=>
   intro hs hl;obtain⟨hk,⟨L,o,hf,hn,ho,hd⟩,hr⟩:=hl;have hL:L∈X.fs:=hs L (by unfold bu;rw[tq,hf];exact nh);obtain⟨sl,e⟩:=I.base.slot L o ho (I.ok.oq L hL) hL fun z=>I.ok.qN L z hL;exact⟨hk,⟨L,_,hf,hn,e,hd⟩,ih (fun b hb=>hs b (by unfold bu;rw[tq,hf];exact jc _ hb)) hr⟩
 exact all X.outer (fun _ hb=>hb) I.ok.gf
def Inv.stack(I:Inv X pins σ H s):s.heap.FunFrames X.base X.stack:=by
 rcases I.ok.vS with e|⟨e,hf⟩
 .rw[e];exact I.gf
 .rw[e];obtain⟨m,hn,_⟩:=I.loc;refine .cons (by rw[I.ok.kind];decide) hf hn ?_ I.gf;exact Heap.get?_none_of_le (aF I.ok.mG I.ok.above)
def Inv.kO(I:Inv X pins σ H s):∀b∈bu X.stack,b∈X.env.locals::X.fs:=fun b hb=>by
 rcases I.ok.vS with e|⟨e,hf⟩
 .rw[e] at hb;exact jc _ hb
 .rw[e] at hb;unfold bu at hb;rw[tq,hf] at hb;exact hb
def Inv.jf(I:Inv X pins σ H s):∀b∈bu X.stack,H b=none:=fun b hb=>by
 rcases fH.mp (I.kO b hb) with e|hb
 .rw[e];exact I.free
 .obtain⟨_,o,ho,_⟩:=I.ok.gf.mem hb;exact I.base.free b o ho (I.ok.oq b hb) fun z=>I.ok.qN b z hb
def Inv.step{g':Array GenState}{t':Nat}{d':Drawn}{ch:List Addr}(I:Inv X pins σ H s)
  (hch:∀b∈ch,(b∈X.ex\/X.aL.heap.objs.size<=b)/\b≠X.env.locals/\(∀x c,X.env.cells.lookup x=some c->c≠b)/\∀p∈X.pn++pins,p.1≠b)
  (keep:∀b o,b≠X.env.locals->b∉X.fs->b∉ch->s.heap.get? b=some o->H b=none->h'.get? b=some o)
  (slot:∀b o,b≠X.env.locals->b∈X.fs->b∉ch->s.heap.get? b=some o->H b=none->∃sl,h'.get? b=some {o with slots:=sl}) (free:∀b o,b∉ch->s.heap.get? b=some o->H b=none->H' b=none)
  (there:∀b o,b∉ch->s.heap.get? b=some o->∃o',h'.get? b=some o')
  (gM:∀b xs,H b=some (.tup xs)->H' b=some (.tup xs)) (f6:∀b o u,H b=some (.aV o u)->H' b=some (.aV o u)) (fX:∀b ps,H b=some (.dZ ps)->∃more,H' b=some (.dZ (ps++more)))
  (ns:∀m,s.heap.Ns X.env.locals m->h'.Ns X.env.locals m) (av:dN X.prog X.w H' h') (hg:AllBare g'):
  Inv X pins σ H' {s with heap:=h',gens:=g',drawn:=d',toks:=t'}:=by
 have neL:∀b o,X.aL.heap.get? b=some o->b≠X.env.locals:=fun b o e=>dw (bY (bJ e) I.ok.above);have neC:∀b o,X.aL.heap.get? b=some o->b∉X.ex->b∉ch:=fun b o e hx hb=>by
  rcases (hch b hb).1 with z|z
  .exact hx z
  .exact absurd (bY (bJ e) z) (qP _)
 have cellK:∀x c,X.env.cells.lookup x=some c->∀v,s.heap.IsCell c v->h'.IsCell c v:=fun x c e v Z=>Z.g fun o Z=>Z.g fun ho hd=>by
  have nch:c∉ch:=fun z=>(hch c z).2.2.1 x c e rfl;by_cases hc:c∈X.fs
  .obtain⟨sl,q⟩:=slot c o (I.oS x c e) hc nch ho (I.fg x c e);exact⟨_,q,hd⟩
  .exact⟨o,keep c o (I.oS x c e) hc nch ho (I.fg x c e),hd⟩
 refine⟨I.ok,I.os,hg,⟨fun b o e n hb hx=>?_,fun b o e n hb hx=>?_,fun b o e n hx=>?_,fun b o e hx=>?_,fun b xs e=>gM b xs (I.base.gM b xs e),fun b o xs e=>f6 b o xs (I.base.f6 b o xs e),fun b ps e=>?_⟩,?_,fun x c e=>?_,?_,fun x c e=>?_,fun p hp=>?_,av,I.len⟩
 .exact keep b o (neL b o e) hb (neC b o e hx) (I.base.keep b o e n hb hx) (I.base.free b o e n hx)
 .obtain⟨sl,e1⟩:=I.base.slot b o e n hb hx;obtain⟨sl',e2⟩:=slot b _ (neL b o e) hb (neC b o e hx) e1 (I.base.free b o e n hx);exact⟨sl',e2⟩
 .obtain⟨o',e1⟩:=I.base.there b o e hx;exact free b o' (neC b o e hx) e1 (I.base.free b o e n hx)
 .obtain⟨o',e1⟩:=I.base.there b o e hx;exact there b o' (neC b o e hx) e1
 .obtain⟨m1,e1⟩:=I.base.fX b ps e;obtain⟨m2,e2⟩:=fX b _ e1;exact⟨m1++m2,by rw[e2,Array.append_assoc]⟩
 .obtain⟨m,hn,hl⟩:=I.loc;refine⟨m,ns m hn,fun i x v e1 e2 e3=>?_⟩;obtain⟨u,r,l⟩:=hl i x v e1 e2 e3;refine⟨u,r,?_⟩;rcases l with l|⟨k,c,e,z⟩
  .exact .inl l
  .exact .inr ⟨k,c,e,cellK x c e _ z⟩
 .obtain⟨v,z⟩:=I.cell x c e;exact⟨v,cellK x c e v z⟩
 .obtain⟨m,⟨o,_,_,ho,_⟩,_⟩:=I.loc;exact free _ o (fun z=>(hch _ z).2.1 rfl) ho I.free
 .obtain⟨v,o,ho,hd⟩:=I.cell x c e;exact free c o (fun z=>(hch c z).2.2.1 x c e rfl) ho (I.fg x c e)
 .obtain⟨e,n,ne,nf,d⟩:=I.pin p hp;have nch:p.1∉ch:=fun z=>(hch p.1 z).2.2.2 p hp rfl;exact⟨keep p.1 p.2 ne nf nch e n,free p.1 p.2 nch e n,ne,nf,d⟩
def Inv.un{t':Nat}(I:Inv X pins σ H s)(u:Un X.fs [] H H' s.heap h')(av:dN X.prog X.w H' h'):Inv X pins σ H' {s with heap:=h',toks:=t'}:=by
 obtain⟨m,⟨o,es,ep,ho,r⟩,_⟩:=id I.loc;obtain⟨sl,hL⟩:=u.any ho I.free (by simp);exact I.step (g':=s.gens) (d':=s.drawn) (ch:=[]) (fun _ z=>nomatch z) (fun b o _ hb _ e n=>u.keep b o e n hb (by simp)) (fun b o _ hb _ e n=>u.slot b o e n hb (by simp)) (fun b o _ e n=>u.free b o e n (by simp)) (fun b o _ e=>u.there b o e (by simp)) u.gM u.f6 u.fX (fun m' hm=>by
  obtain⟨o',es',ep',ho',r'⟩:=hm;rw[ho] at ho';cases ho';exact⟨_,es',ep',hL,r'⟩) av I.bare
def Inv.call{g':Array GenState}{t':Nat}{d':Drawn}{ch:List Addr}(I:Inv X pins σ H s)(u:Un (bu X.stack) ch H H' s.heap h')(av:dN X.prog X.w H' h')(hg:AllBare g')
  (hch:∀b∈ch,(b∈X.ex\/X.aL.heap.objs.size<=b)/\b≠X.env.locals/\(∀x c,X.env.cells.lookup x=some c->c≠b)/\∀p∈X.pn++pins,p.1≠b):
  Inv X pins σ H' {s with heap:=h',gens:=g',drawn:=d',toks:=t'}:=by
 obtain⟨m,⟨o,es,ep,ho,r⟩,_⟩:=id I.loc;obtain⟨sl,hL⟩:=u.any ho I.free fun z=>(hch _ z).2.1 rfl;exact I.step (ch:=ch) hch (fun b o hL hb hc e n=>u.keep b o e n (fun z=>(fH.mp (I.kO b z)).elim hL hb) hc) (fun b o _ _ hc e n=>u.any e n hc) (fun b o hc e n=>u.free b o e n hc) (fun b o hc e=>u.there b o e hc) u.gM u.f6 u.fX (fun m' hm=>by
  obtain⟨o',es',ep',ho',r'⟩:=hm;rw[ho] at ho';cases ho';exact⟨_,es',ep',hL,r'⟩) av hg
def Inv.turned{t':Nat}{it:Addr}(I:Inv X pins σ H s)(k:∀b o,b≠it->s.heap.get? b=some o->h'.get? b=some o)(hn:H it=none)(hL:it≠X.env.locals)
  (h1:it∈X.ex\/X.aL.heap.objs.size<=it) (h2:∀x c,X.env.cells.lookup x=some c->c≠it) (h3:∀p∈X.pn++pins,p.1≠it):Inv X pins σ H {s with heap:=h',toks:=t'}:=by
 have nit:∀b u,H b=some u->b≠it:=fun b u e z=>by rw[z,hn] at e;cases e
 refine I.step (g':=s.gens) (d':=s.drawn) (ch:=[it]) (fun b hb=>?_) (fun b o _ _ hc e _=>k b o (fun z=>hc (by simp[z])) e) (fun b o _ _ hc e _=>⟨o.slots,k b o (fun z=>hc (by simp[z])) e⟩) (fun _ _ _ _ n=>n)
  (fun b o hc e=>⟨o,k b o (fun z=>hc (by simp[z])) e⟩) (fun _ _ e=>e) (fun _ _ _ e=>e) (fun b ps e=>⟨#[],by rw[e];simp⟩) (fun m hm=>?_) (fun b u e=>?_) I.bare
 .have e:b=it:=by simpa using hb
  subst e;exact⟨h1,hL,h2,h3⟩
 .obtain⟨o,es,ep,ho,r⟩:=hm;exact⟨o,es,ep,k _ o (bj hL) ho,r⟩
 .refine (I.av b u e).gb (fun c v hc q=>k c v ?_ q) (fun _ q=>q) fun _ _ q=>q;rcases hc with z|z
  .rw[z];exact nit b u e
  .exact nit c _ z
def Inv.tok(I:Inv X pins σ H s)(t:Nat):Inv X pins σ H {s with toks:=t}:=I.un (h':=s.heap) (t':=t) Un.refl I.av
def Inv.kept{t':Nat}(I:Inv X pins σ H s)(k:∀b u,s.heap.get? b=some u->h'.get? b=some u):Inv X pins σ H {s with heap:=h',toks:=t'}:=I.un (Un.kept k) (I.av.kept k)
def Inv.laid{a:Addr}{o:HO}{t':Nat}(I:Inv X pins σ H s)(k:∀b u,s.heap.get? b=some u->h'.get? b=some u)(hp:s.heap.objs.size<=a)(new:cI X.prog X.w (upd H a o) h' a o):
  Inv X pins σ (upd H a o) {s with heap:=h',toks:=t'}:=I.un (Un.laid k hp (I.av.fresh hp)) (I.av.laid k hp new)
def Inv.write{x e:Addr}{o:HO}{t':Nat}(I:Inv X pins σ H s)(mu:GB (H x))(he:e=x\/H e=some (.own x))(k:∀b u,b≠e->s.heap.get? b=some u->h'.get? b=some u)(heo:∃u,h'.get? e=some u)
  (new:cI X.prog X.w (upd H x o) h' x o):Inv X pins σ (upd H x o) {s with heap:=h',toks:=t'}:=I.un (Un.write mu he k heo) (I.av.write mu he k heo new)
def Inv.pU{pins':aH}(I:Inv X pins σ H s)(h:∀p∈pins',s.heap.get? p.1=some p.2/\H p.1=none/\p.1≠X.env.locals/\p.1∉X.fs/\∀v,p.2.data≠.cell v):Inv X pins' σ H s:=
 ⟨I.ok,I.os,I.bare,I.base,I.loc,I.cell,I.free,I.fg,fun p hp=>(qK.mp hp).elim (fun z=>I.pin p (vD _ z)) (h p),I.av,I.len⟩
def rh{N:List Str}(hN:N.Nodup){i j:Nat}{x:Str}(a:N[i]?=some x)(b:N[j]?=some x):i=j:=by obtain⟨h1,e1⟩:=fV.mp a;obtain⟨h2,e2⟩:=fV.mp b;exact (List.getElem_inj hN).mp (e1.trans e2.symm)
def uy{M:Model}{A:Around}{E:aY}{i:Nat}{x:Str}{v:V}{u:Value}{Q:Unit->Shared->Prop}(I:Inv X pins σ H s)(hN:X.N.Nodup)(hi:X.N[i]?=some x)(hx:Loc X.env.scope x)(r:RelV v u)
  (h:∀s',Inv X pins (σ.set i (some v)) H s'->(∃a,Heap.SameBut a s.heap s'.heap/\(a=X.env.locals\/X.env.cells.lookup x=some a))->Q () s') (hf:X.fn x=true\/X.env.scope.names.lookup x=some .local:=by first|exact .inl rfl|exact .inr rfl|assumption):wpAny M A (storeName X.env x u) Q E s:=by
 obtain⟨m,hn,hl⟩:=id I.loc;have hcls:(X.env.scope.kind== .class || (X.env.scope.kind== .module&&X.env.locals != X.env.globals))=false:=by rw[I.ok.kind];rfl
 have hiσ:i<σ.length:=by rw[I.len];exact (fV.mp hi).1
 have oS:=I.oS;have tracked:∀{a:Addr}{h':Heap},(∃o,s.heap.get? a=some o/\H a=none)->Heap.SameBut a s.heap h'->dN X.prog X.w H h':=fun {a h'} ha hs b ob e=>by
  obtain⟨_,_,hfree⟩:=ha;refine (I.av b ob e).gb (fun c w' hc q=>(hs.2 c ?_).trans q) (fun _ q=>q) fun _ _ q=>q
  rintro rfl
  rcases hc with rfl|hc
  .rw[hfree] at e;cases e
  .rw[hfree] at hc;cases hc
 rcases hx with hk|hk
 .refine wpAny_storeName_local hk hn (fun h' hn' hs=>?_) hcls;obtain⟨oL,_,_,hoL,_⟩:=id hn;refine h _ ⟨I.ok,I.os,I.bare,⟨fun b o e n hb hx=>?_,fun b o e n hb hx=>?_,I.base.free,fun b o e hx=>?_,I.base.gM,I.base.f6,I.base.fX⟩,⟨_,hn',fun j y v' e1 e2 e3=>?_⟩,fun y c e=>?_,I.free,I.fg,fun p hp=>?_,tracked ⟨oL,hoL,I.free⟩ hs,by simpa using I.len⟩ ⟨_,hs,.inl rfl⟩
  .exact (hs.2 b (dw (bY (bJ e) I.ok.above))).trans (I.base.keep b o e n hb hx)
  .obtain⟨sl,e1⟩:=I.base.slot b o e n hb hx;exact⟨sl,(hs.2 b (dw (bY (bJ e) I.ok.above))).trans e1⟩
  .obtain⟨o',e1⟩:=I.base.there b o e hx;exact⟨o',(hs.2 b (dw (bY (bJ e) I.ok.above))).trans e1⟩
  .by_cases hj:j=i
   .subst hj;rw[hi] at e1;cases e1;rw[jD hiσ] at e2;cases e2;exact⟨u,r,.inl ⟨hk,by simp⟩⟩
   .rw[jE (bj hj)] at e2;obtain⟨u',r',q⟩:=hl j y v' e1 e2 e3;refine⟨u',r',?_⟩;rcases q with ⟨k,e⟩|⟨k,c,e,z⟩
    .refine .inl ⟨k,?_⟩;have:y≠x:=fun e=>hj (rh hN e1 (e▸hi));simp[this,e]
    .exact .inr ⟨k,c,e,z.sameBut hs (oS y c e)⟩
  .obtain⟨w',z⟩:=I.cell y c e;exact⟨w',z.sameBut hs (oS y c e)⟩
  .obtain⟨e,n,ne,nf,d⟩:=I.pin p hp;exact⟨(hs.2 p.1 ne).trans e,n,ne,nf,d⟩
 .have hfn:X.fn x=true:=by
   rcases hf with z|z
   .exact z
   .rw[z] at hk;cases hk
  obtain⟨c,hc⟩:=I.ok.has x (.inl hk);obtain⟨w',z⟩:=I.cell x c hc;refine wpAny_storeName_cell I.ok.kind hk hc z (fun h' hc' hs=>?_);obtain⟨oc,hoc,hocd⟩:=id z;refine h {s with heap:=h'} ⟨I.ok,I.os,I.bare,⟨fun b o e n hb hx=>?_,fun b o e n hb hx=>?_,I.base.free,fun b o e hx=>?_,I.base.gM,I.base.f6,I.base.fX⟩,⟨m,hn.sameBut hs (bj (oS x c hc)),fun j y v' e1 e2 e3=>?_⟩,fun y c' e=>?_,I.free,I.fg,fun p hp=>?_,tracked ⟨oc,hoc,I.fg x c hc⟩ hs,by simpa using I.len⟩ ⟨c,hs,.inr hc⟩
  .exact (hs.2 b (dw (bY (bJ e) (I.ok.rN x c hfn hc)))).trans (I.base.keep b o e n hb hx)
  .obtain⟨sl,e1⟩:=I.base.slot b o e n hb hx;exact⟨sl,(hs.2 b (dw (bY (bJ e) (I.ok.rN x c hfn hc)))).trans e1⟩
  .obtain⟨o',e1⟩:=I.base.there b o e hx;exact⟨o',(hs.2 b (dw (bY (bJ e) (I.ok.rN x c hfn hc)))).trans e1⟩
  .by_cases hj:j=i
   .subst hj;rw[hi] at e1;cases e1;rw[jD hiσ] at e2;cases e2;exact⟨u,r,.inr ⟨.inl hk,c,hc,hc'⟩⟩
   .rw[jE (bj hj)] at e2;obtain⟨u',r',q⟩:=hl j y v' e1 e2 e3;refine⟨u',r',?_⟩;rcases q with q|⟨k,c',e,z'⟩
    .exact .inl q
    .refine .inr ⟨k,c',e,z'.sameBut hs ?_⟩
     rintro rfl
     exact hj (rh hN e1 (I.ok.inj _ _ _ e hc▸hi))
  .by_cases hcc:c'=c
   .subst hcc;exact⟨_,hc'⟩
   .obtain⟨w2,z2⟩:=I.cell y c' e;exact⟨w2,z2.sameBut hs hcc⟩
  .obtain⟨e,n,ne,nf,d⟩:=I.pin p hp;refine⟨(hs.2 p.1 ?_).trans e,n,ne,nf,d⟩;intro q;rw[q,hoc] at e;have q':oc=p.2:=kj e;exact d w' (by rw[<-q'];exact hocd)
def kz{M:Model}{A:Around}{E:aY}{i:Nat}{x:Str}{v:V}{u:Value}{Q:Unit->Shared->Prop}(I:Inv X pins σ H s)(hN:X.N.Nodup)(hi:X.N[i]?=some x)(hx:Loc X.env.scope x)(r:RelV v u)
  (h:∀s',Inv X pins (σ.set i (some v)) H s'->Q () s') (hf:X.fn x=true\/X.env.scope.names.lookup x=some .local:=by first|exact .inl rfl|exact .inr rfl|assumption):wpAny M A (storeName X.env x u) Q E s:=
 uy I hN hi hx r (fun s' I' _=>h s' I') hf
def Inv.Nh{s':Shared}{ch:List Addr}(I:Inv X pins σ H s)(ho:s'.os=s.os)(u:Un (bu X.stack) ch H H' s.heap s'.heap)(av:dN X.prog X.w H' s'.heap)(hg:AllBare s'.gens)
  (hch:∀b∈ch,(b∈X.ex\/X.aL.heap.objs.size<=b)/\b≠X.env.locals/\(∀x c,X.env.cells.lookup x=some c->c≠b)/\∀p∈X.pn++pins,p.1≠b):Inv X pins σ H' s':=by
 obtain⟨h',g',d',t',o'⟩:=s';have e:o'=s.os:=ho;subst e;exact I.call (g':=g') (t':=t') (d':=d') u av hg hch
end
abbrev XK:=Value->Option Addr->Hp->Prop
noncomputable abbrev St:=List (Option V)
abbrev VK:=V->Hp->Prop
abbrev TE:=St->Hp->VK->Prop
abbrev TT:=St->Hp->(Bool->Hp->Prop)->Prop
abbrev TA:=St->Hp->(List V->Hp->Prop)->Prop
structure Ends where
 nx:St->Hp->Prop
 rt:VK
 bk:St->Hp->Prop:=fun _ _=>False
 ct:St->Hp->Prop:=fun _ _=>False
abbrev TS:=Ends->St->Hp->Prop
def EP(X:Cx)(pins:aH)(σ:St)(Q:VK)(u:Value)(s':Shared):Prop:=∃v H',Inv X pins σ H' s'/\RelV v u/\Q v H'
def TP(X:Cx)(pins:aH)(σ:St)(Q:Bool->Hp->Prop)(b:Bool)(s':Shared):Prop:=∃H',Inv X pins σ H' s'/\Q b H'
def AP(X:Cx)(pins:aH)(σ:St)(Q:List V->Hp->Prop)(us:List Value)(s':Shared):Prop:=∃vs H',Inv X pins σ H' s'/\Vals vs us/\Q vs H'
def SP(X:Cx)(pins:aH)(D:Ends)(f:Flow)(s':Shared):Prop:=
 match f with
 |.next=>∃σ' H',Inv X pins σ' H' s'/\D.nx σ' H'
 |.brk=>∃σ' H',Inv X pins σ' H' s'/\D.bk σ' H'
 |.cont=>∃σ' H',Inv X pins σ' H' s'/\D.ct σ' H'
 |.ret u=>∃v σ' H',Inv X pins σ' H' s'/\RelV v u/\D.rt v H'
def PE(X:Cx)(e:Expr)(t:TE):Prop:=
 ∀(pins:aH)(s:Shared)(σ:St)(H:Hp)(Q:VK),Inv X pins σ H s->t σ H Q->wpAny (model X.prog X.w) X.A (eval e X.env) (EP X pins σ Q) X.xe s
def PT(X:Cx)(e:Expr)(t:TT):Prop:=
 ∀(pins:aH)(s:Shared)(σ:St)(H:Hp)(Q:Bool->Hp->Prop),Inv X pins σ H s->t σ H Q->wpAny (model X.prog X.w) X.A (isTrue e X.env (eval e X.env)) (TP X pins σ Q) X.xe s
def PW(X:Cx)(e:Expr)(t:TT):Prop:=
 ∀(whole:Sem Value)(pins:aH)(s:Shared)(σ:St)(H:Hp)(Q:Bool->Hp->Prop),Inv X pins σ H s->t σ H Q->wpAny (model X.prog X.w) X.A (isTrue e X.env whole) (TP X pins σ Q) X.xe s
def PW.pt{X:Cx}{e:Expr}{t:TT}(h:PW X e t):PT X e t:=h _
def PA(X:Cx)(es:List Expr)(t:TA):Prop:=
 ∀(pos:Pos)(pins:aH)(s:Shared)(σ:St)(H:Hp)(Q:List V->Hp->Prop),Inv X pins σ H s->t σ H Q->wpAny (model X.prog X.w) X.A (spliced (backTo pos (starEach es X.env))) (AP X pins σ Q) X.xe s
def PS(X:Cx)(st:Stmt)(t:TS):Prop:=
 ∀(pins:aH)(s:Shared)(σ:St)(H:Hp)(D:Ends),Inv X pins σ H s->t D σ H->wpAny (model X.prog X.w) X.A (exec st X.env) (SP X pins D) X.xe s
def dS(X:Cx)(st:List Stmt)(t:TS):Prop:=
 ∀(pins:aH)(s:Shared)(σ:St)(H:Hp)(D:Ends),Inv X pins σ H s->t D σ H->wpAny (model X.prog X.w) X.A (execs st X.env) (SP X pins D) X.xe s
def aB{α:Type}{t:Sem α}{Q Q':α->Shared->Prop}{M:Model}{A:Around}{E:aY}{s:Shared}(h:wpAny M A t Q E s)(hQ:∀a s,Q a s->Q' a s):wpAny M A t Q' E s:=jr h hQ fun _ _ x=>x
section
variable {X:Cx}
noncomputable def Q2(i:Nat):TE:=fun σ H Q=>∃v,σ[i]?=some (some v)/\Q v H
def tC(v:V):TE:=fun _ H Q=>Q v H
def o7{i:Nat}{x:Str}{pos:Pos}(hN:X.N[i]?=some x)(hv:oE X.env.scope x)(hd:(x== ("__debug__":Str))=false:=by decide)(hcd:(x== ("__classdict__":Str))=false:=by decide):PE X (.Name x pos) (Q2 i):=by
 intro pins s σ H Q I h;obtain⟨v,e,h⟩:=h;obtain⟨m,hn,hl⟩:=I.loc;obtain⟨u,r,l⟩:=hl i x v hN e hv;have fin:EP X pins σ Q u s:=⟨v,H,I,r,h⟩;rcases l with ⟨hk,hm⟩|⟨hk,c,hc,hcell⟩
 .exact wpAny_Name (wpAny_loadName_local I.ok.kind hk hn hm fin) hd
 .rcases hk with hk|hk
  .exact wpAny_Name (wpAny_loadName_cell I.ok.kind hk hc hcell fin) hd
  .exact wpAny_Name (wpAny_loadName_free I.ok.kind hk hc hcell fin hcd) hd
def CD{i j pos}:PE X (.Constant (.int i) j pos) (tC (.int i)):=fun _ _ _ H _ I h=>wpAny_Constant_int ⟨.int i,H,I.tok _,⟨_,rfl⟩,h⟩
def Nz{b j pos}:PE X (.Constant (.bool b) j pos) (tC (.bl b)):=fun _ _ _ H _ I h=>Constant_bool ⟨.bl b,H,I,rfl,h⟩
def MB{j pos}:PE X (.Constant .none j pos) (tC .ah):=fun _ _ _ H _ I h=>Constant_none ⟨.ah,H,I,rfl,h⟩
def C7{x j pos}:PE X (.Constant (.str x) j pos) (tC (.str x)):=fun _ _ _ H _ I h=>Calls.Constant_str ⟨.str x,H,I.tok _,⟨_,rfl⟩,h⟩
def Gl(X:Cx)(x:Str):Prop:=X.env.kindOf x=some .globalImplicit
def gu{E:aY}{pins:aH}{s:Shared}{σ:St}{H:Hp}{x:Str}{u:Value}{pos:Pos}{Q:aY}(I:Inv X pins σ H s)(hg:Gl X x)(hm:X.mg x=some u)(h:Q u s)
  (hd:(x== ("__debug__":Str))=false:=by decide):wpAny (model X.prog X.w) X.A (eval (.Name x pos) X.env) Q E s:=
 Calls.Name_function_global I.ok.kind hg (Calls.loadGlobal_global (by rw[I.ok.glob];exact I.mod.glob.keeps I.bk) hm h) hd
def mJ{E:aY}{pins:aH}{s:Shared}{σ:St}{H:Hp}{x:Str}{u:Value}{pos:Pos}{Q:aY}(I:Inv X pins σ H s)(hg:Gl X x)(hm:X.mg x=none)(hv:bootBuiltins x=some u)(h:Q u s)
  (hn:x≠ "__name__":=by decide) (hd:(x== ("__debug__":Str))=false:=by decide):wpAny (model X.prog X.w) X.A (eval (.Name x pos) X.env) Q E s:=by
 obtain⟨mb,h1,h2⟩:=I.mod.blt;exact Calls.Name_function_global I.ok.kind hg (Calls.loadGlobal_builtin (by rw[I.ok.glob];exact I.mod.glob.keeps I.bk) hm (by rw[I.ok.blt];exact h1.keeps I.bk) ((h2 x hn).trans hv) h) hd
def kf{x:Str}{v:V}{u:Value}{pos:Pos}(hg:Gl X x)(hm:X.mg x=some u)(r:RelV v u)(hd:(x== ("__debug__":Str))=false:=by decide):PE X (.Name x pos) (tC v):=
 fun _ _ _ H _ I h=>gu I hg hm ⟨v,H,I,r,h⟩ hd
def zz{x:Str}{v:V}{u:Value}{pos:Pos}(hg:Gl X x)(hm:X.mg x=none)(hv:bootBuiltins x=some u)(r:RelV v u)(hn:x≠ "__name__":=by decide)(hd:(x== ("__debug__":Str))=false:=by decide):PE X (.Name x pos) (tC v):=
 fun _ _ _ H _ I h=>mJ I hg hm hv ⟨v,H,I,r,h⟩ hn hd
variable {a b:Expr}{ta tb:TE}{pos:Pos}
variable {tA tB':TT}{rest:List Expr}
noncomputable def Rr(t u:TT):TT:=fun σ H Q=>t σ H fun c H1=>if c=true then u σ H1 Q else Q false H1
noncomputable def S7(t u:TT):TT:=fun σ H Q=>t σ H fun c H1=>if c=true then Q true H1 else u σ H1 Q
def QH(t:TT):TT:=fun σ H Q=>t σ H fun c H1=>Q (!c) H1
def Hh(ha:PT X a tA):PW X (.BoolOp .And [a] pos) tA:=by
 intro wh pins s σ H Q I h;refine isTrue_and (aB (ha pins s σ H Q I h) fun c s1 e=>?_);cases c with
 |true=>exact isTrue_and_nil e
 |false=>exact e
def KS(ha:PT X a tA):PW X (.BoolOp .Or [a] pos) tA:=by
 intro wh pins s σ H Q I h;refine isTrue_or (aB (ha pins s σ H Q I h) fun c s1 e=>?_);cases c with
 |false=>exact isTrue_or_nil e
 |true=>exact e
def LL(ha:PT X a tA)(hb:PW X (.BoolOp .And (b::rest) pos) tB'):PW X (.BoolOp .And (a::b::rest) pos) (Rr tA tB'):=by
 intro wh pins s σ H Q I h;refine isTrue_and (aB (ha pins s σ H _ I h) fun c s1 Z=>Z.k1 fun H1 I1 q1=>?_);cases c with
 |true=>exact hb wh pins s1 σ H1 Q I1 q1
 |false=>exact⟨H1,I1,q1⟩
def OB(ha:PT X a tA)(hb:PW X (.BoolOp .Or (b::rest) pos) tB'):PW X (.BoolOp .Or (a::b::rest) pos) (S7 tA tB'):=by
 intro wh pins s σ H Q I h;refine isTrue_or (aB (ha pins s σ H _ I h) fun c s1 Z=>Z.k1 fun H1 I1 q1=>?_);cases c with
 |true=>exact⟨H1,I1,q1⟩
 |false=>exact hb wh pins s1 σ H1 Q I1 q1
def KC(ha:PT X a tA):PT X (.UnaryOp .Not a pos) (QH tA):=by intro pins s σ H Q I h;exact isTrue_not (ha pins s σ H (fun c H1=>Q (!c) H1) I h)
noncomputable def NK(ta tb:TE):TE:=fun σ H Q=>ta σ H fun x H1=>∃c,x=.bl c/\if c=true then tb σ H1 Q else Q (.bl false) H1
noncomputable def Qw(ta tb:TE):TE:=fun σ H Q=>ta σ H fun x H1=>∃c,x=.bl c/\if c=true then Q (.bl true) H1 else tb σ H1 Q
def Js{op}{t:TE}(h:PE X a t):PE X (.BoolOp op [a] pos) t:=fun pins s σ H Q I hw=>BoolOp_one (h pins s σ H Q I hw)
def Jr(ha:PE X a ta)(hb:PE X (.BoolOp .And (b::rest) pos) tb):PE X (.BoolOp .And (a::b::rest) pos) (NK ta tb):=by
 intro pins s σ H Q I h;refine BoolOp_and (aB (ha pins s σ H _ I h) fun v s1 Z=>Z.k2 fun x H1 I1 r1 q1=>?_);obtain⟨c,rfl,q1⟩:=q1;cases r1;refine vh ?_;cases c with
 |true=>exact hb pins s1 σ H1 Q I1 q1
 |false=>exact⟨.bl false,H1,I1,rfl,q1⟩
def M6(ha:PE X a ta)(hb:PE X (.BoolOp .Or (b::rest) pos) tb):PE X (.BoolOp .Or (a::b::rest) pos) (Qw ta tb):=by
 intro pins s σ H Q I h;refine BoolOp_or (aB (ha pins s σ H _ I h) fun v s1 Z=>Z.k2 fun x H1 I1 r1 q1=>?_);obtain⟨c,rfl,q1⟩:=q1;cases r1;refine vh ?_;cases c with
 |false=>exact hb pins s1 σ H1 Q I1 q1
 |true=>exact⟨.bl true,H1,I1,rfl,q1⟩
noncomputable def Th(t:TT)(ta tb:TE):TE:=fun σ H Q=>t σ H fun c H1=>if c=true then ta σ H1 Q else tb σ H1 Q
def DT{c:Expr}(hc:PT X c tA)(ha:PE X a ta)(hb:PE X b tb):PE X (.IfExp c a b pos) (Th tA ta tb):=by
 intro pins s σ H Q I h;refine wpAny_IfExp (aB (hc pins s σ H _ I h) fun d s1 Z=>Z.k1 fun H1 I1 q1=>?_);cases d with
 |true=>exact ha pins s1 σ H1 Q I1 q1
 |false=>exact hb pins s1 σ H1 Q I1 q1
end
def cq(K:W.Frag)(H:Hp)(a:Addr)(xs:List V):Prop:=
 Rd H a (.lst xs)\/
  ∃(o:Obj) (its:Array Value) (n:Nat),K.lookup a=some o/\o.cls=.type "list" /\o.dict=none/\o.data=.seq its n/\its.size<=sizeLine/\Vals xs its.toList
def dC(K:W.Frag)(H:Hp)(a:Addr)(xs:List V):Prop:=
 Rd H a (.tup xs)\/
  ∃(o:Obj) (its:Array Value) (n:Nat),K.lookup a=some o/\o.cls=.type "tuple" /\o.data=.seq its n/\its.size<=sizeLine/\Vals xs its.toList
noncomputable def RC:Value->Option V
 |.none=>some .ah
 |.bool b=>some (.bl b)
 |.int i _=>some (.int i)
 |.str x _=>some (.str x)
 |.bytes b _=>some (.byt b)
 |.float b _=>some (.flt b)
 |.ref a=>some (.ref a)
 |.type n=>some (.ty n)
 |_=>none
def RelV.abs{x:V}{u:Value}(r:RelV x u):RC u=some x:=by
 cases x with
 |ah=>cases r;rfl
 |bl _=>cases r;rfl
 |int _=>obtain⟨t,rfl⟩:=r;rfl
 |str _=>obtain⟨t,rfl⟩:=r;rfl
 |byt _=>obtain⟨t,rfl⟩:=r;rfl
 |flt _=>obtain⟨t,rfl⟩:=r;rfl
 |ref _=>cases r;rfl
 |ty _=>cases r;rfl
def RelV.inj{x y:V}{u:Value}(r:RelV x u)(q:RelV y u):x=y:=kj (r.abs.symm.trans q.abs)
theorem Vals.inj:∀{xs ys:List V}{us:List Value},Vals xs us->Vals ys us->xs=ys
 |_,_,_,.nil,.nil=>rfl
 |_,_,_,.cons r t,.cons r' t'=>by rw[r.inj r',Vals.inj t t']
section
variable {X:Cx}{pins:aH}{σ:St}{H:Hp}{s:Shared}{a:Addr}{xs ys:List V}
def cq.of{K:W.Frag}(h:H a=some (.lst xs)):cq K H a xs:=.inl (.inl h)
def dC.of{K:W.Frag}(h:H a=some (.tup xs)):dC K H a xs:=.inl (.inl h)
def Inv.list(I:Inv X pins σ H s)(h:cq X.K H a xs):∃its:List Value,Vals xs its/\PlainL s.heap a its.toArray/\xs.length<=sizeLine:=by
 rcases h with h|⟨o,its,n,hk,hc,hd,hs,hz,r⟩
 .obtain⟨z,its,n,r,e⟩:=h.ok I.av;exact⟨its,r,⟨_,n,e,rfl,rfl,rfl⟩,z⟩
 .refine⟨its.toList,r,⟨o,n,I.b9 a o hk,hc,hd,by simpa using hs⟩,?_⟩;have e:=r.length;simp only[MD] at e
  lia
def Inv.tuple(I:Inv X pins σ H s)(h:dC X.K H a xs):∃its:List Value,Vals xs its/\IsTup s.heap a its.toArray/\xs.length<=sizeLine:=by
 rcases h with h|⟨o,its,n,hk,hc,hs,hz,r⟩
 .obtain⟨z,its,r,p⟩:=h.ok I.av;exact⟨its,r,p,z⟩
 .refine⟨its.toList,r,⟨o,I.b9 a o hk,hc,n,by simpa using hs⟩,?_⟩;have e:=r.length;simp only[MD] at e
  lia
def Inv.xE(I:Inv X pins σ H s)(h:cq X.K H a xs)(h':cq X.K H a ys):xs=ys:=by
 obtain⟨its,r,⟨o,n,e,_,_,d⟩,_⟩:=I.list h;obtain⟨its',r',⟨o',n',e',_,_,d'⟩,_⟩:=I.list h';rw[e] at e';cases e';rw[d] at d';injection d' with d1 _;have:its=its':=by simpa using dg Array.toList d1
 subst this;exact r.inj r'
def Inv.uq(I:Inv X pins σ H s)(h:dC X.K H a xs)(h':dC X.K H a ys):xs=ys:=by
 obtain⟨its,r,⟨o,e,_,n,d⟩,_⟩:=I.tuple h;obtain⟨its',r',⟨o',e',_,n',d'⟩,_⟩:=I.tuple h';rw[e] at e';cases e';rw[d] at d';injection d' with d1 _;have:its=its':=by simpa using dg Array.toList d1
 subst this;exact r.inj r'
end
noncomputable abbrev Cx.m8(X:Cx)(E:aY):Cx:={X with xe:=E}
abbrev Cx.CY(X:Cx):Cx:=X.m8 fun _ _=>False
def Cx.Ok.m8{X:Cx}(ok:X.Ok)(E:aY):(X.m8 E).Ok:=
 ⟨ok.mod,ok.kind,ok.glob,ok.blt,ok.above,ok.inj,ok.has,ok.rN,ok.hd,ok.frames,ok.vS,ok.Dc,ok.bs,ok.mG,ok.oU,ok.qN,ok.gf,ok.oq⟩
def Cx.Ok.r9{X:Cx}{E:aY}(ok:(X.m8 E).Ok):X.Ok:=
 ⟨ok.mod,ok.kind,ok.glob,ok.blt,ok.above,ok.inj,ok.has,ok.rN,ok.hd,ok.frames,ok.vS,ok.Dc,ok.bs,ok.mG,ok.oU,ok.qN,ok.gf,ok.oq⟩
section
variable {X:Cx}{pins:aH}{σ:St}{H:Hp}{s:Shared}{E:aY}
def Inv.m8(I:Inv X pins σ H s)(E:aY):Inv (X.m8 E) pins σ H s:=⟨I.ok.m8 E,I.os,I.bare,I.base,I.loc,I.cell,I.free,I.fg,I.pin,I.av,I.len⟩
def Inv.r9(I:Inv (X.m8 E) pins σ H s):Inv X pins σ H s:=⟨I.ok.r9,I.os,I.bare,I.base,I.loc,I.cell,I.free,I.fg,I.pin,I.av,I.len⟩
end
section
variable {X:Cx}{st:Stmt}{rest:List Stmt}{t u:TS}{e:Expr}{te:TE}{pos:Pos}
noncomputable def NA:TS:=fun D σ H=>D.nx σ H
def RL(t u:TS):TS:=fun D σ H=>t {D with nx:=u D} σ H
def Hx:dS X [] NA:=fun _ _ σ H _ I h=>qi ⟨σ,H,I,h⟩
def DZ(h1:PS X st t)(h2:dS X rest u):dS X (st::rest) (RL t u):=by
 intro pins s σ H D I h;refine rE (aB (h1 pins s σ H {D with nx:=u D} I h) fun f s1 q=>?_);cases f with
 |next=>
  obtain⟨σ',H',I',q⟩:=q;exact h2 pins s1 σ' H' D I' q
 |ret v=>exact q
 |brk=>exact q
 |cont=>exact q
def Iz(h1:PS X st t):dS X [st] t:=by
 intro pins s σ H D I h;refine rE (aB (h1 pins s σ H D I h) fun f s1 q=>?_);cases f with
 |next=>exact qi q
 |ret v=>exact q
 |brk=>exact q
 |cont=>exact q
def Inv.quiet{pins:aH}{σ:St}{H:Hp}{s:Shared}(I:Inv X pins σ H s):interactive X.env=false:=by simp[interactive,I.ok.kind]
def OD(te:TE):TS:=fun D σ H=>te σ H fun _ H1=>D.nx σ H1
def Ia(he:PE X e te)(hs:swapsWith e none pos.line X.env=pure false:=by rfl):PS X (.Expr e pos) (OD te):=by intro pins s σ H D I h;exact wpAny_Expr_any (aB (he pins s σ H _ I h) fun v s1 Z=>Z.k2 fun x H1 I1 r1 q1=>⟨σ,H1,I1,q1⟩) I.quiet hs
def R6(te:TE):TS:=fun D σ H=>te σ H D.rt
def J4(he:PE X e te):PS X (.Return (some e) pos) (R6 te):=by intro pins s σ H D I h;exact AI (aB (he pins s σ H _ I h) fun v s1 Z=>Z.k2 fun x H1 I1 r1 q1=>⟨x,σ,H1,I1,r1,q1⟩)
noncomputable def Qm(c:TT)(t u:TS):TS:=fun D σ H=>c σ H fun b H1=>if b=true then t D σ H1 else u D σ H1
def Of{c:Expr}{a b:List Stmt}{tc:TT}(hc:PT X c tc)(ha:dS X a t)(hb:dS X b u):PS X (.If c a b pos) (Qm tc t u):=by
 intro pins s σ H D I h;refine wpAny_If (aB (hc pins s σ H _ I h) fun d s1 Z=>Z.k1 fun H1 I1 q1=>?_);cases d with
 |true=>exact ha pins s1 σ H1 D I1 q1
 |false=>exact hb pins s1 σ H1 D I1 q1
end
abbrev TG:=V->St->Hp->(St->Hp->Prop)->Prop
abbrev xI:=List V->St->Hp->(St->Hp->Prop)->Prop
def PG(X:Cx)(target:Expr)(t:TG):Prop:=
 ∀(pins:aH)(s:Shared)(σ:St)(H:Hp)(v:V)(u:Value)(Q:St->Hp->Prop),Inv X pins σ H s->RelV v u->t v σ H Q->
  wpAny (model X.prog X.w) X.A (assign target X.env u) (fun _ s'=>∃σ' H',Inv X pins σ' H' s'/\Q σ' H') X.xe s
def F9(X:Cx)(ts:List Expr)(t:xI):Prop:=
 ∀(pins:aH)(s:Shared)(σ:St)(H:Hp)(vs:List V)(us:List Value)(Q:St->Hp->Prop),Inv X pins σ H s->Vals vs us->t vs σ H Q->
  wpAny (model X.prog X.w) X.A (assignInOrder ((assignEach ts X.env).map (·.2)) us) (fun _ s'=>∃σ' H',Inv X pins σ' H' s'/\Q σ' H') X.xe s
abbrev Ej:=V->V->V->Hp->(Hp->Prop)->Prop
def Mj(X:Cx)(t:Ej):Prop:=
 ∀(pins:aH)(s:Shared)(σ:St)(H:Hp)(o i v:V)(ov iv u:Value)(Q:Hp->Prop),Inv X pins σ H s->RelV o ov->RelV i iv->RelV v u->t o i v H Q->
  wpAny (model X.prog X.w) X.A (setItem ov iv u) (fun _ s'=>∃H',Inv X pins σ H' s'/\Q H') X.xe s
abbrev FL:=V->V->Hp->VK->Prop
def Pt(X:Cx)(op:Operator)(t:FL):Prop:=
 ∀(pins:aH)(s:Shared)(σ:St)(H:Hp)(x y:V)(v u:Value)(Q:VK),Inv X pins σ H s->RelV x v->RelV y u->t x y H Q->
  wpAny (model X.prog X.w) X.A (inplaceOp op v u) (EP X pins σ Q) X.xe s
section
variable {X:Cx}{pos:Pos}
def gZ(i:Nat):TG:=fun v σ H Q=>Q (σ.set i (some v)) H
def sS{i:Nat}{x:Str}(hN:X.N.Nodup)(hi:X.N[i]?=some x)(hx:Loc X.env.scope x)(hf:X.fn x=true\/X.env.scope.names.lookup x=some .local:=by first|exact .inl rfl|exact .inr rfl|assumption):PG X (.Name x pos) (gZ i):=by intro pins s σ H v u Q I r h;exact wpAny_assign_Name (kz I hN hi hx r (fun s' I'=>⟨_,H,I',h⟩) hf)
noncomputable def DH:xI:=fun vs σ H Q=>vs=[]/\Q σ H
noncomputable def pX(t:TG)(u:xI):xI:=fun vs σ H Q=>∃v r,vs=v::r/\t v σ H fun σ' H'=>u r σ' H' Q
def sZ:F9 X [] DH:=by intro pins s σ H vs us Q I r h;obtain⟨e,h⟩:=h;subst e;cases r;exact assignInOrder_nil ⟨σ,H,I,h⟩
def hF{e:Expr}{es:List Expr}{t:TG}{u:xI}(h1:PG X e t)(h2:F9 X es u)
  (hs:(assignEach (e::es) X.env).map (·.2)=assign e X.env::(assignEach es X.env).map (·.2):=by rfl):F9 X (e::es) (pX t u):=by
 intro pins s σ H vs us Q I r h;obtain⟨v,vr,e1,h⟩:=h;subst e1;cases r with
 |cons r rr=>
  rw[hs];refine assignInOrder_cons (aB (h1 pins s σ H _ _ _ I r h) fun _ s1 Z=>Z.g fun σ1 Z=>Z.k1 fun H1 I1 q1=>?_);exact h2 pins s1 σ1 H1 _ _ Q I1 rr q1
noncomputable def E4(K:W.Frag)(n:Nat)(t:xI):TG:=fun v σ H Q=>∃a xs,v=.ref a/\dC K H a xs/\xs.length=n/\t xs σ H Q
def vH{es:List Expr}{k:Nat}{t:xI}{n:Nat}(hc:X.calm=true)(h:F9 X es t)
  (hn:(assignEach es X.env).length=n:=by rfl) (bH:(assignEach es X.env).findIdx? (·.1)=none:=by rfl):PG X (.Tuple es k pos) (E4 X.K n t):=by
 intro pins s σ H v u Q I r hw;obtain⟨a,xs,e1,hq,hl,hw⟩:=hw;subst e1;cases r;obtain⟨its,rv,ht,hz⟩:=I.tuple hq;refine assign_Tuple_tuple (I.ok.hd hc) ht (by simp[hn,<-hl,rv.length]) bH fun h' hx=>?_;have I1:Inv X pins σ H {s with heap:=h'}:=I.kept (t':=s.toks) fun b o e=>hx b o (dw (bJ e)) e;exact h pins _ σ H xs _ Q I1 (by simpa using rv) hw
noncomputable def Rw(to ti:TE)(t:Ej):TG:=fun v σ H Q=>to σ H fun o H1=>ti σ H1 fun i H2=>t o i v H2 fun H3=>Q σ H3
def LI{o i:Expr}{to ti:TE}{t:Ej}(ho:PE X o to)(hi:PE X i ti)(hs:Mj X t)
  (ha:∀v,assign (.Subscript o i pos) X.env v=(do
   let ov <-holding [v] (eval o X.env)
   let iv <-holding [v,ov] (eval i X.env)
   standAt pos
   holding [v,ov,iv] (setItem ov iv v)
   release [v,ov,iv] []):=by intro _;rfl):PG X (.Subscript o i pos) (Rw to ti t):=by
 intro pins s σ H v u Q I r h;rw[ha];refine ag (jU (aB (ho pins s σ H _ I h) fun ov s1 Z=>Z.k2 fun x H1 I1 r1 q1=>?_));refine ag (jU (aB (hi pins s1 σ H1 _ I1 q1) fun iv s2 Z=>Z.k2 fun y H2 I2 r2 q2=>?_));refine ag (rm (ag (jU (aB (hs pins s2 σ H2 x y v ov iv u _ I2 r1 r2 r q2) fun _ s3 Z=>Z.k1 fun H3 I3 q3=>?_))));exact wpAny_release ⟨σ,H3,I3,q3⟩
noncomputable def MC(te:TE)(g:TG):TS:=fun D σ H=>te σ H fun x H1=>g x σ H1 D.nx
def xk{tg e:Expr}{te:TE}{g:TG}(he:PE X e te)(hg:PG X tg g)(hs:swapsWithSole [tg] e pos.line X.env=pure false:=by rfl)(hw:swappedStores [tg] e X.env=pure none:=by rfl)
  (h1:(assignEach [tg] X.env).map (·.2)=[assign tg X.env]:=by rfl):PS X (.Assign [tg] e pos) (MC te g):=by
 intro pins s σ H D I h;refine wpAny_Assign_stores (aB (he pins s σ H _ I h) fun v s1 Z=>Z.k2 fun x H1 I1 r1 q1=>?_) hs hw;rw[h1];exact aB (hg pins s1 σ H1 x v _ I1 r1 q1) fun _ s2 q=>q
def KW{i:Nat}{x:Str}{e:Expr}{te:TE}{pos':Pos}(hN:X.N.Nodup)(hi:X.N[i]?=some x)(hx:Loc X.env.scope x)(he:PE X e te)(hs:swapsWith e (some (.Name x pos')) pos.line X.env=pure false:=by rfl)(hf:X.fn x=true\/X.env.scope.names.lookup x=some .local:=by first|exact .inl rfl|exact .inr rfl|assumption):
  PS X (.Assign [.Name x pos'] e pos) (MC te (gZ i)):=by
 intro pins s σ H D I h;refine wpAny_Assign_Name (aB (he pins s σ H _ I h) fun v s1 Z=>Z.k2 fun y H1 I1 r1 q1=>?_) hs;exact kz I1 hN hi hx r1 (fun s2 I2=>⟨_,H1,I2,q1⟩) hf
noncomputable def Rp(i:Nat)(te:TE)(ti:FL):TS:=fun D σ H=>∃x,σ[i]?=some (some x)/\te σ H fun y H1=>ti x y H1 fun z H2=>D.nx (σ.set i (some z)) H2
def KL{i:Nat}{x:Str}{e:Expr}{te:TE}{op:Operator}{ti:FL}{pos':Pos}(hN:X.N.Nodup)(hi:X.N[i]?=some x)(hx:Loc X.env.scope x)(he:PE X e te)(ho:Pt X op ti)(hf:X.fn x=true\/X.env.scope.names.lookup x=some .local:=by first|exact .inl rfl|exact .inr rfl|assumption):
  PS X (.AugAssign (.Name x pos') op e pos) (Rp i te ti):=by
 intro pins s σ H D I h;obtain⟨v,e1,h⟩:=h;obtain⟨m,hn,hl⟩:=I.loc;have lR:oE X.env.scope x:=by rcases hx with k|k;exact .inl k;exact .inr (.inl k)
 obtain⟨u,r,l⟩:=hl i x v hi e1 lR;refine wpAny_AugAssign_Name ?_;have go:wpAny (model X.prog X.w) X.A (eval e X.env) (fun w s₂=>wpAny (model X.prog X.w) X.A (inplaceOp op u w) (fun r s₃=>wpAny (model X.prog X.w) X.A (storeName X.env x r) (fun _=>SP X pins D .next) X.xe s₃) X.xe s₂) X.xe s:=by refine aB (he pins s σ H _ I h) fun w s1 Z=>Z.k2 fun y H1 I1 r1 q1=>?_;refine aB (ho pins s1 σ H1 v y u w _ I1 r r1 q1) fun z s2 Z=>Z.k2 fun zv H2 I2 r2 q2=>?_;exact kz I2 hN hi hx r2 (fun s3 I3=>⟨_,H2,I3,q2⟩) hf
 rcases l with ⟨hk,hm⟩|⟨hk,c,hc,hcell⟩
 .exact wpAny_loadName_local I.ok.kind hk hn hm go
 .rcases hk with hk|hk
  .exact wpAny_loadName_cell I.ok.kind hk hc hcell go
  .rcases hx with k|k
   .have:X.env.scope.names.lookup x=some .free:=hk;rw[k] at this;cases this
   .have:X.env.scope.names.lookup x=some .free:=hk;rw[k] at this;cases this
noncomputable def Tp(f:Int->Int->Int):FL:=fun x y H Q=>∃i j,x=.int i/\y=.int j/\Q (.int (f i j)) H
def KY:Pt X .Add (Tp fun i j=>i+j):=by intro pins s σ H x y v u Q I r1 r2 h;obtain⟨i,j,e1,e2,q⟩:=h;subst e1;subst e2;obtain⟨t,rfl⟩:=r1;obtain⟨t',rfl⟩:=r2;exact iadd_int ⟨.int _,H,I.tok _,⟨_,rfl⟩,q⟩
end
section
variable {X:Cx}{pos:Pos}
def LH(c:TT)(tb:TS):TS:=fun D σ H=>∃W:Nat->St->Hp->Prop,(∃m,W m σ H)/\∀m σ H,W m σ H->
 c σ H fun b H1=>if b=true then ∃N:St->Hp->Prop,(∀σ' H',N σ' H'->∃m',m'<m/\W m' σ' H')/\tb {D with nx:=N,ct:=N,bk:=D.nx} σ H1 else D.nx σ H1
def ED{c:Expr}{body:List Stmt}{tc:TT}{tb:TS}(hp:PassesOwn (model X.prog X.w) X.A X.env X.xe)(hc:PT X c tc)(hb:dS X body tb):PS X (.While c body [] pos) (LH tc tb):=by
 intro pins s σ H D I h;obtain⟨W,⟨m0,w0⟩,turn⟩:=h;refine wpAny_While (codeAny_whileLoop (fun n s'=>∃σ' H',Inv X pins σ' H' s'/\W n σ' H') ?_ m0 ⟨σ,H,I,w0⟩)
 rintro n s1 ⟨σ1,H1,I1,w1⟩
 refine mR hp (aB (hc pins s1 σ1 H1 _ I1 (turn n σ1 H1 w1)) fun b s2 Z=>Z.k1 fun H2 I2 q2=>?_);cases b with
 |true=>
  obtain⟨N,hN,q2⟩:=q2;rw[if_pos rfl];refine mR hp (aB (hb pins s2 σ1 H2 _ I2 q2) fun f s3 q3=>?_);cases f with
  |next=>
   obtain⟨σ3,H3,I3,n3⟩:=q3;obtain⟨m',hm,w3⟩:=hN σ3 H3 n3;exact⟨m',hm,σ3,H3,I3,w3⟩
  |cont=>
   obtain⟨σ3,H3,I3,n3⟩:=q3;obtain⟨m',hm,w3⟩:=hN σ3 H3 n3;exact⟨m',hm,σ3,H3,I3,w3⟩
  |brk=>exact q3
  |ret v=>exact q3
 |false=>
  rw[if_neg kx];exact qi ⟨σ1,H2,I2,q2⟩
end
structure It where
 go:Nat->Hp->Prop
 FW:Nat->Hp->V->Hp->Prop
 stop:Nat->Hp->Prop
def gO(X:Cx)(pins:aH)(H:Hp)(b:Addr):Prop:=
 H b=none/\b≠X.env.locals/\b∉X.fs/\(b∈X.ex\/X.aL.heap.objs.size<=b)/\(∀x c,X.env.cells.lookup x=some c->c≠b)/\∀p∈X.pn++pins,p.1≠b
def Inv.xY{X:Cx}{pins:aH}{σ:St}{H H':Hp}{s:Shared}{b:Addr}(I:Inv X pins σ H s)(hb:s.heap.objs.size<=b)(hn:H' b=none):gO X pins H' b:=by
 refine⟨hn,pd (bY I.lt hb),I.Mg hb,.inr (aF I.sz hb),fun x c e z=>?_,fun p hp z=>?_⟩
 .obtain⟨v,q⟩:=I.cell x c e;exact absurd (bY q.lt (by rw[z];exact hb)) (qP _)
 .exact absurd (bY (bJ (I.pin p hp).1) (by rw[z];exact hb)) (qP _)
structure Turn(P:Program)(w:World)(K:W.Frag)(tg:Expr)(J:It)(fp:List Addr)(it:Addr)(tn:Nat->Heap->Prop):Prop where
 mem:it∈fp
 obj:∀i h,tn i h->∀b∈fp,∃o,h.get? b=some o/\∀v,o.data≠.cell v
 keep:∀i h h',tn i h->(∀b∈fp,∀o,h.get? b=some o->h'.get? b=some o)->tn i h'
 item:∀(X:Cx),X.prog=P->X.w=w->X.K=K->X.calm=true->∀(i:Nat)(pins:aH)(s:Shared)(σ:St)(H:Hp)(E:aY),Inv X pins σ H s->(∀b∈fp,gO X pins H b)->tn i s.heap->J.go i H->
  wpAny (model P w) X.A (pyNext (.ref it)) (fun r s1=>∃u,r=some u/\
   wpAny (model P w) X.A (letOwnedTupleGo tg (.ref it) u) (fun _ s2=>∃x H',Inv X pins σ H' s2/\RelV x u/\J.FW i H x H'/\tn (i+1) s2.heap/\∀b∈fp,H' b=none) E s1) E s
 done:∀(X:Cx),X.prog=P->X.w=w->X.K=K->X.calm=true->∀(i:Nat)(pins:aH)(s:Shared)(σ:St)(H:Hp)(E:aY),Inv X pins σ H s->(∀b∈fp,gO X pins H b)->tn i s.heap->J.stop i H->
  wpAny (model P w) X.A (pyNext (.ref it)) (fun r s1=>r=none/\Inv X pins σ H s1) E s
 self:∀(A:Around)(i:Nat)(s:Shared)(Q:aY)(E:aY),tn i s.heap->Q (.ref it) s->wpAny (model P w) A (pyIter (.ref it)) Q E s
abbrev TI:=St->Hp->(It->Hp->Prop)->Prop
def O1(X:Cx)(pins:aH)(σ:St)(tg:Expr)(R:It->Hp->Prop)(itv:Value)(s2:Shared):Prop:=
 ∃(it:Addr) (fp:List Addr) (tn:Nat->Heap->Prop) (J:It) (H':Hp),itv=.ref it/\Inv X pins σ H' s2/\Turn X.prog X.w X.K tg J fp it tn/\tn 0 s2.heap/\(∀b∈fp,gO X pins H' b)/\R J H'
def PI(X:Cx)(tg iter:Expr)(wi:TI):Prop:=
 ∀(pins:aH)(s:Shared)(σ:St)(H:Hp)(R:It->Hp->Prop),Inv X pins σ H s->wi σ H R->
  wpAny (model X.prog X.w) X.A (eval iter X.env) (fun v s1=>wpAny (model X.prog X.w) X.A (pyIter v) (O1 X pins σ tg R) X.xe s1) X.xe s
def rG{M:Model}{A:Around}{E:aY}{s:Shared}{tg:Expr}{it:Addr}{u:Value}{o:Obj}{n:String}{vs:Array Value}{Q:Unit->Shared->Prop}(ho:s.heap.get? it=some o)(hc:o.cls=.type n)(hd:o.data=.fields vs)
  (hn: ["enumerate","zip","dict_itemiterator","dict_reverseitemiterator","odict_iterator","itertools.zip_longest","itertools.pairwise"].contains n=false) (hQ:Q () s):wpAny M A (letOwnedTupleGo tg (.ref it) u) Q E s:=by
 unfold letOwnedTupleGo;cases tg<;>first
  |exact aG hQ
  |(cases u<;>first
    |exact aG hQ
    |(refine ag (wpAny_load ho ?_)
      rw[hc,hd];show wpAny M A (if (["enumerate","zip","dict_itemiterator","dict_reverseitemiterator","odict_iterator","itertools.zip_longest","itertools.pairwise"].contains n&&vs[0]?== some (rawInt _))=true then _ else _) Q E s;rw[if_neg (by intro h;rw[hn,Bool.false_and] at h;cases h)];exact aG hQ))
def L5(K:W.Frag)(a:Addr):It:=
 ⟨fun i H=>∃xs x,cq K H a xs/\xs[i]?=some x,fun i H x H'=>H'=H/\∀xs,cq K H a xs->xs[i]?=some x,fun i H=>∃xs,cq K H a xs/\xs.length<=i⟩
def Lv(K:W.Frag)(a:Addr):It:=
 ⟨fun i H=>∃xs x,dC K H a xs/\xs[i]?=some x,fun i H x H'=>H'=H/\∀xs,dC K H a xs->xs[i]?=some x,fun i H=>∃xs,dC K H a xs/\xs.length<=i⟩
noncomputable def CU(lo:Int)(n:Nat):It:=⟨fun i _=>i<n,fun i H x H'=>H'=H/\x=.int (lo+i),fun i _=>n<=i⟩
def BR{P:Program}{w:World}{K:W.Frag}{tg:Expr}(a it:Addr):Turn P w K tg (L5 K a) [it] it (fun i h=>h.IsListIter it a i) where
 mem:=by simp
 obj:=fun i h st b hb=>by
  have e:b=it:=by simpa using hb
  subst e;obtain⟨o,e,c,d⟩:=st;exact⟨o,e,fun v z=>by rw[d] at z;cases z⟩
 keep:=fun i h h' st k=>st.at fun o e=>k it (by simp) o e
 item:=by intro X hP hw hK hc i pins s σ H E I hf st hg;subst hP hw hK;obtain⟨xs,x,hq,hx⟩:=hg;obtain⟨its,rv,p,hz⟩:=I.list hq;obtain⟨u,hu,ru⟩:=rv.get hx;obtain⟨f0,f1,f2,f3,f4,f5⟩:=hf it (by simp);refine wpAny_pyNext_list_item st p.isList (x:=u) (by simpa using hu) fun h' st' sb=>?_;have I1:Inv X pins σ H {s with heap:=h'}:=I.turned (t':=s.toks) (fun b o hb e=>(sb.2 b hb).trans e) f0 f1 f3 f4 f5;obtain⟨o,e,c,d⟩:=id st';exact⟨u,rfl,rG (s:={s with heap:=h'}) e c d (by decide) ⟨x,H,I1,ru,⟨rfl,fun ys hy=>by rw[I.xE hy hq];exact hx⟩,st',fun b hb=>(hf b hb).1⟩⟩
 done:=by intro X hP hw hK hc i pins s σ H E I hf st hg;subst hP hw hK;obtain⟨xs,hq,hx⟩:=hg;obtain⟨its,rv,p,hz⟩:=I.list hq;obtain⟨f0,f1,f2,f3,f4,f5⟩:=hf it (by simp);have hl:=rv.length;exact wpAny_pyNext_list_end (I.ok.hd hc) st p.isList (by simp;lia) fun h' eb=>⟨rfl,I.turned (t':=s.toks) (fun b o hb e=>eb b o hb e) f0 f1 f3 f4 f5⟩
 self:=fun _ _ _ _ _ st h=>wpAny_pyIter_listiter st h
def Bk{P:Program}{w:World}{K:W.Frag}{tg:Expr}(a it:Addr):Turn P w K tg (Lv K a) [it] it (fun i h=>h.IsTupleIter it a i) where
 mem:=by simp
 obj:=fun i h st b hb=>by
  have e:b=it:=by simpa using hb
  subst e;obtain⟨o,e,c,d⟩:=st;exact⟨o,e,fun v z=>by rw[d] at z;cases z⟩
 keep:=fun i h h' st k=>st.at fun o e=>k it (by simp) o e
 item:=by intro X hP hw hK hc i pins s σ H E I hf st hg;subst hP hw hK;obtain⟨xs,x,hq,hx⟩:=hg;obtain⟨its,rv,p,hz⟩:=I.tuple hq;obtain⟨u,hu,ru⟩:=rv.get hx;obtain⟨f0,f1,f2,f3,f4,f5⟩:=hf it (by simp);refine wpAny_pyNext_tuple_item st (show s.heap.IsTuple a its.toArray from p) (x:=u) (by simpa using hu) fun h' st' sb=>?_;have I1:Inv X pins σ H {s with heap:=h'}:=I.turned (t':=s.toks) (fun b o hb e=>(sb.2 b hb).trans e) f0 f1 f3 f4 f5;obtain⟨o,e,c,d⟩:=id st';exact⟨u,rfl,rG (s:={s with heap:=h'}) e c d (by decide) ⟨x,H,I1,ru,⟨rfl,fun ys hy=>by rw[I.uq hy hq];exact hx⟩,st',fun b hb=>(hf b hb).1⟩⟩
 done:=by intro X hP hw hK hc i pins s σ H E I hf st hg;subst hP hw hK;obtain⟨xs,hq,hx⟩:=hg;obtain⟨its,rv,p,hz⟩:=I.tuple hq;obtain⟨f0,f1,f2,f3,f4,f5⟩:=hf it (by simp);have hl:=rv.length;exact wpAny_pyNext_tuple_end (I.ok.hd hc) st (show s.heap.IsTuple a its.toArray from p) (by simp;lia) fun h' eb=>⟨rfl,I.turned (t':=s.toks) (fun b o hb e=>eb b o hb e) f0 f1 f3 f4 f5⟩
 self:=fun _ _ _ _ _ st h=>wpAny_pyIter_tupleiter st h
def BA{P:Program}{w:World}{K:W.Frag}{tg:Expr}(it:Addr)(lo:Int)(n:Nat):Turn P w K tg (CU lo n) [it] it (fun i h=>IsRangeIter h it (lo+(i:Nat) * 1) ((n:Int)-(i:Nat)) 1) where
 mem:=by simp
 obj:=fun i h st b hb=>by
  have e:b=it:=by simpa using hb
  subst e;exact⟨_,st,fun v z=>by
   have z':Data.fields _=Data.cell v:=z;cases z'⟩
 keep:=fun i h h' st k=>k it (by simp) _ st
 item:=by intro X hP hw hK hc i pins s σ H E I hf st hg;subst hP hw hK;obtain⟨f0,f1,f2,f3,f4,f5⟩:=hf it (by simp);have W:=Walks.range (prog:=X.prog) (w:=X.w) (I.ok.hd hc) it lo 1 n;refine W.item i s _ _ hg st fun v h' tk hv st' kk=>?_;obtain⟨t,rfl⟩:=hv;have I1:Inv X pins σ H {s with heap:=h',toks:=tk}:=I.turned (fun b o hb e=>kk b o (by simpa using hb) e) f0 f1 f3 f4 f5;refine⟨_,rfl,rG (s:={s with heap:=h',toks:=tk}) (n:="range_iterator") st' rfl rfl (by decide) ⟨.int (lo+i),H,I1,⟨t,?_⟩,⟨rfl,rfl⟩,st',fun b hb=>(hf b hb).1⟩⟩;rw[Int.mul_one]
 done:=by intro X hP hw hK hc i pins s σ H E I hf st hg;subst hP hw hK;obtain⟨f0,f1,f2,f3,f4,f5⟩:=hf it (by simp);exact wpAny_pyNext_range_end (I.ok.hd hc) st (by have:n<=i:=hg;lia) fun h' eb=>⟨rfl,I.turned (t':=s.toks) (fun b o hb e=>eb b o hb e) f0 f1 f3 f4 f5⟩
 self:=fun _ _ _ _ _ st h=>wpAny_pyIter_rangeiter st h
section
variable {X:Cx}{tg:Expr}
noncomputable def Nr(K:W.Frag)(tl:TE):TI:=fun σ H R=>tl σ H fun x H1=>∃a,x=.ref a/\(∃xs,cq K H1 a xs)/\R (L5 K a) H1
noncomputable def Ql(K:W.Frag)(tl:TE):TI:=fun σ H R=>tl σ H fun x H1=>∃a,x=.ref a/\(∃xs,dC K H1 a xs)/\R (Lv K a) H1
def HX{l:Expr}{tl:TE}(hl:PE X l tl):PI X tg l (Nr X.K tl):=by
 intro pins s σ H R I h;refine aB (hl pins s σ H _ I h) fun v s1 Z=>Z.k2 fun x H1 I1 r1 q1=>?_;obtain⟨a,e,⟨xs,hq⟩,q⟩:=q1;subst e;cases r1;obtain⟨its,rv,p,hz⟩:=I1.list hq;refine wpAny_pyIter_list p.isList ?_;refine⟨s1.heap.objs.size,[s1.heap.objs.size],_,_,H1,rfl,I1.kept (t':=s1.toks) fun b o e=>bZ _ e,BR a _,⟨_,gi _ rfl,rfl,rfl⟩,fun b hb=>?_,q⟩;have e:b=s1.heap.objs.size:=by simpa using hb
 subst e;exact I1.xY (aA _) (I1.av.fresh (aA _))
def MA{l:Expr}{tl:TE}(hl:PE X l tl):PI X tg l (Ql X.K tl):=by
 intro pins s σ H R I h;refine aB (hl pins s σ H _ I h) fun v s1 Z=>Z.k2 fun x H1 I1 r1 q1=>?_;obtain⟨a,e,⟨xs,hq⟩,q⟩:=q1;subst e;cases r1;obtain⟨its,rv,p,hz⟩:=I1.tuple hq;refine wpAny_pyIter_tuple (show s1.heap.IsTuple a its.toArray from p) ?_;refine⟨s1.heap.objs.size,[s1.heap.objs.size],_,_,H1,rfl,I1.kept (t':=s1.toks) fun b o e=>bZ _ e,Bk a _,⟨_,gi _ rfl,rfl,rfl⟩,fun b hb=>?_,q⟩;have e:b=s1.heap.objs.size:=by simpa using hb
 subst e;exact I1.xY (aA _) (I1.av.fresh (aA _))
def xr{pins:aH}{σ:St}{H:Hp}{s:Shared}{R:It->Hp->Prop}{E:aY}{lo hi:Int}{t u v:Tok}{tk:Nat}(I:Inv X pins σ H s)(h1: -(2 ^ 62)<=lo)(h2:lo<2 ^ 62)(h3: -(2 ^ 62)<=hi)(h4:hi<2 ^ 62)
  (q:R (CU lo (hi-lo).toNat) H):wpAny (model X.prog X.w) X.A (pyIter (.ref s.heap.objs.size)) (O1 X pins σ tg R) E {s with heap:=s.heap.push {cls:=.type "range",data:=.fields #[.int lo t,.int hi u,.int 1 v]},toks:=tk}:=by
 refine wpAny_pyIter_range (IsRange.new ..) (small_one h1 h2 h3 h4) ?_;have I1:Inv X pins σ H {s with heap:=s.heap.push {cls:=.type "range",data:=.fields #[.int lo t,.int hi u,.int 1 v]},toks:=tk}:=I.kept fun b o e=>bZ _ e;refine⟨(s.heap.push {cls:=.type "range",data:=.fields #[.int lo t,.int hi u,.int 1 v]}).objs.size,[(s.heap.push {cls:=.type "range",data:=.fields #[.int lo t,.int hi u,.int 1 v]}).objs.size],_,_,H,rfl,
  I1.kept (t':=tk) fun b o e=>bZ _ e,BA _ lo (hi-lo).toNat,?_,fun b hb=>?_,q⟩
 .have e1:lo+((0:Nat):Int) * 1=lo:=by simp
  have e2:(((hi-lo).toNat:Nat):Int)-((0:Nat):Int)=Builtin.Range.rangeSize lo hi 1:=by rw[rangeSize_one];split<;>lia
  show IsRangeIter _ _ (lo+((0:Nat):Int) * 1) ((((hi-lo).toNat:Nat):Int)-((0:Nat):Int)) 1;rw[e1,e2];exact gi _ rfl
 .have e:b=(s.heap.push {cls:=.type "range",data:=.fields #[.int lo t,.int hi u,.int 1 v]}).objs.size:=by simpa using hb
  subst e;exact I1.xY (aA _) (I1.av.fresh (aA _))
def Ob(ta:TA):TI:=fun σ H R=>ta σ H fun vs H1=>∃j:Int,vs=[.int j]/\ -(2 ^ 62)<=j/\j<2 ^ 62/\R (CU 0 j.toNat) H1
def OC(ta:TA):TI:=fun σ H R=>ta σ H fun vs H1=>∃i j:Int,vs=[.int i,.int j]/\(-(2 ^ 62)<=i/\i<2 ^ 62/\ -(2 ^ 62)<=j/\j<2 ^ 62)/\R (CU i (j-i).toNat) H1
def C6{a:Expr}{ta:TA}{p pos:Pos}(hg:Gl X "range")(hm:X.mg "range"=none)(ha:PA X [a] ta)(hs:starEach [a] X.env=[(false,eval a X.env)]:=by rfl):PI X tg (.Call (.Name "range" p) [a] [] pos) (Ob ta):=by
 intro pins s σ H R I h;refine Call_ (mJ I hg hm boot_range (u0 (aB (ha pos pins s σ H _ I h) fun us s1 Z=>Z.k2 fun vs H1 I1 r1 q1=>?_) hs rfl));obtain⟨j,e,q1,q2,q⟩:=q1;subst e;cases r1 with
 |cons r rr=>
  cases rr;obtain⟨t,rfl⟩:=r;exact call_range_1 (xr I1 (by lia) (by lia) q1 q2 (by simpa using q))
def Dn{a b:Expr}{ta:TA}{p pos:Pos}(hg:Gl X "range")(hm:X.mg "range"=none)(ha:PA X [a,b] ta)(hs:starEach [a,b] X.env=[(false,eval a X.env),(false,eval b X.env)]:=by rfl)(hs2:starEach [b] X.env=[(false,eval b X.env)]:=by rfl):
  PI X tg (.Call (.Name "range" p) [a,b] [] pos) (OC ta):=by
 intro pins s σ H R I h;refine Call_ (mJ I hg hm boot_range (u0 (aB (ha pos pins s σ H _ I h) fun us s1 Z=>Z.k2 fun vs H1 I1 r1 q1=>?_) (by rw[hs,hs2]) (by rw[hs2];rfl)));obtain⟨i,j,e,⟨q1,q2,q3,q4⟩,q⟩:=q1;subst e;cases r1 with
 |cons r rr=>
  cases rr with
  |cons r' rr=>
   cases rr;obtain⟨t,rfl⟩:=r;obtain⟨t',rfl⟩:=r';exact call_range_2 (xr I1 q1 q2 q3 q4 q)
def Q3(wi:TI)(g:TG)(tb:TS):TS:=fun D σ H=>wi σ H fun J H1=>∃W:Nat->Nat->St->Hp->Prop,(∃m,W 0 m σ H1)/\∀i m σ H,W i m σ H->
 (J.stop i H/\D.nx σ H)\/(J.go i H/\∃N:St->Hp->Prop,(∀σ' H',N σ' H'->∃m',m'<m/\W (i+1) m' σ' H')/\∀x H',J.FW i H x H'->g x σ H' fun σ2 H2=>tb {D with nx:=N,ct:=N,bk:=D.nx} σ2 H2)
noncomputable def ki(fp:List Addr)(h:Heap):aH:=fp.filterMap fun b=>(h.get? b).map fun o=>(b,o)
def iQ{fp:List Addr}{h:Heap}{b:Addr}{o:Obj}(hb:b∈fp)(e:h.get? b=some o):(b,o)∈ki fp h:=List.mem_filterMap.mpr ⟨b,hb,by rw[e];rfl⟩
def B5{fp:List Addr}{h:Heap}{p:Addr×Obj}(hp:p∈ki fp h):p.1∈fp/\h.get? p.1=some p.2:=by
 obtain⟨b,hb,e⟩:=List.mem_filterMap.mp hp;cases q:h.get? b with
 |none=>rw[q] at e;cases e
 |some o=>
  rw[q] at e;have e':(b,o)=p:=kj e;subst e';exact⟨hb,q⟩
def Inv.pinned{pins:aH}{σ:St}{H:Hp}{s:Shared}{fp:List Addr}(I:Inv X pins σ H s)(hf:∀b∈fp,gO X pins H b)(ho:∀b∈fp,∃o,s.heap.get? b=some o/\∀v,o.data≠.cell v):Inv X (pins++ki fp s.heap) σ H s:=
 I.pU fun p hp=>(qK.mp hp).elim (fun z=>I.pin p (fL _ z)) fun z=>by
  obtain⟨hb,e⟩:=B5 z;obtain⟨f0,f1,f2,_⟩:=hf p.1 hb;obtain⟨o,e',d⟩:=ho p.1 hb;rw[e] at e';cases e';exact⟨e,f0,f1,f2,d⟩
def Inv.kq{pins pl:aH}{σ:St}{H:Hp}{s:Shared}(I:Inv X (pins++pl) σ H s):Inv X pins σ H s:=I.pU fun p hp=>I.pin p (fL _ (vD _ hp))
def JG{iter:Expr}{body:List Stmt}{wi:TI}{g:TG}{tb:TS}{pos:Pos}(hp:PassesOwn (model X.prog X.w) X.A X.env X.xe)(hc:X.calm=true)(hi:PI X tg iter wi)(hg:PG X tg g)(hb:dS X body tb)
  (hs:∀x,foldedSetIterable iter X.env x=pure x:=by intro _;rfl):PS X (.For tg iter body [] pos) (Q3 wi g tb):=by
 intro pins s σ H D I h;refine wpAny_For (aB (hi pins s σ H _ I h) fun v s1 h1=>aB h1 fun itv s2 h2=>?_) hs;obtain⟨it,fp,tn,J,H2,e,I2,T,st2,f2,W,⟨m0,w0⟩,turn⟩:=h2;subst e;have stat:∀{H':Hp},(∀b∈fp,H' b=none)->∀b∈fp,gO X pins H' b:=fun hn b hb=>⟨hn b hb,(f2 b hb).2⟩;refine codeAny_forLoop_any (fun n s'=>∃i σ' H',Inv X pins σ' H' s'/\tn i s'.heap/\(∀b∈fp,H' b=none)/\W i n σ' H') ?_ m0 ⟨0,σ,H2,I2,st2,fun b hb=>(f2 b hb).1,w0⟩
 rintro n s3 ⟨i,σ3,H3,I3,st3,fr3,w3⟩
 rcases turn i n σ3 H3 w3 with ⟨stop,qn⟩|⟨go,N,hN,step⟩
 .refine mR hp (aB (T.done X rfl rfl rfl hc i pins s3 σ3 H3 X.xe I3 (stat fr3) st3 stop) fun r s4 Z=>Z.g fun hr I4=>?_);subst hr;exact qi ⟨σ3,H3,I4,qn⟩
 .refine mR hp (aB (T.item X rfl rfl rfl hc i pins s3 σ3 H3 X.xe I3 (stat fr3) st3 go) fun r s4 Z=>Z.g fun u Z=>Z.g fun hr h4=>?_);subst hr;refine mR hp (aB h4 fun _ s5 Z=>Z.k2 fun x H5 I5 r5 Z=>Z.g fun y5 Z=>Z.g fun st5 fr5=>?_);have I5':=I5.pinned (stat fr5) (T.obj _ _ st5);refine mR hp (aB (hg _ s5 σ3 H5 x u _ I5' r5 (step x H5 y5)) fun _ s6 Z=>Z.g fun σ6 Z=>Z.k1 fun H6 I6 q6=>?_);refine mR hp (aB (hb _ s6 σ6 H6 _ I6 q6) fun f s7 q7=>?_);have again:∀{σ7:St}{H7:Hp},Inv X (pins++ki fp s5.heap) σ7 H7 s7->N σ7 H7->∃m,m<n/\∃i σ' H',Inv X pins σ' H' s7/\tn i s7.heap/\(∀b∈fp,H' b=none)/\W i m σ' H':=fun {σ7 H7} I7 n7=>by
   obtain⟨m',hm,w7⟩:=hN σ7 H7 n7;refine⟨m',hm,i+1,σ7,H7,I7.kq,T.keep _ _ _ st5 fun b hb o e=>(I7.pin (b,o) (fL _ (fL _ (iQ hb e)))).1,fun b hb=>?_,w7⟩;obtain⟨o,e,d⟩:=T.obj _ _ st5 b hb;exact (I7.pin (b,o) (fL _ (fL _ (iQ hb e)))).2.1
  cases f with
  |next=>obtain⟨σ7,H7,I7,n7⟩:=q7;exact again I7 n7
  |cont=>obtain⟨σ7,H7,I7,n7⟩:=q7;exact again I7 n7
  |brk=>obtain⟨σ7,H7,I7,q7⟩:=q7;exact⟨σ7,H7,I7.kq,q7⟩
  |ret v=>obtain⟨x7,σ7,H7,I7,r7,q7⟩:=q7;exact⟨x7,σ7,H7,I7.kq,r7,q7⟩
end
abbrev R2:=V->V->Hp->VK->Prop
def dz(X:Cx)(f:Value->Value->Sem Value)(r:R2):Prop:=
 ∀(pins:aH)(s:Shared)(σ:St)(H:Hp)(x y:V)(v u:Value)(Q:VK),Inv X pins σ H s->RelV x v->RelV y u->r x y H Q->
  wpAny (model X.prog X.w) X.A (f v u) (EP X pins σ Q) X.xe s
def j3(X:Cx)(f:Value)(r:List V->Hp->VK->Prop):Prop:=
 ∀(pins:aH)(s:Shared)(σ:St)(H:Hp)(xs:List V)(us:List Value)(Q:VK),Inv X pins σ H s->Vals xs us->r xs H Q->
  wpAny (model X.prog X.w) X.A (call f us) (EP X pins σ Q) X.xe s
def Q0(X:Cx)(r:V->Hp->(Bool->Hp->Prop)->Prop):Prop:=
 ∀(pins:aH)(s:Shared)(σ:St)(H:Hp)(x:V)(v:Value)(Q:Bool->Hp->Prop),Inv X pins σ H s->RelV x v->r x H Q->
  wpAny (model X.prog X.w) X.A (truthy v) (TP X pins σ Q) X.xe s
noncomputable def zu(r:R2)(ta tb:TE):TE:=fun σ H Q=>ta σ H fun x H1=>tb σ H1 fun y H2=>r x y H2 Q
noncomputable def rI(C:Int->Int->Prop)(g:Int->Int->V):R2:=fun x y H Q=>∃i j,x=.int i/\y=.int j/\C i j/\Q (g i j) H
noncomputable def qA(g:Int->Int->V):R2:=fun x y H Q=>∃i j,x=.int i/\y=.int j/\Q (g i j) H
section
variable {X:Cx}{a b c:Expr}{ta tb tc:TE}{pos:Pos}
def DW(ha:PE X a ta)(hb:PE X b tb){pins:aH}{s:Shared}{σ:St}{H:Hp}{R:V->V->Hp->Prop}(I:Inv X pins σ H s)
  (h:ta σ H fun x H1=>tb σ H1 fun y H2=>R x y H2) {Q:aY}{f:Value->Value->Sem Value}
  (hf:∀v u s2 x y H2,Inv X pins σ H2 s2->RelV x v->RelV y u->R x y H2->wpAny (model X.prog X.w) X.A (f v u) Q X.xe s2):
  wpAny (model X.prog X.w) X.A (eval a X.env) (fun v s₁=>wpAny (model X.prog X.w) X.A (eval b X.env) (fun u s₂=>wpAny (model X.prog X.w) X.A (f v u) Q X.xe s₂) X.xe s₁) X.xe s:=by
 refine aB (ha pins s σ H _ I h) fun v s1 Z=>Z.k2 fun x H1 I1 r1 q1=>?_;refine aB (hb pins s1 σ H1 _ I1 q1) fun u s2 Z=>Z.k2 fun y H2 I2 r2 q2=>?_;exact hf v u s2 x y H2 I2 r1 r2 q2
def pV{op:Operator}{r:R2}(ho:dz X (binaryOp op) r)(ha:PE X a ta)(hb:PE X b tb):PE X (.BinOp a op b pos) (zu r ta tb):=by intro pins s σ H Q I h;exact wpAny_BinOp (DW ha hb I h fun v u s2 x y H2 I2 rx ry q=>ho pins s2 σ H2 x y v u Q I2 rx ry q)
def FJ{f:Value->Value->Sem Value}{C:Int->Int->Prop}{g:Int->Int->Int}
  (rule:∀(i j:Int)(t u:Tok)(s:Shared)(Q:aY)(E:aY),C i j->Q (.int (g i j) s.toks) {s with toks:=s.toks+1}->wpAny (model X.prog X.w) X.A (f (.int i t) (.int j u)) Q E s):
  dz X f (rI C fun i j=>.int (g i j)):=by
 intro pins s σ H x y v u Q I rx ry h;obtain⟨i,j,rfl,rfl,hc,q⟩:=h;obtain⟨t,rfl⟩:=rx;obtain⟨t',rfl⟩:=ry;exact rule i j t t' s _ _ hc ⟨.int (g i j),H,I.tok _,⟨_,rfl⟩,q⟩
def LD{f:Value->Value->Sem Value}{g:Int->Int->Int}
  (rule:∀(i j:Int)(t u:Tok)(s:Shared)(Q:aY)(E:aY),Q (.int (g i j) s.toks) {s with toks:=s.toks+1}->wpAny (model X.prog X.w) X.A (f (.int i t) (.int j u)) Q E s):
  dz X f (qA fun i j=>.int (g i j)):=by
 intro pins s σ H x y v u Q I rx ry h;obtain⟨i,j,rfl,rfl,q⟩:=h;obtain⟨t,rfl⟩:=rx;obtain⟨t',rfl⟩:=ry;exact rule i j t t' s _ _ ⟨.int (g i j),H,I.tok _,⟨_,rfl⟩,q⟩
def Ba{f:Value->Value->Sem Value}{g:Int->Int->Bool}
  (rule:∀(i j:Int)(t u:Tok)(s:Shared)(Q:aY)(E:aY),Q (.bool (g i j)) s->wpAny (model X.prog X.w) X.A (f (.int i t) (.int j u)) Q E s):
  dz X f (qA fun i j=>.bl (g i j)):=by
 intro pins s σ H x y v u Q I rx ry h;obtain⟨i,j,rfl,rfl,q⟩:=h;obtain⟨t,rfl⟩:=rx;obtain⟨t',rfl⟩:=ry;exact rule i j t t' s _ _ ⟨.bl (g i j),H,I,rfl,q⟩
def R4(i j:Int):Prop:=0<j/\j<1073741824
def QC(i j:Int):Prop:=0<=j/\j<=1000000/\i.natAbs<2 ^ 64
def El(i j:Int):Prop:=(-(2 ^ 64)<i/\i<2 ^ 64)\/(-(2 ^ 64)<j/\j<2 ^ 64)
def El.ok{i j:Int}(h:El i j):IntMulOk i j:=by
 rcases h with ⟨h1,h2⟩|⟨h1,h2⟩
 .exact .of_left (intBits_le_64 h1 h2)
 .exact .of_right (intBits_le_64 h1 h2)
def IW:dz X (binaryOp .Add) (qA fun i j=>.int (i+j)):=LD fun _ _ _ _ _ _ _ q=>add_int q
def LP:dz X (binaryOp .Sub) (qA fun i j=>.int (i-j)):=LD fun _ _ _ _ _ _ _ q=>sub_int q
def K5:dz X (binaryOp .Mult) (rI El fun i j=>.int (i * j)):=FJ fun _ _ _ _ _ _ _ hc q=>mul_int q hc.ok
def Ib:dz X (binaryOp .FloorDiv) (rI R4 fun i j=>.int (i / j)):=FJ fun i j _ _ _ _ _ hc q=>by
 have h1:(0:Int)<j:=hc.1;have h2:j<1073741824:=hc.2;exact floordiv_int (by lia) (by rw[Int.fdiv_eq_ediv_of_nonneg i (by lia)];exact q) (.inl (PyProof.noPylong_small (by lia)))
def JQ:dz X (binaryOp .Mod) (rI (fun _ j=>0<j) fun i j=>.int (i % j)):=FJ fun i j _ _ _ _ _ hc q=>by
 have h1:(0:Int)<j:=hc;exact mod_int' (by lia) (by rw[Int.fmod_eq_emod_of_nonneg i (by lia)];exact q)
def J8:dz X (binaryOp .Pow) (rI QC fun i j=>.int (i ^ j.toNat)):=FJ fun _ _ _ _ _ _ _ hc q=>pow_int_small hc.1 hc.2.1 hc.2.2 q
end
section
variable {X:Cx}{a b c:Expr}{ta tb tc:TE}{pos:Pos}
def JX{pins:aH}{σ:St}{H:Hp}{s:Shared}{Q:VK}{k k':Bool}(I:Inv X pins σ H s)(q:Q (.bl k) H)(e:k=k'):EP X pins σ Q (.bool k') s:=by subst e;exact⟨.bl k,H,I,rfl,q⟩
def Oe:dz X (compareOp .Lt) (qA fun i j=>.bl (decide (i<j))):=Ba fun _ _ _ _ _ _ _ q=>lt_int q
def NR:dz X (compareOp .LtE) (qA fun i j=>.bl (decide (i<=j))):=Ba fun _ _ _ _ _ _ _ q=>le_int q
def Nl:dz X (compareOp .Gt) (qA fun i j=>.bl (decide (j<i))):=Ba fun _ _ _ _ _ _ _ q=>gt_int q
def Oj:dz X (compareOp .GtE) (qA fun i j=>.bl (decide (j<=i))):=Ba fun _ _ _ _ _ _ _ q=>ge_int q
def GU:dz X (compareOp .IsNot) (fun x y H Q=>y=.ah/\Q (.bl (!decide (x=.ah))) H):=by
 intro pins s σ H x y v u Q I rx ry h;obtain⟨rfl,q⟩:=h;cases ry;refine isnot_none_gen (JX I q ?_);cases x<;>first
  |(cases rx;rfl)
  |(obtain⟨t,rfl⟩:=rx;rfl)
def dz.or{f:Value->Value->Sem Value}{r r':R2}(h:dz X f r)(h':dz X f r'):dz X f (fun x y H Q=>r x y H Q\/r' x y H Q):=by
 intro pins s σ H x y v u Q I rx ry q;rcases q with q|q
 .exact h pins s σ H x y v u Q I rx ry q
 .exact h' pins s σ H x y v u Q I rx ry q
def TK(b:Expr){op:CmpOp}(h:op≠.In:=by decide)(h2:op≠.NotIn:=by decide):behindInMarks op b=false:=by
 have e1:(op== CmpOp.In)=false:=by cases op<;>first|rfl|exact absurd rfl h
 have e2:(op== CmpOp.NotIn)=false:=by cases op<;>first|rfl|exact absurd rfl h2
 cases b<;>simp[behindInMarks,e1,e2]
def yA{op:CmpOp}{r:R2}(ho:dz X (compareOp op) r)(ha:PE X a ta)(hb:PE X b tb)(hm:behindInMarks op b=false):PE X (.Compare a [op] [b] pos) (zu r ta tb):=by intro pins s σ H Q I h;exact wpAny_Compare1 (DW ha hb I h fun v u s2 x y H2 I2 rx ry q=>ho pins s2 σ H2 x y v u Q I2 rx ry q) hm
noncomputable def Ov(t:TE):TT:=fun σ H Q=>t σ H fun x H'=>∃k,x=.bl k/\Q k H'
def yC{op:CmpOp}{r:R2}(ho:dz X (compareOp op) r)(ha:PE X a ta)(hb:PE X b tb)(hm:behindInMarks op b=false):PT X (.Compare a [op] [b] pos) (Ov (zu r ta tb)):=by
 intro pins s σ H Q I h;refine wpAny_isTrue_Compare1 (aB (ha pins s σ H _ I h) fun v s1 Z=>Z.k2 fun x H1 I1 r1 q1=>aB (hb pins s1 σ H1 _ I1 q1) fun u s2 Z=>Z.k2 fun y H2 I2 r2 q2=>
  aB (ho pins s2 σ H2 x y v u _ I2 r1 r2 q2) fun c s3 Z=>Z.k2 fun z H3 I3 r3 Z=>Z.g fun k Z=>Z.g fun e q3=>?_) hm
 subst e;cases r3;exact vh ⟨H3,I3,q3⟩
def DM(K:W.Frag)(x:V)(H:Hp)(k:Bool):Prop:=
 match x with
 |.ah=>k=false
 |.bl b=>k=b
 |.int i=>k=(i != 0)
 |.str y=>y.length<=sizeLine/\k=((y.length:Int) != 0)
 |.byt y=>y.size<=sizeLine/\k=((y.size:Int) != 0)
 |.ref p=>(∃xs,cq K H p xs/\k=!xs.isEmpty)\/(∃xs,dC K H p xs/\k=!xs.isEmpty)\/∃kvs,H p=some (.dK kvs)/\k=!kvs.isEmpty
 |_=>False
def Aq{κ:Type}{kvs:List (κ×V)}{vs:List (κ×Value)}(r:KV kvs vs):(!vs.isEmpty)=!kvs.isEmpty:=by cases r<;>rfl
def sC{xs:List V}{its:List Value}(r:Vals xs its):(!its.toArray.isEmpty)=!xs.isEmpty:=by cases r<;>simp
def mQ:(sizeLine:Nat)<2 ^ 63:=by rw[gX];decide
def Du:Q0 X (fun x H Q=>∃k,DM X.K x H k/\Q k H):=by
 intro pins s σ H x v Q I rx h;obtain⟨k,e,q⟩:=h;have hl:=mQ;have hs:sizeLine=16777216:=gX;cases x with
 |ah=>
  cases rx;have e':k=false:=e;subst e';exact truthy_none ⟨H,I,q⟩
 |bl b=>
  cases rx;have e':k=b:=e;subst e';exact vh ⟨H,I,q⟩
 |int i=>
  obtain⟨t,rfl⟩:=rx;have e':k=(i != 0):=e;subst e';exact PySem.P.truthy_int ⟨H,I,q⟩
 |str y=>
  obtain⟨t,rfl⟩:=rx;obtain⟨hy,e'⟩:y.length<=sizeLine/\k=((y.length:Int) != 0):=e;subst e';exact PySem.P.truthy_str (by lia) ⟨H,I.tok _,q⟩
 |byt y=>
  obtain⟨t,rfl⟩:=rx;obtain⟨hy,e'⟩:y.size<=sizeLine/\k=((y.size:Int) != 0):=e;subst e';exact W.truthy_bytes (by lia) ⟨H,I.tok _,q⟩
 |ref p=>
  cases rx;have e':(∃xs,cq X.K H p xs/\k=!xs.isEmpty)\/(∃xs,dC X.K H p xs/\k=!xs.isEmpty)\/∃kvs,H p=some (.dK kvs)/\k=!kvs.isEmpty:=e;rcases e' with ⟨xs,hx,e'⟩|⟨xs,hx,e'⟩|⟨kvs,hx,e'⟩
  .subst e';obtain⟨its,r,pl,hz⟩:=I.list hx;have hlen:=r.length;exact wpAny_truthy_list pl.isList (by simp only[cP];lia) ⟨H,I.tok _,by rw[sC r];exact q⟩
  .subst e';obtain⟨its,r,pl,hz⟩:=I.tuple hx;have hlen:=r.length;exact truthy_tuple pl (by simp only[cP];lia) ⟨H,I.tok _,by rw[sC r];exact q⟩
  .subst e';obtain⟨hz,hS,vs,r,m⟩:kvs.length<=sizeLine/\(p== sysModules)=false/\∃vs,KV kvs vs/\s.heap.DictOf (tQ X.prog X.w) p vs:=I.av p _ hx;have hlen:kvs.length=vs.length:=Paired.length r;exact wpAny_truthy_dict hS m (by lia) ⟨H,I.tok _,by rw[Aq r];exact q⟩
 |_=>exact (show False from e).elim
def EB(ha:PE X a ta)(he:∀whole,isTrue a X.env whole=(do let v <-whole;standAt a.pos;holding [v] (truthy v))):
  PT X a (fun σ H Q=>ta σ H fun x H'=>∃k,DM X.K x H' k/\Q k H'):=by
 intro pins s σ H Q I h;exact isTrue_plain (aB (ha pins s σ H _ I h) fun v s1 Z=>Z.k2 fun x H1 I1 r1 q1=>Du pins s1 σ H1 x v Q I1 r1 q1) (he _)
def vals1{x:V}{us:List Value}(r:Vals [x] us):∃u,us=[u]/\RelV x u:=by
 cases r with
 |cons r1 r2=>cases r2;exact⟨_,rfl,r1⟩
def vals2{x y:V}{us:List Value}(r:Vals [x,y] us):∃u w',us=[u,w']/\RelV x u/\RelV y w':=by
 cases r with
 |cons r1 r2=>
  cases r2 with
  |cons r3 r4=>cases r4;exact⟨_,_,rfl,r1,r3⟩
def Cw:j3 X (.type "int") (fun xs H Q=>(∃i,xs=[.int i]/\Q (.int i) H)\/∃k,xs=[.bl k]/\Q (.int (if k then 1 else 0)) H):=by
 intro pins s σ H xs us Q I r h;rcases h with ⟨i,rfl,q⟩|⟨k,rfl,q⟩
 .obtain⟨u,rfl,t,rfl⟩:=vals1 r;exact call_int_int ⟨.int i,H,I,⟨_,rfl⟩,q⟩
 .obtain⟨u,rfl,r1⟩:=vals1 r;cases r1;exact call_int_bool ⟨.int (if k then 1 else 0),H,I.tok _,⟨_,rfl⟩,q⟩
end
structure qY(h:Heap)(x dx C:Addr)(mA:Str->Option Value):Prop where
 obj:h.get? x=some (W.instObj C dx)
 ns:h.Ns1 dx mA
 ne:dx≠x
def uO{h:Heap}{dx:Addr}{mA:Str->Option Value}(n:h.Ns1 dx mA):∃od,h.get? dx=some od/\∀name,W.lookIn name od=some (mA name):=by
 obtain⟨o,es,ep,ho,hd,hk,_,hm⟩:=n;refine⟨o,ho,fun name=>?_⟩;have e:=hm name;unfold nsFind findBy at e;rw[<-Array.find?_toList] at e;unfold W.lookIn;rw[hd];dsimp only;split
 .rename_i y q;rw[q] at e;exact dg some e
 .rename_i q;rw[q] at e;have a:es.toList.any (·.refKey)=false:=by
   rw[List.any_eq_false];intro y hy;obtain⟨z,t,hkey⟩:=hk y (Array.mem_toList_iff.mp hy);simp[DictEntry.refKey,hkey]
  have a':¬ es.toList.any (·.refKey)=true:=by rw[a];exact kx
  rw[if_neg a'];exact dg some e
def qY.look{h:Heap}{x dx C:Addr}{mA:Str->Option Value}(I:qY h x dx C mA):∃od,W.InstAt h x (W.instObj C dx) C (some od)/\∀name,W.lookIn name od=some (mA name):=
 let ⟨od,ho,hl⟩:=uO I.ns
 ⟨od,⟨I.obj,rfl,rfl,ho⟩,hl⟩
section
variable {prog:Program}{w:World}{A:Around}{E:aY}{s:Shared}{K:W.Frag}{x dx C f:Addr}{mA:Str->Option Value}{name:Str}{v:Value}
def get_map{expr:Bool}{Q:aY}(X:K.In s.heap)(I:qY s.heap x dx C mA)(hg:W.plainGet K C name=true)(hh:W.hasDictIn K C=true)
  (ha:W.findIn K (.ref C) name=some none) (hv:mA name=some v) (hv':W.handedIn v=true) (h:Q v {s with toks:=s.toks+1}):
  wpAny (model prog w) A (getAttr (.ref x) name expr) Q E s:=by
 obtain⟨od,J,hl⟩:=I.look;exact W.get_value X J (Ay hg).1 (W.findObj_own hh ha rfl (by rw[hl,hv])) hv' h
def DD{pl:Sem Bool}{Q:Value×List Value->Shared->Prop}(X:K.In s.heap)(I:qY s.heap x dx C mA)(hg:W.plainGet K C name=true)
  (hf:W.findIn K (.ref C) name=some (some (.ref f))) (ht:W.isFn K (.ref f)=true) (hv:mA name=none) (h:Q (.ref f,[.ref x]) s):
  wpAny (model prog w) A (getMethod (.ref x) name pl) Q E s:=by
 obtain⟨od,J,hl⟩:=I.look;exact W.method_fn X J (Ay hg).1 (Ay hg).2 hf (iK.mp ht) (by show (W.lookIn name od).map (·.isSome)=some false;rw[hl,hv];rfl) h
def HF{ns:List Str}{Q:Unit->Shared->Prop}(X:K.In s.heap)(I:qY s.heap x dx C mA)
  (hs:W.findIn K (.ref C) "__setattr__"=some (some (.builtin "object.__setattr__"))) (hp:W.plainOver K C=true) (ht:W.takerIn K C name=some none) (hh:W.hasDictIn K C=true)
  (hw:PySem.Within mA ns) (hsz:ns.length<=sizeLine)
  (h:∀h',qY h' x dx C (fun y=>if y=name then some v else mA y)->Heap.SameBut dx s.heap h'->Q () {s with heap:=h',toks:=s.toks+2}):
  wpAny (model prog w) A (setAttr (.ref x) name v) Q E s:=by
 obtain⟨od,J,hl⟩:=I.look;refine W.set_plain X J hs (W.osa_open (s:={s with toks:=s.toks+1}) (r:=none) X J hp ht fun b=>?_);obtain⟨cd,hc,hd'⟩:=W.any_some hh;have hx:s.heap.get? x=some ⟨.ref C,some dx,.plain,#[]⟩:=I.obj;refine ag (aG (ag (ag (wpAny_loadPart hx (ag (W.Looks.here (s:={s with toks:=s.toks+1}) (W.looks_clsIn X hc) ?_))))));rw[hd'];refine aG (a:=some dx) (ag (aG (ag ?_)));refine wpAny_nsSet1 (s:={s with toks:=s.toks+1}) I.ns fun h' hn2 hs2=>?_;obtain⟨oD,esD,epD,hoD,hdD,hcD⟩:=hn2.count (PySem.Within.cons name v hw);refine ag (wpAny_lookBehind hoD (by rw[hdD];exact pastItsLine_dict (aF hcD (by rw[gK];lia))) ?_);exact aG (h _ ⟨(hs2.2 _ (bj I.ne)).trans I.obj,hn2,I.ne⟩ hs2)
def DO{R:Result->Shared->Prop}{vs:List Value}{kw:List (Str×Value)}(X:K.In s.heap)(hm:W.makesIn K C=true)
  (hi:W.findIn K (.ref C) "__init__"=some (some (.ref f))) (hf:W.typeIn K (.ref f)=some (.type "function"))
  (h:codeAny (model prog w) (A.under (.builtin "type.__call__" ⟨.ref C::vs,kw⟩)) (.call (.ref f) ⟨.ref (s.heap.objs.size+1)::vs,kw⟩) (W.InitBack (s.heap.objs.size+1) R)
   {s with heap:=(s.heap.push W.emptyDict).push (W.instObj C s.heap.objs.size)}):
  codeAny (model prog w) A (.call (.ref C) ⟨vs,kw⟩) R s:=by
 obtain⟨hh,g,d,t,os⟩:=s;exact W.make_core (W.makes_of X hm) (uV X hi) (fun self=>W.bind_fn X self hf) (.inl rfl) h
end
def fh(f:Str)(v:V):List (Str×V)->List (Str×V)
 |[]=>[(f,v)]
 |(g,x)::r=>if g=f then (g,v)::r else (g,x)::fh f v r
theorem qz(f g:Str)(v:V):∀fs:List (Str×V),(fh f v fs).lookup g=if g=f then some v else fs.lookup g
 |[]=>by
  show List.lookup g [(f,v)]=_;by_cases h:g=f
  .have hb:(g== f)=true:=iK.mpr h;simp only[List.lookup,hb,if_pos h]
  .have hb:(g== f)=false:=j2.mpr h;simp only[List.lookup,hb,if_neg h]
 |(k,x)::r=>by
  have ih:=qz f g v r;rw[show fh f v ((k,x)::r)=(if k=f then (k,v)::r else (k,x)::fh f v r) from rfl];by_cases hk:k=f
  .rw[if_pos hk];by_cases h:g=k
   .have hb:(g== k)=true:=iK.mpr h;simp only[List.lookup,hb,if_pos (h.trans hk)]
   .have hb:(g== k)=false:=j2.mpr h;simp only[List.lookup,hb,if_neg (fun e:g=f=>h (e.trans hk.symm))]
  .rw[if_neg hk];by_cases h:g=k
   .have hb:(g== k)=true:=iK.mpr h;simp only[List.lookup,hb,if_neg (fun e:g=f=>hk (h.symm.trans e))]
   .have hb:(g== k)=false:=j2.mpr h;simp only[List.lookup,hb];exact ih
theorem oP(f:Str)(v:V):∀fs:List (Str×V),f∈(fh f v fs).map (·.1)/\∀g,g∈fs.map (·.1)->g∈(fh f v fs).map (·.1)
 |[]=>⟨by simp[fh],fun g h=>by simp at h⟩
 |(k,x)::r=>by
  obtain⟨i1,i2⟩:=oP f v r;rw[show fh f v ((k,x)::r)=(if k=f then (k,v)::r else (k,x)::fh f v r) from rfl];by_cases hk:k=f
  .rw[if_pos hk];subst hk;exact⟨by simp,fun g h=>by simpa using h⟩
  .rw[if_neg hk];refine⟨?_,fun g h=>?_⟩
   .rw[fJ];exact jc _ i1
   .rw[fJ] at h⊢;rcases fH.mp h with e|e
    .exact fH.mpr (.inl e)
    .exact jc _ (i2 g e)
theorem qx(f:Str)(v:V):∀fs:List (Str×V),(fh f v fs).length<=fs.length+1
 |[]=>by simp[fh]
 |(k,x)::r=>by
  have ih:=qx f v r;rw[show fh f v ((k,x)::r)=(if k=f then (k,v)::r else (k,x)::fh f v r) from rfl];by_cases hk:k=f
  .rw[if_pos hk,gK,gK];lia
  .rw[if_neg hk,gK,gK];lia
def lJ.some_of{v:V}{o:Option Value}(r:lJ (some v) o):∃u,o=some u/\RelV v u:=by
 cases o with
 |none=>exact (show False from r).elim
 |some u=>exact⟨u,rfl,r⟩
def lJ.none_of{o:Option Value}(r:lJ none o):o=none:=by
 cases o with
 |none=>rfl
 |some u=>exact (show False from r).elim
def Cf{v:V}{u:Value}(r:RelV v u):W.handedIn u=true:=by
 cases v with
 |ah=>cases (show u=Value.none from r);rfl
 |bl b=>cases (show u=Value.bool b from r);rfl
 |int i=>obtain⟨t,e⟩:=(show ∃t,u=Value.int i t from r);cases e;rfl
 |str x=>obtain⟨t,e⟩:=(show ∃t,u=Value.str x t from r);cases e;rfl
 |byt b=>obtain⟨t,e⟩:=(show ∃t,u=Value.bytes b t from r);cases e;rfl
 |flt b=>obtain⟨t,e⟩:=(show ∃t,u=Value.float b t from r);cases e;rfl
 |ref a=>cases (show u=Value.ref a from r);rfl
 |ty n=>cases (show u=Value.type n from r);rfl
section
variable {P:Program}{w:World}{H H':Hp}{h h':Heap}{a C dx:Addr}{fs fs':List (Str×V)}
def pY(av:dN P w H h)(e:H a=some (.ins C dx fs)):∃mA,qY h a dx C mA/\(∀f,lJ (fs.lookup f) (mA f))/\PySem.Within mA (fs.map (·.1))/\fs.length<=1000/\H dx=some (.own a):=by obtain⟨d,z,ne,ob,mA,n,r,q⟩:=(show cI P w H h a (.ins C dx fs) from av a _ e);exact⟨mA,⟨ob,n,ne⟩,r,q,z,d⟩
end
structure qB(K:W.Frag)(C:Addr):Prop where
 pg:W.plainGet K C Str.empty=true
 hd:W.hasDictIn K C=true
 po:W.plainOver K C=true
 sa:W.findIn K (.ref C) "__setattr__"=some (some (.builtin "object.__setattr__"))
def qB.get{K:W.Frag}{C:Addr}(c:qB K C)(f:Str):W.plainGet K C f=true:=c.pg
def kQ(K:W.Frag)(C:Addr)(f:Str):Prop:=W.findIn K (.ref C) f=some none
def kQ.Oq{K:W.Frag}{C:Addr}{f:Str}(n:kQ K C f):W.takerIn K C f=some none:=by unfold W.takerIn;rw[show W.findIn K (.ref C) f=some none from n];rfl
structure Meth(K:W.Frag)(C:Addr)(m:Str)(f:Addr):Prop where
 at_:W.findIn K (.ref C) m=some (some (.ref f))
 fn:W.isFn K (.ref f)=true
 kp:W.keepIn K (.ref f)=true
section
variable {X:Cx}{pins:aH}{σ:St}{H:Hp}{s:Shared}{a C dx:Addr}{fs:List (Str×V)}{f:Str}{v:V}{A:Around}{E:aY}
def Br{b:Bool}{Q:aY}(I:Inv X pins σ H s)(e:H a=some (.ins C dx fs))(c:qB X.K C)(n:kQ X.K C f)(l:fs.lookup f=some v)
  (h:∀u s',Inv X pins σ H s'->RelV v u->Q u s'):wpAny (model X.prog X.w) A (getAttr (.ref a) f b) Q E s:=by
 obtain⟨mA,O,r,_,_,_⟩:=pY I.av e;obtain⟨u,hu,ru⟩:=lJ.some_of (v:=v) (o:=mA f) (by rw[<-l];exact r f);exact get_map I.b9 O (c.get f) c.hd n hu (Cf ru) (h u _ (I.tok _) ru)
def rW{m:Str}{g:Addr}{pl:Sem Bool}{Q:Value×List Value->Shared->Prop}(I:Inv X pins σ H s)(e:H a=some (.ins C dx fs))(c:qB X.K C)(k:Meth X.K C m g)(l:fs.lookup m=none)
  (h:Q (.ref g,[.ref a]) s):wpAny (model X.prog X.w) A (getMethod (.ref a) m pl) Q E s:=by
 obtain⟨mA,O,r,_,_,_⟩:=pY I.av e;have hn:mA m=none:=lJ.none_of (by rw[<-l];exact r m);exact DD I.b9 O (c.get m) k.at_ k.fn hn h
def Ah{y:V}{u:Value}{Q:Unit->Shared->Prop}(I:Inv X pins σ H s)(e:H a=some (.ins C dx fs))(c:qB X.K C)(n:kQ X.K C f)(hl:fs.length<1000)(ry:RelV y u)
  (h:∀s',Inv X pins σ (upd H a (.ins C dx (fh f y fs))) s'->Q () s'):wpAny (model X.prog X.w) A (setAttr (.ref a) f u) Q E s:=by
 obtain⟨mA,O,r,wi,_,ho⟩:=pY I.av e;have hz:(fs.map (·.1)).length<=sizeLine:=by rw[i9,gX];lia
 refine HF I.b9 O c.sa c.po n.Oq c.hd wi hz fun h' O' sb=>h _ ?_;have hd:∃o,h'.get? dx=some o:=let ⟨o,_,_,e',_⟩:=O'.ns;⟨o,e'⟩
 refine I.write (x:=a) (e:=dx) (by rw[e];exact nB) (.inr ho) (fun b q hb z=>(sb.2 b hb).trans z) hd ?_;refine⟨by rw[aI O.ne];exact ho,?_,O.ne,O'.obj,_,O'.ns,fun g=>?_,fun g hg=>?_⟩
 .have:=qx f y fs;lia
 .show lJ ((fh f y fs).lookup g) (if g=f then some u else mA g);rw[qz];by_cases q:g=f
  .rw[if_pos q,if_pos q];exact ry
  .rw[if_neg q,if_neg q];exact r g
 .by_cases q:g=f
  .rw[q];exact (oP f y fs).1
  .refine (oP f y fs).2 g (wi g fun z=>hg ?_);show (if g=f then some u else mA g)=none;rw[if_neg q];exact z
def Inv.made(I:Inv X pins σ H s):Inv X pins σ (upd (upd H s.heap.objs.size (.own (s.heap.objs.size+1))) (s.heap.objs.size+1) (.ins C s.heap.objs.size []))
  {s with heap:=(s.heap.push W.emptyDict).push (W.instObj C s.heap.objs.size)}:=by
 have e1:(s.heap.push W.emptyDict).get? s.heap.objs.size=some W.emptyDict:=gi s.heap rfl;have e2:((s.heap.push W.emptyDict).push (W.instObj C s.heap.objs.size)).get? (s.heap.objs.size+1)=some (W.instObj C s.heap.objs.size):=by
  have:=gi (s.heap.push W.emptyDict) (o:=W.instObj C s.heap.objs.size) rfl
  rwa [tH] at this
 have e3:(s.heap.push W.emptyDict).Ns s.heap.objs.size (fun _=>none):=⟨W.emptyDict,#[],_,e1,rfl,(fun e he=>absurd he (by simp)),fun _=>rfl⟩;have I1:=I.laid (a:=s.heap.objs.size) (o:=.own (s.heap.objs.size+1)) (h':=s.heap.push W.emptyDict) (t':=s.toks) (fun b u q=>bZ _ q) (aA _) ⟨_,e1⟩;refine I1.laid (a:=s.heap.objs.size+1) (o:=.ins C s.heap.objs.size []) (t':=s.toks) (fun b u q=>bZ _ q) (Bp (tH _ _)) ?_;have ne:s.heap.objs.size≠s.heap.objs.size+1:=dw (xP _);refine⟨by rw[aI ne,bV],bw _,ne,e2,fun _=>none,(Heap.Ns1.of_empty e3).at fun o q=>bZ _ q,fun _=>nB,fun y hy=>absurd rfl hy⟩
def Ie{prog:Program}{w:World}{env:Env}{e:Expr}{f:Str}{pos:Pos}{s:Shared}{Q:aY}(hb:attributeBase e f env (eval e env)=eval e env)
  (h:wpAny (model prog w) A (eval e env) (fun o s₁=>wpAny (model prog w) A (getAttr o f true) Q E s₁) E s):wpAny (model prog w) A (eval (.Attribute e f pos) env) Q E s:=
 Attribute_any_ h (by rw[arm_eval_Attribute,hb])
end
noncomputable def Rb(K:W.Frag)(ta:TE)(f:Str):TE:=fun σ H Q=>ta σ H fun x H1=>∃a C dx fs v,x=.ref a/\H1 a=some (.ins C dx fs)/\qB K C/\kQ K C f/\fs.lookup f=some v/\Q v H1
def RG(K:W.Frag)(ta tv:TE)(f:Str):TS:=fun D σ H=>tv σ H fun y H1=>ta σ H1 fun x H2=>∃a C dx fs,x=.ref a/\H2 a=some (.ins C dx fs)/\qB K C/\kQ K C f/\fs.length<1000/\
 D.nx σ (upd H2 a (.ins C dx (fh f y fs)))
section
variable {X:Cx}{o e value:Expr}{f:Str}{pos pos' tpos:Pos}{ta tv:TE}
def KO(he:PE X e ta)(hb:attributeBase e f X.env (eval e X.env)=eval e X.env):PE X (.Attribute e f pos) (Rb X.K ta f):=by intro pins s σ H Q I h;refine Ie hb (aB (he pins s σ H _ I h) fun u s1 Z=>Z.k2 fun x H1 I1 rx Z=>Z.g fun a Z=>Z.g fun C Z=>Z.g fun dx Z=>Z.g fun fs Z=>Z.g fun v Z=>Z.g fun ex Z=>Z.g fun ea Z=>Z.g fun c Z=>Z.g fun n Z=>Z.g fun l q=>?_);subst ex;obtain rfl:u=Value.ref a:=rx;exact Br I1 ea c n l fun u' s2 I2 ru=>⟨v,H1,I2,ru,q⟩
def KU(ha:PE X o ta)(hv:PE X value tv)(hs:swapsWith value (some (.Attribute o f pos')) pos.line X.env=pure false):PS X (.Assign [.Attribute o f pos'] value pos) (RG X.K ta tv f):=by intro pins s σ H D I h;refine plainObj_wpAny_Assign_Attribute (aB (hv pins s σ H _ I h) fun u s1 Z=>Z.k2 fun y H1 I1 ry q=>aB (ha pins s1 σ H1 _ I1 q) fun ov s2 Z=>Z.k2 fun x H2 I2 rx Z=>Z.g fun a Z=>Z.g fun C Z=>Z.g fun dx Z=>Z.g fun fs Z=>Z.g fun ex Z=>Z.g fun ea Z=>Z.g fun c Z=>Z.g fun n Z=>Z.g fun l q2=>?_) hs;subst ex;obtain rfl:ov=Value.ref a:=rx;exact Ah I2 ea c n l ry fun s3 I3=>⟨σ,_,I3,q2⟩
end
section
variable {X:Cx}{pins:aH}{σ:St}{H:Hp}{s:Shared}{A:Around}{E:aY}{Q:aY}{c:Value}{b:Bool}
inductive jI(K:W.Frag)(H:Hp):V->Value->Prop where
 |ah:jI K H .ah (.type "NoneType")
 |bl (x:Bool):jI K H (.bl x) (.type "bool")
 |int (i:Int):jI K H (.int i) (.type "int")
 |str (x:Str):jI K H (.str x) (.type "str")
 |flt (x:UInt64):jI K H (.flt x) (.type "float")
 |lst {a:Addr}{xs:List V} (e:H a=some (.lst xs)):jI K H (.ref a) (.type "list")
 |aV {a:Addr}{o:Obj}{xs:List V} (e:H a=some (.aV o (.lst xs))):jI K H (.ref a) (.type "list")
 |tup {a:Addr}{xs:List V} (e:H a=some (.tup xs)):jI K H (.ref a) (.type "tuple")
 |dK {a:Addr}{kvs:List (Key×V)} (e:H a=some (.dK kvs)):jI K H (.ref a) (.type "dict")
 |dT {a:Addr}{kvs:List (List Key×V)} (e:H a=some (.dT kvs)):jI K H (.ref a) (.type "dict")
 |ins {a C dx:Addr}{fs:List (Str×V)} (e:H a=some (.ins C dx fs)) (cl:qB K C) (ha:W.findIn K (.ref C) "__class__"=some (some (.builtin "object.__class__")))
   (hn:W.specialIn K (.builtin "object.__class__") "__get__"=some (some (.builtin "getset_descriptor.__get__"))) (htk:W.takesIn K (.builtin "object.__class__")=some true)
   (hm:W.mroIn K C (.type "object")=some true):jI K H (.ref a) (.ref C)
def BL{x:V}{u t:Value}(I:Inv X pins σ H s)(rx:RelV x u)(ty:jI X.K H x t)(e:W.kitOne X.K t c=some b)(h:∀tk,Q (.bool b) {s with toks:=tk}):
  wpAny (model X.prog X.w) A (call (.builtin "isinstance") [u,c]) Q E s:=by
 cases ty with
 |ah=>cases (show u=Value.none from rx);exact gp W.kitx_none I.b9 nB e (fun z=>nomatch z) h
 |bl y=>cases (show u=Value.bool y from rx);exact gp W.kitx_bool I.b9 nB e (fun z=>nomatch z) h
 |int i=>obtain⟨t,q⟩:=(show ∃t,u=Value.int i t from rx);cases q;exact gp W.kitx_int I.b9 nB e (fun z=>nomatch z) h
 |str y=>obtain⟨t,q⟩:=(show ∃t,u=Value.str y t from rx);cases q;exact gp W.kitx_str I.b9 nB e (fun z=>nomatch z) h
 |flt y=>obtain⟨t,q⟩:=(show ∃t,u=Value.float y t from rx);cases q;exact gp W.kitx_float I.b9 nB e (fun z=>nomatch z) h
 | @lst a xs ea=>
  cases (show u=Value.ref a from rx);obtain⟨_,_,n,_,h1⟩:=(show cI X.prog X.w H s.heap a (.lst xs) from I.av a _ ea);exact gp W.kitx_list I.b9 ⟨_,h1,rfl⟩ e (fun z=>nomatch z) h
 | @aV a ob xs ea=>
  cases (show u=Value.ref a from rx);obtain⟨_,_,_,n,_,h1⟩:=(show cI X.prog X.w H s.heap a (.aV ob (.lst xs)) from I.av a _ ea);exact gp W.kitx_list I.b9 ⟨_,h1,rfl⟩ e (fun z=>nomatch z) h
 | @tup a xs ea=>
  cases (show u=Value.ref a from rx);obtain⟨_,_,_,p⟩:=(show cI X.prog X.w H s.heap a (.tup xs) from I.av a _ ea);obtain⟨o,h1,h2,_⟩:=p;exact gp W.kitx_tuple I.b9 ⟨o,h1,h2⟩ e (fun z=>nomatch z) h
 | @dK a kvs ea=>
  cases (show u=Value.ref a from rx);obtain⟨_,_,vs,_,p⟩:=(show cI X.prog X.w H s.heap a (.dK kvs) from I.av a _ ea);obtain⟨o,es,ep,h1,h2,_⟩:=p;exact gp W.kitx_dict I.b9 ⟨o,h1,h2.1⟩ e (fun z=>nomatch z) h
 | @dT a kvs ea=>
  cases (show u=Value.ref a from rx);obtain⟨_,_,xs,_,o,es,ep,h1,h2,_⟩:=(show cI X.prog X.w H s.heap a (.dT kvs) from I.av a _ ea);exact gp W.kitx_dict I.b9 ⟨o,h1,h2.1⟩ e (fun z=>nomatch z) h
 | @ins a C dx fs ea cl ha hn htk hm=>
  cases (show u=Value.ref a from rx);obtain⟨mA,O,_⟩:=pY I.av ea;obtain⟨od,J,_⟩:=O.look;exact gp (W.kitx_own (cl.get _) cl.hd ha hn htk hm) I.b9 J e (fun z=>nomatch z) h
end
structure cM(k:Nat)(A:Around):Prop where
 hd:A.handled=none
 dp:A.depth+k+5<recursionLimit
 un:A.units+4 * k+1000<cLine
def cM.deeper{k:Nat}{A:Around}(r:cM (k+1) A)(env:Env):cM k (A.deeper env):=
 ⟨r.hd,by have:=r.dp;show A.depth+1+k+5<_;lia,by have:=r.un;show A.units+3+4 * k+1000<_;lia⟩
def AB{A:Around}{C:Addr}{us:List Value}{kw:List (Str×Value)}:(A.under (.builtin "type.__call__" ⟨.ref C::us,kw⟩)).depth=A.depth+1:=by first|rfl|simp[Around.under,Code.weight,Code.isCreation,Code.isGuard,Code.isCaller,Code.frames,Code.isFrame,guardIds]
def Bc{A:Around}{C:Addr}{us:List Value}{kw:List (Str×Value)}:(A.under (.builtin "type.__call__" ⟨.ref C::us,kw⟩)).units=A.units+1:=by first|rfl|simp[Around.under,Code.cUnits,Code.frames,Code.isFrame]
def cM.make{k:Nat}{A:Around}(r:cM (k+1) A)(C:Addr)(us:List Value)(kw:List (Str×Value)):cM k (A.under (.builtin "type.__call__" ⟨.ref C::us,kw⟩)):=
 ⟨r.hd,by have:=r.dp;rw[AB];lia,by have:=r.un;rw[Bc];lia⟩
def cM.depth{k:Nat}{A:Around}(r:cM k A):A.depth<recursionLimit:=by have:=r.dp;lia
noncomputable def wI:TA:=fun _ H Q=>Q [] H
noncomputable def pE(ta:TE)(tr:TA):TA:=fun σ H Q=>ta σ H fun x H1=>tr σ H1 fun xs H2=>Q (x::xs) H2
section
variable {X:Cx}{e:Expr}{es:List Expr}{te:TE}{t:TA}{pos:Pos}
def dD:PA X [] wI:=fun _ _ _ _ H Q I h=>Calls.spliced_nil ⟨[],H,I,.nil,h⟩
def bO(ha:PE X e te)(hr:PA X es t)(hs:starEach (e::es) X.env=(false,eval e X.env)::starEach es X.env:=by rfl):PA X (e::es) (pE te t):=by intro pos pins s σ H Q I h;rw[hs];show wpAny _ _ (spliced ((false,eval e X.env)::backTo pos (starEach es X.env))) _ _ s;refine ER (aB (ha pins s σ H _ I h) fun u s1 Z=>Z.k2 fun x H1 I1 r1 q1=>?_);exact aB (hr pos pins s1 σ H1 _ I1 q1) fun us s2 Z=>Z.k2 fun xs H2 I2 r2 q2=>⟨x::xs,H2,I2,.cons r1 r2,q2⟩
def Je(t:TA):TE:=fun σ H Q=>t σ H fun xs H1=>xs.length<=sizeLine/\∀p,H1 p=none->Q (.ref p) (upd H1 p (.tup xs))
def R3(t:TA):TE:=fun σ H Q=>t σ H fun xs H1=>xs.length<=sizeLine/\∀p,H1 p=none->Q (.ref p) (upd H1 p (.lst xs))
def Cz{x1}(h:PA X es t):PE X (.Tuple es x1 pos) (Je t):=by intro pins s σ H Q I hq;refine wpAny_Tuple_spliced (aB (h pos pins s σ H _ I hq) fun us s1 Z=>Z.k2 fun xs H1 I1 r Z=>Z.g fun z q=>⟨by rw[<-r.length];exact z,?_⟩);have hf:H1 s1.heap.objs.size=none:=I1.av.fresh (aA _);refine⟨.ref s1.heap.objs.size,upd H1 s1.heap.objs.size (.tup xs),I1.laid (t':=s1.toks) (fun b u e=>bZ _ e) (aA _) ?_,rfl,q _ hf⟩;exact⟨z,us,r,⟨_,gi _ rfl,rfl,_,rfl⟩⟩
def LA(h:PA X es t):PE X (.List es pos) (R3 t):=by intro pins s σ H Q I hq;refine wpAny_List_spliced (aB (h pos pins s σ H _ I hq) fun us s1 Z=>Z.k2 fun xs H1 I1 r Z=>Z.g fun z q=>⟨by rw[<-r.length];exact z,?_⟩);have hf:H1 s1.heap.objs.size=none:=I1.av.fresh (aA _);refine⟨.ref s1.heap.objs.size,upd H1 s1.heap.objs.size (.lst xs),I1.laid (t':=s1.toks) (fun b u e=>bZ _ e) (aA _) ?_,rfl,q _ hf⟩;exact⟨z,us,0,r,gi _ rfl⟩
end
abbrev Sp:=List V->Hp->VK->XK->Prop
abbrev fP:=List Env->Hp->Shared->XK->aY
structure nk(P:Program)(w:World)(K:W.Frag)(mg:Str->Option Value)(base:Heap)(A:Around)(outer:List Env)(s:Shared)(H:Hp):Prop where
 frames:A.frames=some outer
 mod:Mod K mg base
 bs:∀b o,base.get? b=some o->s.heap.get? b=some o/\H b=none
 mG:base.objs.size<=s.heap.objs.size
 gf:s.heap.FunFrames base outer
 oq:∀b∈bu outer,H b=none
 av:dN P w H s.heap
 bare:AllBare s.gens
def CE(outer:List Env)(P:Program)(w:World)(H:Hp)(s:Shared)(Q:VK)(u:Value)(s':Shared):Prop:=
 ∃v H',s'.os=s.os/\AllBare s'.gens/\Un (bu outer) [] H H' s.heap s'.heap/\dN P w H' s'.heap/\RelV v u/\Q v H'
def CR(CX:fP)(outer:List Env)(P:Program)(w:World)(H:Hp)(s:Shared)(Q:VK)(E:XK)(r:Result)(s':Shared):Prop:=
 match r with
 |.ok (.ret u)=>CE outer P w H s Q u s'
 |.ok _=>False
 |.error e=>CX outer H s E e s'
structure bR(P:Program)(w:World)(K:W.Frag)(mg:Str->Option Value)(base:Heap)(CX:fP)(k:Nat)(f:Addr)(fd:FuncData)(ps:List Str)(sp:Sp):Prop where
 len:∀vs H Q E,sp vs H Q E->vs.length=ps.length
 run:∀(A:Around)(outer:List Env)(s:Shared)(H:Hp)(args:Args)(us:List Value)(vs:List V)(Q:VK)(E:XK),cM k A->nk P w K mg base A outer s H->BindsTo s fd args (ps.zip us)->Vals vs us->sp vs H Q E->
  codeAny (model P w) A (.call (.ref f) args) (CR CX outer P w H s Q E) s
def bR.imp{P:Program}{w:World}{K:W.Frag}{mg:Str->Option Value}{base:Heap}{CX:fP}{k:Nat}{f:Addr}{fd:FuncData}{ps:List Str}{sp sp':Sp}(F:bR P w K mg base CX k f fd ps sp)
  (h:∀vs H Q E,sp' vs H Q E->sp vs H Q E):bR P w K mg base CX k f fd ps sp':=
 ⟨fun vs H Q E q=>F.len vs H Q E (h _ _ _ _ q),fun A outer s H args us vs Q E hr he hb hv hs=>F.run A outer s H args us vs Q E hr he hb hv (h _ _ _ _ hs)⟩
def nk.make{P:Program}{w:World}{K:W.Frag}{mg:Str->Option Value}{base:Heap}{A:Around}{outer:List Env}{s:Shared}{H:Hp}(e:nk P w K mg base A outer s H)(C:Addr)(us:List Value)(kw:List (Str×Value)):
  nk P w K mg base (A.under (.builtin "type.__call__" ⟨.ref C::us,kw⟩)) outer s H:=⟨by first|exact e.frames|(simpa [Around.under,Code.envs,Code.isFrame,pushEnvs] using e.frames),e.mod,e.bs,e.mG,e.gf,e.oq,e.av,e.bare⟩
section
variable {X:Cx}{pins:aH}{σ:St}{H:Hp}{s s':Shared}
def Inv.D3(I:Inv X pins σ H s):nk X.prog X.w X.K X.mg X.base X.A X.stack s H:=
 ⟨I.ok.frames,I.ok.mod,I.bs,aF I.ok.mG I.sz,I.stack,I.jf,I.av,I.bare⟩
def Inv.after{Q:VK}{u:Value}(I:Inv X pins σ H s)(h:CE X.stack X.prog X.w H s Q u s'):EP X pins σ Q u s':=by obtain⟨v,H',os,bare,un,av,r,q⟩:=h;obtain⟨hh,g,d,t,os'⟩:=s';obtain rfl:os'=s.os:=os;exact⟨v,H',I.call (h':=hh) (g':=g) (d':=d) (t':=t) (ch:=[]) un av bare (fun b z=>absurd z (by simp)),r,q⟩
end
noncomputable def Ow(sp:Sp)(dvs:List V)(E:XK)(t:TA):TE:=fun σ H Q=>t σ H fun vs H1=>sp (vs++dvs) H1 Q E
noncomputable def GD(C:Addr)(m:Str)(sp:Sp)(dvs:List V)(E:XK)(ta:TE)(t:TA):TE:=fun σ H Q=>ta σ H fun x H1=>∃a dx fs,x=.ref a/\H1 a=some (.ins C dx fs)/\fs.lookup m=none/\
 t σ H1 fun vs H2=>sp (x::(vs++dvs)) H2 Q E
def Oo(C:Addr)(sp:Sp)(dvs:List V)(E:XK)(t:TA):TE:=fun σ H Q=>t σ H fun vs H1=>∀x dx,H1 x=none->H1 dx=none->dx≠x->
 sp (.ref x::(vs++dvs)) (upd (upd H1 dx (.own x)) x (.ins C dx [])) (fun v H2=>v=.ah/\Q (.ref x) H2) E
def Binds(K:W.Frag)(fd:FuncData)(ps:List Str)(ds:List Value):Prop:=
 ∀(s:Shared)(us:List Value),K.In s.heap->(us++ds).length=ps.length->BindsTo s fd ⟨us,[]⟩ (ps.zip (us++ds))
def Binds.all{K:W.Frag}{fd:FuncData}{ps:List Str}(h:∀us:List Value,us.length=ps.length->bindArgs fd ⟨us,[]⟩=pure (ps.zip us)):Binds K fd ps []:=fun s us _ hl=>by
 rw[fK] at hl⊢;exact .of_eq (h us hl)
def Passes(CX:fP)(X:Cx)(E:XK):Prop:=∀(pins:aH)(σ:St)(H:Hp)(s:Shared)(e:Value)(s':Shared),Inv X pins σ H s->CX X.stack H s E e s'->X.xe e s'
section
variable {X:Cx}{CX:fP}{k:Nat}{f C:Addr}{fd:FuncData}{ps:List Str}{sp:Sp}{dvs:List V}{ds:List Value}{E:XK}{x m:Str}{p pos apos:Pos}{e o:Expr}{es:List Expr}{ta:TE}{t:TA}
def rB{pins:aH}{σ:St}{H:Hp}{s:Shared}{Q:VK}{us:List Value}{vs:List V}(F:bR X.prog X.w X.K X.mg X.base CX k f fd ps sp)(hr:cM k X.A)(hb:Binds X.K fd ps ds)(hd:Vals dvs ds)(hx:Passes CX X E)
  (I:Inv X pins σ H s) (r:Vals vs us) (h:sp (vs++dvs) H Q E):wpAny (model X.prog X.w) X.A (call (.ref f) us) (EP X pins σ Q) X.xe s:=by
 have r2:Vals (vs++dvs) (us++ds):=r.append hd;have hl:(us++ds).length=ps.length:=by rw[<-r2.length];exact F.len _ _ _ _ h
 refine lq (pH (F.run X.A X.stack s H ⟨us,[]⟩ (us++ds) (vs++dvs) Q E hr I.D3 (hb s us I.b9 hl) r2 h) fun r s' hq=>?_);cases r with
 |error e=>exact hx pins σ H s e s' I hq
 |ok fl=>
  cases fl with
  |ret u=>exact I.after hq
  |next=>exact False.elim hq
  |brk=>exact False.elim hq
  |cont=>exact False.elim hq
def Ir(F:bR X.prog X.w X.K X.mg X.base CX k f fd ps sp)(hr:cM k X.A)(hg:Gl X x)(hm:X.mg x=some (.ref f))(hk:W.keepIn X.K (.ref f)=true)(hb:Binds X.K fd ps ds)(hd:Vals dvs ds)(hx:Passes CX X E)
  (ha:PA X (e::es) t) (hdb:(x== ("__debug__":Str))=false:=by decide) (he:starEach (e::es) X.env=(false,eval e X.env)::starEach es X.env:=by rfl) (hpl:(backTo pos (starEach es X.env)).any (·.1)=false:=by rfl):
  PE X (.Call (.Name x p) (e::es) [] pos) (Ow sp dvs E t):=by
 intro pins s σ H Q I h;refine lj (gu I hg hm ?_ hdb);refine qh (h₀:=X.base) I.ok.mod.rK hk (aB (ha pos pins s σ H _ I h) fun us s1 Z=>Z.k2 fun vs H1 I1 r q=>⟨I1.b9,?_⟩) he hpl;exact rB F hr hb hd hx I1 r q
def Hr{pl:Sem Bool}(he:PE X o ta)(c:qB X.K C)(hm:Meth X.K C m f)(F:bR X.prog X.w X.K X.mg X.base CX k f fd ps sp)(hr:cM k X.A)(hb:Binds X.K fd ps ds)(hd:Vals dvs ds)(hx:Passes CX X E)(ha:PA X (e::es) t)
  (bH:starEach (e::es) X.env=(false,eval e X.env)::starEach es X.env:=by rfl) (hpl:(backTo pos (starEach es X.env)).any (·.1)=false:=by rfl)
  (ht:eval (.Call (.Attribute o m apos) (e::es) [] pos) X.env=(do
   let ov <-eval o X.env
   standAt apos.atName
   let (f,first) <-holding [ov] (getMethod ov m pl)
   callWith pos f first (backTo pos (starEach (e::es) X.env)) (backToKw pos (keywordEach [] X.env))):=by rfl):
  PE X (.Call (.Attribute o m apos) (e::es) [] pos) (GD C m sp dvs E ta t):=by
 intro pins s σ H Q I h;refine W.methodCall_KW (pl:=pl) (aB (he pins s σ H _ I h) fun u s1 Z=>Z.k2 fun x H1 I1 rx Z=>Z.g fun a Z=>Z.g fun dx Z=>Z.g fun fs Z=>Z.g fun ex Z=>Z.g fun ea Z=>Z.g fun l q=>?_) ht;subst ex;obtain rfl:u=Value.ref a:=rx;refine rW I1 ea c hm l ?_;refine qh (first:=[.ref a]) (h₀:=X.base) I.ok.mod.rK hm.kp (aB (ha pos pins s1 σ H1 _ I1 q) fun us s2 Z=>Z.k2 fun vs H2 I2 r q2=>⟨I2.b9,?_⟩) bH hpl;exact rB (us:=.ref a::us) (vs:=.ref a::vs) F hr hb hd hx I2 (.cons rfl r) q2
structure Mk(K:W.Frag)(C f:Addr):Prop where
 makes:W.makesIn K C=true
 init:W.findIn K (.ref C) "__init__"=some (some (.ref f))
 fn:W.isFn K (.ref f)=true
 kp:W.keepIn K (.ref C)=true
def wU{pins:aH}{σ:St}{H:Hp}{s:Shared}{Q:VK}{us:List Value}{vs:List V}(M:Mk X.K C f)(F:bR X.prog X.w X.K X.mg X.base CX k f fd ps sp)(hr:cM (k+1) X.A)(hb:Binds X.K fd ps ds)(hd:Vals dvs ds)
  (hx:Passes CX X E) (I:Inv X pins σ H s) (r:Vals vs us)
  (h:∀x dx,H x=none->H dx=none->dx≠x->sp (.ref x::(vs++dvs)) (upd (upd H dx (.own x)) x (.ins C dx [])) (fun v H2=>v=.ah/\Q (.ref x) H2) E):
  wpAny (model X.prog X.w) X.A (call (.ref C) us) (EP X pins σ Q) X.xe s:=by
 have hq:=h (s.heap.objs.size+1) s.heap.objs.size (I.av.fresh (tX _)) (I.av.fresh (aA _)) (dw (xP _));have I2:=Inv.made (C:=C) I;have r2:Vals (V.ref (s.heap.objs.size+1)::(vs++dvs)) (Value.ref (s.heap.objs.size+1)::(us++ds)):=.cons rfl (r.append hd);have hl:(Value.ref (s.heap.objs.size+1)::us++ds).length=ps.length:=by have e:=r2.length;rw[F.len _ _ _ _ hq] at e;exact e.symm
 refine lq (DO (f:=f) I.b9 M.makes M.init (iK.mp M.fn) (pH (F.run _ X.stack _ _ ⟨Value.ref (s.heap.objs.size+1)::us,[]⟩ (Value.ref (s.heap.objs.size+1)::(us++ds)) _ _ E (hr.make C us [])
  (I2.D3.make C us []) (hb _ (Value.ref (s.heap.objs.size+1)::us) I2.b9 hl) r2 hq) fun r s' hq'=>?_))
 cases r with
 |error e=>exact hx pins σ _ _ e s' I2 hq'
 |ok fl=>
  cases fl with
  |ret u=>
   obtain⟨v,H',I3,rv,ev,q3⟩:=I2.after hq';subst ev;exact⟨rv,⟨V.ref (s.heap.objs.size+1),H',I3,rfl,q3⟩⟩
  |next=>exact False.elim hq'
  |brk=>exact False.elim hq'
  |cont=>exact False.elim hq'
def Hu(M:Mk X.K C f)(F:bR X.prog X.w X.K X.mg X.base CX k f fd ps sp)(hr:cM (k+1) X.A)(hg:Gl X x)(hm:X.mg x=some (.ref C))(hb:Binds X.K fd ps ds)(hd:Vals dvs ds)(hx:Passes CX X E)
  (ha:PA X (e::es) t) (hdb:(x== ("__debug__":Str))=false:=by decide) (he:starEach (e::es) X.env=(false,eval e X.env)::starEach es X.env:=by rfl) (hpl:(backTo pos (starEach es X.env)).any (·.1)=false:=by rfl):
  PE X (.Call (.Name x p) (e::es) [] pos) (Oo C sp dvs E t):=by
 intro pins s σ H Q I h;refine lj (gu I hg hm ?_ hdb);refine qh (h₀:=X.base) I.ok.mod.rK M.kp (aB (ha pos pins s σ H _ I h) fun us s1 Z=>Z.k2 fun vs H1 I1 r q=>⟨I1.b9,?_⟩) he hpl;exact wU M F hr hb hd hx I1 r q
end
section
variable {X:Cx}{CX:fP}{k:Nat}{f C:Addr}{fd:FuncData}{ps ks:List Str}{sp:Sp}{E:XK}{x m:Str}{p pos apos kpos:Pos}{e o:Expr}{es:List Expr}{kws:List Keyword}{te ta:TE}{t tk:TA}{nm:Option Str}
variable {g:List Value->List Value->List Value}{gV:List V->List V->List V}
end
structure pF(N P:List Str)(sc:Scope):Prop where
 kind:sc.kind=.function
 co:sc.isCoroutine=false
 gen:sc.isGenerator=false
 nd:N.Nodup
 pre:N.take P.length=P
 par:∀x∈P,sc.names.lookup x=some .local\/sc.names.lookup x=some .cell
 K4:∀y∈sc.names,y.2≠.free
theorem ur{kindOf:Str->Option NameKind}{x:Str}:∀{binds:List (Str×Value)}{m:Str->Option Value},(∀v,(x,v)∉binds)->bindL kindOf binds m x=m x
 |[],_,_=>rfl
 |(n,v)::r,m,h=>by
  unfold bindL;rw[ur fun w hw=>h w (jc _ hw)];split
  .have:x≠n:=by rintro rfl;exact h v nh
   simp[this]
  .rfl
theorem uw{kindOf:Str->Option NameKind}{x:Str}:∀{binds:List (Str×Value)}{m:Str->Option Value},(∀v,(x,v)∉binds)->bindC kindOf binds m x=m x
 |[],_,_=>rfl
 |(n,v)::r,m,h=>by
  unfold bindC;rw[uw fun w hw=>h w (jc _ hw)];split
  .rfl
  .have:x≠n:=by rintro rfl;exact h v nh
   simp[this]
theorem uB{kindOf:Str->Option NameKind}{x:Str}{v:Value}:∀{P:List Str}{vs:List Value}{i:Nat}{m:Str->Option Value},P.Nodup->P[i]?=some x->vs[i]?=some v->kindOf x=some .local->
  bindL kindOf (P.zip vs) m x=some v
 |[],_,_,_,_,h,_,_=>by simp at h
 |_::_,[],_,_,_,_,h,_=>by simp at h
 |p::P,w::vs,0,m,nd,h1,h2,hk=>by
  simp at h1 h2;subst h1;subst h2;show bindL kindOf ((p,w)::P.zip vs) m p=_;unfold bindL;rw[ur fun v hv=>(AS.mp nd).1 (Af hv).1,if_pos hk];simp
 |p::P,w::vs,i+1,m,nd,h1,h2,hk=>by
  show bindL kindOf ((p,w)::P.zip vs) m x=_;unfold bindL;exact uB (i:=i) (AS.mp nd).2 (by simpa using h1) (by simpa using h2) hk
theorem ug{kindOf:Str->Option NameKind}{x:Str}{v:Value}:∀{P:List Str}{vs:List Value}{i:Nat}{m:Str->Option Value},P.Nodup->P[i]?=some x->vs[i]?=some v->kindOf x≠some .local->
  bindC kindOf (P.zip vs) m x=some v
 |[],_,_,_,_,h,_,_=>by simp at h
 |_::_,[],_,_,_,_,h,_=>by simp at h
 |p::P,w::vs,0,m,nd,h1,h2,hk=>by
  simp at h1 h2;subst h1;subst h2;show bindC kindOf ((p,w)::P.zip vs) m p=_;unfold bindC;rw[uw fun v hv=>(AS.mp nd).1 (Af hv).1,if_neg hk];simp
 |p::P,w::vs,i+1,m,nd,h1,h2,hk=>by
  show bindC kindOf ((p,w)::P.zip vs) m x=_;unfold bindC;exact ug (i:=i) (AS.mp nd).2 (by simpa using h1) (by simpa using h2) hk
noncomputable def start(N:List Str)(vs:List V):St:=vs.map some++List.replicate (N.length-vs.length) none
def tW(CX:fP)(P:Program)(w:World)(K:W.Frag)(mg:Str->Option Value)(base:Heap)(N:List Str)(qual:Str)(scope:Scope)(f:Addr)(cd:Value)(A:Around)(outer:List Env)(s:Shared)(H:Hp)(E:XK)(cl:ff:=P7):Cx where
 cl:=cl
 prog:=P
 w:=w
 K:=K
 mg:=mg
 base:=base
 A:=A.deeper (envOfC qual scope s.heap.objs.size f cd)
 N:=N
 aL:=s
 kD:=H
 env:=envOfC qual scope s.heap.objs.size f cd
 outer:=outer
 stack:=envOfC qual scope s.heap.objs.size f cd::outer
 ex:=[]
 calm:=true
 fn:=fun _=>true
 pn:=[]
 xe:=fun e s'=>wpAny (model P w) (A.deeper (envOfC qual scope s.heap.objs.size f cd)) (leaving (envOfC qual scope s.heap.objs.size f cd) e) (fun _ s''=>CX outer H s E e s'') (fun e' s''=>CX outer H s E e' s'') s'
def vx{sc:Scope}{n:Nat}{x:Str}(h:sc.names.lookup x=some .cell):∃c,(cellsFrom n sc.names []).lookup x=some c:=by have q:=W.cellsFrom_some sc.names n [] (.inl h);exact E2.mp q
def CL{CX:fP}{P:Program}{w:World}{K:W.Frag}{mg:Str->Option Value}{base:Heap}{N ps:List Str}{qual:Str}{scope:Scope}{f:Addr}{cd:Value}{A:Around}{outer:List Env}{s s1:Shared}{H:Hp}{E:XK}{us:List Value}{vs:List V}{cl:ff}
  (S:pF N ps scope) (hd:A.handled=none) (e0:nk P w K mg base A outer s H) (hl:vs.length=ps.length) (r:Vals vs us)
  (x:InCallC s s.heap.objs.size (bindL (envOfC qual scope s.heap.objs.size f cd).kindOf (ps.zip us) fun _=>none) (cellsFrom (s.heap.objs.size+1) scope.names []) (bindC (envOfC qual scope s.heap.objs.size f cd).kindOf (ps.zip us) fun _=>none) s1):
  Inv (tW CX P w K mg base N qual scope f cd A outer s H E cl) [] (start N vs) H s1:=by
 have hpl:ps.length<=N.length:=by have:=dg List.length S.pre;rw[pv] at this;lia
 obtain⟨h1,tk,rfl,hk⟩:=x.done;have noA:∀b:Addr,b∉(tW CX P w K mg base N qual scope f cd A outer s H E cl).ex:=fun b z=>absurd (show b∈([]:List Addr) from z) (by simp);refine⟨⟨e0.mod,S.kind,rfl,rfl,aA _,fun y z c h1 h2=>?_,fun y hy=>?_,fun y c _ h=>?_,fun _=>hd,Around.frames_deeper e0.frames,.inr ⟨rfl,rfl⟩,fun b z=>absurd z (noA b),e0.bs,e0.mG,fun b _ _=>noA b,fun b z=>absurd z (noA b),e0.gf,e0.oq⟩,
  rfl,e0.bare,Un.kept hk,⟨_,x.toInCall.ns,fun i y v h1 h2 h3=>?_⟩,fun y c h=>⟨_,x.cell y c h⟩,e0.av.fresh (aA _),fun y c h=>?_,fun p hp=>absurd (show p∈([]:aH) from hp) (by simp),e0.av.kept hk,?_⟩
 .exact name_of_addr x.apart (iD h1) (iD h2)
 .have hy:scope.names.lookup y=some .cell\/scope.names.lookup y=some .free:=hy;rcases hy with hy|hy
  .exact vx hy
  .exact absurd rfl (S.K4 _ (iD hy))
 .exact Bi (x.above y c (iD h))
 .have hi:i<vs.length:=by
   unfold start at h2;by_cases hi:i<vs.length
   .exact hi
   .rw[mZ (by simpa using hi)] at h2;rw[AH] at h2;split at h2<;>cases h2
  have ha:vs[i]?=some v:=by
   unfold start at h2;rw[fI (by simpa using hi),lP] at h2;cases e:vs[i]? with
   |none=>rw[e] at h2;cases h2
   |some a=>rw[e] at h2;cases h2;rfl
  obtain⟨u,hu,rv⟩:=r.get ha;have hp:ps[i]?=some y:=by rw[<-S.pre,DC (by lia)];exact h1
  have ndP:ps.Nodup:=by rw[<-S.pre];exact S.nd.sublist (List.take_sublist _ _)
  refine⟨u,rv,?_⟩;rcases S.par y (vo hp) with k|k
  .exact .inl ⟨k,uB ndP hp hu k⟩
  .obtain⟨c,e⟩:=vx (n:=s.heap.objs.size+1) k;refine .inr ⟨.inl k,c,e,?_⟩;have q:=x.cell y c e;rw[ug ndP hp hu (by show scope.names.lookup y≠_;rw[k];decide)] at q;exact q
 .exact e0.av.fresh (Bi (x.above y c (iD h)))
 .unfold start;show _=N.length;rw[lI,i9,DK]
  lia
def OA{CX:fP}{P:Program}{w:World}{K:W.Frag}{mg:Str->Option Value}{base:Heap}{k:Nat}{f:Addr}{name qual:Str}{params:Arguments}{body:List Stmt}{scope:Scope}{dV kV doc pm cdv ct oc:Value}{an od:Option Addr}
  {osl:Array (Option Value)}{N ps:List Str}{sp:Sp}{cl:ff} (lk:K.lookup f=some ⟨oc,od,.func (W.fnOf name qual params body scope dV kV doc pm an cdv ct),osl⟩) (hcd:W.codeIn K cdv qual=true) (S:pF N ps scope)
  (len:∀vs H Q E,sp vs H Q E->vs.length=ps.length)
  (hbody:∀(A:Around)(outer:List Env)(s:Shared)(H:Hp)(vs:List V)(Q:VK)(E:XK),cM k (A.deeper (envOfC qual scope s.heap.objs.size f cdv))->sp vs H Q E->
   ∃t,dS (tW CX P w K mg base N qual scope f cdv A outer s H E cl) body t/\t {nx:=fun _ H'=>Q .ah H',rt:=Q} (start N vs) H):
  bR P w K mg base CX (k+1) f (W.fnOf name qual params body scope dV kV doc pm an cdv ct) ps sp:=by
 refine⟨len,fun A outer s H args us vs Q E hr e0 hb r hsp=>?_⟩;have hl:=len _ _ _ _ hsp;have KX:K.In s.heap:=e0.mod.rK.keeps fun b o e=>(e0.bs b o e).1;have lim:s.heap.NoLimit:=e0.mod.nolimit.keeps fun b o e=>(e0.bs b o e).1;have hkind:∀y∈ps.zip us,scope.names.lookup y.1=some .local\/(scope.names.lookup y.1=some .cell/\((cellsFrom (s.heap.objs.size+1) scope.names []).lookup y.1).isSome=true):=fun⟨n,v⟩ hy=>by
  rcases S.par n (Af hy).1 with q|q
  .exact .inl q
  .exact .inr ⟨q,W.cellsFrom_some _ _ _ (.inl q)⟩
 refine codeAny_call_function hr.depth (KX _ _ lk) rfl S.co S.gen rfl (W.codeRec_of KX hcd) (hb _ _ _ _ ?_);refine wpAny_newFunctionEnv_cells S.kind hkind fun env he s1 x=>?_;subst he;refine⟨lim.keeps x.toInCall.keep,codeAny_func ?_⟩;obtain⟨t,ht,hq⟩:=hbody A outer s H vs Q E (hr.deeper _) hsp;have I:Inv (tW CX P w K mg base N qual scope f cdv A outer s H E cl) [] (start N vs) H s1:=CL S hr.hd e0 hl r x;refine jr (ht [] s1 (start N vs) H _ I hq) (fun fl s' hs=>?_) fun e s' hs=>hs;have fin:∀{σ':St}{H':Hp}{v:V}{u:Value},Inv (tW CX P w K mg base N qual scope f cdv A outer s H E cl) [] σ' H' s'->RelV v u->Q v H'->CE outer P w H s Q u s':=
  fun {σ' H' v u} J rv q=>⟨v,H',J.os,J.bare,J.base,J.av,rv,q⟩
 cases fl with
 |ret u=>
  obtain⟨v,σ',H',J,rv,q⟩:=hs;exact fin J rv q
 |next=>
  obtain⟨σ',H',J,q⟩:=hs;exact fin (v:=V.ah) (u:=Value.none) J rfl q
 |brk=>
  obtain⟨_,_,_,q⟩:=hs;exact False.elim q
 |cont=>
  obtain⟨_,_,_,q⟩:=hs;exact False.elim q
section
variable {X:Cx}{x:Str}{p pos:Pos}{e:Expr}{es:List Expr}{t:TA}{id T:String}{r:List V->Hp->VK->Prop}
noncomputable def L9(r:List V->Hp->VK->Prop)(t:TA):TE:=fun σ H Q=>t σ H fun vs H1=>r vs H1 Q
def nC(hc:j3 X (.builtin id) r)(hg:Gl X x)(hm:X.mg x=none)(hv:bootBuiltins x=some (.builtin id))(ha:PA X (e::es) t)(hn:x≠ "__name__":=by decide)(hdb:(x== ("__debug__":Str))=false:=by decide)
  (he:starEach (e::es) X.env=(false,eval e X.env)::starEach es X.env:=by rfl) (hpl:(backTo pos (starEach es X.env)).any (·.1)=false:=by rfl):PE X (.Call (.Name x p) (e::es) [] pos) (L9 r t):=by
 intro pins s σ H Q I h;refine lj (mJ I hg hm hv ?_ hn hdb);exact PyProof.Rows.callWith_builtin1 (aB (ha pos pins s σ H _ I h) fun us s1 Z=>Z.k2 fun vs H1 I1 r1 q1=>hc pins s1 σ H1 vs us Q I1 r1 q1) he hpl
def pq(hc:j3 X (.type T) r)(hg:Gl X x)(hm:X.mg x=none)(hv:bootBuiltins x=some (.type T))(ha:PA X (e::es) t)(hn:x≠ "__name__":=by decide)(hdb:(x== ("__debug__":Str))=false:=by decide)
  (he:starEach (e::es) X.env=(false,eval e X.env)::starEach es X.env:=by rfl) (hpl:(backTo pos (starEach es X.env)).any (·.1)=false:=by rfl):PE X (.Call (.Name x p) (e::es) [] pos) (L9 r t):=by
 intro pins s σ H Q I h;refine lj (mJ I hg hm hv ?_ hn hdb);exact u0 (aB (ha pos pins s σ H _ I h) fun us s1 Z=>Z.k2 fun vs H1 I1 r1 q1=>hc pins s1 σ H1 vs us Q I1 r1 q1) he hpl
end
end L2
namespace HT
open PySem PyProof.Rows
section
open PySem.SeqAt
open PySem.AutoSeq1 (wpAny_loadPart')
open PySem.MeetsSeq PySem.MeetsSeq2 PySem.MeetsSeq3
end
section
variable {prog:Program}{w:World}{A:Around}{E:aY}{s:Shared}
def H8{t b:Addr}{vs ws:List Value}{Q:aY}(ht:IsTup s.heap t vs.toArray)(hb:IsTup s.heap b ws.toArray)(hv:vs≠ [])
  (h1:ws=[]->Q (.ref t) s) (h2:ws≠ []->Q (.ref s.heap.objs.size) {s with heap:=s.heap.push {cls:=.type "tuple",data:=.seq (vs++ws).toArray}})
  (hsz:vs.length+ws.length<=sizeLine):wpAny (model prog w) A (binaryOp .Add (.ref t) (.ref b)) Q E s:=by
 obtain⟨⟨cls,dd,data,sl⟩,ho,hc,n,hd⟩:=id ht;obtain⟨⟨cls2,dd2,data2,sl2⟩,ho2,hc2,n2,hd2⟩:=id hb;simp only at hc hd hc2 hd2;subst hc hd hc2 hd2;have e:vs.toArray++ws.toArray=(vs++ws).toArray:=by simp
 by_cases hw:ws=[]
 .exact concat_meets ⟨_,ho,rfl⟩ ⟨_,ho2,rfl⟩ A8 seq_tuple_add zW Bh (Ar _ _)
   (tuple_addW1 t b vs.toArray ws.toArray n n2 dd dd2 sl sl2 (by simpa using hv) (by simp[hw])) ⟨ho,ho2,h1 hw⟩
 .refine concat_meets ⟨_,ho,rfl⟩ ⟨_,ho2,rfl⟩ A8 seq_tuple_add zW Bh (Ar _ _)
   (tuple_addW2 t b vs.toArray ws.toArray n n2 dd dd2 sl sl2 (by simpa using hv) (by simpa using hw) (by rw[cP,cP];exact hsz)) ⟨ho,ho2,?_⟩
  rw[e];exact h2 hw
def bL(n d:Nat):Option Int->Nat
 |none=>d
 |some v=>if v<0 then (v+(n:Int)).toNat else min v.toNat n
def Kx(n d:Nat)(hd:d<=n)(o:Option Int):bL n d o<=n:=by
 cases o with
 |none=>exact hd
 |some v=>
  show (if v<0 then (v+(n:Int)).toNat else min v.toNat n)<=n;by_cases hv:v<0
  .rw[if_pos hv];lia
  .rw[if_neg hv];exact Nat.min_le_right _ _
def yM(v:Int)(n d:Nat):(if v<0 then max (v+(n:Int)) 0 else min v (n:Int))=((bL n d (some v):Nat):Int):=by
 show (if v<0 then max (v+(n:Int)) 0 else min v (n:Int))=(((if v<0 then (v+(n:Int)).toNat else min v.toNat n):Nat):Int);by_cases hv:v<0
 .simp only[if_pos hv];lia
 .simp only[if_neg hv];lia
def Ak(lo hi:Option Int)(n:Nat):Builtin.Slice.sliceAdjust lo hi 1 (n:Int)=(((bL n 0 lo:Nat):Int),((bL n n hi:Nat):Int)):=by
 have h1:¬ ((1:Int)<0):=by lia
 unfold Builtin.Slice.sliceAdjust;simp only[h1,bp];refine Prod.ext ?_ ?_
 .cases lo with
  |none=>rfl
  |some v=>exact yM v n 0
 .cases hi with
  |none=>rfl
  |some v=>exact yM v n n
def Al(i j:Nat):Builtin.Slice.slicePlaces (i:Int) (j:Int) 1=j-i:=by
 unfold Builtin.Slice.slicePlaces;have h1:(1:Int) > 0:=by lia
 simp only[h1,bU,Int.ediv_one];split<;>lia
def rO{v:Value}{o:Option Int}{Q:Option Int->Shared->Prop}(p:IsPart v o)(h:Q o s):wpAny (model prog w) A (Builtin.Slice.slicePartIndex v) Q E s:=by
 cases p with
 |none=>exact slicePart_none h
 |int i t=>exact slicePart_int h
def qI{sl:Addr}{vl vu:Value}{lo hi:Option Int}{n:Nat}{Q:Int×Int×Nat->Shared->Prop}(hs:s.heap.IsSliceOf sl vl vu .none)(pl:IsPart vl lo)(pu:IsPart vu hi)
  (h:Q (((bL n 0 lo:Nat):Int),1,bL n n hi-bL n 0 lo) s):wpAny (model prog w) A (Builtin.Slice.sliceApplied (.ref sl) (pure (n:Int))) Q E s:=by
 obtain⟨os,hos,hcs,iY⟩:=id hs;unfold Builtin.Slice.sliceApplied Builtin.Slice.sliceFields;refine ag (ag (gW hos iY (x:=vl) rfl (ag (gW hos iY (x:=vu) rfl (ag (gW hos iY (x:=.none) rfl (aG ?_)))))));refine ag (slicePart_none ?_);show wpAny _ _ (if ((1:Int)== 0)=true then _ else _) _ _ s;rw[if_neg (by decide)];refine ag (rO pl (ag (rO pu (ag (aG ?_)))));show wpAny _ _ (match Builtin.Slice.sliceAdjust lo hi 1 (n:Int) with|(lo,hi)=>pure (lo,(1:Int),Builtin.Slice.slicePlaces lo hi 1)) _ _ s;rw[Ak lo hi n];show wpAny _ _ (pure (((bL n 0 lo:Nat):Int),(1:Int),Builtin.Slice.slicePlaces ((bL n 0 lo:Nat):Int) ((bL n n hi:Nat):Int) 1)) _ _ s;rw[Al];exact aG h
def Em(xs:Array Value)(i k:Nat):((List.range k).filterMap fun (m:Nat)=>xs[((i:Int)+(m:Int) * 1).toNat]?).toArray=((xs.toList.drop i).take k).toArray:=by
 have e:(fun (m:Nat)=>xs[((i:Int)+(m:Int) * 1).toNat]?)=fun m=>xs[i+m]?:=by
  funext m;have:((i:Int)+(m:Int) * 1).toNat=i+m:=by lia
  rw[this]
 rw[e];have:=pick_run xs i k;rw[List.filterMap_map] at this;have e2:((fun x=>xs[x]?) ∘ fun x=>i+x)=fun m=>xs[i+m]?:=rfl;rw[e2] at this;rw[this]
def qm{t sl:Addr}{items:Array Value}{vl vu:Value}{lo hi:Option Int}{Q:aY}(ht:IsTup s.heap t items)(hs:s.heap.IsSliceOf sl vl vu .none)(pl:IsPart vl lo)(pu:IsPart vu hi)
  (hw:¬ (bL items.size 0 lo=0/\bL items.size items.size hi=items.size))
  (h:Q (.ref s.heap.objs.size) {s with heap:=s.heap.push {cls:=.type "tuple",data:=.seq ((items.toList.drop (bL items.size 0 lo)).take (bL items.size items.size hi-bL items.size 0 lo)).toArray}})
  (hsz:items.size<=sizeLine):wpAny (model prog w) A (getItem (.ref t) (.ref sl)) Q E s:=by
 have htake:sizeOk (.seq ((items.toList.drop (bL items.size 0 lo)).take (bL items.size items.size hi-bL items.size 0 lo)).toArray):=by
  show ((items.toList.drop (bL items.size 0 lo)).take (bL items.size items.size hi-bL items.size 0 lo)).toArray.size<=sizeLine;rw[cP,pv,zQ,MD]
  lia
 have hj:bL items.size items.size hi<=items.size:=Kx _ _ (aA _) hi;obtain⟨os,hos,hcs,iY⟩:=id hs;have hTs:s.TypeIs (.ref sl) "slice":=⟨os,hos,hcs⟩;unfold getItem
 try with_reducible refine jU ?_
 first|refine ag (aG ?_)|skip
 refine ag (wpAny_sequenceKey ht.typeIs (by decide) ?_);refine ag (u4 (name:=Str.ofString "__getitem__") ht.typeIs zV
  (rT zV ht.typeIs entry_tuple_getitem ?_ (args_tuple_getitem _ _)))
 show wpAny _ _ (Builtin.Tuple.tupleItemsOf (.ref t) >>= _) _ _ s;refine ag (tupleItemsOf_ ht ?_);refine ag (wpAny_typeOf hTs ?_);rw[if_pos (by decide)];refine ag (qI hs pl pu ?_);have hno:¬ ((((bL items.size 0 lo:Nat):Int)== 0&&(1:Int)== 1&&(bL items.size items.size hi-bL items.size 0 lo)== items.size)=true):=by intro q;rw[aq,aq] at q;have q1:((bL items.size 0 lo:Nat):Int)=0:=eq_of_beq q.1.1;have q2:bL items.size items.size hi-bL items.size 0 lo=items.size:=eq_of_beq q.2;exact hw ⟨by lia,by lia⟩
 show wpAny _ _ (if (((bL items.size 0 lo:Nat):Int)== 0&&(1:Int)== 1&&(bL items.size items.size hi-bL items.size 0 lo)== items.size)=true then _ else _) _ _ s;rw[if_neg hno,Em];first
  |exact ag (m:=Builtin.Tuple.tupleExact _) (jR (aG ⟨_,rfl,aG h⟩) htake)
  |exact ag (m:=Builtin.Tuple.tupleExact _) (jR (ag (aG (aG ⟨_,rfl,aG h⟩))) htake)
  |exact ag (ag (m:=Builtin.Tuple.tupleExact _) (jR (aG (aG ⟨_,rfl,aG h⟩)) htake))
  |exact ag (ag (m:=Builtin.Tuple.tupleExact _) (jR (aG ⟨_,rfl,aG h⟩) htake))
end
end HT
namespace L2
open PySem PySem.Spec PyProof.Rows
abbrev TO:=St->Hp->(Option Int->Hp->Prop)->Prop
def PO(X:Cx)(e:Option Expr)(t:TO):Prop:=
 ∀(pins:aH)(s:Shared)(σ:St)(H:Hp)(Q:Option Int->Hp->Prop),Inv X pins σ H s->t σ H Q->
  wpAny (model X.prog X.w) X.A (evalPart e X.env) (fun u s'=>∃o H',Inv X pins σ H' s'/\IsPart u o/\Q o H') X.xe s
noncomputable def Hi:TO:=fun _ H Q=>Q none H
noncomputable def NV(t:TE):TO:=fun σ H Q=>t σ H fun x H1=>∃i,x=.int i/\Q (some i) H1
section
variable {X:Cx}{e:Expr}{te:TE}{lo hi:Option Expr}{tl th:TO}{pos p2:Pos}
def GP:PO X none Hi:=by intro pins s σ H Q I h;rw[evalPart_none];exact aG ⟨none,H,I,.none,h⟩
def Hf(h:PE X e te):PO X (some e) (NV te):=by intro pins s σ H Q I hw;rw[evalPart_some];refine aB (h pins s σ H _ I hw) fun u s1 Z=>Z.k2 fun x H1 I1 r1 q1=>?_;obtain⟨i,rfl,q⟩:=q1;obtain⟨t,rfl⟩:=r1;exact⟨some i,H1,I1,.int i t,q⟩
def PM(X:Cx)(r:V->Option Int->Option Int->Hp->VK->Prop):Prop:=
 ∀(pins:aH)(s:Shared)(σ:St)(H:Hp)(x:V)(v vl vu:Value)(lo hi:Option Int)(sl:Addr)(Q:VK),Inv X pins σ H s->RelV x v->s.heap.IsSliceOf sl vl vu .none->IsPart vl lo->IsPart vu hi->r x lo hi H Q->
  ∃T id,typeLookup (.type T) "__getitem__"=pure (some (.builtin id))/\s.TypeIs v T/\wpAny (model X.prog X.w) X.A (getItem v (.ref sl)) (EP X pins σ Q) X.xe s
noncomputable def SR(r:V->Option Int->Option Int->Hp->VK->Prop)(te:TE)(tl th:TO):TE:=fun σ H Q=>te σ H fun x H1=>tl σ H1 fun l H2=>th σ H2 fun u H3=>r x l u H3 Q
def DA{r:V->Option Int->Option Int->Hp->VK->Prop}(hr:PM X r)(he:PE X e te)(hl:PO X lo tl)(hu:PO X hi th):PE X (.Subscript e (.Slice lo hi none p2) pos) (SR r te tl th):=by intro pins s σ H Q I h;refine Subscript_ (aB (he pins s σ H _ I h) fun v s1 Z=>Z.k2 fun x H1 I1 r1 q1=>?_);refine wpAny_Slice (aB (hl pins s1 σ H1 _ I1 q1) fun vl s2 Z=>Z.k2 fun l H2 I2 pl q2=>aB (hu pins s2 σ H2 _ I2 q2) fun vu s3 Z=>Z.k2 fun u H3 I3 pu q3=>?_);rw[evalPart_none];refine aG ?_;have I4:Inv X pins σ H3 {s3 with heap:=s3.heap.push {cls:=.type "slice",data:=.fields #[vl,vu,.none]}}:=I3.kept (t':=s3.toks) fun b ob q=>bZ _ q;obtain⟨T,id,hT,ht,hg⟩:=hr pins {s3 with heap:=s3.heap.push {cls:=.type "slice",data:=.fields #[vl,vu,.none]}} σ H3 x v vl vu l u s3.heap.objs.size Q I4 r1 (Heap.IsSliceOf.new ..) pl pu q3;show wpAny (model X.prog X.w) X.A (subscriptTail e (.Slice lo hi none p2) v (.ref s3.heap.objs.size)) (EP X pins σ Q) X.xe {s3 with heap:=s3.heap.push {cls:=.type "slice",data:=.fields #[vl,vu,.none]}};exact tail_any (ops:=[.ref s3.heap.objs.size,v]) ht hT hg (by with_unfolding_all rfl)
noncomputable def tO(xs:List V)(lo hi:Option Int):List V:=(xs.drop (HT.bL xs.length 0 lo)).take (HT.bL xs.length xs.length hi-HT.bL xs.length 0 lo)
def yi(xs:List V)(lo hi:Option Int):(tO xs lo hi).length<=xs.length:=by
 unfold tO;rw[pv,zQ]
 lia
def Lr(K:W.Frag):V->Option Int->Option Int->Hp->VK->Prop:=fun x lo hi H Q=>∃a xs,x=.ref a/\dC K H a xs/\
 ¬ (HT.bL xs.length 0 lo=0/\HT.bL xs.length xs.length hi=xs.length)/\∀p,H p=none->Q (.ref p) (upd H p (.tup (tO xs lo hi)))
def IQ:PM X (Lr X.K):=by
 intro pins s σ H x v vl vu lo hi sl Q I rx hs pl pu h;obtain⟨a,xs,rfl,hx,hw,q⟩:=h;cases rx;obtain⟨its,r,ht,hz⟩:=I.tuple hx;have hlen:its.toArray.size=xs.length:=by rw[cP];exact r.length.symm
 refine⟨"tuple",_,zV.lookup,ht.typeIs,?_⟩;refine HT.qm ht hs pl pu (by rw[hlen];exact hw) ?_ (by rw[hlen];exact hz);rw[hlen];refine⟨.ref s.heap.objs.size,_,I.laid (t':=s.toks) (o:=.tup (tO xs lo hi)) (fun b ob q=>bZ _ q) (aA _) ?_,rfl,q _ (I.av.fresh (aA _))⟩;exact⟨aF (yi xs lo hi) hz,_,(r.drop (HT.bL xs.length 0 lo)).take (HT.bL xs.length xs.length hi-HT.bL xs.length 0 lo),IsTup.new _ _⟩
def Ga(K:W.Frag):R2:=fun x y H Q=>∃a b xs ys,x=.ref a/\y=.ref b/\dC K H a xs/\dC K H b ys/\xs≠ []/\xs.length+ys.length<=sizeLine/\
 (ys=[]->Q (.ref a) H)/\(ys≠ []->∀p,H p=none->Q (.ref p) (upd H p (.tup (xs++ys))))
def Vals.tB{xs:List V}{us:List Value}(r:Vals xs us):us=[]↔xs=[]:=by
 cases r with
 |nil=>simp
 |cons _ _=>simp
def HY:dz X (binaryOp .Add) (Ga X.K):=by intro pins s σ H x y v u Q I rx ry h;obtain⟨a,b,xs,ys,rfl,rfl,ha,hb,hx,hz,q1,q2⟩:=h;cases rx;cases ry;obtain⟨its,r1,p1,_⟩:=I.tuple ha;obtain⟨its2,r2,p2,_⟩:=I.tuple hb;refine HT.H8 p1 p2 (fun z=>hx (r1.tB.mp z)) (fun z=>⟨.ref a,H,I,rfl,q1 (r2.tB.mp z)⟩) (fun z=>?_) (by rw[<-r1.length,<-r2.length];exact hz);refine⟨.ref s.heap.objs.size,_,I.laid (t':=s.toks) (o:=.tup (xs++ys)) (fun b ob q=>bZ _ q) (aA _) ?_,rfl,q2 (fun w=>z (r2.tB.mpr w)) _ (I.av.fresh (aA _))⟩;exact⟨by rw[lI];exact hz,_,r1.append r2,IsTup.new _ _⟩
end
noncomputable def i0(n:Nat)(i:Int):Option Nat:=if 0<=i then (if i<n then some i.toNat else none) else if -(n:Int)<=i then some (i+n).toNat else none
def dM{α:Type}(xs:List α)(i:Int):Option α:=(i0 xs.length i).bind fun j=>xs[j]?
def zG{n:Nat}{i:Int}{j:Nat}(h:i0 n i=some j):seqIndex? i n=some j/\j<n/\ -(n:Int)<=i/\i<n:=by
 unfold i0 at h;by_cases h0:0<=i
 .rw[if_pos h0] at h;by_cases h1:i<n
  .rw[if_pos h1] at h;have e:i.toNat=j:=kj h;exact⟨by rw[seqIndex_of h0 h1,e],by lia,by lia,h1⟩
  .rw[if_neg h1] at h;cases h
 .rw[if_neg h0] at h;by_cases h1: -(n:Int)<=i
  .rw[if_pos h1] at h;have e:(i+n).toNat=j:=kj h;exact⟨by rw[seqIndex_neg (by lia) h1,e],by lia,h1,by lia⟩
  .rw[if_neg h1] at h;cases h
def ub{α:Type}{xs:List α}{i:Int}{v:α}(h:dM xs i=some v):∃j,seqIndex? i xs.length=some j/\xs[j]?=some v/\j<xs.length/\ -(xs.length:Int)<=i/\i<xs.length:=by
 unfold dM at h;cases e:i0 xs.length i with
 |none=>rw[e] at h;cases h
 |some j=>
  rw[e] at h;obtain⟨h1,h2,h3,h4⟩:=zG e;exact⟨j,h1,h,h2,h3,h4⟩
def j9{α:Type}{xs:List α}{j:Nat}{v:α}(h:xs[j]?=some v):dM xs (j:Int)=some v:=by
 have hj:j<xs.length:=(fV.mp h).1;have e:i0 xs.length (j:Int)=some j:=by unfold i0;rw[if_pos (by lia),if_pos (by lia)];simp
 unfold dM;rw[e];exact h
def pM(b:Expr):Prop:=∀o i,subscripted b false o i=operate [o,i] (getItem o i)
def qE(X:Cx)(r:R2):Prop:=
 ∀(value slice:Expr)(pins:aH)(s:Shared)(σ:St)(H:Hp)(x y:V)(v u:Value)(Q:VK),Inv X pins σ H s->RelV x v->RelV y u->r x y H Q->
  subscripted slice false v u=operate [v,u] (getItem v u)->wpAny (model X.prog X.w) X.A (subscriptTail value slice v u) (EP X pins σ Q) X.xe s
def Pn(X:Cx)(id:String)(r:V->List V->Hp->VK->Prop):Prop:=
 ∀(pins:aH)(s:Shared)(σ:St)(H:Hp)(x:V)(xs:List V)(v:Value)(us:List Value)(Q:VK),Inv X pins σ H s->RelV x v->Vals xs us->r x xs H Q->
  wpAny (model X.prog X.w) X.A (call (.builtin id) (v::us)) (EP X pins σ Q) X.xe s
section
variable {X:Cx}{a b:Expr}{ta tb:TE}{pos:Pos}
def qE.or{r r':R2}(h:qE X r)(h':qE X r'):qE X (fun x y H Q=>r x y H Q\/r' x y H Q):=by
 intro value slice pins s σ H x y v u Q I rx ry q hs;rcases q with q|q
 .exact h value slice pins s σ H x y v u Q I rx ry q hs
 .exact h' value slice pins s σ H x y v u Q I rx ry q hs
def Gx{r:R2}(hr:qE X r)(ha:PE X a ta)(hb:PE X b tb)(hs:pM b):PE X (.Subscript a b pos) (zu r ta tb):=by intro pins s σ H Q I h;exact Subscript_ (DW ha hb I h fun v u s2 x y H2 I2 rx ry q=>hr a b pins s2 σ H2 x y v u Q I2 rx ry q (hs _ _))
def Kb(K:W.Frag):R2:=fun x y H Q=>∃p xs i v,x=.ref p/\y=.int i/\cq K H p xs/\dM xs i=some v/\Q v H
def Lp(K:W.Frag):R2:=fun x y H Q=>∃p xs i v,x=.ref p/\y=.int i/\dC K H p xs/\dM xs i=some v/\Q v H
def Li:R2:=fun x y H Q=>∃z i c,x=.str z/\y=.int i/\z.length<=sizeLine/\dM z.cps.toList i=some c/\Q (.str ⟨#[c]⟩) H
def Hj:qE X (Kb X.K):=by
 intro value slice pins s σ H x y v u Q I rx ry h hs;obtain⟨p,xs,i,z,rfl,rfl,hq,he,q⟩:=h;cases rx;obtain⟨t,rfl⟩:=ry;obtain⟨its,r,pl,hz⟩:=I.list hq;obtain⟨j,h1,h2,h3,h4,h5⟩:=ub he;obtain⟨w,ew,rw'⟩:=r.get h2;have hl:=r.length;have hn:=mQ;have fin:EP X pins σ Q w s:=⟨z,H,I,rw',q⟩;by_cases h0:0<=i
 .have hj:i.toNat=j:=by
   rw[seqIndex_of h0 h5] at h1;exact kj h1
  exact item_listR pl.isList h0 (by lia) (by rw[hj];simpa using ew) fin hs
 .have hj:(i+(its.toArray.size:Int)).toNat=j:=by
   rw[seqIndex_neg (by lia) h4] at h1;rw[cP,<-hl];exact kj h1
  exact subscriptTail_builtinR (x:=w) pl.isList.typeIs slot_list_getitem.lookup
   (wpAny_getItem_list_neg (Q:=fun r s'=>r=w/\EP X pins σ Q r s') pl.isList (by lia) (by rw[cP]<;>lia) (by lia) (by rw[hj];simpa using ew) ⟨rfl,fin⟩) hs
def Ld:qE X (Lp X.K):=by
 intro value slice pins s σ H x y v u Q I rx ry h hs;obtain⟨p,xs,i,z,rfl,rfl,hq,he,q⟩:=h;cases rx;obtain⟨t,rfl⟩:=ry;obtain⟨its,r,pl,hz⟩:=I.tuple hq;obtain⟨j,h1,h2,h3,h4,h5⟩:=ub he;obtain⟨w,ew,rw'⟩:=r.get h2;have hl:=r.length;have hn:=mQ;have fin:EP X pins σ Q w s:=⟨z,H,I,rw',q⟩;exact subscriptTail_builtinR (x:=w) pl.typeIs slot_tuple_getitem.lookup
  (getItem_tuple (j:=j) (Q:=fun r s'=>r=w/\EP X pins σ Q r s') pl (by lia) (by lia) (by rw[cP,<-hl];exact h1) (by simpa using ew) ⟨rfl,fin⟩) hs
def Mw:qE X Li:=by
 intro value slice pins s σ H x y v u Q I rx ry h hs;obtain⟨z,i,c,rfl,rfl,hz,he,q⟩:=h;obtain⟨t,rfl⟩:=rx;obtain⟨t',rfl⟩:=ry;obtain⟨j,h1,h2,h3,h4,h5⟩:=ub he;have hl:z.cps.toList.length=z.length:=by simp[Str.length]
 rw[hl] at h1 h4 h5;have hn:=mQ;exact tail_any (typeIs_str s z t) slot_str_getitem.lookup (getItem_str (c:=c) (by have e1:decide (i < -(2 ^ 63:Int))=false:=bc (by lia);have e2:decide (i ≥ 2 ^ 63)=false:=bc (by lia);rw[e1,e2,Bool.or_false]) (by rw[h1];simpa using h2) ⟨.str ⟨#[c]⟩,H,I.tok _,⟨_,rfl⟩,q⟩) hs
def IX(K:W.Frag):R2:=fun x y H Q=>Kb K x y H Q\/Lp K x y H Q\/Li x y H Q
def Kr:qE X (IX X.K):=Hj.or (Ld.or Mw)
def AW(its:List Value)(n j:Nat)(u:Value):Obj.mapSeq (·.setIfInBounds j u) {cls:=.type "list",data:=.seq its.toArray n}={cls:=.type "list",data:=.seq (its.set j u).toArray n}:=by simp[Obj.mapSeq]
def Inv.lst{pins:aH}{σ:St}{H:Hp}{s:Shared}{p:Addr}{xs:List V}(I:Inv X pins σ H s)(h:H p=some (.lst xs)):
  ∃(its:List Value) (n:Nat),Vals xs its/\s.heap.get? p=some {cls:=.type "list",data:=.seq its.toArray n}/\xs.length<=sizeLine:=by
 obtain⟨z,its,n,r,e⟩:=I.av p _ h;exact⟨its,n,r,e,z⟩
def Inv.ME{pins:aH}{σ:St}{H:Hp}{s:Shared}{p:Addr}{xs ys:List V}{its its':List Value}{n n':Nat}{f:Obj->Obj}(I:Inv X pins σ H s)(h:H p=some (.lst xs))
  (ho:s.heap.get? p=some {cls:=.type "list",data:=.seq its.toArray n}) (hf:f {cls:=.type "list",data:=.seq its.toArray n}={cls:=.type "list",data:=.seq its'.toArray n'}) (r:Vals ys its') (hz:ys.length<=sizeLine) (t:Nat):
  Inv X pins σ (upd H p (.lst ys)) {s with heap:=s.heap.update p f,toks:=t}:=by
 have e:(s.heap.update p f).get? p=some {cls:=.type "list",data:=.seq its'.toArray n'}:=by rw[sP f ho (by rw[hf]<;>rfl),hf]
 refine I.write (x:=p) (e:=p) (by rw[h];trivial) (.inl rfl) (fun b u hb q=>(pA _ _ (bj hb)).trans q) ⟨_,e⟩ ?_;exact⟨hz,its',n',r,e⟩
def GF:V->V->V->Hp->(Hp->Prop)->Prop:=fun o i v H Q=>∃p xs k j,o=.ref p/\i=.int k/\H p=some (.lst xs)/\i0 xs.length k=some j/\Q (upd H p (.lst (xs.set j v)))
def set_list:Mj X GF:=by
 intro pins s σ H o i v ov iv u Q I ro ri rv h;obtain⟨p,xs,k,j,rfl,rfl,hp,hj,q⟩:=h;cases ro;obtain⟨t,rfl⟩:=ri;obtain⟨its,n,r,ho,hz⟩:=I.lst hp;obtain⟨h1,h2,h3,h4⟩:=zG hj;have hl:=r.length;have hn:=mQ;have I':Inv X pins σ (upd H p (.lst (xs.set j v))) {s with heap:=s.heap.update p (Obj.mapSeq (·.setIfInBounds j u))}:=
  I.ME hp ho (AW its n j u) (r.set rv j) (by rw[x8];exact hz) s.toks
 by_cases h0:0<=k
 .have hk:k.toNat=j:=by
   rw[seqIndex_of h0 h4] at h1;exact kj h1
  exact W.ki_setAt ho h0 (by lia) (by rw[cP,<-hl];exact h4) (by rw[hk];exact⟨_,I',q⟩)
 .have hk:(k+(its.toArray.size:Int)).toNat=j:=by
   rw[seqIndex_neg (by lia) h3] at h1;rw[cP,<-hl];exact kj h1
  exact W.ki_setBack ho (by lia) (by rw[cP,<-hl];exact h3) (by lia) (by rw[hk];exact⟨_,I',q⟩)
def wM:j3 X (.builtin "len") (fun xs H Q=>∃p ys,xs=[.ref p]/\(cq X.K H p ys\/dC X.K H p ys)/\Q (.int ys.length) H):=by
 intro pins s σ H xs us Q I r h;obtain⟨p,ys,rfl,hq,q⟩:=h;obtain⟨u,rfl,rx⟩:=vals1 r;cases rx;have hn:=mQ;rcases hq with hq|hq
 .obtain⟨its,r',pl,hz⟩:=I.list hq;have hlen:=r'.length;exact Calls.call_len_list pl.isList (by simp only[cP]<;>lia) ⟨.int ys.length,H,I.tok _,⟨s.toks+1,by rw[cP,hlen]⟩,q⟩
 .obtain⟨its,r',pl,hz⟩:=I.tuple hq;have hlen:=r'.length;exact len_tuple pl (by simp only[cP]<;>lia) ⟨.int ys.length,H,I.tok _,⟨s.toks+1,by rw[cP,hlen]⟩,q⟩
def xm:j3 X (.type "list") (fun xs H Q=>∃p ys,xs=[.ref p]/\(cq X.K H p ys\/dC X.K H p ys)/\∀l,H l=none->Q (.ref l) (upd H l (.lst ys))):=by
 intro pins s σ H xs us Q I r h;obtain⟨p,ys,rfl,hq,q⟩:=h;obtain⟨u,rfl,rx⟩:=vals1 r;cases rx;have fin:∀(its:List Value),Vals ys its->ys.length<=sizeLine->∀(h':Heap)(c':Nat),(∀b o',s.heap.get? b=some o'->h'.get? b=some o')->
   h'.get? s.heap.objs.size=some {cls:=.type "list",dict:=none,data:=.seq its.toArray c',slots:=#[]}->EP X pins σ Q (.ref s.heap.objs.size) {s with heap:=h'}:=fun its r' hz h' c' kp e=>
  ⟨.ref s.heap.objs.size,_,I.laid (t':=s.toks) kp (aA _) (show cI X.prog X.w _ h' _ (.lst ys) from ⟨hz,its,c',r',e⟩),rfl,q _ (I.av.fresh (aA _))⟩
 rcases hq with hq|hq
 .obtain⟨its,r',pl,hz⟩:=I.list hq;have hlen:=r'.length;obtain⟨o,ho,hc,n,hd⟩:=pl.isList;exact call_list_seq p (.inl rfl) ho hc hd (fun h' c' kp e=>fin its r' hz h' c' kp e) (by simp only[cP]<;>lia)
 .obtain⟨its,r',pl,hz⟩:=I.tuple hq;have hlen:=r'.length;obtain⟨o,ho,hc,n,hd⟩:=pl;exact call_list_seq p (.inr rfl) ho hc hd (fun h' c' kp e=>fin its r' hz h' c' kp e) (by simp only[cP]<;>lia)
def uQ:j3 X (.type "tuple") (fun xs H Q=>∃p ys,xs=[.ref p]/\((cq X.K H p ys/\∀l,H l=none->Q (.ref l) (upd H l (.tup ys)))\/(dC X.K H p ys/\Q (.ref p) H))):=by
 intro pins s σ H xs us Q I r h;obtain⟨p,ys,rfl,h⟩:=h;obtain⟨u,rfl,rx⟩:=vals1 r;cases rx;rcases h with ⟨hq,q⟩|⟨hq,q⟩
 .obtain⟨its,r',pl,hz⟩:=I.list hq;have hlen:=r'.length;refine call_tuple_list pl.isList (fun h' kp=>?_) (by simp only[cP]<;>lia);have I1:Inv X pins σ H {s with heap:=h'}:=I.kept (t':=s.toks) kp;have I2:Inv X pins σ (upd H h'.objs.size (.tup ys)) {s with heap:=h'.push {cls:=.type "tuple",data:=.seq its.toArray}}:=
   I1.laid (t':=s.toks) (fun b o e=>bZ _ e) (aA _) (show cI X.prog X.w _ _ _ (.tup ys) from ⟨hz,its,r',IsTup.new _ _⟩)
  exact⟨.ref h'.objs.size,_,I2,rfl,q _ (I1.av.fresh (aA _))⟩
 .obtain⟨its,r',pl,hz⟩:=I.tuple hq;exact call_tuple_same pl ⟨.ref p,H,I,rfl,q⟩
def JA(K:W.Frag)(T:String)(x:V)(H:Hp):Prop:=match x with
 |.str _=>T= "str"
 |.int _=>T= "int"
 |.ref p=>(T= "list" /\∃xs,cq K H p xs)\/(T= "tuple" /\∃o,K.lookup p=some o/\o.cls=.type "tuple" /\o.dict=none)\/
   (T= "dict" /\((∃kvs,H p=some (.dK kvs))\/∃kvs,H p=some (.dT kvs)))\/(T= "set" /\∃S n,H p=some (.set S n))
 |_=>False
def Ck{pins:aH}{σ:St}{H:Hp}{s:Shared}{T:String}{x:V}{v:Value}(I:Inv X pins σ H s)(r:RelV x v)(ty:JA X.K T x H):
  s.TypeIs v T/\∀a,v=.ref a->∃ob,s.heap.get? a=some ob/\ob.dict=none:=by
 cases x with
 |str z=>
  obtain⟨t,rfl⟩:=r;cases (show T= "str" from ty);exact⟨typeIs_str s z t,fun _ e=>nomatch e⟩
 |int i=>
  obtain⟨t,rfl⟩:=r;cases (show T= "int" from ty);exact⟨typeIs_int s i t,fun _ e=>nomatch e⟩
 |ref p=>
  cases r;rcases ty with ⟨rfl,xs,hq⟩|⟨rfl,o,hk,hc,hd⟩|⟨rfl,hk⟩|⟨rfl,S,n,hk⟩
  .obtain⟨its,_,pl,_⟩:=I.list hq;refine⟨pl.isList.typeIs,fun a e=>?_⟩;cases e;obtain⟨o,n,e,c,hd,_⟩:=pl;exact⟨o,e,hd⟩
  .refine⟨⟨o,I.b9 p o hk,hc⟩,fun a e=>?_⟩;cases e;exact⟨o,I.b9 _ o hk,hd⟩
  .have z:∃o,s.heap.get? p=some o/\o.ExactDict:=by
    rcases hk with ⟨kvs,hk⟩|⟨kvs,hk⟩
    .obtain⟨_,_,_,_,o,_,_,e,ex,_⟩:=I.av p _ hk;exact⟨o,e,ex⟩
    .obtain⟨_,_,_,_,o,_,_,e,ex,_⟩:=I.av p _ hk;exact⟨o,e,ex⟩
   obtain⟨o,e,ex⟩:=z;refine⟨⟨o,e,ex.1⟩,fun a e2=>?_⟩;cases e2;exact⟨o,e,ex.2.1⟩
  .obtain⟨o,_,_,_,e,ex,_⟩:=I.av p _ hk;refine⟨⟨o,e,ex.1⟩,fun a e2=>?_⟩;cases e2;exact⟨o,e,ex.2.1⟩
 |_=>exact False.elim ty
noncomputable def QN(K:W.Frag)(T:String)(r:V->List V->Hp->VK->Prop)(to:TE):TE:=fun σ H Q=>to σ H fun x H1=>JA K T x H1/\r x [] H1 Q
noncomputable def Tq(K:W.Frag)(T:String)(r:V->List V->Hp->VK->Prop)(to:TE)(t:TA):TE:=fun σ H Q=>to σ H fun x H1=>JA K T x H1/\t σ H1 fun xs H2=>r x xs H2 Q
variable {o e:Expr}{es:List Expr}{to:TE}{t:TA}{name:Str}{apos cpos:Pos}{T id:String}{r:V->List V->Hp->VK->Prop}
def CM(pa:PlainAttrs T)(slot:Slot T name id)(BN:typeOf (.builtin id)=pure (.type "method_descriptor"))(hm:Pn X id r)(ho:PE X o to)
  (hbase:attributeBase o name X.env (eval o X.env)=eval o X.env:=by rfl) (hline:(apos.endLine== cpos.line)=true:=by rfl):PE X (.Call (.Attribute o name apos) [] [] cpos) (QN X.K T r to):=by
 intro pins s σ H Q I h;refine wpAny_Call_method0_late hbase hline (aB (ho pins s σ H _ I h) fun v s1 Z=>Z.k2 fun x H1 I1 r1 Z=>Z.g fun ty q1=>?_);obtain⟨h1,h2⟩:=Ck I1 r1 ty;exact⟨T,id,pa,slot,BN,h1,h2,Et rfl (PySem.evalArgs_none (hm pins s1 σ H1 x [] v [] Q I1 r1 .nil q1))⟩
def Oc(pa:PlainAttrs T)(slot:Slot T name id)(BN:typeOf (.builtin id)=pure (.type "method_descriptor"))(hm:Pn X id r)(ho:PE X o to)(ha:PA X (e::es) t)
  (hbase:attributeBase o name X.env (eval o X.env)=eval o X.env:=by rfl)
  (hfew:((backTo cpos (starEach (e::es) X.env)).all (fun x=>!x.1)&&(backToKw cpos (keywordEach [] X.env)).all (fun x=>x.1.isSome)
   && decide ((e::es).length+([]:List Keyword).length+(if ([]:List Keyword).isEmpty then 0 else 1)<30))=true:=by rfl)
  (hline:(apos.endLine== cpos.line)=true:=by rfl) (hs:starEach (e::es) X.env=(false,eval e X.env)::starEach es X.env:=by rfl) (hplain:(backTo cpos (starEach es X.env)).any (·.1)=false:=by rfl):
  PE X (.Call (.Attribute o name apos) (e::es) [] cpos) (Tq X.K T r to t):=by
 intro pins s σ H Q I h;refine wpAny_Call_method_late hbase hfew hline rfl (aB (ho pins s σ H _ I h) fun v s1 Z=>Z.k2 fun x H1 I1 r1 Z=>Z.g fun ty q1=>?_);obtain⟨h1,h2⟩:=Ck I1 r1 ty;refine⟨T,id,pa,slot,BN,h1,h2,?_⟩;have hA:=ha cpos pins s1 σ H1 _ I1 q1;rw[hs] at hA⊢;refine Et (by show (false || (backTo cpos (starEach es X.env)).any (·.1))=false;rw[hplain]<;>rfl) (Calls.evalArgs_plain ?_);exact aB hA fun us s2 Z=>Z.k2 fun vs H2 I2 r2 q2=>hm pins s2 σ H2 x vs v us Q I2 r1 r2 q2
end
def KZ(X:Cx)(id:String)(r:V->List V->Hp->VK->Prop):Prop:=
 ∀(pins:aH)(s:Shared)(σ:St)(H:Hp)(x:V)(xs:List V)(v:Value)(us:List Value)(Q:VK),Inv X pins σ H s->RelV x v->Vals xs us->r x xs H Q->
  wpAny (model X.prog X.w) X.A (call (.builtin id) (v::us)) (EP X pins σ Q) X.xe s
def Vals.one:∀{x:V}{us:List Value},Vals [x] us->∃u,us=[u]/\RelV x u
 |_,_,.cons r .nil=>⟨_,rfl,r⟩
def Vals.zero:∀{us:List Value},Vals [] us->us=[]
 |_,.nil=>rfl
def Vals.dropLast{xs:List V}{us:List Value}(h:Vals xs us):Vals xs.dropLast us.dropLast:=by
 induction h with
 |nil=>exact .nil
 |cons r t ih=>
  cases t with
  |nil=>exact .nil
  |cons q t'=>exact .cons r ih
def Vals.reverse{xs:List V}{us:List Value}(h:Vals xs us):Vals xs.reverse us.reverse:=by
 induction h with
 |nil=>exact .nil
 |cons r t ih=>rw[z9,z9];exact Vals.append ih (.cons r .nil)
def Bf{α:Type}(l:List α):l.eraseIdx (l.length-1)=l.dropLast:=by
 induction l with
 |nil=>rfl
 |cons a r ih=>
  cases r with
  |nil=>rfl
  |cons b r=>
   have e:(a::b::r).length-1=((b::r).length-1)+1:=by
    have h1:(a::b::r).length=r.length+2:=rfl;have h2:(b::r).length=r.length+1:=rfl
    lia
   rw[e,List.eraseIdx_cons_succ,ih]
   all_goals rfl
section
variable {X:Cx}{pins:aH}{σ:St}{H:Hp}{s:Shared}{l b:Addr}{xs ys zs:List V}
def Inv.EU{its its':List Value}{n:Nat}{f:Array Value->Array Value}{t':Nat}(I:Inv X pins σ H s)(hH:H l=some (.lst xs))
  (e:s.heap.get? l=some {cls:=.type "list",data:=.seq its.toArray n}) (hf:f its.toArray=its'.toArray) (hv:Vals ys its') (hz:ys.length<=sizeLine):
  Inv X pins σ (upd H l (.lst ys)) {s with heap:=s.heap.update l (Obj.mapSeq f),toks:=t'}:=by
 have q:=PySem.IsL.update e f;rw[hf] at q;refine I.write (x:=l) (e:=l) (by rw[hH];exact trivial) (.inl rfl) (fun b' u hb hu=>(pA s.heap (Obj.mapSeq f) (bj hb)).trans hu) ⟨_,q⟩ ?_;exact⟨hz,its',_,hv,q⟩
def Inv.Qn{its:List Value}{t':Nat}(I:Inv X pins σ H s)(hv:Vals ys its)(hz:ys.length<=sizeLine):
  Inv X pins σ (upd H s.heap.objs.size (.lst ys)) {s with heap:=s.heap.push {cls:=.type "list",data:=.seq its.toArray},toks:=t'}:=
 I.laid (fun _ _ q=>bZ _ q) (aA _) ⟨hz,its,0,hv,gi _ rfl⟩
def Inv.fresh(I:Inv X pins σ H s):H s.heap.objs.size=none:=I.av.fresh (aA _)
def Inv.xo(I:Inv X pins σ H s)(hH:H l=some (.lst xs)):xs.length<=sizeLine/\∃(its:List Value) (n:Nat),Vals xs its/\xs.length=its.length/\s.heap.get? l=some {cls:=.type "list",data:=.seq its.toArray n}:=by obtain⟨z,its,n,r,e⟩:=I.av l _ hH;exact⟨z,its,n,r,r.length,e⟩
end
section
variable {X:Cx}
def Hv:V->List V->Hp->VK->Prop:=fun x vs H Q=>∃l xs y,x=.ref l/\vs=[y]/\H l=some (.lst xs)/\xs.length<sizeLine/\Q .ah (upd H l (.lst (xs++[y])))
def uG:KZ X "list.append" Hv:=by
 intro pins s σ H x vs v us Q I rx rv h;obtain⟨l,xs,y,rfl,rfl,hH,hz,q⟩:=h;cases rx;obtain⟨u,rfl,ru⟩:=rv.one;obtain⟨z,its,n,r,hl,e⟩:=I.xo hH;refine call_meets F.slot_list_append ⟨_,e,rfl⟩ F.entry_list_append (F.args_list_append_2 _ _) (PySem.list_append l its.toArray n u (by rw[cP];lia)) ⟨e,?_⟩;refine⟨.ah,_,I.EU (its':=its++[u]) hH e (by simp) (r.append (.cons ru .nil)) ?_,rfl,q⟩;rw[lI,List.length_singleton]
 lia
def RN:V->List V->Hp->VK->Prop:=fun x vs H Q=>∃l xs y,x=.ref l/\vs=[]/\H l=some (.lst xs)/\xs[xs.length-1]?=some y/\Q y (upd H l (.lst xs.dropLast))
def Jz:KZ X "list.pop" RN:=by
 intro pins s σ H x vs v us Q I rx rv h;obtain⟨l,xs,y,rfl,rfl,hH,hy,q⟩:=h;cases rx;have hus:=rv.zero;subst hus;obtain⟨z,its,n,r,hl,e⟩:=I.xo hH;obtain⟨u,hu,ru⟩:=r.get hy;have hy':its.toArray[its.toArray.size-1]?=some u:=by show its.toArray[its.length-1]?=some u;rw[<-Array.getElem?_toList,<-hl];exact hu
 refine call_meets F.slot_list_pop ⟨_,e,rfl⟩ F.entry_list_pop (F.args_list_pop_1 _) (MeetsSeq.list_pop_last l its.toArray n u hy' (by rw[cP];lia)) ⟨e,?_⟩;refine⟨y,_,I.EU (its':=its.dropLast) hH e ?_ r.dropLast ?_,ru,q⟩
 .show its.toArray.eraseIdxIfInBounds (its.toArray.size-1)=its.dropLast.toArray;rw[cP,List.eraseIdxIfInBounds_toArray,Bf]
 .rw[List.length_dropLast]
  lia
def DU:V->List V->Hp->VK->Prop:=fun x vs H Q=>∃l xs,x=.ref l/\vs=[]/\H l=some (.lst xs)/\Q .ah (upd H l (.lst xs.reverse))
def AK:KZ X "list.reverse" DU:=by
 intro pins s σ H x vs v us Q I rx rv h;obtain⟨l,xs,rfl,rfl,hH,q⟩:=h;cases rx;have hus:=rv.zero;subst hus;obtain⟨z,its,n,r,hl,e⟩:=I.xo hH;refine call_meets F.slot_list_reverse ⟨_,e,rfl⟩ F.entry_list_reverse (F.args_list_reverse_1 _) (AutoSeq1.list_reverse_list_0 l its.toArray n (by rw[cP];lia)) ⟨e,?_⟩;refine⟨.ah,_,I.EU (its':=its.reverse) hH e (by simp) r.reverse ?_,rfl,q⟩;rw[List.length_reverse]
 lia
def Jg:R2:=fun x y H Q=>∃l b xs zs,x=.ref l/\y=.ref b/\H l=some (.lst xs)/\H b=some (.lst zs)/\xs.length+zs.length<=sizeLine/\∀p,H p=none->Q (.ref p) (upd H p (.lst (xs++zs)))
def JS:dz X (binaryOp .Add) Jg:=by
 intro pins s σ H x y v u Q I rx ry h;obtain⟨l,b,xs,zs,rfl,rfl,hH,hB,hz,q⟩:=h;cases rx;cases ry;obtain⟨z,its,n,r,hl,e⟩:=I.xo hH;obtain⟨z2,its2,n2,r2,hl2,e2⟩:=I.xo hB;refine PySem.P.add_list e e2 ?_ (by rw[cP,cP];lia);have ea:its.toArray++its2.toArray=(its++its2).toArray:=by simp
 rw[ea];exact⟨.ref _,_,I.Qn (t':=s.toks) (r.append r2) (by rw[lI];lia),rfl,q _ I.fresh⟩
end
section
variable {prog:Program}{w:World}{A:Around}{E:aY}{s:Shared}
set_option maxRecDepth 100000 in
end
section
variable {X:Cx}
end
section
variable {κ:Type} [DecidableEq κ]
end
section
variable {P:Program}{w:World}{H:Hp}{h:Heap}{a:Addr}
def lz{u:HO}(ok:dN P w H h)(e:Rd H a u):cI P w H h a u:=e.ok ok
end
section
variable {X:Cx}{pins:aH}{σ:St}{H:Hp}{s:Shared}{a:Addr}{y v:V}{u r:Value}{o:Option V}{A:Around}{E:aY}
def Inv.big(I:Inv X pins σ H s):sysModules<s.heap.objs.size:=by have h:mainGlobals<s.heap.objs.size:=(I.mod.glob.keeps I.bk).lt;exact Nat.lt_trans (by decide) h
end
section
variable {X:Cx}{pins:aH}{σ:St}{H:Hp}{s:Shared}{a:Addr}{kvs:List (Key×V)}{k:Key}{u:Value}{A:Around}{E:aY}
end
section
variable {X:Cx}{o i e value:Expr}{pos pos' tpos:Pos}{td ty tv:TE}
end
def Fo{P:Program}{w:World}{H:Hp}(h:Heap)(hb:sysModules<h.objs.size):cI P w H (h.push {cls:=.type "dict",data:=.dict #[]}) h.objs.size (.dK []):=
 ⟨bw _,j2.mpr (bj (dw hb)),[],.nil,Heap.DictOf.new h⟩
def K3:TE:=fun _ H Q=>∀p,H p=none->Q (.ref p) (upd H p (.dK []))
section
variable {X:Cx}{pos:Pos}
def EX:PE X (.Dict [] [] pos) K3:=fun pins s σ H Q I h=>
 wpAny_Dict_empty ⟨.ref s.heap.objs.size,_,I.laid (a:=s.heap.objs.size) (o:=.dK []) (t':=s.toks) (fun _ _ q=>bZ _ q) (aA _) (Fo s.heap I.big),rfl,h _ (I.av.fresh (aA _))⟩
end
section
variable {X:Cx}{pins:aH}{σ:St}{H:Hp}{s:Shared}{a:Addr}{y d:V}{u r:Value}{o:Option V}{A:Around}{E:aY}
end
section
variable {X:Cx}{o e f:Expr}{apos cpos:Pos}{td ty tx:TE}
end
section
variable {X:Cx}{pins:aH}{σ:St}{H:Hp}{s:Shared}{a:Addr}{kvs:List (Key×V)}{A:Around}{E:aY}
end
section
variable {X:Cx}{pins:aH}{σ:St}{H:Hp}{s:Shared}{a:Addr}{y:V}{u:Value}{A:Around}{E:aY}
end
end L2
namespace Att
open PySem PySem.W PySem.Calls PyProof.Rows
def sN{P:Params}{h:Heap}:∀(ns:List Int)(vs:List Value),WellAll P h vs (ns.map WData.int)->IntsAre vs ns:=by
 intro ns
 induction ns with
 |nil=>
  intro vs w;rw[zX] at w;cases w;exact .nil
 |cons n ns ih=>
  intro vs w;rw[fJ] at w;cases w with
  |cons a b=>
   cases a;exact .cons _ _ (ih _ b)
def Dq{l:OpenLaw}{n:Nat}(hn:l.most=some n){P:Params}{h:Heap}{args:List WData}{vals:List Value}
  (hpre:l.row.toRowW.claim.pre args=true) (hwl:WellAll P h vals args):
  ∃a vs ns,vals=[Value.ref a]/\args=[WData.list (ns.map WData.int)]/\h.get? a=some {cls:=.type "list",data:=.seq vs.toArray}/\IntsAre vs ns/\ns.length<=n:=by
 have hsh:WShape.hasAll [] args [.list .int]=true:=(pre_splitW hpre).1;have hc:l.pre.holds [] {args:=args}=true:=(pre_splitW hpre).2;obtain⟨d,r,rfl,h1,h2⟩:=hasAllW_cons hsh;obtain rfl:=hasAllW_nil h2;obtain⟨xs,rfl,h3⟩:=hasW_list h1;obtain⟨ns,rfl⟩:=items_int h3;have hlen:ns.length<=n:=by
  unfold OpenLaw.pre at hc;have h4:(WTm.not (.lt (.lit (.int (n:Int))) (.len (.arg 0)))).holds [] {args:=[.list (ns.map .int)]}=true:=by have h4:=(holds_andW hc).1;rw[hn] at h4;exact h4
  have h5:=condW_of h4 (w_not (w_lt w_lit (w_len_list (w_arg rfl))));rw[i9] at h5;refine Nat.le_of_not_lt fun q=>?_;have q':(n:Int)<((ns.length:Nat):Int):=by lia
  first
   |(rw[bT q'] at h5;exact absurd h5 (by decide))
   |(simp at h5;lia)
 cases hwl with
 |cons w1 w2=>
  cases w2;cases w1 with
  |list ho hall=>exact⟨_,_,ns,rfl,rfl,ho,sN ns _ hall,hlen⟩
def BI(l:OpenLaw)(args:List WData):l.row.toRowW.claim.post args (.bool true) args=true:=
 postW_of (r:=l.row.toRowW) (X:=(true== true))
  (show WShape.has [] (.bool true) .bool=true by first|rfl|decide|simp[WShape.has,WShape.arms,WShape.armsAll])
  (show (WTm.eq .res (.lit (.bool true))).value [] {args:=args,res:=some (.bool true),after:=args}=some (.bool (true== true)) from w_eq_bool (w_res rfl) w_lit) rfl
def ym{l:OpenLaw}{n:Nat}{q:Program}{loose:List Str}{XP:(Str->Option Value)->Heap->Prop}{YP:World->Heap->Prop}{d:DefRec}
  (hn:l.most=some n) (hdf:d.params.defaults=[])
  (call:∀(w:World)(aL s₁:Shared)(mg mb:Str->Option Value)(fa:Addr)(o:Obj)(pm cd doc:Value)(a:Addr)(vs:List Value)(ns:List Int),
   Ground q loose [] XP w aL mg mb s₁.heap->YP w s₁.heap->
   s₁.heap.get? fa=some o->o.data=.func (docDef d.name d.params d.body d.scope pm cd doc)->s₁.heap.CodeRec cd d.name->mg d.name=some (.ref fa)->
   s₁.heap.get? a=some {cls:=.type "list",data:=.seq vs.toArray}->IntsAre vs ns->ns.length<=n->s₁.gens=#[]->
   codeAny (model l.prog w) callerA (.call (.ref fa) ⟨[.ref a],[]⟩) (fun r s'=>r=.ok (.ret (.bool true))/\OldK s₁.heap s'.heap/\s'.os=s₁.os/\AllBare s'.gens) s₁):
  WalkO q loose XP YP l.row.toRowW d [] (fun f vs=>PySem.call f vs):=by
 intro w aL s₁ mg mb G Y fa o pm cd doc dV kV ho hd hcd hD hmg hg args vals as hpre hlay hrd hwl hlo;obtain rfl:dV=.none:=Dflts.none hD hdf;obtain rfl:kV=.none:=Dflts.noKw hD;obtain⟨a,vs,ns,rfl,rfl,hobj,hints,hlen⟩:=Dq hn hpre hwl;refine enter_call (pH (call w aL s₁ mg mb fa o pm cd doc a vs ns G Y ho (fd_plain hd) hcd hmg hobj hints hlen hg) fun r s' hq=>?_);obtain⟨rfl,h2,h3,h4⟩:=hq;exact⟨.inl ⟨.bool true,.bool true,[],rfl,fun _=>rfl,.bool true,BI l _,fun _=>⟨List.Pairwise.nil,fun _ hm=>(nomatch hm)⟩⟩,h2,h3,h4⟩
section
variable {prog:Program}{w:World}{A:Around}{E:aY}{s:Shared}{K:Frag}
end
end Att
namespace L2
open PySem PySem.Spec PyProof.Rows
theorem ud:∀{vs:List Value}{ns:List Int},IntsAre vs ns->Vals (ns.map V.int) vs
 |_,_,.nil=>.nil
 |_,_,.cons n t h=>.cons ⟨t,rfl⟩ (ud h)
def cR(s:Stmt):Arguments:=match s with
 |.FunctionDef _ a _ _ _ _ _ _ _ _=>a
 |_=>{posonlyargs:=[],args:=[],vararg:=none,kwonlyargs:=[],kw_defaults:=[],kwarg:=none,defaults:=[]}
def cj(s:Stmt):List Stmt:=match s with
 |.FunctionDef _ _ b _ _ _ _ _ _ _=>b
 |_=>[]
def au(s:Stmt):Scope:=match s with
 |.FunctionDef _ _ _ _ _ _ sc _ _ _=>sc
 |_=>{kind:=.function,names:=[],isGenerator:=false,isCoroutine:=false}
noncomputable abbrev E0:XK:=fun _ _ _=>False
structure Cu(K:W.Frag)(x qual:Str)(st:Stmt)(f:Addr)(fd:FuncData):Prop where
 ex:∃(oc:Value) (od:Option Addr) (kV doc pm:Value) (an:Option Addr) (cdv ct:Value) (osl:Array (Option Value)),
  fd=W.fnOf x qual (cR st) (cj st) (au st) .none kV doc pm an cdv ct/\K.lookup f=some ⟨oc,od,.func fd,osl⟩/\W.codeIn K cdv qual=true
 kp:W.keepIn K (.ref f)=true
section
variable {P:Program}{w:World}{K:W.Frag}{mg:Str->Option Value}{base:Heap}
def rZ{x qual:Str}{st:Stmt}{f:Addr}{oc:Value}{od an:Option Addr}{osl:Array (Option Value)}{kV doc pm cdv ct:Value}(l:K.lookup f=some ⟨oc,od,.func (W.fnOf x qual (cR st) (cj st) (au st) .none kV doc pm an cdv ct),osl⟩)
  (c:W.codeIn K cdv qual=true) (k:W.keepIn K (.ref f)=true):Cu K x qual st f (W.fnOf x qual (cR st) (cj st) (au st) .none kV doc pm an cdv ct):=⟨⟨oc,od,kV,doc,pm,an,cdv,ct,osl,rfl,l,c⟩,k⟩
end
section
variable {X:Cx}
end
def AG(H H':Hp):Prop:=∀b o,H b=some o->H' b=some o
def AG.trans{H H1 H2:Hp}(a:AG H H1)(b:AG H1 H2):AG H H2:=fun c o h=>b c o (a c o h)
section
variable {κ:Type} [DecidableEq κ]
end
end L2
namespace Tw
noncomputable abbrev S:=List Nat
set_option genInjectivity true in
inductive W where
 |ah|bl (b:Bool)|int (i:Int)|str (x:S)|tup (xs:List W)|ref (a:Nat)
 |lst (xs:List W)
set_option genInjectivity true in
inductive O where
 |lst (xs:List W)
 |aV (xs:List W)
 |fD (kvs:List (W×W))
 |ins (c:S) (fs:List (S×W))
 |aw (c:S) (fs:List (S×W))
 |fun (f:Nat) (ws:List W)
 |dead
noncomputable abbrev Hp:=List O
inductive R(α:Type) where
 |ok (a:α) (h:Hp)
 |aw (a:Nat) (h:Hp)
 |bad
namespace R
def bind{α β:Type}(m:R α)(k:α->Hp->R β):R β:=match m with
 |.ok a h=>k a h
 |.aw a h=>.aw a h
 |.bad=>.bad
@[simp] theorem aZ{α β:Type}(a:α)(h:Hp)(k:α->Hp->R β):(R.ok a h).bind k=k a h:=rfl
@[simp] theorem D6{α β:Type}(a:Nat)(h:Hp)(k:α->Hp->R β):(R.aw a h).bind k=.aw a h:=rfl
@[simp] theorem Rc{α β:Type}(k:α->Hp->R β):(R.bad:R α).bind k=.bad:=rfl
def of{α:Type}(o:Option α)(h:Hp):R α:=match o with
 |some a=>.ok a h
 |none=>.bad
@[simp] theorem Hk{α:Type}(a:α)(h:Hp):R.of (some a) h=.ok a h:=rfl
@[simp] theorem of_none{α:Type}(h:Hp):R.of (none:Option α) h=.bad:=rfl
end R
def SZ:Nat:=2 ^ 24
mutual
noncomputable def bz:W->W->Bool
 |.ah,.ah=>true
 |.bl a,.bl b=>decide (a=b)
 |.int a,.int b=>decide (a=b)
 |.bl a,.int b=>decide ((if a then 1 else 0)=b)
 |.int a,.bl b=>decide (a=(if b then 1 else 0))
 |.str a,.str b=>decide (a=b)
 |.tup xs,.tup ys=>oY xs ys
 |.lst xs,.lst ys=>oY xs ys
 |_,_=>false
@[simp] noncomputable def oY:List W->List W->Bool
 |[],[]=>true
 |x::xs,y::ys=>bz x y&&oY xs ys
 |_,_=>false
end
@[simp] theorem MU:bz .ah .ah=true:=rfl
@[simp] theorem Nn(b2:Bool):bz .ah (.bl b2)=false:=rfl
@[simp] theorem MJ(i2:Int):bz .ah (.int i2)=false:=rfl
@[simp] theorem MR(x2:S):bz .ah (.str x2)=false:=rfl
@[simp] theorem MK(t2:List W):bz .ah (.tup t2)=false:=rfl
@[simp] theorem MQ(l2:List W):bz .ah (.lst l2)=false:=rfl
@[simp] theorem M3(b1:Bool):bz (.bl b1) .ah=false:=rfl
@[simp] theorem Pc(b1:Bool)(b2:Bool):bz (.bl b1) (.bl b2)=decide (b1=b2):=rfl
@[simp] theorem NC(b1:Bool)(i2:Int):bz (.bl b1) (.int i2)=decide ((if b1 then 1 else 0)=i2):=rfl
@[simp] theorem NT(b1:Bool)(x2:S):bz (.bl b1) (.str x2)=false:=rfl
@[simp] theorem N5(b1:Bool)(t2:List W):bz (.bl b1) (.tup t2)=false:=rfl
@[simp] theorem Nu(b1:Bool)(l2:List W):bz (.bl b1) (.lst l2)=false:=rfl
@[simp] theorem M1(i1:Int):bz (.int i1) .ah=false:=rfl
@[simp] theorem Na(i1:Int)(b2:Bool):bz (.int i1) (.bl b2)=decide (i1=(if b2 then 1 else 0)):=rfl
@[simp] theorem MX(i1:Int)(i2:Int):bz (.int i1) (.int i2)=decide (i1=i2):=rfl
@[simp] theorem MT(i1:Int)(x2:S):bz (.int i1) (.str x2)=false:=rfl
@[simp] theorem MV(i1:Int)(t2:List W):bz (.int i1) (.tup t2)=false:=rfl
@[simp] theorem MO(i1:Int)(l2:List W):bz (.int i1) (.lst l2)=false:=rfl
@[simp] theorem MZ(x1:S):bz (.str x1) .ah=false:=rfl
@[simp] theorem Od(x1:S)(b2:Bool):bz (.str x1) (.bl b2)=false:=rfl
@[simp] theorem ML(x1:S)(i2:Int):bz (.str x1) (.int i2)=false:=rfl
@[simp] theorem yd(x1:S)(x2:S):bz (.str x1) (.str x2)=decide (x1=x2):=rfl
@[simp] theorem MG(x1:S)(t2:List W):bz (.str x1) (.tup t2)=false:=rfl
@[simp] theorem MW(x1:S)(l2:List W):bz (.str x1) (.lst l2)=false:=rfl
@[simp] theorem MN(t1:List W):bz (.tup t1) .ah=false:=rfl
@[simp] theorem Nc(t1:List W)(b2:Bool):bz (.tup t1) (.bl b2)=false:=rfl
@[simp] theorem MP(t1:List W)(i2:Int):bz (.tup t1) (.int i2)=false:=rfl
@[simp] theorem MF(t1:List W)(x2:S):bz (.tup t1) (.str x2)=false:=rfl
@[simp] theorem yb(t1:List W)(t2:List W):bz (.tup t1) (.tup t2)=oY t1 t2:=rfl
@[simp] theorem MY(t1:List W)(l2:List W):bz (.tup t1) (.lst l2)=false:=rfl
@[simp] theorem M0(l1:List W):bz (.lst l1) .ah=false:=rfl
@[simp] theorem Ox(l1:List W)(b2:Bool):bz (.lst l1) (.bl b2)=false:=rfl
@[simp] theorem MH(l1:List W)(i2:Int):bz (.lst l1) (.int i2)=false:=rfl
@[simp] theorem MM(l1:List W)(x2:S):bz (.lst l1) (.str x2)=false:=rfl
@[simp] theorem MI(l1:List W)(t2:List W):bz (.lst l1) (.tup t2)=false:=rfl
@[simp] theorem ya(l1:List W)(l2:List W):bz (.lst l1) (.lst l2)=oY l1 l2:=rfl
mutual
noncomputable def W.deep:W->Nat
 |.tup xs=>bA xs+1
 |.lst xs=>bA xs+1
 |_=>0
noncomputable def bA:List W->Nat
 |[]=>0
 |x::xs=>max x.deep (bA xs)
end
def vN(f:W->Option W):List W->Option (List W)
 |[]=>some []
 |x::xs=>match f x,vN f xs with
  |some d,some ds=>some (d::ds)
  |_,_=>none
def rd(h:Hp):Nat->W->Option W
 |0,w=>match w with
  |.ah=>some .ah
  |.bl b=>some (.bl b)
  |.int i=>some (.int i)
  |.str x=>some (.str x)
  |_=>none
 |n+1,w=>match w with
  |.ah=>some .ah
  |.bl b=>some (.bl b)
  |.int i=>some (.int i)
  |.str x=>some (.str x)
  |.tup xs=>(vN (rd h n) xs).map .tup
  |.ref a=>match h[a]? with
   |some (.lst xs)=>(vN (rd h n) xs).map .lst
   |some (.aV xs)=>(vN (rd h n) xs).map .lst
   |_=>none
  |.lst _=>none
noncomputable def gT(h:Hp)(n:Nat)(xs:List W):Option (List W):=vN (rd h n) xs
@[simp] theorem Iy(h:Hp)(n:Nat):gT h n []=some []:=rfl
@[simp] theorem wj(h:Hp)(n:Nat)(x:W)(xs:List W):gT h n (x::xs)=(match rd h n x,gT h n xs with
  |some d,some ds=>some (d::ds)
  |_,_=>none):=rfl
@[simp] theorem SD(h:Hp)(n:Nat):rd h n .ah=some .ah:=by cases n<;>rfl
@[simp] theorem T5(h:Hp)(n:Nat)(b:Bool):rd h n (.bl b)=some (.bl b):=by cases n<;>rfl
@[simp] theorem Tj(h:Hp)(n:Nat)(b:Int):rd h n (.int b)=some (.int b):=by cases n<;>rfl
@[simp] theorem S5(h:Hp)(n:Nat)(b:S):rd h n (.str b)=some (.str b):=by cases n<;>rfl
@[simp] theorem IG(h:Hp)(n:Nat)(xs:List W):rd h (n+1) (.tup xs)=(gT h n xs).map .tup:=rfl
@[simp] theorem JJ(h:Hp)(n:Nat)(xs:List W):rd h n (.lst xs)=none:=by cases n<;>rfl
@[simp] theorem C8(h:Hp)(n:Nat)(a:Nat):rd h (n+1) (.ref a)=(match h[a]? with
   |some (.lst xs)=>(gT h n xs).map .lst
   |some (.aV xs)=>(gT h n xs).map .lst
   |_=>none):=rfl
@[simp] noncomputable def isKey:W->Bool
 |.int _=>true
 |.str _=>true
 |_=>false
@[simp] noncomputable def Gz:W->W->Bool
 |.int a,.int b=>a== b
 |.str a,.str b=>a== b
 |_,_=>false
@[simp] def RQ(k:W):List (W×W)->Option W
 |[]=>none
 |(j,v)::r=>if Gz j k then some v else RQ k r
@[simp] def dput(k v:W):List (W×W)->List (W×W)
 |[]=>[(k,v)]
 |(j,u)::r=>if Gz j k then (j,v)::r else (j,u)::dput k v r
def cS(h:Hp):W->Option (List (W×W))
 |.ref a=>match h[a]? with
  |some (.fD kvs)=>some kvs
  |_=>none
 |_=>none
def dB(h:Hp)(x y:W):Option Bool:=match cS h x,cS h y with
 |some _,some _=>none
 |none,none=>match rd h 900 x,rd h 900 y with
  |some a,some b=>some (bz a b)
  |_,_=>none
 |_,_=>none
@[simp] theorem Sm(h:Hp)(a b:Int):dB h (.int a) (.int b)=some (decide (a=b)):=by simp[dB,cS,rd,bz]
@[simp] theorem Sj(h:Hp)(a b:S):dB h (.str a) (.str b)=some (decide (a=b)):=by simp[dB,cS,rd,bz]
inductive Op|add|sub|mul|fdiv|mod|pow
 deriving DecidableEq
inductive Cp|eq|ne|lt|le|gt|ge|isin|notin|notN
 deriving DecidableEq
inductive B|len|list|tuple|int
 deriving DecidableEq
inductive Mt|append|pop|rev
 deriving DecidableEq
set_option genInjectivity false
set_option genSizeOfSpec false
mutual
inductive E where
 |var (i:Nat)
 |cst (w:W)
 |tup (es:Es)
 |lst (es:Es)
 |fD (es:Es)
 |bin (op:Op) (a b:E)
 |cmp (op:Cp) (a b:E)
 |and (a b:E)
 |or (a b:E)
 |not (a:E)
 |ite (c a b:E)
 |idx (a b:E)
 |sl (a:E) (lo hi:Eo)
 |call (f:Nat) (es:Es)
 |blt (b:B) (a:E)
 |fB (m:Mt) (o:E) (es:Es)
 |comp (elt:E) (it:It) (c:Eo)
 |bad
 |fld (a:E) (x:S)
 |mk (c:S) (f:Nat) (es:Es)
 |iW (a:E) (ns ds cs:List S)
 |nE (i:Nat) (es:Es)
 |own (o:E) (c m:S) (f:Nat) (es:Es)
 |uk (a:E)
 |rC (k:E) (g:List (S×Int))
 |sD (k:E) (g:List (S×Int))
 |jB (k:E) (g:List (S×Int))
inductive Es where
 |nil
 |cons (e:E) (es:Es)
inductive Eo where
 |none
 |some (e:E)
inductive It where
 |seq (e:E)
 |ml (e:E)
 |rev (e:E)
 |tm (a b:E)
end
inductive Tg where
 |var (i:Nat)
 |two (i j:Nat)
inductive Hs where
 |ret (e:E)
 |set (i:Nat) (e:E)
 |wb (c e:E)
abbrev Hd:=S×List S×Nat×List Hs
inductive Tb where
 |vM (f:Nat) (es:Es)
inductive St where
 |expr (e:E)
 |ret (e:E)
 |set (i:Nat) (e:E)
 |put (o k e:E)
 |iff (c:E) (a b:List St)
 |for (t:Tg) (it:It) (b:List St)
 |bad
 |fput (o:E) (x:S) (e:E)
 |oh (c:E) (b:List St)
 |raise (c:S) (xs:List S) (es:Es)
 |qG (b:List Tb) (hs:List Hd)
 |oC (i j:Nat) (e:E)
 |aug (i:Nat) (op:Op) (e:E)
 |oI (i j k:Nat) (e:E)
 |lC (j fw:Nat) (a b:E) (f:Nat) (ks:List Nat)
set_option genInjectivity true
set_option genSizeOfSpec true
noncomputable abbrev Env:=List (Option W)
@[simp] def truth(h:Hp):W->Option Bool
 |.bl b=>some b
 |_=>none
@[simp] def items(h:Hp):W->Option (List W)
 |.ref a=>match h[a]? with
  |some (.lst xs)=>some xs
  |some (.aV xs)=>some xs
  |_=>none
 |_=>none
@[simp] def JR(h:Hp):W->Option (List W)
 |.tup xs=>some xs
 |w=>items h w
@[simp] def new(o:O)(h:Hp):R W:=.ok (.ref h.length) (h++[o])
noncomputable def gL(xs:List W)(h:Hp):R W:=if xs.length<=SZ then new (.lst xs) h else .bad
noncomputable def small(i:Int):Bool:=decide (-(2 ^ 64)<i)&&decide (i<2 ^ 64)
@[simp] def binI(op:Op)(i j:Int):Option Int:=match op with
 |.add=>some (i+j)
 |.sub=>some (i-j)
 |.mul=>if small i || small j then some (i * j) else none
 |.fdiv=>if 0<j/\j<1073741824 then some (i / j) else none
 |.mod=>if 0<j then some (i % j) else none
 |.pow=>if 0<=j/\j<=1000000/\i.natAbs<2 ^ 64 then some (i ^ j.toNat) else none
@[simp] def bin(op:Op)(x y:W)(h:Hp):R W:=match x,y with
 |.int i,.int j=>R.of ((binI op i j).map .int) h
 |.tup a,.tup b=>if op=.add/\a.length+b.length<=SZ then .ok (.tup (a++b)) h else .bad
 |.ref a,.ref b=>match h[a]?,h[b]? with
  |some (.lst xs),some (.lst ys)=>if op=.add/\xs.length+ys.length<=SZ then new (.lst (xs++ys)) h else .bad
  |_,_=>.bad
 |_,_=>.bad
def isIn(x y:W)(h:Hp):Option Bool:=match JR h y with
 |some xs=>match rd h 60 x,gT h 60 xs with
  |some a,some ds=>some (ds.any fun z=>bz z a)
  |_,_=>none
 |none=>none
@[simp] def cmp(op:Cp)(x y:W)(h:Hp):Option Bool:=match op with
 |.eq=>dB h x y
 |.ne=>(dB h x y).map (!·)
 |.lt=>match x,y with | .int i,.int j=>some (decide (i<j))|_,_=>none
 |.le=>match x,y with | .int i,.int j=>some (decide (i<=j))|_,_=>none
 |.gt=>match x,y with | .int i,.int j=>some (decide (j<i))|_,_=>none
 |.ge=>match x,y with | .int i,.int j=>some (decide (j<=i))|_,_=>none
 |.isin=>isIn x y h
 |.notin=>(isIn x y h).map (!·)
 |.notN=>match y with | .ah=>some (match x with | .ah=>false|_=>true)|_=>none
noncomputable def i0(n:Nat)(i:Int):Option Nat:=if 0<=i then (if i<n then some i.toNat else none) else if -(n:Int)<=i then some (i+n).toNat else none
def dM{α:Type}(xs:List α)(i:Int):Option α:=(i0 xs.length i).bind fun j=>xs[j]?
@[simp] def idx(x y:W)(h:Hp):R W:=match x,y with
 |.tup xs,.int i=>R.of (dM xs i) h
 |.ref a,y=>match h[a]?,y with
  |some (.lst xs),.int i=>R.of (dM xs i) h
  |some (.aV xs),.int i=>R.of (dM xs i) h
  |_,_=>.bad
 |_,_=>.bad
def bL(n d:Nat):Option Int->Nat
 |none=>d
 |some v=>if v<0 then (v+n).toNat else min v.toNat n
noncomputable def cut{α:Type}(xs:List α)(lo hi:Option Int):List α:=(xs.drop (bL xs.length 0 lo)).take (bL xs.length xs.length hi-bL xs.length 0 lo)
@[simp] noncomputable def iG:Option W->Option (Option Int)
 |none=>some none
 |some (.int i)=>some (some i)
 |_=>none
@[simp] def slice(x:W)(lo hi:Option W)(h:Hp):R W:=match iG lo,iG hi with
 |some l,some u=>match x with
  |.tup xs=>if bL xs.length 0 l=0/\bL xs.length xs.length u=xs.length then .bad else .ok (.tup (cut xs l u)) h
  |_=>.bad
 |_,_=>.bad
@[simp] def builtin(b:B)(x:W)(h:Hp):R W:=match b with
 |.len=>match x with
  |.tup xs=>.ok (.int xs.length) h
  |.ref a=>match h[a]? with
   |some (.lst xs)=>.ok (.int xs.length) h
   |some (.aV xs)=>.ok (.int xs.length) h
   |_=>.bad
  |_=>.bad
 |.list=>match x with
  |.tup xs=>new (.lst xs) h
  |.ref a=>match h[a]? with
   |some (.lst xs)=>new (.lst xs) h
   |some (.aV xs)=>new (.lst xs) h
   |_=>.bad
  |_=>.bad
 |.tuple=>match x with
  |.ref a=>match h[a]? with
   |some (.lst xs)=>.ok (.tup xs) h
   |_=>.bad
  |_=>.bad
 |.int=>match x with
  |.int i=>.ok (.int i) h
  |.bl b=>.ok (.int (if b then 1 else 0)) h
  |_=>.bad
@[simp] noncomputable def method(m:Mt)(o:W)(xs:List W)(h:Hp):R W:=match m,o,xs with
 |.append,.ref a,[x]=>match h[a]? with
  |some (.lst ys)=>if ys.length<SZ then .ok .ah (h.set a (.lst (ys++[x]))) else .bad
  |_=>.bad
 |.pop,.ref a,[]=>match h[a]? with
  |some (.lst ys)=>match ys.getLast? with
   |some y=>.ok y (h.set a (.lst ys.dropLast))
   |none=>.bad
  |_=>.bad
 |.rev,.ref a,[]=>match h[a]? with
  |some (.lst ys)=>.ok .ah (h.set a (.lst ys.reverse))
  |_=>.bad
 |_,_,_=>.bad
@[simp] def kX(m:Mt)(x:W)(h:Hp):Bool:=match m,x with
 |.append,.ref a=>match h[a]? with
  |some (.lst _)=>true
  |_=>false
 |.pop,.ref a=>match h[a]? with
  |some (.lst _)=>true
  |_=>false
 |.rev,.ref a=>match h[a]? with
  |some (.lst _)=>true
  |_=>false
 |_,_=>false
@[simp] def kn(o k v:W)(h:Hp):R Unit:=match o with
 |.ref a=>match h[a]?,k with
  |some (.lst xs),.int i=>match i0 xs.length i with
   |some j=>.ok () (h.set a (.lst (xs.set j v)))
   |none=>.bad
  |_,_=>.bad
 |_=>.bad
@[simp] noncomputable def uZ:List W->List (W×W)->Option (List (W×W))
 |[],acc=>some acc
 |k::v::r,acc=>if isKey k then uZ r (dput k v acc) else none
 |[_],_=>none
def upTo(lo:Int):Nat->List W
 |0=>[]
 |n+1=>.int lo::upTo (lo+1) n
abbrev Or:=Nat->List W->Hp->R W
inductive Fl where
 |next (σ:Env)|ret (w:W)|brk (σ:Env)|cont (σ:Env)
inductive Src where
 |fix (xs:List W)
 |at (a:Nat) (n:Nat)
 |rv (a:Nat) (n:Nat)
def R.fY{α:Type}(m:R α):R α:=match m with
 |.aw _ _=>.bad
 |m=>m
@[simp] theorem R.kr{α:Type}(a:α)(h:Hp):(R.ok a h).fY=.ok a h:=rfl
@[simp] theorem R.So{α:Type}:(R.bad:R α).fY=.bad:=rfl
@[simp] theorem R.Si{α:Type}(a:Nat)(h:Hp):(R.aw a h:R α).fY=.bad:=rfl
def eC(h:Hp)(a:Nat):Option (List W):=match h[a]? with
 |some (.lst xs)=>some xs
 |some (.aV xs)=>some xs
 |_=>none
@[simp] noncomputable def gj(k:W->List W->Hp->R (List W)):List W->List W->Hp->R (List W)
 |[],acc,h=>.ok acc h
 |x::xs,acc,h=>(k x acc h).bind fun acc h=>gj k xs acc h
noncomputable def dR(a:Nat)(k:W->List W->Hp->R (List W)):Nat->Nat->List W->Hp->R (List W)
 |n,i,acc,h=>match eC h a with
  |none=>.bad
  |some ys=>match ys[i]? with
   |none=>.ok acc h
   |some x=>match n with
    |0=>.bad
    |n+1=>(k x acc h).bind fun acc h=>dR a k n (i+1) acc h
@[simp] def walk(s:Src)(k:W->List W->Hp->R (List W))(h:Hp):R (List W):=match s with
 |.fix xs=>gj k xs [] h
 |.at a n=>dR a k n 0 [] h
 |.rv _ _=>.bad
@[irreducible] noncomputable def cJ(j:Int):Bool:=decide (-(2 ^ 62)<=j)&&decide (j<2 ^ 62)
@[simp] def src(h:Hp):W->Option Src
 |.tup xs=>some (.fix xs)
 |.ref a=>match h[a]? with
  |some (.lst xs)=>some (.at a xs.length)
  |some (.aV xs)=>some (.at a xs.length)
  |_=>none
 |_=>none
@[simp] def mD(h:Hp):Option W->Option Bool
 |none=>some true
 |some t=>truth h t
noncomputable def nD(c:Env->Hp->R (Option W))(elt:Env->Hp->R W)(σ:Env)(x:W)(acc:List W)(h:Hp):R (List W):=
 (c (σ++[some x]) h).fY.bind fun t h=>match mD h t with
  |none=>.bad
  |some true=>(elt (σ++[some x]) h).fY.bind fun y h=>.ok (acc++[y]) h
  |some false=>.ok acc h
@[simp] def field(w:W)(x:S)(h:Hp):Option W:=match w with
 |.ref a=>match h[a]? with
  |some (.ins _ fs)=>fs.lookup x
  |_=>none
 |_=>none
@[simp] def jq(w:W)(c m:S)(h:Hp):Bool:=match w with
 |.ref a=>match h[a]? with
  |some (.ins c' fs)=>decide (c'=c)&&(fs.lookup m).isNone
  |_=>false
 |_=>false
@[simp] def pC(w:W)(ds cs:List S)(h:Hp):Option Bool:=match w with
 |.ref a=>match h[a]? with
  |some (.aw c _)=>if ds.contains c then some (cs.contains c) else none
  |_=>none
 |_=>none
def jW(x:S)(v:W):List (S×W)->List (S×W)
 |[]=>[(x,v)]
 |(y,u)::r=>if y=x then (y,v)::r else (y,u)::jW x v r
@[simp] def putField(w:W)(x:S)(v:W)(h:Hp):R Unit:=match w with
 |.ref a=>match h[a]? with
  |some (.ins c fs)=>if fs.length<1000 then .ok () (h.set a (.ins c (jW x v fs))) else .bad
  |_=>.bad
 |_=>.bad
mutual
noncomputable def af(C:Or):E->Env->Hp->R W
 |.var i,σ,h=>match σ[i]? with
  |some (some w)=>.ok w h
  |_=>.bad
 |.cst w,_,h=>.ok w h
 |.tup es,σ,h=>(cG C es σ h).bind fun xs h=>.ok (.tup xs) h
 |.lst es,σ,h=>(cG C es σ h).bind fun xs h=>new (.lst xs) h
 |.fD es,σ,h=>(cG C es σ h).bind fun xs h=>match uZ xs [] with
  |some kvs=>new (.fD kvs) h
  |none=>.bad
 |.bin op a b,σ,h=>(af C a σ h).bind fun x h=>(af C b σ h).bind fun y h=>bin op x y h
 |.cmp op a b,σ,h=>(af C a σ h).bind fun x h=>(af C b σ h).bind fun y h=>R.of ((cmp op x y h).map .bl) h
 |.and a b,σ,h=>(af C a σ h).bind fun x h=>match x with
  |.bl true=>af C b σ h
  |.bl false=>.ok (.bl false) h
  |_=>.bad
 |.or a b,σ,h=>(af C a σ h).bind fun x h=>match x with
  |.bl false=>af C b σ h
  |.bl true=>.ok (.bl true) h
  |_=>.bad
 |.not a,σ,h=>(af C a σ h).bind fun x h=>R.of ((truth h x).map fun b=>.bl (!b)) h
 |.ite c a b,σ,h=>(af C c σ h).bind fun x h=>match truth h x with
  |some true=>af C a σ h
  |some false=>af C b σ h
  |none=>.bad
 |.idx a b,σ,h=>(af C a σ h).bind fun x h=>(af C b σ h).bind fun y h=>idx x y h
 |.sl a lo hi,σ,h=>(af C a σ h).bind fun x h=>(gH C lo σ h).bind fun l h=>(gH C hi σ h).fY.bind fun u h=>slice x l u h
 |.call f es,σ,h=>(cG C es σ h).bind fun xs h=>C f xs h
 |.blt b a,σ,h=>(af C a σ h).bind fun x h=>builtin b x h
 |.fB m o es,σ,h=>(af C o σ h).bind fun x h=>if kX m x h then (cG C es σ h).bind fun xs h=>method m x xs h else .bad
 |.comp elt it c,σ,h=>(eM C it σ h).bind fun s h=>(walk s (nD (fun σ h=>gH C c σ h) (fun σ h=>af C elt σ h) σ) h).bind gL
 |.bad,_,_=>.bad
 |.fld a x,σ,h=>(af C a σ h).bind fun w h=>R.of (field w x h) h
 |.mk c f es,σ,h=>(cG C es σ h).bind fun xs h=>(C (f+1000) (.ref h.length::xs) (h++[.ins c []])).bind fun r h'=>match r with
  |.ah=>.ok (.ref h.length) h'
  |_=>.bad
 |.iW a _ ds cs,σ,h=>(af C a σ h).bind fun x h=>R.of ((pC x ds cs h).map .bl) h
 |.nE i es,σ,h=>match σ[i]? with
  |some (some (.ref a))=>match h[a]? with
   |some (.fun f ws)=>(cG C es σ h).bind fun xs h=>C f (xs++ws) h
   |_=>.bad
  |_=>.bad
 |.own o c m f es,σ,h=>(af C o σ h).bind fun x h=>if jq x c m h then (cG C es σ h).bind fun xs h=>C f (x::xs) h else .bad
 |.uk a,σ,h=>(af C a σ h).bind fun x h=>match x with
  |.bl _=>.ok (.bl true) h
  |_=>.bad
 |.rC k g,σ,h=>(af C k σ h).bind fun x h=>match x with
  |.str s=>.ok (.bl (g.lookup s).isSome) h
  |_=>.bad
 |.sD k g,σ,h=>(af C k σ h).bind fun x h=>match x with
  |.str s=>R.of ((g.lookup s).map .int) h
  |_=>.bad
 |.jB k g,σ,h=>(af C k σ h).bind fun x h=>match x with
  |.str s=>.ok (.int ((g.lookup s).getD 0)) h
  |_=>.bad
noncomputable def cG(C:Or):Es->Env->Hp->R (List W)
 |.nil,_,h=>.ok [] h
 |.cons e es,σ,h=>(af C e σ h).bind fun x h=>(cG C es σ h).bind fun xs h=>.ok (x::xs) h
noncomputable def gH(C:Or):Eo->Env->Hp->R (Option W)
 |.none,_,h=>.ok none h
 |.some e,σ,h=>(af C e σ h).bind fun x h=>.ok (some x) h
noncomputable def eM(C:Or):It->Env->Hp->R Src
 |.seq e,σ,h=>(af C e σ h).bind fun x h=>R.of (src h x) h
 |.ml e,σ,h=>(af C e σ h).bind fun x h=>match x with
  |.int j=>if cJ j then .ok (.fix (upTo 0 j.toNat)) h else .bad
  |_=>.bad
 |.rev e,σ,h=>(af C e σ h).bind fun x h=>match x with
  |.tup xs=>.ok (.fix xs.reverse) h
  |.ref a=>match h[a]? with
   |some (.lst xs)=>.ok (.rv a xs.length) h
   |_=>.bad
  |_=>.bad
 |.tm a b,σ,h=>(af C a σ h).bind fun x h=>(af C b σ h).bind fun y h=>match x,y with
  |.int i,.int j=>if cJ i&&cJ j then .ok (.fix (upTo i (j-i).toNat)) h else .bad
  |_,_=>.bad
end
@[simp] theorem yQ(C:Or)(i:Nat)(σ:Env)(h:Hp):af C (.var i) σ h=(match σ[i]? with
  |some (some w)=>.ok w h
  |_=>.bad):=rfl
@[simp] theorem zb(C:Or)(w:W)(σ:Env)(h:Hp):af C (.cst w) σ h=(.ok w h):=rfl
@[simp] theorem R8(C:Or)(es:Es)(σ:Env)(h:Hp):af C (.tup es) σ h=((cG C es σ h).bind fun xs h=>.ok (.tup xs) h):=rfl
@[simp] theorem R9(C:Or)(es:Es)(σ:Env)(h:Hp):af C (.lst es) σ h=((cG C es σ h).bind fun xs h=>new (.lst xs) h):=rfl
@[simp] theorem GW(C:Or)(es:Es)(σ:Env)(h:Hp):af C (.fD es) σ h=((cG C es σ h).bind fun xs h=>match uZ xs [] with
  |some kvs=>new (.fD kvs) h
  |none=>.bad):=rfl
@[simp] theorem Ih(C:Or)(op:Op)(a:E)(b:E)(σ:Env)(h:Hp):af C (.bin op a b) σ h=((af C a σ h).bind fun x h=>(af C b σ h).bind fun y h=>bin op x y h):=rfl
@[simp] theorem HD(C:Or)(op:Cp)(a:E)(b:E)(σ:Env)(h:Hp):af C (.cmp op a b) σ h=((af C a σ h).bind fun x h=>(af C b σ h).bind fun y h=>R.of ((cmp op x y h).map .bl) h):=rfl
@[simp] theorem H9(C:Or)(a:E)(b:E)(σ:Env)(h:Hp):af C (.and a b) σ h=((af C a σ h).bind fun x h=>match x with
  |.bl true=>af C b σ h
  |.bl false=>.ok (.bl false) h
  |_=>.bad):=rfl
@[simp] theorem K9(C:Or)(a:E)(b:E)(σ:Env)(h:Hp):af C (.or a b) σ h=((af C a σ h).bind fun x h=>match x with
  |.bl false=>af C b σ h
  |.bl true=>.ok (.bl true) h
  |_=>.bad):=rfl
@[simp] theorem He(C:Or)(a:E)(σ:Env)(h:Hp):af C (.not a) σ h=((af C a σ h).bind fun x h=>R.of ((truth h x).map fun b=>.bl (!b)) h):=rfl
@[simp] theorem Hy(C:Or)(c:E)(a:E)(b:E)(σ:Env)(h:Hp):af C (.ite c a b) σ h=((af C c σ h).bind fun x h=>match truth h x with
  |some true=>af C a σ h
  |some false=>af C b σ h
  |none=>.bad):=rfl
@[simp] theorem Sb(C:Or)(a:E)(b:E)(σ:Env)(h:Hp):af C (.idx a b) σ h=((af C a σ h).bind fun x h=>(af C b σ h).bind fun y h=>idx x y h):=rfl
@[simp] theorem S8(C:Or)(a:E)(lo:Eo)(hi:Eo)(σ:Env)(h:Hp):af C (.sl a lo hi) σ h=((af C a σ h).bind fun x h=>(gH C lo σ h).bind fun l h=>(gH C hi σ h).fY.bind fun u h=>slice x l u h):=rfl
@[simp] theorem QA(C:Or)(f:Nat)(es:Es)(σ:Env)(h:Hp):af C (.call f es) σ h=((cG C es σ h).bind fun xs h=>C f xs h):=rfl
@[simp] theorem HJ(C:Or)(b:B)(a:E)(σ:Env)(h:Hp):af C (.blt b a) σ h=((af C a σ h).bind fun x h=>builtin b x h):=rfl
@[simp] theorem zB(C:Or)(m:Mt)(o:E)(es:Es)(σ:Env)(h:Hp):af C (.fB m o es) σ h=((af C o σ h).bind fun x h=>if kX m x h then (cG C es σ h).bind fun xs h=>method m x xs h else .bad):=rfl
theorem nA(C:Or)(elt:E)(it:It)(c:Eo)(σ:Env)(h:Hp):af C (.comp elt it c) σ h=((eM C it σ h).bind fun s h=>(walk s (nD (gH C c) (af C elt) σ) h).bind gL):=rfl
@[simp] theorem tL(C:Or)(σ:Env)(h:Hp):af C .bad σ h=.bad:=rfl
@[simp] theorem HC(C:Or)(a:E)(x:S)(σ:Env)(h:Hp):af C (.fld a x) σ h=((af C a σ h).bind fun w h=>R.of (field w x h) h):=rfl
@[simp] theorem My(C:Or)(c:S)(f:Nat)(es:Es)(σ:Env)(h:Hp):af C (.mk c f es) σ h=((cG C es σ h).bind fun xs h=>(C (f+1000) (.ref h.length::xs) (h++[.ins c []])).bind fun r h'=>match r with
  |.ah=>.ok (.ref h.length) h'
  |_=>.bad):=rfl
@[simp] theorem Ht(C:Or)(a:E)(ns ds cs:List S)(σ:Env)(h:Hp):af C (.iW a ns ds cs) σ h=((af C a σ h).bind fun x h=>R.of ((pC x ds cs h).map .bl) h):=rfl
@[simp] theorem Cs(C:Or)(i:Nat)(es:Es)(σ:Env)(h:Hp):af C (.nE i es) σ h=(match σ[i]? with
  |some (some (.ref a))=>match h[a]? with
   |some (.fun f ws)=>(cG C es σ h).bind fun xs h=>C f (xs++ws) h
   |_=>.bad
  |_=>.bad):=rfl
@[simp] theorem Sd(C:Or)(o:E)(c m:S)(f:Nat)(es:Es)(σ:Env)(h:Hp):af C (.own o c m f es) σ h=((af C o σ h).bind fun x h=>if jq x c m h then (cG C es σ h).bind fun xs h=>C f (x::xs) h else .bad):=rfl
@[simp] theorem Hl(C:Or)(a:E)(σ:Env)(h:Hp):af C (.uk a) σ h=((af C a σ h).bind fun x h=>match x with
  |.bl _=>.ok (.bl true) h
  |_=>.bad):=rfl
@[simp] theorem Hq(C:Or)(k:E)(g:List (S×Int))(σ:Env)(h:Hp):af C (.rC k g) σ h=((af C k σ h).bind fun x h=>match x with
  |.str s=>.ok (.bl (g.lookup s).isSome) h
  |_=>.bad):=rfl
@[simp] theorem HG(C:Or)(k:E)(g:List (S×Int))(σ:Env)(h:Hp):af C (.sD k g) σ h=((af C k σ h).bind fun x h=>match x with
  |.str s=>R.of ((g.lookup s).map .int) h
  |_=>.bad):=rfl
@[simp] theorem HU(C:Or)(k:E)(g:List (S×Int))(σ:Env)(h:Hp):af C (.jB k g) σ h=((af C k σ h).bind fun x h=>match x with
  |.str s=>.ok (.int ((g.lookup s).getD 0)) h
  |_=>.bad):=rfl
@[simp] theorem vE(C:Or)(e:E)(σ:Env)(h:Hp):eM C (.rev e) σ h=((af C e σ h).bind fun x h=>match x with
  |.tup xs=>.ok (.fix xs.reverse) h
  |.ref a=>match h[a]? with
   |some (.lst xs)=>.ok (.rv a xs.length) h
   |_=>.bad
  |_=>.bad):=rfl
@[simp] theorem BD(C:Or)(a b:E)(σ:Env)(h:Hp):eM C (.tm a b) σ h=((af C a σ h).bind fun x h=>(af C b σ h).bind fun y h=>match x,y with
  |.int i,.int j=>if cJ i&&cJ j then .ok (.fix (upTo i (j-i).toNat)) h else .bad
  |_,_=>.bad):=rfl
@[simp] theorem pe(C:Or)(σ:Env)(h:Hp):gH C .none σ h=(.ok none h):=rfl
@[simp] theorem oB(C:Or)(e:E)(σ:Env)(h:Hp):gH C (.some e) σ h=((af C e σ h).bind fun x h=>.ok (some x) h):=rfl
@[simp] theorem xH(C:Or)(σ:Env)(h:Hp):cG C .nil σ h=.ok [] h:=rfl
@[simp] theorem lG(C:Or)(e:E)(es:Es)(σ:Env)(h:Hp):cG C (.cons e es) σ h=((af C e σ h).bind fun x h=>(cG C es σ h).bind fun xs h=>.ok (x::xs) h):=rfl
@[simp] theorem RH(C:Or)(e:E)(σ:Env)(h:Hp):eM C (.seq e) σ h=((af C e σ h).bind fun x h=>R.of (src h x) h):=rfl
@[simp] theorem qQ(C:Or)(e:E)(σ:Env)(h:Hp):eM C (.ml e) σ h=((af C e σ h).bind fun x h=>match x with
  |.int j=>if cJ j then .ok (.fix (upTo 0 j.toNat)) h else .bad
  |_=>.bad):=rfl
@[simp] def qW(t:Tg)(x:W)(σ:Env):Option Env:=match t with
 |.var i=>some (σ.set i (some x))
 |.two i j=>match x with
  |.tup [u,v]=>some ((σ.set i (some u)).set j (some v))
  |_=>none
@[simp] noncomputable def turn(t:Tg)(k:Env->Hp->R Fl)(x:W)(σ:Env)(h:Hp)(go:Env->Hp->R Fl):R Fl:=match qW t x σ with
 |none=>.bad
 |some σ=>(k σ h).bind fun f h=>match f with
  |.next σ=>go σ h
  |.cont σ=>go σ h
  |.brk σ=>.ok (.next σ) h
  |.ret w=>.ok (.ret w) h
@[simp] def ku(t:Tg)(k:Env->Hp->R Fl):List W->Env->Hp->R Fl
 |[],σ,h=>.ok (.next σ) h
 |x::xs,σ,h=>turn t k x σ h (ku t k xs)
noncomputable def fZ(a:Nat)(t:Tg)(k:Env->Hp->R Fl):Nat->Nat->Env->Hp->R Fl
 |n,i,σ,h=>match eC h a with
  |none=>.bad
  |some ys=>match ys[i]? with
   |none=>.ok (.next σ) h
   |some x=>match n with
    |0=>.bad
    |n+1=>turn t k x σ h (fZ a t k n (i+1))
noncomputable def fT(a:Nat)(t:Tg)(k:Env->Hp->R Fl):Nat->Env->Hp->R Fl
 |0,σ,h=>.ok (.next σ) h
 |n+1,σ,h=>match eC h a with
  |none=>.bad
  |some ys=>match ys[n]? with
   |none=>.bad
   |some x=>turn t k x σ h (fT a t k n)
noncomputable def fq(c:Env->Hp->R W)(b:Env->Hp->R Fl):Nat->Env->Hp->R Fl
 |0,_,_=>.bad
 |n+1,σ,h=>(c σ h).bind fun x h=>match truth h x with
  |some true=>(b σ h).bind fun f h=>match f with
   |.next σ=>fq c b n σ h
   |.cont σ=>fq c b n σ h
   |.brk σ=>.ok (.next σ) h
   |.ret w=>.ok (.ret w) h
  |some false=>.ok (.next σ) h
  |none=>.bad
@[irreducible] def FU:Nat:=2 ^ 2000
@[simp] def turns(s:Src)(t:Tg)(k:Env->Hp->R Fl)(σ:Env)(h:Hp):R Fl:=match s with
 |.fix xs=>ku t k xs σ h
 |.at a n=>fZ a t k n 0 σ h
 |.rv a n=>fT a t k n σ h
@[simp] def JP(C:Or)(σ:Env)(h:Hp):Hs->R Fl
 |.ret e=>(af C e σ h).bind fun w h=>.ok (.ret w) h
 |.set i e=>(af C e σ h).bind fun w h=>.ok (.next (σ.set i (some w))) h
 |.wb c e=>(af C c σ h).bind fun x h=>match truth h x with
  |some true=>(af C e σ h).bind fun w h=>.ok (.ret w) h
  |some false=>.ok (.next σ) h
  |none=>.bad
@[simp] def oV(C:Or):List Hs->Env->Hp->R Fl
 |[],σ,h=>.ok (.next σ) h
 |a::r,σ,h=>(JP C σ h a).bind fun f h=>match f with
  |.next σ=>oV C r σ h
  |f=>.ok f h
@[simp] def kZ(c:S):List Hd->Option (Nat×List Hs)
 |[]=>none
 |(_,cs,j,a)::r=>if cs.contains c then some (j,a) else kZ c r
@[simp] def Mm(j:Nat):Fl->Fl
 |.next σ=>.next (σ.set j none)
 |.brk σ=>.brk (σ.set j none)
 |.cont σ=>.cont (σ.set j none)
 |.ret w=>.ret w
noncomputable def lT(hs:List Hd)(C:Or)(σ:Env)(m:R Fl):R Fl:=match m with
 |.ok (.next _) h=>.ok (.next σ) h
 |.ok (.ret w) h=>.ok (.ret w) h
 |.ok _ _=>.bad
 |.aw a h=>match h[a]? with
  |some (.aw c _)=>match kZ c hs with
   |some (j,act)=>(oV C act (σ.set j (some (.ref a))) h).fY.bind fun fl h=>.ok (Mm j fl) h
   |none=>.bad
  |_=>.bad
 |.bad=>.bad
@[simp] def vv(C:Or)(σ:Env)(h:Hp):Tb->R Fl
 |.vM f es=>(cG C es σ h).fY.bind fun xs h=>(C f xs h).bind fun w h=>.ok (.ret w) h
@[simp] def jw(C:Or)(σ:Env):List Tb->Hp->R Fl
 |[],h=>.ok (.next σ) h
 |t::r,h=>(vv C σ h t).bind fun f h=>match f with
  |.next _=>jw C σ r h
  |f=>.ok f h
def j7(σ:Env):List Nat->Option (List W)
 |[]=>some []
 |i::r=>match σ[i]?,j7 σ r with
  |some (some w),some ws=>some (w::ws)
  |_,_=>none
def ou(i:Nat):R W->R Fl
 |.ok w h=>.ok (.ret w) (h.set i .dead)
 |.aw a h=>.aw a (h.set i .dead)
 |.bad=>.bad
noncomputable def qj(c:S)(xs:List S)(ws:List W)(h:Hp):R Fl:=if ws.length=xs.length then .aw h.length (h++[.aw c (xs.zip ws)]) else .bad
mutual
noncomputable def dA(C:Or):St->Env->Hp->R Fl
 |.expr e,σ,h=>(af C e σ h).bind fun _ h=>.ok (.next σ) h
 |.ret e,σ,h=>(af C e σ h).bind fun x h=>.ok (.ret x) h
 |.set i e,σ,h=>(af C e σ h).bind fun x h=>.ok (.next (σ.set i (some x))) h
 |.put o k e,σ,h=>(af C e σ h).bind fun v h=>(af C o σ h).bind fun x h=>(af C k σ h).bind fun y h=>(kn x y v h).bind fun _ h=>.ok (.next σ) h
 |.iff c a b,σ,h=>(af C c σ h).bind fun x h=>match truth h x with
  |some true=>aJ C a σ h
  |some false=>aJ C b σ h
  |none=>.bad
 |.for t it b,σ,h=>(eM C it σ h).bind fun s h=>turns s t (aJ C b) σ h
 |.bad,_,_=>.bad
 |.fput o x e,σ,h=>(af C e σ h).bind fun v h=>(af C o σ h).bind fun w h=>(putField w x v h).bind fun _ h=>.ok (.next σ) h
 |.oh c b,σ,h=>fq (af C c) (aJ C b) FU σ h
 |.raise c xs es,σ,h=>(cG C es σ h).bind fun ws h=>qj c xs ws h
 |.qG b hs,σ,h=>lT hs C σ (jw C σ b h)
 |.oC i j e,σ,h=>(af C e σ h).bind fun x h=>match x with
  |.tup [u,v]=>.ok (.next ((σ.set i (some u)).set j (some v))) h
  |_=>.bad
 |.aug i op e,σ,h=>match σ[i]? with
  |some (some (.int a))=>(af C e σ h).bind fun y h=>match y with
   |.int b=>R.of ((binI op a b).map fun c=>.next (σ.set i (some (.int c)))) h
   |_=>.bad
  |_=>.bad
 |.oI i j k e,σ,h=>(af C e σ h).bind fun x h=>match x with
  |.tup [u,v,w]=>.ok (.next (((σ.set i (some u)).set j (some v)).set k (some w))) h
  |_=>.bad
 |.lC j fw a b f ks,σ,h=>(af C a (σ.set j none) h).bind fun x h=>(af C b (σ.set j none) h).bind fun y h=>match j7 (σ.set j none) ks with
  |some ws=>ou h.length (C fw [x,y,.ref h.length] (h++[.fun f ws]))
  |none=>.bad
noncomputable def aJ(C:Or):List St->Env->Hp->R Fl
 |[],σ,h=>.ok (.next σ) h
 |s::r,σ,h=>(dA C s σ h).bind fun f h=>match f with
  |.next σ=>aJ C r σ h
  |f=>.ok f h
end
@[simp] theorem Fm(C:Or)(e:E)(σ:Env)(h:Hp):dA C (.expr e) σ h=((af C e σ h).bind fun _ h=>.ok (.next σ) h):=rfl
@[simp] theorem GV(C:Or)(e:E)(σ:Env)(h:Hp):dA C (.ret e) σ h=((af C e σ h).bind fun x h=>.ok (.ret x) h):=rfl
@[simp] theorem Ic(C:Or)(i:Nat)(e:E)(σ:Env)(h:Hp):dA C (.set i e) σ h=((af C e σ h).bind fun x h=>.ok (.next (σ.set i (some x))) h):=rfl
@[simp] theorem Sf(C:Or)(o:E)(k:E)(e:E)(σ:Env)(h:Hp):dA C (.put o k e) σ h=((af C e σ h).bind fun v h=>(af C o σ h).bind fun x h=>(af C k σ h).bind fun y h=>(kn x y v h).bind fun _ h=>.ok (.next σ) h):=rfl
@[simp] theorem p6(C:Or)(c:E)(a:List St)(b:List St)(σ:Env)(h:Hp):dA C (.iff c a b) σ h=((af C c σ h).bind fun x h=>match truth h x with
  |some true=>aJ C a σ h
  |some false=>aJ C b σ h
  |none=>.bad):=rfl
theorem y7(C:Or)(t:Tg)(it:It)(b:List St)(σ:Env)(h:Hp):dA C (.for t it b) σ h=((eM C it σ h).bind fun s h=>turns s t (aJ C b) σ h):=rfl
@[simp] theorem Sh(C:Or)(σ:Env)(h:Hp):dA C .bad σ h=.bad:=rfl
@[simp] theorem Qv(C:Or)(o:E)(x:S)(e:E)(σ:Env)(h:Hp):dA C (.fput o x e) σ h=((af C e σ h).bind fun v h=>(af C o σ h).bind fun w h=>(putField w x v h).bind fun _ h=>.ok (.next σ) h):=rfl
theorem IB(C:Or)(c:E)(b:List St)(σ:Env)(h:Hp):dA C (.oh c b) σ h=fq (af C c) (aJ C b) FU σ h:=rfl
theorem Fw(C:Or)(b:List Tb)(hs:List Hd)(σ:Env)(h:Hp):dA C (.qG b hs) σ h=lT hs C σ (jw C σ b h):=rfl
@[simp] theorem E9(C:Or)(i j:Nat)(e:E)(σ:Env)(h:Hp):dA C (.oC i j e) σ h=((af C e σ h).bind fun x h=>match x with
  |.tup [u,v]=>.ok (.next ((σ.set i (some u)).set j (some v))) h
  |_=>.bad):=rfl
@[simp] theorem IA(C:Or)(i:Nat)(op:Op)(e:E)(σ:Env)(h:Hp):dA C (.aug i op e) σ h=(match σ[i]? with
  |some (some (.int a))=>(af C e σ h).bind fun y h=>match y with
   |.int b=>R.of ((binI op a b).map fun c=>.next (σ.set i (some (.int c)))) h
   |_=>.bad
  |_=>.bad):=rfl
@[simp] theorem Ey(C:Or)(i j k:Nat)(e:E)(σ:Env)(h:Hp):dA C (.oI i j k e) σ h=((af C e σ h).bind fun x h=>match x with
  |.tup [u,v,w]=>.ok (.next (((σ.set i (some u)).set j (some v)).set k (some w))) h
  |_=>.bad):=rfl
theorem sU(C:Or)(j fw:Nat)(a b:E)(f:Nat)(ks:List Nat)(σ:Env)(h:Hp):dA C (.lC j fw a b f ks) σ h=((af C a (σ.set j none) h).bind fun x h=>(af C b (σ.set j none) h).bind fun y h=>match j7 (σ.set j none) ks with
  |some ws=>ou h.length (C fw [x,y,.ref h.length] (h++[.fun f ws]))
  |none=>.bad):=rfl
@[simp] theorem Fu(C:Or)(σ:Env)(h:Hp):aJ C [] σ h=.ok (.next σ) h:=rfl
@[simp] theorem dP(C:Or)(s:St)(r:List St)(σ:Env)(h:Hp):aJ C (s::r) σ h=((dA C s σ h).bind fun f h=>match f with
  |.next σ=>aJ C r σ h
  |f=>.ok f h):=rfl
structure Fn where
 ps:Nat
 ns:Nat
 body:List St
def eG(C:Or)(f:Fn)(xs:List W)(h:Hp):R W:=
 if xs.length=f.ps then (aJ C f.body (xs.map some++List.replicate (f.ns-f.ps) none) h).bind fun fl h=>match fl with
  |.next _=>.ok .ah h
  |.ret w=>.ok w h
  |_=>.bad
 else .bad
def run(T:List Fn):Nat->Or
 |0,_,_,_=>.bad
 |k+1,f,xs,h=>match T[f]? with
  |some fn=>eG (run T k) fn xs h
  |none=>run T k (f-1000) xs h
end Tw
namespace TwS
open PySem L2
def OZ(x:Tw.S):Prop:=∀c∈x,c<0x110000
def TupAt(K:W.Frag)(H:L2.Hp)(a:Addr)(xs:List V):Prop:=
 H a=some (.tup xs)\/∃(o:Obj) (its:Array Value) (n:Nat),K.lookup a=some o/\o.cls=.type "tuple" /\o.data=.seq its n/\its.size<=sizeLine/\Vals xs its.toList
def TupAt.sq(t:TupAt K H a xs):dC K H a xs:=by
 rcases t with t|t
 .exact dC.of t
 .exact .inr t
mutual
inductive RW(K:W.Frag)(ι:Nat->Addr)(n:Nat)(H:L2.Hp):Tw.W->V->Prop
 |ah:RW K ι n H .ah .ah
 |bl (b:Bool):RW K ι n H (.bl b) (.bl b)
 |int (i:Int):RW K ι n H (.int i) (.int i)
 |str (x:Tw.S) (hx:OZ x):RW K ι n H (.str x) (.str ⟨x.toArray⟩)
 |tup {a:Addr}{xs:List V}{ws:List Tw.W}:TupAt K H a xs->aS K ι n H ws xs->RW K ι n H (.tup ws) (.ref a)
 |ref {i:Nat}:i<n->RW K ι n H (.ref i) (.ref (ι i))
inductive aS(K:W.Frag)(ι:Nat->Addr)(n:Nat)(H:L2.Hp):List Tw.W->List V->Prop
 |nil:aS K ι n H [] []
 |cons {w:Tw.W}{v:V}{ws:List Tw.W}{vs:List V}:RW K ι n H w v->aS K ι n H ws vs->aS K ι n H (w::ws) (v::vs)
end
structure Keeps(ι:Nat->Addr)(n:Nat)(H:L2.Hp)(ι':Nat->Addr)(n':Nat)(H':L2.Hp):Prop where
 le:n<=n'
 same:∀i,i<n->ι' i=ι i
 tup:∀a xs,H a=some (.tup xs)->H' a=some (.tup xs)
def Keeps.Aj{ι ι':Nat->Addr}(k:Keeps ι n H ι' n' H')(t:TupAt K H a xs):TupAt K H' a xs:=t.imp (k.tup a xs) id
section
variable {K:W.Frag}{ι ι':Nat->Addr}{n n':Nat}{H H':L2.Hp}
mutual
theorem RW.keep(k:Keeps ι n H ι' n' H'):∀{w:Tw.W}{v:V},RW K ι n H w v->RW K ι' n' H' w v
 |_,_,.ah=>.ah
 |_,_,.bl b=>.bl b
 |_,_,.int i=>.int i
 |_,_,.str x hx=>.str x hx
 |_,_,.tup e r=>.tup (k.Aj e) (aS.keep k r)
 |_,_,.ref (i:=i) h=>by rw[<-k.same i h];exact .ref (bY h k.le)
theorem aS.keep(k:Keeps ι n H ι' n' H'):∀{ws:List Tw.W}{vs:List V},aS K ι n H ws vs->aS K ι' n' H' ws vs
 |_,_,.nil=>.nil
 |_,_,.cons a r=>.cons (RW.keep k a) (aS.keep k r)
end
def aS.length:∀{ws:List Tw.W}{vs:List V},aS K ι n H ws vs->ws.length=vs.length
 |_,_,.nil=>rfl
 |_,_,.cons _ r=>dg (·+ 1) r.length
theorem aS.get:∀{ws:List Tw.W}{vs:List V}{i:Nat}{w:Tw.W},aS K ι n H ws vs->ws[i]?=some w->∃v,vs[i]?=some v/\RW K ι n H w v
 |_,_,_,_,.nil,e=>by simp at e
 |_,_,0,_,.cons a _,e=>by simp at e;subst e;exact⟨_,rfl,a⟩
 |_,_,i+1,w,.cons _ r,e=>by
  obtain⟨v,h1,h2⟩:=aS.get (i:=i) (w:=w) r (by simpa using e);exact⟨v,by simpa using h1,h2⟩
theorem aS.append:∀{ws us:List Tw.W}{vs xs:List V},aS K ι n H ws vs->aS K ι n H us xs->aS K ι n H (ws++us) (vs++xs)
 |_,_,_,_,.nil,s=>s
 |_,_,_,_,.cons a r,s=>.cons a (aS.append r s)
theorem aS.take:∀{ws:List Tw.W}{vs:List V}(k:Nat),aS K ι n H ws vs->aS K ι n H (ws.take k) (vs.take k)
 |_,_,0,_=>.nil
 |_,_,_+1,.nil=>.nil
 |_,_,k+1,.cons a r=>.cons a (aS.take k r)
theorem aS.drop:∀{ws:List Tw.W}{vs:List V}(k:Nat),aS K ι n H ws vs->aS K ι n H (ws.drop k) (vs.drop k)
 |_,_,0,r=>r
 |_,_,_+1,.nil=>.nil
 |_,_,k+1,.cons _ r=>aS.drop k r
theorem aS.set(a:RW K ι n H w v):∀{ws:List Tw.W}{vs:List V}(i:Nat),aS K ι n H ws vs->aS K ι n H (ws.set i w) (vs.set i v)
 |_,_,_,.nil=>.nil
 |_,_,0,.cons _ r=>.cons a r
 |_,_,i+1,.cons b r=>.cons b (aS.set a i r)
end
inductive RD(K:W.Frag)(ι:Nat->Addr)(n:Nat)(H:L2.Hp):List (Tw.W×Tw.W)->List (Key×V)->Prop
 |nil:RD K ι n H [] []
 |cons {k w:Tw.W}{q:Key}{v:V}{kvs:List (Tw.W×Tw.W)}{xs:List (Key×V)}:q∉xs.map (·.1)->RW K ι n H k (kV q)->RW K ι n H w v->RD K ι n H kvs xs->RD K ι n H ((k,w)::kvs) ((q,v)::xs)
theorem RD.keep{ι ι':Nat->Addr}(k:Keeps ι n H ι' n' H'):∀{kvs:List (Tw.W×Tw.W)}{xs:List (Key×V)},RD K ι n H kvs xs->RD K ι' n' H' kvs xs
 |_,_,.nil=>.nil
 |_,_,.cons m e a r=>.cons m (e.keep k) (a.keep k) (RD.keep k r)
def RD.length{ι:Nat->Addr}:∀{kvs:List (Tw.W×Tw.W)}{xs:List (Key×V)},RD K ι n H kvs xs->kvs.length=xs.length
 |_,_,.nil=>rfl
 |_,_,.cons _ _ _ r=>dg (·+ 1) r.length
def uC(K:W.Frag)(H:L2.Hp)(a:Addr)(xs:List V):Prop:=
 (∃o,H a=some (.aV o (.lst xs)))\/
  ∃(o:Obj) (its:Array Value) (n:Nat),K.lookup a=some o/\o.cls=.type "list" /\o.dict=none/\o.data=.seq its n/\its.size<=sizeLine/\Vals xs its.toList
def uC.sq(s:uC K H a xs):cq K H a xs:=by
 rcases s with s|s
 .exact .inl (.inr s)
 .exact .inr s
inductive RF(K:W.Frag)(ι:Nat->Addr)(n:Nat)(H:L2.Hp):List (Tw.S×Tw.W)->List (Str×V)->Prop
 |nil:RF K ι n H [] []
 |cons {x:Tw.S}{w:Tw.W}{v:V}{fs:List (Tw.S×Tw.W)}{gs:List (Str×V)}:RW K ι n H w v->RF K ι n H fs gs->RF K ι n H ((x,w)::fs) ((⟨x.toArray⟩,v)::gs)
theorem RF.keep{ι ι':Nat->Addr}(k:Keeps ι n H ι' n' H'):∀{fs:List (Tw.S×Tw.W)}{gs:List (Str×V)},RF K ι n H fs gs->RF K ι' n' H' fs gs
 |_,_,.nil=>.nil
 |_,_,.cons a r=>.cons (a.keep k) (RF.keep k r)
def RF.length{ι:Nat->Addr}:∀{fs:List (Tw.S×Tw.W)}{gs:List (Str×V)},RF K ι n H fs gs->fs.length=gs.length
 |_,_,.nil=>rfl
 |_,_,.cons _ r=>dg (·+ 1) r.length
structure Zk where
 K:W.Frag
 mg:Str->Option Value
 ex:XK
 cl:ff
abbrev zx(X:Cx)(E:XK):Zk:=⟨X.K,X.mg,E,X.cl⟩
noncomputable def zw:List Str:=["definitions","numbers","part","around"]
structure GoodC(K:W.Frag)(C:Addr):Prop where
 cls:qB K C
 no:∀f∈zw,kQ K C f
noncomputable def og(C:Addr)(dx:Option Addr)(e:Addr):HO:=.ext fun h=>∃o vs,h.get? e=some o/\o.cls=.ref C/\o.dict=dx/\o.data=.fields vs
def XD(H:L2.Hp)(gs:List (Str×V)):Option Addr->Prop
 |some d=>H d=some (.xd gs)
 |none=>gs=[]
def XD.keep(q:XD H gs dx)(s:∀b u,(∃gs,u=HO.xd gs)->H b=some u->H1 b=some u):XD H1 gs dx:=by
 cases dx with
 |none=>exact q
 |some d=>exact s _ _ ⟨_,rfl⟩ q
noncomputable def fk:Tw.O->Bool
 |.aV _=>false
 |.aw _ _=>false
 |.fun _ _=>false
 |.dead=>false
 |_=>true
noncomputable def RO(K:Zk)(ι:Nat->Addr)(n:Nat)(H:L2.Hp)(a:Addr):Tw.O->Prop
 |.lst ws=>∃xs,H a=some (.lst xs)/\aS K.K ι n H ws xs
 |.aV ws=>∃xs,uC K.K H a xs/\aS K.K ι n H ws xs
 |.fD kvs=>∃xs,H a=some (.dK xs)/\RD K.K ι n H kvs xs
 |.ins c fs=>∃C dx gs,(K.mg ⟨c.toArray⟩=some (.ref C)/\GoodC K.K C)/\H a=some (.ins C dx gs)/\RF K.K ι n H fs gs
 |.aw c fs=>∃C dx gs,K.mg ⟨c.toArray⟩=some (.ref C)/\H a=some (og C dx a)/\XD H gs dx/\RF K.K ι n H fs gs
 |.fun _ _=>True
 |.dead=>True
def eN(H:L2.Hp)(c:Addr)(q:Str):Prop:=∃oc vs t,H c=some (.aV oc (.own c))/\oc.data=.fields vs/\vs[1]?=some (.str q t)
def rV(H:L2.Hp)(t:kF):Prop:=∃ps,H t.P=some (.dZ ps)/\TriplesOk ps.toList/\∀pos cv,codeAmong pos ps.toList=some cv->∃c,cv=.ref c/\eN H c t.q
def vc(K:Zk)(ι:Nat->Addr)(n:Nat)(H:L2.Hp)(i:Nat)(f:Nat)(ws:List Tw.W):Prop:=∃c,K.cl.fs i=some c/\c.g=ι i/\c.f=f/\aS K.K ι n H ws c.vs/\eN H c.cd c.q
def eN.keep(x:eN H c q)(s:∀b o u,H b=some (.aV o u)->H1 b=some (.aV o u)):eN H1 c q:=
 let ⟨oc,vs,t,e,r⟩:=x;⟨oc,vs,t,s _ _ _ e,r⟩
def rV.keep(x:rV H t)(s:∀b o u,H b=some (.aV o u)->H1 b=some (.aV o u))(e1:∀ps,H t.P=some (.dZ ps)->H1 t.P=some (.dZ ps)):rV H1 t:=by obtain⟨ps,e,r⟩:=x;exact⟨ps,e1 _ e,r.1,fun pos cv q=>let ⟨c,r1,r2⟩:=r.2 pos cv q;⟨c,r1,r2.keep s⟩⟩
def vc.keep{ι ι':Nat->Addr}(x:vc K ι n H i f ws)(k:Keeps ι n H ι' n' H1)(hi:i<n)(s:∀b o u,H b=some (.aV o u)->H1 b=some (.aV o u)):vc K ι' n' H1 i f ws:=by obtain⟨c,e1,e2,e3,e4,e5⟩:=x;exact⟨c,e1,e2.trans (k.same i hi).symm,e3,e4.keep k,e5.keep s⟩
structure HR(K:Zk)(ι:Nat->Addr)(h:Tw.Hp)(H:L2.Hp):Prop where
 obj:∀(i:Nat)(o:Tw.O),h[i]?=some o->RO K ι h.length H (ι i) o
 inj:∀(i j:Nat)(o u:Tw.O),h[i]?=some o->h[j]?=some u->fk o=true->fk u=true->ι i=ι j->i=j
 tab:∀t∈K.cl.tb,rV H t
 fn:∀(i f:Nat)(ws:List Tw.W),h[i]?=some (.fun f ws)->vc K ι h.length H i f ws
structure Ext(ι:Nat->Addr)(h:Tw.Hp)(H:L2.Hp)(ι':Nat->Addr)(h':Tw.Hp)(H':L2.Hp):Prop where
 len:h.length<=h'.length
 same:∀i,i<h.length->ι' i=ι i
 fr:∀b u,H b=some u->(∀ps,u≠.dZ ps)->(∀(i:Nat)(o:Tw.O),h[i]?=some o->fk o=true->ι i≠b)->H' b=some u
 new:∀i,h.length<=i->i<h'.length->H (ι' i)=none
 xb:∀b,H' b=none->H b=none
 fz:∀(i:Nat)(o u:Tw.O),h[i]?=some o->h'[i]?=some u->fk u=fk o
section
variable {K:Zk}{ι ι1 ι2:Nat->Addr}{h h1 h2:Tw.Hp}{H H1 H2:L2.Hp}
def eD(e:h[i]?=some o):i<h.length:=(fV.mp e).1
def Ext.refl(ι:Nat->Addr)(h:Tw.Hp)(H:L2.Hp):Ext ι h H ι h H:=
 ⟨aA _,fun _ _=>rfl,fun _ _ e _ _=>e,fun i a b=>absurd b (jC.mpr a),fun _ e=>e,fun i o u e f=>by rw[e] at f;cases f;rfl⟩
def Ext.trans(a:Ext ι h H ι1 h1 H1)(b:Ext ι1 h1 H1 ι2 h2 H2):Ext ι h H ι2 h2 H2 where
 len:=aF a.len b.len
 same:=fun i hi=>(b.same i (bY hi a.len)).trans (a.same i hi)
 fr:=fun c u e t n=>b.fr c u (a.fr c u e t n) t fun i o e1 m z=>by
  by_cases hi:i<h.length
  .obtain⟨o',eo⟩:∃o',h[i]?=some o':=⟨_,lN hi⟩;rw[a.same i hi] at z;exact n i o' eo (by rw[<-a.fz i o' o eo e1];exact m) z
  .have q:=a.new i (jC.mp hi) (eD e1);rw[z,e] at q;cases q
 new:=fun i h1' h2'=>by
  by_cases hi:i<h1.length
  .rw[b.same i hi];exact a.new i h1' hi
  .exact a.xb _ (b.new i (jC.mp hi) h2')
 xb:=fun c e=>a.xb c (b.xb c e)
 fz:=fun i o u e f=>by
  obtain⟨v,ev⟩:∃v,h1[i]?=some v:=⟨_,lN (bY (eD e) a.len)⟩;rw[b.fz i v u ev f,a.fz i o v e ev]
def HR.there(r:HR K ι h H)(e:h[i]?=some o)(m:fk o=true):∃u,H (ι i)=some u/\(∀xs,u≠.tup xs)/\(∀o v,u≠.aV o v)/\(∀gs,u≠.xd gs)/\(∀φ,u≠.ext φ)/\∀ps,u≠.dZ ps:=by
 have q:=r.obj i o e;cases o with
 |lst ws=>obtain⟨xs,q,_⟩:=q;exact⟨_,q,(fun _ z=>nomatch z),(fun _ _ z=>nomatch z),(fun _ z=>nomatch z),(fun _ z=>nomatch z),fun _ z=>nomatch z⟩
 |aV ws=>cases m
 |fD kvs=>obtain⟨xs,q,_⟩:=q;exact⟨_,q,(fun _ z=>nomatch z),(fun _ _ z=>nomatch z),(fun _ z=>nomatch z),(fun _ z=>nomatch z),fun _ z=>nomatch z⟩
 |ins c fs=>obtain⟨C,dx,gs,_,q,_⟩:=q;exact⟨_,q,(fun _ z=>nomatch z),(fun _ _ z=>nomatch z),(fun _ z=>nomatch z),(fun _ z=>nomatch z),fun _ z=>nomatch z⟩
 |aw c fs=>cases m
 | «fun» f ws=>cases m
 |dead=>cases m
def Ext.keeps(r:HR K ι h H)(a:Ext ι h H ι1 h1 H1):Keeps ι h.length H ι1 h1.length H1:=
 ⟨a.len,a.same,fun b xs e=>a.fr b _ e (fun _ z=>nomatch z) fun i o eo m z=>by
  obtain⟨u,q,n,_⟩:=r.there eo m;rw[z,e] at q;cases q;exact n _ rfl⟩
def dQ(hp:H p=none):∀b u,H b=some u->upd H p o b=some u:=fun b u e=>by
 rw[aI (fj e hp)];exact e
def mL:∀b,upd H p o b=none->H b=none:=fun b e=>by
 by_cases z:b=p
 .subst z;rw[bV] at e;cases e
 .rw[aI z] at e;exact e
def uC.keep{K:W.Frag}{H H1:L2.Hp}{a:Addr}{xs:List V}(s:uC K H a xs)(k:∀u,H a=some u->H1 a=some u):uC K H1 a xs:=by
 rcases s with ⟨o,s⟩|s
 .exact .inl ⟨o,k _ s⟩
 .exact .inr s
def RO.keep(r:RO K ι n H a o)(k:Keeps ι n H ι1 n' H1)(s:∀b u,(b=a\/∃gs,u=HO.xd gs)->H b=some u->H1 b=some u):RO K ι1 n' H1 a o:=by
 cases o with
 |lst ws=>obtain⟨xs,q,z⟩:=r;exact⟨xs,s _ _ (.inl rfl) q,z.keep k⟩
 |aV ws=>obtain⟨xs,q,z⟩:=r;exact⟨xs,uC.keep q (fun u=>s _ u (.inl rfl)),z.keep k⟩
 |fD kvs=>obtain⟨xs,q,z⟩:=r;exact⟨xs,s _ _ (.inl rfl) q,z.keep k⟩
 |ins c fs=>obtain⟨C,dx,gs,q0,q,z⟩:=r;exact⟨C,dx,gs,q0,s _ _ (.inl rfl) q,z.keep k⟩
 |aw c fs=>obtain⟨C,dx,gs,q0,q,qd,z⟩:=r;exact⟨C,dx,gs,q0,s _ _ (.inl rfl) q,XD.keep qd fun b u hb=>s b u (.inr hb),z.keep k⟩
 | «fun» f ws=>trivial
 |dead=>trivial
def HR.grow(r:HR K ι h H)(hp:H p=none):HR K ι h (upd H p o)/\Ext ι h H ι h (upd H p o):=by have e:Ext ι h H ι h (upd H p o):=⟨aA _,fun _ _=>rfl,fun b u q _ _=>dQ hp b u q,fun i a b=>absurd b (jC.mpr a),mL,fun i o u e f=>by rw[e] at f;cases f;rfl⟩;exact⟨⟨fun i u q=>(r.obj i u q).keep (e.keeps r) fun b v _ z=>dQ hp b v z,r.inj,fun t ht=>(r.tab t ht).keep (fun b o u=>dQ hp b _) fun ps=>dQ hp _ _,fun i f ws q=>(r.fn i f ws q).keep (e.keeps r) (eD q) fun b o u=>dQ hp b _⟩,e⟩
noncomputable def cZ(ι:Nat->Addr)(n:Nat)(p:Addr):Nat->Addr:=fun i=>if i=n then p else ι i
def bP(h:i<n):cZ ι n p i=ι i:=if_neg (dw h)
def cy:cZ ι n p n=p:=if_pos rfl
def HR.Mn(r:HR K ι h H)(hp:H p=none)(nf:∀f ws,u≠.fun f ws)(ro:∀ι' n' H',Keeps ι h.length H ι' n' H'->(∀b v,H b=some v->H' b=some v)->H' p=some o->RO K ι' n' H' p u):
  HR K (cZ ι h.length p) (h++[u]) (upd H p o)/\Ext ι h H (cZ ι h.length p) (h++[u]) (upd H p o):=by
 have hl:(h++[u]).length=h.length+1:=by simp
 have cases2:∀{i:Nat}{v:Tw.O},(h++[u])[i]?=some v->(i<h.length/\h[i]?=some v)\/(i=h.length/\v=u):=fun {i v} e=>by
  have hi:=eD e;by_cases z:i<h.length
  .rw[fI z] at e;exact .inl ⟨z,e⟩
  .have z':i=h.length:=by lia
   subst z';simp at e;exact .inr ⟨rfl,e.symm⟩
 have e:Ext ι h H (cZ ι h.length p) (h++[u]) (upd H p o):=by
  refine⟨by lia,fun i hi=>bP hi,fun b v q _ _=>dQ hp b v q,fun i h1 h2=>?_,mL,fun i v w e f=>?_⟩
  .have:i=h.length:=by lia
   subst this;rw[cy];exact hp
  .rcases cases2 f with ⟨_,f⟩|⟨f,_⟩
   .rw[e] at f;cases f;rfl
   .have:=eD e;lia
 refine⟨⟨fun i v q=>?_,fun i j v w q1 q2 m1 m2 z=>?_,fun t ht=>(r.tab t ht).keep (fun b o u=>dQ hp b _) fun ps=>dQ hp _ _,fun i f ws q=>?_⟩,e⟩
 .rcases cases2 q with ⟨hi,q⟩|⟨rfl,rfl⟩
  .rw[bP hi];exact (r.obj i v q).keep (e.keeps r) fun b x _ z=>dQ hp b x z
  .rw[cy];exact ro _ _ _ (e.keeps r) (fun b v q=>dQ hp b v q) bV
 .rcases cases2 q1 with ⟨hi,p1⟩|⟨ei,ev⟩<;>rcases cases2 q2 with ⟨hj,p2⟩|⟨ej,ew⟩
  .rw[bP hi,bP hj] at z;exact r.inj i j v w p1 p2 m1 m2 z
  .rw[bP hi,ej,cy] at z;obtain⟨x,q,_,_⟩:=r.there p1 m1;rw[z,hp] at q;cases q
  .rw[ei,cy,bP hj] at z;obtain⟨x,q,_,_⟩:=r.there p2 m2;rw[<-z,hp] at q;cases q
  .rw[ei,ej]
 .rcases cases2 q with ⟨hi,q⟩|⟨_,q⟩
  .exact (r.fn i f ws q).keep (e.keeps r) hi fun b o u=>dQ hp b _
  .exact absurd q.symm (nf f ws)
def HR.new(r:HR K ι h H)(hp:H p=none)(m:fk u=true)(ro:∀ι' n' H',Keeps ι h.length H ι' n' H'->H' p=some o->RO K ι' n' H' p u):
  HR K (cZ ι h.length p) (h++[u]) (upd H p o)/\Ext ι h H (cZ ι h.length p) (h++[u]) (upd H p o):=r.Mn hp (fun f ws z=>by rw[z] at m;cases m) fun ι' n' H' k _ e=>ro ι' n' H' k e
def HR.put(r:HR K ι h H)(ei:h[i]?=some v)(mv:fk v=true)(m:fk u=true)(no:∀xs,o≠.tup xs)
  (ro:∀H',Keeps ι h.length H ι h.length H'->H' (ι i)=some o->RO K ι h.length H' (ι i) u):
  HR K ι (h.set i u) (upd H (ι i) o)/\Ext ι h H ι (h.set i u) (upd H (ι i) o):=by
 have hl:(h.set i u).length=h.length:=by simp
 obtain⟨x0,q0,n0,f0,d0,e0,t0⟩:=r.there ei mv;have sf:∀b o' u',H b=some (.aV o' u')->upd H (ι i) o b=some (.aV o' u'):=fun b o' u' e=>by
  rw[aI (fun z=>by rw[z,q0] at e;cases e;exact f0 _ _ rfl)];exact e
 have kp:Keeps ι h.length H ι h.length (upd H (ι i) o):=⟨aA _,fun _ _=>rfl,fun a xs e=>by
  rw[aI (fun z=>by rw[z,q0] at e;cases e;exact n0 _ rfl)];exact e⟩
 have look:∀{j:Nat}{w:Tw.O},(h.set i u)[j]?=some w->(j=i/\w=u)\/(j≠i/\h[j]?=some w):=fun {j w} e=>by
  by_cases z:j=i
  .subst z;rw[jD (eD ei)] at e;cases e;exact .inl ⟨rfl,rfl⟩
  .rw[jE (bj z)] at e;exact .inr ⟨z,e⟩
 have e:Ext ι h H ι (h.set i u) (upd H (ι i) o):=by
  refine⟨by lia,fun _ _=>rfl,fun b w q _ n=>?_,fun j a b=>absurd b (by rw[hl];exact jC.mpr a),mL,fun j w w' e f=>?_⟩
  .rw[aI (fun z=>n i v ei mv z.symm)];exact q
  .rcases look f with ⟨rfl,rfl⟩|⟨_,f⟩
   .rw[ei] at e;cases e;rw[m,mv]
   .rw[e] at f;cases f;rfl
 refine⟨⟨fun j w q=>?_,fun j k w w' q1 q2 m1 m2 z=>?_,fun t ht=>(r.tab t ht).keep sf fun ps e=>by rw[aI (fun z=>by rw[z,q0] at e;cases e;exact t0 _ rfl)];exact e,fun j f ws q=>?_⟩,e⟩
 .rw[hl];rcases look q with ⟨rfl,rfl⟩|⟨nj,q⟩
  .exact ro _ kp bV
  .by_cases Z:ι j=ι i
   .by_cases mw:fk w=true
    .exact absurd (r.inj j i w v q ei mw mv Z) nj
    .cases w with
     |aV ws=>
      obtain⟨xs,sq,rr⟩:=r.obj j _ q;rcases sq with ⟨o',sq⟩|sq
      .rw[Z,q0] at sq;cases sq;exact absurd rfl (f0 _ _)
      .exact⟨xs,.inr sq,rr.keep kp⟩
     |aw c fs=>
      obtain⟨C,dx,gs,_,z,_⟩:=r.obj j _ q;rw[Z,q0] at z;cases z;exact absurd rfl (e0 _)
     | «fun» f ws=>trivial
     |dead=>trivial
     |_=>exact absurd rfl mw
   .exact (r.obj j w q).keep kp fun b y hb z=>by
     rw[aI]
     .exact z
     .rcases hb with rfl|⟨gs,rfl⟩
      .exact Z
      .intro y;rw[y,q0] at z;cases z;exact d0 _ rfl
 .have back:∀{j:Nat}{w:Tw.O},(h.set i u)[j]?=some w->fk w=true->∃w',h[j]?=some w'/\fk w'=true:=fun {j w} q mw=>by
   rcases look q with ⟨rfl,rfl⟩|⟨_,q⟩
   .exact⟨v,ei,mv⟩
   .exact⟨w,q,mw⟩
  obtain⟨a,qa,ma⟩:=back q1 m1;obtain⟨b,qb,mb⟩:=back q2 m2;exact r.inj j k a b qa qb ma mb z
 .rw[hl];rcases look q with ⟨_,q⟩|⟨_,q⟩
  .rw[<-q] at m;cases m
  .exact (r.fn j f ws q).keep kp (eD q) sf
end
end TwS
namespace TwS
open PySem L2 PyProof.Rows
def Cg(o:Obj)(f:Array Value->Array Value):(o.mapFields f).dict=o.dict:=by obtain⟨c,d,dt,sl⟩:=o;cases dt<;>rfl
structure IV(fs:List Addr)(e T:Addr)(h h':Heap):Prop where
 keep:∀b o,h.get? b=some o->b≠e->b≠T->b∉fs->h'.get? b=some o
 slot:∀b o,h.get? b=some o->b≠e->b≠T->∃sl,h'.get? b=some {o with slots:=sl}
 err:∀o vs,h.get? e=some o->o.data=.fields vs->∃o' ws,h'.get? e=some o'/\o'.cls=o.cls/\o'.dict=o.dict/\o'.data=.fields ws
def Tb(h0 h:Heap)(H:L2.Hp)(e:Addr)(fl:Value):Prop:=
 ∃oe vs T oT ts,h.get? e=some oe/\oe.data=.fields vs/\vs[1]?=some (.ref T)/\T≠e/\h0.get? T=none/\H T=none/\h.get? T=some oT/\oT.data=.fields ts/\ts[3]?=some fl
structure Fly0(P:Program)(w:World)(fs:List Addr)(H:L2.Hp)(s:Shared)(e C:Addr)(dx:Option Addr)(H':L2.Hp)(s':Shared):Prop where
 os:s'.os=s.os
 bare:AllBare s'.gens
 un:Un fs [] H H' s.heap s'.heap
 av:dN P w H' s'.heap
 tr:H' e=some (og C dx e)
 new:s.heap.get? e=none
structure gD(P:Program)(w:World)(fs:List Addr)(H:L2.Hp)(s:Shared)(e C:Addr)(dx:Option Addr)(fl:Value)(H':L2.Hp)(s':Shared):Prop extends Fly0 P w fs H s e C dx H' s' where
 tb:Tb s.heap s'.heap H' e fl
section
variable {P:Program}{w:World}{fs:List Addr}{H H':L2.Hp}{s s':Shared}{e C T:Addr}{dx:Option Addr}{h2:Heap}
def Fly0.chg(F:Fly0 P w fs H s e C dx H' s')(hf:∀b∈fs,H' b=none)(hT:s.heap.get? T=none)(hT':H' T=none)(c:IV fs e T s'.heap h2):Fly0 P w fs H s e C dx H' {s' with heap:=h2}:=by
 have ne:∀b o,s.heap.get? b=some o->b≠e/\b≠T:=fun b o q=>⟨(fun z=>by rw[z,F.new] at q;cases q),(fun z=>by rw[z,hT] at q;cases q)⟩;have nt:∀b o,H' b=some o->b≠T/\b∉fs:=fun b o q=>⟨(fun z=>by rw[z,hT'] at q;cases q),(fun z=>by rw[hf b z] at q;cases q)⟩;refine⟨F.os,F.bare,⟨fun b o q n hb hx=>?_,fun b o q n hb hx=>?_,F.un.free,fun b o q hx=>?_,F.un.gM,F.un.f6,F.un.fX⟩,fun a o q=>?_,F.tr,F.new⟩
 .exact c.keep b o (F.un.keep b o q n hb hx) (ne b o q).1 (ne b o q).2 hb
 .obtain⟨sl,q1⟩:=F.un.slot b o q n hb hx;obtain⟨sl',q2⟩:=c.slot b _ q1 (ne b o q).1 (ne b o q).2;exact⟨sl',q2⟩
 .obtain⟨o1,q1⟩:=F.un.there b o q hx;obtain⟨sl',q2⟩:=c.slot b _ q1 (ne b o q).1 (ne b o q).2;exact⟨_,q2⟩
 .by_cases z:a=e
  .subst z;have q':=q;rw[F.tr] at q';cases q';obtain⟨⟨o1,vs,q1,q2,q3,q4⟩,_,st⟩:=F.av a _ q;obtain⟨o2,ws,r1,r2,r3,r4⟩:=c.err o1 vs q1 q4;exact⟨⟨o2,ws,r1,r2.trans q2,r3.trans q3,r4⟩,⟨o2,r1⟩,st⟩
  .refine (F.av a o q).gb (fun b u hb r=>?_) (fun _ q=>q) fun _ _ q=>q;rcases hb with rfl|hb
   .exact c.keep b u r z (nt b o q).1 (nt b o q).2
   .refine c.keep b u r (fun y=>?_) (nt b _ hb).1 (nt b _ hb).2;rw[y,F.tr] at hb;cases hb
def Fly0.back(F:Fly0 P w fs H s e C dx H' s')(hT:s'.heap.objs.size<=T):s.heap.get? T=none/\H' T=none:=by
 refine⟨?_,F.av.fresh hT⟩;cases q:s.heap.get? T with
 |none=>rfl
 |some o=>
  obtain⟨o',q'⟩:=F.un.there T o q (by simp);exact absurd (bJ q') (jC.mpr hT)
end
section
variable {M:Model}{A:Around}{E:aY}{s:Shared}{base:Heap}{env:Env}{outer:List Env}{L e:Addr}
def xn{Q:Unit->Shared->Prop}(hfr:A.frames=some (env::outer))(hl:s.heap.FunFrames base (env::outer))(hf:env.frame=some L)
  (he:s.heap.get? e=some oe) (hd:oe.data=.fields vs) (hsz:1<vs.size)
  (k:∀h' T oe' ws oT ts,s.heap.objs.size<=T->IV (bu (env::outer)) e T s.heap h'->h'.get? e=some oe'->oe'.data=.fields ws->ws[1]?=some (.ref T)->T≠e->h'.get? T=some oT->oT.data=.fields ts->ts[3]?=some (rawInt L)->Q () {s with heap:=h'}):
  wpAny M A (do let a <-frameOf env;let pl <-entryPlaceOf L hn;let b <-EntryCells.newEntry head a .none (rawInt L) .none pl;setField (.ref e) 1 b) Q E s:=by
 have ne:e∉bu (env::outer):=fun m=>by
  obtain⟨_,o,ho,nf⟩:=hl.mem m;rw[he] at ho;cases ho;exact nf vs hd
 refine ag (wpAny_frameOf_fun hfr hl hf fun h1 s1=>?_);have fin:∀(O:Obj)(ts:Array Value),O.data=.fields ts->ts[3]?=some (rawInt L)->wpAny M A (setField (.ref e) 1 (.ref h1.objs.size)) Q E {s with heap:=h1.push O}:=fun O ts hO h3=>by
  have he1:h1.get? e=some oe:=(s1.2.1 e ne).trans he;have he2:=bZ (h:=h1) O he1;have nT:h1.objs.size≠e:=pd (bJ he1);refine p7 (s:={s with heap:=h1.push O}) he2 hd hsz ?_;have hd3:=qT hd (·.setIfInBounds 1 (Value.ref h1.objs.size));have he3:=sP (Obj.mapFields (·.setIfInBounds 1 (Value.ref h1.objs.size))) he2 (v7 hd3);have hT3:=(pA (h1.push O) (Obj.mapFields (·.setIfInBounds 1 (Value.ref h1.objs.size))) (bj nT)).trans (gi h1 (v7 hO));refine k _ h1.objs.size _ _ O ts (Bp s1.1.symm) ⟨fun b o q n1 n2 n3=>?_,fun b o q n1 n2=>?_,fun o ws q qd=>?_⟩ he3 hd3 (by simp[hsz]) nT hT3 hO h3
  .rw[pA _ _ (bj n1)];exact bZ _ ((s1.2.1 b n3).trans q)
  .obtain⟨sl,q1⟩:=s1.2.2 b o q;refine⟨sl,?_⟩;rw[pA _ _ (bj n1)];exact bZ _ q1
  .rw[he] at q;cases q;exact⟨_,_,he3,Obj.cls_mapFields _ _,Cg _ _,hd3⟩
 refine ag (wpAny_entryPlaceOf fun pl hpl=>?_);unfold EntryCells.newEntry;unfold newFields;refine ag (jR (s:={s with heap:=h1}) ?_ (hpl.sizeOk5 _ _ _ _ _));exact fin _ _ rfl (by first|(simp;done)|(rcases hpl with rfl|⟨_,_,_,_,_,_,_,rfl⟩<;>simp))
variable {P:Program}{w:World}{H H':L2.Hp}{s':Shared}{C:Addr}{dx:Option Addr}
def Fly0.note{Q:Unit->Shared->Prop}(F:Fly0 P w (bu (env::outer)) H s e C dx H' s')(hfr:A.frames=some (env::outer))(hl:s'.heap.FunFrames base (env::outer))(hf:env.frame=some L)(hfree:∀b∈bu (env::outer),H' b=none)
  (he:s'.heap.get? e=some oe) (hd:oe.data=.fields vs) (h1:vs[1]?=some .none)
  (k:∀s2,gD P w (bu (env::outer)) H s e C dx (rawInt L) H' s2->Q () s2):wpAny M A (noteFrame (.ref e) env) Q E s':=by
 unfold noteFrame;simp only[hf];refine ag (gW he hd h1 ?_);rw[if_neg (by decide)];refine xn hfr hl hf he hd (Gy.mp h1).1 fun h' T oe' ws oT ts hT c q1 q2 q3 q4 q5 q6 q7=>?_;obtain⟨b1,b2⟩:=F.back hT;exact k _ ⟨F.chg hfree b1 b2 c,oe',ws,T,oT,ts,q1,q2,q3,q4,b1,b2,q5,q6,q7⟩
def gD.note{Q:Unit->Shared->Prop}(F:gD P w (bu (env::outer)) H s e C dx .none H' s')(hfr:A.frames=some (env::outer))(hl:s'.heap.FunFrames base (env::outer))(hf:env.frame=some L)(hfree:∀b∈bu (env::outer),H' b=none)
  (k:∀s2,gD P w (bu (env::outer)) H s e C dx (rawInt L) H' s2->Q () s2):wpAny M A (noteFrame (.ref e) env) Q E s':=by
 obtain⟨oe,vs,T,oT,ts,he,hd,h1,nT,n0,nH,hT,hdT,h3⟩:=F.tb;unfold noteFrame;simp only[hf];refine ag (gW he hd h1 ?_);rw[if_pos (show (Value.ref T != Value.none)=true from by simp)];refine ag (gW hT hdT h3 ?_);rw[if_neg (show ¬ ((Value.none== rawInt L)=true) from by simp[rawInt])];refine ag (p7 hT hdT (Gy.mp h3).1 ?_);have oth:∀b,b≠T->(s'.heap.update T (Obj.mapFields (·.setIfInBounds 3 Value.none))).get? b=s'.heap.get? b:=fun b hb=>pA _ _ (bj hb);have c1:IV (bu (env::outer)) e T s'.heap (s'.heap.update T (Obj.mapFields (·.setIfInBounds 3 Value.none))):=
  ⟨fun b o q _ n2 _=>(oth b n2).trans q,fun b o q _ n2=>⟨o.slots,(oth b n2).trans q⟩,fun o ws q qd=>⟨o,ws,(oth e (bj nT)).trans q,rfl,rfl,qd⟩⟩
 have F1:=F.toFly0.chg hfree n0 nH c1;have hl1:(s'.heap.update T (Obj.mapFields (·.setIfInBounds 3 Value.none))).FunFrames base (env::outer):=hl.of_keeps fun b o hb nf=>⟨o,(oth b fun z=>by
  subst z;rw[hT] at hb;cases hb;exact nf ts hdT).trans hb,rfl⟩
 refine xn (s:={s' with heap:=s'.heap.update T (Obj.mapFields (·.setIfInBounds 3 Value.none))}) hfr hl1 hf ((oth e (bj nT)).trans he) hd (Gy.mp h1).1 fun h' T' oe' ws oT' ts' hT' c q1 q2 q3 q4 q5 q6 q7=>?_;obtain⟨b1,b2⟩:=F1.back hT';exact k _ ⟨F1.chg hfree b1 b2 c,oe',ws,T',oT',ts',q1,q2,q3,q4,b1,b2,q5,q6,q7⟩
def gD.land{Q:Unit->Shared->Prop}(F:gD P w fs H s e C dx fl H' s')(hfree:∀b∈fs,H' b=none)(k:∀s2,gD P w fs H s e C dx .none H' s2->Q () s2):
  wpAny M A (setFlight (.ref e) none) Q E s':=by
 obtain⟨oe,vs,T,oT,ts,he,hd,h1,nT,n0,nH,hT,hdT,h3⟩:=F.tb;have z3:3<ts.size:=(Gy.mp h3).1;unfold setFlight;refine ag (gW he hd h1 ?_);rw[if_pos (show (Value.ref T != Value.none)=true from by simp)];refine p7 hT hdT z3 ?_;have oth:∀b,b≠T->(s'.heap.update T (Obj.mapFields (·.setIfInBounds 3 ((none:Option Addr).elim Value.none fun f=>rawInt f)))).get? b=s'.heap.get? b:=fun b hb=>pA _ _ (bj hb);refine k _ ⟨F.toFly0.chg hfree n0 nH ⟨fun b o q _ n2 _=>(oth b n2).trans q,fun b o q _ n2=>⟨o.slots,(oth b n2).trans q⟩,fun o ws q qd=>⟨o,ws,(oth e (bj nT)).trans q,rfl,rfl,qd⟩⟩,?_⟩;exact⟨oe,vs,T,_,_,(oth e (bj nT)).trans he,hd,h1,nT,n0,nH,sP _ hT (v7 (qT hdT _)),qT hdT _,by simp[z3]⟩
def gD.leave{Q:Unit->Shared->Prop}(F:gD P w (bu (env::outer)) H s e C dx .none H' s')(hfr:A.frames=some (env::outer))(hl:s'.heap.FunFrames base (env::outer))(hf:env.frame=some L)(hfree:∀b∈bu (env::outer),H' b=none)
  (k:∀s2,gD P w (bu (env::outer)) H s e C dx .none H' s2->Q () s2):wpAny M A (leaving env (.ref e)) Q E s':=by
 unfold leaving;exact ag (F.note hfr hl hf hfree fun s2 F2=>F2.land hfree k)
def Fly0.leave{Q:Unit->Shared->Prop}(F:Fly0 P w (bu (env::outer)) H s e C dx H' s')(hfr:A.frames=some (env::outer))(hl:s'.heap.FunFrames base (env::outer))(hf:env.frame=some L)(hfree:∀b∈bu (env::outer),H' b=none)
  (he:s'.heap.get? e=some oe) (hd:oe.data=.fields vs) (h1:vs[1]?=some .none)
  (k:∀s2,gD P w (bu (env::outer)) H s e C dx .none H' s2->Q () s2):wpAny M A (leaving env (.ref e)) Q E s':=by
 unfold leaving;exact ag (F.note hfr hl hf hfree he hd h1 fun s2 F2=>F2.land hfree k)
end
noncomputable def cD(P:Program)(w:World):fP:=fun l H s E e s'=>∃ea C dx H',e=.ref ea/\gD P w (bu l) H s ea C dx .none H' s'/\E e none H'
def cD.never:∀outer H s e s',¬ cD P w outer H s E0 e s':=fun _ _ _ _ _ ⟨_,_,_,_,_,_,z⟩=>z
abbrev pP(X:Cx)(E:XK):aY:=fun e s'=>wpAny (model X.prog X.w) X.A (leaving X.env e) (fun _ s2=>cD X.prog X.w X.outer X.kD X.aL E e s2) (fun e' s2=>cD X.prog X.w X.outer X.kD X.aL E e' s2) s'
section
variable {X:Cx}{pins:aH}{σ:L2.St}{H H':L2.Hp}{s s':Shared}{E:XK}{e C:Addr}{dx:Option Addr}{fl:Value}
def gD.up(I:Inv X pins σ H s)(hx:X.ex=[])(hs:X.stack=X.env::X.outer)(hfm:X.env.frame=some X.env.locals)(F:gD X.prog X.w (bu X.stack) H s e C dx fl H' s'):
  gD X.prog X.w (bu X.outer) X.kD X.aL e C dx fl H' s':=by
 have back:∀T,s.heap.get? T=none->X.aL.heap.get? T=none:=fun T q=>by
  cases z:X.aL.heap.get? T with
  |none=>rfl
  |some o=>
   obtain⟨o',z'⟩:=I.base.there T o z (by rw[hx];simp);rw[q] at z';cases z'
 have b0:Un (bu X.outer) [] X.kD H X.aL.heap s.heap:=hx▸I.base;have sub:∀b,b∈bu X.outer->b∈bu X.stack:=fun b hb=>by
  rw[hs];show b∈(X.env::X.outer).filterMap (·.frame);rw[tq,hfm];exact jc _ hb
 have un2:=(b0.mono (fs':=bu X.stack) (ex':=[]) sub fun _ z=>z).trans F.un;have ex:∀b o,X.aL.heap.get? b=some o->b∉bu X.outer->b∉bu X.stack:=fun b o q hb hm=>by
  rcases fH.mp (I.kO b hm) with z|z
  .exact absurd (bJ q) (by rw[z];exact jC.mpr I.ok.above)
  .exact hb z
 obtain⟨oe,vs,T,oT,ts,he,hd,h1,nT,n0,r⟩:=F.tb;exact⟨⟨F.os.trans I.os,F.bare,⟨fun b o q n hb hx'=>un2.keep b o q n (ex b o q hb) hx',fun b o q n hb hx'=>un2.slot b o q n (sub b hb) hx',un2.free,un2.there,un2.gM,un2.f6,un2.fX⟩,F.av,F.tr,back _ F.new⟩,oe,vs,T,oT,ts,he,hd,h1,nT,back _ n0,r⟩
def Fly0.inv(I:Inv X pins σ H s)(F:Fly0 X.prog X.w (bu X.stack) H s e C dx H' s'):Inv X pins σ H' s':=I.Nh F.os F.un F.av F.bare (fun b z=>absurd z (by simp))
def Gi(hx:X.ex=[])(hs:X.stack=X.env::X.outer)(hfm:X.env.frame=some X.env.locals)(hxe:X.xe=pP X E):Passes (cD X.prog X.w) X E:=fun pins σ H s e s' I ⟨ea,C,dx,H',ee,F,q⟩=>by
 subst ee;rw[hxe];have J:=F.toFly0.inv I;have fr:=J.jf;have st:=J.stack;have fm:=J.ok.frames;rw[hs] at fr st fm F;refine F.leave (base:=X.base) fm st hfm fr fun s2 F2=>?_;rw[<-hs] at F2;exact⟨ea,C,dx,H',rfl,F2.up I hx hs hfm,q⟩
def Jh(hx:X.ex=[])(hs:X.stack=X.env::X.outer)(hfm:X.env.frame=some X.env.locals)(hxe:X.xe=pP X E)(I:Inv X pins σ H s)(F:Fly0 X.prog X.w (bu X.stack) H s e C dx H' s')
  (he:s'.heap.get? e=some oe) (hd:oe.data=.fields vs) (h1:vs[1]?=some .none) (q:E (.ref e) none H'):X.xe (.ref e) s':=by
 rw[hxe];have J:=F.inv I;have fr:=J.jf;have st:=J.stack;have fm:=J.ok.frames;rw[hs] at fr st fm F;refine F.leave (base:=X.base) fm st hfm fr he hd h1 fun s2 F2=>?_;rw[<-hs] at F2;exact⟨e,C,dx,H',rfl,F2.up I hx hs hfm,q⟩
end
end TwS
namespace TwS
open PySem L2 PyProof.Rows Builtin Builtin.ObjectAttr
noncomputable def BZ:List Value:=[.type "ValueError",.type "Exception",.type "BaseException",.type "object"]
structure XC(K:W.Frag)(C:Addr):Prop where
 mro:∃(cd:ClassData) (os:List Addr),W.clsIn K C=some cd/\cd.mro=.ref C::(os.map Value.ref++BZ)/\cd.hasDict=true
 sa:W.findIn K (.ref C) "__setattr__"=some (some (.builtin "object.__setattr__"))
 ga:W.findIn K (.ref C) "__getattribute__"=some (some (.builtin "BaseException.__getattribute__"))
 gh:W.findIn K (.ref C) "__getattr__"=some none
def Io(os:List Addr)(v:Value)(h:BZ.contains v=true):(os.map Value.ref++BZ).contains v=true:=by rw[List.contains_append,h,Bool.or_true]
def XC.sub{K:W.Frag}{C:Addr}(c:XC K C){v:Value}(h:BZ.contains v=true):W.mroIn K C v=some true:=by obtain⟨cd,os,e1,e2,_⟩:=c.mro;unfold W.mroIn;rw[e1,sQ,e2];show some ((Value.ref C::(os.map Value.ref++BZ)).contains v)=_;rw[List.contains_cons,Io os v h,Bool.or_true]
section
variable {prog:Program}{w:World}{A:Around}{E:aY}{s:Shared}{K:W.Frag}{x C:Addr}{ox:Obj}{name:Str}{v:Value}
end
end TwS
namespace TwS
open PySem L2 PyProof.Rows
section
variable {X:Cx}{pins:aH}{σ:L2.St}{H H':L2.Hp}{s s':Shared}{x dx C:Addr}{A:Around}{E:aY}
end
end TwS
namespace TwS
open PySem L2
abbrev Rl(α β:Type):=W.Frag->(Nat->Addr)->Nat->L2.Hp->α->β->Prop
def ao(K:Zk){α β:Type}(R:Rl α β)(ι:Nat->Addr)(h:Tw.Hp)(H:L2.Hp)(m:Tw.R α)(Q:β->L2.Hp->Prop):Prop:=match m with
 |.ok a h'=>∀ι' H' b,Ext ι h H ι' h' H'->HR K ι' h' H'->R K.K ι' h'.length H' a b->Q b H'
 |.aw a h'=>∀ι' H',Ext ι h H ι' h' H'->HR K ι' h' H'->K.ex (.ref (ι' a)) none H'
 |.bad=>False
structure At(K:Zk)(ι:Nat->Addr)(h:Tw.Hp)(H:L2.Hp)(ρ:Tw.Env)(σ:L2.St):Prop where
 hr:HR K ι h H
 len:σ.length=ρ.length
 st:∀(i:Nat)(w:Tw.W),ρ[i]?=some (some w)->∃v,σ[i]?=some (some v)/\RW K.K ι h.length H w v
noncomputable def tG(K:Zk){α β:Type}(R:Rl α β)(d:Tw.Env->Tw.Hp->Tw.R α):L2.St->L2.Hp->(β->L2.Hp->Prop)->Prop:=
 fun σ H Q=>∃ρ h ι,At K ι h H ρ σ/\ao K R ι h H (d ρ h) Q
noncomputable abbrev RE:Rl Tw.W V:=fun K ι n H w v=>RW K ι n H w v
noncomputable abbrev RA(k:Nat):Rl (List Tw.W) (List V):=fun K ι n H w v=>aS K ι n H w v/\w.length=k
noncomputable abbrev RB:Rl Bool Bool:=fun _ _ _ _ a b=>a=b
abbrev tE(K:Zk)(d:Tw.Env->Tw.Hp->Tw.R Tw.W):TE:=tG K RE d
section
variable {K:Zk}{α β γ δ:Type}{R:Rl α β}{R':Rl γ δ}{ι ι1:Nat->Addr}{h h1:Tw.Hp}{H H1:L2.Hp}{ρ:Tw.Env}{σ:L2.St}{m:Tw.R α}
def ao.mono{Q Q':β->L2.Hp->Prop}(p:ao K R ι h H m Q)(f:∀b H',Q b H'->Q' b H'):ao K R ι h H m Q':=by
 cases m with
 |ok a h'=>exact fun ι' H' b e r q=>f _ _ (p ι' H' b e r q)
 |aw=>exact p
 |bad=>exact p
def ao.later{Q:β->L2.Hp->Prop}(p:ao K R ι h H m Q)(e:Ext ι h H ι1 h1 H1):ao K R ι1 h1 H1 m Q:=by
 cases m with
 |ok a h'=>exact fun ι' H' b e' r q=>p ι' H' b (e.trans e') r q
 |aw a h'=>exact fun ι' H' e' r=>p ι' H' (e.trans e') r
 |bad=>exact p
def At.later(a:At K ι h H ρ σ)(e:Ext ι h H ι1 h1 H1)(r:HR K ι1 h1 H1):At K ι1 h1 H1 ρ σ:=
 ⟨r,a.len,fun i w q=>let ⟨v,q1,q2⟩:=a.st i w q;⟨v,q1,q2.keep (e.keeps a.hr)⟩⟩
def step{k:α->Tw.Hp->Tw.R γ}{Q:δ->L2.Hp->Prop}(a:At K ι h H ρ σ)(p:ao K R' ι h H (m.bind k) Q):
  ao K R ι h H m (fun x H1=>∃w h1 ι1,At K ι1 h1 H1 ρ σ/\Ext ι h H ι1 h1 H1/\R K.K ι1 h1.length H1 w x/\ao K R' ι1 h1 H1 (k w h1) Q):=by
 cases m with
 |ok w h1=>exact fun ι' H' b e r q=>⟨w,h1,ι',a.later e r,e,q,ao.later p e⟩
 |aw a h'=>exact p
 |bad=>exact p
def ao.self{Q:β->L2.Hp->Prop}(p:ao K R ι h H (.ok a h) Q)(r:HR K ι h H)(q:R K.K ι h.length H a b):Q b H:=p ι H b (Ext.refl ι h H) r q
def ao.tup(p:ao K RE ι h H (.ok (.tup ws) h) Q)(r:HR K ι h H)(q:aS K.K ι h.length H ws xs):∀a,H a=none->Q (.ref a) (upd H a (.tup xs)):=fun a ha=>by
 obtain⟨r',e⟩:=r.grow (o:=.tup xs) ha;exact p ι _ _ e r' (.tup (.inl bV) (q.keep (e.keeps r)))
def ao.lst(p:ao K RE ι h H (Tw.new (.lst ws) h) Q)(r:HR K ι h H)(q:aS K.K ι h.length H ws xs):∀a,H a=none->Q (.ref a) (upd H a (.lst xs)):=fun a ha=>by
 obtain⟨r',e⟩:=r.new (u:=.lst ws) (o:=.lst xs) ha rfl fun ι' n' H' k e=>⟨xs,e,q.keep k⟩;refine p _ _ (.ref a) e r' ?_;have z:RW K.K (cZ ι h.length a) (h++[Tw.O.lst ws]).length (upd H a (.lst xs)) (.ref h.length) (.ref (cZ ι h.length a h.length)):=.ref (by simp);rw[cy] at z;exact z
def ao.fD(p:ao K RE ι h H (Tw.new (.fD kvs) h) Q)(r:HR K ι h H)(q:RD K.K ι h.length H kvs xs):∀a,H a=none->Q (.ref a) (upd H a (.dK xs)):=fun a ha=>by
 obtain⟨r',e⟩:=r.new (u:=.fD kvs) (o:=.dK xs) ha rfl fun ι' n' H' k e=>⟨xs,e,q.keep k⟩;refine p _ _ (.ref a) e r' ?_;have z:RW K.K (cZ ι h.length a) (h++[Tw.O.fD kvs]).length (upd H a (.dK xs)) (.ref h.length) (.ref (cZ ι h.length a h.length)):=.ref (by simp);rw[cy] at z;exact z
end
def PE.imp(p:PE X e t)(f:∀σ H Q,t' σ H Q->t σ H Q):PE X e t':=fun pins s σ H Q I q=>p pins s σ H Q I (f σ H Q q)
def PT.imp(p:PT X e t)(f:∀σ H Q,t' σ H Q->t σ H Q):PT X e t':=fun pins s σ H Q I q=>p pins s σ H Q I (f σ H Q q)
def PW.imp(p:PW X e t)(f:∀σ H Q,t' σ H Q->t σ H Q):PW X e t':=fun wh pins s σ H Q I q=>p wh pins s σ H Q I (f σ H Q q)
def PA.imp(p:PA X e t)(f:∀σ H Q,t' σ H Q->t σ H Q):PA X e t':=fun pos pins s σ H Q I q=>p pos pins s σ H Q I (f σ H Q q)
def PS.imp(p:PS X e t)(f:∀D σ H,t' D σ H->t D σ H):PS X e t':=fun pins s σ H D I q=>p pins s σ H D I (f D σ H q)
def dS.imp(p:dS X e t)(f:∀D σ H,t' D σ H->t D σ H):dS X e t':=fun pins s σ H D I q=>p pins s σ H D I (f D σ H q)
section
variable {K:Zk}{ι:Nat->Addr}{h:Tw.Hp}{H:L2.Hp}
def HR.lst(r:HR K ι h H)(e:h[i]?=some (.lst ws)):∃xs,H (ι i)=some (.lst xs)/\aS K.K ι h.length H ws xs:=r.obj i _ e
def HR.at(r:HR K ι h H)(e:Tw.eC h i=some ws):∃xs,cq K.K H (ι i) xs/\aS K.K ι h.length H ws xs:=by
 unfold Tw.eC at e;split at e
 .next q=>cases e;obtain⟨xs,q1,q2⟩:=r.obj i _ q;exact⟨xs,cq.of q1,q2⟩
 .next q=>cases e;obtain⟨xs,q1,q2⟩:=r.obj i _ q;exact⟨xs,q1.sq,q2⟩
 .cases e
end
def Dv(n:Nat)(i:Int):Tw.i0 n i=L2.i0 n i:=rfl
def aS.dM{ι:Nat->Addr}(r:aS K ι n H ws xs)(e:Tw.dM ws i=some w):∃v,L2.dM xs i=some v/\RW K ι n H w v:=by
 unfold Tw.dM at e;unfold L2.dM;rw[<-r.length,<-Dv];cases q:Tw.i0 ws.length i with
 |none=>rw[q] at e;cases e
 |some j=>
  rw[q] at e;exact r.get e
def sr(n d:Nat)(o:Option Int):Tw.bL n d o=HT.bL n d o:=by
 cases o with
 |none=>rfl
 |some v=>first|rfl|(unfold Tw.bL HT.bL;split<;>first|rfl|lia|(simp;lia))
def aS.cut{ι:Nat->Addr}(r:aS K ι n H ws xs)(lo hi:Option Int):aS K ι n H (Tw.cut ws lo hi) (tO xs lo hi):=by unfold Tw.cut tO;rw[sr,sr,r.length];exact (r.drop _).take _
end TwS
namespace TwS
open PySem L2 PyProof.Rows
section
variable {X:Cx}{E:XK}{a b c:Expr}{pos:Pos}{da db dc:Tw.Env->Tw.Hp->Tw.R Tw.W}
def Ni{i:Nat}{x:Str}(hN:X.N[i]?=some x)(hv:oE X.env.scope x)(hd:(x== ("__debug__":Str))=false)(hcd:(x== ("__classdict__":Str))=false):
  PE X (.Name x pos) (tE (zx X E) fun ρ h=>match ρ[i]? with|some (some w)=>.ok w h|_=>.bad):=by
 refine PE.imp (o7 hN hv hd hcd) fun σ H Q ⟨ρ,h,ι,at',p⟩=>?_;cases e:ρ[i]? with
 |none=>simp only[e] at p;exact p.elim
 |some o=>
  cases o with
  |none=>simp only[e] at p;exact p.elim
  |some w=>
   simp only[e] at p;obtain⟨v,q1,q2⟩:=at'.st i w e;exact⟨v,q1,p.self at'.hr q2⟩
def rX(hp:PE X a (tC v))(hr:∀ι n H,RW X.K ι n H w v):PE X a (tE (zx X E) fun _ h=>.ok w h):=
 PE.imp hp fun σ H Q ⟨ρ,h,ι,at',p⟩=>p.self at'.hr (hr _ _ _)
abbrev tA(K:Zk)(k:Nat)(d:Tw.Env->Tw.Hp->Tw.R (List Tw.W)):TA:=tG K (RA k) d
def Nb:PA X [] (tA (zx X E) 0 fun _ h=>.ok [] h):=PA.imp dD fun σ H Q ⟨ρ,h,ι,at',p⟩=>p.self at'.hr ⟨.nil,rfl⟩
def JL{ds:Tw.Env->Tw.Hp->Tw.R (List Tw.W)}(ha:PE X a (tE (zx X E) da))(hs:PA X es (tA (zx X E) n ds))(bH:starEach (a::es) X.env=(false,eval a X.env)::starEach es X.env):
  PA X (a::es) (tA (zx X E) (n+1) fun ρ h=>(da ρ h).bind fun x h=>(ds ρ h).bind fun xs h=>.ok (x::xs) h):=by
 refine PA.imp (bO ha hs bH) fun σ H Q ⟨ρ,h,ι,at',p⟩=>?_;refine⟨ρ,h,ι,at',(step at' p).mono fun x H1 ⟨w,h1,ι1,at1,e1,r1,p1⟩=>⟨ρ,h1,ι1,at1,(step at1 p1).mono fun xs H2 ⟨ws,h2,ι2,at2,e2,r2,p2⟩=>?_⟩⟩;exact p2.self at2.hr ⟨.cons (r1.keep (e2.keeps at1.hr)) r2.1,by rw[gK,r2.2]⟩
def pJ:sizeLine=Tw.SZ:=by rw[gX];rfl
def NH{ds:Tw.Env->Tw.Hp->Tw.R (List Tw.W)}(hs:PA X es (tA (zx X E) n ds))(hl:n<=sizeLine):
  PE X (.Tuple es k pos) (tE (zx X E) fun ρ h=>(ds ρ h).bind fun xs h=>.ok (.tup xs) h):=by
 refine PE.imp (Cz hs) fun σ H Q ⟨ρ,h,ι,at',p⟩=>?_;refine⟨ρ,h,ι,at',(step at' p).mono fun xs H1 ⟨ws,h1,ι1,at1,e1,r1,p1⟩=>⟨by rw[<-r1.1.length,r1.2];exact hl,p1.tup at1.hr r1.1⟩⟩
def NQ{ds:Tw.Env->Tw.Hp->Tw.R (List Tw.W)}(hs:PA X es (tA (zx X E) n ds))(hl:n<=sizeLine):
  PE X (.List es pos) (tE (zx X E) fun ρ h=>(ds ρ h).bind fun xs h=>Tw.new (.lst xs) h):=by
 refine PE.imp (LA hs) fun σ H Q ⟨ρ,h,ι,at',p⟩=>?_;refine⟨ρ,h,ι,at',(step at' p).mono fun xs H1 ⟨ws,h1,ι1,at1,e1,r1,p1⟩=>⟨by rw[<-r1.1.length,r1.2];exact hl,p1.lst at1.hr r1.1⟩⟩
def two{op:Tw.W->Tw.W->Tw.Hp->Tw.R Tw.W}
  (hr:∀(ι:Nat->Addr)(h:Tw.Hp)(H:L2.Hp)(w u:Tw.W)(x y:V)(Q:VK),HR (zx X E) ι h H->RW X.K ι h.length H w x->RW X.K ι h.length H u y->ao (zx X E) RE ι h H (op w u h) Q->r x y H Q):
  ∀σ H Q,tE (zx X E) (fun ρ h=>(da ρ h).bind fun x h=>(db ρ h).bind fun y h=>op x y h) σ H Q->zu r (tE (zx X E) da) (tE (zx X E) db) σ H Q:=fun σ H Q ⟨ρ,h,ι,at',p⟩=>
 ⟨ρ,h,ι,at',(step at' p).mono fun x H1 ⟨w,h1,ι1,at1,e1,r1,p1⟩=>⟨ρ,h1,ι1,at1,(step at1 p1).mono fun y H2 ⟨u,h2,ι2,at2,e2,r2,p2⟩=>
  hr ι2 h2 H2 w u x y Q at2.hr (r1.keep (e2.keeps at1.hr)) r2 p2⟩⟩
noncomputable def Cj(K:W.Frag):R2:=fun x y H Q=>∃a b ys,x=.ref a/\y=.ref b/\dC K H a []/\dC K H b ys/\Q (.ref b) H
def DN{prog:Program}{w:World}{A:Around}{E:aY}{s:Shared}{t b:Addr}{ws:List Value}{Q:aY}(ht:IsTup s.heap t ([]:List Value).toArray)(hb:IsTup s.heap b ws.toArray)
  (h0:Q (.ref b) s):wpAny (model prog w) A (binaryOp .Add (.ref t) (.ref b)) Q E s:=by
 obtain⟨⟨cls,dd,data,sl⟩,ho,hc,n,hd⟩:=id ht;obtain⟨⟨cls2,dd2,data2,sl2⟩,ho2,hc2,n2,hd2⟩:=id hb;simp only at hc hd hc2 hd2;subst hc hd hc2 hd2;exact concat_meets ⟨_,ho,rfl⟩ ⟨_,ho2,rfl⟩ A8 seq_tuple_add zW Bh (Ar _ _)
  (tuple_addW0 t b ([]:List Value).toArray ws.toArray n n2 dd dd2 sl sl2 (by simp)) ⟨ho,ho2,h0⟩
def Eb:dz X (binaryOp .Add) (Cj X.K):=by intro pins s σ H x y v u Q I rx ry h;obtain⟨a,b,ys,rfl,rfl,ha,hb,q⟩:=h;cases rx;cases ry;obtain⟨its,r1,p1,_⟩:=I.tuple ha;obtain⟨its2,r2,p2,_⟩:=I.tuple hb;cases r1;exact DN p1 p2 ⟨.ref b,H,I,rfl,q⟩
def GG(K:W.Frag):R2:=fun x y H Q=>qA (fun i j=>.int (i+j)) x y H Q\/Jg x y H Q\/Ga K x y H Q\/Cj K x y H Q
def G0:dz X (binaryOp .Add) (GG X.K):=IW.or (JS.or (HY.or Eb))
def L8(ι:Nat->Addr)(h:Tw.Hp)(H:L2.Hp)(w u:Tw.W)(x y:V)(Q:VK)(r:HR (zx X E) ι h H)(rx:RW X.K ι h.length H w x)(ry:RW X.K ι h.length H u y)(p:ao (zx X E) RE ι h H (Tw.bin .add w u h) Q):GG X.K x y H Q:=by
 cases rx with
 |int i=>
  cases ry with
  |int j=>exact .inl ⟨i,j,rfl,rfl,p.self r (.int _)⟩
  |_=>exact p.elim
 | @tup aa xs ws ea ra=>
  cases ry with
  | @tup ab ys us eb rb=>
   have p:ao (zx X E) RE ι h H (if Tw.Op.add=Tw.Op.add/\ws.length+us.length<=Tw.SZ then .ok (.tup (ws++us)) h else .bad) Q:=p;by_cases c:ws.length+us.length<=Tw.SZ
   .rw[if_pos ⟨rfl,c⟩] at p;by_cases z0:ws=[]
    .subst z0;cases ra;exact .inr (.inr (.inr ⟨aa,ab,ys,rfl,rfl,ea.sq,eb.sq,p.self r (.tup eb rb)⟩))
    refine .inr (.inr (.inl ⟨aa,ab,xs,ys,rfl,rfl,ea.sq,eb.sq,?_,?_,?_⟩))
    .intro z;subst z;cases ra;exact z0 rfl
    .rw[<-ra.length,<-rb.length,pJ];exact c
    .refine⟨fun z=>?_,fun _=>p.tup r (ra.append rb)⟩;subst z;cases rb;rw[fK] at p;exact p.self r (.tup ea ra)
   .rw[if_neg (fun z=>c z.2)] at p;exact p.elim
  |_=>exact p.elim
 | @ref i hi=>
  cases ry with
  | @ref j hj=>
   have p:ao (zx X E) RE ι h H (match h[i]?,h[j]? with
    |some (.lst xs),some (.lst ys)=>if Tw.Op.add=Tw.Op.add/\xs.length+ys.length<=Tw.SZ then Tw.new (.lst (xs++ys)) h else .bad
    |_,_=>.bad) Q:=p
   cases ei:h[i]? with
   |none=>rw[ei] at p;exact p.elim
   |some oi=>
    cases ej:h[j]? with
    |none=>rw[ei,ej] at p;cases oi<;>exact p.elim
    |some oj=>
     rw[ei,ej] at p;cases oi with
     |lst ws=>
      cases oj with
      |lst us=>
       dsimp only at p;by_cases c:ws.length+us.length<=Tw.SZ
       .rw[if_pos ⟨rfl,c⟩] at p;obtain⟨xs,q1,q2⟩:=r.lst ei;obtain⟨ys,q3,q4⟩:=r.lst ej;refine .inr (.inl ⟨_,_,xs,ys,rfl,rfl,q1,q3,?_,?_⟩)
        .rw[<-q2.length,<-q4.length,pJ];exact c
        .exact p.lst r (q2.append q4)
       .rw[if_neg (fun z=>c z.2)] at p;exact p.elim
      |_=>exact p.elim
     |_=>cases oj<;>exact p.elim
  |_=>exact p.elim
 |_=>cases ry<;>exact p.elim
def ND(ha:PE X a (tE (zx X E) da))(hb:PE X b (tE (zx X E) db)):PE X (.BinOp a .Add b pos) (tE (zx X E) fun ρ h=>(da ρ h).bind fun x h=>(db ρ h).bind fun y h=>Tw.bin .add x y h):=
 PE.imp (pV G0 ha hb) (two L8)
def mf{op:Tw.Op}{r:R2}(hop:op≠.add)(hi:∀(i j k:Int)(H:L2.Hp)(Q:VK),Tw.binI op i j=some k->Q (.int k) H->r (.int i) (.int j) H Q)
  (ι:Nat->Addr) (h:Tw.Hp) (H:L2.Hp) (w u:Tw.W) (x y:V) (Q:VK) (hr:HR (zx X E) ι h H) (rx:RW X.K ι h.length H w x) (ry:RW X.K ι h.length H u y) (p:ao (zx X E) RE ι h H (Tw.bin op w u h) Q):r x y H Q:=by
 cases rx with
 |int i=>
  cases ry with
  |int j=>
   have p:ao (zx X E) RE ι h H (Tw.R.of ((Tw.binI op i j).map .int) h) Q:=p;cases e:Tw.binI op i j with
   |none=>rw[e] at p;exact p.elim
   |some k=>rw[e] at p;exact hi i j k H Q e (ao.self (a:=Tw.W.int k) p hr (.int _))
  |_=>exact p.elim
 | @tup aa xs ws ea ra=>
  cases ry with
  | @tup ab ys us eb rb=>
   have p:ao (zx X E) RE ι h H (if op=Tw.Op.add/\ws.length+us.length<=Tw.SZ then .ok (.tup (ws++us)) h else .bad) Q:=p;rw[if_neg (fun z=>hop z.1)] at p;exact p.elim
  |_=>exact p.elim
 | @ref i hi=>
  cases ry with
  | @ref j hj=>
   have p:ao (zx X E) RE ι h H (match h[i]?,h[j]? with
    |some (.lst xs),some (.lst ys)=>if op=Tw.Op.add/\xs.length+ys.length<=Tw.SZ then Tw.new (.lst (xs++ys)) h else .bad
    |_,_=>.bad) Q:=p
   exfalso;split at p
   .rw[if_neg (fun z=>hop z.1)] at p;exact p
   .exact p
  |_=>exact p.elim
 |_=>cases ry<;>exact p.elim
def N2(ha:PE X a (tE (zx X E) da))(hb:PE X b (tE (zx X E) db)):PE X (.BinOp a .Sub b pos) (tE (zx X E) fun ρ h=>(da ρ h).bind fun x h=>(db ρ h).bind fun y h=>Tw.bin .sub x y h):=
 PE.imp (pV LP ha hb) (two (mf (by decide) fun i j k H Q e q=>by cases e;exact⟨i,j,rfl,rfl,q⟩))
def Nj(ha:PE X a (tE (zx X E) da))(hb:PE X b (tE (zx X E) db)):PE X (.BinOp a .Mult b pos) (tE (zx X E) fun ρ h=>(da ρ h).bind fun x h=>(db ρ h).bind fun y h=>Tw.bin .mul x y h):=
 PE.imp (pV K5 ha hb) (two (mf (by decide) fun i j k H Q e q=>by
  have e:(if (Tw.small i || Tw.small j)=true then some (i * j) else none)=some k:=e;by_cases c:(Tw.small i || Tw.small j)=true
  .rw[if_pos c] at e;cases e;refine⟨i,j,rfl,rfl,?_,q⟩;simp only[Tw.small,vw,aq,az] at c;exact c
  .rw[if_neg c] at e;cases e))
def LQ(ha:PE X a (tE (zx X E) da))(hb:PE X b (tE (zx X E) db)):PE X (.BinOp a .FloorDiv b pos) (tE (zx X E) fun ρ h=>(da ρ h).bind fun x h=>(db ρ h).bind fun y h=>Tw.bin .fdiv x y h):=
 PE.imp (pV Ib ha hb) (two (mf (by decide) fun i j k H Q e q=>by
  have e:(if 0<j/\j<1073741824 then some (i / j) else none)=some k:=e;by_cases c:0<j/\j<1073741824
  .rw[if_pos c] at e;cases e;exact⟨i,j,rfl,rfl,c,q⟩
  .rw[if_neg c] at e;cases e))
def M5(ha:PE X a (tE (zx X E) da))(hb:PE X b (tE (zx X E) db)):PE X (.BinOp a .Mod b pos) (tE (zx X E) fun ρ h=>(da ρ h).bind fun x h=>(db ρ h).bind fun y h=>Tw.bin .mod x y h):=
 PE.imp (pV JQ ha hb) (two (mf (by decide) fun i j k H Q e q=>by
  have e:(if 0<j then some (i % j) else none)=some k:=e;by_cases c:0<j
  .rw[if_pos c] at e;cases e;exact⟨i,j,rfl,rfl,c,q⟩
  .rw[if_neg c] at e;cases e))
def Og(ha:PE X a (tE (zx X E) da))(hb:PE X b (tE (zx X E) db)):PE X (.BinOp a .Pow b pos) (tE (zx X E) fun ρ h=>(da ρ h).bind fun x h=>(db ρ h).bind fun y h=>Tw.bin .pow x y h):=
 PE.imp (pV J8 ha hb) (two (mf (by decide) fun i j k H Q e q=>by
  have e:(if 0<=j/\j<=1000000/\i.natAbs<2 ^ 64 then some (i ^ j.toNat) else none)=some k:=e;by_cases c:0<=j/\j<=1000000/\i.natAbs<2 ^ 64
  .rw[if_pos c] at e;cases e;exact⟨i,j,rfl,rfl,c,q⟩
  .rw[if_neg c] at e;cases e))
end
mutual
noncomputable def toD:Tw.W->PyData
 |.ah=>.none
 |.bl b=>.bool b
 |.int i=>.int i
 |.str x=>.str ⟨x.toArray⟩
 |.tup xs=>.tuple (f7 xs)
 |.lst xs=>.list (f7 xs)
 |.ref _=>.none
noncomputable def f7:List Tw.W->List PyData
 |[]=>[]
 |x::xs=>toD x::f7 xs
end
mutual
noncomputable def nr:Tw.W->Bool
 |.tup xs=>rF xs
 |.lst xs=>rF xs
 |.ref _=>false
 |_=>true
noncomputable def rF:List Tw.W->Bool
 |[]=>true
 |x::xs=>nr x&&rF xs
end
def ES(a b:Tw.S):((⟨a.toArray⟩:Str)== ⟨b.toArray⟩)=decide (a=b):=by
 rw[Cy];by_cases e:a=b
 .subst e;simp
 .rw[bc e];refine bc fun z=>e ?_;injection z with z;simpa using dg Array.toList z
mutual
theorem p8:∀(a b:Tw.W),nr a=true->nr b=true->Tw.bz a b=PyData.eqv (toD a) (toD b)
 |.ah,b,ha,hb=>by cases b<;>simp_all [nr,toD,PyData.eqv,Tw.bz.eq_def]
 |.bl x,b,ha,hb=>by cases b<;>simp_all [nr,toD,PyData.eqv,Tw.bz.eq_def,Cy]
 |.int x,b,ha,hb=>by cases b<;>simp_all [nr,toD,PyData.eqv,Tw.bz.eq_def,Cy]
 |.str x,b,ha,hb=>by
  cases b with
  |str y=>rw[Tw.yd,toD,toD,PyData.eqv,ES]
  |_=>simp_all [nr,toD,PyData.eqv,Tw.bz.eq_def]
 |.ref x,b,ha,hb=>by simp[nr] at ha
 |.tup xs,b,ha,hb=>by
  cases b with
  |tup ys=>rw[Tw.yb,toD,toD,PyData.eqv];exact qO xs ys (by simpa [nr] using ha) (by simpa [nr] using hb)
  |_=>simp_all [nr,toD,PyData.eqv,Tw.bz.eq_def]
 |.lst xs,b,ha,hb=>by
  cases b with
  |lst ys=>rw[Tw.ya,toD,toD,PyData.eqv];exact qO xs ys (by simpa [nr] using ha) (by simpa [nr] using hb)
  |_=>simp_all [nr,toD,PyData.eqv,Tw.bz.eq_def]
theorem qO:∀(a b:List Tw.W),rF a=true->rF b=true->Tw.oY a b=PyData.eqvAll (f7 a) (f7 b)
 |[],[],_,_=>by simp[f7,PyData.eqvAll]
 |[],_::_,_,_=>by simp[f7,PyData.eqvAll]
 |_::_,[],_,_=>by simp[f7,PyData.eqvAll]
 |x::xs,y::ys,ha,hb=>by
  simp only[rF,aq] at ha hb;simp only[Tw.oY,f7,PyData.eqvAll,p8 x y ha.1 hb.1,qO xs ys ha.2 hb.2]
end
def D0(h:OZ x):PySem.PyData.canLay0 (.str ⟨x.toArray⟩)=true:=by rw[PyData.canLay0];simp only[PyData.strOk];simp;exact h
section
variable {X:Cx}{E:XK}{pins:aH}{σ:L2.St}{s:Shared}{ι:Nat->Addr}{h:Tw.Hp}{H:L2.Hp}
structure Dat(s:Shared)(k:Nat)(d:Tw.W)(u:Value):Prop where
 ex:∃as,Reads s.heap u (toD d) as
 lay:(toD d).canLay0=true
 deep:(toD d).depth<=k
 nr:nr d=true
theorem wq(P:∀(w d:Tw.W)(v:V)(u:Value),Tw.rd h k w=some d->RW X.K ι h.length H w v->RelV v u->Dat s k d u):
  ∀(ws ds:List Tw.W)(vs:List V)(us:List Value),Tw.gT h k ws=some ds->aS X.K ι h.length H ws vs->Vals vs us->
   (∃as,ReadsAll s.heap us (f7 ds) as)/\PyData.canLayAll0 (f7 ds)=true/\PyData.depthAll (f7 ds)<=k/\rF ds=true
 |[],ds,_,_,e,.nil,.nil=>by
  simp at e;subst e;exact⟨⟨[],.nil⟩,by simp[f7,PyData.canLayAll0],by simp[f7,PyData.depthAll],by simp[rF]⟩
 |w::ws,ds,_,_,e,.cons rw' rws,.cons rv rvs=>by
  rw[Tw.wj] at e;cases e1:Tw.rd h k w with
  |none=>rw[e1] at e;cases e
  |some d=>
   cases e2:Tw.gT h k ws with
   |none=>rw[e1,e2] at e;cases e
   |some ds'=>
    rw[e1,e2] at e;cases e;obtain⟨⟨as,h1⟩,h2,h3,h4⟩:=P w d _ _ e1 rw' rv;obtain⟨⟨bs,g1⟩,g2,g3,g4⟩:=wq P ws ds' _ _ e2 rws rvs;exact⟨⟨as++bs,by rw[f7];exact .cons h1 g1⟩,by simp[f7,PyData.canLayAll0,h2,g2],by simp only[f7,PyData.depthAll];lia,by simp[rF,h4,g4]⟩
def lz(I:Inv X pins σ H s)(r:HR (zx X E) ι h H):∀(k:Nat)(w d:Tw.W)(v:V)(u:Value),Tw.rd h k w=some d->RW X.K ι h.length H w v->RelV v u->Dat s k d u:=by
 have flat:∀(k:Nat)(w d:Tw.W)(v:V)(u:Value),Tw.rd h k w=some d->RW X.K ι h.length H w v->RelV v u->(∀ws,w≠.tup ws)->(∀a,w≠.ref a)->Dat s k d u:=by
  intro k w d v u e rw' rv n1 n2;cases rw' with
  |ah=>simp at e;subst e;cases rv;exact⟨⟨[],.none⟩,by simp[toD,PyData.canLay0],by simp[toD,PyData.depth],by simp[nr]⟩
  |bl b=>simp at e;subst e;cases rv;exact⟨⟨[],.bool b⟩,by simp[toD,PyData.canLay0],by simp[toD,PyData.depth],by simp[nr]⟩
  |int i=>simp at e;subst e;obtain⟨t,rfl⟩:=rv;exact⟨⟨[],.int i t⟩,by simp[toD,PyData.canLay0],by simp[toD,PyData.depth],by simp[nr]⟩
  |str x hx=>simp at e;subst e;obtain⟨t,rfl⟩:=rv;exact⟨⟨[],by rw[toD];exact .str _ t⟩,by rw[toD];exact D0 hx,by simp[toD,PyData.depth],by simp[nr]⟩
  |tup _ _=>exact absurd rfl (n1 _)
  |ref _=>exact absurd rfl (n2 _)
 intro k
 induction k with
 |zero=>
  intro w d v u e rw' rv;cases w with
  |tup ws=>cases (show (none:Option Tw.W)=some d from e)
  |ref a=>cases (show (none:Option Tw.W)=some d from e)
  |_=>exact flat _ _ _ _ _ e rw' rv (fun _ z=>nomatch z) (fun _ z=>nomatch z)
 |succ k ih=>
  intro w d v u e rw' rv;cases w with
  |tup ws=>
   rw[Tw.IG] at e;cases e2:Tw.gT h k ws with
   |none=>rw[e2] at e;cases e
   |some ds=>
    rw[e2] at e;cases e;cases rw' with
    | @tup a xs _ ea ra=>
     cases rv;obtain⟨its,r1,it,_⟩:=I.tuple (TupAt.sq ea);obtain⟨⟨as,g1⟩,g2,g3,g4⟩:=wq ih ws ds _ _ e2 ra r1;obtain⟨o,h1,h2,n,h3⟩:=it;exact⟨⟨as,by rw[toD];exact .tuple h1 h2 h3 (by simpa using g1)⟩,by rw[toD,PyData.canLay0];exact g2,by rw[toD,PyData.depth];lia,by rw[nr];exact g4⟩
  |ref i=>
   cases rw' with
   |ref hi=>
    cases rv;have e:(match h[i]? with
     |some (.lst xs)=>(Tw.gT h k xs).map Tw.W.lst
     |some (.aV xs)=>(Tw.gT h k xs).map Tw.W.lst
     |_=>none)=some d:=by rw[Tw.C8] at e;exact e
    have fin:∀(ws:List Tw.W)(xs:List V),(Tw.gT h k ws).map Tw.W.lst=some d->cq X.K H (ι i) xs->aS X.K ι h.length H ws xs->Dat s (k+1) d (.ref (ι i)):=by
     intro ws xs e sq rws;cases e2:Tw.gT h k ws with
     |none=>rw[e2] at e;cases e
     |some ds=>
      rw[e2] at e;cases e;obtain⟨its,r1,⟨o,n,h1,h2,_,h3⟩,_⟩:=I.list sq;obtain⟨⟨as,g1⟩,g2,g3,g4⟩:=wq ih ws ds _ _ e2 rws r1;exact⟨⟨_,by rw[toD];exact .list h1 h2 h3 (by simpa using g1)⟩,by rw[toD,PyData.canLay0];exact g2,by rw[toD,PyData.depth];lia,by rw[nr];exact g4⟩
    cases ei:h[i]? with
    |none=>rw[ei] at e;cases e
    |some o=>
     rw[ei] at e;cases o with
     |lst ws=>obtain⟨xs,q1,q2⟩:=r.obj i _ ei;exact fin ws xs e (cq.of q1) q2
     |aV ws=>obtain⟨xs,q1,q2⟩:=r.obj i _ ei;exact fin ws xs e q1.sq q2
     |fD _=>cases e
     |ins _ _=>cases e
     |_=>cases e
  |lst _=>rw[Tw.JJ] at e;cases e
  |_=>exact flat _ _ _ _ _ e rw' rv (fun _ z=>nomatch z) (fun _ z=>nomatch z)
end
section
variable {K:W.Frag}{ι:Nat->Addr}{n:Nat}{H:L2.Hp}
end
section
variable {X:Cx}{E:XK}{pins:aH}{σ:L2.St}{s:Shared}{ι:Nat->Addr}{h:Tw.Hp}{H:L2.Hp}{A:Around}
end
def As(K:Zk)(neg:Bool):R2:=fun x y H Q=>∃(ι:Nat->Addr) (h:Tw.Hp) (w u:Tw.W) (b:Bool),HR K ι h H/\RW K.K ι h.length H w x/\RW K.K ι h.length H u y/\Tw.dB h w u=some b/\Q (.bl (if neg then !b else b)) H
section
variable {X:Cx}{E:XK}
def Kk(hu:X.A.units+950<cLine):dz X (compareOp .Eq) (As (zx X E) false):=by
 intro pins s σ H x y v u Q I rx ry ⟨ι,h,w,z,b,r,rw',rz,e,q⟩;unfold Tw.dB at e;cases e1:Tw.cS h w with
 |none=>
  cases e2:Tw.cS h z with
  |some _=>rw[e1,e2] at e;cases e
  |none=>
   rw[e1,e2] at e;cases e3:Tw.rd h 900 w with
   |none=>rw[e3] at e;cases e
   |some a=>
    cases e4:Tw.rd h 900 z with
    |none=>rw[e3,e4] at e;cases e
    |some c=>
     rw[e3,e4] at e;cases e;obtain⟨⟨as,h1⟩,h2,h3,h4⟩:=lz I r 900 w a x v e3 rw' rx;obtain⟨⟨bs,g1⟩,g2,g3,g4⟩:=lz I r 900 z c y u e4 rz ry;refine SeqAt.compareEq_reads h1 g1 h2 g2 (by have:=Nat.min_le_left (toD a).depth (toD c).depth;lia) ?_;rw[<-p8 a c h4 g4];exact⟨.bl _,H,I,rfl,q⟩
 |some xs=>
  cases e2:Tw.cS h z with
  |none=>rw[e1,e2] at e;cases e
  |some ys=>rw[e1,e2] at e;cases e
def IT(hu:X.A.units+950<cLine):dz X (compareOp .NotEq) (As (zx X E) true):=by
 intro pins s σ H x y v u Q I rx ry ⟨ι,h,w,z,b,r,rw',rz,e,q⟩;unfold Tw.dB at e;cases e1:Tw.cS h w with
 |none=>
  cases e2:Tw.cS h z with
  |some _=>rw[e1,e2] at e;cases e
  |none=>
   rw[e1,e2] at e;cases e3:Tw.rd h 900 w with
   |none=>rw[e3] at e;cases e
   |some a=>
    cases e4:Tw.rd h 900 z with
    |none=>rw[e3,e4] at e;cases e
    |some c=>
     rw[e3,e4] at e;cases e;obtain⟨⟨as,h1⟩,h2,h3,h4⟩:=lz I r 900 w a x v e3 rw' rx;obtain⟨⟨bs,g1⟩,g2,g3,g4⟩:=lz I r 900 z c y u e4 rz ry;refine SeqAt.compareNe_reads h1 g1 h2 g2 (by have:=Nat.min_le_left (toD a).depth (toD c).depth;lia) ?_;rw[<-p8 a c h4 g4];exact⟨.bl _,H,I,rfl,q⟩
 |some xs=>
  cases e2:Tw.cS h z with
  |none=>rw[e1,e2] at e;cases e
  |some ys=>rw[e1,e2] at e;cases e
end
noncomputable def dT(d:Tw.Env->Tw.Hp->Tw.R Tw.W):Tw.Env->Tw.Hp->Tw.R Bool:=fun ρ h=>(d ρ h).bind fun w h=>Tw.R.of (Tw.truth h w) h
abbrev tT(K:Zk)(d:Tw.Env->Tw.Hp->Tw.R Tw.W):TT:=tG K RB (dT d)
theorem bind_assoc{α β γ:Type}(m:Tw.R α)(k:α->Tw.Hp->Tw.R β)(l:β->Tw.Hp->Tw.R γ):(m.bind k).bind l=m.bind fun a h=>(k a h).bind l:=by cases m<;>rfl
section
variable {X:Cx}{E:XK}{a b c:Expr}{pos:Pos}{da db dc:Tw.Env->Tw.Hp->Tw.R Tw.W}
def I8(ho:dz X (compareOp o) r)
  (hr:∀(ι:Nat->Addr)(h:Tw.Hp)(H:L2.Hp)(w u:Tw.W)(x y:V)(k:Bool)(Q:VK),HR (zx X E) ι h H->RW X.K ι h.length H w x->RW X.K ι h.length H u y->Tw.cmp op w u h=some k->Q (.bl k) H->r x y H Q)
  (ha:PE X a (tE (zx X E) da)) (hb:PE X b (tE (zx X E) db)) (hm:behindInMarks o b=false):
  PE X (.Compare a [o] [b] pos) (tE (zx X E) fun ρ h=>(da ρ h).bind fun x h=>(db ρ h).bind fun y h=>Tw.R.of ((Tw.cmp op x y h).map .bl) h)/\
  PT X (.Compare a [o] [b] pos) (tT (zx X E) fun ρ h=>(da ρ h).bind fun x h=>(db ρ h).bind fun y h=>Tw.R.of ((Tw.cmp op x y h).map .bl) h):=by
 constructor
 .refine PE.imp (yA ho ha hb hm) (two fun ι h H w u x y Q hR rx ry p=>?_);cases e:Tw.cmp op w u h with
  |none=>rw[e] at p;exact p.elim
  |some k=>rw[e] at p;exact hr ι h H w u x y k Q hR rx ry e (ao.self (a:=Tw.W.bl k) p hR (.bl k))
 .refine PT.imp (yC ho ha hb hm) fun σ H Q Z=>Z.k3 fun ρ h ι at' p=>?_;simp only[dT,bind_assoc] at p;refine⟨ρ,h,ι,at',(step at' p).mono fun x H1 Z=>Z.k4 fun w h1 ι1 at1 e1 r1 p1=>⟨ρ,h1,ι1,at1,(step at1 p1).mono fun y H2 Z=>Z.k4 fun u h2 ι2 at2 e2 r2 p2=>?_⟩⟩;cases e:Tw.cmp op w u h2 with
  |none=>rw[e] at p2;exact p2.elim
  |some k=>rw[e] at p2;exact hr ι2 h2 H2 w u x y k _ at2.hr (r1.keep (e2.keeps at1.hr)) r2 e ⟨k,rfl,ao.self (a:=k) p2 at2.hr rfl⟩
def R7(ι:Nat->Addr)(h:Tw.Hp)(H:L2.Hp)(w u:Tw.W)(x y:V)(k:Bool)(Q:VK)(r:HR (zx X E) ι h H)(rx:RW X.K ι h.length H w x)(ry:RW X.K ι h.length H u y)(e:Tw.cmp .eq w u h=some k)(q:Q (.bl k) H):As (zx X E) false x y H Q:=
 ⟨ι,h,w,u,k,r,rx,ry,e,q⟩
def QY(ι:Nat->Addr)(h:Tw.Hp)(H:L2.Hp)(w u:Tw.W)(x y:V)(k:Bool)(Q:VK)(r:HR (zx X E) ι h H)(rx:RW X.K ι h.length H w x)(ry:RW X.K ι h.length H u y)(e:Tw.cmp .ne w u h=some k)(q:Q (.bl k) H):As (zx X E) true x y H Q:=by
 have e:(Tw.dB h w u).map (!·)=some k:=e;cases e2:Tw.dB h w u with
 |none=>rw[e2] at e;cases e
 |some b=>rw[e2] at e;cases e;exact⟨ι,h,w,u,b,r,rx,ry,e2,q⟩
def uW{f:Int->Int->Bool}(hf:∀w u h,Tw.cmp op w u h=match w,u with | .int i,.int j=>some (f i j)|_,_=>none)
  (ι:Nat->Addr) (h:Tw.Hp) (H:L2.Hp) (w u:Tw.W) (x y:V) (k:Bool) (Q:VK) (r:HR (zx X E) ι h H) (rx:RW X.K ι h.length H w x) (ry:RW X.K ι h.length H u y) (e:Tw.cmp op w u h=some k) (q:Q (.bl k) H):qA (fun i j=>.bl (f i j)) x y H Q:=by
 rw[hf] at e;cases rx with
 |int i=>
  cases ry with
  |int j=>cases e;exact⟨i,j,rfl,rfl,q⟩
  |_=>cases e
 |_=>cases ry<;>cases e
def L7(ι:Nat->Addr)(h:Tw.Hp)(H:L2.Hp)(w u:Tw.W)(x y:V)(k:Bool)(Q:VK)(r:HR (zx X E) ι h H)(rx:RW X.K ι h.length H w x)(ry:RW X.K ι h.length H u y)(e:Tw.cmp .notN w u h=some k)(q:Q (.bl k) H):
  y=.ah/\Q (.bl (!decide (x=.ah))) H:=by
 cases ry with
 |ah=>cases rx<;>(cases e;exact⟨rfl,q⟩)
 |_=>cases e
def tK(K:Zk)(neg:Bool):R2:=fun x y H Q=>∃ι h w ws p xs a ds,HR K ι h H/\RW K.K ι h.length H w x/\y=.ref p/\(cq K.K H p xs\/dC K.K H p xs)/\aS K.K ι h.length H ws xs/\Tw.rd h 60 w=some a/\Tw.gT h 60 ws=some ds/\
 Q (.bl (if neg then !(ds.any fun z=>Tw.bz z a) else ds.any fun z=>Tw.bz z a)) H
open Classical in
noncomputable def jM(s:Shared)(a:PyData)(y:Value):Bool:=decide (∃d as,Reads s.heap y d as/\PyData.eqv d a=true)
open Classical in
def CS{a:PyData}(r:Reads s.heap y d as):jM s a y=PyData.eqv d a:=by
 unfold jM;cases e:PyData.eqv d a with
 |true=>exact bT ⟨d,as,r,e⟩
 |false=>exact bc fun⟨d',as',r',e'⟩=>(by obtain⟨rfl,_⟩:=PySem.Reads.unique r _ _ r';rw[e] at e';cases e')
theorem om{a:Tw.W}{A:Around}(I:Inv X pins σ H s)(r:HR (zx X E) ι h H)(h1:Reads s.heap v (toD a) as)(h2:(toD a).canLay0=true)(h4:nr a=true)(hu:A.units+90<cLine):∀(ws ds:List Tw.W)(xs:List V)(us:List Value),Tw.gT h 60 ws=some ds->aS X.K ι h.length H ws xs->Vals xs us->
  (∀y∈us,SeqAt.EqAt A s y v (jM s (toD a) y))/\us.any (jM s (toD a))=ds.any fun z=>Tw.bz z a
 |[],ds,_,_,e,.nil,.nil=>by rw[Tw.Iy] at e;cases e;exact⟨fun y hy=>(nomatch hy),rfl⟩
 |w::ws,ds,_,_,e,.cons rw' rws,.cons rv rvs=>by
  rw[Tw.wj] at e;cases e1:Tw.rd h 60 w with
  |none=>rw[e1] at e;cases e
  |some d=>
   cases e2:Tw.gT h 60 ws with
   |none=>rw[e1,e2] at e;cases e
   |some ds'=>
    rw[e1,e2] at e;cases e;obtain⟨⟨bs,g1⟩,g2,g3,g4⟩:=lz I r 60 w d _ _ e1 rw' rv;obtain⟨z1,z2⟩:=om I r h1 h2 h4 hu ws ds' _ _ e2 rws rvs;refine⟨fun y hy=>?_,?_⟩
    .rcases fH.mp hy with rfl|hy
     .rw[CS g1];exact SeqAt.eqAt_reads _ _ A s _ _ _ _ g1 h1 g2 h2 (by have:=Nat.min_le_left (toD d).depth (toD a).depth;lia)
     .exact z1 y hy
    .rw[List.any_cons,List.any_cons,z2,CS g1,p8 d a g4 h4]
def LU(hu:X.A.units+100<cLine):dz X (compareOp .In) (tK (zx X E) false):=by
 .intro pins s σ H x y v u Q I rx ry ⟨ι,h,w,ws,p,xs,a,ds,r,rw',ey,sq,rws,e1,e2,q⟩;subst ey;cases ry;obtain⟨⟨as,h1⟩,h2,h3,h4⟩:=lz I r 60 w a x v e1 rw' rx;rcases sq with sq|sq
  .obtain⟨its,rv,pl,hz⟩:=I.list sq;obtain⟨z1,z2⟩:=om (A:=X.A.in1) I r h1 h2 h4 (show X.A.units+1+90<cLine by lia) ws ds _ _ e2 rws rv;refine SeqAt.in_listAt (jM s (toD a)) pl.isList (fun w hw=>z1 w (by simpa using hw)) ⟨.bl _,H,I,rfl,?_⟩;rw[show its.toArray.any (jM s (toD a))=its.any (jM s (toD a)) by simp,z2];exact q
  .obtain⟨its,rv,pl,hz⟩:=I.tuple sq;obtain⟨z1,z2⟩:=om (A:=X.A.in1) I r h1 h2 h4 (show X.A.units+1+90<cLine by lia) ws ds _ _ e2 rws rv;refine SeqAt.in_tupleAt (jM s (toD a)) pl (fun w hw=>z1 w (by simpa using hw)) ⟨.bl _,H,I,rfl,?_⟩;rw[show its.toArray.any (jM s (toD a))=its.any (jM s (toD a)) by simp,z2];exact q
def BE(hu:X.A.units+100<cLine):dz X (compareOp .NotIn) (tK (zx X E) true):=by
 .intro pins s σ H x y v u Q I rx ry ⟨ι,h,w,ws,p,xs,a,ds,r,rw',ey,sq,rws,e1,e2,q⟩;subst ey;cases ry;obtain⟨⟨as,h1⟩,h2,h3,h4⟩:=lz I r 60 w a x v e1 rw' rx;rcases sq with sq|sq
  .obtain⟨its,rv,pl,hz⟩:=I.list sq;obtain⟨z1,z2⟩:=om (A:=X.A.in1) I r h1 h2 h4 (show X.A.units+1+90<cLine by lia) ws ds _ _ e2 rws rv;refine SeqAt.notIn_listAt (jM s (toD a)) pl.isList (fun w hw=>z1 w (by simpa using hw)) ⟨.bl _,H,I,rfl,?_⟩;rw[show its.toArray.any (jM s (toD a))=its.any (jM s (toD a)) by simp,z2];exact q
  .obtain⟨its,rv,pl,hz⟩:=I.tuple sq;obtain⟨z1,z2⟩:=om (A:=X.A.in1) I r h1 h2 h4 (show X.A.units+1+90<cLine by lia) ws ds _ _ e2 rws rv;refine SeqAt.notIn_tupleAt (jM s (toD a)) pl (fun w hw=>z1 w (by simpa using hw)) ⟨.bl _,H,I,rfl,?_⟩;rw[show its.toArray.any (jM s (toD a))=its.any (jM s (toD a)) by simp,z2];exact q
def in_of(neg:Bool)(ι:Nat->Addr)(h:Tw.Hp)(H:L2.Hp)(w u:Tw.W)(x y:V)(k:Bool)(Q:VK)(r:HR (zx X E) ι h H)(rx:RW X.K ι h.length H w x)(ry:RW X.K ι h.length H u y)(e:Tw.isIn w u h=some k)
  (q:Q (.bl (if neg then !k else k)) H):tK (zx X E) neg x y H Q:=by
 unfold Tw.isIn at e;cases e2:Tw.JR h u with
  |none=>rw[e2] at e;cases e
  |some ws=>
   rw[e2] at e;dsimp only at e;have fin:∀(p:Addr)(xs:List V),y=.ref p->(cq X.K H p xs\/dC X.K H p xs)->aS X.K ι h.length H ws xs->tK (zx X E) neg x y H Q:=by
    intro p xs ey sq rr;cases e3:Tw.rd h 60 w with
    |none=>rw[e3] at e;cases e
    |some a=>
     cases e4:Tw.gT h 60 ws with
     |none=>rw[e3,e4] at e;cases e
     |some ds=>
      rw[e3,e4] at e;cases e;exact⟨ι,h,w,ws,p,xs,a,ds,r,rx,ey,sq,rr,e3,e4,q⟩
   cases ry with
   | @tup a xs us ea ra=>
    have e2:some us=some ws:=e2;cases e2;exact fin a xs rfl (.inr (TupAt.sq ea)) ra
   | @ref i hi=>
    have e2:(match h[i]? with|some (.lst xs)=>some xs|some (.aV xs)=>some xs|_=>none)=some ws:=e2;cases ei:h[i]? with
    |none=>rw[ei] at e2;cases e2
    |some o=>
     rw[ei] at e2;cases o with
     |lst us=>cases e2;obtain⟨xs,q1,q2⟩:=r.obj i _ ei;exact fin _ xs rfl (.inl (cq.of q1)) q2
     |aV us=>cases e2;obtain⟨xs,q1,q2⟩:=r.obj i _ ei;exact fin _ xs rfl (.inl q1.sq) q2
     |_=>cases e2
   |_=>cases e2
def QB(ι:Nat->Addr)(h:Tw.Hp)(H:L2.Hp)(w u:Tw.W)(x y:V)(k:Bool)(Q:VK)(r:HR (zx X E) ι h H)(rx:RW X.K ι h.length H w x)(ry:RW X.K ι h.length H u y)(e:Tw.cmp .isin w u h=some k)(q:Q (.bl k) H):tK (zx X E) false x y H Q:=
 in_of false ι h H w u x y k Q r rx ry e q
def Il(ι:Nat->Addr)(h:Tw.Hp)(H:L2.Hp)(w u:Tw.W)(x y:V)(k:Bool)(Q:VK)(r:HR (zx X E) ι h H)(rx:RW X.K ι h.length H w x)(ry:RW X.K ι h.length H u y)(e:Tw.cmp .notin w u h=some k)(q:Q (.bl k) H):tK (zx X E) true x y H Q:=by
 have e:(Tw.isIn w u h).map (!·)=some k:=e;cases e2:Tw.isIn w u h with
 |none=>rw[e2] at e;cases e
 |some b=>rw[e2] at e;cases e;exact in_of true ι h H w u x y b Q r rx ry e2 q
def CA(ι:Nat->Addr)(h:Tw.Hp)(H:L2.Hp)(w:Tw.W)(x:V)(k:Bool)(r:HR (zx X E) ι h H)(rx:RW X.K ι h.length H w x)(e:Tw.truth h w=some k):DM X.K x H k:=by
 cases rx with
 |bl b=>cases e;rfl
 |_=>cases e
end
end TwS
namespace TwS
open PySem L2 PyProof.Rows
section
variable {X:Cx}{E:XK}{a b c:Expr}{pos:Pos}{da db dc:Tw.Env->Tw.Hp->Tw.R Tw.W}
def HA(ha:PE X a (tE (zx X E) da))(he:∀whole,isTrue a X.env whole=(do let v <-whole;standAt a.pos;holding [v] (truthy v))):PT X a (tT (zx X E) da):=by
 refine PT.imp (EB ha he) fun σ H Q Z=>Z.k3 fun ρ h ι at' p=>⟨ρ,h,ι,at',(step at' p).mono fun x H1 Z=>Z.k4 fun w h1 ι1 at1 e1 r1 p1=>?_⟩;cases e:Tw.truth h1 w with
 |none=>rw[e] at p1;exact p1.elim
 |some k=>rw[e] at p1;exact⟨k,CA ι1 h1 H1 w x k at1.hr r1 e,ao.self (a:=k) p1 at1.hr rfl⟩
def Om(ha:PE X a (tE (zx X E) da))(ht:PT X a (tT (zx X E) da)):
  PE X (.UnaryOp .Not a pos) (tE (zx X E) fun ρ h=>(da ρ h).bind fun x h=>Tw.R.of ((Tw.truth h x).map fun b=>.bl (!b)) h)/\
  PT X (.UnaryOp .Not a pos) (tT (zx X E) fun ρ h=>(da ρ h).bind fun x h=>Tw.R.of ((Tw.truth h x).map fun b=>.bl (!b)) h):=by
 constructor
 .intro pins s σ H Q I ⟨ρ,h,ι,at',p⟩;refine UnaryOp_ (aB (ha pins s σ H _ I ⟨ρ,h,ι,at',step at' p⟩) fun v s1 Z=>Z.k2 fun x H1 I1 rv Z=>Z.k4 fun w h1 ι1 at1 e1 r1 p1=>not_of ?_);cases e:Tw.truth h1 w with
  |none=>rw[e] at p1;exact p1.elim
  |some k=>
   rw[e] at p1;refine aB (Du pins s1 σ H1 x v (fun k' H'=>Q (.bl (!k')) H') I1 rv ⟨k,CA ι1 h1 H1 w x k at1.hr r1 e,ao.self (a:=Tw.W.bl (!k)) p1 at1.hr (.bl _)⟩) fun k' s2 Z=>Z.k1 fun H2 I2 q=>⟨.bl (!k'),H2,I2,rfl,q⟩
 .refine PT.imp (KC ht) fun σ H Q Z=>Z.k3 fun ρ h ι at' p=>?_;refine⟨ρ,h,ι,at',?_⟩;simp only[dT,bind_assoc] at p⊢;cases e0:da ρ h with
  |bad=>rw[e0] at p;exact p.elim
  |aw=>rw[e0] at p;exact p
  |ok w h1=>
   rw[e0] at p;simp only[Tw.R.aZ] at p⊢;cases e:Tw.truth h1 w with
   |none=>rw[e] at p;exact p.elim
   |some k=>
    rw[e] at p;intro ι' H' b e1 r1 q;cases q;exact p ι' H' (!k) e1 r1 rfl
noncomputable def BC(da db:Tw.Env->Tw.Hp->Tw.R Tw.W):Tw.Env->Tw.Hp->Tw.R Tw.W:=fun ρ h=>(da ρ h).bind fun x h=>match x with
  |.bl true=>db ρ h
  |.bl false=>.ok (.bl false) h
  |_=>.bad
noncomputable def FX(da db:Tw.Env->Tw.Hp->Tw.R Tw.W):Tw.Env->Tw.Hp->Tw.R Tw.W:=fun ρ h=>(da ρ h).bind fun x h=>match x with
  |.bl false=>db ρ h
  |.bl true=>.ok (.bl true) h
  |_=>.bad
def N7{rest:List Expr}(ha:PE X a (tE (zx X E) da))(hb:PE X (.BoolOp .And (b::rest) pos) (tE (zx X E) db)):PE X (.BoolOp .And (a::b::rest) pos) (tE (zx X E) (BC da db)):=by
 refine PE.imp (Jr ha hb) fun σ H Q Z=>Z.k3 fun ρ h ι at' p=>⟨ρ,h,ι,at',(step at' p).mono fun x H1 Z=>Z.k4 fun w h1 ι1 at1 e1 r1 p1=>?_⟩;cases r1 with
 |bl k=>
  refine⟨k,rfl,?_⟩;cases k with
  |true=>rw[if_pos rfl];exact⟨ρ,h1,ι1,at1,p1⟩
  |false=>rw[if_neg (by decide)];exact ao.self (a:=Tw.W.bl false) p1 at1.hr (.bl _)
 |_=>exact p1.elim
def RS{rest:List Expr}(ha:PE X a (tE (zx X E) da))(hb:PE X (.BoolOp .Or (b::rest) pos) (tE (zx X E) db)):PE X (.BoolOp .Or (a::b::rest) pos) (tE (zx X E) (FX da db)):=by
 refine PE.imp (M6 ha hb) fun σ H Q Z=>Z.k3 fun ρ h ι at' p=>⟨ρ,h,ι,at',(step at' p).mono fun x H1 Z=>Z.k4 fun w h1 ι1 at1 e1 r1 p1=>?_⟩;cases r1 with
 |bl k=>
  refine⟨k,rfl,?_⟩;cases k with
  |true=>rw[if_pos rfl];exact ao.self (a:=Tw.W.bl true) p1 at1.hr (.bl _)
  |false=>rw[if_neg (by decide)];exact⟨ρ,h1,ι1,at1,p1⟩
 |_=>exact p1.elim
def w_and{rest:List Expr}(ha:PT X a (tT (zx X E) da))(hb:PW X (.BoolOp .And (b::rest) pos) (tT (zx X E) db)):PW X (.BoolOp .And (a::b::rest) pos) (tT (zx X E) (BC da db)):=by
 refine PW.imp (LL ha hb) fun σ H Q Z=>Z.k3 fun ρ h ι at' p=>⟨ρ,h,ι,at',?_⟩;simp only[dT,BC,bind_assoc] at p⊢;cases e0:da ρ h with
 |bad=>rw[e0] at p;exact p.elim
 |aw=>rw[e0] at p;exact p
 |ok w h1=>
  rw[e0] at p;simp only[Tw.R.aZ] at p⊢;cases w with
  |bl k=>
   intro ι' H' k' e1 r1 q;cases q;cases k with
   |true=>rw[if_pos rfl];exact⟨ρ,h1,ι',at'.later e1 r1,ao.later p e1⟩
   |false=>rw[if_neg (by decide)];exact ao.self (a:=false) (ao.later p e1) r1 rfl
  |_=>exact p.elim
def w_or{rest:List Expr}(ha:PT X a (tT (zx X E) da))(hb:PW X (.BoolOp .Or (b::rest) pos) (tT (zx X E) db)):PW X (.BoolOp .Or (a::b::rest) pos) (tT (zx X E) (FX da db)):=by
 refine PW.imp (OB ha hb) fun σ H Q Z=>Z.k3 fun ρ h ι at' p=>⟨ρ,h,ι,at',?_⟩;simp only[dT,FX,bind_assoc] at p⊢;cases e0:da ρ h with
 |bad=>rw[e0] at p;exact p.elim
 |aw=>rw[e0] at p;exact p
 |ok w h1=>
  rw[e0] at p;simp only[Tw.R.aZ] at p⊢;cases w with
  |bl k=>
   intro ι' H' k' e1 r1 q;cases q;cases k with
   |true=>rw[if_pos rfl];exact ao.self (a:=true) (ao.later p e1) r1 rfl
   |false=>rw[if_neg (by decide)];exact⟨ρ,h1,ι',at'.later e1 r1,ao.later p e1⟩
  |_=>exact p.elim
def Oz(hc:PT X c (tT (zx X E) dc))(ha:PE X a (tE (zx X E) da))(hb:PE X b (tE (zx X E) db)):PE X (.IfExp c a b pos) (tE (zx X E) fun ρ h=>(dc ρ h).bind fun x h=>match Tw.truth h x with
  |some true=>da ρ h
  |some false=>db ρ h
  |none=>.bad):=by
 refine PE.imp (DT hc ha hb) fun σ H Q Z=>Z.k3 fun ρ h ι at' p=>⟨ρ,h,ι,at',?_⟩;simp only[dT] at p⊢;cases e0:dc ρ h with
 |bad=>rw[e0] at p;exact p.elim
 |aw=>rw[e0] at p;exact p
 |ok w h1=>
  rw[e0] at p;simp only[Tw.R.aZ] at p⊢;cases e:Tw.truth h1 w with
  |none=>rw[e] at p;exact p.elim
  |some k=>
   rw[e] at p;intro ι' H' k' e1 r1 q;cases q;cases k with
   |true=>rw[if_pos rfl];exact⟨ρ,h1,ι',at'.later e1 r1,ao.later p e1⟩
   |false=>rw[if_neg (by decide)];exact⟨ρ,h1,ι',at'.later e1 r1,ao.later p e1⟩
def IF(ι:Nat->Addr)(h:Tw.Hp)(H:L2.Hp)(w u:Tw.W)(x y:V)(Q:VK)(r:HR (zx X E) ι h H)(rx:RW X.K ι h.length H w x)(ry:RW X.K ι h.length H u y)(p:ao (zx X E) RE ι h H (Tw.idx w u h) Q):IX X.K x y H Q:=by
 have lst:∀(i:Nat)(hi:i<h.length)(ws:List Tw.W)(xs:List V),cq X.K H (ι i) xs->aS X.K ι h.length H ws xs->ao (zx X E) RE ι h H (match u with | .int k=>Tw.R.of (Tw.dM ws k) h|_=>.bad) Q->IX X.K (.ref (ι i)) y H Q:=by
  intro i hi ws xs sq rr p;cases ry with
  |int k=>
   dsimp only at p;cases e:Tw.dM ws k with
   |none=>rw[e] at p;exact p.elim
   |some w'=>
    rw[e] at p;obtain⟨v,q1,q2⟩:=rr.dM e;exact .inl ⟨ι i,xs,k,v,rfl,rfl,sq,q1,ao.self (a:=w') p r q2⟩
  |_=>exact p.elim
 cases rx with
 | @tup a xs ws ea ra=>
  cases ry with
  |int k=>
   have p:ao (zx X E) RE ι h H (Tw.R.of (Tw.dM ws k) h) Q:=p;cases e:Tw.dM ws k with
   |none=>rw[e] at p;exact p.elim
   |some w'=>
    rw[e] at p;obtain⟨v,q1,q2⟩:=ra.dM e;exact .inr (.inl ⟨a,xs,k,v,rfl,rfl,TupAt.sq ea,q1,ao.self (a:=w') p r q2⟩)
  |_=>exact p.elim
 | @ref i hi=>
  cases ei:h[i]? with
  |none=>
   have:h.length<=i:=by
    rcases tD i h.length with z|z
    .rw[lN z] at ei;cases ei
    .exact z
   lia
  |some o=>
   cases o with
   |lst ws=>
    obtain⟨xs,q1,q2⟩:=r.obj i _ ei;refine lst i hi ws xs (cq.of q1) q2 ?_;simp only[Tw.idx,ei] at p;cases u<;>exact p
   |aV ws=>
    obtain⟨xs,q1,q2⟩:=r.obj i _ ei;refine lst i hi ws xs q1.sq q2 ?_;simp only[Tw.idx,ei] at p;cases u<;>exact p
   |ins _ _=>exfalso;cases ry<;>simp[Tw.idx,ei] at p<;>exact p
   |_=>exfalso;cases ry<;>simp[Tw.idx,ei] at p<;>exact p
 |_=>cases ry<;>exact p.elim
def Ot(hu:X.A.units+1<cLine)(ha:PE X a (tE (zx X E) da))(hb:PE X b (tE (zx X E) db))(hs:pM b):PE X (.Subscript a b pos) (tE (zx X E) fun ρ h=>(da ρ h).bind fun x h=>(db ρ h).bind fun y h=>Tw.idx x y h):=
 PE.imp (Gx Kr ha hb hs) (two IF)
end
section
variable {X:Cx}{E:XK}{a b c:Expr}{pos:Pos}{da db dc:Tw.Env->Tw.Hp->Tw.R Tw.W}
abbrev Cq(K:Zk)(d:Tw.Env->Tw.Hp->Tw.R (Option Tw.W)):TO:=fun σ H Q=>∃ρ h ι,At K ι h H ρ σ/\ao K (fun _ _ _ _ (a:Option Tw.W) (b:Option Tw.W)=>a=b) ι h H (d ρ h) fun o H1=>∃i,Tw.iG o=some i/\Q i H1
def EK:PO X none (Cq (zx X E) fun _ h=>.ok none h):=fun pins s σ H Q I Z=>Z.k3 fun ρ h ι at' p=>by
 obtain⟨i,e,q⟩:=p.self at'.hr rfl;cases e;exact GP pins s σ H Q I q
def DP(ha:PE X a (tE (zx X E) da)):PO X (some a) (Cq (zx X E) fun ρ h=>(da ρ h).bind fun x h=>.ok (some x) h):=fun pins s σ H Q I Z=>Z.k3 fun ρ h ι at' p=>by
 refine Hf ha pins s σ H Q I ⟨ρ,h,ι,at',(step at' p).mono fun x H1 Z=>Z.k4 fun w h1 ι1 at1 e1 r1 p1=>?_⟩;obtain⟨i,e,q⟩:=ao.self (a:=some w) p1 at1.hr rfl;cases r1 with
 |int k=>cases e;exact⟨k,rfl,q⟩
 |_=>cases e
def D5{ι:Nat->Addr}(r:HR (zx X E) ι h H)(rx:RW X.K ι h.length H w x)(el:Tw.iG l=some i)(eu:Tw.iG u=some j)
  (p:ao (zx X E) RE ι h H (Tw.slice w l u h) Q):Lr X.K x i j H Q:=by
 unfold Tw.slice at p;rw[el,eu] at p;dsimp only at p;cases rx with
 | @tup a xs ws ea ra=>
  dsimp only at p;by_cases c:Tw.bL ws.length 0 i=0/\Tw.bL ws.length ws.length j=ws.length
  .rw[if_pos c] at p;exact p.elim
  .rw[if_neg c] at p;refine⟨a,xs,rfl,TupAt.sq ea,?_,p.tup r (ra.cut i j)⟩;rw[<-ra.length,<-sr,<-sr];exact c
 |_=>exact p.elim
def G6{lo hi:Option Expr}{p2:Pos}{dl du:Tw.Env->Tw.Hp->Tw.R (Option Tw.W)}(ha:PE X a (tE (zx X E) da))(hl:PO X lo (Cq (zx X E) dl))(hu:PO X hi (Cq (zx X E) du)):
  PE X (.Subscript a (.Slice lo hi none p2) pos) (tE (zx X E) fun ρ h=>(da ρ h).bind fun x h=>(dl ρ h).bind fun l h=>(du ρ h).fY.bind fun u h=>Tw.slice x l u h):=by
 refine PE.imp (DA IQ ha hl hu) fun σ H Q Z=>Z.k3 fun ρ h ι at' p=>⟨ρ,h,ι,at',(step at' p).mono fun x H1 Z=>Z.k4 fun w h1 ι1 at1 e1 r1 p1=>?_⟩;refine⟨ρ,h1,ι1,at1,?_⟩;cases el:dl ρ h1 with
 |bad=>rw[el] at p1;exact p1.elim
 |aw=>rw[el] at p1;exact p1
 |ok l h2=>
  rw[el] at p1;simp only[Tw.R.aZ] at p1;intro ι2 H2 l' e2 r2 q2;cases q2;cases eu:du ρ h2 with
  |bad=>rw[eu] at p1;exact p1.elim
  |aw=>rw[eu] at p1;exact p1.elim
  |ok u h3=>
   rw[eu] at p1;simp only[Tw.R.kr,Tw.R.aZ] at p1;have pl:∃i,Tw.iG l=some i:=by
    cases e:Tw.iG l with
    |some i=>exact⟨i,rfl⟩
    |none=>unfold Tw.slice at p1;rw[e] at p1;exact p1.elim
   have pu:∃i,Tw.iG u=some i:=by
    cases e:Tw.iG u with
    |some i=>exact⟨i,rfl⟩
    |none=>unfold Tw.slice at p1;rw[e] at p1;obtain⟨i,e'⟩:=pl;rw[e'] at p1;exact p1.elim
   obtain⟨i,ei⟩:=pl;obtain⟨j,ej⟩:=pu;refine⟨i,ei,ρ,h2,ι2,at1.later e2 r2,?_⟩;rw[eu];intro ι3 H3 u' e3 r3 q3;cases q3;have p3:=ao.later (ao.later p1 e2) e3;exact⟨j,ej,D5 r3 ((r1.keep (e2.keeps at1.hr)).keep (e3.keeps r2)) ei ej p3⟩
def vk{r:List V->L2.Hp->VK->Prop}(hp:PE X (.Call (.Name x p) [a] [] pos) (L9 r (pE (tE (zx X E) da) wI)))
  (hr:∀(ι:Nat->Addr)(h:Tw.Hp)(H:L2.Hp)(w:Tw.W)(x:V)(Q:VK),HR (zx X E) ι h H->RW X.K ι h.length H w x->ao (zx X E) RE ι h H (Tw.builtin o w h) Q->r [x] H Q):
  PE X (.Call (.Name x p) [a] [] pos) (tE (zx X E) fun ρ h=>(da ρ h).bind fun x h=>Tw.builtin o x h):=
 PE.imp hp fun σ H Q Z=>Z.k3 fun ρ h ι at' p=>⟨ρ,h,ι,at',(step at' p).mono fun x H1 Z=>Z.k4 fun w h1 ι1 at1 e1 r1 p1=>hr ι1 h1 H1 w x Q at1.hr r1 p1⟩
def IU(ι:Nat->Addr)(h:Tw.Hp)(H:L2.Hp)(w:Tw.W)(x:V)(Q:VK)(r:HR (zx X E) ι h H)(rx:RW X.K ι h.length H w x)(p:ao (zx X E) RE ι h H (Tw.builtin .len w h) Q):∃p ys,[x]=[V.ref p]/\(cq X.K H p ys\/dC X.K H p ys)/\Q (.int ys.length) H:=by
 unfold Tw.builtin at p;dsimp only at p;cases rx with
 | @tup a xs ws ea ra=>exact⟨a,xs,rfl,.inr (TupAt.sq ea),by rw[<-ra.length];exact p.self r (.int _)⟩
 | @ref k hk=>
  dsimp only at p;cases ei:h[k]? with
  |none=>rw[ei] at p;exact p.elim
  |some o=>
   rw[ei] at p;cases o with
   |lst ws=>obtain⟨xs,q1,q2⟩:=r.obj k _ ei;exact⟨_,xs,rfl,.inl (cq.of q1),by rw[<-q2.length];exact p.self r (.int _)⟩
   |aV ws=>obtain⟨xs,q1,q2⟩:=r.obj k _ ei;exact⟨_,xs,rfl,.inl q1.sq,by rw[<-q2.length];exact p.self r (.int _)⟩
   |ins _ _=>exact p.elim
   |_=>exact p.elim
 |_=>exact p.elim
def Ig(ι:Nat->Addr)(h:Tw.Hp)(H:L2.Hp)(w:Tw.W)(x:V)(Q:VK)(r:HR (zx X E) ι h H)(rx:RW X.K ι h.length H w x)(p:ao (zx X E) RE ι h H (Tw.builtin .list w h) Q):∃p ys,[x]=[V.ref p]/\(cq X.K H p ys\/dC X.K H p ys)/\∀l,H l=none->Q (.ref l) (upd H l (.lst ys)):=by
 unfold Tw.builtin at p;dsimp only at p;cases rx with
 | @tup a xs ws ea ra=>exact⟨a,xs,rfl,.inr (TupAt.sq ea),p.lst r ra⟩
 | @ref k hk=>
  dsimp only at p;cases ei:h[k]? with
  |none=>rw[ei] at p;exact p.elim
  |some o=>
   rw[ei] at p;cases o with
   |lst ws=>obtain⟨xs,q1,q2⟩:=r.obj k _ ei;exact⟨_,xs,rfl,.inl (cq.of q1),p.lst r q2⟩
   |aV ws=>obtain⟨xs,q1,q2⟩:=r.obj k _ ei;exact⟨_,xs,rfl,.inl q1.sq,p.lst r q2⟩
   |ins _ _=>exact p.elim
   |_=>exact p.elim
 |_=>exact p.elim
def CJ:j3 X (.type "tuple") (fun xs H Q=>∃p ys,xs=[.ref p]/\((cq X.K H p ys/\∀l,H l=none->Q (.ref l) (upd H l (.tup ys)))\/(dC X.K H p ys/\Q (.ref p) H))):=uQ
def D4(ι:Nat->Addr)(h:Tw.Hp)(H:L2.Hp)(w:Tw.W)(x:V)(Q:VK)(r:HR (zx X E) ι h H)(rx:RW X.K ι h.length H w x)(p:ao (zx X E) RE ι h H (Tw.builtin .tuple w h) Q):
  ∃p ys,[x]=[V.ref p]/\((cq X.K H p ys/\∀l,H l=none->Q (.ref l) (upd H l (.tup ys)))\/(dC X.K H p ys/\Q (.ref p) H)):=by
 unfold Tw.builtin at p;dsimp only at p;cases rx with
 | @ref k hk=>
  dsimp only at p;cases ei:h[k]? with
  |none=>rw[ei] at p;exact p.elim
  |some o=>
   rw[ei] at p;cases o with
   |lst ws=>obtain⟨xs,q1,q2⟩:=r.obj k _ ei;exact⟨_,xs,rfl,.inl ⟨cq.of q1,p.tup r q2⟩⟩
   |_=>exact p.elim
 |_=>exact p.elim
def Fe:j3 X (.builtin "isinstance") (fun xs H Q=>∃x b,xs=[x,.ty "bool"]/\x=.bl b/\Q (.bl true) H):=by
 intro pins s σ H xs us Q I r ⟨x,b,ex,eb,q⟩;subst ex;obtain⟨u,w',rfl,ru,rw'⟩:=vals2 r;cases rw';have hk:W.kitOne X.K (.type "bool") (.type "bool")=some true:=by unfold W.kitOne;simp
 subst eb;exact BL I ru (.bl b) (b:=true) hk fun tk=>⟨.bl true,H,I.tok tk,rfl,q⟩
def Oy(hg:Gl X "isinstance")(hm:X.mg "isinstance"=none)(ha:PE X a (tE (zx X E) da))(hn:PE X (.Name n p2) (tC (.ty "bool")))
  (bH:starEach [a,.Name n p2] X.env=[(false,eval a X.env),(false,eval (.Name n p2) X.env)]):
  PE X (.Call (.Name "isinstance" p) [a,.Name n p2] [] pos) (tE (zx X E) fun ρ h=>(da ρ h).bind fun x h=>match x with
   |.bl _=>.ok (.bl true) h
   |_=>.bad):=by
 have ha2:PA X [a,.Name n p2] (pE (tE (zx X E) da) (pE (tC (.ty "bool")) wI)):=bO ha (bO hn dD rfl) bH;refine PE.imp (nC Fe hg hm Er ha2 (he:=bH)) fun σ H Q Z=>Z.k3 fun ρ h ι at' p=>⟨ρ,h,ι,at',(step at' p).mono fun x H1 Z=>Z.k4 fun w h1 ι1 at1 e1 r1 p1=>?_⟩;cases r1 with
 |bl b=>exact⟨_,b,rfl,rfl,ao.self (a:=Tw.W.bl true) p1 at1.hr (.bl _)⟩
 |_=>exact p1.elim
def Ll(ι:Nat->Addr)(h:Tw.Hp)(H:L2.Hp)(w:Tw.W)(x:V)(Q:VK)(r:HR (zx X E) ι h H)(rx:RW X.K ι h.length H w x)(p:ao (zx X E) RE ι h H (Tw.builtin .int w h) Q):
  (∃i,[x]=[V.int i]/\Q (.int i) H)\/∃k,[x]=[V.bl k]/\Q (.int (if k then 1 else 0)) H:=by
 unfold Tw.builtin at p;dsimp only at p;cases rx with
 |int i=>exact .inl ⟨i,rfl,p.self r (.int _)⟩
 |bl b=>exact .inr ⟨b,rfl,p.self r (.int _)⟩
 |_=>exact p.elim
end
section
variable {X:Cx}{E:XK}{a b c o e f:Expr}{pos apos cpos:Pos}{da db dc d1 d2:Tw.Env->Tw.Hp->Tw.R Tw.W}
def cO(K:W.Frag)(mg:Str->Option Value)(cl:ff)(F:List Tw.W->Tw.Hp->Tw.R Tw.W):Sp:=fun vs H Q E=>∃ws h ι,HR ⟨K,mg,E,cl⟩ ι h H/\aS K ι h.length H ws vs/\ao ⟨K,mg,E,cl⟩ RE ι h H (F ws h) Q
def s_call{F:List Tw.W->Tw.Hp->Tw.R Tw.W}{ds:Tw.Env->Tw.Hp->Tw.R (List Tw.W)}
  (G:bR X.prog X.w X.K X.mg X.base CX k g fd ps (cO X.K X.mg X.cl F)) (hx:Passes CX X E) (hr:cM k X.A) (hg:Gl X x) (hm:X.mg x=some (.ref g)) (hk:W.keepIn X.K (.ref g)=true) (hb:Binds X.K fd ps [])
  (hs:PA X (e::es) (tA (zx X E) n ds)) (hd:(x== ("__debug__":Str))=false) (bH:starEach (e::es) X.env=(false,eval e X.env)::starEach es X.env) (hpl:(backTo pos (starEach es X.env)).any (·.1)=false):
  PE X (.Call (.Name x p) (e::es) [] pos) (tE (zx X E) fun ρ h=>(ds ρ h).bind fun xs h=>F xs h):=by
 refine PE.imp (Ir (dvs:=[]) (ds:=[]) (E:=E) G hr hg hm hk hb .nil hx hs hd bH hpl) fun σ H Q Z=>Z.k3 fun ρ h ι at' p=>⟨ρ,h,ι,at',(step at' p).mono fun xs H1 Z=>Z.k4 fun ws h1 ι1 at1 e1 r1 p1=>?_⟩;rw[fK];exact⟨ws,h1,ι1,at1.hr,r1.1,p1⟩
structure Me(X:Cx)(o:Expr)(m:Str)(apos:Pos)(es:List Expr)(cpos:Pos):Prop where
 base:attributeBase o m X.env (eval o X.env)=eval o X.env
 Dl:((backTo cpos (starEach es X.env)).all (fun x=>!x.1)&&(backToKw cpos (keywordEach [] X.env)).all (fun x=>x.1.isSome)
  && decide (es.length+([]:List Keyword).length+(if ([]:List Keyword).isEmpty then 0 else 1)<30))=true
 line:(apos.endLine== cpos.line)=true
def IL(m:Tw.Mt)(da db:Tw.Env->Tw.Hp->Tw.R Tw.W):Tw.Env->Tw.Hp->Tw.R Tw.W:=fun ρ h=>(da ρ h).bind fun x h=>if Tw.kX m x h then (db ρ h).bind fun y h=>Tw.method m x [y] h else .bad
def ao.ite{K:Zk}{α β:Type}{R:Rl α β}{ι:Nat->Addr}{h:Tw.Hp}{H:L2.Hp}{c:Bool}{m:Tw.R α}{Q:β->L2.Hp->Prop}(p:ao K R ι h H (if c=true then m else .bad) Q):c=true/\ao K R ι h H m Q:=by
 cases c with
 |true=>exact⟨rfl,by simpa using p⟩
 |false=>rw[if_neg (by decide)] at p;exact p.elim
def B3(e:Tw.kX .append w h=true):∃i ws,w=.ref i/\h[i]?=some (.lst ws):=by
 cases w with
 |ref i=>
  have e:(match h[i]? with|some (.lst _)=>true|_=>false)=true:=e;cases ei:h[i]? with
  |none=>rw[ei] at e;cases e
  |some o=>
   rw[ei] at e;cases o with
   |lst ws=>exact⟨i,ws,rfl,ei⟩
   |_=>cases e
 |_=>cases e
def Ex(me:Me X o "append" apos [e] cpos)(bH:starEach [e] X.env=[(false,eval e X.env)])(ho:PE X o (tE (zx X E) da))(he:PE X e (tE (zx X E) db)):
  PE X (.Call (.Attribute o "append" apos) [e] [] cpos) (tE (zx X E) (IL .append da db)):=by
 refine PE.imp (Oc Az PySem.F.slot_list_append PySem.F.type_list_append uG ho (bO he dD bH) me.base me.Dl me.line bH rfl) fun σ H Q Z=>Z.k3 fun ρ h ι at' p=>?_;refine⟨ρ,h,ι,at',(step at' p).mono fun x H1 Z=>Z.k4 fun w h1 ι1 at1 e1 r1 p1=>?_⟩;obtain⟨hc,p1⟩:=ao.ite p1;obtain⟨i,ws,rfl,ei⟩:=B3 hc;cases r1 with
 |ref hi=>
  obtain⟨xs,q1,q2⟩:=at1.hr.lst ei;refine⟨.inl ⟨rfl,xs,cq.of q1⟩,ρ,h1,ι1,at1,(step at1 p1).mono fun y H2 Z=>Z.k4 fun u h2 ι2 at2 e2 r2 p2=>?_⟩;have p2:ao (zx X E) RE ι2 h2 H2 (match h2[i]? with
   |some (.lst ys)=>if ys.length<Tw.SZ then .ok .ah (h2.set i (.lst (ys++[u]))) else .bad
   |_=>.bad) Q:=p2
  have same:ι2 i=ι1 i:=e2.same i hi;cases ej:h2[i]? with
  |none=>rw[ej] at p2;exact p2.elim
  |some oj=>
   rw[ej] at p2;cases oj with
   |lst ys=>
    dsimp only at p2;by_cases c:ys.length<Tw.SZ
    .rw[if_pos c] at p2;obtain⟨zs,g1,g2⟩:=at2.hr.lst ej;refine⟨ι1 i,zs,y,rfl,rfl,by rw[<-same];exact g1,by rw[<-g2.length,pJ];exact c,?_⟩;obtain⟨hr',ex⟩:=at2.hr.put (o:=.lst (zs++[y])) (u:=.lst (ys++[u])) ej rfl rfl (fun _ z=>nomatch z) fun H' k z=>⟨zs++[y],z,(g2.append (.cons r2 .nil)).keep k⟩;rw[<-same];exact p2 ι2 _ _ ex hr' .ah
    .rw[if_neg c] at p2;exact p2.elim
   |_=>exact p2.elim
def J0:PE X (.Dict [] [] pos) (tE (zx X E) fun _ h=>Tw.new (.fD []) h):=
 PE.imp EX fun σ H Q Z=>Z.k3 fun ρ h ι at' p=>p.fD at'.hr .nil
end
def bM(K:Zk)(ι:Nat->Addr)(h:Tw.Hp)(H:L2.Hp)(m:Tw.R Tw.Fl)(D:Ends):Prop:=match m with
 |.ok (.next ρ) h'=>∀ι' H' σ',Ext ι h H ι' h' H'->At K ι' h' H' ρ σ'->D.nx σ' H'
 |.ok (.brk ρ) h'=>∀ι' H' σ',Ext ι h H ι' h' H'->At K ι' h' H' ρ σ'->D.bk σ' H'
 |.ok (.cont ρ) h'=>∀ι' H' σ',Ext ι h H ι' h' H'->At K ι' h' H' ρ σ'->D.ct σ' H'
 |.ok (.ret w) h'=>∀ι' H' v,Ext ι h H ι' h' H'->HR K ι' h' H'->RW K.K ι' h'.length H' w v->D.rt v H'
 |.aw a h'=>∀ι' H',Ext ι h H ι' h' H'->HR K ι' h' H'->K.ex (.ref (ι' a)) none H'
 |.bad=>False
noncomputable def cW(K:Zk)(d:Tw.Env->Tw.Hp->Tw.R Tw.Fl):TS:=fun D σ H=>∃ρ h ι,At K ι h H ρ σ/\bM K ι h H (d ρ h) D
section
variable {K:Zk}{α β:Type}{R:Rl α β}{ι ι1:Nat->Addr}{h h1:Tw.Hp}{H H1:L2.Hp}{ρ:Tw.Env}{σ:L2.St}
def bM.later(p:bM K ι h H m D)(e:Ext ι h H ι1 h1 H1):bM K ι1 h1 H1 m D:=by
 cases m with
 |ok f h'=>cases f<;>exact fun ι' H' σ' e'=>p ι' H' σ' (e.trans e')
 |aw a h'=>exact fun ι' H' e' r=>p ι' H' (e.trans e') r
 |bad=>exact p
def eY{k:α->Tw.Hp->Tw.R Tw.Fl}(a:At K ι h H ρ σ)(p:bM K ι h H (m.bind k) D):
  ao K R ι h H m (fun x H1=>∃w h1 ι1,At K ι1 h1 H1 ρ σ/\Ext ι h H ι1 h1 H1/\R K.K ι1 h1.length H1 w x/\bM K ι1 h1 H1 (k w h1) D):=by
 cases m with
 |ok w h1=>exact fun ι' H' b e r q=>⟨w,h1,ι',a.later e r,e,q,bM.later p e⟩
 |aw=>exact p
 |bad=>exact p
def At.set(a:At K ι h H ρ σ)(r:RW K.K ι h.length H w v)(i:Nat):At K ι h H (ρ.set i (some w)) (σ.set i (some v)) where
 hr:=a.hr
 len:=by rw[x8,x8];exact a.len
 st:=fun j u e=>by
  by_cases z:i=j
  .subst z;have hi:i<ρ.length:=by
    have:=(fV.mp e).1;simpa using this
   rw[jD hi] at e;cases e;exact⟨v,jD (by rw[a.len];exact hi),r⟩
  .rw[jE z] at e;obtain⟨v',h1,h2⟩:=a.st j u e;exact⟨v',by rw[jE z];exact h1,h2⟩
def bM.next(p:bM K ι h H (.ok (.next ρ) h) D)(a:At K ι h H ρ σ):D.nx σ H:=p ι H σ (Ext.refl _ _ _) a
end
section
variable {X:Cx}{E:XK}{a b c e o:Expr}{pos pos':Pos}{da db dc:Tw.Env->Tw.Hp->Tw.R Tw.W}
def IJ(ha:PE X a (tE (zx X E) da))(hs:swapsWith a none pos.line X.env=pure false):PS X (.Expr a pos) (cW (zx X E) fun ρ h=>(da ρ h).bind fun _ h=>.ok (.next ρ) h):=
 PS.imp (Ia ha hs) fun D σ H Z=>Z.k3 fun ρ h ι at' p=>⟨ρ,h,ι,at',(eY at' p).mono fun x H1 Z=>Z.k4 fun w h1 ι1 at1 e1 r1 p1=>p1.next at1⟩
def A0(ha:PE X a (tE (zx X E) da)):PS X (.Return (some a) pos) (cW (zx X E) fun ρ h=>(da ρ h).bind fun x h=>.ok (.ret x) h):=
 PS.imp (J4 ha) fun D σ H Z=>Z.k3 fun ρ h ι at' p=>⟨ρ,h,ι,at',(eY at' p).mono fun x H1 Z=>Z.k4 fun w h1 ι1 at1 e1 r1 p1=>p1 ι1 H1 x (Ext.refl _ _ _) at1.hr r1⟩
def Gp(hN:X.N.Nodup)(hi:X.N[i]?=some x)(hx:Loc X.env.scope x)(ha:PE X a (tE (zx X E) da))(hs:swapsWith a (some (.Name x pos')) pos.line X.env=pure false)(hf:X.fn x=true\/X.env.scope.names.lookup x=some .local):
  PS X (.Assign [.Name x pos'] a pos) (cW (zx X E) fun ρ h=>(da ρ h).bind fun w h=>.ok (.next (ρ.set i (some w))) h):=
 PS.imp (KW hN hi hx ha hs hf) fun D σ H Z=>Z.k3 fun ρ h ι at' p=>⟨ρ,h,ι,at',(eY at' p).mono fun y H1 Z=>Z.k4 fun w h1 ι1 at1 e1 r1 p1=>p1.next (at1.set r1 i)⟩
def J9{ta tb:Tw.Env->Tw.Hp->Tw.R Tw.Fl}(hc:PT X c (tT (zx X E) dc))(ha:dS X sa (cW (zx X E) ta))(hb:dS X sb (cW (zx X E) tb)):
  PS X (.If c sa sb pos) (cW (zx X E) fun ρ h=>(dc ρ h).bind fun x h=>match Tw.truth h x with
   |some true=>ta ρ h
   |some false=>tb ρ h
   |none=>.bad):=by
 refine PS.imp (Of hc ha hb) fun D σ H Z=>Z.k3 fun ρ h ι at' p=>⟨ρ,h,ι,at',?_⟩;simp only[dT];dsimp only at p;cases e0:dc ρ h with
 |bad=>rw[e0] at p;exact p.elim
 |aw=>rw[e0] at p;exact p
 |ok w h1=>
  simp only[e0,Tw.R.aZ] at p⊢;cases e:Tw.truth h1 w with
  |none=>rw[e] at p;exact p.elim
  |some k=>
   rw[e] at p;intro ι' H' k' e1 r1 q;cases q;cases k with
   |true=>rw[if_pos rfl];exact⟨ρ,h1,ι',at'.later e1 r1,bM.later p e1⟩
   |false=>rw[if_neg (by decide)];exact⟨ρ,h1,ι',at'.later e1 r1,bM.later p e1⟩
def xA:dS X [] (cW (zx X E) fun ρ h=>.ok (.next ρ) h):=dS.imp Hx fun D σ H Z=>Z.k3 fun ρ h ι at' p=>p.next at'
def zF{st:Stmt}{rest:List Stmt}{t u:Tw.Env->Tw.Hp->Tw.R Tw.Fl}(h1:PS X st (cW (zx X E) t))(h2:dS X rest (cW (zx X E) u)):
  dS X (st::rest) (cW (zx X E) fun ρ h=>(t ρ h).bind fun f h=>match f with
   |.next ρ=>u ρ h
   |f=>.ok f h):=by
 refine dS.imp (DZ h1 h2) fun D σ H Z=>Z.k3 fun ρ h ι at' p=>⟨ρ,h,ι,at',?_⟩;dsimp only at p;cases e:t ρ h with
 |bad=>rw[e] at p;exact p.elim
 |aw=>rw[e] at p;exact p
 |ok f h1=>
  simp only[e,Tw.R.aZ] at p;cases f with
  |next ρ1=>exact fun ι' H' σ' e1 a1=>⟨ρ1,h1,ι',a1,bM.later p e1⟩
  |ret w=>exact p
  |brk ρ1=>exact p
  |cont ρ1=>exact p
def JC{ι:Nat->Addr}{h:Tw.Hp}{H:L2.Hp}{wo wk wv:Tw.W}{o k v:V}{ρ:Tw.Env}{σ:L2.St}{D:Ends}
  (a:At (zx X E) ι h H ρ σ) (ro:RW X.K ι h.length H wo o) (rk:RW X.K ι h.length H wk k) (rv:RW X.K ι h.length H wv v) (p:bM (zx X E) ι h H ((Tw.kn wo wk wv h).bind fun _ h=>.ok (.next ρ) h) D):
  GF o k v H fun H'=>D.nx σ H':=by
 cases ro with
 | @ref i hi=>
  cases ei:h[i]? with
  |none=>simp only[Tw.kn,ei] at p;exact p.elim
  |some ob=>
   cases ob with
   |lst ws=>
    obtain⟨xs,q1,q2⟩:=a.hr.lst ei;cases rk with
    |int n=>
     simp only[Tw.kn,ei] at p;cases e2:Tw.i0 ws.length n with
     |none=>rw[e2] at p;exact p.elim
     |some j=>
      rw[e2] at p;refine⟨_,xs,n,j,rfl,rfl,q1,by rw[<-q2.length,<-Dv];exact e2,?_⟩;obtain⟨hr',ex⟩:=a.hr.put (o:=.lst (xs.set j v)) (u:=.lst (ws.set j wv)) ei rfl rfl (fun _ z=>nomatch z) fun H' kp z=>⟨xs.set j v,z,(q2.set rv j).keep kp⟩;exact p ι _ σ ex (a.later ex hr')
    |_=>simp only[Tw.kn,ei] at p;exact p.elim
   |aV ws=>simp only[Tw.kn,ei] at p;cases wk<;>exact p.elim
   |ins _ _=>simp only[Tw.kn,ei] at p;cases wk<;>exact p.elim
   |_=>simp only[Tw.kn,ei] at p;cases wk<;>exact p.elim
 |_=>exact p.elim
end
def At.Ao{K:Zk}{ι:Nat->Addr}{h:Tw.Hp}{H:L2.Hp}{ρ:Tw.Env}{σ:L2.St}(a:At K ι h H ρ σ)(j:Nat)(x:Option V):At K ι h H (ρ.set j none) (σ.set j x) where
 hr:=a.hr
 len:=by rw[x8,x8];exact a.len
 st:=fun i u e=>by
  by_cases z:j=i
  .subst z;have hi:j<ρ.length:=by
    have:=(fV.mp e).1;simpa using this
   rw[jD hi] at e;cases e
  .rw[jE z] at e;obtain⟨v',h1,h2⟩:=a.st i u e;exact⟨v',by rw[jE z];exact h1,h2⟩
section
variable {X:Cx}{E:XK}{a b c e o k:Expr}{pos pos':Pos}{da db dc dv:Tw.Env->Tw.Hp->Tw.R Tw.W}
def BS(v x y:Expr)(p:Pos)(l:Nat)(env:Env):swapsWithSole [.Subscript x y p] v l env=pure false:=by cases v<;>rfl
def Bw(v x y:Expr)(p:Pos)(env:Env):swappedStores [.Subscript x y p] v env=pure none:=by cases v<;>rfl
def Nv(hu:X.A.units+1<cLine)(hv:PE X a (tE (zx X E) dv))(ho:PE X o (tE (zx X E) da))(hk:PE X k (tE (zx X E) db))
  (has:∀v,assign (.Subscript o k pos') X.env v=(do
   let ov <-holding [v] (eval o X.env)
   let iv <-holding [v,ov] (eval k X.env)
   standAt pos'
   holding [v,ov,iv] (setItem ov iv v)
   release [v,ov,iv] [])):
  PS X (.Assign [.Subscript o k pos'] a pos) (cW (zx X E) fun ρ h=>(dv ρ h).bind fun v h=>(da ρ h).bind fun x h=>(db ρ h).bind fun y h=>(Tw.kn x y v h).bind fun _ h=>.ok (.next ρ) h):=by
 refine PS.imp (xk hv (LI ho hk set_list has) (BS _ _ _ _ _ _) (Bw _ _ _ _ _)) fun D σ H Z=>Z.k3 fun ρ h ι at' p=>?_;refine⟨ρ,h,ι,at',(eY at' p).mono fun v H1 Z=>Z.k4 fun wv h1 ι1 at1 e1 r1 p1=>⟨ρ,h1,ι1,at1,(eY at1 p1).mono fun x H2 Z=>Z.k4 fun wo h2 ι2 at2 e2 r2 p2=>⟨ρ,h2,ι2,at2,(eY at2 p2).mono fun y H3 Z=>Z.k4 fun wk h3 ι3 at3 e3 r3 p3=>?_⟩⟩⟩;exact JC at3 (r2.keep (e3.keeps at2.hr)) r3 ((r1.keep (e2.keeps at1.hr)).keep (e3.keeps at2.hr)) p3
def PI.or(h1:PI X tg iter w)(h2:PI X tg iter w'):PI X tg iter (fun σ H R=>w σ H R\/w' σ H R):=by
 intro pins s σ H R I q;rcases q with q|q
 .exact h1 pins s σ H R I q
 .exact h2 pins s σ H R I q
def AR(K:Zk)(t:Tw.Tg)(g:TG):Prop:=∀(ι:Nat->Addr)(h:Tw.Hp)(H:L2.Hp)(ρ ρ1:Tw.Env)(σ:L2.St)(w:Tw.W)(x:V)(Q:L2.St->L2.Hp->Prop),At K ι h H ρ σ->RW K.K ι h.length H w x->Tw.qW t w ρ=some ρ1->
 (∀σ1,At K ι h H ρ1 σ1->Q σ1 H)->g x σ H Q
def Kh(K:Zk)(i:Nat):AR K (.var i) (gZ i):=fun ι h H ρ ρ1 σ w x Q a r e q=>by
 cases e;exact q _ (a.set r i)
def Ca(K:Zk)(i j:Nat):AR K (.two i j) (E4 K.K 2 (pX (gZ i) (pX (gZ j) DH))):=fun ι h H ρ ρ1 σ w x Q a r e q=>by
 cases r with
 | @tup ad xs ws ea ra=>
  cases ra with
  |nil=>cases e
  |cons r1 ra=>
   cases ra with
   |nil=>cases e
   |cons r2 ra=>
    cases ra with
    |nil=>
     cases e;exact⟨ad,_,rfl,TupAt.sq ea,rfl,_,_,rfl,_,_,rfl,rfl,q _ ((a.set r1 i).set r2 j)⟩
    |cons r3 ra=>cases e
 |_=>cases e
def uE{K:Zk}{ι:Nat->Addr}{h:Tw.Hp}{H:L2.Hp}{m:Tw.R Tw.Fl}{go:Tw.Env->Tw.Hp->Tw.R Tw.Fl}{D:Ends}{N:L2.St->L2.Hp->Prop}
  (p:bM K ι h H (m.bind fun f h=>match f with
   |.next σ=>go σ h
   |.cont σ=>go σ h
   |.brk σ=>.ok (.next σ) h
   |.ret w=>.ok (.ret w) h) D)
  (hN:∀ρ h1 ι1 H1 σ1,Ext ι h H ι1 h1 H1->At K ι1 h1 H1 ρ σ1->bM K ι1 h1 H1 (go ρ h1) D->N σ1 H1):bM K ι h H m {D with nx:=N,ct:=N,bk:=D.nx}:=by
 cases m with
 |bad=>exact p
 |aw=>exact p
 |ok f h1=>
  cases f with
  |next ρ=>exact fun ι' H' σ' e a=>hN ρ h1 ι' H' σ' e a (bM.later p e)
  |cont ρ=>exact fun ι' H' σ' e a=>hN ρ h1 ι' H' σ' e a (bM.later p e)
  |brk ρ=>exact p
  |ret w=>exact p
def yI{α:Type}{ws:List α}{i:Nat}{w:α}(e:ws[i]?=some w):ws.drop i=w::ws.drop (i+1):=by obtain⟨hi,e⟩:=fV.mp e;rw[List.drop_eq_getElem_cons hi,e]
end
section
variable {X:Cx}{E:XK}{pins:aH}{σ:L2.St}{H:L2.Hp}{s:Shared}{h':Heap}{fp:List Addr}
def pI(I:Inv X pins σ H s)(hf:∀b∈fp,gO X pins H b)(k:∀b o,b∉fp->s.heap.get? b=some o->h'.get? b=some o):Inv X pins σ H {s with heap:=h',toks:=t'}:=by
 have nf:∀b u,H b=some u->b∉fp:=fun b u e z=>by rw[(hf b z).1] at e;cases e
 have u:Un (bu X.stack) fp H H s.heap h':=
  ⟨fun b o e _ _ h2=>k b o h2 e,fun b o e _ _ h2=>⟨o.slots,k b o h2 e⟩,fun _ _ _ n _=>n,fun b o e h2=>⟨o,k b o h2 e⟩,fun _ _ q=>q,fun _ _ _ q=>q,fun _ ps q=>⟨#[],by rw[q];simp⟩⟩
 have av:dN X.prog X.w H h':=fun b v e=>(I.av b v e).gb (fun c w hc q=>k c w (by
  rcases hc with z|z
  .rw[z];exact nf _ _ e
  .exact nf _ _ z) q) (fun _ q=>q) fun _ _ q=>q
 exact I.call (g':=s.gens) (d':=s.drawn) (t':=t') u av I.bare fun b hb=>⟨(hf b hb).2.2.2.1,(hf b hb).2.1,(hf b hb).2.2.2.2.1,(hf b hb).2.2.2.2.2⟩
end
def Mc(K:W.Frag)(a:Addr)(n:Nat):It:=
 ⟨fun i H=>∃xs x,i<n/\cq K H a xs/\xs[n-1-i]?=some x,fun i H x H'=>H'=H/\∀xs,cq K H a xs->xs[n-1-i]?=some x,fun i _=>n<=i⟩
def EH{P:Program}{w:World}{K:W.Frag}{tg:Expr}(a it:Addr)(n:Nat):Turn P w K tg (Mc K a n) [it] it (fun i h=>i<=n/\h.IsRevIter it a ((n:Int)-1-i)) where
 mem:=by simp
 obj:=fun i h Z c hc=>by
  have e:c=it:=by simpa using hc
  subst e;obtain⟨_,o,e,c,d⟩:=Z;exact⟨o,e,fun v q=>by rw[d] at q;cases q⟩
 keep:=fun i h h' Z k=>⟨Z.1,Z.2.at fun o e=>k it (by simp) o e⟩
 item:=by
  intro X hP hw hK hc i pins s σ H E I hf Z hg;subst hP hw hK;obtain⟨xs,x,hi,hq,hx⟩:=hg;obtain⟨us,rv,pl,hz⟩:=I.list hq;obtain⟨u,hu,ru⟩:=rv.get hx;obtain⟨_,hit⟩:=Z;have e1:(n:Int)-1-(i:Int)=((n-1-i:Nat):Int):=by lia
  rw[e1] at hit;refine wpAny_pyNext_rev_item hit pl.isList (x:=u) (by simpa using hu) fun h' hit' hs'=>⟨u,rfl,?_⟩;have e2:((n-1-i:Nat):Int)-1=(n:Int)-1-((i+1:Nat):Int):=by lia
  rw[e2] at hit';obtain⟨o,ho,hc',hd⟩:=id hit';refine rG (n:="list_reverseiterator") ho hc' hd (by decide) ?_;have I':Inv X pins σ H {s with heap:=h',toks:=s.toks}:=pI I hf fun c o hc e=>hs'.extBut c o (fun z=>hc (by simp[z])) e;refine⟨x,H,I',ru,⟨rfl,fun xs' q=>?_⟩,⟨hi,hit'⟩,fun c hc=>(hf c hc).1⟩;rw[I.xE q hq];exact hx
 done:=by
  intro X hP hw hK hc i pins s σ H E I hf Z hg;subst hP hw hK;have hg:n<=i:=hg;obtain⟨hle,hit⟩:=Z;have e1:(n:Int)-1-(i:Int)= -1:=by lia
  rw[e1] at hit;refine wpAny_pyNext_rev_end (I.ok.hd hc) hit fun h' kh=>⟨rfl,?_⟩;exact pI (t':=s.toks) I hf fun c o hc e=>kh c o (fun z=>hc (by simp[z])) e
 self:=fun _ _ _ _ _ Z h=>wpAny_pyIter_revIter Z.2 h
section
variable {X:Cx}{a:Expr}{p pos:Pos}{tg:Expr}
def EL:bootBuiltins "reversed"=some (.type "reversed"):=by decide+kernel
end
def uL{α β:Type}{M:Model}{A:Around}{v:α}{Q:α->Shared->Prop}{E:aY}{s:Shared}{t:Sem β}{Q':β->Shared->Prop}{E':aY}(h:wpAny M A (pure v) Q E s)(k:Q v s->wpAny M A t Q' E' s):wpAny M A t Q' E' s:=
 fun Γ p hΓ=>k (h Γ p hΓ) Γ p hΓ
section
variable {prog:Program}{w:World}{A:Around}{s:Shared}{R:Result->Shared->Prop}{E:aY}
variable {I:Addr}
end
section
variable {prog:Program}{w:World}{A:Around}{s:Shared}{E:aY}{I:Addr}
end
section
variable {X:Cx}{pins:aH}{σ:L2.St}
end
section
variable {K:Zk}{ι ι1:Nat->Addr}{h h1:Tw.Hp}{H H1:L2.Hp}{ρ:Tw.Env}{σ:L2.St}{a:Addr}
def eX(ι:Nat->Addr)(h:Tw.Hp)(a:Addr):Prop:=∀(i:Nat)(o:Tw.O),h[i]?=some o->fk o=true->ι i≠a
def eX.later(al:eX ι h a)(e:Ext ι h H ι1 h1 H1)(ha:H a≠none):eX ι1 h1 a:=fun i o ei m z=>by
 by_cases hi:i<h.length
 .obtain⟨o',eo⟩:∃o',h[i]?=some o':=⟨_,lN hi⟩;rw[e.same i hi] at z;exact al i o' eo (by rw[<-e.fz i o' o eo ei];exact m) z
 .exact ha (by rw[<-z];exact e.new i (jC.mp hi) (eD ei))
def HR.BX(r:HR K ι h H)(al:eX ι h a)(ha:H a=some u)(n1:∀xs,u≠.tup xs)(n2:∀o v,u≠.aV o v)(n3:∀gs,u≠.xd gs)(n4:∀φ,u≠.ext φ)(ht:(∀b o' u',H b=some (.aV o' u')->upd H a o b=some (.aV o' u'))->∀t∈K.cl.tb,rV (upd H a o) t):HR K ι h (upd H a o):=by
 have kp:Keeps ι h.length H ι h.length (upd H a o):=⟨aA _,fun _ _=>rfl,fun b xs e=>by
  rw[aI (fun z=>by rw[z,ha] at e;cases e;exact n1 _ rfl)];exact e⟩
 have sf:∀b o' u',H b=some (.aV o' u')->upd H a o b=some (.aV o' u'):=fun b o' u' e=>by
  rw[aI (fun z=>by rw[z,ha] at e;cases e;exact n2 _ _ rfl)];exact e
 refine⟨fun i v q=>?_,r.inj,ht sf,fun i f ws q=>(r.fn i f ws q).keep kp (eD q) sf⟩;by_cases m:fk v=true
 .exact (r.obj i v q).keep kp fun w e hw z=>by
   rw[aI]
   .exact z
   .rcases hw with rfl|⟨gs,rfl⟩
    .exact al i v q m
    .intro y;rw[y,ha] at z;cases z;exact n3 _ rfl
 .cases v with
  |aV ws=>
   obtain⟨xs,sq,rr⟩:=r.obj i _ q;rcases sq with ⟨o',sq⟩|sq
   .refine⟨xs,.inl ⟨o',?_⟩,rr.keep kp⟩;rw[aI (fun z=>by rw[z,ha] at sq;cases sq;exact n2 _ _ rfl)];exact sq
   .exact⟨xs,.inr sq,rr.keep kp⟩
  |aw c fs=>
   obtain⟨C,dx,gs,q0,q1,q2,q3⟩:=r.obj i _ q;refine⟨C,dx,gs,q0,?_,?_,q3.keep kp⟩
   .rw[aI (fun z=>by rw[z,ha] at q1;cases q1;exact n4 _ rfl)];exact q1
   .exact XD.keep q2 fun b v ⟨_,hv⟩ q=>by
     subst hv;rw[aI (fun z=>by rw[z,ha] at q;cases q;exact n3 _ rfl)];exact q
  | «fun» f ws=>trivial
  |dead=>trivial
  |_=>exact absurd rfl m
def HR.other(r:HR K ι h H)(al:eX ι h a)(ha:H a=some u)(n1:∀xs,u≠.tup xs)(n2:∀o v,u≠.aV o v)(n3:∀gs,u≠.xd gs:=by intro _ z;cases z)(n4:∀φ,u≠.ext φ:=by intro _ z;cases z)(n5:∀ps,u≠.dZ ps:=by intro _ z;cases z):HR K ι h (upd H a o):=
 r.BX al ha n1 n2 n3 n4 fun sf t ht=>(r.tab t ht).keep sf fun ps e=>by rw[aI (fun z=>by rw[z,ha] at e;cases e;exact n5 _ rfl)];exact e
def Ext.other(e:Ext ι h H ι1 h1 H1)(ha:H a=none)(ha1:H1 a=some u):Ext ι h H ι1 h1 (upd H1 a o):=
 ⟨e.len,e.same,fun b v q t n=>by rw[aI (fj q ha)];exact e.fr b v q t n,e.new,fun b q=>e.xb b (mL b q),e.fz⟩
def HR.adopt(r:HR K ι h H)(al:eX ι h a)(ha:H a=some o)(m:fk u=true)(ro:∀ι' n',Keeps ι h.length H ι' n' H->RO K ι' n' H a u):HR K (cZ ι h.length a) (h++[u]) H:=by
 have hl:(h++[u]).length=h.length+1:=by simp
 have kp:Keeps ι h.length H (cZ ι h.length a) (h++[u]).length H:=⟨by lia,fun i hi=>bP hi,fun _ _ e=>e⟩;have two:∀{i:Nat}{v:Tw.O},(h++[u])[i]?=some v->(i<h.length/\h[i]?=some v)\/(i=h.length/\v=u):=fun {i v} e=>by
  have hi:=eD e;by_cases z:i<h.length
  .rw[fI z] at e;exact .inl ⟨z,e⟩
  .have z':i=h.length:=by lia
   subst z';simp at e;exact .inr ⟨rfl,e.symm⟩
 refine⟨fun i v q=>?_,fun i j v w q1 q2 m1 m2 z=>?_,r.tab,fun i f ws q=>by
  rcases two q with ⟨hi,q⟩|⟨_,q⟩
  .exact (r.fn i f ws q).keep kp hi fun _ _ _ e=>e
  .rw[<-q] at m;cases m⟩
 .rcases two q with ⟨hi,q⟩|⟨rfl,rfl⟩
  .rw[bP hi];exact (r.obj i v q).keep kp fun _ _ _ e=>e
  .rw[cy];exact ro _ _ kp
 .rcases two q1 with ⟨hi,p1⟩|⟨ei,ev⟩<;>rcases two q2 with ⟨hj,p2⟩|⟨ej,ew⟩
  .rw[bP hi,bP hj] at z;exact r.inj i j v w p1 p2 m1 m2 z
  .rw[bP hi,ej,cy] at z;exact absurd z (al i v p1 m1)
  .rw[ei,cy,bP hj] at z;exact absurd z.symm (al j w p2 m2)
  .rw[ei,ej]
def Ext.adopt(e:Ext ι h H ι1 h1 H1)(ha:H a=none):Ext ι h H (cZ ι1 h1.length a) (h1++[u]) H1:=by
 have hl:(h1++[u]).length=h1.length+1:=by simp
 refine⟨by have:=e.len;lia,fun i hi=>(bP (bY hi e.len)).trans (e.same i hi),e.fr,fun i g1 g2=>?_,e.xb,fun i o v q1 q2=>?_⟩
 .by_cases hi:i<h1.length
  .rw[bP hi];exact e.new i g1 hi
  .have:i=h1.length:=by lia
   subst this;rw[cy];exact ha
 .have hi:=bY (eD q1) e.len;rw[fI hi] at q2;exact e.fz i o v q1 q2
end
end TwS
namespace TwS
open PySem L2 PyProof.Rows
open AutoSeq1 (wpAny_loadPart')
def uj:Manifest.owners.lookup (String.ofList ['d','e','s','r','e','v','e','r'].reverse)=some Manifest.sig_reversed:=by kernel_rfl
def uR:Slot "reversed" "__init__" "object.__init__":=
 .of (owner:="object") (n:="__init__") (by rw[vf,u6];kernel_rfl) (by decide+kernel) (by decide+kernel) (by decide+kernel)
  (by first|exact .inl (by decide+kernel)|exact .inr (by decide+kernel)) (by rw[vb];kernel_rfl)
def fx:Slot "reversed" "__next__" "reversed.__next__":=
 .of (owner:="reversed") (n:="__next__") (by rw[vf,u6];kernel_rfl) (by decide+kernel) (by decide+kernel) (by decide+kernel)
  (by first|exact .inl (by decide+kernel)|exact .inr (by decide+kernel)) (by rw[vb];kernel_rfl)
def mP:entryFor table "reversed.__next__"=some Builtin.«reversed.__next__» := entryFor_of_tree (by kernel_rfl)
def nP(a:Value):argsOk "reversed.__next__" ⟨[a],[]⟩:=by unfold argsOk;rw[signature?_of (id:="reversed.__next__") (n:=['_','_','t','x','e','n','_','_']) (o:=['d','e','s','r','e','v','e','r']) (by kernel_rfl) uj];kernel_rfl
def nN:Slot "reversed" "__iter__" "reversed.__iter__":=
 .of (owner:="reversed") (n:="__iter__") (by rw[vf,u6];kernel_rfl) (by decide+kernel) (by decide+kernel) (by decide+kernel)
  (by first|exact .inl (by decide+kernel)|exact .inr (by decide+kernel)) (by rw[vb];kernel_rfl)
def uT(a:Value):argsOk "reversed.__iter__" ⟨[a],[]⟩:=by unfold argsOk;rw[signature?_of (id:="reversed.__iter__") (n:=['_','_','r','e','t','i','_','_']) (o:=['d','e','s','r','e','v','e','r']) (by kernel_rfl) uj];kernel_rfl
def tM:entryFor table "reversed.__iter__"=some Builtin.«dict_keyiterator.__iter__» :=
 entryFor_alias (id':="dict_keyiterator.__iter__") (by kernel_rfl) (by first|rfl|decide+kernel|(unfold String.splitOn;simp+decide [String.splitOnAux])) (by decide+kernel) (by kernel_rfl)
def Ae:TypeCalled "reversed" "reversed.__new__" "object.__init__":=
 ⟨by decide+kernel,by decide+kernel,⟨_,_,F.mro_reversed⟩,F.made_reversed,by decide+kernel,F.sub_reversed_self,uR⟩
def wd:typeLookup (.type "tuple") "__reversed__"=pure none:=by rw[vf,u6];kernel_rfl
def sub_tuple_dict:isSubtype (.type "tuple") (.type "dict")=pure false:=by rw[vb];kernel_rfl
noncomputable def Gw(l:Addr)(i:Int):Obj:={cls:=.type "reversed",data:=.fields #[.ref l,rawInt i]}
def kN(h:Heap)(a l:Addr)(i:Int):Prop:=∃o,h.get? a=some o/\o.cls=.type "reversed" /\o.data=.fields #[.ref l,rawInt i]
section
variable {prog:Program}{w:World}{A:Around}{E:aY}{s:Shared}{l it:Addr}{xs:Array Value}
def kN.typeIs(x:kN s.heap a l i):s.TypeIs (.ref a) "reversed":=let ⟨o,ho,hc,_⟩:=x;⟨o,ho,hc⟩
def kN.at(x:kN h a l i)(e:∀o,h.get? a=some o->h'.get? a=some o):kN h' a l i:=let ⟨o,ho,r⟩:=x;⟨o,e _ ho,r⟩
def E7(l:Addr)(xs:Array Value)(hz:xs.size<=sizeLine):
  Meets (Builtin.«reversed.__new__» ⟨[.type "reversed",.ref l],[]⟩) (fun _ R s=>IsTup s.heap l xs/\
   ∀tk,R (.ok (.ret (.ref s.heap.objs.size))) {s with heap:=s.heap.push (Gw l ((xs.size:Int)-1)),toks:=tk}):=
 .of_wp fun prog w A R s h=>by
  obtain⟨ht,h⟩:=h;unfold Builtin.«reversed.__new__»;refine ag (lh (newClass_reversed _) ?_)
  try dsimp only
  refine ag (lh (a:=()) (by first|rfl|kernel_rfl) ?_);refine ag (lh (a:=()) (by first|rfl|kernel_rfl) ?_)
  try dsimp only
  refine ag (wpAny_specialOf ht.typeIs wd ?_)
  try dsimp only
  refine ag ?_;show wpAny _ _ ((do
   if <-isInstance (.ref l) (.type "dict") then return false
   match <-specialOf (.ref l) "__getitem__" with
   |none=>return false
   |some (.builtin id)=>
    if ["tuple.__getitem__","str.__getitem__","bytes.__getitem__","bytearray.__getitem__","memoryview.__getitem__","numpy.ndarray.__getitem__","sqlite3.Row.__getitem__"].contains id then return true
    if id=="sqlite3.Blob.__getitem__" then return false
    unsupported "reversed.__new__:is-it-a-sequence"
   |some _=>return true):Sem Bool) _ _ _
  refine ag (wpAny_isInstance ht.typeIs sub_tuple_dict ?_);rw[if_neg (by decide)];refine ag (wpAny_specialOf ht.typeIs slot_tuple_getitem.lookup ?_)
  try dsimp only
  rw[if_pos (by decide+kernel)];refine aG ?_;rw[if_neg (by decide)];refine ag (len_tuple ht (by rw[gX] at hz;lia) ?_);refine ag (lh (a:=some (xs.size:Int)) rfl ?_)
  try dsimp only
  refine ag ?_;show wpAny _ _ (newObj (.type "reversed") (.fields [Value.ref l,rawInt ((xs.size:Int)-1)].toArray)) _ _ _;exact jR (aG ⟨_,rfl,h _⟩) (by size_fits)
def Mz{Q:aY}(ht:IsTup s.heap l xs)(hz:xs.size<=sizeLine)
  (h:∀tk,Q (.ref s.heap.objs.size) {s with heap:=s.heap.push (Gw l ((xs.size:Int)-1)),toks:=tk}):wpAny (model prog w) A (call (.type "reversed") [.ref l]) Q E s:=
 callType_new Ae (by decide) (F.typeCall_reversed_1 _) (F.newCall_reversed_1 _) (fun obj=>F.args_object_init_2 obj _) F.entry_reversed_new (E7 l xs hz) ⟨ht,fun tk=>⟨⟨_,gi _ rfl,rfl⟩,h tk⟩⟩
def G1{i:Nat}{x:Value}{Q:Option Value->Shared->Prop}(hit:kN s.heap it l (i:Int))(ht:IsTup s.heap l xs)(hx:xs[i]?=some x)(hz:xs.size<=sizeLine)(FC:l≠it)
  (hQ:∀h' tk,kN h' it l ((i:Int)-1)->Heap.SameBut it s.heap h'->Q (some x) {s with heap:=h',toks:=tk}):wpAny (model prog w) A (pyNext (.ref it)) Q E s:=by
 obtain⟨o,ho,hc,hd⟩:=id hit;have hlt:i<xs.size:=by
  by_cases z:i<xs.size
  .exact z
  .rw[Array.getElem?_eq_none (by lia)] at hx;cases hx
 rw[gX] at hz;unfold pyNext;refine ag (sA (u4 (name:=Str.ofString "__next__") hit.typeIs fx
  (rT fx hit.typeIs mP ?_ (nP _))))
 unfold Builtin.«reversed.__next__»;refine ag (lh (a:=(Value.ref it,[])) rfl ?_)
 try dsimp only
 refine ag (gW ho hd (x:=.ref l) rfl ?_);refine ag (gW ho hd (x:=rawInt (i:Int)) rfl ?_);show wpAny _ _ (if (i:Int)<0 then _ else _) _ _ s;rw[if_neg (by lia)];refine ag (wpAny_specialOf ht.typeIs slot_tuple_getitem.lookup ?_);rw[if_neg (by simp)];refine ag (wpAny_mkInt ?_);refine ag (sA (getItem_tuple (s:={s with toks:=s.toks+1}) ht (by lia) (by lia) (j:=i) ?_ hx ?_))
 .unfold seqIndex?;first|(rw[if_neg (by lia),if_pos (by lia)];simp)|(simp;lia)
 .try dsimp only
  refine ag (gW ho hd (x:=rawInt (i:Int)) rfl ?_);show wpAny _ _ (setField (.ref it) 1 (rawInt ((i:Int)-1)) >>= _) _ _ _;refine ag (p7 ho hd (by simp) ?_);refine aG ⟨x,rfl,aG (hQ _ _ ?_ (Eu ..))⟩;exact⟨_,sP _ ho (v7 (qT hd _)),(Obj.cls_mapFields ..).trans hc,by rw[qT hd];simp⟩
def JH{Q:Option Value->Shared->Prop}(hh:A.handled=none)(hit:kN s.heap it l (-1))
  (hQ:∀h',Heap.ExtBut it s.heap h'->Q none {s with heap:=h'}):wpAny (model prog w) A (pyNext (.ref it)) Q E s:=by
 obtain⟨o,ho,hc,hd⟩:=id hit;unfold pyNext;refine ag (sA (u4 (name:=Str.ofString "__next__") hit.typeIs fx
  (rT fx hit.typeIs mP ?_ (nP _))))
 unfold Builtin.«reversed.__next__»;refine ag (lh (a:=(Value.ref it,[])) rfl ?_)
 try dsimp only
 refine ag (gW ho hd (x:=.ref l) rfl ?_);refine ag (gW ho hd (x:=rawInt (-1)) rfl ?_);show wpAny _ _ (if (-1:Int)<0 then _ else _) _ _ s;rw[if_pos (by decide)];refine ag (wpAny_rule ?_);refine ag ?_;show wpAny _ _ ((do setField (.ref it) 1 (rawInt (-1));setField (.ref it) 0 .none):Sem Unit) _ _ _;refine ag (p7 ho hd (by simp) ?_);have g1:=sP (Obj.mapFields fun x=>x.setIfInBounds 1 (rawInt (-1))) ho (v7 (qT hd _));refine p7 g1 (qT hd _) (by simp) ?_;have k1:Heap.ExtBut it s.heap ((s.heap.update it (Obj.mapFields fun x=>x.setIfInBounds 1 (rawInt (-1)))).update it (Obj.mapFields fun x=>x.setIfInBounds 0 .none)):=fun b o hb e=>
  (Eu ..).extBut b o hb ((Eu ..).extBut b o hb e)
 refine ag ?_;show wpAny _ _ (newExc (.type "StopIteration") [] >>= _) _ _ _;refine ag ?_;simp only[newExc,newTuple];refine ag (jR ?_ (by size_fits));refine ag (m:=firstArgMember _ _) (lh (a:=Value.none) (by first|rfl|(simp only[firstArgMember];rfl)) ?_);refine jR ?_ (by size_fits);simp only[raiseNew];refine ag (wpAny_handled ?_);first|rw[show A.in1.handled=none from hh]|rw[hh]
 refine ag (aG (wpAny_throw ?_));refine ag (wpAny_isInstance (T:="StopIteration") (b:=true) ⟨_,gi _ rfl,rfl⟩ isSubtype_stop ?_);exact aG (hQ _ ((k1.push _).push _))
def yo{i:Int}{Q:aY}(hit:kN s.heap it l i)(h:Q (.ref it) s):wpAny (model prog w) A (pyIter (.ref it)) Q E s:=by refine wpAny_pyIter_slot hit.typeIs nN (rT nN hit.typeIs tM ?_ (uT _));show wpAny _ _ (ret (.ref it)) _ _ s;exact aG ⟨_,rfl,"reversed",_,hit.typeIs,fx.lookup,h⟩
end
def JF(K:W.Frag)(a:Addr)(n:Nat):It:=
 ⟨fun i H=>∃xs x,i<n/\dC K H a xs/\xs[n-1-i]?=some x,fun i H x H'=>H'=H/\∀xs,dC K H a xs->xs[n-1-i]?=some x,fun i _=>n<=i⟩
def HM{P:Program}{w:World}{K:W.Frag}{tg:Expr}(a it:Addr)(n:Nat)(ne:a≠it):Turn P w K tg (JF K a n) [it] it (fun i h=>i<=n/\kN h it a ((n:Int)-1-i)) where
 mem:=by simp
 obj:=fun i h Z c hc=>by
  have e:c=it:=by simpa using hc
  subst e;obtain⟨_,o,e,c,d⟩:=Z;exact⟨o,e,fun v q=>by rw[d] at q;cases q⟩
 keep:=fun i h h' Z k=>⟨Z.1,Z.2.at fun o e=>k it (by simp) o e⟩
 item:=by
  intro X hP hw hK hc i pins s σ H E I hf Z hg;subst hP hw hK;obtain⟨xs,x,hi,hq,hx⟩:=hg;obtain⟨us,rv,pl,hz⟩:=I.tuple hq;obtain⟨u,hu,ru⟩:=rv.get hx;obtain⟨_,hit⟩:=Z;have e1:(n:Int)-1-(i:Int)=((n-1-i:Nat):Int):=by lia
  rw[e1] at hit;refine G1 hit pl (x:=u) (by simpa using hu) (by simpa [rv.length] using hz) ne fun h' tk hit' hs'=>⟨u,rfl,?_⟩;have e2:((n-1-i:Nat):Int)-1=(n:Int)-1-((i+1:Nat):Int):=by lia
  rw[e2] at hit';obtain⟨o,ho,hc',hd⟩:=id hit';refine rG (n:="reversed") ho hc' hd (by decide) ?_;have I':Inv X pins σ H {s with heap:=h',toks:=tk}:=pI I hf fun c o hc e=>hs'.extBut c o (fun z=>hc (by simp[z])) e;refine⟨x,H,I',ru,⟨rfl,fun xs' q=>?_⟩,⟨hi,hit'⟩,fun c hc=>(hf c hc).1⟩;rw[I.uq q hq];exact hx
 done:=by
  intro X hP hw hK hc i pins s σ H E I hf Z hg;subst hP hw hK;have hg:n<=i:=hg;obtain⟨hle,hit⟩:=Z;have e1:(n:Int)-1-(i:Int)= -1:=by lia
  rw[e1] at hit;refine JH (I.ok.hd hc) hit fun h' kh=>⟨rfl,?_⟩;exact pI (t':=s.toks) I hf fun c o hc e=>kh c o (fun z=>hc (by simp[z])) e
 self:=fun _ _ _ _ _ Z h=>yo Z.2 h
section
variable {X:Cx}{a:Expr}{p pos:Pos}{tg:Expr}
def Oa{ta:TA}(hg:Gl X "reversed")(hm:X.mg "reversed"=none)(ha:PA X [a] ta)(hs:starEach [a] X.env=[(false,eval a X.env)]):
  PI X tg (.Call (.Name "reversed" p) [a] [] pos) (fun σ H R=>ta σ H fun vs H1=>∃c xs,vs=[.ref c]/\((cq X.K H1 c xs/\R (Mc X.K c xs.length) H1)\/(dC X.K H1 c xs/\R (JF X.K c xs.length) H1))):=by
 intro pins s σ H R I h;refine Call_ (mJ I hg hm EL (u0 (aB (ha pos pins s σ H _ I h) fun us s1 ⟨vs,H1,I1,r1,c,xs,e,q⟩=>?_) (by rw[hs];rfl) (by rfl)) (by decide) (by decide));subst e;obtain⟨u,rfl,ru⟩:=vals1 r1;cases ru;have fp:∀c',c'∈ [s1.heap.objs.size]->gO X pins H1 c':=fun c' hc'=>by
  have le:c'=s1.heap.objs.size:=by simpa using hc'
  subst le;exact I1.xY (aA _) (I1.av.fresh (aA _))
 rcases q with ⟨q1,q⟩|⟨q1,q⟩
 .obtain⟨as,rv,pl,hz⟩:=I1.list q1;refine call_reversed_list pl.isList ?_;have hit:Heap.IsRevIter (s1.heap.push (revObj c ((as.toArray.size:Int)-1))) s1.heap.objs.size c ((as.toArray.size:Int)-1):=⟨_,gi _ rfl,rfl,rfl⟩;refine wpAny_pyIter_revIter hit ?_;have I2:Inv X pins σ H1 {s1 with heap:=s1.heap.push (revObj c ((as.toArray.size:Int)-1)),toks:=s1.toks}:=I1.kept (t':=s1.toks) fun b o e=>bZ _ e;have el:as.toArray.size=xs.length:=by rw[cP];exact rv.length.symm
  exact⟨_,_,_,_,H1,rfl,I2,EH c _ xs.length,⟨bw _,by rw[show (xs.length:Int)-1-((0:Nat):Int)=(as.toArray.size:Int)-1 by rw[el];simp];exact hit⟩,fp,q⟩
 .obtain⟨as,rv,pl,hz⟩:=I1.tuple q1;have el:as.toArray.size=xs.length:=by rw[cP];exact rv.length.symm
  refine Mz pl (by rw[el];exact hz) fun tk=>?_;have hit:kN (s1.heap.push (Gw c ((as.toArray.size:Int)-1))) s1.heap.objs.size c ((as.toArray.size:Int)-1):=⟨_,gi _ rfl,rfl,rfl⟩;refine yo hit ?_;have I2:Inv X pins σ H1 {s1 with heap:=s1.heap.push (Gw c ((as.toArray.size:Int)-1)),toks:=tk}:=I1.kept (t':=tk) fun b o e=>bZ _ e;exact⟨_,_,_,_,H1,rfl,I2,HM c _ xs.length (dw pl.lt),⟨bw _,by rw[show (xs.length:Int)-1-((0:Nat):Int)=(as.toArray.size:Int)-1 by rw[el];simp];exact hit⟩,fp,q⟩
end
end TwS
namespace TwS
open PySem L2 PyProof.Rows
noncomputable def nextOf(src:Tw.Src)(i:Nat)(h:Tw.Hp):Option (Option Tw.W):=match src with
 |.fix ws=>some ws[i]?
 |.at a _=>(Tw.eC h a).map fun ys=>ys[i]?
 |.rv a n=>if i<n then (match Tw.eC h a with|none=>none|some ys=>(ys[n-1-i]?).map some) else some none
def gk(K:W.Frag)(J:It)(src:Tw.Src)(ι:Nat->Addr)(q:Nat)(H:L2.Hp):Prop:=
 (∃ad xs ws,J=Lv K ad/\src=.fix ws/\TupAt K H ad xs/\aS K ι q H ws xs)\/(∃lo n,J=CU lo n/\src=.fix (Tw.upTo lo n))\/(∃i n b,J=L5 K b/\b=ι i/\src=.at i n/\i<q)\/
 (∃ad xs ws,J=JF K ad xs.length/\src=.fix ws.reverse/\TupAt K H ad xs/\aS K ι q H ws xs)\/∃i n b,J=Mc K b n/\b=ι i/\src=.rv i n/\i<q
def gk.later{K:W.Frag}{J:It}{src:Tw.Src}{ι ι1:Nat->Addr}{q q1:Nat}{H H1:L2.Hp}(f:gk K J src ι q H)(k:Keeps ι q H ι1 q1 H1):gk K J src ι1 q1 H1:=by
 rcases f with ⟨ad,xs,ws,e1,e2,e3,r⟩|f|⟨i,n,b,e1,e2,e3,hi⟩|⟨ad,xs,ws,e1,e2,e3,r⟩|⟨i,n,b,e1,e2,e3,hi⟩
 .exact .inl ⟨ad,xs,ws,e1,e2,k.Aj e3,r.keep k⟩
 .exact .inr (.inl f)
 .exact .inr (.inr (.inl ⟨i,n,b,e1,e2.trans (k.same i hi).symm,e3,bY hi k.le⟩))
 .exact .inr (.inr (.inr (.inl ⟨ad,xs,ws,e1,e2,k.Aj e3,r.keep k⟩)))
 .exact .inr (.inr (.inr (.inr ⟨i,n,b,e1,e2.trans (k.same i hi).symm,e3,bY hi k.le⟩)))
theorem tw:∀(n:Nat)(lo:Int)(i:Nat),(Tw.upTo lo n)[i]?=if i<n then some (.int (lo+i)) else none
 |0,_,_=>by simp[Tw.upTo]
 |n+1,lo,0=>by simp[Tw.upTo]
 |n+1,lo,i+1=>by
  simp only[Tw.upTo,List.getElem?_cons_succ];rw[tw n (lo+1) i];by_cases h:i<n
  .rw[if_pos h,if_pos (by lia)]
   congr 2
   push_cast
   lia
  .rw[if_neg h,if_neg (by lia)]
def qZ(ws:List Tw.W)(i:Nat):Nat:=ws.length-1-i
def j6{K:Zk}{J:It}{src:Tw.Src}{ι:Nat->Addr}{h:Tw.Hp}{H:L2.Hp}(r:HR K ι h H)(f:gk K.K J src ι h.length H)(i:Nat):
  nextOf src i h=none\/(J.stop i H/\nextOf src i h=some none)\/
   ∃w,nextOf src i h=some (some w)/\J.go i H/\∀x H',J.FW i H x H'->HR K ι h H'/\Ext ι h H ι h H'/\RW K.K ι h.length H' w x:=by
 have gb:∀{w x},RW K.K ι h.length H w x->HR K ι h H/\Ext ι h H ι h H/\RW K.K ι h.length H w x:=fun q=>⟨r,Ext.refl _ _ _,q⟩;rcases f with ⟨ad,xs,ws,rfl,rfl,e3,rr⟩|⟨lo,n,rfl,rfl⟩|⟨j,n,b,rfl,rfl,rfl,hi⟩|⟨ad,xs,ws,rfl,rfl,e3,rr⟩|⟨j,n,b,rfl,rfl,rfl,hi⟩
 .cases hw:ws[i]? with
  |none=>exact .inr (.inl ⟨⟨xs,e3.sq,by rw[<-rr.length];exact Ab.mp hw⟩,by simp[nextOf,hw]⟩)
  |some w=>
   obtain⟨v,hv,rv⟩:=rr.get hw;refine .inr (.inr ⟨w,by simp[nextOf,hw],⟨xs,v,e3.sq,hv⟩,fun x H' ⟨eH,hx⟩=>?_⟩);have:=hx xs e3.sq;rw[hv] at this;cases this;subst eH;exact gb rv
 .by_cases hi:i<n
  .refine .inr (.inr ⟨.int (lo+i),by simp[nextOf,tw,hi],hi,fun x H' ⟨eH,hx⟩=>?_⟩);subst eH hx;exact gb (.int _)
  .exact .inr (.inl ⟨jC.mp hi,by simp[nextOf,tw,hi]⟩)
 .cases e:Tw.eC h j with
  |none=>exact .inl (by simp[nextOf,e])
  |some ws=>
   obtain⟨xs,sq,rr⟩:=r.at e;cases hw:ws[i]? with
   |none=>exact .inr (.inl ⟨⟨xs,sq,by rw[<-rr.length];exact Ab.mp hw⟩,by simp[nextOf,e,hw]⟩)
   |some w=>
    obtain⟨v,hv,rv⟩:=rr.get hw;refine .inr (.inr ⟨w,by simp[nextOf,e,hw],⟨xs,v,sq,hv⟩,fun x H' ⟨eH,hx⟩=>?_⟩);have:=hx xs sq;rw[hv] at this;cases this;subst eH;exact gb rv
 .have hl:=rr.length;by_cases hin:i<xs.length
  .have hw0:qZ ws i<ws.length:=by unfold qZ;lia
   have hw:ws[qZ ws i]?=some ws[qZ ws i]:=lN hw0;obtain⟨v,hv,rv⟩:=rr.get hw;have en:qZ ws i=xs.length-1-i:=by unfold qZ;rw[hl]
   rw[en] at hv;refine .inr (.inr ⟨ws[qZ ws i],?_,⟨xs,v,hin,e3.sq,hv⟩,fun x H' ⟨eH,hx⟩=>?_⟩)
   .show some ws.reverse[i]?=_;rw[List.getElem?_reverse (by lia)];exact dg some hw
   .have:=hx xs e3.sq;rw[hv] at this;cases this;subst eH;exact gb rv
  .exact .inr (.inl ⟨jC.mp hin,by show some ws.reverse[i]?=_;rw[wx (by simp;lia)]⟩)
 .by_cases hin:i<n
  .cases e:Tw.eC h j with
   |none=>exact .inl (by simp[nextOf,e,hin])
   |some ws=>
    obtain⟨xs,sq,rr⟩:=r.at e;cases hw:ws[n-1-i]? with
    |none=>exact .inl (by simp[nextOf,e,hin,hw])
    |some w=>
     obtain⟨v,hv,rv⟩:=rr.get hw;refine .inr (.inr ⟨w,by simp[nextOf,e,hin,hw],⟨xs,v,hin,sq,hv⟩,fun x H' ⟨eH,hx⟩=>?_⟩);have:=hx xs sq;rw[hv] at this;cases this;subst eH;exact gb rv
  .exact .inr (.inl ⟨jC.mp hin,by simp[nextOf,hin]⟩)
def cnt(src:Tw.Src)(i m:Nat):Prop:=match src with
 |.fix ws=>m=ws.length-i
 |.rv _ n=>m=n-i
 |_=>True
noncomputable def kI:Tw.Src->Nat
 |.fix ws=>ws.length
 |.at _ n=>n
 |.rv _ n=>n
def um(src:Tw.Src):cnt src 0 (kI src):=by cases src<;>simp[cnt,kI]
def wg(h:cnt src i (m+1)):cnt src (i+1) m:=by cases src<;>simp only[cnt] at h⊢<;>first|trivial|lia
def wk(src:Tw.Src)(k:Tw.W->List Tw.W->Tw.Hp->Tw.R (List Tw.W))(i m:Nat)(acc:List Tw.W)(h:Tw.Hp):Tw.R (List Tw.W):=match src with
 |.fix ws=>Tw.gj k (ws.drop i) acc h
 |.at a _=>Tw.dR a k m i acc h
 |.rv _ _=>.bad
def D7(src:Tw.Src)(k:Tw.W->List Tw.W->Tw.Hp->Tw.R (List Tw.W))(h:Tw.Hp):Tw.walk src k h=wk src k 0 (kI src) [] h:=by cases src<;>rfl
def HI{k:Tw.W->List Tw.W->Tw.Hp->Tw.R (List Tw.W)}(hm:cnt src i m):
  wk src k i m acc h=.bad\/(nextOf src i h=some none/\wk src k i m acc h=.ok acc h)\/∃w m',nextOf src i h=some (some w)/\m=m'+1/\wk src k i m acc h=(k w acc h).bind fun acc h=>wk src k (i+1) m' acc h:=by
 cases src with
 |fix ws=>
  have hm:m=ws.length-i:=hm;cases hw:ws[i]? with
  |none=>
   have hl:=Ab.mp hw;refine .inr (.inl ⟨by simp[nextOf,hw],?_⟩);show Tw.gj k (ws.drop i) acc h=_;rw[List.drop_eq_nil_of_le hl];rfl
  |some w=>
   have hl:=(fV.mp hw).1;refine .inr (.inr ⟨w,ws.length-(i+1),by simp[nextOf,hw],by lia,?_⟩);show Tw.gj k (ws.drop i) acc h=_;rw[yI hw];rfl
 |rv a n=>exact .inl rfl
 | «at» a n=>
  cases e:Tw.eC h a with
  |none=>refine .inl ?_;show Tw.dR a k m i acc h=_;unfold Tw.dR;rw[e]
  |some ws=>
   cases hw:ws[i]? with
   |none=>refine .inr (.inl ⟨by simp[nextOf,e,hw],?_⟩);show Tw.dR a k m i acc h=_;unfold Tw.dR;simp only[e,hw]
   |some w=>
    cases m with
    |zero=>refine .inl ?_;show Tw.dR a k 0 i acc h=_;unfold Tw.dR;simp only[e,hw]
    |succ m=>
     refine .inr (.inr ⟨w,m,by simp[nextOf,e,hw],rfl,?_⟩);show Tw.dR a k (m+1) i acc h=_
     conv=>lhs;unfold Tw.dR
     simp only[e,hw];rfl
def Ik{K:Zk}{J:It}{src:Tw.Src}{ι:Nat->Addr}{h:Tw.Hp}{H:L2.Hp}(r:HR K ι h H)(f:gk K.K J src ι h.length H)(k:Tw.W->List Tw.W->Tw.Hp->Tw.R (List Tw.W))(i m:Nat)(acc:List Tw.W)(hm:cnt src i m):
  wk src k i m acc h=.bad\/(J.stop i H/\wk src k i m acc h=.ok acc h)\/
   ∃w m',m=m'+1/\J.go i H/\(∀x H',J.FW i H x H'->HR K ι h H'/\Ext ι h H ι h H'/\RW K.K ι h.length H' w x)/\cnt src (i+1) m'/\wk src k i m acc h=(k w acc h).bind fun acc h=>wk src k (i+1) m' acc h:=by
 rcases HI (k:=k) (acc:=acc) (h:=h) hm with e|⟨e1,e2⟩|⟨w,m',e1,e2,e3⟩
 .exact .inl e
 .rcases j6 r f i with q|⟨st,q⟩|⟨w,q,_⟩
  .rw[e1] at q;cases q
  .exact .inr (.inl ⟨st,e2⟩)
  .rw[e1] at q;cases q
 .rcases j6 r f i with q|⟨st,q⟩|⟨w',q,go,hy⟩
  .rw[e1] at q;cases q
  .rw[e1] at q;cases q
  .rw[e1] at q;cases q;exact .inr (.inr ⟨w,m',e2,go,hy,wg (by rw[<-e2];exact hm),e3⟩)
noncomputable def cK(env:Env):List (Str×NameKind)->List (Str×Addr)->List (Str×Addr)
 |[],cs=>cs
 |(n,k)::r,cs=>cK env r (if k== .free then (n,(env.cells.lookup n).getD 0)::cs else cs)
def rQ(h:∀y∈scope.names,y.2=.free->∃c,env.cells.lookup y.1=some c):closureFor scope env=pure (cK env scope.names []):=by
 have key:∀(names:List (Str×NameKind))(cs:List (Str×Addr)),(∀y∈names,y.2=.free->∃c,env.cells.lookup y.1=some c)->
   (forIn (m:=Sem) names cs fun x r=>match x with
    |(name,kind)=>if (kind== NameKind.free)=true then do let c <-cellOf env name;pure (ForInStep.yield ((name,c)::r)) else pure (ForInStep.yield r))=pure (cK env names cs):=by
  intro names
  induction names with
  |nil=>intro cs _;rfl
  |cons y r ih=>
   intro cs h;obtain⟨n,k⟩:=y;have ih:=fun cs=>ih cs fun z hz=>h z (jc _ hz);rw[List.forIn_cons];by_cases hk:k=.free
   .subst hk;obtain⟨c,hc⟩:=h (n,.free) nh rfl;have e:cellOf env n=pure c:=by unfold cellOf;rw[hc]
    have t:cK env ((n,NameKind.free)::r) cs=cK env r ((n,c)::cs):=by rw[cK,hc];rfl
    rw[t,<-ih];dsimp only;rw[e];rfl
   .have hb:(k== NameKind.free)=false:=by simpa using hk
    have t:cK env ((n,k)::r) cs=cK env r cs:=by rw[cK,hb];rfl
    rw[t,<-ih];dsimp only;rw[hb];rfl
 unfold closureFor;have k2:=key scope.names [] h;exact (dg (fun m:Sem (List (Str×Addr))=>m >>= fun cs=>pure cs) k2).trans rfl
theorem uN:∀{names:List (Str×NameKind)}{cs:List (Str×Addr)}{y:Str}{c:Addr},(cK env names cs).lookup y=some c->
  cs.lookup y=some c\/((y,NameKind.free)∈names/\(env.cells.lookup y).getD 0=c)
 |[],cs,y,c,e=>.inl e
 |(n,k)::r,cs,y,c,e=>by
  rw[cK] at e;rcases uN e with e|⟨h1,h2⟩
  .by_cases hk:k=.free
   .subst hk;rw[if_pos (by rfl),dE] at e;by_cases hy:(y== n)=true
    .rw[hy] at e;have:y=n:=by simpa using hy
     subst this;cases e;exact .inr ⟨nh,rfl⟩
    .rw[yq] at hy;rw[hy] at e;exact .inl e
   .rw[if_neg (by simpa using hk)] at e;exact .inl e
  .exact .inr ⟨jc _ h1,h2⟩
theorem qU:∀{names:List (Str×NameKind)}{cs:List (Str×Addr)}{y:Str},((y,NameKind.free)∈names\/∃c,cs.lookup y=some c)->∃c,(cK env names cs).lookup y=some c
 |[],cs,y,h=>by
  rcases h with h|h
  .cases h
  .exact h
 |(n,k)::r,cs,y,h=>by
  rw[cK];refine qU ?_;rcases h with h|⟨c,h⟩
  .rcases fH.mp h with h|h
   .cases h;refine .inr ⟨(env.cells.lookup n).getD 0,?_⟩;rw[if_pos (by rfl),dE];simp
   .exact .inl h
  .refine .inr ?_;by_cases hk:(k== NameKind.free)=true
   .rw[if_pos hk,dE];by_cases hy:(y== n)=true
    .rw[hy];exact⟨_,rfl⟩
    .rw[yq] at hy;rw[hy];exact⟨c,h⟩
   .rw[if_neg hk];exact⟨c,h⟩
noncomputable def c9(N:List Str)(x:List Str):List Str:=(N.map fun y=>if y∈x then ("":Str) else y)++x
structure gP(N:List Str)(outer:Scope)(x:List Str)(sc:Scope):Prop where
 kind:sc.kind=.function
 T9:outer.kind=.function
 wa:∀y∈sc.names,y.2≠.cell
 locs:∀y∈sc.names,y.2=.local->sc.names.lookup y.1=some .local
 iW:∀y∈x,sc.names.lookup y=some .local
 only:∀y k,sc.names.lookup y=some k->k=.local->y∈N->y∈x
 free:∀y∈sc.names,y.2=.free->outer.names.lookup y.1=some .cell\/outer.names.lookup y.1=some .free
 Ke:sc.names.lookup ("":Str)=none
def br(X:Cx)(scope:Scope)(C:Addr)(x:List Str)(s:Shared)(H:L2.Hp)(pins:aH)(fp:List Addr):Cx:=
 {X with N:=c9 X.N x,aL:=s,kD:=H,env:=compEnvC scope (cK X.env scope.names []) C X.env,outer:=X.stack,stack:=X.stack,ex:=fp,fn:=fun _=>false,pn:=X.pn++pins,xe:=fun _ _=>False}
def lookup_mem{l:List (Str×NameKind)}{y:Str}{k:NameKind}(h:l.lookup y=some k):(y,k)∈l:=iD h
theorem iH{env:Env}{y:Str}{k:NameKind}:∀{names:List (Str×NameKind)},(names.map fun (n,k)=>if (k== NameKind.free&&env.scope.kind== .function&&env.kindOf n== some .cell) then (n,NameKind.cell) else (n,k)).lookup y=some k->
  ∃k',names.lookup y=some k'/\(k=k'\/(k=.cell/\k'=.free))
 |[],h=>by simp at h
 |(n,j)::r,h=>by
  rw[fJ,dE] at h;by_cases hc:(j== NameKind.free&&env.scope.kind== .function&&env.kindOf n== some .cell)=true
  .rw[if_pos hc] at h;by_cases hy:(y== n)=true
   .simp only[hy] at h;cases h;refine⟨j,by rw[dE,hy],.inr ⟨rfl,?_⟩⟩;simp only[aq,iK] at hc;exact hc.1.1
   .rw[yq] at hy;simp only[hy] at h;obtain⟨k',h1,h2⟩:=iH h;exact⟨k',by rw[dE,hy];exact h1,h2⟩
  .rw[if_neg hc] at h;by_cases hy:(y== n)=true
   .simp only[hy] at h;cases h;exact⟨_,by rw[dE,hy],.inl rfl⟩
   .rw[yq] at hy;simp only[hy] at h;obtain⟨k',h1,h2⟩:=iH h;exact⟨k',by rw[dE,hy];exact h1,h2⟩
section
variable {X:Cx}{E:XK}{pins:aH}{σ:L2.St}{H:L2.Hp}{s:Shared}{scope:Scope}{x:List Str}
def yF(I:Inv X pins σ H s)(cs:gP X.N X.env.scope x scope):∀y∈scope.names,y.2=.free->∃c,X.env.cells.lookup y.1=some c:=fun y hy hf=>by
 rcases cs.free y hy hf with h|h
 .exact I.ok.has y.1 (.inl h)
 .exact I.ok.has y.1 (.inr h)
def fU(I:Inv X pins σ H s)(cs:gP X.N X.env.scope x scope)(e:(cK X.env scope.names []).lookup y=some c):X.env.cells.lookup y=some c:=by
 rcases uN e with e|⟨h1,h2⟩
 .simp at e
 .obtain⟨c',hc⟩:=yF I cs _ h1 rfl;dsimp only at hc;rw[hc] at h2⊢;cases h2;rfl
def B9{h':Heap}{t':Nat}(I:Inv X pins σ H s)(cs:gP X.N X.env.scope x scope){fp:List Addr}(hf:∀b∈fp,gO X pins H b)(hlt:∀b∈fp,b<s.heap.objs.size)
  (ns:h'.Ns s.heap.objs.size fun _=>none) (kp:∀b o,s.heap.get? b=some o->h'.get? b=some o):
  Inv (br X scope s.heap.objs.size x s H pins fp) [] (σ++List.replicate x.length none) H {s with heap:=h',toks:=t'} where
 ok:={
  mod:=I.ok.mod
  kind:=cs.kind
  glob:=I.ok.glob
  blt:=I.ok.blt
  above:=aA _
  inj:=fun y z c h1 h2=>I.ok.inj y z c (fU I cs h1) (fU I cs h2)
  has:=fun y hy=>by
   have hy:(relabel scope X.env).names.lookup y=some .cell\/(relabel scope X.env).names.lookup y=some .free:=hy;refine qU (.inl ?_);have fr:∀k,(k=.cell\/k=.free)->(relabel scope X.env).names.lookup y=some k->(y,NameKind.free)∈scope.names:=fun k hk e=>by
    obtain⟨k',e',h⟩:=iH (env:=X.env) e;have m:=lookup_mem e';rcases h with h|⟨_,h⟩
    .subst h;rcases hk with hk|hk
     .exact absurd hk (cs.wa _ m)
     .rw[<-hk];exact m
    .rw[<-h];exact m
   rcases hy with hy|hy
   .exact fr _ (.inl rfl) hy
   .exact fr _ (.inr rfl) hy
  rN:=fun y c h=>nomatch h
  hd:=I.ok.hd
  frames:=I.ok.frames
  vS:=.inl rfl
  Dc:=fun b hb=>⟨dw (hlt b hb),fun y c e=>(hf b hb).2.2.2.2.1 y c (fU I cs e)⟩
  bs:=I.bs
  mG:=aF I.ok.mG I.sz
  oU:=fun b o e z=>by
   rcases (hf b z).2.2.2.1 with w|w
   .exact I.ok.oU b o e w
   .exact absurd (bY (bJ e) (aF I.ok.mG w)) (qP _)
  qN:=fun b hb z=>by
   rcases fH.mp (I.kO b z) with w|w
   .exact (hf b hb).2.1 w
   .exact (hf b hb).2.2.1 w
  gf:=I.stack
  oq:=I.jf}
 os:=rfl
 bare:=I.bare
 base:=Un.kept kp
 loc:=by
  refine⟨_,ns,fun i y v e1 e2 e3=>?_⟩;have hl:i<σ.length:=by
   rcases tD i σ.length with z|z
   .exact z
   .rw[mZ z,AH] at e2;split at e2<;>cases e2
  rw[fI hl] at e2;have hN:i<X.N.length:=by rw[<-I.len];exact hl
  have e1:(c9 X.N x)[i]?=some y:=e1;unfold c9 at e1;rw[fI (by simpa using hN),lP,lN hN] at e1;have e1:(if X.N[i]∈x then ("":Str) else X.N[i])=y:=by simpa using e1
  have hv:∃k,(relabel scope X.env).names.lookup y=some k:=by
   rcases e3 with e3|e3|e3
   .exact⟨_,e3⟩
   .exact⟨_,e3⟩
   .exact⟨_,e3⟩
  obtain⟨k,hk⟩:=hv;obtain⟨k',hk',hkk⟩:=iH (env:=X.env) hk;by_cases hx:X.N[i]∈x
  .rw[if_pos hx] at e1;rw[<-e1,cs.Ke] at hk';cases hk'
  .rw[if_neg hx] at e1;have yN:y∈X.N:=by rw[<-e1];exact vC _
   have hfree:k'=.free/\(k=.cell\/k=.free):=by
    have FC:k'≠.local:=fun z=>hx (by rw[e1];exact cs.only y k' hk' z yN);have hnc:k'≠.cell:=fun z=>cs.wa _ (lookup_mem hk') z;rcases e3 with e3|e3|e3
    .have e3:(relabel scope X.env).names.lookup y=some .local:=e3;rw[hk] at e3;cases e3;rcases hkk with z|⟨z,_⟩
     .exact absurd z.symm FC
     .cases z
    .have e3:(relabel scope X.env).names.lookup y=some .cell:=e3;rw[hk] at e3;cases e3;rcases hkk with z|⟨_,z⟩
     .exact absurd z.symm hnc
     .exact⟨z,.inl rfl⟩
    .have e3:(relabel scope X.env).names.lookup y=some .free:=e3;rw[hk] at e3;cases e3;rcases hkk with z|⟨z,_⟩
     .exact⟨z.symm,.inr rfl⟩
     .cases z
   have m:=lookup_mem hk';rw[hfree.1] at m;have lR:oE X.env.scope y:=by
    rcases cs.free _ m rfl with z|z
    .exact .inr (.inl z)
    .exact .inr (.inr z)
   obtain⟨mm,lS,hl⟩:=I.loc;obtain⟨u,ru,lk⟩:=hl i y v (by rw[lN hN,e1]) e2 lR;refine⟨u,ru,.inr ⟨?_,?_⟩⟩
   .rcases hfree.2 with z|z
    .exact .inl (by rw[<-z];exact hk)
    .exact .inr (by rw[<-z];exact hk)
   .rcases lk with ⟨z,_⟩|⟨_,c,ec,hc⟩
    .exfalso;have z:X.env.scope.names.lookup y=some .local:=z;rcases cs.free _ m rfl with w|w
     .have w:X.env.scope.names.lookup y=some .cell:=w;rw[z] at w;cases w
     .have w:X.env.scope.names.lookup y=some .free:=w;rw[z] at w;cases w
    .obtain⟨c',ec'⟩:=qU (env:=X.env) (names:=scope.names) (cs:=[]) (y:=y) (.inl m);have:=fU I cs ec';rw[ec] at this;cases this;refine⟨c,ec',?_⟩;obtain⟨o,ho,hd⟩:=hc;exact⟨o,kp _ _ ho,hd⟩
 cell:=fun y c e=>by
  obtain⟨v,o,ho,hd⟩:=I.cell y c (fU I cs e);exact⟨v,o,kp _ _ ho,hd⟩
 free:=I.av.fresh (aA _)
 fg:=fun y c e=>I.fg y c (fU I cs e)
 pin:=fun p hp=>by
  have hp:p∈(X.pn++pins)++[]:=hp;rw[fK] at hp;obtain⟨h1,h2,h3,h4,h5⟩:=I.pin p hp;refine⟨kp _ _ h1,h2,dw (bJ h1),fun z=>?_,h5⟩;rcases fH.mp (I.kO p.1 z) with w|w
  .exact h3 w
  .exact h4 w
 av:=I.av.kept kp
 len:=by show (σ++List.replicate x.length none).length=(c9 X.N x).length;unfold c9;simp[I.len]
end
abbrev tI(K:Zk)(d:Tw.Env->Tw.Hp->Tw.R Tw.Src):TI:=tG K (fun K ι n H src J=>gk K J src ι n H) d
section
variable {X:Cx}{E:XK}{a b:Expr}{pos:Pos}{da db:Tw.Env->Tw.Hp->Tw.R Tw.W}
def PI.imp(p:PI X tg iter w)(f:∀σ H R,w' σ H R->w σ H R):PI X tg iter w':=fun pins s σ H R I q=>p pins s σ H R I (f σ H R q)
def NB(ha:PE X a (tE (zx X E) da)):PI X tg a (tI (zx X E) fun ρ h=>(da ρ h).bind fun x h=>Tw.R.of (Tw.src h x) h):=by
 refine PI.imp (PI.or (HX ha) (MA ha)) fun σ H R Z=>Z.k3 fun ρ h ι at' p=>?_;dsimp only at p;cases e0:da ρ h with
 |bad=>rw[e0] at p;exact p.elim
 |aw=>rw[e0] at p;refine .inr ⟨ρ,h,ι,at',?_⟩;rw[e0];exact p
 |ok w h1=>
  rw[e0] at p;simp only[Tw.R.aZ] at p;cases w with
  |tup ws=>
   refine .inr ⟨ρ,h,ι,at',?_⟩;rw[e0];intro ι1 H1 x e1 r1 rx;cases rx with
   | @tup ad xs _ ea ra=>exact⟨ad,rfl,⟨xs,TupAt.sq ea⟩,p ι1 H1 _ e1 r1 (.inl ⟨ad,xs,ws,rfl,rfl,ea,ra⟩)⟩
  |ref i=>
   cases e2:Tw.eC h1 i with
   |none=>
    have:Tw.src h1 (.ref i)=none:=by
     unfold Tw.eC at e2;simp only[Tw.src];split at e2
     .cases e2
     .cases e2
     .rfl
    rw[this] at p;exact p.elim
   |some ws0=>
    have:Tw.src h1 (.ref i)=some (.at i ws0.length):=by
     unfold Tw.eC at e2;simp only[Tw.src];split at e2
     .cases e2;rfl
     .cases e2;rfl
     .cases e2
    rw[this] at p;refine .inl ⟨ρ,h,ι,at',?_⟩;rw[e0];intro ι1 H1 x e1 r1 rx;cases rx with
    |ref hi=>
     obtain⟨xs0,sq0,_⟩:=r1.at e2;exact⟨_,rfl,⟨xs0,sq0⟩,p ι1 H1 _ e1 r1 (.inr (.inr (.inl ⟨i,_,_,rfl,rfl,rfl,hi⟩)))⟩
  |_=>exact p.elim
def N3(hgl:Gl X "range")(hm:X.mg "range"=none)(ha:PE X a (tE (zx X E) da))(bH:starEach [a] X.env=[(false,eval a X.env)]):
  PI X tg (.Call (.Name "range" p1) [a] [] pos2) (tI (zx X E) fun ρ h=>(da ρ h).bind fun x h=>match x with
   |.int j=>if Tw.cJ j then .ok (.fix (Tw.upTo 0 j.toNat)) h else .bad
   |_=>.bad):=by
 refine PI.imp (C6 hgl hm (bO ha dD bH) bH) fun σ H R Z=>Z.k3 fun ρ h ι at' p=>?_;refine⟨ρ,h,ι,at',(step at' p).mono fun x H1 Z=>Z.k4 fun w h1 ι1 at1 e1 r1 p1=>?_⟩;cases r1 with
 |int j=>
  dsimp only at p1;by_cases c:Tw.cJ j=true
  .rw[if_pos c] at p1;simp only[Tw.cJ,aq,az] at c;exact⟨j,rfl,c.1,c.2,ao.self (a:=Tw.Src.fix (Tw.upTo 0 j.toNat)) p1 at1.hr (.inr (.inl ⟨0,j.toNat,rfl,rfl⟩))⟩
  .rw[if_neg c] at p1;exact p1.elim
 |_=>exact p1.elim
end
def Lo(hgl:Gl X "range")(hm:X.mg "range"=none)(ha:PE X a (tE (zx X E) da))(hb':PE X b (tE (zx X E) db))(bH:starEach [a,b] X.env=[(false,eval a X.env),(false,eval b X.env)])(hst2:starEach [b] X.env=[(false,eval b X.env)]):
  PI X tg (.Call (.Name "range" p1) [a,b] [] pos2) (tI (zx X E) fun ρ h=>(da ρ h).bind fun x h=>(db ρ h).bind fun y h=>match x,y with
   |.int i,.int j=>if Tw.cJ i&&Tw.cJ j then .ok (.fix (Tw.upTo i (j-i).toNat)) h else .bad
   |_,_=>.bad):=by
 refine PI.imp (Dn hgl hm (bO ha (bO hb' dD hst2) (by rw[bH,hst2])) bH hst2) fun σ H R Z=>Z.k3 fun ρ h ι at' p=>?_;refine⟨ρ,h,ι,at',(step at' p).mono fun x H1 Z=>Z.k4 fun w h1 ι1 at1 e1 r1 p1=>⟨ρ,h1,ι1,at1,(step at1 p1).mono fun y H2 Z=>Z.k4 fun u h2 ι2 at2 e2 r2 p2=>?_⟩⟩;cases r1 with
 |int i=>
  cases r2 with
  |int j=>
   dsimp only at p2;by_cases c:(Tw.cJ i&&Tw.cJ j)=true
   .rw[if_pos c] at p2;simp only[Tw.cJ,aq,az] at c;exact⟨i,j,rfl,⟨c.1.1,c.1.2,c.2.1,c.2.2⟩,ao.self (a:=Tw.Src.fix (Tw.upTo i (j-i).toNat)) p2 at2.hr (.inr (.inl ⟨i,_,rfl,rfl⟩))⟩
   .rw[if_neg c] at p2;exact p2.elim
  |_=>exact p2.elim
 |_=>cases u<;>exact p2.elim
theorem uf{k:Tw.W->List Tw.W->Tw.Hp->Tw.R (List Tw.W)}(hk:∀w acc h acc' h',k w acc h=.ok acc' h'->acc.length<=acc'.length):
  ∀(ws acc:List Tw.W)(h:Tw.Hp)(acc':List Tw.W)(h':Tw.Hp),Tw.gj k ws acc h=.ok acc' h'->acc.length<=acc'.length
 |[],acc,h,acc',h',e=>by cases e;exact aA _
 |w::ws,acc,h,acc',h',e=>by
  rw[Tw.gj] at e;cases e1:k w acc h with
  |bad=>rw[e1] at e;cases e
  |aw=>rw[e1] at e;cases e
  |ok acc1 h1=>
   rw[e1] at e;exact aF (hk _ _ _ _ _ e1) (uf hk ws acc1 h1 acc' h' e)
def BM{k:Tw.W->List Tw.W->Tw.Hp->Tw.R (List Tw.W)}(hk:∀w acc h acc' h',k w acc h=.ok acc' h'->acc.length<=acc'.length):
  ∀(m i:Nat)(acc:List Tw.W)(h:Tw.Hp)(acc':List Tw.W)(h':Tw.Hp),Tw.dR a k m i acc h=.ok acc' h'->acc.length<=acc'.length:=by
 intro m
 induction m with
 |zero=>
  intro i acc h acc' h' e;unfold Tw.dR at e;split at e
  .cases e
  .split at e
   .cases e;exact aA _
   .cases e
 |succ m ih=>
  intro i acc h acc' h' e;unfold Tw.dR at e;split at e
  .cases e
  .split at e
   .cases e;exact aA _
   .next w _=>
    dsimp only at e;cases e1:k w acc h with
    |bad=>rw[e1] at e;cases e
    |aw=>rw[e1] at e;cases e
    |ok acc1 h1=>
     rw[e1] at e;exact aF (hk _ _ _ _ _ e1) (ih (i+1) acc1 h1 acc' h' e)
def Jk{k:Tw.W->List Tw.W->Tw.Hp->Tw.R (List Tw.W)}(hk:∀w acc h acc' h',k w acc h=.ok acc' h'->acc.length<=acc'.length)
  (e:wk src k i m acc h=.ok acc' h'):acc.length<=acc'.length:=by
 cases src with
 |fix ws=>exact uf hk _ _ _ _ _ e
 | «at» a n=>exact BM hk _ _ _ _ _ _ e
 |rv a n=>cases e
noncomputable def cT(un:Tw.W->Option (List Tw.W))(c:Tw.Env->Tw.Hp->Tw.R (Option Tw.W))(elt:Tw.Env->Tw.Hp->Tw.R Tw.W)(σ:Tw.Env)(x:Tw.W)(acc:List Tw.W)(h:Tw.Hp):Tw.R (List Tw.W):=match un x with
 |none=>.bad
 |some ws=>(c (σ++ws.map some) h).fY.bind fun t h=>match Tw.mD h t with
  |none=>.bad
  |some true=>(elt (σ++ws.map some) h).fY.bind fun y h=>.ok (acc++[y]) h
  |some false=>.ok acc h
def LN(w:Tw.W):Option (List Tw.W):=some [w]
def Cd{un:Tw.W->Option (List Tw.W)}{dc:Tw.Env->Tw.Hp->Tw.R (Option Tw.W)}{de:Tw.Env->Tw.Hp->Tw.R Tw.W}(w:Tw.W)(acc:List Tw.W)(h:Tw.Hp)(acc':List Tw.W)(h':Tw.Hp)(e:cT un dc de ρ w acc h=.ok acc' h'):acc.length<=acc'.length:=by
 unfold cT at e;cases e0:un w with
 |none=>rw[e0] at e;cases e
 |some ws=>
  rw[e0] at e;dsimp only at e;cases e1:dc (ρ++ws.map some) h with
  |bad=>rw[e1] at e;cases e
  |aw=>rw[e1] at e;cases e
  |ok t h1=>
   rw[e1] at e;simp only[Tw.R.kr,Tw.R.aZ] at e;split at e
   .cases e
   .cases e2:de (ρ++ws.map some) h1 with
    |bad=>rw[e2] at e;cases e
    |aw=>rw[e2] at e;cases e
    |ok y h2=>rw[e2] at e;cases e;simp
   .cases e;exact aA _
theorem uA{k:Tw.W->List Tw.W->Tw.Hp->Tw.R (List Tw.W)}(hk:∀w acc h a h',k w acc h≠.aw a h'):∀(ws acc:List Tw.W)(h:Tw.Hp)(a:Nat)(h':Tw.Hp),Tw.gj k ws acc h≠.aw a h'
 |[],acc,h,a,h',e=>by cases e
 |w::ws,acc,h,a,h',e=>by
  rw[Tw.gj] at e;cases e1:k w acc h with
  |bad=>rw[e1] at e;cases e
  |aw b g=>exact hk _ _ _ _ _ e1
  |ok acc1 h1=>rw[e1] at e;exact uA hk ws acc1 h1 a h' e
def CH{k:Tw.W->List Tw.W->Tw.Hp->Tw.R (List Tw.W)}(hk:∀w acc h a h',k w acc h≠.aw a h'):∀(m i:Nat)(acc:List Tw.W)(h:Tw.Hp)(b:Nat)(h':Tw.Hp),Tw.dR a k m i acc h≠.aw b h':=by
 intro m
 induction m with
 |zero=>
  intro i acc h b h' e;unfold Tw.dR at e;split at e
  .cases e
  .split at e<;>cases e
 |succ m ih=>
  intro i acc h b h' e;unfold Tw.dR at e;split at e
  .cases e
  .split at e
   .cases e
   .next w _=>
    dsimp only at e;cases e1:k w acc h with
    |bad=>rw[e1] at e;cases e
    |aw c g=>exact hk _ _ _ _ _ e1
    |ok acc1 h1=>rw[e1] at e;exact ih (i+1) acc1 h1 b h' e
def uu{un:Tw.W->Option (List Tw.W)}{dc:Tw.Env->Tw.Hp->Tw.R (Option Tw.W)}{de:Tw.Env->Tw.Hp->Tw.R Tw.W}(w:Tw.W)(acc:List Tw.W)(h:Tw.Hp)(a:Nat)(h':Tw.Hp):cT un dc de ρ w acc h≠.aw a h':=by
 intro e;unfold cT at e;split at e
 .cases e
 .next ws _=>
  cases e1:dc (ρ++ws.map some) h with
  |bad=>rw[e1] at e;cases e
  |aw=>rw[e1] at e;cases e
  |ok t h1=>
   rw[e1] at e;simp only[Tw.R.kr,Tw.R.aZ] at e;split at e
   .cases e
   .cases e2:de (ρ++ws.map some) h1<;>rw[e2] at e<;>cases e
   .cases e
def KP{un:Tw.W->Option (List Tw.W)}{dc:Tw.Env->Tw.Hp->Tw.R (Option Tw.W)}{de:Tw.Env->Tw.Hp->Tw.R Tw.W}:wk src (cT un dc de ρ) i m acc h≠.aw a h':=by
 cases src with
 |fix ws=>exact uA uu _ _ _ _ _
 | «at» b n=>exact CH uu _ _ _ _ _ _
 |rv b n=>exact fun e=>nomatch e
def At.NN{K:Zk}{ι:Nat->Addr}{h:Tw.Hp}{H:L2.Hp}{ρ:Tw.Env}{σ:L2.St}{ws:List Tw.W}{vs:List V}(a:At K ι h H ρ σ)(r:aS K.K ι h.length H ws vs):At K ι h H (ρ++ws.map some) (σ++vs.map some) where
 hr:=a.hr
 len:=by simp[a.len,r.length]
 st:=fun i u e=>by
  rcases tD i ρ.length with hi|hi
  .rw[fI hi] at e;rw[fI (by rw[a.len];exact hi)];exact a.st i u e
  .rw[mZ hi,lP] at e;rw[mZ (by rw[a.len];exact hi),a.len,lP];cases q:ws[i-ρ.length]? with
   |none=>rw[q] at e;cases e
   |some w=>
    rw[q] at e;cases e;obtain⟨v,hv,rv⟩:=r.get q;exact⟨v,by rw[hv];rfl,rv⟩
def HR.ex{K:W.Frag}{mg:Str->Option Value}{E E':XK}{ι:Nat->Addr}{h:Tw.Hp}{H:L2.Hp}(r:HR ⟨K,mg,E,cl⟩ ι h H):HR ⟨K,mg,E',cl⟩ ι h H:=⟨fun i o e=>by
 have q:=r.obj i o e;cases o<;>exact q,r.inj,r.tab,r.fn⟩
def At.ex{K:W.Frag}{mg:Str->Option Value}{E E':XK}{ι:Nat->Addr}{h:Tw.Hp}{H:L2.Hp}{ρ:Tw.Env}{σ:L2.St}(a:At ⟨K,mg,E,cl⟩ ι h H ρ σ):At ⟨K,mg,E',cl⟩ ι h H ρ σ:=⟨a.hr.ex,a.len,a.st⟩
def oO(K:Zk)(n k:Nat)(g:TG)(un:Tw.W->Option (List Tw.W)):Prop:=∀(ι:Nat->Addr)(h:Tw.Hp)(H:L2.Hp)(σ os:L2.St)(w:Tw.W)(v:V)(ws:List Tw.W)(Q:L2.St->L2.Hp->Prop),
 σ.length=n->os.length=k->RW K.K ι h.length H w v->un w=some ws->(∀vs,aS K.K ι h.length H ws vs->vs.length=k->Q (σ++vs.map some) H)->g v (σ++os) H Q
def vY(K:Zk)(n:Nat):oO K n 1 (gZ n) LN:=fun ι h H σ os w v ws Q h1 h2 r e q=>by
 cases e
 match os,h2 with
 |[o],_=>
  show Q _ H;rw[<-h1,List.set_append_right _ _ (aA _)];simpa using q [v] (.cons r .nil) rfl
section
variable {X:Cx}{E:XK}{pins:aH}{σ σ':L2.St}{H Hc:L2.Hp}{s s1:Shared}{scope:Scope}{x:List Str}{fp:List Addr}
def ue(I:Inv X pins σ H s)(hf:∀b∈fp,gO X pins H b)(J:Inv (br X scope s.heap.objs.size x s H pins fp) [] σ' Hc s1)(hs:Heap.SameBut s.heap.objs.size s1.heap h'):Inv X pins σ Hc {s1 with heap:=h'}:=by
 have ne:∀b o,s.heap.get? b=some o->b≠s.heap.objs.size:=fun b o e=>dw (bJ e);have to':∀b o,b≠s.heap.objs.size->s1.heap.get? b=some o->h'.get? b=some o:=fun b o n e=>hs.extBut b o n e;have B:=J.base;have hC:Hc s.heap.objs.size=none:=J.free;have u:Un (bu X.stack) fp H Hc s.heap h':=by
  refine⟨fun b o e n h1 h2=>to' b o (ne b o e) (B.keep b o e n h1 h2),fun b o e n h1 h2=>?_,B.free,fun b o e h2=>?_,B.gM,B.f6,B.fX⟩
  .obtain⟨sl,q⟩:=B.slot b o e n h1 h2;exact⟨sl,to' b _ (ne b o e) q⟩
  .obtain⟨o',q⟩:=B.there b o e h2;exact⟨o',to' b o' (ne b o e) q⟩
 have av:dN X.prog X.w Hc h':=fun b v e=>by
  refine (J.av b v e).gb (fun c w hc q=>to' c w ?_ q) (fun _ q=>q) fun _ _ q=>q;rcases hc with z|z
  .rw[z];intro z';rw[z',hC] at e;cases e
  .intro z';rw[z',hC] at z;cases z
 have os:s1.os=s.os:=J.os;obtain⟨hh,g,d,t,os'⟩:=s1;cases os;have fin:=L2.Inv.call (s:=s) (h':=h') (g':=g) (d':=d) (t':=t) (ch:=fp) I u av J.bare fun b hb=>⟨(hf b hb).2.2.2.1,(hf b hb).2.1,(hf b hb).2.2.2.2.1,(hf b hb).2.2.2.2.2⟩;exact fin
end
def sM(X:Cx)(scope:Scope)(x:List Str)(ifs:List Expr)(dc:Tw.Env->Tw.Hp->Tw.R (Option Tw.W)):Prop:=
 (ifs=[]/\∀ρ h,dc ρ h=.ok none h)\/∃c d,ifs=[c]/\(∀ρ h,dc ρ h=(d ρ h).bind fun w h=>.ok (some w) h)/\∀C s H pins fp,PT (br X scope C x s H pins fp) c (tT (zx X E0) d)
section
variable {X:Cx}{E:XK}{elt iter tg:Expr}{x:List Str}{pos:Pos}{g:TG}{un:Tw.W->Option (List Tw.W)}{ifs:List Expr}{scope:Scope}{dit:Tw.Env->Tw.Hp->Tw.R Tw.Src}{dc:Tw.Env->Tw.Hp->Tw.R (Option Tw.W)}{de:Tw.Env->Tw.Hp->Tw.R Tw.W}
def Gj(I:Inv X pins σ H3 s3)(cs:gP X.N X.env.scope x scope)(f3:∀b∈fp,gO X pins H3 b)(lt3:∀b∈fp,b<s3.heap.objs.size)(fz:∀b∈fp,Hc b=none):
  ∀b∈fp,gO (br X scope s3.heap.objs.size x s3 H3 pins fp) [] Hc b:=fun b hb=>by
 obtain⟨_,f1,f2,_,f4,f5⟩:=f3 b hb;refine⟨fz b hb,dw (lt3 b hb),fun z=>?_,.inl hb,fun y c e=>f4 y c (fU I cs e),fun p hp=>?_⟩
 .rcases fH.mp (I.kO b z) with w|w
  .exact f1 w
  .exact f2 w
 .have hp:p∈(X.pn++pins)++[]:=hp;rw[fK] at hp;exact f5 p hp
def xh{K K':Zk}{α β γ δ:Type}{R:Rl α β}{R':Rl γ δ}{ι ι0:Nat->Addr}{h h0:Tw.Hp}{H H0:L2.Hp}{m:Tw.R α}{k:α->Tw.Hp->Tw.R γ}{Q:δ->L2.Hp->Prop}(p:ao K R' ι0 h0 H0 (m.fY.bind k) Q):
  ao K' R ι h H m (fun b H'=>∃a h' ι',m=.ok a h'/\Ext ι h H ι' h' H'/\HR K' ι' h' H'/\R K'.K ι' h'.length H' a b):=by
 cases m with
 |ok w h1=>exact fun ι' H' b e r q=>⟨w,h1,ι',rfl,e,r,q⟩
 |aw=>exact p.elim
 |bad=>exact p
def wD{K:Zk}{α β γ δ:Type}{R':Rl γ δ}{ι0:Nat->Addr}{h0:Tw.Hp}{H0:L2.Hp}{m:Tw.R α}{f:α->Tw.Hp->Tw.R β}{g:β->Tw.Hp->Tw.R γ}{Q:δ->L2.Hp->Prop}(p:ao K R' ι0 h0 H0 ((m.bind f).bind g) Q):ao K R' ι0 h0 H0 (m.bind fun a h=>(f a h).bind g) Q:=by cases m<;>exact p
def Bl{R:Result->Shared->Prop}(I:Nat->Shared->Prop)
  (turn:∀n s,I n s->wpAny (model prog w) A (pyNext it) (fun r s1=>match r with
   |none=>R (.ok .next) s1
   |some v=>wpAny (model prog w) A (letOwnedTupleGo target it v) (fun _ sg=>wpAny (model prog w) A (assign target env v) (fun _ s2=>
     wpAny (model prog w) A (forIn ifs true fun c r=>if r=true then do let ok <-isTrue c env (eval c env);pure (ForInStep.yield ok) else pure (ForInStep.yield r)) (fun ok s3=>
      if ok=true then wpAny (model prog w) A (eval elt env) (fun x s4=>
       wpAny (model prog w) A (call (.builtin "list.append") [acc,x]) (fun _ s5=>∃m,m<n/\I m s5) (fun _ _=>False) s4) (fun _ _=>False) s3
      else ∃m,m<n/\I m s3) (fun _ _=>False) s2) (fun _ _=>False) sg) (fun _ _=>False) s1) (fun _ _=>False) s)
  (n:Nat) (h:I n s):codeAny (model prog w) A (.compLoop (.ListComp elt [⟨target,iter,ifs,0⟩] scope pos) 0 it acc env) R s:=by
 have no:∀{α:Type}{t:Sem α}{Q1:α->Shared->Prop}{E1:aY}{s0:Shared},wpAny (model prog w) A t Q1 (fun _ _=>False) s0->wpAny (model prog w) A t Q1 E1 s0:=fun h=>jr h (fun _ _ q=>q) fun _ _ f=>f.elim;refine codeAny_loop rfl I (fun n s hI=>?_) n h;show wpAny _ A ((compTurn (.ListComp elt [⟨target,iter,ifs,0⟩] scope pos) 0 it acc env).onRaise (fun x=>do noteFrame x env;theTreesLotGoes x)) _ _ s;refine wpAny_noted ?_;rw[compTurn_list];refine ag (rm (ag (aB (no (turn n s hI)) fun r s1 h1=>?_)));cases r with
 |none=>exact aG h1
 |some v=>
  refine ag (aB (no h1) fun _ sg hg=>ag (aB (no hg) fun _ s2 h2=>ag (aB (no h2) fun ok s3 h3=>?_)));cases ok with
  |false=>exact aG ⟨rfl,h3⟩
  |true=>exact ag (ag (aB (no h3) fun x s4 h4=>ag (aB (no h4) fun _ s5 h5=>aG (aG ⟨rfl,h5⟩))))
def Keeps.trans{ι ι1 ι2:Nat->Addr}(a:Keeps ι n H ι1 n1 H1)(b:Keeps ι1 n1 H1 ι2 n2 H2):Keeps ι n H ι2 n2 H2:=
 ⟨aF a.le b.le,fun i hi=>(b.same i (bY hi a.le)).trans (a.same i hi),fun c xs e=>b.tup c xs (a.tup c xs e)⟩
def Bu{pins:aH}{s3:Shared}{H2 H3:L2.Hp}{fp:List Addr}{σ:L2.St}{ρ:Tw.Env}{ι1:Nat->Addr}{h1:Tw.Hp}{D it:Addr}{tn:Nat->Heap->Prop}{J:It}{src:Tw.Src}{Q:VK}{h4:Heap}{t4:Nat}
  (hc:X.calm=true) (cs:gP X.N X.env.scope x scope) (hpg:∀C s H pins fp,PG (br X scope C x s H pins fp) tg g) (hbd:oO (zx X E) X.N.length x.length g un) (hel:∀C s H pins fp,PE (br X scope C x s H pins fp) elt (tE (zx X E0) de)) (hts:sM X scope x ifs dc)
  (I3:Inv X pins σ H3 s3) (hD:H3 D=some (.lst [])) (fresh:H2 D=none) (x3:Ext ι1 h1 H2 ι1 h1 H3) (at3:At (zx X E) ι1 h1 H3 ρ σ) (aq:eX ι1 h1 D) (fd3:gk X.K J src ι1 h1.length H3)
  (p1:ao (zx X E) RE ι1 h1 H2 ((wk src (cT un dc de ρ) 0 (kI src) [] h1).bind Tw.gL) Q) (T:Turn X.prog X.w X.K tg J fp it tn) (st3:tn 0 s3.heap) (f3:∀b∈fp,gO X pins H3 b) (lt3:∀b∈fp,b<s3.heap.objs.size)
  (ns:h4.Ns s3.heap.objs.size fun _=>none) (kp:∀b o,s3.heap.get? b=some o->h4.get? b=some o)
  {RR:Result->Shared->Prop} (hR:∀s1 Hc σ',Inv (br X scope s3.heap.objs.size x s3 H3 pins fp) [] σ' Hc s1->Q (.ref D) Hc->RR (.ok .next) s1):
  codeAny (model X.prog X.w) X.A (.compStart (.ListComp elt [⟨tg,iter,ifs,0⟩] scope pos) 0 (.ref it) (.ref D) (compEnvC scope (cK X.env scope.names []) s3.heap.objs.size X.env))
   RR {s3 with heap:=h4,toks:=t4}:=by
 have I4:Inv (br X scope s3.heap.objs.size x s3 H3 pins fp) [] (σ++List.replicate x.length none) H3 {s3 with heap:=h4,toks:=t4}:=B9 I3 cs f3 lt3 ns kp;have st4:tn 0 h4:=T.keep 0 _ _ st3 fun b _ o e=>kp b o e;have loop:codeAny (model X.prog X.w) X.A (.compLoop (.ListComp elt [⟨tg,iter,ifs,0⟩] scope pos) 0 (.ref it) (.ref D) (compEnvC scope (cK X.env scope.names []) s3.heap.objs.size X.env))
   RR {s3 with heap:=h4,toks:=t4}:=by
  refine Bl (fun n s'=>∃i acc ys hh ι' Hc o,Inv (br X scope s3.heap.objs.size x s3 H3 pins fp) [] (σ++o) Hc s'/\o.length=x.length/\tn i s'.heap/\(∀b∈fp,Hc b=none)/\Hc D=some (.lst ys)/\eX ι' hh D/\
   At (zx X E) ι' hh Hc ρ σ/\Ext ι1 h1 H2 ι' hh Hc/\aS X.K ι' hh.length Hc acc ys/\gk X.K J src ι' hh.length Hc/\cnt src i n/\
   ao (zx X E) RE ι1 h1 H2 ((wk src (cT un dc de ρ) i n acc hh).bind Tw.gL) Q) ?_ (kI src)
   ⟨0,[],[],h1,ι1,H3,_,I4,by simp,st4,fun b hb=>(f3 b hb).1,hD,aq,at3,x3,.nil,fd3,um src,p1⟩
  rintro n s' ⟨i,acc,ys,hh,ι',Hc0,o,J1,lo,tn1,fz,hDc0,dO,at50,ex0,rr0,fd0,hm,pp⟩
  have fpo:=Gj (Hc:=Hc0) I3 cs f3 lt3 fz;rcases Ik at50.hr fd0 (cT un dc de ρ) i n acc hm with bad|⟨stop,e⟩|⟨w,m,em,go,hy,hm',e⟩
  .rw[bad] at pp;exact pp.elim
  . -- the end
   refine aB (T.done (br X scope s3.heap.objs.size x s3 H3 pins fp) rfl rfl rfl hc i [] s' _ Hc0 _ J1 fpo tn1 stop) fun r s1 Z=>Z.g fun er J2=>?_;subst er;rw[e] at pp;refine hR s1 Hc0 _ J2 ?_;have pp:ao (zx X E) RE ι1 h1 H2 (if acc.length<=Tw.SZ then Tw.new (.lst acc) hh else .bad) Q:=pp;by_cases c:acc.length<=Tw.SZ
   .rw[if_pos c] at pp;have hr':=at50.hr.adopt (u:=.lst acc) dO hDc0 rfl fun ι'' n'' k=>⟨ys,hDc0,rr0.keep k⟩;have z:RW X.K (cZ ι' hh.length D) (hh++[Tw.O.lst acc]).length Hc0 (.ref hh.length) (.ref (cZ ι' hh.length D hh.length)):=.ref (by simp);rw[cy] at z;exact pp _ _ _ (ex0.adopt fresh) hr' z
   .rw[if_neg c] at pp;exact pp.elim
  . -- a turn
   subst em;refine aB (T.item (br X scope s3.heap.objs.size x s3 H3 pins fp) rfl rfl rfl hc i [] s' _ Hc0 _ J1 fpo tn1 go) fun r s1 Z=>Z.g fun u Z=>Z.g fun er hl=>?_;subst er;refine aB hl fun _ s1 Z=>Z.g fun v Z=>Z.g fun Hc Z=>Z.g fun J2 Z=>Z.g fun rv Z=>Z.g fun yl Z=>Z.g fun tn2 fz2=>?_;obtain⟨ry,xy,rw'⟩:=hy v Hc yl;have ky:=xy.keeps at50.hr;have hDc:Hc D=some (.lst ys):=xy.fr D _ hDc0 (fun _ z=>nomatch z) dO;have al:eX ι' hh D:=dO;have at5:At (zx X E) ι' hh Hc ρ σ:=at50.later xy ry;have ex:=ex0.trans xy;have rr:=rr0.keep ky;have fd:=fd0.later ky;have fpo:=Gj (Hc:=Hc) I3 cs f3 lt3 fz2;have J3:=J2.pinned fpo (T.obj _ _ tn2);rw[e] at pp;have pp:=wD pp;have pp':=pp;obtain⟨ws,eu⟩:∃ws,un w=some ws:=by
    cases eu:un w with
    |none=>rw[show cT un dc de ρ w acc hh=.bad by unfold cT;rw[eu]] at pp';exact pp'.elim
    |some ws=>exact⟨ws,rfl⟩
   have q0:cT un dc de ρ w acc hh=((dc (ρ++ws.map some) hh).fY.bind fun t h=>match Tw.mD h t with
     |none=>.bad
     |some true=>(de (ρ++ws.map some) h).fY.bind fun y h=>.ok (acc++[y]) h
     |some false=>.ok acc h):=by
    unfold cT;rw[eu]<;>rfl
   rw[q0] at pp';refine jr (hpg _ _ _ _ _ _ s1 _ Hc v u (fun σ2 H2'=>∃vs,aS X.K ι' hh.length Hc ws vs/\vs.length=x.length/\σ2=σ++vs.map some/\H2'=Hc) J3 rv (hbd ι' hh Hc σ o w v ws _ I3.len lo rw' eu fun vs q1 q2=>⟨vs,q1,q2,rfl,rfl⟩)) (fun _ sa Z=>Z.g fun σ2 Z=>Z.g fun Ha Z=>Z.g fun Ja Z=>Z.g fun vs Z=>Z.g fun rws Z=>Z.g fun lvs Z=>Z.g fun e1 e2=>?_) fun _ _ f=>f.elim;subst e1 e2;have at6:At (zx X E) ι' hh Ha (ρ++ws.map some) (σ++vs.map some):=at5.NN rws;have back:∀{Hb:L2.Hp}{sb:Shared}{acc':List Tw.W}{ys':List V}{hb:Tw.Hp}{ι2:Nat->Addr},Inv (br X scope s3.heap.objs.size x s3 H3 pins fp) ([]++ki fp s1.heap) (σ++vs.map some) Hb sb->Hb D=some (.lst ys')->eX ι2 hb D->
     HR (zx X E) ι2 hb Hb->Ext ι1 h1 H2 ι2 hb Hb->Keeps ι' hh.length Ha ι2 hb.length Hb->aS X.K ι2 hb.length Hb acc' ys'->ao (zx X E) RE ι1 h1 H2 ((wk src (cT un dc de ρ) (i+1) m acc' hb).bind Tw.gL) Q->
     ∃k,k<m+1/\∃i acc ys hh ι' Hc o,Inv (br X scope s3.heap.objs.size x s3 H3 pins fp) [] (σ++o) Hc sb/\o.length=x.length/\tn i sb.heap/\(∀b∈fp,Hc b=none)/\Hc D=some (.lst ys)/\eX ι' hh D/\
      At (zx X E) ι' hh Hc ρ σ/\Ext ι1 h1 H2 ι' hh Hc/\aS X.K ι' hh.length Hc acc ys/\gk X.K J src ι' hh.length Hc/\cnt src i k/\
      ao (zx X E) RE ι1 h1 H2 ((wk src (cT un dc de ρ) i k acc hh).bind Tw.gL) Q:=fun {Hb sb acc' ys' hb ι2} Jb hDb alb rb exb kb rrb pb=>by
    refine⟨m,xP _,i+1,acc',ys',hb,ι2,Hb,vs.map some,Jb.kq,by rw[i9];exact lvs,T.keep _ _ _ tn2 fun b hb o e=>(Jb.pin (b,o) (fL _ (fL _ (iQ hb e)))).1,fun b hb=>?_,hDb,alb,⟨rb,at5.len,fun j u q=>?_⟩,exb,rrb,fd.later kb,hm',pb⟩
    .obtain⟨o,e,d⟩:=T.obj _ _ tn2 b hb;exact (Jb.pin (b,o) (fL _ (fL _ (iQ hb e)))).2.1
    .obtain⟨v',q1,q2⟩:=at5.st j u q;exact⟨v',q1,q2.keep kb⟩
   have elem:∀{Hb:L2.Hp}{sb:Shared}{hb:Tw.Hp}{ι2:Nat->Addr},Inv (br X scope s3.heap.objs.size x s3 H3 pins fp) ([]++ki fp s1.heap) (σ++vs.map some) Hb sb->Ext ι' hh Ha ι2 hb Hb->HR (zx X E) ι2 hb Hb->
     ao (zx X E) RE ι1 h1 H2 (((de (ρ++ws.map some) hb).fY.bind fun y h=>(.ok (acc++[y]) h:Tw.R (List Tw.W))).bind fun acc h=>(wk src (cT un dc de ρ) (i+1) m acc h).bind Tw.gL) Q->
     wpAny (model X.prog X.w) X.A (eval elt (compEnvC scope (cK X.env scope.names []) s3.heap.objs.size X.env)) (fun xq s₄=>
      wpAny (model X.prog X.w) X.A (call (.builtin "list.append") [.ref D,xq]) (fun _ s₅=>∃k,k<m+1/\∃i acc ys hh ι' Hc o,Inv (br X scope s3.heap.objs.size x s3 H3 pins fp) [] (σ++o) Hc s₅/\o.length=x.length/\tn i s₅.heap/\(∀b∈fp,Hc b=none)/\Hc D=some (.lst ys)/\eX ι' hh D/\
      At (zx X E) ι' hh Hc ρ σ/\Ext ι1 h1 H2 ι' hh Hc/\aS X.K ι' hh.length Hc acc ys/\gk X.K J src ι' hh.length Hc/\cnt src i k/\
      ao (zx X E) RE ι1 h1 H2 ((wk src (cT un dc de ρ) i k acc hh).bind Tw.gL) Q) (fun _ _=>False) s₄) (fun _ _=>False) sb:=fun {Hb sb hb ι2} Jb eb rb pb=>by
    have atb:At (zx X E) ι2 hb Hb (ρ++ws.map some) (σ++vs.map some):=at6.later eb rb;have pb':=wD pb;refine aB (hel _ _ _ _ _ _ sb _ Hb _ Jb ⟨_,hb,ι2,atb.ex,xh pb'⟩) fun xv s4 Z=>Z.g fun y Z=>Z.g fun Hd Z=>Z.g fun Jd Z=>Z.g fun ry Z=>Z.g fun yw Z=>Z.g fun hd Z=>Z.g fun ι3 Z=>Z.g fun ed Z=>Z.g fun exd Z=>Z.g fun rd rwd=>?_;have rd:HR (zx X E) ι3 hd Hd:=rd.ex;rw[ed] at pb';have pb':ao (zx X E) RE ι1 h1 H2 ((wk src (cT un dc de ρ) (i+1) m (acc++[yw]) hd).bind Tw.gL) Q:=pb';have e3:Ext ι' hh Ha ι3 hd Hd:=eb.trans exd;have hDd:Hd D=some (.lst ys):=e3.fr D _ hDc (fun _ z=>nomatch z) al;have ald:eX ι3 hd D:=al.later e3 (by rw[hDc];exact fun z=>nomatch z);have hlen:acc.length+1<=Tw.SZ:=by
     cases q:wk src (cT un dc de ρ) (i+1) m (acc++[yw]) hd with
     |bad=>rw[q] at pb';exact pb'.elim
     |aw=>exact absurd q KP
     |ok acc' h'=>
      rw[q] at pb';have pb':ao (zx X E) RE ι1 h1 H2 (if acc'.length<=Tw.SZ then Tw.new (.lst acc') h' else .bad) Q:=pb';by_cases c:acc'.length<=Tw.SZ
      .have:=Jk Cd q;rw[lI,List.length_singleton] at this
       lia
      .rw[if_neg c] at pb';exact pb'.elim
    have kd:Keeps ι3 hd.length Hd ι3 hd.length (upd Hd D (.lst (ys++[y]))):=⟨aA _,fun _ _=>rfl,fun b xs e=>by
     rw[aI (fun z=>by rw[z,hDd] at e;cases e)];exact e⟩
    refine aB (uG (X:=br X scope s3.heap.objs.size x s3 H3 pins fp) _ s4 _ Hd (.ref D) [y] (.ref D) [xv] (fun _ Hn=>Hn=upd Hd D (.lst (ys++[y]))) Jd rfl (.cons ry .nil) ⟨D,ys,y,rfl,rfl,hDd,?_,rfl⟩) fun _ s5 Z=>Z.g fun _ Z=>Z.g fun Hn Z=>Z.g fun Jn Z=>Z.g fun _ eHn=>?_
    .rw[<-rr.length,pJ];lia
    .subst eHn;have kk:Keeps ι' hh.length Ha ι3 hd.length (upd Hd D (.lst (ys++[y]))):=(e3.keeps at5.hr).trans kd;exact back Jn bV ald (rd.other ald hDd (fun _ z=>nomatch z) fun _ _ z=>nomatch z) ((ex.trans e3).other fresh hDd) kk ((rr.keep kk).append (.cons (rwd.keep kd) .nil)) pb'
   rcases hts with ⟨rfl,hd0⟩|⟨c,d,rfl,hd1,hpt⟩
   .refine wpAny_tests_nil ?_;rw[if_pos rfl];refine elem Ja (Ext.refl _ _ _) at5.hr ?_;rw[hd0] at pp';exact pp'
   .refine wpAny_tests_one ?_;rw[hd1] at pp';have pt:ao (zx X E) RE ι1 h1 H2 ((dT d (ρ++ws.map some) hh).fY.bind fun b h=>((match b with
      |true=>(de (ρ++ws.map some) h).fY.bind fun y h=>(.ok (acc++[y]) h:Tw.R (List Tw.W))
      |false=>.ok acc h).bind fun acc h=>(wk src (cT un dc de ρ) (i+1) m acc h).bind Tw.gL)) Q:=by
     cases q:d (ρ++ws.map some) hh with
     |bad=>rw[q] at pp';exact pp'.elim
     |aw=>rw[q] at pp';exact pp'.elim
     |ok u hu=>
      rw[q] at pp';simp only[dT,q,Tw.R.aZ,Tw.R.kr,Tw.mD] at pp'⊢;cases q2:Tw.truth hu u with
      |none=>rw[q2] at pp';exact pp'.elim
      |some b=>
       rw[q2] at pp';cases b<;>exact pp'
    refine aB (hpt _ _ _ _ _ _ sa _ Ha _ Ja ⟨_,hh,ι',at6.ex,xh pt⟩) fun bb s4 Z=>Z.g fun Hd Z=>Z.g fun Jd Z=>Z.g fun b Z=>Z.g fun hd Z=>Z.g fun ι3 Z=>Z.g fun ed Z=>Z.g fun exd Z=>Z.g fun rd eb=>?_;have rd:HR (zx X E) ι3 hd Hd:=rd.ex;rw[ed] at pt;have eb:b=bb:=eb;subst eb;cases b with
    |true=>
     rw[if_pos rfl];exact elem Jd exd rd pt
    |false=>
     rw[if_neg (by decide)];exact back Jd (exd.fr D _ hDc (fun _ z=>nomatch z) al) (al.later exd (by rw[hDc];exact fun z=>nomatch z)) rd (ex.trans exd) (exd.keeps at5.hr) (rr.keep (exd.keeps at5.hr)) pt
 exact codeAny_compStart_list loop (T.self _ 0 _ _ _ st4 loop)
end
section
variable {X:Cx}{E:XK}{elt iter tg:Expr}{x:List Str}{pos:Pos}{g:TG}{un:Tw.W->Option (List Tw.W)}{ifs:List Expr}{scope:Scope}{dit:Tw.Env->Tw.Hp->Tw.R Tw.Src}{dc:Tw.Env->Tw.Hp->Tw.R (Option Tw.W)}{de:Tw.Env->Tw.Hp->Tw.R Tw.W}
def vB(un:Tw.W->Option (List Tw.W))(dit:Tw.Env->Tw.Hp->Tw.R Tw.Src)(dc:Tw.Env->Tw.Hp->Tw.R (Option Tw.W))(de:Tw.Env->Tw.Hp->Tw.R Tw.W):Tw.Env->Tw.Hp->Tw.R Tw.W:=
 fun ρ h=>(dit ρ h).bind fun s h=>(Tw.walk s (cT un dc de ρ) h).bind Tw.gL
def y0{use:Option (Value->Sem Unit)}{QQ:aY}(I:Inv X pins σ H s)
  (hc:X.calm=true) (cs:gP X.N X.env.scope x scope) (hpg:∀C s H pins fp,PG (br X scope C x s H pins fp) tg g) (hbd:oO (zx X E) X.N.length x.length g un) (hi:PI X tg iter (tI (zx X E) dit)) (hs:∀v,foldedSetIterable iter X.env v=pure v)
  (hel:∀C s H pins fp,PE (br X scope C x s H pins fp) elt (tE (zx X E0) de)) (hts:sM X scope x ifs dc) (q:tE (zx X E) (vB un dit dc de) σ H Q)
  (hR:∀s3 H3 fp D,Inv X pins σ H3 s3->(∀b∈fp,gO X pins H3 b)->∀s1 Hc σ',Inv (br X scope s3.heap.objs.size x s3 H3 pins fp) [] σ' Hc s1->Q (.ref D) Hc->compPost (model X.prog X.w) X.A X.xe use QQ (.ref D) s3.heap.objs.size (.ok .next) s1):
  wpAny (model X.prog X.w) X.A (comprehension (.ListComp elt [⟨tg,iter,ifs,0⟩] scope pos) scope X.env (firstIterPos [⟨tg,iter,ifs,0⟩] pos) (newList []) false (eval iter X.env) use) QQ X.xe s:=by
 obtain⟨ρ,h,ι,at',p⟩:=q;refine wpAny_comprehension_free rfl hs (rQ (yF I cs)) cs.kind cs.locs (aB (hi pins s σ H (fun J H'=>∃src h1 ι1,At (zx X E) ι1 h1 H' ρ σ/\Ext ι h H ι1 h1 H'/\gk X.K J src ι1 h1.length H'/\ao (zx X E) RE ι1 h1 H' ((Tw.walk src (cT un dc de ρ) h1).bind Tw.gL) Q) I ⟨ρ,h,ι,at',?_⟩) fun xv s1 h1=>aB h1 fun it s2 h2=>?_)
 .exact step at' p
 .obtain⟨it',fp,tn,J,H2,rfl,I2,T,tn0,fpo,src,h1',ι1,at1,e1,fd,p1⟩:=h2;have hf:H2 s2.heap.objs.size=none:=I2.av.fresh (aA _);have I3:Inv X pins σ (upd H2 s2.heap.objs.size (.lst [])) {s2 with heap:=s2.heap.push {cls:=.type "list",data:=.seq #[]},toks:=s2.toks}:=
   I2.laid (fun b u e=>bZ _ e) (aA _) ⟨bw _,[],0,.nil,gi _ rfl⟩
  have lt2:∀b∈fp,b<s2.heap.objs.size:=fun b hb=>by
   obtain⟨o,e,_⟩:=T.obj _ _ tn0 b hb;exact bJ e
  have f3:∀b∈fp,gO X pins (upd H2 s2.heap.objs.size (.lst [])) b:=fun b hb=>by
   obtain⟨g0,g1⟩:=fpo b hb;exact⟨by rw[aI (dw (lt2 b hb))];exact g0,g1⟩
  refine jR (wpAny_newFunctionEnv cs.wa (by intro y hy;simp at hy) (fun h₁ hns₁ hsb₁=>?_) cs.kind);dsimp only at hns₁ hsb₁⊢;obtain⟨r3,x3⟩:=at1.hr.grow (o:=.lst []) hf;have al:eX ι1 h1' s2.heap.objs.size:=fun i o ei m z=>by
   obtain⟨u,q,_,_⟩:=at1.hr.there ei m;rw[z,hf] at q;cases q
  rw[D7] at p1;have sz:(s2.heap.push {cls:=.type "list",data:=.seq ([]:List Value).toArray}).objs.size=s2.heap.objs.size+1:=tH _ _;exact Bu (h4:=h₁) hc cs hpg hbd hel hts I3 bV hf x3 (at1.later x3 r3) al (fd.later (x3.keeps at1.hr)) p1 T (T.keep 0 _ _ tn0 fun b _ o e=>bZ _ e) f3 (fun b hb=>by
    show b<(s2.heap.push _).objs.size;rw[sz];exact Nat.lt_succ_of_lt (lt2 b hb)) hns₁
   (fun b o e=>hsb₁.extBut b o (dw (bJ e)) (bZ _ e)) (hR _ _ fp _ I3 f3)
def Ky(hc:X.calm=true)(cs:gP X.N X.env.scope x scope)(hpg:∀C s H pins fp,PG (br X scope C x s H pins fp) tg g)(hbd:oO (zx X E) X.N.length x.length g un)(hi:PI X tg iter (tI (zx X E) dit))(hs:∀v,foldedSetIterable iter X.env v=pure v)
  (hel:∀C s H pins fp,PE (br X scope C x s H pins fp) elt (tE (zx X E0) de)) (hts:sM X scope x ifs dc):
  PE X (.ListComp elt [⟨tg,iter,ifs,0⟩] scope pos) (tE (zx X E) (vB un dit dc de)):=by
 intro pins s σ H Q I q;rw[eval_ListComp];refine y0 (use:=none) I hc cs hpg hbd hi hs hel hts q fun s3 H3 fp D I3 f3 s1 Hc σ' J q=>?_;obtain⟨mm,hns2,_⟩:=J.loc;exact⟨mm,hns2,fun h' hs'=>⟨.ref D,Hc,ue I3 f3 J hs',rfl,q⟩⟩
def JT(hc:X.calm=true)(cs:gP X.N X.env.scope x scope)(hpg:∀C s H pins fp,PG (br X scope C x s H pins fp) tg g)(hbd:oO (zx X E) X.N.length x.length g un)(hi:PI X tg iter (tI (zx X E) dit))(hs:∀v,foldedSetIterable iter X.env v=pure v)
  (hel:∀C s H pins fp,PE (br X scope C x s H pins fp) elt (tE (zx X E0) de)) (hts:sM X scope x ifs dc) (hN:X.N.Nodup) (hy:X.N[i]?=some y) (hl:X.env.scope.names.lookup y=some .local)
  (hsw:swapsWith (.ListComp elt [⟨tg,iter,ifs,0⟩] scope pos) (some (.Name y py)) spos.line X.env=pure true):
  PS X (.Assign [.Name y py] (.ListComp elt [⟨tg,iter,ifs,0⟩] scope pos) spos) (cW (zx X E) fun ρ h=>(vB un dit dc de ρ h).bind fun w h=>.ok (.next (ρ.set i (some w))) h):=by
 intro pins s σ H D I ⟨ρ,h,ι,at',p⟩;rw[exec_Assign_Name_used _ _ _ _ hsw];refine ag (rm (ag ?_));show wpAny _ _ (do let _ <-comprehension (.ListComp elt [⟨tg,iter,ifs,0⟩] scope pos) scope X.env (firstIterPos [⟨tg,iter,ifs,0⟩] pos) (newList []) false (eval iter X.env) (some (assign (.Name y py) X.env))) _ _ s;refine ag (aB (y0 (use:=some (assign (.Name y py) X.env)) (QQ:=fun _ s'=>SP X pins D .next s') (Q:=fun v H1=>D.nx (σ.set i (some v)) H1) I hc cs hpg hbd hi hs hel hts ⟨ρ,h,ι,at',(eY at' p).mono fun v H1 Z=>Z.g6 fun w h1 ι1 at1 e1 r1 p1=>p1.next (at1.set r1 i)⟩ fun s3 H3 fp A I3 f3 s1 Hc σ' J q=>?_) fun _ s' hq=>aG (aG hq));have I1:Inv X pins σ Hc s1:=ue I3 f3 J (Heap.SameBut.refl _ _);have hC:gO X pins Hc s3.heap.objs.size:=I3.xY (aA _) J.free;obtain⟨mm,⟨o,es,ep,ho,hr⟩,_⟩:=J.loc;have I2:Inv X (pins++ki [s3.heap.objs.size] s1.heap) σ Hc s1:=I1.pinned (fun b hb=>by
   rw[jH] at hb;subst hb;exact hC) fun b hb=>by
  rw[jH] at hb;subst hb;exact⟨o,ho,fun v z=>by rw[hr.1] at z;cases z⟩
 refine aB ((sS (i:=i) (pos:=py) hN hy (.inl hl) (.inr hl):PG X (.Name y py) (gZ i)) _ s1 σ Hc (.ref A) (.ref A) (fun σ2 H2=>σ2=σ.set i (some (.ref A))/\H2=Hc) I2 rfl ⟨rfl,rfl⟩) fun _ s2 Z=>Z.g4 fun σ2 H2 J2 e1 e2=>?_;subst e1 e2;have ho2:s2.heap.get? s3.heap.objs.size=some o:=(J2.pin (_,o) (fL _ (fL _ (iQ (jH.mpr rfl) ho)))).1;refine⟨mm,⟨o,es,ep,ho2,hr⟩,fun h' hs'=>?_⟩;have J3:=J2.kq;have nm:∀{b:Addr},b∉ [s3.heap.objs.size]->b≠s3.heap.objs.size:=fun hb z=>hb (jH.mpr z);have hf2:H2 s3.heap.objs.size=none:=hC.1;have u:Un (bu X.stack) [s3.heap.objs.size] H2 H2 s2.heap h':=
  ⟨fun b o e _ _ h2=>hs'.extBut b o (nm h2) e,fun b o e _ _ h2=>⟨o.slots,hs'.extBut b o (nm h2) e⟩,fun b o _ n _=>n,fun b o e h2=>⟨o,hs'.extBut b o (nm h2) e⟩,fun _ _ q=>q,fun _ _ _ q=>q,fun _ ps q=>⟨#[],by rw[q];simp⟩⟩
 have av:dN X.prog X.w H2 h':=fun b v e=>by
  refine (J3.av b v e).gb (fun c w hc q=>hs'.extBut c w ?_ q) (fun _ q=>q) fun _ _ q=>q;rcases hc with z|z
  .rw[z];intro z';rw[z',hf2] at e;cases e
  .intro z';rw[z',hf2] at z;cases z
 have fin:=J3.call (h':=h') (g':=s2.gens) (d':=s2.drawn) (t':=s2.toks) (ch:=[s3.heap.objs.size]) u av J3.bare fun b hb=>by
  rw[jH] at hb;subst hb;exact⟨hC.2.2.2.1,hC.2.1,hC.2.2.2.2.1,hC.2.2.2.2.2⟩
 exact⟨_,_,fin,q⟩
end
abbrev DE:=Tw.Env->Tw.Hp->Tw.R Tw.W
noncomputable def CV:List (DE×DE)->Tw.Env->Tw.Hp->Tw.R (List Tw.W)
 |[],_,h=>.ok [] h
 |(dk,dv)::r,ρ,h=>(dk ρ h).bind fun x h=>(dv ρ h).bind fun y h=>(CV r ρ h).bind fun xs h=>.ok (x::y::xs) h
section
variable {K:Zk}
end
def Qt(prs:List (DE×DE)):DE:=fun ρ h=>(CV prs ρ h).bind fun xs h=>match Tw.uZ xs [] with
 |some kvs=>Tw.new (.fD kvs) h
 |none=>.bad
def tk(src:Tw.Src)(t:Tw.Tg)(k:Tw.Env->Tw.Hp->Tw.R Tw.Fl)(i m:Nat)(ρ:Tw.Env)(h:Tw.Hp):Tw.R Tw.Fl:=match src with
 |.fix ws=>Tw.ku t k (ws.drop i) ρ h
 |.at a _=>Tw.fZ a t k m i ρ h
 |.rv a _=>Tw.fT a t k m ρ h
def Ek(src:Tw.Src)(t:Tw.Tg)(k:Tw.Env->Tw.Hp->Tw.R Tw.Fl)(ρ:Tw.Env)(h:Tw.Hp):Tw.turns src t k ρ h=tk src t k 0 (kI src) ρ h:=by cases src<;>rfl
def Hg{k:Tw.Env->Tw.Hp->Tw.R Tw.Fl}(hm:cnt src i m):
  tk src t k i m ρ h=.bad\/(nextOf src i h=some none/\tk src t k i m ρ h=.ok (.next ρ) h)\/∃w m',nextOf src i h=some (some w)/\m=m'+1/\tk src t k i m ρ h=Tw.turn t k w ρ h fun ρ h=>tk src t k (i+1) m' ρ h:=by
 cases src with
 |fix ws=>
  have hm:m=ws.length-i:=hm;cases hw:ws[i]? with
  |none=>
   have hl:=Ab.mp hw;refine .inr (.inl ⟨by simp[nextOf,hw],?_⟩);show Tw.ku t k (ws.drop i) ρ h=_;rw[List.drop_eq_nil_of_le hl];rfl
  |some w=>
   have hl:=(fV.mp hw).1;refine .inr (.inr ⟨w,ws.length-(i+1),by simp[nextOf,hw],by lia,?_⟩);show Tw.ku t k (ws.drop i) ρ h=_;rw[yI hw];rfl
 |rv a n=>
  have hm:m=n-i:=hm;cases m with
  |zero=>exact .inr (.inl ⟨by simp[nextOf];lia,rfl⟩)
  |succ m=>
   have hi:i<n:=by lia
   have em:n-1-i=m:=by lia
   cases e:Tw.eC h a with
   |none=>refine .inl ?_;show Tw.fT a t k (m+1) ρ h=_;unfold Tw.fT;rw[e]
   |some ws=>
    cases hw:ws[m]? with
    |none=>refine .inl ?_;show Tw.fT a t k (m+1) ρ h=_;unfold Tw.fT;simp only[e,hw]
    |some w=>
     refine .inr (.inr ⟨w,m,by simp[nextOf,e,hi,em,hw],rfl,?_⟩);show Tw.fT a t k (m+1) ρ h=_
     conv=>lhs;unfold Tw.fT
     simp only[e,hw];rfl
 | «at» a n=>
  cases e:Tw.eC h a with
  |none=>refine .inl ?_;show Tw.fZ a t k m i ρ h=_;unfold Tw.fZ;rw[e]
  |some ws=>
   cases hw:ws[i]? with
   |none=>refine .inr (.inl ⟨by simp[nextOf,e,hw],?_⟩);show Tw.fZ a t k m i ρ h=_;unfold Tw.fZ;simp only[e,hw]
   |some w=>
    cases m with
    |zero=>refine .inl ?_;show Tw.fZ a t k 0 i ρ h=_;unfold Tw.fZ;simp only[e,hw]
    |succ m=>
     refine .inr (.inr ⟨w,m,by simp[nextOf,e,hw],rfl,?_⟩);show Tw.fZ a t k (m+1) i ρ h=_
     conv=>lhs;unfold Tw.fZ
     simp only[e,hw];rfl
def Dt{dit:Tw.Env->Tw.Hp->Tw.R Tw.Src}{tb:Tw.Env->Tw.Hp->Tw.R Tw.Fl}(hp:PassesOwn (model X.prog X.w) X.A X.env X.xe)(hc:X.calm=true)(hi:PI X tg iter (tI (zx X E) dit))(hg:PG X tg g)(ht:AR (zx X E) t g)
  (hb:dS X body (cW (zx X E) tb)) (hs:∀x,foldedSetIterable iter X.env x=pure x):
  PS X (.For tg iter body [] pos) (cW (zx X E) fun ρ h=>(dit ρ h).bind fun s h=>Tw.turns s t tb ρ h):=by
 refine PS.imp (JG hp hc hi hg hb hs) fun D σ H ⟨ρ,h,ι,at',p⟩=>⟨ρ,h,ι,at',(eY at' p).mono fun J H1 ⟨src,h1,ι1,at1,e1,fd,p1⟩=>?_⟩;rw[Ek] at p1;refine⟨fun i m σ' H'=>∃ρ h ι,At (zx X E) ι h H' ρ σ'/\gk X.K J src ι h.length H'/\cnt src i m/\bM (zx X E) ι h H' (tk src t tb i m ρ h) D,⟨kI src,ρ,h1,ι1,at1,fd,um src,p1⟩,?_⟩
 rintro i m σ2 H2 ⟨ρ2,h2,ι2,at2,fd2,hm,p2⟩
 rcases Hg (t:=t) (k:=tb) (ρ:=ρ2) (h:=h2) hm with e|⟨e1,e⟩|⟨w,m',e1,rfl,e⟩
 .rw[e] at p2;exact p2.elim
 .rw[e] at p2;rcases j6 at2.hr fd2 i with q|⟨st,q⟩|⟨w,q,_⟩
  .rw[e1] at q;cases q
  .exact .inl ⟨st,p2.next at2⟩
  .rw[e1] at q;cases q
 .rw[e,Tw.turn] at p2;rcases j6 at2.hr fd2 i with q|⟨st,q⟩|⟨w',q,go,hy⟩
  .rw[e1] at q;cases q
  .rw[e1] at q;cases q
  .rw[e1] at q;cases q;refine .inr ⟨go,fun σ' H'=>∃ρ h ι,At (zx X E) ι h H' ρ σ'/\gk X.K J src ι h.length H'/\cnt src (i+1) m'/\bM (zx X E) ι h H' (tk src t tb (i+1) m' ρ h) D,fun σ' H' q=>⟨m',xP _,q⟩,fun x H' hx=>?_⟩;obtain⟨ry,xy,rv⟩:=hy x H' hx;have aty:=at2.later xy ry;cases es:Tw.qW t w ρ2 with
   |none=>rw[es] at p2;exact p2.elim
   |some ρ3=>
    rw[es] at p2;dsimp only at p2;exact ht ι2 h2 _ ρ2 ρ3 σ2 w x _ aty rv es fun σ3 at3=>⟨ρ3,h2,ι2,at3,uE (bM.later p2 xy) fun ρ4 h4 ι4 H4 σ4 e4 at4 p4=>⟨ρ4,h4,ι4,at4,fd2.later ((xy.trans e4).keeps at2.hr),wg hm,p4⟩⟩
section
variable {X:Cx}{E:XK}{a b:Expr}{p pos p1:Pos}{es:List Expr}{n:Nat}{da db:Tw.Env->Tw.Hp->Tw.R Tw.W}
def Nx(hgl:Gl X "reversed")(hm:X.mg "reversed"=none)(ha:PE X a (tE (zx X E) da))(bH:starEach [a] X.env=[(false,eval a X.env)]):
  PI X tg (.Call (.Name "reversed" p) [a] [] pos) (tI (zx X E) fun ρ h=>(da ρ h).bind fun x h=>match x with
   |.tup xs=>.ok (.fix xs.reverse) h
   |.ref a=>match h[a]? with
    |some (.lst xs)=>.ok (.rv a xs.length) h
    |_=>.bad
   |_=>.bad):=by
 refine PI.imp (Oa hgl hm (bO ha dD bH) bH) fun σ H R ⟨ρ,h,ι,at',p⟩=>?_;refine⟨ρ,h,ι,at',(step at' p).mono fun x H1 ⟨w,h1,ι1,at1,e1,r1,p1⟩=>?_⟩;cases r1 with
 | @tup ad xs ws ea ra=>
  exact⟨_,xs,rfl,.inr ⟨TupAt.sq ea,ao.self (a:=Tw.Src.fix ws.reverse) p1 at1.hr (.inr (.inr (.inr (.inl ⟨ad,xs,ws,rfl,rfl,ea,ra⟩))))⟩⟩
 | @ref i hi=>
  dsimp only at p1;cases ei:h1[i]? with
  |none=>rw[ei] at p1;exact p1.elim
  |some o=>
   rw[ei] at p1;cases o with
   |lst ws=>
    obtain⟨xs,q1,q2⟩:=at1.hr.lst ei;refine⟨_,xs,rfl,.inl ⟨cq.of q1,?_⟩⟩;rw[<-q2.length];exact ao.self (a:=Tw.Src.rv i ws.length) p1 at1.hr (.inr (.inr (.inr (.inr ⟨i,_,_,rfl,rfl,rfl,hi⟩))))
   |_=>exact p1.elim
 |_=>exact p1.elim
end
noncomputable def ax:Expr->Bool
 |.Name .. => true | .Constant .. => true | .Tuple .. => true | .List .. => true | .Dict .. => true | .BinOp .. => true | .Compare .. => true | .BoolOp .. => true
 |.UnaryOp .. => true | .IfExp .. => true | .Subscript .. => true | .Call .. => true | .Attribute .. => true | .ListComp .. => true
 |_=>false
noncomputable def pB:Expr->Bool
 |.ListComp .. => true
 |_=>false
noncomputable def mO:Expr->Bool
 |.Call (.Name _ _) [] [] _=>false
 |_=>true
noncomputable def FN:Expr->Bool
 |.UnaryOp .Not _ _=>false | .BoolOp .. => false | .IfExp .. => false | .Compare .. => false
 |_=>true
section
variable {a b:Expr}{es:List Expr}{env:Env}
def a9(h:ax a=true):starEach (a::es) env=(false,eval a env)::starEach es env:=by cases a<;>first|rfl|cases h
def wH(h:ax b=true):pM b:=by cases b<;>first|(intro _ _;rfl)|cases h
def yc(o:CmpOp)(h:ax b=true):behindInMarks o b=false:=by cases b<;>first|rfl|cases h
def iJ(h:ax b=true):∀x,foldedSetIterable b env x=pure x:=by cases b<;>first|(intro _;rfl)|cases h
def js(h:ax a=true)(hn:pB a=false):swapsWith a t l env=pure false:=by cases a<;>first|rfl|exact absurd (show false=true from h) kx|exact absurd (show false=true from hn) kx|exact absurd (show true=false from hn) (by decide)
def jX(h:ax a=true)(hn:mO a=true):attributeBase a m env (eval a env)=eval a env:=by
 cases a with
 |Call f as ks p=>
  cases f with
  |Name x q=>
   cases as with
   |nil=>
    cases ks with
    |nil=>cases hn
    |cons _ _=>rfl
   |cons _ _=>rfl
  |_=>rfl
 |_=>first|rfl|cases h
def CF(h:ax a=true)(hn:FN a=true)(whole:Sem Value):isTrue a env whole=(do let v <-whole;standAt a.pos;holding [v] (truthy v)):=by
 cases a with
 |UnaryOp o x p=>
  cases o with
  |Not=>cases hn
  |_=>rfl
 |_=>first|rfl|exact absurd (show false=true from h) kx|exact absurd (show false=true from hn) kx|exact absurd (show true=false from hn) (by decide)
end
noncomputable abbrev Sc:=List (Str×NameKind)
def sW(sc:Sc)(x:Str):Bool:=match sc.lookup x with
 |some .local=>true|some .cell=>true|some .free=>true
 |_=>false
def fe(sc:Sc)(x:Str):Bool:=match sc.lookup x with
 |some .local=>true|some .cell=>true
 |_=>false
def FH(sc:Sc)(x:Str):Bool:=match sc.lookup x with
 |some .cell=>true|some .free=>true
 |_=>false
def fO(sc:Sc)(x:Str):Bool:=match sc.lookup x with
 |some .globalImplicit=>true
 |_=>false
structure dW(sc:Sc)(N:List Str)(X:Cx):Prop where
 n:X.N=N
 kind:X.env.scope.kind=.function
 lR:∀x,sW sc x=true->oE X.env.scope x
 gl:∀x,fO sc x=true->Gl X x
 cf:∀x,FH sc x=true->X.env.scope.names.lookup x=some .cell\/X.env.scope.names.lookup x=some .free
theorem mK{scope:Scope}{env:Env}{y:Str}{k:NameKind}:∀{names:List (Str×NameKind)},names.lookup y=some k->
  (names.map fun (n,k)=>if (k== NameKind.free&&env.scope.kind== .function&&env.kindOf n== some .cell) then (n,NameKind.cell) else (n,k)).lookup y=some k\/
  (k=.free/\(names.map fun (n,k)=>if (k== NameKind.free&&env.scope.kind== .function&&env.kindOf n== some .cell) then (n,NameKind.cell) else (n,k)).lookup y=some .cell)
 |[],h=>by simp at h
 |(n,j)::r,h=>by
  rw[dE] at h;by_cases hy:(y== n)=true
  .simp only[hy] at h;cases h;rw[fJ];dsimp only;by_cases hc:(k== NameKind.free&&env.scope.kind== .function&&env.kindOf n== some .cell)=true
   .refine .inr ⟨?_,?_⟩
    .simp only[aq,iK] at hc;exact hc.1.1
    .rw[if_pos hc,dE];simp only[hy]
   .refine .inl ?_;rw[if_neg hc,dE];simp only[hy]
  .rw[yq] at hy;simp only[hy] at h;rw[fJ];dsimp only;have ih:=mK (scope:=scope) (env:=env) h;by_cases hc:(j== NameKind.free&&env.scope.kind== .function&&env.kindOf n== some .cell)=true
   .rw[if_pos hc,dE];simp only[hy];exact ih
   .rw[if_neg hc,dE];simp only[hy];exact ih
def kS{scope:Scope}{env:Env}{y:Str}{k:NameKind}(h:scope.names.lookup y=some k):(relabel scope env).names.lookup y=some k\/(k=.free/\(relabel scope env).names.lookup y=some .cell):=
 mK (scope:=scope) h
def dW.comp(hk:scope.kind=.function):
  dW scope.names (c9 X.N x) (br X scope C x s H pins fp) where
 n:=rfl
 kind:=hk
 lR:=fun y hy=>by
  show oE (relabel scope X.env) y;unfold sW at hy;cases e:scope.names.lookup y with
  |none=>rw[e] at hy;cases hy
  |some k=>
   rcases kS (env:=X.env) e with q|⟨_,q⟩
   .rw[e] at hy;cases k with
    | «local» => exact .inl q
    |cell=>exact .inr (.inl q)
    |free=>exact .inr (.inr q)
    |_=>cases hy
   .exact .inr (.inl q)
 gl:=fun y hy=>by
  show (relabel scope X.env).names.lookup y=some .globalImplicit;unfold fO at hy;cases e:scope.names.lookup y with
  |none=>rw[e] at hy;cases hy
  |some k=>
   rw[e] at hy;cases k with
   |globalImplicit=>
    rcases kS (env:=X.env) e with q|⟨q,_⟩
    .exact q
    .cases q
   |_=>cases hy
 cf:=fun y hy=>by
  show (relabel scope X.env).names.lookup y=some .cell\/(relabel scope X.env).names.lookup y=some .free;unfold FH at hy;cases e:scope.names.lookup y with
  |none=>rw[e] at hy;cases hy
  |some k=>
   rw[e] at hy;rcases kS (env:=X.env) e with q|⟨_,q⟩
   .cases k with
    |cell=>exact .inl q
    |free=>exact .inr q
    |_=>cases hy
   .exact .inl q
noncomputable def Ac(N:List Str)(sc:Sc)(x:List Str)(scope:Scope):Bool:=
 decide (scope.kind=.function)&&scope.names.all (fun y=>(match y.2 with
  |.cell=>false
  |.local=>(match scope.names.lookup y.1 with|some .local=>true|_=>false)&&(x.contains y.1 || !(N.contains y.1))
  |.free=>FH sc y.1
  |_=>true)&&!(y.1== ("":Str)))&&x.all (fun y=>match scope.names.lookup y with|some .local=>true|_=>false)
def BG(S:dW sc N X)(h:Ac N sc x scope=true):gP X.N X.env.scope x scope:=by
 unfold Ac at h;simp only[aq,az,kE] at h;obtain⟨⟨h1,h2⟩,h3⟩:=h;have iW:∀y∈x,scope.names.lookup y=some .local:=fun y hy=>by
  have h3:=h3 y hy;cases e:scope.names.lookup y with
  |none=>rw[e] at h3;cases h3
  |some k=>rw[e] at h3;cases k<;>first|rfl|cases h3
 refine⟨h1,S.kind,fun y hy z=>?_,fun y hy z=>?_,iW,fun y k e z hN=>?_,fun y hy z=>?_,?_⟩
 .obtain⟨q,_⟩:=h2 y hy;rw[z] at q;cases q
 .obtain⟨q,_⟩:=h2 y hy;rw[z] at q;simp only[aq] at q;cases e:scope.names.lookup y.1 with
  |none=>rw[e] at q;cases q.1
  |some k=>rw[e] at q;cases k<;>first|rfl|cases q.1
 .subst z;obtain⟨q,_⟩:=h2 (y,.local) (iD e);simp only[aq,vw,iT] at q;rcases q.2 with q|q
  .rw[zM] at q;simpa using q
  .rw[S.n] at hN;rw[zM] at q;exact absurd hN (by simpa using q)
 .obtain⟨q,_⟩:=h2 y hy;rw[z] at q;exact S.cf _ q
 .cases e:scope.names.lookup ("":Str) with
  |none=>rfl
  |some k=>
   obtain⟨_,q⟩:=h2 ("",k) (iD e);simp at q
def str_inj{x y:Tw.S}:((⟨x.toArray⟩:Str)=⟨y.toArray⟩)↔x=y:=by
 constructor
 .intro h;have:=dg (fun s:Str=>s.cps.toList) h;simpa using this
 .intro h;rw[h]
section
variable {K:W.Frag}{ι:Nat->Addr}{n:Nat}{H:L2.Hp}
def str_beq(x y:Tw.S):((⟨x.toArray⟩:Str)== ⟨y.toArray⟩)=(x== y):=by
 by_cases h:x=y
 .subst h;simp
 .rw[j2.mpr h];exact j2.mpr fun z=>h (str_inj.mp z)
theorem RF.look:∀{fs:List (Tw.S×Tw.W)}{gs:List (Str×V)},RF K ι n H fs gs->(fs.lookup x=none/\gs.lookup ⟨x.toArray⟩=none)\/∃w v,fs.lookup x=some w/\gs.lookup ⟨x.toArray⟩=some v/\RW K ι n H w v
 |_,_,.nil=>.inl ⟨rfl,rfl⟩
 |_,_,.cons (x:=y) (w:=w) (v:=v) a r=>by
  rw[dE,dE,str_beq];cases e:x== y with
  |true=>exact .inr ⟨w,v,rfl,rfl,a⟩
  |false=>exact RF.look r
theorem RF.put(a:RW K ι n H w v):∀{fs:List (Tw.S×Tw.W)}{gs:List (Str×V)},RF K ι n H fs gs->RF K ι n H (Tw.jW x w fs) (fh ⟨x.toArray⟩ v gs)
 |_,_,.nil=>.cons a .nil
 |_,_,.cons (x:=y) b r=>by
  unfold Tw.jW L2.fh;by_cases e:y=x
  .subst e;rw[if_pos rfl,if_pos rfl];exact .cons a r
  .rw[if_neg e,if_neg (fun z=>e (str_inj.mp z))];exact .cons b (RF.put a r)
end
theorem hZ:∀{ys:List Expr},ys.all ax=true->starEach ys env=ys.map fun y=>(false,eval y env)
 |[],_=>rfl
 |y::r,h=>by
  rw[km,aq] at h;rw[a9 h.1,hZ h.2,fJ]
section
variable {X:Cx}{E:XK}{a b c o e f:Expr}{pos apos cpos pos':Pos}{da db dc dv:Tw.Env->Tw.Hp->Tw.R Tw.W}
def HR.ins{K:Zk}{ι:Nat->Addr}{h:Tw.Hp}{H:L2.Hp}(r:HR K ι h H){i:Nat}{c:Tw.S}{fs:List (Tw.S×Tw.W)}(e:h[i]?=some (.ins c fs)):
  ∃C dx gs,(K.mg ⟨c.toArray⟩=some (.ref C)/\GoodC K.K C)/\H (ι i)=some (.ins C dx gs)/\RF K.K ι h.length H fs gs:=r.obj i _ e
def OG{x:Tw.S}(hx:(⟨x.toArray⟩:Str)∈zw)(hb:attributeBase a ⟨x.toArray⟩ X.env (eval a X.env)=eval a X.env)(ha:PE X a (tE (zx X E) da)):
  PE X (.Attribute a ⟨x.toArray⟩ pos) (tE (zx X E) fun ρ h=>(da ρ h).bind fun w h=>Tw.R.of (Tw.field w x h) h):=by
 refine PE.imp (KO ha hb) fun σ H Q Z=>Z.k3 fun ρ h ι at' p=>⟨ρ,h,ι,at',(step at' p).mono fun v H1 Z=>Z.k4 fun w h1 ι1 at1 e1 r1 p1=>?_⟩;cases r1 with
 | @ref i hi=>
  cases ei:h1[i]? with
  |none=>simp only[Tw.field,ei] at p1;exact p1.elim
  |some ob=>
   cases ob with
   |ins c fs=>
    simp only[Tw.field,ei] at p1;obtain⟨C,dx,gs,⟨_,gc⟩,q1,q2⟩:=at1.hr.ins ei;rcases q2.look (x:=x) with ⟨z,_⟩|⟨u,v,z1,z2,z3⟩
    .rw[z] at p1;exact p1.elim
    .rw[z1] at p1;exact⟨_,C,dx,gs,v,rfl,q1,gc.cls,gc.no _ hx,z2,ao.self (a:=u) p1 at1.hr z3⟩
   |_=>simp only[Tw.field,ei] at p1;exact p1.elim
 |_=>exact p1.elim
def IZ{x:Tw.S}(hx:(⟨x.toArray⟩:Str)∈zw)(hv:PE X b (tE (zx X E) dv))(ho:PE X o (tE (zx X E) da))(hs:swapsWith b (some (.Attribute o ⟨x.toArray⟩ pos')) pos.line X.env=pure false):
  PS X (.Assign [.Attribute o ⟨x.toArray⟩ pos'] b pos) (cW (zx X E) fun ρ h=>(dv ρ h).bind fun v h=>(da ρ h).bind fun w h=>(Tw.putField w x v h).bind fun _ h=>.ok (.next ρ) h):=by
 refine PS.imp (KU ho hv hs) fun D σ H Z=>Z.k3 fun ρ h ι at' p=>⟨ρ,h,ι,at',(eY at' p).mono fun y H1 Z=>Z.k4 fun wy h1 ι1 at1 e1 r1 p1=>⟨ρ,h1,ι1,at1,(eY at1 p1).mono fun z H2 Z=>Z.k4 fun w h2 ι2 at2 e2 r2 p2=>?_⟩⟩;cases r2 with
 | @ref i hi=>
  cases ei:h2[i]? with
  |none=>simp only[Tw.putField,ei] at p2;exact p2.elim
  |some ob=>
   cases ob with
   |ins c fs=>
    simp only[Tw.putField,ei] at p2;obtain⟨C,dx,gs,⟨mc,gc⟩,q1,q2⟩:=at2.hr.ins ei;by_cases cc:fs.length<1000
    .rw[if_pos cc] at p2;refine⟨_,C,dx,gs,rfl,q1,gc.cls,gc.no _ hx,by rw[<-q2.length];exact cc,?_⟩;have ry:=r1.keep (e2.keeps at1.hr);obtain⟨hr',ex⟩:=at2.hr.put (o:=.ins C dx (fh ⟨x.toArray⟩ y gs)) (u:=.ins c (Tw.jW x wy fs)) ei rfl rfl (fun _ z=>nomatch z) fun H' kp z=>⟨C,dx,_,⟨mc,gc⟩,z,((q2.keep kp).put (ry.keep kp))⟩;exact p2 ι2 _ σ ex (at2.later ex hr')
    .rw[if_neg cc] at p2;exact p2.elim
   |_=>simp only[Tw.putField,ei] at p2;exact p2.elim
 |_=>exact p2.elim
def zK{F:List Tw.W->Tw.Hp->Tw.R Tw.W}(hm:X.mg ⟨cn.toArray⟩=some (.ref C))(gc:GoodC X.K C){ι1:Nat->Addr}(r:HR (zx X E) ι1 h1 H1)(rs:aS X.K ι1 h1.length H1 ws vs)
  (p:ao (zx X E) RE ι1 h1 H1 ((F (.ref h1.length::ws) (h1++[.ins cn []])).bind fun r h'=>match r with
   |.ah=>.ok (.ref h1.length) h'
   |_=>.bad) Q) (x dx:Addr) (hx:H1 x=none) (hdx:H1 dx=none) (ne:dx≠x):
  cO X.K X.mg X.cl F (.ref x::(vs++[])) (upd (upd H1 dx (.own x)) x (.ins C dx [])) (fun v H2=>v=.ah/\Q (.ref x) H2) E:=by
 obtain⟨r2,x2⟩:=r.grow (o:=.own x) hdx;have hx2:upd H1 dx (.own x) x=none:=by rw[aI ne.symm];exact hx
 obtain⟨r3,x3⟩:=r2.new (o:=.ins C dx []) (u:=.ins cn []) hx2 rfl fun ι' n' H' kp z=>⟨C,dx,[],⟨hm,gc⟩,z,.nil⟩;have x23:=x2.trans x3;have p':=ao.later p x23;refine⟨.ref h1.length::ws,_,_,r3,.cons ?_ (by rw[fK];exact rs.keep (x23.keeps r)),?_⟩
 .have z:RW X.K (cZ ι1 h1.length x) (h1++[Tw.O.ins cn []]).length (upd (upd H1 dx (.own x)) x (.ins C dx [])) (.ref h1.length) (.ref (cZ ι1 h1.length x h1.length)):=.ref (by simp);rw[cy] at z;exact z
 .cases e:F (.ref h1.length::ws) (h1++[.ins cn []]) with
  |bad=>rw[e] at p';exact p'.elim
  |aw a h'=>rw[e] at p';exact p'
  |ok u h2=>
   rw[e] at p';simp only[Tw.R.aZ] at p';cases u with
   |ah=>
    intro ι4 H4 b e4 r4 rb;cases rb;refine⟨rfl,?_⟩;have hl:h1.length<(h1++[Tw.O.ins cn []]).length:=by simp
    have z:RW X.K ι4 h2.length H4 (.ref h1.length) (.ref (ι4 h1.length)):=.ref (bY hl e4.len);rw[e4.same _ hl,cy] at z;exact p' ι4 H4 _ e4 r4 z
   |_=>exact p'.elim
def RX{F:List Tw.W->Tw.Hp->Tw.R Tw.W}{ds:Tw.Env->Tw.Hp->Tw.R (List Tw.W)}(M:Mk X.K C g)(gc:GoodC X.K C)
  (G:bR X.prog X.w X.K X.mg X.base CX k g fd ps (cO X.K X.mg X.cl F)) (hx:Passes CX X E) (hr:cM (k+1) X.A) (hg:Gl X ⟨cn.toArray⟩) (hm:X.mg ⟨cn.toArray⟩=some (.ref C)) (hb:Binds X.K fd ps [])
  (hs:PA X es (tA (zx X E) n ds)) (hd:((⟨cn.toArray⟩:Str)== ("__debug__":Str))=false) (hpl:es.all ax=true):
  PE X (.Call (.Name ⟨cn.toArray⟩ p) es [] pos) (tE (zx X E) fun ρ h=>(ds ρ h).bind fun xs h=>(F (.ref h.length::xs) (h++[.ins cn []])).bind fun r h'=>match r with
   |.ah=>.ok (.ref h.length) h'
   |_=>.bad):=by
 cases es with
 |nil=>
  intro pins s σ H Q I ⟨ρ,h,ι,at',p⟩;have z:=hs ⟨0,0,0,0⟩ pins s σ H (fun vs H1=>∀x dx,H1 x=none->H1 dx=none->dx≠x->cO X.K X.mg X.cl F (.ref x::(vs++[])) (upd (upd H1 dx (.own x)) x (.ins C dx [])) (fun v H2=>v=.ah/\Q (.ref x) H2) E) I
   ⟨ρ,h,ι,at',(step at' p).mono fun xs H1 ⟨ws,h1,ι1,at1,e1,r1,p1⟩ x dx q1 q2 q3=>zK hm gc at1.hr r1.1 p1 x dx q1 q2 q3⟩
  refine lj (gu I hg hm ?_ hd);refine W.callWith_K0 I.b9 M.kp ?_;have z:wpAny (model X.prog X.w) X.A (pure []) _ _ s:=z;refine uL (v:=[]) z fun Z=>Z.k2 fun vs H1 I1 r1 q=>?_;cases r1;exact wU (us:=[]) M G hr hb .nil hx I1 .nil q
 |cons e es=>
  refine PE.imp (Hu (dvs:=[]) (ds:=[]) (E:=E) M G hr hg hm hb .nil hx hs hd (a9 (by rw[km,aq] at hpl;exact hpl.1)) ?_) fun σ H Q Z=>Z.k3 fun ρ h ι at' p=>⟨ρ,h,ι,at',(step at' p).mono fun xs H1 ⟨ws,h1,ι1,at1,e1,r1,p1⟩ x dx q1 q2 q3=>zK hm gc at1.hr r1.1 p1 x dx q1 q2 q3⟩;rw[hZ (by rw[km,aq] at hpl;exact hpl.2)];simp[backTo]
def De(hb:attributeBase o m env (eval o env)=eval o env)
  (hf:methodCallForm (es.length+([]:List Keyword).length) (backTo pos (starEach es env)) (backToKw pos (keywordEach [] env))=true) (hl:(apos.endLine== pos.line)=true):
  eval (.Call (.Attribute o m apos) es [] pos) env=(do
   let ov <-eval o env
   standAt apos.atName
   let (f,first) <-holding [ov] (getMethod ov m (do return (<-importBound o env).getD true))
   callWith pos f first (backTo pos (starEach es env)) (backToKw pos (keywordEach [] env))):=by
 rw[arm_eval_Call,hb];unfold methodCall calleeOf methodCallPos;rw[hf,hl];rfl
def N8{CX:fP}{k n:Nat}{C g:Addr}{fd:FuncData}{ps:List Str}{F:List Tw.W->Tw.Hp->Tw.R Tw.W}{cn m:Tw.S}{es:List Expr}{ds:Tw.Env->Tw.Hp->Tw.R (List Tw.W)}(hme:Meth X.K C ⟨m.toArray⟩ g)
  (G:bR X.prog X.w X.K X.mg X.base CX k g fd ps (cO X.K X.mg X.cl F)) (hx:Passes CX X E) (hr:cM k X.A) (hm:X.mg ⟨cn.toArray⟩=some (.ref C)) (gc:GoodC X.K C) (hb:Binds X.K fd ps [])
  (ho:PE X o (tE (zx X E) da)) (hs:PA X es (tA (zx X E) n ds)) (me:Me X o ⟨m.toArray⟩ apos es cpos) (hpl:es.all ax=true):
  PE X (.Call (.Attribute o ⟨m.toArray⟩ apos) es [] cpos) (tE (zx X E) fun ρ h=>(da ρ h).bind fun x h=>if Tw.jq x cn m h then (ds ρ h).bind fun xs h=>F (x::xs) h else .bad):=by
 have fin:∀σ H Q,tE (zx X E) (fun ρ h=>(da ρ h).bind fun x h=>if Tw.jq x cn m h then (ds ρ h).bind fun xs h=>F (x::xs) h else .bad) σ H Q->GD C ⟨m.toArray⟩ (cO X.K X.mg X.cl F) [] E (tE (zx X E) da) (tA (zx X E) n ds) σ H Q:=fun σ H Q Z=>Z.k3 fun ρ h ι at' p=>by
  refine⟨ρ,h,ι,at',(step at' p).mono fun x H1 Z=>Z.k4 fun w h1 ι1 at1 e1 r1 p1=>?_⟩;obtain⟨c1,pp⟩:=ao.ite p1;clear p1;cases r1 with
  | @ref i hi=>
   cases ei:h1[i]? with
   |none=>simp[Tw.jq,ei] at c1
   |some ob=>
    cases ob with
    |ins c' fs=>
     simp only[Tw.jq,ei,aq,az] at c1;obtain⟨rfl,c2⟩:=c1;obtain⟨C',dx,gs,⟨mc,gc'⟩,q1,q2⟩:=at1.hr.ins ei;have ec:C'=C:=by have mc:X.mg ⟨c'.toArray⟩=some (.ref C'):=mc;rw[hm] at mc;cases mc;rfl
     subst ec;refine⟨_,dx,gs,rfl,q1,?_,ρ,h1,ι1,at1,(step at1 pp).mono fun xs H2 Z=>Z.k4 fun ws h2 ι2 at2 e2 r2 p2=>?_⟩
     .rcases q2.look (x:=m) with ⟨_,z⟩|⟨u,v,z,_⟩
      .exact z
      .rw[z] at c2;cases c2
     .rw[fK];exact⟨_,h2,ι2,at2.hr,.cons ((RW.ref hi).keep (e2.keeps at1.hr)) r2.1,p2⟩
    |_=>simp[Tw.jq,ei] at c1
  |_=>cases c1
 have ht:=De (apos:=apos) (pos:=cpos) me.base me.Dl me.line;cases es with
 |nil=>
  intro pins s σ H Q I h;have q:=fin σ H Q h;refine W.methodCall_KW (aB (ho pins s σ H _ I q) fun u s1 Z=>Z.k2 fun x H1 I1 rx Z=>Z.g fun a Z=>Z.g fun dx Z=>Z.g fun fs Z=>Z.g fun ex Z=>Z.g fun ea Z=>Z.g fun l q=>?_) ht;subst ex;obtain rfl:u=Value.ref a:=rx;refine rW I1 ea gc.cls hme l ?_;have z:wpAny (model X.prog X.w) X.A (pure []) _ _ s1:=hs ⟨0,0,0,0⟩ pins s1 σ H1 _ I1 q;refine uL (v:=[]) z fun Z=>Z.k2 fun vs H2 I2 r2 q2=>?_;cases r2;exact W.callWith_K0 (first:=[.ref a]) I2.b9 hme.kp (rB (us:=[.ref a]) (vs:=[.ref a]) G hr hb .nil hx I2 (.cons rfl .nil) q2)
 |cons e es=>
  refine PE.imp (Hr (dvs:=[]) (ds:=[]) (E:=E) ho gc.cls hme G hr hb .nil hx hs (a9 (by rw[km,aq] at hpl;exact hpl.1)) ?_ ht) fin;rw[hZ (by rw[km,aq] at hpl;exact hpl.2)];simp[backTo]
end
noncomputable abbrev ay{α:Type}{p:α->Bool}{x:Option α}(e:x.any p=true):∃a,x=some a/\p a=true:=W.any_some e
def bX{α:Type}{l:List α}(h:l.isEmpty=true):l=[]:=Ap.mp h
def rM{α:Type}{l:List α}(h:l.isEmpty=false):∃x r,l=x::r:=by
 cases l with
 |nil=>cases h
 |cons x r=>exact⟨x,r,rfl⟩
def dv{c:Prop}[Decidable c]{α:Type}{f:c->Option α}{r:α}(h:(if h:c then f h else none)=some r):∃hc,f hc=some r:=by
 by_cases hc:c
 .rw[dif_pos hc] at h;exact⟨hc,h⟩
 .rw[dif_neg hc] at h;cases h
noncomputable def zf(e:Expr)(h:e.ctorIdx=23):Option (Str):=Expr.Name.elim (motive_1:=fun _=>Option (Str)) e h fun x p=>some x
def aR(e:Expr):Option (Str):=if h:e.ctorIdx=23 then zf e h else none
def aM{e:Expr}{r:Str}(h:aR e=some r):∃p,e=.Name r p:=
 let ⟨c,h⟩:=dv h
 Expr.Name.elim (motive_1:=fun e=>∀c,zf e c=some r->∃p,e=.Name r p) e c (fun x p _ h=>by cases h;exact⟨p,rfl⟩) c h
noncomputable def xu(e:Expr)(h:e.ctorIdx=19):Option (Const):=Expr.Constant.elim (motive_1:=fun _=>Option (Const)) e h fun x k p=>some x
def mh(e:Expr):Option (Const):=if h:e.ctorIdx=19 then xu e h else none
def lQ{e:Expr}{r:Const}(h:mh e=some r):∃k p,e=.Constant r k p:=
 let ⟨c,h⟩:=dv h
 Expr.Constant.elim (motive_1:=fun e=>∀c,xu e c=some r->∃k p,e=.Constant r k p) e c (fun x k p _ h=>by cases h;exact⟨k,p,rfl⟩) c h
noncomputable def BW(e:Expr)(h:e.ctorIdx=25):Option (List Expr):=Expr.Tuple.elim (motive_1:=fun _=>Option (List Expr)) e h fun x k p=>some x
def mV(e:Expr):Option (List Expr):=if h:e.ctorIdx=25 then BW e h else none
def ly{e:Expr}{r:List Expr}(h:mV e=some r):∃k p,e=.Tuple r k p:=
 let ⟨c,h⟩:=dv h
 Expr.Tuple.elim (motive_1:=fun e=>∀c,BW e c=some r->∃k p,e=.Tuple r k p) e c (fun x k p _ h=>by cases h;exact⟨k,p,rfl⟩) c h
noncomputable def BQ(e:Expr)(h:e.ctorIdx=24):Option (List Expr):=Expr.List.elim (motive_1:=fun _=>Option (List Expr)) e h fun x p=>some x
def FI(e:Expr):Option (List Expr):=if h:e.ctorIdx=24 then BQ e h else none
def C2{e:Expr}{r:List Expr}(h:FI e=some r):∃p,e=.List r p:=
 let ⟨c,h⟩:=dv h
 Expr.List.elim (motive_1:=fun e=>∀c,BQ e c=some r->∃p,e=.List r p) e c (fun x p _ h=>by cases h;exact⟨p,rfl⟩) c h
noncomputable def zm(e:Expr)(h:e.ctorIdx=6):Option (List (Option Expr)×List Expr):=Expr.Dict.elim (motive_1:=fun _=>Option (List (Option Expr)×List Expr)) e h fun ks vs p=>some (ks,vs)
def CI(e:Expr):Option (List (Option Expr)×List Expr):=if h:e.ctorIdx=6 then zm e h else none
def AY{e:Expr}{r:List (Option Expr)×List Expr}(h:CI e=some r):∃p,e=.Dict r.1 r.2 p:=
 let ⟨c,h⟩:=dv h
 Expr.Dict.elim (motive_1:=fun e=>∀c,zm e c=some r->∃p,e=.Dict r.1 r.2 p) e c (fun ks vs p _ h=>by cases h;exact⟨p,rfl⟩) c h
noncomputable def Ct(e:Expr)(h:e.ctorIdx=2):Option (Expr×Operator×Expr):=Expr.BinOp.elim (motive_1:=fun _=>Option (Expr×Operator×Expr)) e h fun x o y p=>some (x,o,y)
def Fz(e:Expr):Option (Expr×Operator×Expr):=if h:e.ctorIdx=2 then Ct e h else none
def C3{e:Expr}{r:Expr×Operator×Expr}(h:Fz e=some r):∃p,e=.BinOp r.1 r.2.1 r.2.2 p:=
 let ⟨c,h⟩:=dv h
 Expr.BinOp.elim (motive_1:=fun e=>∀c,Ct e c=some r->∃p,e=.BinOp r.1 r.2.1 r.2.2 p) e c (fun x o y p _ h=>by cases h;exact⟨p,rfl⟩) c h
noncomputable def CC(e:Expr)(h:e.ctorIdx=15):Option (Expr×List CmpOp×List Expr):=Expr.Compare.elim (motive_1:=fun _=>Option (Expr×List CmpOp×List Expr)) e h fun x os ys p=>some (x,os,ys)
def zY(e:Expr):Option (Expr×List CmpOp×List Expr):=if h:e.ctorIdx=15 then CC e h else none
def uH{e:Expr}{r:Expr×List CmpOp×List Expr}(h:zY e=some r):∃p,e=.Compare r.1 r.2.1 r.2.2 p:=
 let ⟨c,h⟩:=dv h
 Expr.Compare.elim (motive_1:=fun e=>∀c,CC e c=some r->∃p,e=.Compare r.1 r.2.1 r.2.2 p) e c (fun x os ys p _ h=>by cases h;exact⟨p,rfl⟩) c h
noncomputable def yE(e:Expr)(h:e.ctorIdx=0):Option (BoolOp×List Expr×Pos):=Expr.BoolOp.elim (motive_1:=fun _=>Option (BoolOp×List Expr×Pos)) e h fun o xs p=>some (o,xs,p)
def vy(e:Expr):Option (BoolOp×List Expr×Pos):=if h:e.ctorIdx=0 then yE e h else none
def rL{e:Expr}{r:BoolOp×List Expr×Pos}(h:vy e=some r):e=.BoolOp r.1 r.2.1 r.2.2:=
 let ⟨c,h⟩:=dv h
 Expr.BoolOp.elim (motive_1:=fun e=>∀c,yE e c=some r->e=.BoolOp r.1 r.2.1 r.2.2) e c (fun o xs p _ h=>by cases h;exact rfl) c h
noncomputable def GH(e:Expr)(h:e.ctorIdx=3):Option (UnaryOp×Expr):=Expr.UnaryOp.elim (motive_1:=fun _=>Option (UnaryOp×Expr)) e h fun o x p=>some (o,x)
def Lj(e:Expr):Option (UnaryOp×Expr):=if h:e.ctorIdx=3 then GH e h else none
def EO{e:Expr}{r:UnaryOp×Expr}(h:Lj e=some r):∃p,e=.UnaryOp r.1 r.2 p:=
 let ⟨c,h⟩:=dv h
 Expr.UnaryOp.elim (motive_1:=fun e=>∀c,GH e c=some r->∃p,e=.UnaryOp r.1 r.2 p) e c (fun o x p _ h=>by cases h;exact⟨p,rfl⟩) c h
noncomputable def GC(e:Expr)(h:e.ctorIdx=5):Option (Expr×Expr×Expr):=Expr.IfExp.elim (motive_1:=fun _=>Option (Expr×Expr×Expr)) e h fun z x y p=>some (z,x,y)
def Lb(e:Expr):Option (Expr×Expr×Expr):=if h:e.ctorIdx=5 then GC e h else none
def E6{e:Expr}{r:Expr×Expr×Expr}(h:Lb e=some r):∃p,e=.IfExp r.1 r.2.1 r.2.2 p:=
 let ⟨c,h⟩:=dv h
 Expr.IfExp.elim (motive_1:=fun e=>∀c,GC e c=some r->∃p,e=.IfExp r.1 r.2.1 r.2.2 p) e c (fun z x y p _ h=>by cases h;exact⟨p,rfl⟩) c h
noncomputable def B6(e:Expr)(h:e.ctorIdx=21):Option (Expr×Expr):=Expr.Subscript.elim (motive_1:=fun _=>Option (Expr×Expr)) e h fun x y p=>some (x,y)
def pO(e:Expr):Option (Expr×Expr):=if h:e.ctorIdx=21 then B6 e h else none
def lg{e:Expr}{r:Expr×Expr}(h:pO e=some r):∃p,e=.Subscript r.1 r.2 p:=
 let ⟨c,h⟩:=dv h
 Expr.Subscript.elim (motive_1:=fun e=>∀c,B6 e c=some r->∃p,e=.Subscript r.1 r.2 p) e c (fun x y p _ h=>by cases h;exact⟨p,rfl⟩) c h
noncomputable def Di(e:Expr)(h:e.ctorIdx=26):Option (Option Expr×Option Expr×Option Expr):=Expr.Slice.elim (motive_1:=fun _=>Option (Option Expr×Option Expr×Option Expr)) e h fun l u s p=>some (l,u,s)
def Gb(e:Expr):Option (Option Expr×Option Expr×Option Expr):=if h:e.ctorIdx=26 then Di e h else none
def Dx{e:Expr}{r:Option Expr×Option Expr×Option Expr}(h:Gb e=some r):∃p,e=.Slice r.1 r.2.1 r.2.2 p:=
 let ⟨c,h⟩:=dv h
 Expr.Slice.elim (motive_1:=fun e=>∀c,Di e c=some r->∃p,e=.Slice r.1 r.2.1 r.2.2 p) e c (fun l u s p _ h=>by cases h;exact⟨p,rfl⟩) c h
noncomputable def yr(e:Expr)(h:e.ctorIdx=16):Option (Expr×List Expr×List Keyword×Pos):=Expr.Call.elim (motive_1:=fun _=>Option (Expr×List Expr×List Keyword×Pos)) e h fun f as ks p=>some (f,as,ks,p)
def xR(e:Expr):Option (Expr×List Expr×List Keyword×Pos):=if h:e.ctorIdx=16 then yr e h else none
def so{e:Expr}{r:Expr×List Expr×List Keyword×Pos}(h:xR e=some r):e=.Call r.1 r.2.1 r.2.2.1 r.2.2.2:=
 let ⟨c,h⟩:=dv h
 Expr.Call.elim (motive_1:=fun e=>∀c,yr e c=some r->e=.Call r.1 r.2.1 r.2.2.1 r.2.2.2) e c (fun f as ks p _ h=>by cases h;exact rfl) c h
noncomputable def yx(e:Expr)(h:e.ctorIdx=20):Option (Expr×Str×Pos):=Expr.Attribute.elim (motive_1:=fun _=>Option (Expr×Str×Pos)) e h fun v x p=>some (v,x,p)
def oN(e:Expr):Option (Expr×Str×Pos):=if h:e.ctorIdx=20 then yx e h else none
def mW{e:Expr}{r:Expr×Str×Pos}(h:oN e=some r):e=.Attribute r.1 r.2.1 r.2.2:=
 let ⟨c,h⟩:=dv h
 Expr.Attribute.elim (motive_1:=fun e=>∀c,yx e c=some r->e=.Attribute r.1 r.2.1 r.2.2) e c (fun v x p _ h=>by cases h;exact rfl) c h
noncomputable def y9(e:Expr)(h:e.ctorIdx=8):Option (Expr×List Comprehension×Scope×Pos):=Expr.ListComp.elim (motive_1:=fun _=>Option (Expr×List Comprehension×Scope×Pos)) e h fun y g scope p=>some (y,g,scope,p)
def xF(e:Expr):Option (Expr×List Comprehension×Scope×Pos):=if h:e.ctorIdx=8 then y9 e h else none
def rJ{e:Expr}{r:Expr×List Comprehension×Scope×Pos}(h:xF e=some r):e=.ListComp r.1 r.2.1 r.2.2.1 r.2.2.2:=
 let ⟨c,h⟩:=dv h
 Expr.ListComp.elim (motive_1:=fun e=>∀c,y9 e c=some r->e=.ListComp r.1 r.2.1 r.2.2.1 r.2.2.2) e c (fun y g scope p _ h=>by cases h;exact rfl) c h
noncomputable def vi:BoolOp->Bool
 |.And=>true
 |.Or=>false
noncomputable def GK:UnaryOp->Bool
 |.Not=>true
 |_=>false
def Dh{o:UnaryOp}(h:GK o=true):o=.Not:=by cases o<;>first|rfl|cases h
def gF{α:Type}:List α->Option α
 |[x]=>some x
 |_=>none
def dH{α:Type}{l:List α}{x:α}(h:gF l=some x):l=[x]:=by rcases l with _|⟨a,_|⟨b,r⟩⟩<;>first|(cases h;rfl)|cases h
def nW{α:Type}:List α->Option (α×α)
 |[x,y]=>some (x,y)
 |_=>none
def ja{α:Type}{l:List α}{r:α×α}(h:nW l=some r):l=[r.1,r.2]:=by rcases l with _|⟨a,_|⟨b,_|⟨c,q⟩⟩⟩<;>first|(cases h;rfl)|cases h
def nI{α:Type}:List α->Option (α×List α)
 |x::r=>some (x,r)
 |[]=>none
def eK{α:Type}{l:List α}{r:α×List α}(h:nI l=some r):l=r.1::r.2:=by cases l<;>first|(cases h;rfl)|cases h
def hV(e:Expr):Option (Str×List Expr):=(xR e).bind fun r=>if r.2.2.1.isEmpty then (aR r.1).map fun x=>(x,r.2.1) else none
def dh{e:Expr}{r:Str×List Expr}(h:hV e=some r):∃p q,e=.Call (.Name r.1 p) r.2 [] q:=by
 obtain⟨⟨f,as,ks,q⟩,e1,e2⟩:=lO.mp h;have z:=so e1;dsimp only at e2 z;cases ks with
 |cons _ _=>cases e2
 |nil=>
  obtain⟨x,e3,rfl⟩:=sR.mp e2;obtain⟨p,rfl⟩:=aM e3;exact⟨p,q,z⟩
def Av(e:Expr):Option (Expr×Str×Pos×List Expr×Pos):=(xR e).bind fun r=>if r.2.2.1.isEmpty then (oN r.1).map fun a=>(a.1,a.2.1,a.2.2,r.2.1,r.2.2.2) else none
def qF{e:Expr}{r:Expr×Str×Pos×List Expr×Pos}(h:Av e=some r):e=.Call (.Attribute r.1 r.2.1 r.2.2.1) r.2.2.2.1 [] r.2.2.2.2:=by
 obtain⟨⟨f,as,ks,q⟩,e1,e2⟩:=lO.mp h;have z:=so e1;dsimp only at e2 z;cases ks with
 |cons _ _=>cases e2
 |nil=>
  obtain⟨a,e3,rfl⟩:=sR.mp e2;rw[mW e3] at z;exact z
noncomputable def zT(g:List Comprehension):Option (Expr×Expr×List Expr):=(gF g).bind fun c=>match c with
 |⟨t,it,ifs,n⟩=>if n=0 then some (t,it,ifs) else none
def uv{g:List Comprehension}{r:Expr×Expr×List Expr}(h:zT g=some r):g=[⟨r.1,r.2.1,r.2.2,0⟩]:=by
 obtain⟨⟨t,it,ifs,n⟩,e1,e2⟩:=lO.mp h;rw[dH e1];dsimp only at e2;by_cases c:n=0
 .rw[if_pos c] at e2;cases e2;rw[c]
 .rw[if_neg c] at e2;cases e2
noncomputable def Dk(e:Stmt)(h:e.ctorIdx=24):Option (Expr):=Stmt.Expr.elim (motive_2:=fun _=>Option (Expr)) e h fun x p=>some x
def FT(e:Stmt):Option (Expr):=if h:e.ctorIdx=24 then Dk e h else none
def Cb{e:Stmt}{r:Expr}(h:FT e=some r):∃p,e=.Expr r p:=
 let ⟨c,h⟩:=dv h
 Stmt.Expr.elim (motive_2:=fun e=>∀c,Dk e c=some r->∃p,e=.Expr r p) e c (fun x p _ h=>by cases h;exact⟨p,rfl⟩) c h
noncomputable def FE(e:Stmt)(h:e.ctorIdx=3):Option (Option Expr):=Stmt.Return.elim (motive_2:=fun _=>Option (Option Expr)) e h fun x p=>some x
def nY(e:Stmt):Option (Option Expr):=if h:e.ctorIdx=3 then FE e h else none
def kv{e:Stmt}{r:Option Expr}(h:nY e=some r):∃p,e=.Return r p:=
 let ⟨c,h⟩:=dv h
 Stmt.Return.elim (motive_2:=fun e=>∀c,FE e c=some r->∃p,e=.Return r p) e c (fun x p _ h=>by cases h;exact⟨p,rfl⟩) c h
noncomputable def F8(e:Stmt)(h:e.ctorIdx=5):Option (List Expr×Expr×Pos):=Stmt.Assign.elim (motive_2:=fun _=>Option (List Expr×Expr×Pos)) e h fun ts v p=>some (ts,v,p)
def Ly(e:Stmt):Option (List Expr×Expr×Pos):=if h:e.ctorIdx=5 then F8 e h else none
def Ei{e:Stmt}{r:List Expr×Expr×Pos}(h:Ly e=some r):e=.Assign r.1 r.2.1 r.2.2:=
 let ⟨c,h⟩:=dv h
 Stmt.Assign.elim (motive_2:=fun e=>∀c,F8 e c=some r->e=.Assign r.1 r.2.1 r.2.2) e c (fun ts v p _ h=>by cases h;exact rfl) c h
noncomputable def Lm(e:Stmt)(h:e.ctorIdx=12):Option (Expr×List Stmt×List Stmt):=Stmt.If.elim (motive_2:=fun _=>Option (Expr×List Stmt×List Stmt)) e h fun x ys zs p=>some (x,ys,zs)
def KQ(e:Stmt):Option (Expr×List Stmt×List Stmt):=if h:e.ctorIdx=12 then Lm e h else none
def zl{e:Stmt}{r:Expr×List Stmt×List Stmt}(h:KQ e=some r):∃p,e=.If r.1 r.2.1 r.2.2 p:=
 let ⟨c,h⟩:=dv h
 Stmt.If.elim (motive_2:=fun e=>∀c,Lm e c=some r->∃p,e=.If r.1 r.2.1 r.2.2 p) e c (fun x ys zs p _ h=>by cases h;exact⟨p,rfl⟩) c h
noncomputable def Fx(e:Stmt)(h:e.ctorIdx=9):Option (Expr×Expr×List Stmt×List Stmt):=Stmt.For.elim (motive_2:=fun _=>Option (Expr×Expr×List Stmt×List Stmt)) e h fun t i ys zs p=>some (t,i,ys,zs)
def JI(e:Stmt):Option (Expr×Expr×List Stmt×List Stmt):=if h:e.ctorIdx=9 then Fx e h else none
def D9{e:Stmt}{r:Expr×Expr×List Stmt×List Stmt}(h:JI e=some r):∃p,e=.For r.1 r.2.1 r.2.2.1 r.2.2.2 p:=
 let ⟨c,h⟩:=dv h
 Stmt.For.elim (motive_2:=fun e=>∀c,Fx e c=some r->∃p,e=.For r.1 r.2.1 r.2.2.1 r.2.2.2 p) e c (fun t i ys zs p _ h=>by cases h;exact⟨p,rfl⟩) c h
noncomputable def F7(e:Stmt)(h:e.ctorIdx=7):Option (Expr×Operator×Expr):=Stmt.AugAssign.elim (motive_2:=fun _=>Option (Expr×Operator×Expr)) e h fun t o v p=>some (t,o,v)
def IE(e:Stmt):Option (Expr×Operator×Expr):=if h:e.ctorIdx=7 then F7 e h else none
def Ef{e:Stmt}{r:Expr×Operator×Expr}(h:IE e=some r):∃p,e=.AugAssign r.1 r.2.1 r.2.2 p:=
 let ⟨c,h⟩:=dv h
 Stmt.AugAssign.elim (motive_2:=fun e=>∀c,F7 e c=some r->∃p,e=.AugAssign r.1 r.2.1 r.2.2 p) e c (fun t o v p _ h=>by cases h;exact⟨p,rfl⟩) c h
noncomputable def FR(e:Stmt)(h:e.ctorIdx=11):Option (Expr×List Stmt×List Stmt):=Stmt.While.elim (motive_2:=fun _=>Option (Expr×List Stmt×List Stmt)) e h fun x ys zs p=>some (x,ys,zs)
def K0(e:Stmt):Option (Expr×List Stmt×List Stmt):=if h:e.ctorIdx=11 then FR e h else none
def Ew{e:Stmt}{r:Expr×List Stmt×List Stmt}(h:K0 e=some r):∃p,e=.While r.1 r.2.1 r.2.2 p:=
 let ⟨c,h⟩:=dv h
 Stmt.While.elim (motive_2:=fun e=>∀c,FR e c=some r->∃p,e=.While r.1 r.2.1 r.2.2 p) e c (fun x ys zs p _ h=>by cases h;exact⟨p,rfl⟩) c h
noncomputable def yD(e:Stmt)(h:e.ctorIdx=16):Option (Option Expr×Option Expr):=Stmt.Raise.elim (motive_2:=fun _=>Option (Option Expr×Option Expr)) e h fun x c p=>some (x,c)
def B2(e:Stmt):Option (Option Expr×Option Expr):=if h:e.ctorIdx=16 then yD e h else none
def AQ{e:Stmt}{r:Option Expr×Option Expr}(h:B2 e=some r):∃p,e=.Raise r.1 r.2 p:=
 let ⟨c,h⟩:=dv h
 Stmt.Raise.elim (motive_2:=fun e=>∀c,yD e c=some r->∃p,e=.Raise r.1 r.2 p) e c (fun x c p _ h=>by cases h;exact⟨p,rfl⟩) c h
noncomputable def F0(e:Stmt)(h:e.ctorIdx=17):Option (List Stmt×List ExceptHandler×List Stmt×List Stmt):=Stmt.Try.elim (motive_2:=fun _=>Option (List Stmt×List ExceptHandler×List Stmt×List Stmt)) e h fun b hs o f p=>some (b,hs,o,f)
def LV(e:Stmt):Option (List Stmt×List ExceptHandler×List Stmt×List Stmt):=if h:e.ctorIdx=17 then F0 e h else none
def EC{e:Stmt}{r:List Stmt×List ExceptHandler×List Stmt×List Stmt}(h:LV e=some r):∃p,e=.Try r.1 r.2.1 r.2.2.1 r.2.2.2 p:=
 let ⟨c,h⟩:=dv h
 Stmt.Try.elim (motive_2:=fun e=>∀c,F0 e c=some r->∃p,e=.Try r.1 r.2.1 r.2.2.1 r.2.2.2 p) e c (fun b hs o f p _ h=>by cases h;exact⟨p,rfl⟩) c h
noncomputable def okN(x:Str):Bool:=!(x== ("__debug__":Str))&&!(x== ("__classdict__":Str))
def okN.d(h:okN x=true):(x== ("__debug__":Str))=false/\(x== ("__classdict__":Str))=false:=by unfold okN at h;simpa using h
section
variable {X:Cx}
end
section
variable {P:Program}{w:World}{K:W.Frag}{mg:Str->Option Value}{base:Heap}
end
section
variable {prog:Program}{w:World}{A:Around}{R:Result->Shared->Prop}{E:aY}{h:Heap}{g:Array GenState}{d:Drawn}{t:Nat}{os:OsState}{M:Model}
variable {nm q:Str}{C N:Addr}{bs bm:List Value}{hdct:Bool}{sn:List Str}{sub:List Value}{ab:Bool}{col:Option Bool}{dd:Option Addr}{k0 k1 k2 k3 k5:Option Value}{Bn newId inN:String}{bmN:List Value}
structure nF(C:Addr)(bm:List Value)(Bn:String):Prop where
 b:(Value.ref C::bm).contains (.type Bn)=true
 e:(Value.ref C::bm).contains (.type "BaseException")=true
 a:(Value.ref C::bm).contains (.type "AttributeError")=false
 n:(Value.ref C::bm).contains (.type "NameError")=false
def Iu{rest:List Value}{Q:Unit->Shared->Prop}(F:ExcBaseFacts Bn newId inN bmN)(m:nF C bm Bn)(hC:h.get? C=some (excClassObj nm q C N bs bm hdct sn sub ab col dd k0 k1 k2 k3 k5 newId))(hq:Q () ⟨h,g,d,t,os⟩):
  wpAny M A (checkBuiltinCall newId ⟨.ref C::rest,[]⟩) Q E ⟨h,g,d,t,os⟩:=by
 have z:=F.noStar;have c:=m.b;simp only[checkBuiltinCall,F.newKind,F.newSplit,F.newRow];repeat (first|refine j5 hC ?_|(refine rj hC ?_;rw[c])|refine wpAny_staticBase_exc hC ?_|refine wpAny_madeBy_exc hC ?_|simp only[bne_self_eq_false,eL,bp]|wp_step)
 exact hq
noncomputable abbrev xj(us:List Value):Obj:={cls:=.type "tuple",data:=.seq us.toArray}
noncomputable abbrev oH(C t:Addr):Obj:={cls:=.ref C,data:=.fields #[.ref t,.none,.none,.none,.bool false,.none]}
def Ny{rest:List Value}(F:ExcBaseFacts Bn newId inN bmN)(m:nF C bm Bn)(hC:h.get? C=some (excClassObj nm q C N bs bm hdct sn sub ab col dd k0 k1 k2 k3 k5 newId))
  (hq:R (.ok (.ret (.ref (h.objs.size+1)))) ⟨(h.push (xj rest)).push (oH C h.objs.size),g,d,t,os⟩) (hr:rest.length<=sizeLine):codeAny (model prog w) A (.builtin newId ⟨.ref C::rest,[]⟩) R ⟨h,g,d,t,os⟩:=by
 have z:=F.ends;have cb:=m.b;have ca:=m.a;have cn:=m.n;refine codeAny_builtinAt F.entry ?_;unfold Builtin.«BaseException.__new__»;refine PySem.wpAt_bind ?_;show PySem.wpAt _ _ _ (stack >>= _) _ _ _;refine PySem.wpAt_bind (PySem.wpAt_stack fun p below=>PySem.wpAt_of_wpAny ?_)
 wp_walk
 refine PySem.wpAt_of_wpAny ?_;rw[F.owner];repeat (first|with_reducible refine wpAny_madeHere_exc F.canon hC ?_|with_reducible refine j5 hC ?_|(with_reducible refine rj hC ?_;first|rw[cb]|rw[ca]|rw[cn])|wp_step)
 show R _ _;rw[tH];exact hq
def Jl{e:Addr}{oe:Obj}{rest:List Value}{Q:Unit->Shared->Prop}(F:ExcBaseFacts Bn newId inN bmN)(m:nF C bm Bn)(hC:h.get? C=some (excClassObj nm q C N bs bm hdct sn sub ab col dd k0 k1 k2 k3 k5 newId))(he:h.get? e=some oe)(hcls:oe.cls=.ref C)(hq:Q () ⟨h,g,d,t,os⟩):
  wpAny M A (checkBuiltinCall inN ⟨.ref e::rest,[]⟩) Q E ⟨h,g,d,t,os⟩:=by
 have cb:=m.b;have z:=F.noStar;simp only[checkBuiltinCall,F.initKind,F.initSplit,F.initRow];repeat (first|(with_reducible refine j5 he ?_;rw[hcls])|with_reducible refine j5 hC ?_|(with_reducible refine rj hC ?_;rw[cb])|wp_step)
 refine wpAny_onRaise ?_;rw[show ∀(a b:String)(n:Nat),Bind.check ⟨.positional,"*",Bn,.self,[⟨"args",.varPos,false⟩]⟩ a b n (List.map (fun x=>x.fst) ({pos:=Value.ref e::rest}:Args).kw)=pure () from fun a b n=>check_star_args _ _ _ _ _ _];exact aG hq
def HE{K:W.Frag}{rest:List Value}{Q:Fin->Shared->Prop}(X:K.In h)(F:ExcBaseFacts Bn newId inN bmN)(m:nF C bm Bn)(hC:h.get? C=some (excClassObj nm q C N bs bm hdct sn sub ab col dd k0 k1 k2 k3 k5 newId))
  (hi:W.findIn K (.ref C) "__init__"=some (some (.builtin inN))) (hr:rest.length<=sizeLine)
  (hq:∀h',(∀b o,h.get? b=some o->h'.get? b=some o)->(∃t,h'.get? (h.objs.size+1)=some (oH C t))->Q (.done (.ret (.ref (h.objs.size+1)))) ⟨h',g,d,t,os⟩):
  wpAny (model prog w) A (Builtin.«type.__call__» ⟨.ref C::rest,[]⟩) Q E ⟨h,g,d,t,os⟩:=by
 repeat (first|with_reducible refine j5 hC ?_|with_reducible refine wpAny_madeBy_exc hC ?_|wp_step)
 refine codeAny_call_builtin_code (Code.quiet_builtin _ F.quiet) (Iu F m hC ?_);refine Ny F m hC ?_ hr;show wpAny _ _ _ _ _ _;have kp:∀b o,h.get? b=some o->((h.push (xj rest)).push (oH C h.objs.size)).get? b=some o:=fun b o e=>bZ _ (bZ _ e);have hC1:=kp _ _ hC;have X1:K.In ((h.push (xj rest)).push (oH C h.objs.size)):=X.keeps kp;have he:((h.push (xj rest)).push (oH C h.objs.size)).get? (h.objs.size+1)=some (oH C h.objs.size):=by
  have:=gi (h.push (xj rest)) (o:=oH C h.objs.size) rfl
  rwa [tH] at this
 have cC:(Value.ref C::bm).contains (.ref C)=true:=by simp
 unfold isInstance;repeat (first|with_reducible refine j5 he ?_|(with_reducible refine rj hC1 ?_;rw[cC])|wp_step)
 show wpAny _ _ (typeLookup (.ref C) _) _ _ _;refine (uV X1 hi).at ?_;refine jU (ag (lh (F.init.bind _) ?_));refine ag (lq (codeAny_call_builtin F.init.plain F.initEntry (Jl F m hC1 he rfl ?_)))
 wp_walk
 refine hq _ (fun b o hb=>?_) ⟨h.objs.size+2,?_⟩
 .rw[pA _ _ (pd (Nat.lt_succ_of_lt (bJ hb)))];exact bZ _ (kp _ _ hb)
 .rw[sP _ (bZ _ he) rfl];simp only[tH];rfl
def G9{K:W.Frag}{rest:List Value}{Q:aY}(X:K.In h)(F:ExcBaseFacts Bn newId inN bmN)(m:nF C bm Bn)(hC:h.get? C=some (excClassObj nm q C N bs bm hdct sn sub ab col dd k0 k1 k2 k3 k5 newId))
  (hi:W.findIn K (.ref C) "__init__"=some (some (.builtin inN))) (hr:rest.length<=sizeLine)
  (hq:∀h',(∀b o,h.get? b=some o->h'.get? b=some o)->(∃t,h'.get? (h.objs.size+1)=some (oH C t))->Q (.ref (h.objs.size+1)) ⟨h',g,d,t,os⟩):
  wpAny (model prog w) A (call (.ref C) rest) Q E ⟨h,g,d,t,os⟩:=by
 have f1:=tc_lookup;have f2:=tc_bind (.ref C);have hT:(⟨h,g,d,t,os⟩:Shared).TypeIs (.ref C) "type":=⟨_,hC,rfl⟩;refine lq (codeAny_of_tree ?_);show wpAny _ _ (callAny (.ref C) _) _ _ _;repeat (any_goals (first|assumption|with_reducible refine j5 hC ?_|wp_step))
 refine⟨rfl,?_⟩;exact codeAny_call_builtin_at (Code.quiet_builtin _ (by decide+kernel)) entry_typeCall (wpAny_check_type_call_sub hC (HE X F m hC hi hr hq))
def Ka{Q:Flow->Shared->Prop}(m:nF C bm Bn)(hh:A.handled=none)
  (h:wpAny M A x (fun v s1=>∃e oe vs,v=.ref e/\s1.heap.get? C=some (excClassObj nm q C N bs bm hdct sn sub ab col dd k0 k1 k2 k3 k5 newId)/\s1.heap.get? e=some oe/\oe.cls=.ref C/\oe.data=.fields vs/\vs[1]?=some .none/\E (.ref e) s1) E s):wpAny M A (raiseStmt env (some x) none) Q E s:=by
 have cB:=m.e;unfold raiseStmt;refine ag (jr h (fun v s1 z=>?_) fun _ _ x=>x);obtain⟨e,⟨oc,od,oda,osl⟩,vs,rfl,hC,he,hc,hd,h1,hE⟩:=z;simp only at hc hd;subst hc hd;obtain⟨hp,g,d,tk,os⟩:=s1;repeat (first|with_reducible refine j5 he ?_|with_reducible refine j5 hC ?_|(with_reducible refine rj hC ?_;rw[cB])|wp_step)
 rw[h1];refine aG ?_;rw[if_neg (by decide)];exact aG (wpAny_raiseNew_none hh hE)
end
structure uI(K:W.Frag)(C:Addr):Prop where
 obj:∃(nm q:Str) (N:Addr) (bs bm:List Value) (hdct:Bool) (sn:List Str) (sub:List Value) (ab:Bool) (col:Option Bool) (dd:Option Addr) (k0 k1 k2 k3 k5:Option Value),
  K.lookup C=some (excClassObj nm q C N bs bm hdct sn sub ab col dd k0 k1 k2 k3 k5 "ValueError.__new__")/\nF C bm "ValueError"
 init:W.findIn K (.ref C) "__init__"=some (some (.builtin "ValueError.__init__"))
 kp:W.keepIn K (.ref C)=true
section
variable {X:Cx}{pins:aH}{σ:L2.St}{H:L2.Hp}{s:Shared}{C f:Addr}{E:XK}
def JZ{Q:aY}(M:uI X.K C)(I:Inv X pins σ H s)(hz:us.length<=1000)
  (h:∀e s' oe ws,H e=none->Fly0 X.prog X.w (bu X.stack) H s e C none (upd H e (og C none e)) s'->s'.heap.get? e=some oe->oe.cls=.ref C->oe.data=.fields ws->ws[1]?=some .none->Q (.ref e) s'):
  wpAny (model X.prog X.w) X.A (call (.ref C) us) Q X.xe s:=by
 obtain⟨nm,q,N,bs,bm,hdct,sn,sub,ab,col,dd,k0,k1,k2,k3,k5,lk,mo⟩:=M.obj;obtain⟨hp,g,d,t,os⟩:=s;refine G9 I.b9 PySem.F.excBase_ValueError mo (I.b9 _ _ lk) M.init (by rw[gX];lia) fun h' kp ⟨t',he⟩=>?_;have hf:H (hp.objs.size+1)=none:=I.av.fresh (tX _);have ok:cI X.prog X.w (upd H (hp.objs.size+1) (og C none (hp.objs.size+1))) h' (hp.objs.size+1) (og C none (hp.objs.size+1)):=⟨⟨_,_,he,rfl,rfl,rfl⟩,⟨_,he⟩,fun h1 h2 ⟨o,vs,a,b⟩ k=>⟨o,vs,k o a,b⟩⟩;have I2:Inv X pins σ (upd H (hp.objs.size+1) (og C none (hp.objs.size+1))) ⟨h',g,d,t,os⟩:=I.laid (a:=hp.objs.size+1) (o:=og C none (hp.objs.size+1)) (h':=h') (t':=t) kp (tX _) ok;exact h _ _ _ _ hf ⟨rfl,I2.bare,Un.laid kp (tX _) hf,I2.av,bV,Heap.get?_none_of_le (tX _)⟩ he rfl rfl rfl
def Hm(C:Addr)(E:XK)(t:TA):TS:=fun _ σ H=>t σ H fun vs H1=>vs.length<=1000/\∀e,H1 e=none->E (.ref e) none (upd H1 e (og C none e))
def B7(hx:X.ex=[])(hs:X.stack=X.env::X.outer)(hfm:X.env.frame=some X.env.locals)(hxe:X.xe=pP X E)
  (M:uI X.K C) (cal:X.calm=true) (hg:Gl X x) (hm:X.mg x=some (.ref C))
  (ha:PA X (e::es) t) (hdb:(x== ("__debug__":Str))=false) (bH:starEach (e::es) X.env=(false,eval e X.env)::starEach es X.env) (hpl:(backTo cpos (starEach es X.env)).any (·.1)=false):
  PS X (.Raise (some (.Call (.Name x np) (e::es) [] cpos)) none pos) (Hm C E t):=by
 intro pins s σ H D I h;obtain⟨nm,q,N,bs,bm,hdct,sn,sub,ab,col,dd,k0,k1,k2,k3,k5,lk,mo⟩:=id M.obj;have key:wpAny (model X.prog X.w) X.A (eval (.Call (.Name x np) (e::es) [] cpos) X.env) (fun v s1=>∃e oe vs,v=.ref e/\s1.heap.get? C=some (excClassObj nm q C N bs bm hdct sn sub ab col dd k0 k1 k2 k3 k5 "ValueError.__new__")/\s1.heap.get? e=some oe/\oe.cls=.ref C/\oe.data=.fields vs/\vs[1]?=some .none/\X.xe (.ref e) s1) X.xe s:=by refine lj (gu I hg hm ?_ hdb);refine qh (h₀:=X.base) I.ok.mod.rK M.kp (aB (ha cpos pins s σ H _ I h) fun us s1 ⟨vs,H1,I1,r,q1,q2⟩=>⟨I1.b9,?_⟩) bH hpl;refine JZ M I1 (by rw[List.nil_append,<-r.length];exact q1) fun ea s2 oe ws z1 F2 a1 a2 a3 a4=>⟨ea,oe,ws,rfl,?_,a1,a2,a3,a4,Jh hx hs hfm hxe I1 F2 a1 a3 a4 (q2 ea z1)⟩;exact (F2.inv I1).b9 _ _ lk
 rw[arm_exec_Raise];exact ag (rm (Ka mo (I.ok.hd cal) (ag (jr key (fun v s1 z=>ag (rm (aG z))) fun _ _ z=>z))))
end
noncomputable abbrev hX(X:Cx)(v:Value):Cx:={X with A:=X.A.mark (some v),calm:=false,xe:=fun _ _=>False}
section
variable {X:Cx}{pins:aH}{σ:L2.St}{H:L2.Hp}{s:Shared}
def Inv.mark(I:Inv X pins σ H s)(v:Value):Inv (hX X v) pins σ H s:=
 ⟨⟨I.ok.mod,I.ok.kind,I.ok.glob,I.ok.blt,I.ok.above,I.ok.inj,I.ok.has,I.ok.rN,fun z=>(nomatch z),I.ok.frames,I.ok.vS,I.ok.Dc,I.ok.bs,I.ok.mG,I.ok.oU,I.ok.qN,I.ok.gf,I.ok.oq⟩,I.os,I.bare,I.base,I.loc,I.cell,I.free,I.fg,I.pin,I.av,I.len⟩
def Inv.unmark(I:Inv (hX X v) pins σ H s)(hd:X.calm=true->X.A.handled=none):Inv X pins σ H s:=
 ⟨⟨I.ok.mod,I.ok.kind,I.ok.glob,I.ok.blt,I.ok.above,I.ok.inj,I.ok.has,I.ok.rN,hd,I.ok.frames,I.ok.vS,I.ok.Dc,I.ok.bs,I.ok.mG,I.ok.oU,I.ok.qN,I.ok.gf,I.ok.oq⟩,I.os,I.bare,I.base,I.loc,I.cell,I.free,I.fg,I.pin,I.av,I.len⟩
def lA{E:aY}{Q:Unit->Shared->Prop}(I:Inv X pins σ H s)(hN:X.N.Nodup)(hj:X.N[j]?=some n)(hl:X.env.scope.names.lookup n=some .local)
  (h:∀s',Inv X pins (σ.set j none) H s'->Q () s'):wpAny M A (do bindName X.env n .none;unbindBehindTheSuite X.env n pos) Q E s:=by
 have hp:(X.env.scope.kind== .class || (X.env.scope.kind== .module&&X.env.locals != X.env.globals))=false:=by rw[I.ok.kind];rfl
 have hk:X.env.kindOf n=some .local:=hl;refine ag (wpAny_bindName (kz (v:=.ah) I hN hj (.inl hl) rfl (fun s1 I1=>?_) (.inr hl)));obtain⟨m,hn,lo⟩:=I1.loc;have jl:j<σ.length:=by rw[I.len];exact (fV.mp hj).1
 have hm:∃u,m n=some u:=by
  obtain⟨u,_,l⟩:=lo j n .ah hj (by rw[jD jl]) (.inl hl);rcases l with ⟨_,z⟩|⟨z,_⟩
  .exact⟨u,z⟩
  .rw[hk] at z;rcases z with z|z<;>cases z
 obtain⟨u,hm⟩:=hm;unfold unbindBehindTheSuite;refine wpAny_onRaise ?_;unfold unbindName;refine ag (wpAny_point (ag ?_));unfold deleteName;simp only[hk,hp];rw[if_neg (by decide)];refine ag (wpAny_nsDel_keeps hn fun h2 v hn2 hs=>?_);rw[hm];simp only[Option.isSome_some,Bool.not_true,eL,bp,bU];refine aG (wpAny_point (h _ ?_));have above:=I1.ok.above;have ne:∀b o,X.aL.heap.get? b=some o->b≠X.env.locals:=fun b o e=>dw (bY (bJ e) above);have oS:∀y c,X.env.cells.lookup y=some c->c≠X.env.locals:=fun y c e z=>by
  obtain⟨w',oc,hoc,hcd⟩:=I1.cell y c e;obtain⟨ol,es,ep,hol,hld,_⟩:=hn;rw[z,hol] at hoc;cases hoc;rw[hld] at hcd;cases hcd
 refine⟨I1.ok,I1.os,I1.bare,⟨fun b o e n hb hx=>(hs.2 b (ne b o e)).trans (I1.base.keep b o e n hb hx),fun b o e n hb hx=>?_,I1.base.free,fun b o e hx=>?_,I1.base.gM,I1.base.f6,I1.base.fX⟩,⟨_,hn2,fun i y v' e1 e2 e3=>?_⟩,fun y c e=>?_,I1.free,I1.fg,fun p hp=>?_,fun a o q=>?_,by simpa using I.len⟩
 .obtain⟨sl,q⟩:=I1.base.slot b o e n hb hx;exact⟨sl,(hs.2 b (ne b o e)).trans q⟩
 .obtain⟨o',q⟩:=I1.base.there b o e hx;exact⟨o',(hs.2 b (ne b o e)).trans q⟩
 .by_cases z:i=j
  .subst z;rw[jD jl] at e2;cases e2
  .rw[jE (bj z)] at e2;have ny:y≠n:=fun w=>z (by subst w;exact rh hN e1 hj);obtain⟨u',r',l⟩:=lo i y v' e1 (by rw[jE (bj z)];exact e2) e3;refine⟨u',r',?_⟩;rcases l with ⟨k1,k2⟩|⟨k1,c,k2,k3⟩
   .exact .inl ⟨k1,by show (if y=n then v else m y)=some u';rw[if_neg ny];exact k2⟩
   .exact .inr ⟨k1,c,k2,k3.sameBut hs (oS y c k2)⟩
 .obtain⟨w',z⟩:=I1.cell y c e;exact⟨w',z.sameBut hs (oS y c e)⟩
 .obtain⟨e,n1,n2,n3,d⟩:=I1.pin p hp;exact⟨(hs.2 p.1 n2).trans e,n1,n2,n3,d⟩
 .have nt:∀b u,H b=some u->b≠X.env.locals:=fun b u e z=>by rw[z,I1.free] at e;cases e
  refine (I1.av a o q).gb (fun b u hb r=>(hs.2 b ?_).trans r) (fun _ q=>q) fun _ _ q=>q;rcases hb with rfl|hb
  .exact nt b o q
  .exact nt b _ hb
def Ip{Q:Shared->Prop}(I:Inv X pins σ H s)(hs:X.stack=X.env::X.outer)(hfm:X.env.frame=some X.env.locals)(F:gD X.prog X.w (bu X.stack) H s ea C dx .none H' s'){E:aY}(k:∀s3,gD X.prog X.w (bu X.stack) H s ea C dx .none H' s3->Q s3):
  wpAny (model X.prog X.w) X.A (noteFrame (.ref ea) X.env) (fun _ s2=>wpAny (model X.prog X.w) X.A (setFlight (.ref ea) none) (fun _ s3=>Q s3) E s2) E s':=by
 have J:=F.toFly0.inv I;have fr:=J.jf;have st:=J.stack;have fm:=J.ok.frames;rw[hs] at fr st fm F;refine F.note (base:=X.base) fm st hfm fr fun s2 F2=>F2.land fr fun s3 F3=>k s3 ?_;rw[hs];exact F3
def gD.cls(F:gD X.prog X.w (bu X.stack) H s ea C dx fl H' s'):W.Looks (model X.prog X.w) s'.heap (typeOf (.ref ea)) (.ref C):=by obtain⟨⟨o,ws,b1,b2,_⟩,_,_⟩:=F.av ea _ F.tr;exact b2▸(W.Looks.ld b1).andThen .now
section
variable {ea C Mx:Addr}{dx:Option Addr}{H':L2.Hp}{s':Shared}{x n:Str}{p hp:Pos}{j:Nat}{rest:List ExceptHandler}{Q:Flow->Shared->Prop}
def HN(I:Inv X pins σ H s)(F:gD X.prog X.w (bu X.stack) H s ea C dx .none H' s')(hg:Gl X x)(hm:X.mg x=some (.ref Mx))(hdb:(x== ("__debug__":Str))=false)(hxm:W.exmOne X.K (.ref C) (.ref Mx)=some false)
  (k:wpAny (model X.prog X.w) X.A (handleBy (.ref ea) X.env rest) Q X.xe s'):wpAny (model X.prog X.w) X.A (handleBy (.ref ea) X.env (.ExceptHandler (some (.Name x p)) nm suite hp::rest)) Q X.xe s':=by
 have I3:=F.toFly0.inv I;refine wpAny_handleBy_cons (codeAny_handlers_test (gu (X:=hX X (.ref ea)) (Inv.mark I3 _) hg hm ?_ hdb)) (by intro q;cases q);exact (W.exm_one I3.b9 F.cls hxm).here k
def J6(I:Inv X pins σ H s)(F:gD X.prog X.w (bu X.stack) H s ea C dx .none H' s')
  (hg:Gl X x) (hm:X.mg x=some (.ref Mx)) (hdb:(x== ("__debug__":Str))=false) (hxm:W.exmOne X.K (.ref C) (.ref Mx)=some true) (hN:X.N.Nodup) (hj:X.N[j]?=some n) (hl:X.env.scope.names.lookup n=some .local)
  (hb:∀v,dS (hX X v) (b₀::suite) t) (D:Ends) (ht:t D (σ.set j (some (.ref ea))) H') (hD:∀f s2,SP X pins D f s2->wpAny (model X.prog X.w) X.A (do bindName X.env n .none;unbindBehindTheSuite X.env n hp) (fun _ s3=>Q f s3) X.xe s2):
  wpAny (model X.prog X.w) X.A (handleBy (.ref ea) X.env (.ExceptHandler (some (.Name x p)) (some n) (b₀::suite) hp::rest)) Q X.xe s':=by
 have I3:=F.toFly0.inv I;have fr0:=I3.jf;refine wpAny_handleBy_cons (codeAny_handlers_test (gu (X:=hX X (.ref ea)) (Inv.mark I3 _) hg hm ?_ hdb)) (by intro q;cases q);refine (W.exm_one I3.b9 F.cls hxm).here ?_;refine codeAny_handlers_suite_as (F.land fr0 fun s4 F4=>?_);have I4:=F4.toFly0.inv I;refine kz (X:=hX X (.ref ea)) (v:=.ref ea) (Inv.mark I4 _) hN hj (.inl hl) rfl (fun s5 I5=>?_) (.inr hl);refine jr (hb _ pins s5 _ H' D I5 ht) (fun f s6 z=>hD f s6 ?_) fun _ _ z=>False.elim z;cases f with
 |next=>obtain⟨σ',H'',J,q⟩:=z;exact⟨σ',H'',Inv.unmark J I.ok.hd,q⟩
 |brk=>obtain⟨σ',H'',J,q⟩:=z;exact⟨σ',H'',Inv.unmark J I.ok.hd,q⟩
 |cont=>obtain⟨σ',H'',J,q⟩:=z;exact⟨σ',H'',Inv.unmark J I.ok.hd,q⟩
 |ret u=>obtain⟨v,σ',H'',J,r,q⟩:=z;exact⟨v,σ',H'',Inv.unmark J I.ok.hd,r,q⟩
end
end
section
variable {prog:Program}{w:World}{A:Around}{E:aY}{s:Shared}{a:Addr}{D:List (Str×Addr)}{k:Str}{tk:Tok}
end
section
variable {X:Cx}{E:XK}{a b c e y:Expr}{pos p1 p2:Pos}{da db dk:Tw.Env->Tw.Hp->Tw.R Tw.W}{t:Addr}{D:List (Str×Addr)}
theorem aS.rev{K:W.Frag}{ι:Nat->Addr}{n:Nat}{H:L2.Hp}:∀{ws:List Tw.W}{vs:List V},aS K ι n H ws vs->aS K ι n H ws.reverse vs.reverse
 |_,_,.nil=>.nil
 |_,_,.cons a r=>by
  rw[z9,z9];exact (aS.rev r).append (.cons a .nil)
def aS.dropLast{K:W.Frag}{ι:Nat->Addr}{n:Nat}{H:L2.Hp}{ws:List Tw.W}{vs:List V}(r:aS K ι n H ws vs):aS K ι n H ws.dropLast vs.dropLast:=by rw[List.dropLast_eq_take,List.dropLast_eq_take,r.length];exact r.take _
def zL(m:Tw.Mt)(da:Tw.Env->Tw.Hp->Tw.R Tw.W):Tw.Env->Tw.Hp->Tw.R Tw.W:=fun ρ h=>(da ρ h).bind fun x h=>if Tw.kX m x h then Tw.method m x [] h else .bad
def yt(hm:m=.rev\/m=.pop)(e:Tw.kX m w h=true):∃i ws,w=.ref i/\h[i]?=some (.lst ws):=by
 have e:Tw.kX .append w h=true:=by rcases hm with rfl|rfl<;>cases w<;>exact e
 exact B3 e
def N1(hb:attributeBase o "reverse" X.env (eval o X.env)=eval o X.env)(hl:(apos.endLine== cpos.line)=true)(ho:PE X o (tE (zx X E) da)):
  PE X (.Call (.Attribute o "reverse" apos) [] [] cpos) (tE (zx X E) (zL .rev da)):=by
 refine PE.imp (CM Az PySem.F.slot_list_reverse PySem.F.type_list_reverse AK ho hb hl) fun σ H Q Z=>Z.k3 fun ρ h ι at' p=>?_;unfold zL at p;refine⟨ρ,h,ι,at',(step at' p).mono fun x H1 Z=>Z.k4 fun w h1 ι1 at1 e1 r1 p1=>?_⟩;obtain⟨c1,pp⟩:=ao.ite p1;clear p1;obtain⟨i,ws,rfl,ei⟩:=yt (.inl rfl) c1;cases r1;obtain⟨xs,q1,q2⟩:=at1.hr.lst ei;refine⟨.inl ⟨rfl,xs,cq.of q1⟩,_,xs,rfl,rfl,q1,?_⟩
 .simp only[Tw.method,ei] at pp;obtain⟨hr',ex⟩:=at1.hr.put (o:=.lst xs.reverse) (u:=.lst ws.reverse) ei rfl rfl (fun _ z=>nomatch z) fun H' kp z=>⟨_,z,(q2.rev).keep kp⟩;exact pp ι1 _ .ah ex hr' .ah
def s_pop(hb:attributeBase o "pop" X.env (eval o X.env)=eval o X.env)(hl:(apos.endLine== cpos.line)=true)(ho:PE X o (tE (zx X E) da)):
  PE X (.Call (.Attribute o "pop" apos) [] [] cpos) (tE (zx X E) (zL .pop da)):=by
 refine PE.imp (CM Az PySem.F.slot_list_pop PySem.F.type_list_pop Jz ho hb hl) fun σ H Q Z=>Z.k3 fun ρ h ι at' p=>?_;unfold zL at p;refine⟨ρ,h,ι,at',(step at' p).mono fun x H1 Z=>Z.k4 fun w h1 ι1 at1 e1 r1 p1=>?_⟩;obtain⟨c1,pp⟩:=ao.ite p1;clear p1;obtain⟨i,ws,rfl,ei⟩:=yt (.inr rfl) c1;cases r1;obtain⟨xs,q1,q2⟩:=at1.hr.lst ei;simp only[Tw.method,ei] at pp;cases eg:ws.getLast? with
 |none=>rw[eg] at pp;exact pp.elim
 |some y=>
  rw[eg] at pp;rw[List.getLast?_eq_getElem?] at eg;obtain⟨v,hv,rv⟩:=q2.get eg;rw[q2.length] at hv;refine⟨.inl ⟨rfl,xs,cq.of q1⟩,_,xs,v,rfl,rfl,q1,hv,?_⟩;obtain⟨hr',ex⟩:=at1.hr.put (o:=.lst xs.dropLast) (u:=.lst ws.dropLast) ei rfl rfl (fun _ z=>nomatch z) fun H' kp z=>⟨_,z,(q2.dropLast).keep kp⟩;exact pp ι1 _ v ex hr' (by have:=rv.keep (ex.keeps at1.hr);exact this)
end
section
variable {X:Cx}{E:XK}{a b c e:Expr}{pos pos' p1 p2 pos2:Pos}{da db dc:Tw.Env->Tw.Hp->Tw.R Tw.W}
noncomputable def isCall:Expr->Bool
 |.Call .. => true
 |_=>false
def Dw(h:isCall a=true):swapsWithSole [.Tuple [x,y] k p] a l env=pure false:=by cases a<;>first|rfl|cases h
def yf(h:isCall a=true):swappedStores [.Tuple [x,y] k p] a env=pure none:=by cases a<;>first|rfl|cases h
def zU(h:isCall a=true):swapsWithSole [.Tuple [x,y,z] k p] a l env=pure false:=by cases a<;>first|rfl|cases h
def vO(h:isCall a=true):swappedStores [.Tuple [x,y,z] k p] a env=pure none:=by cases a<;>first|rfl|cases h
def LR{x y z:Expr}{k0:Nat}{p:Pos}{i j k:Nat}(hg:PG X (.Tuple [x,y,z] k0 p) (E4 X.K 3 (pX (gZ i) (pX (gZ j) (pX (gZ k) DH)))))(ha:PE X a (tE (zx X E) da))(hc:isCall a=true):
  PS X (.Assign [.Tuple [x,y,z] k0 p] a pos) (cW (zx X E) fun ρ h=>(da ρ h).bind fun x h=>match x with
   |.tup [u,v,w]=>.ok (.next (((ρ.set i (some u)).set j (some v)).set k (some w))) h
   |_=>.bad):=by
 refine PS.imp (xk ha hg (zU hc) (vO hc)) fun D σ H ⟨ρ,h,ι,at',p⟩=>⟨ρ,h,ι,at',(eY at' p).mono fun x H1 ⟨w,h1,ι1,at1,e1,r1,p1⟩=>?_⟩;split at p1
 .next u v w=>
  cases r1 with
  | @tup ad xs ws ea ra=>
   cases ra with
   |cons r1 ra=>
    cases ra with
    |cons r2 ra=>
     cases ra with
     |cons r3 ra=>
      cases ra;exact⟨ad,_,rfl,TupAt.sq ea,rfl,_,_,rfl,_,_,rfl,_,_,rfl,rfl,p1.next (((at1.set r1 i).set r2 j).set r3 k)⟩
 .exact p1.elim
def Kt(hg:PG X (.Tuple [x,y] k p) g)(ht:AR (zx X E) (.two i j) g)(ha:PE X a (tE (zx X E) da))(hc:isCall a=true):
  PS X (.Assign [.Tuple [x,y] k p] a pos) (cW (zx X E) fun ρ h=>(da ρ h).bind fun x h=>match x with
   |.tup [u,v]=>.ok (.next ((ρ.set i (some u)).set j (some v))) h
   |_=>.bad):=by
 refine PS.imp (xk ha hg (Dw hc) (yf hc)) fun D σ H ⟨ρ,h,ι,at',p⟩=>⟨ρ,h,ι,at',(eY at' p).mono fun x H1 ⟨w,h1,ι1,at1,e1,r1,p1⟩=>?_⟩;split at p1
 .next u v=>exact ht ι1 h1 H1 ρ _ σ (.tup [u,v]) x _ at1 r1 rfl fun σ1 at2=>p1.next at2
 .exact p1.elim
def Nt{i:Nat}{x:Str}(hN:X.N.Nodup)(hi:X.N[i]?=some x)(hx:Loc X.env.scope x)(hf:X.fn x=true\/X.env.scope.names.lookup x=some .local)(ha:PE X a (tE (zx X E) da)):
  PS X (.AugAssign (.Name x pos') .Add a pos) (cW (zx X E) fun ρ h=>match ρ[i]? with
   |some (some (.int n))=>(da ρ h).bind fun y h=>match y with
    |.int b=>Tw.R.of ((Tw.binI .add n b).map fun c=>.next (ρ.set i (some (.int c)))) h
    |_=>.bad
   |_=>.bad):=by
 refine PS.imp (KL hN hi hx ha KY hf) fun D σ H Z=>Z.k3 fun ρ h ι at' p=>?_;dsimp only at p;split at p
 .next n en=>
  obtain⟨v,hv,rv⟩:=at'.st i _ en;cases rv;refine⟨_,hv,ρ,h,ι,at',(eY at' p).mono fun y H1 Z=>Z.k4 fun w h1 ι1 at1 e1 r1 p1=>?_⟩;cases r1 with
  |int b=>exact⟨n,b,rfl,rfl,p1.next (at1.set (.int _) i)⟩
  |_=>exact p1.elim
 .exact p.elim
def OE{tb:Tw.Env->Tw.Hp->Tw.R Tw.Fl}(hp:PassesOwn (model X.prog X.w) X.A X.env X.xe)(hc:PT X c (tT (zx X E) dc))(hb:dS X body (cW (zx X E) tb)):
  PS X (.While c body [] pos) (cW (zx X E) fun ρ h=>Tw.fq dc tb n ρ h):=by
 refine PS.imp (ED hp hc hb) fun D σ H Z=>Z.k3 fun ρ h ι at' p=>?_;refine⟨fun m σ H=>∃ρ h ι,At (zx X E) ι h H ρ σ/\bM (zx X E) ι h H (Tw.fq dc tb m ρ h) D,⟨n,ρ,h,ι,at',p⟩,?_⟩
 rintro m σ2 H2 ⟨ρ2,h2,ι2,at2,p2⟩
 cases m with
 |zero=>exact p2.elim
 |succ m=>
  unfold Tw.fq at p2;refine⟨ρ2,h2,ι2,at2,?_⟩;simp only[dT];cases e0:dc ρ2 h2 with
  |bad=>rw[e0] at p2;exact p2.elim
  |aw=>rw[e0] at p2;exact p2
  |ok w h3=>
   simp only[e0,Tw.R.aZ] at p2⊢;cases et:Tw.truth h3 w with
   |none=>rw[et] at p2;exact p2.elim
   |some k=>
    rw[et] at p2;intro ι3 H3 k' e3 r3 q;cases q;have at3:=at2.later e3 r3;cases k with
    |false=>rw[if_neg (by decide)];exact (bM.later p2 e3).next at3
    |true=>
     rw[if_pos rfl];refine⟨fun σ H=>∃ρ h ι,At (zx X E) ι h H ρ σ/\bM (zx X E) ι h H (Tw.fq dc tb m ρ h) D,fun σ' H' q=>⟨m,xP _,q⟩,ρ2,h3,ι3,at3,?_⟩;exact uE (go:=Tw.fq dc tb m) (bM.later p2 e3) fun ρ4 h4 ι4 H4 σ4 e4 at4 p4=>⟨ρ4,h4,ι4,at4,p4⟩
end
noncomputable abbrev lL(g:List (Tw.S×Int)):List (Str×KTD.Dat):=g.map fun p=>(⟨p.1.toArray⟩,.flat (.int p.2))
def ng(K:W.Frag)(a:Addr)(g:List (Tw.S×Int)):Prop:=∀h:Heap,K.In h->KTD.TextTab h a (lL g)
theorem l5(s:Tw.S):∀g:List (Tw.S×Int),KTD.datumAt (⟨s.toArray⟩:Str) (lL g)=(g.lookup s).map fun i=>KTD.Dat.flat (.int i)
 |[]=>rfl
 |(x,i)::g=>by
  show (if decide ((⟨s.toArray⟩:Str)=⟨x.toArray⟩)=true then some (KTD.Dat.flat (.int i)) else KTD.datumAt (⟨s.toArray⟩:Str) (lL g))=_;rw[l5 s g,dE];by_cases h:s=x
  .subst h;simp
  .rw[if_neg (by rw[az,str_inj];exact h)];have:(s== x)=false:=by simpa using h
   rw[this]
def zk(s:Tw.S)(g:List (Tw.S×Int)):KTD.inKeys (⟨s.toArray⟩:Str) (lL g)=(g.lookup s).isSome:=by rw[<-KTD.isSome_datumAt,l5];cases g.lookup s<;>rfl
section
variable {X:Cx}{E:XK}{a b c e y:Expr}{pos p1 p2 apos cpos:Pos}{dk:Tw.Env->Tw.Hp->Tw.R Tw.W}{t:Addr}{g:List (Tw.S×Int)}{G:Str}
def ng.here{pins:aH}{σ:L2.St}{H:L2.Hp}{s:Shared}(T:ng X.K t g)(I:Inv X pins σ H s):KTD.Here s.heap s.heap t (lL g):=⟨T s.heap I.b9,fun _ _ e=>e⟩
def xa{h:Heap}{v:Value}{i:Int}(q:KTD.Dat.At h (.flat (.int i)) v):∃t,v=.int i t:=PyProof.V.Flat.int_inv q
def NM(T:ng X.K t g):qE X (fun x y H Q=>∃s i,x=.ref t/\y=.str s/\KTD.datumAt s (lL g)=some (.flat (.int i))/\Q (.int i) H):=by
 intro value slice pins s σ H x y v u Q I rx ry ⟨z,i,ex,ey,hk,q⟩ hs;subst ex ey;cases rx;obtain⟨tk,rfl⟩:=(show ∃t,u=Value.str z t from ry);have T':=T.here I;refine tail_any (ops:=[.str z tk,.ref t]) T'.typeIs AL.lookup ?_ hs;unfold getItem
 try with_reducible refine jU ?_
 refine ag (wpAny_sequenceKey T'.typeIs (by decide) ?_);refine ag (u4 (name:=Str.ofString "__getitem__") T'.typeIs AL (rT AL T'.typeIs entry_dict_getitem ?_ (args_dict_getitem _ _)));show wpAny _ _ (dictGet t (.str z tk) >>= _) _ _ s;refine ag (KTD.dictGet_text T' (fun d v hd hv=>?_) fun hn=>by rw[hk] at hn;cases hn);rw[hk] at hd;cases hd;obtain⟨t',rfl⟩:=xa hv;exact aG ⟨_,rfl,aG ⟨.int i,H,I.tok _,⟨t',rfl⟩,q⟩⟩
def FZ(T:ng X.K t g):dz X (compareOp .In) (fun x y H Q=>∃s,x=.str s/\y=.ref t/\Q (.bl (KTD.inKeys s (lL g))) H):=by intro pins s σ H x y v u Q I rx ry ⟨z,ex,ey,q⟩;subst ex ey;cases ry;obtain⟨tk,rfl⟩:=(show ∃t,v=Value.str z t from rx);exact KTD.in_text (T.here I) ⟨.bl _,H,I.tok _,rfl,q⟩
def N6(hg:Gl X G)(hm:X.mg G=some (.ref t))(hd:(G== ("__debug__":Str))=false)(T:ng X.K t g)(hy:PE X y (tE (zx X E) dk)):
  PE X (.Compare y [.In] [.Name G p1] pos) (tE (zx X E) fun ρ h=>(dk ρ h).bind fun x h=>match x with
   |.str s=>.ok (.bl (g.lookup s).isSome) h
   |_=>.bad)/\PT X (.Compare y [.In] [.Name G p1] pos) (tT (zx X E) fun ρ h=>(dk ρ h).bind fun x h=>match x with
   |.str s=>.ok (.bl (g.lookup s).isSome) h
   |_=>.bad):=by
 have fin:∀σ H Q,tE (zx X E) (fun ρ h=>(dk ρ h).bind fun x h=>match x with
   |.str s=>.ok (.bl (g.lookup s).isSome) h
   |_=>.bad) σ H Q->zu (fun x y H Q=>∃s,x=.str s/\y=.ref t/\Q (.bl (KTD.inKeys s (lL g))) H) (tE (zx X E) dk) (tC (.ref t)) σ H Q:=fun σ H Q Z=>Z.k3 fun ρ h ι at' p=>by
  refine⟨ρ,h,ι,at',(step at' p).mono fun x H1 Z=>Z.k4 fun w h1 ι1 at1 e1 r1 p1=>?_⟩;cases r1 with
  |str z hz=>exact⟨_,rfl,rfl,by rw[zk];exact ao.self (a:=Tw.W.bl (g.lookup z).isSome) p1 at1.hr (.bl _)⟩
  |_=>exact p1.elim
 have hG:PE X (.Name G p1) (tC (.ref t)):=kf (v:=.ref t) hg hm rfl hd;refine⟨PE.imp (yA (FZ T) hy hG rfl) fin,?_⟩;refine PT.imp (yC (FZ T) hy hG rfl) fun σ H Q Z=>Z.k3 fun ρ h ι at' p=>?_;simp only[dT,bind_assoc] at p;refine⟨ρ,h,ι,at',(step at' p).mono fun x H1 Z=>Z.k4 fun w h1 ι1 at1 e1 r1 p1=>?_⟩;cases r1 with
 |str z hz=>exact⟨_,rfl,rfl,_,rfl,by rw[zk];exact ao.self (a:=(g.lookup z).isSome) p1 at1.hr rfl⟩
 |_=>exact p1.elim
def NG(hg:Gl X G)(hm:X.mg G=some (.ref t))(hd:(G== ("__debug__":Str))=false)(T:ng X.K t g)(hy:PE X y (tE (zx X E) dk))(hs:pM y):
  PE X (.Subscript (.Name G p1) y pos) (tE (zx X E) fun ρ h=>(dk ρ h).bind fun x h=>match x with
   |.str s=>Tw.R.of ((g.lookup s).map .int) h
   |_=>.bad):=by
 refine PE.imp (Gx (NM T) (kf (v:=.ref t) hg hm rfl hd) hy hs) fun σ H Q Z=>Z.k3 fun ρ h ι at' p=>?_;refine⟨ρ,h,ι,at',(step at' p).mono fun x H1 Z=>Z.k4 fun w h1 ι1 at1 e1 r1 p1=>?_⟩;cases r1 with
 |str z hz=>
  dsimp only at p1;cases e:g.lookup z with
  |none=>rw[e] at p1;exact p1.elim
  |some i=>
   rw[e] at p1;exact⟨_,i,rfl,rfl,by rw[l5,e];rfl,ao.self (a:=Tw.W.int i) p1 at1.hr (.int _)⟩
 |_=>exact p1.elim
def N4{kk:Nat}{kp:Pos}(hg:Gl X G)(hm:X.mg G=some (.ref t))(hd:(G== ("__debug__":Str))=false)(T:ng X.K t g)(me:Me X (.Name G p1) "get" apos [y,.Constant (.int 0) kk kp] cpos)(bH:backTo cpos (starEach [y,.Constant (.int 0) kk kp] X.env)=[(false,eval y X.env),(false,eval (.Constant (.int 0) kk kp) X.env)])(hy:PE X y (tE (zx X E) dk)):
  PE X (.Call (.Attribute (.Name G p1) "get" apos) [y,.Constant (.int 0) kk kp] [] cpos) (tE (zx X E) fun ρ h=>(dk ρ h).bind fun x h=>match x with
   |.str s=>.ok (.int ((g.lookup s).getD 0)) h
   |_=>.bad):=by
 intro pins s σ H Q I ⟨ρ,h,ι,at',p⟩;have hG:PE X (.Name G p1) (tC (.ref t)):=kf (v:=.ref t) hg hm rfl hd;refine wpAny_Call_method me.base me.Dl me.line PySem.F.plainAttrs_dict PySem.F.slot_dict_get PySem.F.type_dict_get (aB (hG pins s σ H (fun v H1=>v=.ref t/\H1=H) I ⟨rfl,rfl⟩) fun u s1 ⟨x,H1,I1,rx,ex,eH⟩=>?_);subst ex eH;obtain rfl:u=Value.ref t:=rx;have T1:=T.here I1;refine⟨T1.typeIs,T1.noDict,?_⟩;rw[bH];refine Et rfl (Calls.evalArgs_plain (ER (aB (hy pins s1 σ H1 _ I1 ⟨ρ,h,ι,at',step at' p⟩) fun iv s2 ⟨y',H2,I2,ry,w,h2,ι2,at2,e2,r2,p2⟩=>
  ER (aB (CD (X:=X) (i:=0) (j:=kk) (pos:=kp) pins s2 σ H2 (fun v H3=>v=.int 0/\H3=H2) I2 ⟨rfl,rfl⟩) fun fv s3 ⟨z,H3,I3,rz,ez,eH⟩=>Calls.spliced_nil ?_))))
 subst ez eH;obtain⟨tz,rfl⟩:=(show ∃t,fv=Value.int 0 t from rz);cases r2 with
 |str x hx=>
  obtain⟨tk,rfl⟩:=(show ∃t,iv=Value.str ⟨x.toArray⟩ t from ry);have q:Q (.int ((g.lookup x).getD 0)) H3:=ao.self (a:=Tw.W.int ((g.lookup x).getD 0)) p2 at2.hr (.int _);refine call_meetsIn PySem.F.slot_dict_get (T.here I3).typeIs PySem.F.entry_dict_get (PySem.F.args_dict_get_3 _ _ _) (KTD.meets_get2 (h₀:=s3.heap) (D:=lL g)) ⟨T.here I3,fun d v hd hv=>?_,fun hn=>?_⟩
  .rw[l5] at hd;cases e:g.lookup x with
   |none=>rw[e] at hd;cases hd
   |some i=>
    rw[e] at hd q;cases hd;obtain⟨t',rfl⟩:=xa hv;exact⟨.int i,H3,I3.tok _,⟨t',rfl⟩,q⟩
  .rw[l5] at hn;cases e:g.lookup x with
   |none=>rw[e] at q;exact⟨.int 0,H3,I3.tok _,⟨tz,rfl⟩,q⟩
   |some i=>rw[e] at hn;cases hn
 |_=>exact p2.elim
end
def wz(K:W.Frag)(mg:Str->Option Value)(cl:ff)(c:oQ)(F:List Tw.W->Tw.Hp->Tw.R Tw.W):Sp:=fun vs H Q E=>eN H c.cd c.q/\cO K mg cl F (vs++c.vs) H Q E
def FF(X:Cx)(CX:fP)(C:Tw.Or)(c:oQ):Prop:=∃k fd ps,bR X.prog X.w X.K X.mg X.base CX k c.g fd ps (wz X.K X.mg X.cl c (C c.f))/\cM k X.A/\Binds X.K fd ps []/\∃oc od sl,X.base.get? c.g=some ⟨oc,od,.func fd,sl⟩
def eN.later{K:Zk}{ι ι1:Nat->Addr}{h h1:Tw.Hp}(x:eN H c q)(r:HR K ι h H)(e:Ext ι h H ι1 h1 H1):eN H1 c q:=by obtain⟨oc,vs,t,e1,r1⟩:=x;refine⟨oc,vs,t,e.fr _ _ e1 (fun _ z=>nomatch z) fun i o ei m z=>?_,r1⟩;obtain⟨u,q,_,n,_⟩:=r.there ei m;rw[z,e1] at q;cases q;exact n _ _ rfl
section
variable {X:Cx}{E:XK}{CX:fP}{C:Tw.Or}{i:Nat}
def HQ{e:Expr}{es:List Expr}{ds:Tw.Env->Tw.Hp->Tw.R (List Tw.W)}(hi:X.N[i]?=some x)(hv:oE X.env.scope x)(hd:(x== ("__debug__":Str))=false)(hcd:(x== ("__classdict__":Str))=false)
  (jO:∀i c,X.cl.fs i=some c->FF X CX C c) (hx:Passes CX X E) (hs:PA X (e::es) (tA (zx X E) n ds)) (hpl:(e::es).all ax=true):
  PE X (.Call (.Name x p1) (e::es) [] pos) (tE (zx X E) fun ρ h=>match ρ[i]? with
   |some (some (Tw.W.ref a))=>match h[a]? with
    |some (.fun f ws)=>(ds ρ h).bind fun xs h=>C f (xs++ws) h
    |_=>.bad
   |_=>.bad):=by
 have bH:starEach (e::es) X.env=(false,eval e X.env)::starEach es X.env:=a9 (by rw[km,aq] at hpl;exact hpl.1);intro pins s σ H Q I ⟨ρ,h,ι,at',p⟩;dsimp only at p;cases er:ρ[i]? with
 |none=>rw[er] at p;exact p.elim
 |some ow=>
  cases ow with
  |none=>rw[er] at p;exact p.elim
  |some w=>
   cases w with
   |ref a=>
    rw[er] at p;dsimp only at p;cases ea:h[a]? with
    |none=>rw[ea] at p;exact p.elim
    |some o=>
     rw[ea] at p;cases o with
     | «fun» f ws=>
      dsimp only at p;obtain⟨v,sv,rv⟩:=at'.st i _ er;cases rv with
      |ref ha=>
       obtain⟨c,e1,e2,rfl,e4,e5⟩:=at'.hr.fn a f ws ea;obtain⟨k,fd,ps,G,hr,hb,oc,od,sl,eb⟩:=jO a c e1;rw[<-e2] at sv;refine Call_ (aB (o7 hi hv hd hcd pins s σ H (fun v H1=>v=.ref c.g/\H1=H) I ⟨_,sv,rfl,rfl⟩) fun fv s1 ⟨v,H1,I1,rv,ev,eH⟩=>?_);subst ev eH;cases rv;have at1:=at';refine W.callWith_F ⟨oc,od,fd,sl,I1.bk _ _ eb⟩ (aB (hs pos pins s1 σ H1 _ I1 ⟨ρ,h,ι,at1,step at1 p⟩) fun us s2 ⟨vs,H2,I2,r2,xs,h2,ι2,at2,x2,rr,p2⟩=>⟨⟨oc,od,fd,sl,I2.bk _ _ eb⟩,?_⟩) bH ?_
       .refine rB (ds:=[]) (dvs:=[]) G hr hb .nil hx I2 r2 ?_;rw[fK];exact⟨e5.later at1.hr x2,xs++ws,h2,ι2,at2.hr,rr.1.append (e4.keep (x2.keeps at1.hr)),p2⟩
       .rw[hZ (by rw[km,aq] at hpl;exact hpl.2)];simp[backTo]
     |_=>exact p.elim
   |_=>rw[er] at p;exact p.elim
end
section
variable {X:Cx}{E:XK}{a b c:Expr}{pos p1 p2 pos2:Pos}{da db dc:Tw.Env->Tw.Hp->Tw.R Tw.W}
end
end TwS
namespace TwS
open PySem L2 PyProof.Rows Builtin Builtin.ObjectAttr
abbrev str(x:Tw.S):Str:=⟨x.toArray⟩
structure XT(K:W.Frag)(C:Addr):Prop where
 ha:W.findIn K (.ref C) "__class__"=some (some (.builtin "object.__class__"))
 hn:W.specialIn K (.builtin "object.__class__") "__get__"=some (some (.builtin "getset_descriptor.__get__"))
 ht:W.takesIn K (.builtin "object.__class__")=some true
section
variable {prog:Program}{w:World}{A:Around}{E:aY}{s:Shared}{K:W.Frag}{x C:Addr}{ox:Obj}
def HV{Q:Option Value->Shared->Prop}(X:K.In s.heap)(I:W.InstAt s.heap x ox C od)(c:XC K C)(t:XT K C)(h:Q (some (.ref C)) {s with toks:=s.toks+1}):wpAny (model prog w) A (getAttr? (.ref x) "__class__") Q E s:=by
 obtain⟨cd,os,e1,e2,e3⟩:=c.mro;obtain⟨hh,g,d,tk,ost⟩:=s;have L0:=I.type (M:=model prog w);have L1:=uV (M:=model prog w) X c.ga;have L2:=uV (M:=model prog w) X c.gh;have hf:W.findObj K C od "__class__"=some (.bind (.builtin "getset_descriptor.__get__") (.builtin "object.__class__")):=by unfold W.findObj;rw[e1,sQ,t.ha,sQ];simp[t.hn,t.ht]
 have L3:=W.looks_find (M:=model prog w) X I hf;have LB:W.Looks (model prog w) hh (isInstance (.ref x) (.type "BaseException")) true:=L0.andThen (W.looks_mroIn X (c.sub (by decide)));have G:=PySem.F.excAttr_ValueError.ga;unfold getAttr? getAttrBy? getAttrBy;refine ag (wpAny_mkText (ag (sA (jU (ag (L0.at (ag (L1.at ?_))))))));show wpAny _ _ (getAttrByItsOwn _ _ _ _ _ _) _ _ _;unfold getAttrByItsOwn;refine ag (L2.at (ag (sA (jU ?_))));show wpAny _ _ (boundAndCalled _ _ _) _ _ _;unfold boundAndCalled;rw[G.bind];refine ag (aG (lq (codeAny_call_builtin G.plain PySem.F.entry_bexc_ga (@W.check_slot (model prog w) _ _ _ "BaseException.__getattribute__" "BaseException" "__getattribute__" (.ref x) [.str "__class__" tk] [] _ (by decide+kernel) (by decide+kernel) LB (PySem.F.args_bexc_ga _ _) ?_))));refine ag (aG (ag (aG (ag (L0.at (ag (L3.at ?_)))))));show wpAny _ _ (holding [_] (call _ [_,.ref x,.ref C]) >>= ret) _ _ _;refine ag (jU (lq (W.class_get (ox:=ox) (od:=od) X I (c.sub (by decide)) ?_)));refine aG ?_;show wpAny _ _ (handedOut (.ref C)) _ _ _;rw[W.handedOut_of rfl];exact aG (aG h)
def vG(c:XC K C)(t:XT K C):W.KitX K (.ref x) (.ref C) (fun h=>W.InstAt h x ox C od) where
 ty:=fun _ _ _ I=>I.type
 it:=fun _ _ X _=>by
  obtain⟨cd,os,e1,_⟩:=c.mro;unfold W.clsIn at e1;split at e1
  .rename_i c' d' cd' sl' ho;intro A' Q' E' s' k q;unfold isType loadHead;exact ag (wpAny_loadPart (k _ _ (X _ _ ho)) (aG q))
  .cases e1
 ne:=fun h tp dd its n sl X htp=>by
  obtain⟨cd,os,e1,_⟩:=c.mro;refine Bool.eq_false_iff.mpr fun q=>?_;have e:C=tp:=Value.ref.inj (iK.mp q);subst e;unfold W.clsIn at e1;split at e1
  .rename_i c' d' cd' sl' ho;have z:=(X _ _ ho).symm.trans htp;cases z
  .cases e1
 ca:=fun X I k=>HV X I c t k
end
section
variable {X:Cx}{pins:aH}{σ:L2.St}{H:L2.Hp}{s:Shared}
def JU(I:Inv X pins σ H s)(he:H e=some (og C dx e))(hd:XD H gs dx):∃o od,W.InstAt s.heap e o C od:=by
 obtain⟨⟨o,vs,a1,a2,a3,a4⟩,_,_⟩:=I.av e _ he;have nc:W.notCls o:=by unfold W.notCls;rw[a4]
 cases dx with
 |none=>exact⟨o,none,a1,a2,nc,by rw[a3];trivial⟩
 |some d=>
  obtain⟨mA,n1,r1⟩:=I.av d _ hd;obtain⟨od,ho,lk⟩:=uO n1;exact⟨o,some od,a1,a2,nc,by rw[a3];exact ho⟩
theorem uJ:∀{ds:List Addr}{us:List Value},Vals (ds.map V.ref) us->us=ds.map Value.ref
 |[],us,r=>by cases r;rfl
 |d::ds,us,r=>by
  cases r with
  |cons a r=>cases a;rw[uJ r];rfl
def Sy(K:W.Frag):List V->L2.Hp->VK->Prop:=fun xs H Q=>∃e C dx gs y b,xs=[V.ref e,y]/\H e=some (og C dx e)/\XD H gs dx/\XC K C/\XT K C/\
 ((∃D,y=V.ref D/\W.kitOne K (.ref C) (.ref D)=some b)\/(∃T,y=V.ty T/\W.kitOne K (.ref C) (.type T)=some b)\/∃(p:Addr) (ds:List Addr),y=V.ref p/\H p=some (.tup (ds.map V.ref))/\W.kitAny K (.ref C) (ds.map Value.ref)=some b)/\Q (.bl b) H
def vT:j3 X (.builtin "isinstance") (Sy X.K):=by
 intro pins s σ H xs us Q I r ⟨e,C,dx,gs,y,b,ex,he,hd,c,t,k,q⟩;subst ex;obtain⟨u,w',rfl,ru,rw'⟩:=vals2 r;cases ru;obtain⟨o,od,J⟩:=JU I he hd;have fin:∀tk,EP X pins σ Q (Value.bool b) {s with toks:=tk}:=fun tk=>⟨.bl b,H,I.tok tk,rfl,q⟩;rcases k with ⟨D,rfl,k⟩|⟨T,rfl,k⟩|⟨p,ds,rfl,hp,k⟩
 .cases rw';exact gp (vG c t) I.b9 J k (fun z=>nomatch z) fin
 .cases rw';exact gp (vG c t) I.b9 J k (fun z=>nomatch z) fin
 .cases rw';obtain⟨z,vs,rv,⟨oc,od',oda,osl⟩,h1,h2,n,h3⟩:=I.av p _ hp;have ev:=uJ rv;simp only at h2 h3;subst h2 h3 ev;exact W.kia_tup (vG c t) I.b9 J h1 k (fun z=>nomatch z) fin
end
def GQ:bootBuiltins "ValueError"=some (.type "ValueError"):=by decide+kernel
noncomputable def GI:List V->TA
 |[]=>wI
 |v::r=>pE (tC v) (GI r)
theorem C9:∀(vs:List V){Q:List V->L2.Hp->Prop},Q vs H->GI vs σ H Q
 |[],Q,q=>q
 |v::vs,Q,q=>C9 (σ:=σ) vs (Q:=fun xs H2=>Q (v::xs) H2) q
def ET(h:n<=100):n<=sizeLine:=by rw[gX];lia
def Kw(e:Expr):Option (Str×Expr):=(hV e).bind fun r=>if r.1=("isinstance":Str) then (nW r.2).bind fun q=>(aR q.1).map fun a=>(a,q.2) else none
def DQ(h:Kw e=some r):∃p p2 pos,e=.Call (.Name "isinstance" p) [.Name r.1 p2,r.2] [] pos:=by
 obtain⟨⟨f,as⟩,e1,h⟩:=lO.mp h;dsimp only at h;by_cases c:f=("isinstance":Str)
 .rw[if_pos c] at h;obtain⟨⟨x,y⟩,e2,h⟩:=lO.mp h;obtain⟨a,e3,rfl⟩:=sR.mp h;obtain⟨p,pos,z1⟩:=dh e1;have z2:=ja e2;obtain⟨p2,z3⟩:=aM e3;dsimp only at z1 z2 z3⊢;exact⟨p,p2,pos,by rw[z1,z2,z3,c]⟩
 .rw[if_neg c] at h;cases h
noncomputable def rY:List Str->List Expr->Bool
 |[],es=>es.isEmpty
 |n::ns,es=>(nI es).any fun r=>decide (aR r.1=some n)&&rY ns r.2
end TwS
namespace TwS
open PySem L2 PyProof.Rows
section
variable {X:Cx}{E:XK}
def BF{i:Nat}{ds cs:List Tw.S}{y:Str}{ye:Expr}{v0:V}{p p2 pos:Pos}(hg:Gl X "isinstance")(hm:X.mg "isinstance"=none)(hj:X.N[i]?=some y)(vj:oE X.env.scope y)(oj:okN y=true)(he:PE X ye (tC v0))(bH:starEach [ye] X.env=(false,eval ye X.env)::starEach [] X.env)
  (hk:∀d∈ds,∃C,X.mg (str d)=some (.ref C)/\XC X.K C/\XT X.K C/\((∃D,v0=V.ref D/\W.kitOne X.K (.ref C) (.ref D)=some (cs.contains d))\/∃T,v0=V.ty T/\W.kitOne X.K (.ref C) (.type T)=some (cs.contains d))):
  PE X (.Call (.Name "isinstance" p) [.Name y p2,ye] [] pos) (tE (zx X E) fun ρ h=>(match ρ[i]? with|some (some w)=>Tw.R.ok w h|_=>.bad).bind fun w h=>Tw.R.of ((Tw.pC w ds cs h).map .bl) h):=by
 refine PE.imp (nC vT hg hm Er (bO (o7 (i:=i) hj vj (okN.d oj).1 (okN.d oj).2) (bO he dD bH) rfl) (he:=rfl) (hpl:=by rw[bH];rfl)) fun σ H Q ⟨ρ,h,ι,at',p⟩=>?_;dsimp only at p;cases e:ρ[i]? with
 |none=>rw[e] at p;exact p.elim
 |some ow=>
  cases ow with
  |none=>rw[e] at p;exact p.elim
  |some w=>
   simp only[e,Tw.R.aZ] at p;obtain⟨v,s1,rv⟩:=at'.st i w e;cases rv with
   | @ref a ha=>
    cases ea:h[a]? with
    |none=>simp only[Tw.pC,ea] at p;exact p.elim
    |some ob=>
     cases ob with
     |aw c fs=>
      simp only[Tw.pC,ea] at p;by_cases cd:ds.contains c=true
      .rw[if_pos cd] at p;obtain⟨C,m,xc,xt,k⟩:=hk c (Fj.mp cd);obtain⟨C0,dx,gs,m0,t0,d0,rf⟩:=at'.hr.obj a _ ea;have em:C0=C:=by
        have m0:X.mg (str c)=some (.ref C0):=m0;rw[m] at m0;cases m0;rfl
       subst em;refine⟨_,s1,ι a,C0,dx,gs,v0,cs.contains c,rfl,t0,d0,xc,xt,?_,ao.self (a:=Tw.W.bl (cs.contains c)) p at'.hr (.bl _)⟩;rcases k with k|k
       .exact .inl k
       .exact .inr (.inl k)
      .rw[if_neg cd] at p;exact p.elim
     |_=>simp only[Tw.pC,ea] at p;exact p.elim
   |_=>exact p.elim
def Lh{i:Nat}{ds cs:List Tw.S}{y:Str}{ye:Expr}{as:List Addr}{p p2 pos:Pos}(hg:Gl X "isinstance")(hm:X.mg "isinstance"=none)(hj:X.N[i]?=some y)(vj:oE X.env.scope y)(oj:okN y=true)(he:PE X ye (Je (GI (as.map V.ref))))(hl:as.length<=100)(bH:starEach [ye] X.env=(false,eval ye X.env)::starEach [] X.env)
  (hk:∀d∈ds,∃C,X.mg (str d)=some (.ref C)/\XC X.K C/\XT X.K C/\W.kitAny X.K (.ref C) (as.map Value.ref)=some (cs.contains d)):
  PE X (.Call (.Name "isinstance" p) [.Name y p2,ye] [] pos) (tE (zx X E) fun ρ h=>(match ρ[i]? with|some (some w)=>Tw.R.ok w h|_=>.bad).bind fun w h=>Tw.R.of ((Tw.pC w ds cs h).map .bl) h):=by
 refine PE.imp (nC vT hg hm Er (bO (o7 (i:=i) hj vj (okN.d oj).1 (okN.d oj).2) (bO he dD bH) rfl) (he:=rfl) (hpl:=by rw[bH];rfl)) fun σ H Q ⟨ρ,h,ι,at',p⟩=>?_;dsimp only at p;cases e:ρ[i]? with
 |none=>rw[e] at p;exact p.elim
 |some ow=>
  cases ow with
  |none=>rw[e] at p;exact p.elim
  |some w=>
   simp only[e,Tw.R.aZ] at p;obtain⟨v,s1,rv⟩:=at'.st i w e;cases rv with
   | @ref a ha=>
    cases ea:h[a]? with
    |none=>simp only[Tw.pC,ea] at p;exact p.elim
    |some ob=>
     cases ob with
     |aw c fs=>
      simp only[Tw.pC,ea] at p;by_cases cd:ds.contains c=true
      .rw[if_pos cd] at p;obtain⟨C,m,xc,xt,k⟩:=hk c (Fj.mp cd);obtain⟨C0,dx,gs,m0,t0,d0,rf⟩:=at'.hr.obj a _ ea;have em:C0=C:=by
        have m0:X.mg (str c)=some (.ref C0):=m0;rw[m] at m0;cases m0;rfl
       subst em;replace p:ao (zx X E) RE ι h H (Tw.R.ok (Tw.W.bl (cs.contains c)) h) Q:=p;refine⟨_,s1,C9 _ ⟨ET (by simpa using hl),fun a4 z4=>?_⟩⟩;obtain⟨r4,e4⟩:=at'.hr.grow (o:=.tup (as.map V.ref)) z4;exact⟨ι a,C0,dx,gs,.ref a4,cs.contains c,rfl,dQ (o:=.tup (as.map V.ref)) z4 _ _ t0,XD.keep d0 (fun b u _=>dQ (o:=.tup (as.map V.ref)) z4 b u),xc,xt,.inr (.inr ⟨a4,as,rfl,bV,k⟩),p _ _ _ e4 r4 (.bl _)⟩
      .rw[if_neg cd] at p;exact p.elim
     |_=>simp only[Tw.pC,ea] at p;exact p.elim
   |_=>exact p.elim
theorem Ge:∀(ns:List Tw.S)(as:List Addr)(es:List Expr),rY (ns.map str) es=true->(∀n∈ns,Gl X (str n)/\(str n== ("__debug__":Str))=false)->(ns.map fun n=>X.mg (str n))=(as.map fun a=>some (Value.ref a))->PA X es (GI (as.map V.ref))
 |[],[],es,h,_,_=>by
  rw[zX,rY] at h;rw[bX h];exact dD
 |[],_::_,_,_,_,e=>nomatch e
 |_::_,[],_,_,_,e=>nomatch e
 |n::ns,a::as,es,h,g,e=>by
  rw[fJ,rY] at h;replace h:=ay h;obtain⟨⟨x,r⟩,e1,h⟩:=h;obtain rfl:=eK e1;simp only[aq,az] at h;obtain⟨p3,z⟩:=aM h.1;dsimp only at z⊢;rw[z];simp only[fJ,List.cons.injEq] at e;have gn:=g n (by simp);exact bO (kf gn.1 e.1 rfl gn.2) (Ge ns as r h.2 (fun m hm=>g m (by simp[hm])) e.2) rfl
end
inductive Fk where
 |fn (x:Str)
 |me (c m:Tw.S)
 |dY
 deriving DecidableEq
structure Cfg where
 fns:List Fk
 cons:List (Str×Tw.W):=[]
 nums:List (Str×List (Tw.S×Int)):=[]
 cV:List (Tw.S×List Tw.S):=[]
 hd:Bool:=false
 iY:List (Tw.S×List Tw.S):=[]
 o5:List (List Tw.S×List Tw.S):=[]
 ci:Nat->Stmt->Bool:=fun _ _=>false
 wk:Bool:=false
mutual
noncomputable def same:Tw.W->Tw.W->Bool
 |.ah,.ah=>true
 |.bl a,.bl b=>decide (a=b)
 |.int a,.int b=>decide (a=b)
 |.str a,.str b=>decide (a=b)
 |.tup xs,.tup ys=>pW xs ys
 |_,_=>false
noncomputable def pW:List Tw.W->List Tw.W->Bool
 |[],[]=>true
 |x::xs,y::ys=>same x y&&pW xs ys
 |_,_=>false
end
mutual
theorem yu:∀(x y:Tw.W),same x y=true->x=y
 |.ah,y,h=>by cases y<;>first|rfl|(simp[same] at h)
 |.bl a,y,h=>by cases y<;>simp[same] at h;rw[h]
 |.int a,y,h=>by cases y<;>simp[same] at h;rw[h]
 |.str a,y,h=>by cases y<;>simp[same] at h;rw[h]
 |.tup xs,y,h=>by
  cases y with
  |tup ys=>rw[same] at h;rw[wV xs ys h]
  |_=>simp[same] at h
 |.ref a,y,h=>by cases y<;>simp[same] at h
 |.lst a,y,h=>by cases y<;>simp[same] at h
theorem wV:∀(xs ys:List Tw.W),pW xs ys=true->xs=ys
 |[],[],_=>rfl
 |[],_::_,h=>by simp[pW] at h
 |_::_,[],h=>by simp[pW] at h
 |x::xs,y::ys,h=>by
  rw[pW,aq] at h;rw[yu x y h.1,wV xs ys h.2]
end
def DX(cf:Cfg)(x:Str)(w:Tw.W):Bool:=match cf.cons.lookup x with
 |some u=>same u w
 |none=>false
def dy:Tw.S:=[95,95,105,110,105,116,95,95]
noncomputable def PY:Tw.Op->Operator
 |.add=>.Add | .sub=>.Sub | .mul=>.Mult | .fdiv=>.FloorDiv | .mod=>.Mod | .pow=>.Pow
noncomputable def Gn:Tw.Cp->CmpOp
 |.eq=>.Eq | .ne=>.NotEq | .lt=>.Lt | .le=>.LtE | .gt=>.Gt | .ge=>.GtE | .isin=>.In | .notin=>.NotIn | .notN=>.IsNot
noncomputable def JW:Tw.W->Const->Bool
 |.ah,.none=>true
 |.bl b,.bool c=>b== c
 |.int i,.int j=>decide (i=j)
 |.str x,.str y=>decide (y.cps.toList=x)&&x.all (fun c=>decide (c<0x110000))
 |_,_=>false
noncomputable def bN:Tw.B->Str
 |.len=>"len" | .list=>"list" | .tuple=>"tuple" | .int=>"int"
noncomputable def mN:Tw.Mt->Str
 |.append=>"append" | .pop=>"pop" | .rev=>"reverse"
noncomputable def Dl:Tw.Mt->Nat->Bool
 |.append,1=>true | .pop,0=>true | .rev,0=>true
 |_,_=>false
noncomputable def LG:Expr->Bool
 |.IfExp .. => false
 |_=>true
def dX(e:Expr):Bool:=ax e&&LG e
def iX(x:Str):Bool:=!(x== ("__debug__":Str))
def dG(h:iX x=true):(x== ("__debug__":Str))=false:=by unfold iX at h;simpa using h
noncomputable def isNil:Tw.Es->Bool
 |.nil=>true
 |_=>false
def SM(e:Expr):Bool:=(mh e).any fun c=>match c with | .int i=>decide (i=0)|_=>false
mutual
noncomputable def aE(cf:Cfg)(sc:Sc)(N:List Str):Tw.E->Expr->Bool
 |.var i,e=>(aR e).any fun x=>decide (N[i]?=some x)&&sW sc x&&iX x&&!(x== ("__classdict__":Str))
 |.cst w,e=>(mh e).any (fun c=>JW w c) || (aR e).any fun x=>fO sc x&&iX x&&DX cf x w
 |.tup es,e=>(mV e).any fun xs=>fM cf sc N es xs&&decide (xs.length<=1000)
 |.lst es,e=>(FI e).any fun xs=>fM cf sc N es xs&&decide (xs.length<=1000)
 |.fD es,e=>(CI e).any fun r=>r.1.isEmpty&&r.2.isEmpty&&isNil es
 |.bin op a b,e=>(Fz e).any fun r=>decide (r.2.1=PY op)&&aE cf sc N a r.1&&aE cf sc N b r.2.2
 |.cmp op a b,e=>(zY e).any fun r=>decide (r.2.1=[Gn op])&&(gF r.2.2).any fun y=>ax y&&aE cf sc N a r.1&&aE cf sc N b y
 |.and a b,e=>(vy e).any fun r=>vi r.1&&(nI r.2.1).any fun q=>(nI q.2).any fun s=>dX q.1&&aE cf sc N a q.1&&(if s.2.isEmpty then dX s.1&&aE cf sc N b s.1 else aE cf sc N b (.BoolOp .And (s.1::s.2) r.2.2))
 |.or a b,e=>(vy e).any fun r=>!(vi r.1)&&(nI r.2.1).any fun q=>(nI q.2).any fun s=>dX q.1&&aE cf sc N a q.1&&(if s.2.isEmpty then dX s.1&&aE cf sc N b s.1 else aE cf sc N b (.BoolOp .Or (s.1::s.2) r.2.2))
 |.not a,e=>(Lj e).any fun r=>GK r.1&&dX r.2&&aE cf sc N a r.2
 |.ite c a b,e=>(Lb e).any fun r=>dX r.1&&aE cf sc N c r.1&&aE cf sc N a r.2.1&&aE cf sc N b r.2.2
 |.idx a b,e=>(pO e).any fun r=>ax r.2&&aE cf sc N a r.1&&aE cf sc N b r.2
 |.sl a lo hi,e=>(pO e).any fun r=>(Gb r.2).any fun s=>s.2.2.isNone&&aE cf sc N a r.1&&zS cf sc N lo s.1&&zS cf sc N hi s.2.1
 |.call f es,e=>(hV e).any fun r=>decide (cf.fns[f]?=some (.fn r.1))&&fO sc r.1&&iX r.1&&!(r.2.isEmpty)&&fM cf sc N es r.2
 |.blt b a,e=>!cf.hd&&(hV e).any fun r=>(gF r.2).any fun y=>decide (r.1=bN b)&&fO sc r.1&&ax y&&aE cf sc N a y
 |.fB m o es,e=>(Av e).any fun r=>decide (r.2.1=mN m)&&Dl m r.2.2.2.1.length&&(r.2.2.1.endLine== r.2.2.2.2.line)&&ax r.1&&mO r.1&&aE cf sc N o r.1&&fM cf sc N es r.2.2.2.1
 |.comp el it c,e=>!cf.hd&&(xF e).any fun r=>(zT r.2.1).any fun g=>(aR g.1).any fun x=>Ac N sc [x] r.2.2.1&&decide (c9 N [x]).Nodup&&ax g.2.1&&Be cf sc N false it g.2.1&&aE cf r.2.2.1.names (c9 N [x]) el r.1&&
   (match c with
    |.none=>g.2.2.isEmpty
    |.some d=>(gF g.2.2).any fun z=>dX z&&aE cf r.2.2.1.names (c9 N [x]) d z)
 |.bad,_=>true
 |.fld a x,e=>(oN e).any fun r=>decide (r.2.1=⟨x.toArray⟩)&&zw.contains r.2.1&&ax r.1&&mO r.1&&aE cf sc N a r.1
 |.mk c f es,e=>(hV e).any fun r=>decide (r.1=⟨c.toArray⟩)&&decide (cf.fns[f]?=some (.me c dy))&&fO sc r.1&&iX r.1&&fM cf sc N es r.2
 |.iW a ns ds cs,e=>match a with
  |.var i=>(Kw e).any fun r=>decide (N[i]?=some r.1)&&sW sc r.1&&okN r.1&&fO sc "isinstance" && decide ((ns,cs)∈cf.o5)&&ds.all (fun d=>(cf.cV.lookup d).isSome)&&((aR r.2).any (fun x=>decide (ns.map str=[x])&&fO sc x&&iX x) || (mV r.2).any fun es=>decide (2<=ns.length)&&decide (ns.length<=100)&&rY (ns.map str) es&&ns.all fun n=>fO sc (str n)&&iX (str n))
  |_=>false
 |.nE i es,e=>!cf.hd&&(hV e).any fun r=>decide (N[i]?=some r.1)&&sW sc r.1&&iX r.1&&!(r.1== ("__classdict__":Str))&&!(r.2.isEmpty)&&fM cf sc N es r.2
 |.own o c m f es,e=>(Av e).any fun r=>decide (r.2.1=⟨m.toArray⟩)&&decide (cf.fns[f]?=some (.me c m))&&decide (m≠dy)&&(r.2.2.1.endLine== r.2.2.2.2.line)&&decide (r.2.2.2.1.length<20)&&ax r.1&&mO r.1&&aE cf sc N o r.1&&fM cf sc N es r.2.2.2.1
 |.uk a,e=>(hV e).any fun r=>(nW r.2).any fun q=>decide (r.1=("isinstance":Str))&&fO sc r.1&&ax q.1&&(aR q.2).any (fun x=>decide (x=("bool":Str))&&fO sc x)&&aE cf sc N a q.1
 |.rC k g,e=>(zY e).any fun r=>decide (r.2.1=[.In])&&(gF r.2.2).any fun y=>(aR y).any fun x=>decide (cf.nums.lookup x=some g)&&fO sc x&&iX x&&aE cf sc N k r.1
 |.sD k g,e=>(pO e).any fun r=>(aR r.1).any fun x=>decide (cf.nums.lookup x=some g)&&fO sc x&&iX x&&ax r.2&&aE cf sc N k r.2
 |.jB k g,e=>(Av e).any fun r=>decide (r.2.1=("get":Str))&&(r.2.2.1.endLine== r.2.2.2.2.line)&&(aR r.1).any fun x=>decide (cf.nums.lookup x=some g)&&fO sc x&&iX x&&(nW r.2.2.2.1).any fun q=>SM q.2&&ax q.1&&aE cf sc N k q.1
noncomputable def fM(cf:Cfg)(sc:Sc)(N:List Str):Tw.Es->List Expr->Bool
 |.nil,xs=>xs.isEmpty
 |.cons e es,xs=>(nI xs).any fun r=>ax r.1&&aE cf sc N e r.1&&fM cf sc N es r.2
noncomputable def zS(cf:Cfg)(sc:Sc)(N:List Str):Tw.Eo->Option Expr->Bool
 |.none,o=>o.isNone
 |.some e,o=>o.any fun x=>aE cf sc N e x
noncomputable def Be(cf:Cfg)(sc:Sc)(N:List Str)(tp:Bool):Tw.It->Expr->Bool
 |.seq a,e=>aE cf sc N a e
 |.ml a,e=>(hV e).any fun r=>(gF r.2).any fun y=>decide (r.1=("range":Str))&&fO sc r.1&&ax y&&aE cf sc N a y
 |.tm a b,e=>(hV e).any fun r=>(nW r.2).any fun q=>decide (r.1=("range":Str))&&fO sc r.1&&ax q.1&&ax q.2&&aE cf sc N a q.1&&aE cf sc N b q.2
 |.rev a,e=>(hV e).any fun r=>(gF r.2).any fun y=>decide (r.1=("reversed":Str))&&fO sc r.1&&ax y&&aE cf sc N a y
end
noncomputable def cL:List Str:=["len","list","tuple","int","bool","isinstance","range","reversed"]
structure qV(K:W.Frag)(mg:Str->Option Value)(cf:Cfg):Prop where
 exc:∀c fs,cf.cV.lookup c=some fs->∃C,mg (str c)=some (.ref C)/\XC K C/\XT K C
 iY:∀n cs,(n,cs)∈cf.iY->∃D,mg (str n)=some (.ref D)/\∀c fs C,cf.cV.lookup c=some fs->mg (str c)=some (.ref C)->W.exmOne K (.ref C) (.ref D)=some (cs.contains c)
 o5:∀ns cs,(ns,cs)∈cf.o5->(∃n D,ns=[n]/\mg (str n)=some (.ref D)/\∀c fs C,cf.cV.lookup c=some fs->mg (str c)=some (.ref C)->W.kitOne K (.ref C) (.ref D)=some (cs.contains c))\/
  (ns.map str=[("ValueError":Str)]/\mg "ValueError"=none/\∀c fs C,cf.cV.lookup c=some fs->mg (str c)=some (.ref C)->W.kitOne K (.ref C) (.type "ValueError")=some (cs.contains c))\/
  ∃as:List Addr,2<=ns.length/\(ns.map fun n=>mg (str n))=(as.map fun a=>some (Value.ref a))/\∀c fs C,cf.cV.lookup c=some fs->mg (str c)=some (.ref C)->W.kitAny K (.ref C) (as.map Value.ref)=some (cs.contains c)
structure fR(cf:Cfg)(C:Tw.Or)(CX:fP)(E:XK)(X:Cx):Prop where
 calm:cf.hd=false->X.calm=true
 units:X.A.units+950<cLine
 own:∀f x,cf.fns[f]?=some (.fn x)->∃k g fd ps,bR X.prog X.w X.K X.mg X.base CX k g fd ps (cO X.K X.mg X.cl (C f))/\cM k X.A/\X.mg x=some (.ref g)/\W.keepIn X.K (.ref g)=true/\Binds X.K fd ps []
 me:∀f c m,cf.fns[f]?=some (.me c m)->m≠dy->∃k g fd ps A,bR X.prog X.w X.K X.mg X.base CX k g fd ps (cO X.K X.mg X.cl (C f))/\cM k X.A/\X.mg ⟨c.toArray⟩=some (.ref A)/\GoodC X.K A/\Meth X.K A ⟨m.toArray⟩ g/\Binds X.K fd ps []
 nM:∀f c,cf.fns[f]?=some (.me c dy)->∃k g fd ps A,bR X.prog X.w X.K X.mg X.base CX k g fd ps (cO X.K X.mg X.cl (C (f+1000)))/\cM (k+1) X.A/\X.mg ⟨c.toArray⟩=some (.ref A)/\GoodC X.K A/\Mk X.K A g/\Binds X.K fd ps []
 num:∀x g,cf.nums.lookup x=some g->∃t,X.mg x=some (.ref t)/\ng X.K t g
 con:∀x w,cf.cons.lookup x=some w->∃v u,X.mg x=some u/\RelV v u/\∀ι n H,RW X.K ι n H w v
 blt:∀x∈cL,X.mg x=none
 xf:qV X.K X.mg cf
 pass:Passes CX X E
 never:∀outer H s e s',¬ CX outer H s E0 e s'
 jO:cf.hd=false->∀i c,X.cl.fs i=some c->FF X CX C c
def fR.comp(r:fR cf C CX E X):fR cf C CX E0 (br X scope c x s H pins fp):=
 ⟨r.calm,r.units,r.own,r.me,r.nM,r.num,r.con,r.blt,r.xf,fun _ _ _ _ _ _ _ h=>(r.never _ _ _ _ _ h).elim,r.never,r.jO⟩
def fR.CY(r:fR cf C CX E X):fR cf C CX E0 X.CY:=
 ⟨r.calm,r.units,r.own,r.me,r.nM,r.num,r.con,r.blt,r.xf,fun _ _ _ _ _ _ _ h=>(r.never _ _ _ _ _ h).elim,r.never,r.jO⟩
abbrev Qj(cf:Cfg):Cfg:={cf with fns:=[],hd:=true}
def fR.hd(r:fR cf C CX E X)(v:Value):fR (Qj cf) C CX E0 (hX X v):=
 ⟨fun z=>(nomatch z),r.units,fun f x e=>(by simp at e),fun f c m e=>(by simp at e),fun f c e=>(by simp at e),r.num,r.con,r.blt,⟨r.xf.exc,r.xf.iY,r.xf.o5⟩,fun _ _ _ _ _ _ _ h=>(r.never _ _ _ _ _ h).elim,r.never,fun z=>nomatch z⟩
section
variable {cf:Cfg}{C:Tw.Or}{CX:fP}{E:XK}
def SE(C:Tw.Or)(E:XK)(X:Cx)(t:Tw.E)(e:Expr):Prop:=PE X e (tE (zx X E) (Tw.af C t))/\(dX e=true->PT X e (tT (zx X E) (Tw.af C t)))
def BK(h:dX e=true):ax e=true:=by unfold dX at h;rw[aq] at h;exact h.1
def SE.val(h:PE X e (tE (zx X E) (Tw.af C t)))(hv:FN e=true):SE C E X t e:=⟨h,fun hp=>HA h (CF (BK hp) hv)⟩
def Jv(h:JW w c=true):SE C E X (.cst w) (.Constant c k p):=by
 refine SE.val ?_ rfl;rw[show Tw.af C (.cst w)=fun _ h=>.ok w h from by funext ρ h;rw[Tw.zb]];cases w with
 |ah=>cases c<;>first|exact rX MB fun _ _ _=>.ah|exact absurd (show false=true from h) kx
 |bl b=>
  cases c with
  |bool b'=>
   have h:(b== b')=true:=h;rw[iK] at h;subst h;exact rX Nz fun _ _ _=>.bl _
  |_=>exact absurd (show false=true from h) kx
 |int i=>
  cases c with
  |int j=>
   have h:decide (i=j)=true:=h;rw[az] at h;subst h;exact rX CD fun _ _ _=>.int _
  |_=>exact absurd (show false=true from h) kx
 |str x=>
  cases c with
  |str y=>
   have h:(decide (y.cps.toList=x)&&x.all (fun c=>decide (c<0x110000)))=true:=h;simp only[aq,az,kE] at h;obtain⟨rfl,h2⟩:=h;obtain⟨y⟩:=y;exact rX C7 fun ι n H=>by
    have:=RW.str (K:=X.K) (ι:=ι) (n:=n) (H:=H) y.toList h2;simpa using this
  |_=>exact absurd (show false=true from h) kx
 |_=>exact absurd (show false=true from h) kx
def J5(R:fR cf C CX E X)(hg:Gl X x)(hd:(x== ("__debug__":Str))=false)(h:DX cf x w=true):SE C E X (.cst w) (.Name x p):=by
 unfold DX at h;cases e:cf.cons.lookup x with
 |none=>rw[e] at h;exact absurd h kx
 |some u=>
  rw[e] at h;have e2:=yu u w h;subst e2;obtain⟨v,val,hm,rv,rw'⟩:=R.con x u e;refine SE.val ?_ rfl;rw[show Tw.af C (.cst u)=fun _ h=>.ok u h from by funext ρ h;rw[Tw.zb]];exact rX (kf hg hm rv hd) rw'
def PT.bool(h:PT X (.BoolOp op xs p) t):PW X (.BoolOp op xs p) t:=fun _=>h
def no{P:Prop}(h:false=true):P:=absurd h kx
def Ki(R:fR cf C CX E X)(ha:SE C E X a x)(hb:SE C E X b y)(hp:ax y=true):SE C E X (.cmp op a b) (.Compare x [Gn op] [y] p):=by
 have hu:X.A.units+1<cLine:=by have:=R.units;lia
 have key:∀{r:R2},dz X (compareOp (Gn op)) r->(∀(ι:Nat->Addr)(h:Tw.Hp)(H:L2.Hp)(w u:Tw.W)(x y:V)(k:Bool)(Q:VK),HR (zx X E) ι h H->RW X.K ι h.length H w x->RW X.K ι h.length H u y->Tw.cmp op w u h=some k->Q (.bl k) H->r x y H Q)->SE C E X (.cmp op a b) (.Compare x [Gn op] [y] p):=fun {r} ho hr=>by
  have z:=I8 (pos:=p) (op:=op) ho hr ha.1 hb.1 (yc _ hp);have e:Tw.af C (.cmp op a b)=fun ρ h=>(Tw.af C a ρ h).bind fun x h=>(Tw.af C b ρ h).bind fun y h=>Tw.R.of ((Tw.cmp op x y h).map .bl) h:=by funext ρ h;rw[Tw.HD]
  unfold SE;rw[e];exact⟨z.1,fun _=>z.2⟩
 cases op with
 |eq=>exact key (Kk (E:=E) R.units) R7
 |ne=>exact key (IT (E:=E) R.units) QY
 |lt=>exact key Oe (uW fun w u h=>by cases w<;>cases u<;>rfl)
 |le=>exact key NR (uW fun w u h=>by cases w<;>cases u<;>rfl)
 |gt=>exact key Nl (uW (f:=fun i j=>decide (j<i)) fun w u h=>by cases w<;>cases u<;>rfl)
 |ge=>exact key Oj (uW (f:=fun i j=>decide (j<=i)) fun w u h=>by cases w<;>cases u<;>rfl)
 |isin=>exact key (LU (E:=E) (by have:=R.units;lia)) QB
 |notin=>exact key (BE (E:=E) (by have:=R.units;lia)) Il
 |notN=>exact key GU L7
def Mo(ha:SE C E X a x)(hb:SE C E X b y):SE C E X (.bin op a b) (.BinOp x (PY op) y p):=by
 refine SE.val ?_ rfl;rw[show Tw.af C (.bin op a b)=fun ρ h=>(Tw.af C a ρ h).bind fun x h=>(Tw.af C b ρ h).bind fun y h=>Tw.bin op x y h from by funext ρ h;rw[Tw.Ih]];cases op with
 |add=>exact ND ha.1 hb.1
 |sub=>exact N2 ha.1 hb.1
 |mul=>exact Nj ha.1 hb.1
 |fdiv=>exact LQ ha.1 hb.1
 |mod=>exact M5 ha.1 hb.1
 |pow=>exact Og ha.1 hb.1
def BO(ha:SE C E X a x)(hx:dX x=true)(hb:PE X (.BoolOp .And (y::r) p) (tE (zx X E) (Tw.af C b)))(hw:PW X (.BoolOp .And (y::r) p) (tT (zx X E) (Tw.af C b))):
  SE C E X (.and a b) (.BoolOp .And (x::y::r) p):=by
 have e:Tw.af C (.and a b)=BC (Tw.af C a) (Tw.af C b):=by funext ρ h;rw[Tw.H9];rfl
 unfold SE;rw[e];exact⟨N7 ha.1 hb,fun _=>(w_and (ha.2 hx) hw).pt⟩
def GN(ha:SE C E X a x)(hx:dX x=true)(hb:PE X (.BoolOp .Or (y::r) p) (tE (zx X E) (Tw.af C b)))(hw:PW X (.BoolOp .Or (y::r) p) (tT (zx X E) (Tw.af C b))):
  SE C E X (.or a b) (.BoolOp .Or (x::y::r) p):=by
 have e:Tw.af C (.or a b)=FX (Tw.af C a) (Tw.af C b):=by funext ρ h;rw[Tw.K9];rfl
 unfold SE;rw[e];exact⟨RS ha.1 hb,fun _=>(w_or (ha.2 hx) hw).pt⟩
def La(ha:SE C E X a x)(hx:dX x=true):SE C E X (.not a) (.UnaryOp .Not x p):=by
 have e:Tw.af C (.not a)=fun ρ h=>(Tw.af C a ρ h).bind fun x h=>Tw.R.of ((Tw.truth h x).map fun b=>.bl (!b)) h:=by funext ρ h;rw[Tw.He]
 unfold SE;rw[e];have z:=Om (pos:=p) ha.1 (ha.2 hx);exact⟨z.1,fun _=>z.2⟩
def Ji(R:fR cf C CX E X)(cal:X.calm=true)(hg:Gl X (bN b))(ha:SE C E X a y)(hy:ax y=true):SE C E X (.blt b a) (.Call (.Name (bN b) p) [y] [] pos):=by
 refine SE.val ?_ rfl;rw[show Tw.af C (.blt b a)=fun ρ h=>(Tw.af C a ρ h).bind fun x h=>Tw.builtin b x h from by funext ρ h;rw[Tw.HJ]];have bH:starEach [y] X.env=(false,eval y X.env)::starEach [] X.env:=a9 hy;cases b with
 |len=>exact vk (nC wM hg (R.blt _ (by simp[cL,bN])) PySem.boot_len (bO ha.1 dD bH) (by decide) (by decide) bH rfl) IU
 |tuple=>exact vk (pq CJ hg (R.blt _ (by simp[cL,bN])) PyProof.Rows.boot_tuple (bO ha.1 dD bH) (by decide) (by decide) bH rfl) D4
 |list=>exact vk (pq xm hg (R.blt _ (by simp[cL,bN])) PyProof.Rows.boot_list (bO ha.1 dD bH) (by decide) (by decide) bH rfl) Ig
 |int=>exact vk (pq Cw hg (R.blt _ (by simp[cL,bN])) PyProof.Rows.boot_int (bO ha.1 dD bH) (by decide) (by decide) bH rfl) Ll
def A9(hv:ax v=true)(hn:mO v=true)(hl:(ap.endLine== cp.line)=true)(bH:starEach ys X.env=ys.map fun y=>(false,eval y X.env))(hy:ys.length<20):Me X v x ap ys cp:=by
 refine⟨jX hv hn,?_,hl⟩;rw[bH];simp only[backTo,List.map_map,aq];refine⟨⟨by simp,rfl⟩,?_⟩;rw[az];show ys.length+0+0<30
 lia
end
section
variable {cf:Cfg}{C:Tw.Or}{CX:fP}{E:XK}
def za(ha:SE C E X a x)(hx:dX x=true)(op:BoolOp):PE X (.BoolOp op [x] p) (tE (zx X E) (Tw.af C a))/\PW X (.BoolOp op [x] p) (tT (zx X E) (Tw.af C a)):=by
 refine⟨Js ha.1,?_⟩;cases op with
 |And=>exact Hh (ha.2 hx)
 |Or=>exact KS (ha.2 hx)
def EW(N:List Str)(x:List Str)(i:Nat):(c9 N x)[N.length+i]?=x[i]?:=by unfold c9;rw[mZ (by simp)];simp
def vV(hnd:(c9 X.N [x]).Nodup)(cs:gP X.N X.env.scope [x] scope):∀C s H pins fp,PG (br X scope C [x] s H pins fp) (.Name x px) (gZ X.N.length):=fun C s H pins fp=>
 sS hnd (show (c9 X.N [x])[X.N.length]?=some x by have:=EW X.N [x] 0;simpa using this) (.inl (lookup_relabel_local (cs.iW x (by simp)))) (.inr (lookup_relabel_local (cs.iW x (by simp))))
def Cv(h:vi o=true):o=.And:=by cases o<;>first|rfl|cases h
def Fd(h:vi o=false):o=.Or:=by cases o<;>first|rfl|cases h
def cn(h:fM cf sc N .nil ys=true):ys=[]:=by exact bX h
def cc(h:fM cf sc N (.cons t ts) ys=true):∃y r,ys=y::r/\ax y=true/\aE cf sc N t y=true/\fM cf sc N ts r=true:=by replace h:=ay h;obtain⟨⟨x,r⟩,e1,h⟩:=h;simp only[aq] at h;exact⟨x,r,eK e1,h.1.1,h.1.2,h.2⟩
def Qu(m:Tw.Mt)(o:Tw.E):Tw.af C (.fB m o .nil)=zL m (Tw.af C o):=by
 funext ρ h;rw[Tw.zB];unfold zL
 congr 1
def Ri(m:Tw.Mt)(o e1:Tw.E):Tw.af C (.fB m o (.cons e1 .nil))=IL m (Tw.af C o) (Tw.af C e1):=by
 funext ρ h;rw[Tw.zB];unfold IL
 congr 1
 funext x h
 congr 1
 rw[Tw.lG];cases Tw.af C e1 ρ h with
 |ok a h=>simp
 |_=>rfl
def zi{sc:Sc}{N:List Str}{el:Tw.E}{it:Tw.It}{c:Tw.Eo}{e:Expr}(h:aE cf sc N (.comp el it c) e=true):(!cf.hd)=true/\((xF e).any fun r=>(zT r.2.1).any fun g=>(aR g.1).any fun x=>Ac N sc [x] r.2.2.1&&decide (c9 N [x]).Nodup&&ax g.2.1&&Be cf sc N false it g.2.1&&aE cf r.2.2.1.names (c9 N [x]) el r.1&&
   (match c with
    |.none=>g.2.2.isEmpty
    |.some d=>(gF g.2.2).any fun z=>dX z&&aE cf r.2.2.1.names (c9 N [x]) d z))=true:=by
 cases c<;>exact zI.mp h
mutual
theorem aO:∀(t:Tw.E){E:XK}{sc:Sc}{N:List Str}{X:Cx}{e:Expr},fR cf C CX E X->dW sc N X->aE cf sc N t e=true->SE C E X t e
 |.var i,E,sc,N,X,e,R,S,h=>by
  replace h:=ay h;obtain⟨x,e1,h⟩:=h;obtain⟨p,rfl⟩:=aM e1;simp only[aq,az,iT] at h;refine SE.val ?_ rfl;exact Ni (by rw[S.n];exact h.1.1.1) (S.lR x h.1.1.2) (dG h.1.2) h.2
 |.cst w,E,sc,N,X,e,R,S,h=>by
  replace h:=(vw _ _).mp h;rcases h with h|h
  .replace h:=ay h;obtain⟨c,e1,h⟩:=h;obtain⟨k,p,rfl⟩:=lQ e1;exact Jv h
  .replace h:=ay h;obtain⟨x,e1,h⟩:=h;obtain⟨p,rfl⟩:=aM e1;simp only[aq] at h;exact J5 R (S.gl _ h.1.1) (dG h.1.2) h.2
 |.tup es,E,sc,N,X,e,R,S,h=>by
  replace h:=ay h;obtain⟨xs,e1,h⟩:=h;obtain⟨k,p,rfl⟩:=ly e1;simp only[aq,az] at h;obtain⟨_,z⟩:=k6 es R S h.1;refine SE.val ?_ rfl;exact NH z (by rw[gX];lia)
 |.lst es,E,sc,N,X,e,R,S,h=>by
  replace h:=ay h;obtain⟨xs,e1,h⟩:=h;obtain⟨p,rfl⟩:=C2 e1;simp only[aq,az] at h;obtain⟨_,z⟩:=k6 es R S h.1;refine SE.val ?_ rfl;exact NQ z (by rw[gX];lia)
 |.fD es,E,sc,N,X,e,R,S,h=>by
  replace h:=ay h;obtain⟨⟨ks,vs⟩,e1,h⟩:=h;obtain⟨p,rfl⟩:=AY e1;simp only[aq] at h;obtain⟨⟨h1,h2⟩,h3⟩:=h;obtain rfl:=bX (show ks.isEmpty=true from h1);obtain rfl:=bX (show vs.isEmpty=true from h2);cases es with
  |cons _ _=>exact no h3
  |nil=>
   refine SE.val ?_ rfl;have e:Tw.af C (.fD .nil)=Qt []:=by funext ρ h;rw[Tw.GW,Tw.xH];rfl
   rw[e];exact J0
 |.bin op a b,E,sc,N,X,e,R,S,h=>by
  replace h:=ay h;obtain⟨⟨x,o,y⟩,e1,h⟩:=h;obtain⟨p,rfl⟩:=C3 e1;simp only[aq,az] at h;obtain⟨⟨rfl,h1⟩,h2⟩:=h;exact Mo (aO a R S h1) (aO b R S h2)
 |.cmp op a b,E,sc,N,X,e,R,S,h=>by
  replace h:=ay h;obtain⟨⟨x,os,ys⟩,e1,h⟩:=h;obtain⟨p,rfl⟩:=uH e1;simp only[aq,az] at h;obtain⟨rfl,h⟩:=h;replace h:=ay h;obtain⟨y,e2,h⟩:=h;obtain rfl:=dH e2;simp only[aq] at h;exact Ki R (aO a R S h.1.2) (aO b R S h.2) h.1.1
 |.and a b,E,sc,N,X,e,R,S,h=>by
  replace h:=ay h;obtain⟨⟨o,xs,p⟩,e1,h⟩:=h;obtain rfl:=rL e1;simp only[aq] at h;obtain⟨h0,h⟩:=h;obtain rfl:=Cv h0;replace h:=ay h;obtain⟨⟨x,r⟩,e2,h⟩:=h;obtain rfl:=eK e2;replace h:=ay h;obtain⟨⟨y,r⟩,e3,h⟩:=h;obtain rfl:=eK e3;simp only[aq] at h;obtain⟨⟨h0,h1⟩,h2⟩:=h;cases c:r.isEmpty with
  |true=>
   obtain rfl:=bX c;have h2:(dX y&&aE cf sc N b y)=true:=h2;rw[aq] at h2;have z:=za (p:=p) (aO b R S h2.2) h2.1 .And;exact BO (aO a R S h1) h0 z.1 z.2
  |false=>
   rw[c,if_neg (by decide)] at h2;have z:=aO b R S h2;exact BO (aO a R S h1) h0 z.1 (PT.bool (z.2 rfl))
 |.or a b,E,sc,N,X,e,R,S,h=>by
  replace h:=ay h;obtain⟨⟨o,xs,p⟩,e1,h⟩:=h;obtain rfl:=rL e1;simp only[aq,iT] at h;obtain⟨h0,h⟩:=h;obtain rfl:=Fd h0;replace h:=ay h;obtain⟨⟨x,r⟩,e2,h⟩:=h;obtain rfl:=eK e2;replace h:=ay h;obtain⟨⟨y,r⟩,e3,h⟩:=h;obtain rfl:=eK e3;simp only[aq] at h;obtain⟨⟨h0,h1⟩,h2⟩:=h;cases c:r.isEmpty with
  |true=>
   obtain rfl:=bX c;have h2:(dX y&&aE cf sc N b y)=true:=h2;rw[aq] at h2;have z:=za (p:=p) (aO b R S h2.2) h2.1 .Or;exact GN (aO a R S h1) h0 z.1 z.2
  |false=>
   rw[c,if_neg (by decide)] at h2;have z:=aO b R S h2;exact GN (aO a R S h1) h0 z.1 (PT.bool (z.2 rfl))
 |.not a,E,sc,N,X,e,R,S,h=>by
  replace h:=ay h;obtain⟨⟨o,x⟩,e1,h⟩:=h;obtain⟨p,rfl⟩:=EO e1;simp only[aq] at h;obtain⟨⟨h0,h1⟩,h2⟩:=h;obtain rfl:=Dh h0;exact La (aO a R S h2) h1
 |.ite c a b,E,sc,N,X,e,R,S,h=>by
  replace h:=ay h;obtain⟨⟨z,x,y⟩,e1,h⟩:=h;obtain⟨p,rfl⟩:=E6 e1;simp only[aq] at h;obtain⟨⟨⟨h0,h1⟩,h2⟩,h3⟩:=h;refine⟨?_,fun z=>?_⟩
  .rw[show Tw.af C (.ite c a b)=fun ρ h=>(Tw.af C c ρ h).bind fun x h=>match Tw.truth h x with
    |some true=>Tw.af C a ρ h
    |some false=>Tw.af C b ρ h
    |none=>.bad from by funext ρ h;rw[Tw.Hy]<;>rfl]
   exact Oz ((aO c R S h1).2 h0) (aO a R S h2).1 (aO b R S h3).1
  .simp[dX,LG] at z
 |.idx a b,E,sc,N,X,e,R,S,h=>by
  replace h:=ay h;obtain⟨⟨x,y⟩,e1,h⟩:=h;obtain⟨p,rfl⟩:=lg e1;simp only[aq] at h;refine SE.val ?_ rfl;exact Ot (by have:=R.units;lia) (aO a R S h.1.2).1 (aO b R S h.2).1 (wH h.1.1)
 |.sl a lo hi,E,sc,N,X,e,R,S,h=>by
  replace h:=ay h;obtain⟨⟨x,y⟩,e1,h⟩:=h;obtain⟨p,rfl⟩:=lg e1;replace h:=ay h;obtain⟨⟨l,u,s⟩,e2,h⟩:=h;obtain⟨p2,rfl⟩:=Dx e2;simp only[aq,ua] at h;obtain⟨⟨⟨rfl,h1⟩,h2⟩,h3⟩:=h;refine SE.val ?_ rfl;exact G6 (aO a R S h1).1 (Fy lo R S h2) (Fy hi R S h3)
 |.call f es,E,sc,N,X,e,R,S,h=>by
  replace h:=ay h;obtain⟨⟨x,as⟩,e1,h⟩:=h;obtain⟨p,pos,rfl⟩:=dh e1;simp only[aq,az,iT] at h;obtain⟨⟨⟨⟨h0,h1⟩,h2⟩,hn⟩,h3⟩:=h;obtain⟨y,ys,rfl⟩:=rM hn;obtain⟨hp,z⟩:=k6 es R S h3;obtain⟨k,g,fd,ps,G,hr,hm,hk,hb⟩:=R.own f x h0;refine SE.val ?_ rfl;have hp':ax y=true/\ys.all ax=true:=by rw[km,aq] at hp;exact hp
  refine s_call G R.pass hr (S.gl x h1) hm hk hb z (dG h2) (a9 hp'.1) ?_;rw[hZ hp'.2];simp[backTo]
 |.blt b a,E,sc,N,X,e,R,S,h=>by
  replace h:=zI.mp h;obtain⟨hd,h⟩:=h;have cal:=R.calm (by simpa using hd);replace h:=ay h;obtain⟨⟨x,as⟩,e1,h⟩:=h;obtain⟨p,pos,rfl⟩:=dh e1;replace h:=ay h;obtain⟨y,e2,h⟩:=h;obtain rfl:=dH e2;simp only[aq,az] at h;obtain⟨⟨⟨rfl,h2⟩,h3⟩,h4⟩:=h;exact Ji R cal (S.gl _ h2) (aO a R S h4) h3
 |.fB m o es,E,sc,N,X,e,R,S,h=>by
  replace h:=ay h;obtain⟨⟨v,x,ap,ys,cp⟩,e1,h⟩:=h;obtain rfl:=qF e1;simp only[aq,az] at h;obtain⟨⟨⟨⟨⟨⟨rfl,h1⟩,h2⟩,h3⟩,h4⟩,h5⟩,h6⟩:=h;have ho:=(aO o R S h5).1;have hu:X.A.units+1<cLine:=by have:=R.units;lia
  refine SE.val ?_ rfl;cases es with
  |nil=>
   obtain rfl:=cn h6;rw[Qu];cases m with
   |rev=>exact N1 (jX h3 h4) h2 ho
   |pop=>exact s_pop (jX h3 h4) h2 ho
   |_=>exact no h1
  |cons t1 es=>
   obtain⟨y,r,rfl,p1,q1,q2⟩:=cc h6;cases es with
   |nil=>
    obtain rfl:=cn q2;have bH:starEach [y] X.env=[(false,eval y X.env)]:=a9 p1;have he:=(aO t1 R S q1).1;have me:Me X v (mN m) ap [y] cp:=A9 h3 h4 h2 (by rw[bH];rfl) (by simp);rw[Ri];cases m with
    |append=>exact Ex me bH ho he
    |_=>exact no h1
   |cons t2 es=>
    obtain⟨y2,r,rfl,p2,q4,q3⟩:=cc q2;cases m<;>exact no h1
 |.comp el it c,E,sc,N,X,e,R,S,h=>by
  replace h:=zi h;obtain⟨hd,h⟩:=h;have cal:=R.calm (by simpa using hd);replace h:=ay h;obtain⟨⟨y,gs,scope,pos⟩,e1,h⟩:=h;obtain rfl:=rJ e1;replace h:=ay h;obtain⟨⟨tg,iter,ifs⟩,e2,h⟩:=h;obtain rfl:=uv e2;replace h:=ay h;obtain⟨x,e3,h⟩:=h;obtain⟨px,rfl⟩:=aM e3;simp only[aq,az] at h;obtain⟨⟨⟨⟨⟨h0,h1⟩,h2⟩,h3⟩,h4⟩,h5⟩:=h;have cs:=BG S h0;have hk:scope.kind=.function:=cs.kind;have hnd:(c9 X.N [x]).Nodup:=by rw[S.n];exact h1
  have sees:∀{Cc:Addr}{s:Shared}{H:L2.Hp}{pins:aH}{fp:List Addr},dW scope.names (c9 N [x]) (br X scope Cc [x] s H pins fp):=fun {Cc s H pins fp}=>by
   have z:=dW.comp (X:=X) (scope:=scope) (C:=Cc) (x:=[x]) (s:=s) (H:=H) (pins:=pins) (fp:=fp) hk;rw[S.n] at z;exact z
  refine SE.val ?_ rfl;have hev:Tw.af C (.comp el it c)=vB LN (Tw.eM C it) (Tw.gH C c) (Tw.af C el):=by funext ρ h;rw[Tw.nA];rfl
  rw[hev];refine Ky cal cs (vV hnd cs) (vY _ _) (AV it R S h3 (fun z=>nomatch z)) (iJ h2) (fun Cc s H pins fp=>(aO el R.comp sees h4).1) ?_;cases c with
  |none=>
   obtain rfl:=bX (show ifs.isEmpty=true from h5);exact .inl ⟨rfl,fun ρ h=>by rw[Tw.pe]⟩
  |some d=>
   replace h5:=ay h5;obtain⟨z,e4,h5⟩:=h5;obtain rfl:=dH (show gF ifs=some z from e4);rw[aq] at h5;exact .inr ⟨z,Tw.af C d,rfl,fun ρ h=>by rw[Tw.oB],fun Cc s H pins fp=>(aO d R.comp sees h5.2).2 h5.1⟩
 |.bad,E,sc,N,X,e,R,S,h=>by
  refine⟨?_,fun _=>?_⟩
  .rw[show Tw.af C .bad=fun _ _=>.bad from by funext ρ h;rw[Tw.tL]];exact fun pins s σ H Q I ⟨ρ,h,ι,at',p⟩=>p.elim
  .rw[show Tw.af C .bad=fun _ _=>.bad from by funext ρ h;rw[Tw.tL]];exact fun pins s σ H Q I ⟨ρ,h,ι,at',p⟩=>p.elim
 |.fld a x,E,sc,N,X,e,R,S,h=>by
  replace h:=ay h;obtain⟨⟨v,y,p⟩,e1,h⟩:=h;obtain rfl:=mW e1;simp only[aq,az] at h;obtain⟨⟨⟨⟨rfl,h1⟩,h2⟩,h3⟩,h4⟩:=h;refine SE.val ?_ rfl;exact OG (by rw[zM] at h1;simpa using h1) (jX h2 h3) (aO a R S h4).1
 |.mk c f es,E,sc,N,X,e,R,S,h=>by
  replace h:=ay h;obtain⟨⟨x,ys⟩,e1,h⟩:=h;obtain⟨p,pos,rfl⟩:=dh e1;simp only[aq,az] at h;obtain⟨⟨⟨⟨rfl,h0⟩,h1⟩,h2⟩,h3⟩:=h;obtain⟨hp,z⟩:=k6 es R S h3;obtain⟨k,g,fd,ps,A,G,hr,hm,gc,hmk,hb⟩:=R.nM f c h0;refine SE.val ?_ rfl;rw[show Tw.af C (.mk c f es)=fun ρ h=>(Tw.cG C es ρ h).bind fun xs h=>(C (f+1000) (.ref h.length::xs) (h++[.ins c []])).bind fun r h'=>match r with
   |.ah=>.ok (.ref h.length) h'
   |_=>.bad from by funext ρ h;rw[Tw.My]<;>rfl]
  exact RX hmk gc G R.pass hr (S.gl _ h1) hm hb z (dG h2) hp
 |.iW a ns ds cs,E,sc,N,X,e,R,S,h=>by
  cases a with
  |var i=>
   replace h:=ay h;obtain⟨⟨y,ye⟩,e1,h⟩:=h;obtain⟨p,p2,pos,rfl⟩:=DQ e1;rw[aq] at h;obtain⟨h,h7⟩:=h;simp only[aq,az] at h;obtain⟨⟨⟨⟨⟨h1,h2⟩,h3⟩,h4⟩,h5⟩,h6⟩:=h;refine SE.val ?_ rfl;rw[show Tw.af C (.iW (.var i) ns ds cs)=fun ρ h=>(match ρ[i]? with|some (some w)=>Tw.R.ok w h|_=>.bad).bind fun w h=>Tw.R.of ((Tw.pC w ds cs h).map .bl) h from by funext ρ h;rw[Tw.Ht,Tw.yQ]<;>rfl];have hi:X.N[i]?=some y:=by rw[S.n];exact h1
   have hd:∀d∈ds,∃fs,cf.cV.lookup d=some fs:=fun d hd=>E2.mp (kE.mp h6 d hd);have mi:X.mg "isinstance"=none:=R.blt _ (by simp[cL]);replace h7:=(vw _ _).mp h7;rcases h7 with h7|h7
   .replace h7:=ay h7;obtain⟨x,e2,h7⟩:=h7;obtain⟨px,rfl⟩:=aM (show aR ye=some x from e2);simp only[aq,az] at h7;obtain⟨⟨h8,h9⟩,h10⟩:=h7;have hI:=R.xf.o5 ns cs h5;rcases hI with ⟨n,D,rfl,m,k⟩|⟨en,m,k⟩|⟨as,l2,_⟩
    .obtain rfl:str n=x:=by simpa using h8
     refine BF (v0:=.ref D) (S.gl _ h4) mi hi (S.lR _ h2) h3 (kf (S.gl _ h9) m rfl (dG h10)) rfl fun d hd'=>?_;obtain⟨fs,ef⟩:=hd d hd';obtain⟨Cx,m1,xc,xt⟩:=R.xf.exc d fs ef;exact⟨Cx,m1,xc,xt,.inl ⟨D,rfl,k d fs Cx ef m1⟩⟩
    .obtain rfl:x= "ValueError":=by rw[en] at h8;exact (List.cons.inj h8).1.symm
     refine BF (v0:=.ty "ValueError") (S.gl _ h4) mi hi (S.lR _ h2) h3 (zz (S.gl _ h9) m GQ rfl (by decide) (by decide)) rfl fun d hd'=>?_;obtain⟨fs,ef⟩:=hd d hd';obtain⟨Cx,m1,xc,xt⟩:=R.xf.exc d fs ef;exact⟨Cx,m1,xc,xt,.inr ⟨_,rfl,k d fs Cx ef m1⟩⟩
    .have:=dg List.length h8;simp at this;lia
   .replace h7:=ay h7;obtain⟨es,e2,h7⟩:=h7;obtain⟨kt,pt,rfl⟩:=ly (show mV ye=some es from e2);simp only[aq,az,kE] at h7;obtain⟨⟨⟨h8,h9⟩,h10⟩,h11⟩:=h7;have hI:=R.xf.o5 ns cs h5;rcases hI with ⟨n,D,rfl,_⟩|⟨en,_⟩|⟨as,_,ea,k⟩
    .simp at h8
    .have:=dg List.length en;simp at this;lia
    .refine Lh (as:=as) (S.gl _ h4) mi hi (S.lR _ h2) h3 (Cz (Ge ns as es h10 (fun n hn=>⟨S.gl _ (h11 n hn).1,dG (h11 n hn).2⟩) ea)) (by have:=dg List.length ea;simp at this;lia) rfl fun d hd'=>?_;obtain⟨fs,ef⟩:=hd d hd';obtain⟨Cx,m1,xc,xt⟩:=R.xf.exc d fs ef;exact⟨Cx,m1,xc,xt,k d fs Cx ef m1⟩
  |_=>exact no h
 |.nE i es,E,sc,N,X,e,R,S,h=>by
  replace h:=zI.mp h;obtain⟨hd,h⟩:=h;replace h:=ay h;obtain⟨⟨x,as⟩,e1,h⟩:=h;obtain⟨p,pos,rfl⟩:=dh e1;simp only[aq,az,iT] at h;obtain⟨⟨⟨⟨⟨h0,h1⟩,h2⟩,h3⟩,hn⟩,h4⟩:=h;obtain⟨y,ys,rfl⟩:=rM hn;obtain⟨hp,z⟩:=k6 es R S h4;refine SE.val ?_ rfl;exact HQ (by rw[S.n];exact h0) (S.lR _ h1) (dG h2) h3 (R.jO (by simpa using hd)) R.pass z hp
 |.own o c m f es,E,sc,N,X,e,R,S,h=>by
  replace h:=ay h;obtain⟨⟨v,x,ap,ys,cp⟩,e1,h⟩:=h;obtain rfl:=qF e1;simp only[aq,az] at h;obtain⟨⟨⟨⟨⟨⟨⟨⟨rfl,h0⟩,h1⟩,h2⟩,h3⟩,h4⟩,h5⟩,h6⟩,h7⟩:=h;obtain⟨hp,z⟩:=k6 es R S h7;obtain⟨k,g,fd,ps,A,G,hr,hm,gc,hme,hb⟩:=R.me f c m h0 h1;refine SE.val ?_ rfl;exact N8 hme G R.pass hr hm gc hb (aO o R S h6).1 z (A9 h4 h5 h2 (hZ hp) h3) hp
 |.uk a,E,sc,N,X,e,R,S,h=>by
  replace h:=ay h;obtain⟨⟨x,as⟩,e1,h⟩:=h;obtain⟨p,pos,rfl⟩:=dh e1;replace h:=ay h;obtain⟨⟨y1,y2⟩,e2,h⟩:=h;obtain rfl:=ja e2;simp only[aq,az] at h;obtain⟨⟨⟨⟨rfl,h1⟩,h2⟩,h3⟩,h4⟩:=h;replace h3:=ay h3;obtain⟨z,e3,h3⟩:=h3;obtain⟨pz,rfl⟩:=aM (show aR y2=some z from e3);rw[aq] at h3;obtain rfl:z= "bool":=Bm h3.1;refine SE.val ?_ rfl;rw[show Tw.af C (.uk a)=fun ρ h=>(Tw.af C a ρ h).bind fun x h=>match x with
   |.bl _=>.ok (.bl true) h
   |_=>.bad from by funext ρ h;rw[Tw.Hl]<;>rfl]
  exact Oy (S.gl _ h1) (R.blt _ (by simp[cL])) (aO a R S h4).1 (zz (S.gl _ h3.2) (R.blt _ (by simp[cL])) PyProof.Rows.boot_bool rfl (by decide) (by decide)) (by rw[a9 h2];rfl)
 |.rC k g,E,sc,N,X,e,R,S,h=>by
  replace h:=ay h;obtain⟨⟨y,os,ys⟩,e1,h⟩:=h;obtain⟨pos,rfl⟩:=uH e1;simp only[aq,az] at h;obtain⟨rfl,h⟩:=h;replace h:=ay h;obtain⟨z,e2,h⟩:=h;obtain rfl:=dH e2;replace h:=ay h;obtain⟨x,e3,h⟩:=h;obtain⟨p,rfl⟩:=aM e3;simp only[aq,az] at h;obtain⟨⟨⟨h0,h1⟩,h2⟩,h3⟩:=h;obtain⟨t,hm,T⟩:=R.num x g h0;have z:=N6 (p1:=p) (pos:=pos) (S.gl x h1) hm (dG h2) T (aO k R S h3).1;have hev:Tw.af C (.rC k g)=fun ρ h=>(Tw.af C k ρ h).bind fun x h=>match x with
   |.str s=>.ok (.bl (g.lookup s).isSome) h
   |_=>.bad:=by funext ρ h;rw[Tw.Hq]<;>rfl
  unfold SE;rw[hev];exact⟨z.1,fun _=>z.2⟩
 |.sD k g,E,sc,N,X,e,R,S,h=>by
  replace h:=ay h;obtain⟨⟨x,y⟩,e1,h⟩:=h;obtain⟨p,rfl⟩:=lg e1;replace h:=ay h;obtain⟨G,e3,h⟩:=h;obtain⟨pG,rfl⟩:=aM (show aR x=some G from e3);simp only[aq,az] at h;obtain⟨⟨⟨⟨h0,h1⟩,h2⟩,h3⟩,h4⟩:=h;obtain⟨t,hm,T⟩:=R.num G g h0;refine SE.val ?_ rfl;rw[show Tw.af C (.sD k g)=fun ρ h=>(Tw.af C k ρ h).bind fun x h=>match x with
   |.str s=>Tw.R.of ((g.lookup s).map .int) h
   |_=>.bad from by funext ρ h;rw[Tw.HG]<;>rfl]
  exact NG (S.gl G h1) hm (dG h2) T (aO k R S h4).1 (wH h3)
 |.jB k g,E,sc,N,X,e,R,S,h=>by
  replace h:=ay h;obtain⟨⟨v,x,ap,ys,cp⟩,e1,h⟩:=h;obtain rfl:=qF e1;simp only[aq,az] at h;obtain⟨⟨rfl,hl⟩,h⟩:=h;replace h:=ay h;obtain⟨G,e3,h⟩:=h;obtain⟨pG,rfl⟩:=aM (show aR v=some G from e3);simp only[aq,az] at h;obtain⟨⟨⟨h0,h1⟩,h2⟩,h⟩:=h;replace h:=ay h;obtain⟨⟨y1,y2⟩,e4,h⟩:=h;obtain rfl:=ja e4;simp only[aq] at h;obtain⟨⟨hz,h3⟩,h4⟩:=h;replace hz:=ay hz;obtain⟨cz,e5,hz⟩:=hz;obtain⟨kk,kp,rfl⟩:=lQ (show mh y2=some cz from e5);cases cz with
  |int i=>
   obtain rfl:i=0:=Bm hz;obtain⟨t,hm,T⟩:=R.num G g h0;refine SE.val ?_ rfl;rw[show Tw.af C (.jB k g)=fun ρ h=>(Tw.af C k ρ h).bind fun x h=>match x with
    |.str s=>.ok (.int ((g.lookup s).getD 0)) h
    |_=>.bad from by funext ρ h;rw[Tw.HU]<;>rfl]
   have bH:starEach [y1,.Constant (.int 0) kk kp] X.env=[(false,eval y1 X.env),(false,eval (.Constant (.int 0) kk kp) X.env)]:=a9 h3;exact N4 (S.gl G h1) hm (dG h2) T (A9 rfl rfl hl bH (by simp)) (by rw[bH];rfl) (aO k R S h4).1
  |_=>exact no hz
theorem k6:∀(ts:Tw.Es){E:XK}{sc:Sc}{N:List Str}{X:Cx}{es:List Expr},fR cf C CX E X->dW sc N X->fM cf sc N ts es=true->es.all ax=true/\PA X es (tA (zx X E) es.length (Tw.cG C ts))
 |.nil,E,sc,N,X,es,R,S,h=>by
  obtain rfl:=bX h;refine⟨rfl,?_⟩;rw[show Tw.cG C .nil=fun _ h=>.ok [] h from by funext ρ h;rw[Tw.xH]];exact Nb
 |.cons t ts,E,sc,N,X,es,R,S,h=>by
  replace h:=ay h;obtain⟨⟨x,r⟩,e1,h⟩:=h;obtain rfl:=eK e1;simp only[aq] at h;obtain⟨⟨h0,h1⟩,h2⟩:=h;obtain⟨z1,z2⟩:=k6 ts R S h2;refine⟨by rw[km,h0,z1];rfl,?_⟩;exact JL (aO t R S h1).1 z2 (a9 h0)
theorem Fy:∀(t:Tw.Eo){E:XK}{sc:Sc}{N:List Str}{X:Cx}{o:Option Expr},fR cf C CX E X->dW sc N X->zS cf sc N t o=true->PO X o (Cq (zx X E) (Tw.gH C t))
 |.none,E,sc,N,X,o,R,S,h=>by
  obtain rfl:=ua.mp h;rw[show Tw.gH C .none=fun _ h=>.ok none h from by funext ρ h;rw[Tw.pe]];exact EK
 |.some t,E,sc,N,X,o,R,S,h=>by
  replace h:=ay h;obtain⟨x,rfl,h⟩:=h;exact DP (aO t R S h).1
theorem AV:∀(t:Tw.It){E:XK}{sc:Sc}{N:List Str}{X:Cx}{tp:Bool}{tg e:Expr},fR cf C CX E X->dW sc N X->Be cf sc N tp t e=true->(tp=true->∃es n p,tg=.Tuple es n p)->PI X tg e (tI (zx X E) (Tw.eM C t))
 |.seq a,E,sc,N,X,tp,tg,e,R,S,h,ht=>by
  exact NB (aO a R S h).1
 |.ml a,E,sc,N,X,tp,tg,e,R,S,h,ht=>by
  replace h:=ay h;obtain⟨⟨x,as⟩,e1,h⟩:=h;obtain⟨p,pos,rfl⟩:=dh e1;replace h:=ay h;obtain⟨y,e2,h⟩:=h;obtain rfl:=dH e2;simp only[aq,az] at h;obtain⟨⟨⟨rfl,h1⟩,h2⟩,h3⟩:=h;rw[show Tw.eM C (.ml a)=fun ρ h=>(Tw.af C a ρ h).bind fun x h=>match x with
   |.int j=>if Tw.cJ j then .ok (.fix (Tw.upTo 0 j.toNat)) h else .bad
   |_=>.bad from by funext ρ h;rw[Tw.qQ]<;>rfl]
  exact N3 (S.gl _ h1) (R.blt _ (by simp[cL])) (aO a R S h3).1 (a9 h2)
 |.tm a b,E,sc,N,X,tp,tg,e,R,S,h,ht=>by
  replace h:=ay h;obtain⟨⟨x,as⟩,e1,h⟩:=h;obtain⟨p,pos,rfl⟩:=dh e1;replace h:=ay h;obtain⟨⟨y,y2⟩,e2,h⟩:=h;obtain rfl:=ja e2;simp only[aq,az] at h;obtain⟨⟨⟨⟨⟨rfl,h1⟩,h2⟩,h3⟩,h4⟩,h5⟩:=h;rw[show Tw.eM C (.tm a b)=fun ρ h=>(Tw.af C a ρ h).bind fun x h=>(Tw.af C b ρ h).bind fun y h=>match x,y with
   |.int i,.int j=>if Tw.cJ i&&Tw.cJ j then .ok (.fix (Tw.upTo i (j-i).toNat)) h else .bad
   |_,_=>.bad from by funext ρ h;rw[Tw.BD]<;>rfl]
  exact Lo (S.gl _ h1) (R.blt _ (by simp[cL])) (aO a R S h4).1 (aO b R S h5).1 (by rw[a9 h2,a9 h3];rfl) (a9 h3)
 |.rev a,E,sc,N,X,tp,tg,e,R,S,h,ht=>by
  replace h:=ay h;obtain⟨⟨x,as⟩,e1,h⟩:=h;obtain⟨p,pos,rfl⟩:=dh e1;replace h:=ay h;obtain⟨y,e2,h⟩:=h;obtain rfl:=dH e2;simp only[aq,az] at h;obtain⟨⟨⟨rfl,h1⟩,h2⟩,h3⟩:=h;rw[show Tw.eM C (.rev a)=fun ρ h=>(Tw.af C a ρ h).bind fun x h=>match x with
   |.tup xs=>.ok (.fix xs.reverse) h
   |.ref a=>match h[a]? with
    |some (.lst xs)=>.ok (.rv a xs.length) h
    |_=>.bad
   |_=>.bad from by funext ρ h;rw[Tw.vE]<;>rfl]
  exact Nx (S.gl _ h1) (R.blt _ (by simp[cL])) (aO a R S h3).1 (a9 h2)
end
end
def Ol(X:Cx)(c:Tw.S)(fs:List Tw.S):Prop:=∃C,X.mg (str c)=some (.ref C)/\fs=[]/\uI X.K C
section
variable {X:Cx}{E:XK}
def DV(hx:X.ex=[])(hs:X.stack=X.env::X.outer)(hfm:X.env.frame=some X.env.locals)(hxe:X.xe=pP X E)(cal:X.calm=true)(hm:X.mg (str c)=some (.ref C))(M:uI X.K C)(hg:Gl X (str c))(hdb:(str c== ("__debug__":Str))=false):
  PS X (.Raise (some (.Call (.Name (str c) np) [.Constant (.str y) k p] [] cpos)) none pos) (cW (zx X E) fun _ h=>Tw.qj c [] [] h):=by
 refine PS.imp (B7 (t:=pE (tC (.str y)) wI) hx hs hfm hxe M cal hg hm (bO C7 dD rfl) hdb rfl rfl) fun D σ H ⟨ρ,h,ι,at',p⟩=>⟨by simp,fun ea z1=>?_⟩;obtain⟨r3,e3⟩:=at'.hr.Mn (u:=.aw c []) (o:=og C none ea) z1 (fun _ _ z=>nomatch z) fun ι' n' H' kp fr eq=>⟨C,none,[],hm,eq,rfl,.nil⟩;have:=p _ _ e3 r3;rw[cy] at this;exact this
end
def qX(s:Stmt):Option (Expr×Expr):=(Ly s).bind fun r=>(gF r.1).map fun t=>(t,r.2.1)
def jg(h:qX s=some r):∃p,s=.Assign [r.1] r.2 p:=by obtain⟨⟨ts,v,p⟩,e1,h⟩:=lO.mp h;obtain⟨t,e2,rfl⟩:=sR.mp h;have z1:=Ei e1;have z2:=dH e2;dsimp only at z1 z2⊢;exact⟨p,by rw[z1,z2]⟩
def FO(cf:Cfg)(sc:Sc)(N:List Str)(t:Tw.Tb)(s:Stmt):Bool:=match t with
 |.vM f es=>(nY s).any fun r=>r.any fun e=>(hV e).any fun q=>decide (cf.fns[f]?=some (.fn q.1))&&fO sc q.1&&iX q.1&&!(q.2.isEmpty)&&fM cf sc N es q.2
noncomputable def lX(cf:Cfg)(sc:Sc)(N:List Str):List Tw.Tb->List Stmt->Bool
 |[],ss=>ss.isEmpty
 |t::ts,ss=>(nI ss).any fun r=>FO cf sc N t r.1&&lX cf sc N ts r.2
def FA(cf:Cfg)(sc:Sc)(N:List Str)(t:Tw.Hs)(s:Stmt):Bool:=match t with
 |.ret e=>(nY s).any fun r=>r.any fun x=>aE cf sc N e x
 |.set i e=>(qX s).any fun r=>(aR r.1).any fun y=>decide (N[i]?=some y)&&decide (sc.lookup y=some .local)&&ax r.2&&!(pB r.2)&&aE cf sc N e r.2
 |.wb c e=>(KQ s).any fun r=>dX r.1&&aE cf sc N c r.1&&r.2.2.isEmpty&&(gF r.2.1).any fun t=>(nY t).any fun r=>r.any fun x=>aE cf sc N e x
noncomputable def p9(cf:Cfg)(sc:Sc)(N:List Str):List Tw.Hs->List Stmt->Bool
 |[],ss=>ss.isEmpty
 |t::ts,ss=>(nI ss).any fun r=>FA cf sc N t r.1&&p9 cf sc N ts r.2
noncomputable def Fg:ExceptHandler->Option (Str×Str×List Stmt)
 |.ExceptHandler (some t) (some n) b _=>(aR t).map fun x=>(x,n,b)
 |_=>none
def EI(h:Fg l=some r):∃p q,l=.ExceptHandler (some (.Name r.1 p)) (some r.2.1) r.2.2 q:=by
 obtain⟨t,n,b,q⟩:=l;cases t with
 |none=>cases h
 |some t=>
  cases n with
  |none=>cases h
  |some n=>
   obtain⟨x,e1,rfl⟩:=sR.mp h;obtain⟨p,rfl⟩:=aM e1;exact⟨p,q,rfl⟩
noncomputable def nz(cf:Cfg)(sc:Sc)(N:List Str):List Tw.Hd->List ExceptHandler->Bool
 |[],l=>l.isEmpty
 |t::ts,l=>(nI l).any fun r=>(Fg r.1).any fun h=>decide (h.1=str t.1)&&decide ((t.1,t.2.1)∈cf.iY)&&t.2.1.all (fun c=>(cf.cV.lookup c).isSome)&&fO sc h.1&&iX h.1&&decide (N[t.2.2.1]?=some h.2.1)&&decide (sc.lookup h.2.1=some .local)&&!(t.2.2.2.isEmpty)&&p9 (Qj cf) sc N t.2.2.2 h.2.2&&nz cf sc N ts r.2
section
variable {cf:Cfg}{C:Tw.Or}{CX:fP}{E:XK}{sc:Sc}{N:List Str}{X:Cx}
def NY(R:fR cf C CX E X)(S:dW sc N X)(same:X.env.scope.names=sc)(nd:N.Nodup)(h:FA cf sc N t s=true):PS X s (cW (zx X E) fun ρ h=>Tw.JP C ρ h t):=by
 cases t with
 |ret e=>
  replace h:=ay h;obtain⟨o,e1,h⟩:=h;obtain⟨p,rfl⟩:=kv e1;replace h:=ay h;obtain⟨x,rfl,h⟩:=h;exact A0 (aO e R S h).1
 |wb c e=>
  replace h:=ay h;obtain⟨⟨x,ys,zs⟩,e1,h⟩:=h;obtain⟨p,rfl⟩:=zl e1;simp only[aq] at h;obtain⟨⟨⟨h1,h2⟩,h3⟩,h⟩:=h;obtain rfl:=bX (show zs.isEmpty=true from h3);replace h:=ay h;obtain⟨t,e2,h⟩:=h;obtain rfl:=dH (show gF ys=some t from e2);replace h:=ay h;obtain⟨o,e3,h⟩:=h;obtain⟨p2,rfl⟩:=kv e3;replace h:=ay h;obtain⟨y,rfl,h⟩:=h;exact J9 ((aO c R S h2).2 h1) (Iz (A0 (aO e R S h).1)) xA
 |set i e=>
  replace h:=ay h;obtain⟨⟨t,v⟩,e1,h⟩:=h;obtain⟨p,rfl⟩:=jg e1;replace h:=ay h;obtain⟨y,e2,h⟩:=h;obtain⟨py,rfl⟩:=aM (show aR t=some y from e2);simp only[aq,az,iT] at h;obtain⟨⟨⟨⟨h1,h2⟩,h3⟩,h4⟩,h5⟩:=h;have hl:X.env.scope.names.lookup y=some .local:=by rw[same];exact h2
  exact Gp (by rw[S.n];exact nd) (by rw[S.n];exact h1) (.inl hl) (aO e R S h5).1 (js h3 h4) (.inr hl)
theorem Gk(R:fR cf C CX E X)(S:dW sc N X)(same:X.env.scope.names=sc)(nd:N.Nodup):∀(ts:List Tw.Hs){ss:List Stmt},p9 cf sc N ts ss=true->dS X ss (cW (zx X E) (Tw.oV C ts))
 |[],ss,h=>by
  rw[p9] at h;obtain rfl:=bX h;exact xA
 |t::ts,ss,h=>by
  rw[p9] at h;replace h:=ay h;obtain⟨⟨s,r⟩,e1,h⟩:=h;obtain rfl:=eK e1;rw[aq] at h;exact zF (NY R S same nd h.1) (Gk R S same nd ts h.2)
abbrev XB(X:Cx)(pins:aH)(σ:L2.St)(EE:XK):aY:=fun ex s'=>∃H1 s1,Inv X pins σ H1 s1/\cD X.prog X.w X.stack H1 s1 EE ex s'
variable {pins:aH}{σ:L2.St}{H:L2.Hp}{s:Shared}{EE:XK}
def NZ(R:fR cf C (cD X.prog X.w) E X)(S:dW sc N X){f:Nat}{es:Tw.Es}{e:Expr}(hc:((hV e).any fun q=>decide (cf.fns[f]?=some (.fn q.1))&&fO sc q.1&&iX q.1&&!(q.2.isEmpty)&&fM cf sc N es q.2)=true)(I:Inv X pins σ H s)
  (h:tE ⟨X.K,X.mg,EE,X.cl⟩ (fun ρ h=>(Tw.cG C es ρ h).fY.bind fun xs h=>C f xs h) σ H Q):
  wpAny (model X.prog X.w) X.A (eval e X.env) (EP X pins σ Q) (XB X pins σ EE) s:=by
 replace hc:=ay hc;obtain⟨⟨x,as⟩,e1,hc⟩:=hc;obtain⟨p,cp,rfl⟩:=dh e1;simp only[aq,az,iT] at hc;obtain⟨⟨⟨⟨h0,h1⟩,h2⟩,hn⟩,h3⟩:=hc;obtain⟨y,ys,rfl⟩:=rM hn;have S0:dW sc N X.CY:=⟨S.n,S.kind,S.lR,S.gl,S.cf⟩;obtain⟨hp,z⟩:=k6 es R.CY S0 h3;obtain⟨k,g,fd,ps,G,hr,hm,hk,hb⟩:=R.own f x h0;rw[km,aq] at hp;obtain⟨ρ,h,ι,at',p⟩:=h;dsimp only at p;refine lj (gu I (S.gl x h1) hm ?_ (dG h2));refine qh (h₀:=X.base) I.ok.mod.rK hk (jr (z cp pins s σ H (fun vs H1=>∃ws h1 ι1,HR ⟨X.K,X.mg,EE,X.cl⟩ ι1 h1 H1/\aS X.K ι1 h1.length H1 ws vs/\ao ⟨X.K,X.mg,EE,X.cl⟩ RE ι1 h1 H1 (C f ws h1) Q) (I.m8 _) ⟨ρ,h,ι,at'.ex,?_⟩)
  (fun us s1 ⟨vs,H1,I1,r1,ws,h1,ι1,r2,rr,p1⟩=>⟨I1.r9.b9,?_⟩) fun _ _ z=>False.elim z) (a9 hp.1) (by rw[hZ hp.2];simp[backTo])
 .cases e0:Tw.cG C es ρ h with
  |bad=>rw[e0] at p;exact p.elim
  |aw=>rw[e0] at p;exact p.elim
  |ok ws h1=>
   simp only[e0,Tw.R.kr,Tw.R.aZ] at p;exact fun ι1 H1 vs x1 r1 q1=>⟨ws,h1,ι1,HR.ex (E':=EE) r1,q1.1,ao.later p x1⟩
 .have I2:=I1.r9;have hsp:cO X.K X.mg X.cl (C f) vs H1 Q EE:=⟨ws,h1,ι1,r2,rr,p1⟩;have hlen:(us++[]).length=ps.length:=by
   rw[fK,<-r1.length];exact G.len _ _ _ _ hsp
  have hbs:=hb s1 us I2.b9 hlen;rw[fK] at hbs;refine lq (pH (G.run X.A X.stack s1 H1 ⟨us,[]⟩ us _ Q EE hr I2.D3 hbs r1 hsp) fun r s' hq=>?_);cases r with
  |error e=>exact⟨H1,s1,I2,hq⟩
  |ok fl=>
   cases fl with
   |ret u=>exact I2.after hq
   |next=>exact False.elim hq
   |brk=>exact False.elim hq
   |cont=>exact False.elim hq
def mX(K:Zk)(ι:Nat->Addr)(h:Tw.Hp)(H:L2.Hp)(ρ:Tw.Env)(σ:L2.St)(m:Tw.R Tw.Fl)(nx:L2.Hp->Prop)(rt:VK):Prop:=match m with
 |.ok (.next _) h'=>∀ι' H',Ext ι h H ι' h' H'->At K ι' h' H' ρ σ->nx H'
 |.ok (.ret w) h'=>∀ι' H' v,Ext ι h H ι' h' H'->HR K ι' h' H'->RW K.K ι' h'.length H' w v->rt v H'
 |.aw a h'=>∀ι' H',Ext ι h H ι' h' H'->HR K ι' h' H'->K.ex (.ref (ι' a)) none H'
 |_=>False
def PV(X:Cx)(pins:aH)(σ:L2.St)(nx:L2.Hp->Prop)(rt:VK)(f:Flow)(s':Shared):Prop:=match f with
 |.next=>∃H',Inv X pins σ H' s'/\nx H'
 |.ret u=>∃v H',Inv X pins σ H' s'/\RelV v u/\rt v H'
 |_=>False
def mX.later{K:Zk}{ι ι1:Nat->Addr}{h h1:Tw.Hp}{H H1:L2.Hp}{ρ:Tw.Env}{σ:L2.St}{m:Tw.R Tw.Fl}{nx:L2.Hp->Prop}{rt:VK}(p:mX K ι h H ρ σ m nx rt)(e:Ext ι h H ι1 h1 H1):mX K ι1 h1 H1 ρ σ m nx rt:=by
 cases m with
 |ok f h'=>
  cases f with
  |next _=>exact fun ι' H' e'=>p ι' H' (e.trans e')
  |ret w=>exact fun ι' H' v e'=>p ι' H' v (e.trans e')
  |_=>exact p
 |aw a h'=>exact fun ι' H' e' r=>p ι' H' (e.trans e') r
 |bad=>exact p
variable {ρ:Tw.Env}{h:Tw.Hp}{ι:Nat->Addr}{nx:L2.Hp->Prop}{rt:VK}
def Np(R:fR cf C (cD X.prog X.w) E X)(S:dW sc N X){t:Tw.Tb}{st:Stmt}(hc:FO cf sc N t st=true)(I:Inv X pins σ H s)(at':At ⟨X.K,X.mg,EE,X.cl⟩ ι h H ρ σ)(p:mX ⟨X.K,X.mg,EE,X.cl⟩ ι h H ρ σ (Tw.vv C ρ h t) nx rt):
  wpAny (model X.prog X.w) X.A (exec st X.env) (PV X pins σ nx rt) (XB X pins σ EE) s:=by
 have S0:dW sc N X.CY:=⟨S.n,S.kind,S.lR,S.gl,S.cf⟩;cases t with
 |vM f es=>
  replace hc:=ay hc;obtain⟨o,e1,hc⟩:=hc;obtain⟨rp,rfl⟩:=kv e1;replace hc:=ay hc;obtain⟨x,rfl,hc⟩:=hc;dsimp only[Tw.vv] at p;refine AI (aB (NZ R S hc I (Q:=rt) ⟨ρ,h,ι,at',?_⟩) fun v s1 ⟨x,H1,I1,r1,q1⟩=>⟨x,H1,I1,r1,q1⟩);dsimp only;rw[<-bind_assoc] at p;cases e0:((Tw.cG C es ρ h).fY.bind fun xs h=>C f xs h) with
  |bad=>rw[e0] at p;exact p.elim
  |aw a h1=>rw[e0] at p;exact p
  |ok w h1=>rw[e0] at p;exact p
theorem CW(R:fR cf C (cD X.prog X.w) E X)(S:dW sc N X):∀(ts:List Tw.Tb){ss:List Stmt}{H:L2.Hp}{s:Shared}{h:Tw.Hp}{ι:Nat->Addr},lX cf sc N ts ss=true->Inv X pins σ H s->At ⟨X.K,X.mg,EE,X.cl⟩ ι h H ρ σ->mX ⟨X.K,X.mg,EE,X.cl⟩ ι h H ρ σ (Tw.jw C ρ ts h) nx rt->
  wpAny (model X.prog X.w) X.A (execs ss X.env) (PV X pins σ nx rt) (XB X pins σ EE) s
 |[],ss,H,s,h,ι,hc,I,at',p=>by
  rw[lX] at hc;obtain rfl:=bX hc;exact qi ⟨H,I,p ι H (Ext.refl _ _ _) at'⟩
 |t::ts,ss,H,s,h,ι,hc,I,at',p=>by
  rw[lX] at hc;replace hc:=ay hc;obtain⟨⟨s0,r⟩,e1,hc⟩:=hc;obtain rfl:=eK e1;rw[aq] at hc;rw[Tw.jw] at p;refine rE (aB (Np (nx:=fun H'=>∃h1 ι',At ⟨X.K,X.mg,EE,X.cl⟩ ι' h1 H' ρ σ/\mX ⟨X.K,X.mg,EE,X.cl⟩ ι' h1 H' ρ σ (Tw.jw C ρ ts h1) nx rt) (rt:=rt) R S hc.1 I at' ?_) fun f s1 z=>?_)
  .cases e0:Tw.vv C ρ h t with
   |bad=>rw[e0] at p;exact p.elim
   |aw a h1=>rw[e0] at p;exact p
   |ok f h1=>
    rw[e0] at p;cases f with
    |next ρ'=>exact fun ι' H' e a=>⟨h1,ι',a,mX.later p e⟩
    |ret w=>exact p
    |brk _=>exact p.elim
    |cont _=>exact p.elim
  .cases f with
   |next=>obtain⟨H',I',h1,ι',a,q⟩:=z;exact CW R S ts hc.2 I' a q
   |ret u=>exact z
   |brk=>exact z.elim
   |cont=>exact z.elim
theorem zo:∀{hs:List Tw.Hd}{l:List ExceptHandler},nz cf sc N hs l=true->Tw.kZ c hs=some r->∃fs,cf.cV.lookup c=some fs
 |[],_,_,e=>nomatch e
 |(n,cs,j,act)::hs,l,h,e=>by
  rw[nz] at h;replace h:=ay h;obtain⟨⟨x,r'⟩,e1,h⟩:=h;replace h:=ay h;obtain⟨y,e2,h⟩:=h;simp only[aq,az,kE] at h;rw[Tw.kZ] at e;by_cases hc:cs.contains c=true
  .exact E2.mp (h.1.1.1.1.1.1.1.2 c (Fj.mp hc))
  .rw[if_neg hc] at e;exact zo h.2 e
theorem yS(R:fR cf C CX E X)(S:dW sc N X)(same:X.env.scope.names=sc)(nd:N.Nodup){ι3:Nat->Addr}(I:Inv X pins σ H s)(F:gD X.prog X.w (bu X.stack) H s ea Ce dx .none H' s')(ef:cf.cV.lookup c=some fs)(hm:X.mg (str c)=some (.ref Ce))
  (ia:ι3 a=ea) (al:a<h3.length) (at3:At (zx X E) ι3 h3 H' ρ σ) (p:bM (zx X E) ι3 h3 H' ((Tw.oV C act (ρ.set j (some (.ref a))) h3).fY.bind fun fl h=>.ok (Tw.Mm j fl) h) D):
  ∀{hs:List Tw.Hd}{l:List ExceptHandler},nz cf sc N hs l=true->Tw.kZ c hs=some (j,act)->wpAny (model X.prog X.w) X.A (handleBy (.ref ea) X.env l) (SP X pins D) X.xe s'
 |[],_,_,e=>nomatch e
 |(n,cs,j',act')::hs,l,h,e=>by
  rw[nz] at h;replace h:=ay h;obtain⟨⟨x,r'⟩,e1,h⟩:=h;obtain rfl:=eK e1;replace h:=ay h;obtain⟨⟨y,hn,suite⟩,e2,h⟩:=h;obtain⟨py,ph,rfl⟩:=EI (show Fg x=some (y,hn,suite) from e2);simp only[aq,az,iT] at h;obtain⟨⟨⟨⟨⟨⟨⟨⟨⟨rfl,h2⟩,h3'⟩,h4⟩,h5⟩,h6⟩,h7⟩,h8⟩,h9⟩,h10⟩:=h;obtain⟨Mx,mm,ex⟩:=R.xf.iY n cs h2;have exm:=ex c fs Ce ef hm;rw[Tw.kZ] at e;by_cases hc:cs.contains c=true
  .rw[if_pos hc] at e;cases e;rw[hc] at exm;have hN:X.N.Nodup:=by rw[S.n];exact nd
   have hj:X.N[j]?=some hn:=by rw[S.n];exact h6
   have hl:X.env.scope.names.lookup hn=some .local:=by rw[same];exact h7
   have jl:j<σ.length:=by rw[I.len];exact (fV.mp hj).1
   have hsu:∀v,dS (hX X v) suite (cW (zx (hX X v) E0) (Tw.oV C act)):=fun v=>Gk (R.hd v) ⟨S.n,S.kind,S.lR,S.gl,S.cf⟩ same nd act h9;cases suite with
   |nil=>
    obtain⟨b,bs,rfl⟩:=rM h8;rw[p9] at h9;exact no h9
   |cons b₀ bs=>
    refine J6 (t:=cW ⟨X.K,X.mg,E0,X.cl⟩ (Tw.oV C act)) I F (S.gl _ h4) mm (dG h5) exm hN hj hl hsu {nx:=fun σ2 H2=>D.nx (σ2.set j none) H2,rt:=D.rt,bk:=fun σ2 H2=>D.bk (σ2.set j none) H2,ct:=fun σ2 H2=>D.ct (σ2.set j none) H2} ⟨ρ.set j (some (.ref a)),h3,ι3,?_,?_⟩ fun f s3 z=>?_
    .have:=(at3.ex (E':=E0)).set (w:=.ref a) (v:=.ref (ι3 a)) (.ref al) j;rw[ia] at this;exact this
    .cases e0:Tw.oV C act (ρ.set j (some (.ref a))) h3 with
     |bad=>rw[e0] at p;exact p.elim
     |aw=>rw[e0] at p;exact p.elim
     |ok fl h4=>
      rw[e0] at p;cases fl with
      |next ρ'=>exact fun ι' H'' σ' ex a=>p ι' H'' (σ'.set j none) ex (At.Ao a.ex j none)
      |brk ρ'=>exact fun ι' H'' σ' ex a=>p ι' H'' (σ'.set j none) ex (At.Ao a.ex j none)
      |cont ρ'=>exact fun ι' H'' σ' ex a=>p ι' H'' (σ'.set j none) ex (At.Ao a.ex j none)
      |ret w=>exact fun ι' H'' v ex r rw=>p ι' H'' v ex r.ex rw
    .cases f with
     |next=>obtain⟨σ',H'',K1,q⟩:=z;exact lA K1 hN hj hl fun s4 K2=>⟨_,H'',K2,q⟩
     |brk=>obtain⟨σ',H'',K1,q⟩:=z;exact lA K1 hN hj hl fun s4 K2=>⟨_,H'',K2,q⟩
     |cont=>obtain⟨σ',H'',K1,q⟩:=z;exact lA K1 hN hj hl fun s4 K2=>⟨_,H'',K2,q⟩
     |ret u=>obtain⟨v,σ',H'',K1,r,q⟩:=z;exact lA K1 hN hj hl fun s4 K2=>⟨v,_,H'',K2,r,q⟩
  .rw[if_neg hc] at e;rw[yq] at hc;rw[hc] at exm;exact HN I F (S.gl _ h4) mm (dG h5) exm (yS R S same nd I F ef hm ia al at3 p h10 e)
def Mq(R:fR cf C (cD X.prog X.w) E X)(S:dW sc N X)(same:X.env.scope.names=sc)(nd:N.Nodup)(hs:X.stack=X.env::X.outer)(hfm:X.env.frame=some X.env.locals)(hb:lX cf sc N b bd=true)(hh:nz cf sc N iY l=true)(ne:l≠ []):
  PS X (.Try bd l [] [] pos) (cW (zx X E) fun ρ h=>Tw.lT iY C ρ (Tw.jw C ρ b h)):=by
 intro pins s σ H D I ⟨ρ,h,ι,at',p⟩;dsimp only at p;obtain⟨l0,lr,rfl⟩:∃l0 lr,l=l0::lr:=by
  cases l with
  |nil=>exact absurd rfl ne
  |cons x r=>exact⟨x,r,rfl⟩
 let EE:XK:=fun v _ H'=>∃a h3 ι3,Tw.jw C ρ b h=.aw a h3/\v=.ref (ι3 a)/\Ext ι h H ι3 h3 H'/\HR (zx X E) ι3 h3 H'
 refine wpAny_Try_except (jr (CW (EE:=EE) (nx:=fun H'=>D.nx σ H') (rt:=D.rt) R S b hb I at'.ex ?_) (fun f s1 z=>?_) fun ex s2 z=>?_)
 .cases e0:Tw.jw C ρ b h with
  |bad=>rw[e0] at p;exact p.elim
  |aw a h3=>exact fun ι' H' ex r=>⟨a,h3,ι',e0,rfl,ex,HR.ex (E':=E) r⟩
  |ok f h1=>
   rw[e0] at p;cases f with
   |next ρ'=>exact fun ι' H' ex a=>p ι' H' σ ex a.ex
   |ret w=>exact fun ι' H' v ex r rw=>p ι' H' v ex (HR.ex (E':=E) r) rw
   |brk _=>exact p.elim
   |cont _=>exact p.elim
 .cases f with
  |next=>obtain⟨H',I',q⟩:=z;exact qi ⟨σ,H',I',q⟩
  |ret u=>obtain⟨v,H',I',r,q⟩:=z;exact⟨v,σ,H',I',r,q⟩
  |brk=>exact z.elim
  |cont=>exact z.elim
 .obtain⟨H1,s1,J,ea,Ce,dx,H',rfl,Fl,a,h3,ι3,eF,ev,ex3,r3⟩:=z;rw[eF] at p;simp only[Tw.lT] at p;cases ea':h3[a]? with
  |none=>rw[ea'] at p;exact p.elim
  |some ob=>
   rw[ea'] at p;cases ob with
   |aw c gs=>
    dsimp only at p;cases ep:Tw.kZ c iY with
    |none=>rw[ep] at p;exact p.elim
    |some r=>
     obtain⟨j,act⟩:=r;rw[ep] at p;dsimp only at p;obtain⟨fs,ef⟩:=zo hh ep;obtain⟨C0,dx0,gs',m0,t0,d0,rf⟩:=r3.obj a _ ea';have ev:ι3 a=ea:=(Value.ref.inj ev).symm;have ei:Ce=C0:=by obtain⟨⟨o1,v1,b1,b2,b3,_⟩,_,_⟩:=Fl.av _ _ Fl.tr;obtain⟨⟨o2,v2,c1,c2,c3,_⟩,_,_⟩:=Fl.av _ _ t0;rw[ev,b1] at c1;cases c1;rw[b2] at c2;cases c2;rfl
     subst ei;exact Ip J hs hfm Fl fun s3 F3=>yS R S same nd J F3 ef m0 ev (eD ea') (at'.later ex3 r3) (bM.later p ex3) hh ep
   |_=>exact p.elim
end
noncomputable def eJ(a:Arguments)(ns:List Str):Bool:=a.posonlyargs.isEmpty&&a.vararg.isNone&&a.kwonlyargs.isEmpty&&a.kw_defaults.isEmpty&&a.kwarg.isNone&&a.defaults.isEmpty&&decide (a.args.map (·.arg)=ns)&&a.args.all (fun x=>x.annotation.isNone)
def Am{a:Arguments}(h:eJ a ns=true):a.defaults=[]/\a.kw_defaults=[]/\∀env,annTrees a none env=[]:=by
 obtain⟨po,ar,va,ko,kd,kw,df⟩:=a;simp only[eJ,aq,az,Ap,ua,kE] at h;obtain⟨⟨⟨⟨⟨⟨⟨h1,h2⟩,h3⟩,h4⟩,h5⟩,h6⟩,h7⟩,h8⟩:=h;subst h1 h2 h3 h4 h5 h6;refine⟨rfl,rfl,fun env=>?_⟩;have key:∀l:List Arg,(∀x∈l,x.annotation=none)->annotationsOf l env=[]:=by
  intro l
  induction l with
  |nil=>intro _;rfl
  |cons x r ih=>
   intro hx;obtain⟨n,an,p⟩:=x;obtain rfl:an=none:=hx _ (.head _);exact ih fun y hy=>hx y (.tail _ hy)
 show annotationsOf (ar++[]++[]++[]++[]) env++[]=[];simp only[fK];exact key ar h8
noncomputable def fC(b:Bool):List Str:=["part","bound",if b then "kinds" else "within"]
def GA{name qual:Str}{a:Arguments}{body:List Stmt}{scope:Scope}{cl:List (Str×Addr)}{doc pm cdv ct:Value}(b:Bool)(h:eJ a (fC b)=true):
  ∀us:List Value,us.length=(fC b).length->bindArgs (W.fnX name qual a body scope cl .none .none doc pm none cdv ct) ⟨us,[]⟩=pure ((fC b).zip us):=by
 obtain⟨po,ar,va,ko,kd,kw,df⟩:=a;simp only[eJ,aq,az,Ap,ua,kE] at h;obtain⟨⟨⟨⟨⟨⟨⟨h1,h2⟩,h3⟩,h4⟩,h5⟩,h6⟩,h7⟩,h8⟩:=h;subst h1 h2 h3 h4 h5 h6;intro us hl
 match us,hl with
 |[x,y,z],_=>
  match ar,h7 with
  |[⟨n1,a1,p1⟩,⟨n2,a2,p2⟩,⟨n3,a3,p3⟩],h7=>
   have h7: [n1,n2,n3]=fC b:=h7;unfold fC at h7⊢;cases h7;cases b<;>rfl
structure Fi(X:Cx)(nm:Str):Prop where
 ex:∃c P,X.env.code=.ref c/\(∀h:Heap,X.K.In h->W.CodeHd h c P)/\⟨P,X.env.qual++nm⟩∈X.cl.tb/\(∀t∈X.cl.tb,t.P=P->t.q=X.env.qual++nm)
 bm:∃bm ob,X.mg "__builtins__"=some (.ref bm)/\bm≠builtinsNs/\bm≠mainGlobals/\X.K.lookup bm=some ob/\ob.cls=.type "module" /\ob.dict=some builtinsNs/\ob.data=.plain
theorem rl{pos p:Pos}{c cv:Value}:∀(l:List Value),TriplesOk l->codeAmong pos (l++[rawInt p.line,rawInt p.col,c])=some cv->codeAmong pos l=some cv\/cv=c
 |[],_,e=>by
  have e:(if ((p.line:Int)== (pos.line:Int)&&(p.col:Int)== (pos.col:Int))=true then some c else none)=some cv:=e;split at e
  .cases e;exact .inr rfl
  .cases e
 |.int a t:: .int b u::x::r,h,e=>by
  have e:(if (a== (pos.line:Int)&&b== (pos.col:Int))=true then some x else codeAmong pos (r++[rawInt p.line,rawInt p.col,c]))=some cv:=e;show (if (a== (pos.line:Int)&&b== (pos.col:Int))=true then some x else codeAmong pos r)=some cv\/_;split at e
  .next hc=>rw[if_pos hc];exact .inl e
  .next hc=>rw[if_neg hc];exact rl r h e
theorem nX{p:Pos}{c:Value}:∀(l:List Value),TriplesOk l->TriplesOk (l++[rawInt p.line,rawInt p.col,c])
 |[],_=>trivial
 |.int a t:: .int b u::x::r,h=>nX r h
section
variable {X:Cx}{E:XK}{pins:aH}{σ:L2.St}{H:L2.Hp}{s:Shared}{ι:Nat->Addr}{h:Tw.Hp}{j:Nat}
def Lu{nm:Str}{params:Arguments}{body:List Stmt}{scope:Scope}{pos:Pos}{clos:List (Str×Addr)}(I:Inv X pins σ H s)(r:HR (zx X E) ι h H)(Wa:Fi X nm)(hp:eJ params ns=true)(hN:X.N.Nodup)(hj:X.N[j]?=some nm)(hl:X.env.scope.names.lookup nm=some .local)
  (hcl:closureFor scope X.env=pure clos) {Q:Flow->Shared->Prop}
  (fi:∀g cd doc ctv H' s',Inv X (pins++[(g,W.fnMade nm (X.env.qual++nm) params body scope clos doc ((X.mg "__name__").getD .none) cd ctv)]) (σ.set j (some (.ref g))) H' s'->Ext ι h H ι h H'->HR (zx X E) ι h H'->eN H' cd (X.env.qual++nm)->Q .next s'):
  wpAny (model X.prog X.w) X.A (exec (.FunctionDef nm params body [] none [] scope none nm pos) X.env) Q X.xe s:=by
 obtain⟨hd,hk,ha⟩:=Am hp;refine W.nestDef_K hd hk (ha _) ?_;have hq:qualnameIn X.env nm nm=X.env.qual++nm:=by unfold qualnameIn;have:X.env.kindOf nm=some .local:=hl;rw[this];rfl
 rw[hq];obtain⟨c,P,ec,hC,hm,hu⟩:=Wa.ex;obtain⟨ps,eP,ht,hcs⟩:=r.tab _ hm;obtain⟨bm,ob,b1,b2,b3,b4,b5,b6,b7⟩:=Wa.bm;have hP:s.heap.get? P=some (W.tabObj ps):=I.av P _ eP;have lS:=I.mod.glob.keeps I.bk;have hgP:mainGlobals≠P:=fun z=>by
  obtain⟨o,es,ep,e,hd,_⟩:=lS;rw[z,hP] at e;cases e;cases hd
 have hbP:bm≠P:=fun z=>by
  have e:=I.b9 _ _ b4;rw[z,hP] at e;cases e;cases b5
 have hB:s.heap.BuiltinsAt X.mg P:=⟨bm,ob,b1,b2,b3,hbP,I.b9 _ _ b4,b5,b6,b7⟩;have fin:∀(g cd:Addr)(doc ctv:Value)(H':L2.Hp)(s1:Shared),Inv X pins σ H' s1->s1.heap.get? g=some (W.fnMade nm (X.env.qual++nm) params body scope clos doc ((X.mg "__name__").getD .none) cd ctv)->H' g=none->s.heap.objs.size<=g->Ext ι h H ι h H'->HR (zx X E) ι h H'->eN H' cd (X.env.qual++nm)->
   wpAny (model X.prog X.w) X.A (storeName X.env nm (.ref g)) (fun _ s''=>Q .next s'') X.xe s1:=by
  intro g cd doc ctv H' s1 I1 eg hg hs e1 r1 hc1;have I2:Inv X (pins++[(g,W.fnMade nm (X.env.qual++nm) params body scope clos doc ((X.mg "__name__").getD .none) cd ctv)]) σ H' s1:=I1.pU fun p hp=>by
   rcases qK.mp hp with hp|hp
   .exact I1.pin p (fL _ hp)
   .obtain rfl:=jH.mp hp;exact⟨eg,hg,pd (bY I.lt hs),I.Mg hs,fun v z=>nomatch z⟩
  exact uy (v:=.ref g) I2 hN hj (.inl hl) rfl (fun s' I3 _=>fi g cd doc ctv H' s' I3 e1 r1 hc1) (.inr hl)
 cases hf:codeAmong pos ps.toList with
 |some cv=>
  obtain⟨cd,rfl,hcd⟩:=hcs pos cv hf;refine W.makeFunction_hit (mg:=X.mg) hcl I.ok.glob lS ec (hC _ I.b9) hP ht hf hB fun ctv doc h' tk hk hsz=>?_;have hH:H h'.objs.size=none:=I.av.fresh hsz;refine fin h'.objs.size cd doc ctv H _ (I.kept (t':=tk) fun b o e=>bZ _ (hk b o e)) (gi _ rfl) hH hsz (Ext.refl _ _ _) r hcd
 |none=>
  refine W.makeFunction_K (mg:=X.mg) hcl I.ok.glob lS ec (hC _ I.b9) hP ht hf hgP hB fun c' ctv doc h' tk hx hge hlt hrec htb=>?_;obtain⟨c2,oc,vs,t,e2,hoc,hd,hv⟩:=hrec;cases e2;have hc':H c'=none:=I.av.fresh hge;have hPl:P<s.heap.objs.size:=bJ hP;have neP:P≠c':=dw (bY hPl hge);obtain⟨r1,x1⟩:=r.grow (o:=.aV oc (.own c')) hc';have eP1:upd H c' (.aV oc (.own c')) P=some (.dZ ps):=by rw[aI neP];exact eP
  have al:eX ι h P:=fun i o ei m z=>by
   obtain⟨u,q,_,_,_,_,n⟩:=r1.there ei m;rw[z,eP1] at q;cases q;exact n _ rfl
  have nt:∀b u,upd H c' (.aV oc (.own c')) b=some u->(∀ps,u≠.dZ ps)->b≠P:=fun b u e n z=>by
   rw[z,eP1] at e;cases e;exact n _ rfl
  have r2:HR (zx X E) ι h (upd (upd H c' (.aV oc (.own c'))) P (.dZ (ps++ #[rawInt pos.line,rawInt pos.col,.ref c']))):=
   r1.BX al eP1 (fun _ z=>nomatch z) (fun _ _ z=>nomatch z) (fun _ z=>nomatch z) (fun _ z=>nomatch z) fun sf t' ht'=>by
    by_cases hz:t'.P=P
    .refine⟨_,by rw[hz];exact bV,by simpa using nX ps.toList ht,fun pos' cv e=>?_⟩;rw[hu t' ht' hz];rcases rl (p:=pos) (c:=.ref c') ps.toList ht (by simpa using e) with e|e
     .obtain⟨c3,z1,z2⟩:=hcs pos' cv e;exact⟨c3,z1,(z2.keep fun b o u=>dQ hc' b _).keep sf⟩
     .exact⟨c',e,oc,vs,t,sf _ _ _ bV,hd,hv⟩
    .exact (r1.tab t' ht').keep sf fun ps e=>by rw[aI hz];exact e
  have x2:Ext ι h (upd H c' (.aV oc (.own c'))) ι h (upd (upd H c' (.aV oc (.own c'))) P (.dZ (ps++ #[rawInt pos.line,rawInt pos.col,.ref c']))):=
   ⟨aA _,fun _ _=>rfl,fun b u e n _=>by rw[aI (nt b u e n)];exact e,fun i a b=>absurd b (jC.mpr a),mL,fun i o u e f=>by rw[e] at f;cases f;rfl⟩
  have hsz:s.heap.objs.size<=h'.objs.size:=aF hge (Bi hlt);have kh:∀b o,b≠P->s.heap.get? b=some o->(h'.push (W.fnMade nm (X.env.qual++nm) params body scope clos doc ((X.mg "__name__").getD .none) c' ctv)).get? b=some o:=fun b o hb e=>bZ _ (hx b o hb e);have H2ne:∀b,b≠P->b≠c'->upd (upd H c' (.aV oc (.own c'))) P (.dZ (ps++ #[rawInt pos.line,rawInt pos.col,.ref c'])) b=H b:=fun b h1 h2=>by rw[aI h1,aI h2]
  have old:∀b o,s.heap.get? b=some o->b≠c':=fun b o e=>dw (bY (bJ e) hge);have hnP:∀b,H b=none->b≠P:=fun b n z=>by rw[z,eP] at n;cases n
  have hsP:∀b u,H b=some u->(∀ps,u≠.dZ ps)->b≠P:=fun b u e n z=>by rw[z,eP] at e;cases e;exact n _ rfl
  have hsc:∀b u,H b=some u->b≠c':=fun b u e z=>by rw[z,hc'] at e;cases e
  have un:Un (bu X.stack) [] H (upd (upd H c' (.aV oc (.own c'))) P (.dZ (ps++ #[rawInt pos.line,rawInt pos.col,.ref c']))) s.heap (h'.push (W.fnMade nm (X.env.qual++nm) params body scope clos doc ((X.mg "__name__").getD .none) c' ctv)):=by
   refine⟨fun b o e n _ _=>kh b o (hnP b n) e,fun b o e n _ _=>⟨o.slots,kh b o (hnP b n) e⟩,fun b o e n _=>by rw[H2ne b (hnP b n) (old b o e)];exact n,fun b o e _=>?_,fun b xs e=>by rw[H2ne b (hsP b _ e fun _ z=>nomatch z) (hsc b _ e)];exact e,
    fun b o u e=>by rw[H2ne b (hsP b _ e fun _ z=>nomatch z) (hsc b _ e)];exact e,fun b qs e=>?_⟩
   .by_cases hb:b=P
    .subst hb;exact⟨_,bZ _ htb⟩
    .exact⟨o,kh b o hb e⟩
   .by_cases hb:b=P
    .subst hb;rw[eP] at e;cases e;exact⟨_,bV⟩
    .exact⟨#[],by rw[H2ne b hb (hsc b _ e),e];simp⟩
  have av:dN X.prog X.w (upd (upd H c' (.aV oc (.own c'))) P (.dZ (ps++ #[rawInt pos.line,rawInt pos.col,.ref c']))) (h'.push (W.fnMade nm (X.env.qual++nm) params body scope clos doc ((X.mg "__name__").getD .none) c' ctv)):=fun b u e=>by
   by_cases hb:b=P
   .subst hb;rw[bV] at e;cases e;exact bZ _ htb
   .by_cases hb2:b=c'
    .subst hb2;rw[aI hb,bV] at e;cases e;exact⟨bZ _ hoc,_,bZ _ hoc⟩
    .rw[H2ne b hb hb2] at e;refine (I.av b u e).gb (fun a v ha q=>kh a v ?_ q) (fun a q=>?_) fun a xs q=>?_
     .rcases ha with rfl|ha
      .exact hb
      .exact hsP a _ ha fun _ z=>nomatch z
     .rw[H2ne a (hsP a _ q fun _ z=>nomatch z) (hsc a _ q)];exact q
     .rw[H2ne a (hsP a _ q fun _ z=>nomatch z) (hsc a _ q)];exact q
  have hg:H h'.objs.size=none:=I.av.fresh hsz;refine fin h'.objs.size c' doc ctv _ _ (I.call (t':=tk) (ch:=[]) un av I.bare (fun b z=>absurd z (by simp))) (gi _ rfl) ?_ hsz (x1.trans x2) r2 ⟨oc,vs,t,?_,hd,hv⟩
  .rw[H2ne _ (pd (bY hPl hsz)) (pd hlt)];exact hg
  .rw[aI (bj neP)];exact bV
end
noncomputable def cE(names:List (Str×NameKind)):List Str:=(names.filter fun y=>y.2== .free).map (·.1)
theorem m6{env:Env}:∀(names:List (Str×NameKind))(cs:List (Str×Addr)),cK env names cs=((cE names).map fun n=>(n,(env.cells.lookup n).getD 0)).reverse++cs
 |[],cs=>rfl
 |(n,k)::r,cs=>by
  rw[cK,m6 r];unfold cE;cases hk:(k== NameKind.free) with
  |true=>simp[hk]
  |false=>simp[hk]
def Kept(base:Heap)(names:List (Str×NameKind))(clos:List (Str×Addr))(vs:List V):Prop:=
 (clos=[]/\vs=[]/\cE names=[])\/∃y a u v,clos=[(y,a)]/\vs=[v]/\base.IsCell a (some u)/\RelV v u/\cE names=[y]
def xp(base:Heap)(st:Stmt)(c:oQ):Prop:=∃b doc pm ctv clos,eJ (cR st) (fC b)=true/\base.get? c.g=some (W.fnMade "answer" c.q (cR st) (cj st) (au st) clos doc pm c.cd ctv)/\Kept base (au st).names clos c.vs
def CB(ci:Nat->Stmt->Bool)(base:Heap)(cl:ff):Prop:=∀i c,cl.fs i=some c->∃st,ci c.f st=true/\xp base st c
def xp.keep{st:Stmt}(x:xp base st c)(k:∀b o,base.get? b=some o->base'.get? b=some o):xp base' st c:=by
 obtain⟨b,doc,pm,ctv,clos,h1,h2,h3⟩:=x;refine⟨b,doc,pm,ctv,clos,h1,k _ _ h2,h3.imp id ?_⟩
 rintro ⟨y,a,u,v,e1,e2,⟨o,eo,ed⟩,r⟩
 exact⟨y,a,u,v,e1,e2,⟨o,k _ _ eo,ed⟩,r⟩
section
variable {X:Cx}{E:XK}{pins:aH}{σ:L2.St}{H:L2.Hp}{s:Shared}
def jo(X:Cx)(H:L2.Hp)(s:Shared):Heap:=W.hideAll s.heap (yP s.heap H++bu X.stack)
def oW(e:s.heap.get? b=some o)(n:H b=none)(hf:b∉bu X.stack):(jo X H s).get? b=some o:=W.hideAll_get _ e fun hm=>by
 rcases qK.mp hm with hm|hm
 .have q:(H b).isSome=true:=(tY.mp hm).2;rw[n] at q;simp at q
 .exact hf hm
def DJ(e:(jo X H s).get? b=some o):s.heap.get? b=some o/\H b=none:=by
 have e':s.heap.get? b=some o:=W.of_hideAll _ e;refine⟨e',?_⟩;cases q:H b with
 |none=>rfl
 |some x=>
  have hm:b∈yP s.heap H++bu X.stack:=vD _ (tY.mpr ⟨List.mem_range.mpr (bJ e'),by simp[q]⟩);have z:(jo X H s).get? b=none:=zR _ hm;rw[z] at e;cases e
def wG(I:Inv X pins σ H s):∀b o,X.base.get? b=some o->(jo X H s).get? b=some o:=fun b o e=>by
 obtain⟨e1,e2⟩:=I.bs b o e;refine oW e1 e2 fun hb=>?_;have:=(I.stack.mem hb).1;rw[e] at this;cases this
def Rq(I:Inv X pins σ H s):nk X.prog X.w X.K X.mg (jo X H s) X.A X.stack s H:=by
 have k:=wG I;have m:=I.mod;refine⟨I.ok.frames,⟨m.rK.keeps k,m.glob.keeps k,let ⟨mb,h1,h2⟩:=m.blt;⟨mb,h1.keeps k,h2⟩,m.nolimit.keeps k⟩,fun b o e=>DJ e,Bp (W.hideAll_size _ _),?_,I.jf,I.av,I.bare⟩;have key:∀l:List Env,(∀b∈bu l,b∈bu X.stack)->s.heap.FunFrames X.base l->s.heap.FunFrames (jo X H s) l:=by
  intro l
  induction l with
  |nil=>intro _ _;trivial
  |cons env rest ih=>
   intro hs ⟨h1,⟨L,o,hf,hn,ho,hd⟩,hr⟩;have hL:L∈bu (env::rest):=by unfold bu;rw[tq,hf];exact .head _
   refine⟨h1,⟨L,o,hf,zR _ (fL _ (hs L hL)),ho,hd⟩,ih (fun b hb=>hs b ?_) hr⟩;unfold bu at hb⊢;rw[tq,hf];exact .tail _ hb
 exact key X.stack (fun _ h=>h) I.stack
end
noncomputable def su(cl:ff)(n:Nat)(c:oQ):ff:=⟨fun i=>if i=n then some c else cl.fs i,cl.tb⟩
section
variable {K:W.Frag}{mg:Str->Option Value}{E:XK}{cl:ff}{ι ι':Nat->Addr}{h h':Tw.Hp}{H H':L2.Hp}{c:oQ}
def HR.jO(r:HR ⟨K,mg,E,cl⟩ ι h H)(rw':aS K ι h.length H ws c.vs)(hc:eN H c.cd c.q):HR ⟨K,mg,E,su cl h.length c⟩ (cZ ι h.length c.g) (h++[.fun c.f ws]) H:=by
 have hl:(h++[Tw.O.fun c.f ws]).length=h.length+1:=by simp
 have kp:Keeps ι h.length H (cZ ι h.length c.g) (h++[Tw.O.fun c.f ws]).length H:=⟨by lia,fun i hi=>bP hi,fun _ _ e=>e⟩;have two:∀{i:Nat}{v:Tw.O},(h++[Tw.O.fun c.f ws])[i]?=some v->(i<h.length/\h[i]?=some v)\/(i=h.length/\v=.fun c.f ws):=fun {i v} e=>by
  have hi:=eD e;by_cases z:i<h.length
  .rw[fI z] at e;exact .inl ⟨z,e⟩
  .have z':i=h.length:=by lia
   subst z';simp at e;exact .inr ⟨rfl,e.symm⟩
 refine⟨fun i v q=>?_,fun i j v w q1 q2 m1 m2 z=>?_,r.tab,fun i f us q=>?_⟩
 .rcases two q with ⟨hi,q⟩|⟨rfl,rfl⟩
  .rw[bP hi];have z:=(r.obj i v q).keep kp fun _ _ _ e=>e;cases v<;>exact z
  .trivial
 .rcases two q1 with ⟨hi,p1⟩|⟨_,rfl⟩
  .rcases two q2 with ⟨hj,p2⟩|⟨_,rfl⟩
   .rw[bP hi,bP hj] at z;exact r.inj i j v w p1 p2 m1 m2 z
   .cases m2
  .cases m1
 .rcases two q with ⟨hi,q⟩|⟨rfl,e⟩
  .obtain⟨c',e1,e2,e3,e4,e5⟩:=(r.fn i f us q).keep kp hi fun _ _ _ e=>e;refine⟨c',?_,e2,e3,e4,e5⟩;show (if i=h.length then some c else cl.fs i)=some c';rw[if_neg (dw hi)];exact e1
  .cases e;exact⟨c,if_pos rfl,cy.symm,rfl,rw'.keep kp,hc⟩
def HR.kill(r:HR ⟨K,mg,E,su cl n c⟩ ι h H):HR ⟨K,mg,E,cl⟩ ι (h.set n .dead) H:=by
 have hl:(h.set n Tw.O.dead).length=h.length:=by simp
 have look:∀{j:Nat}{w:Tw.O},(h.set n Tw.O.dead)[j]?=some w->w=.dead\/(j≠n/\h[j]?=some w):=fun {j w} e=>by
  by_cases z:j=n
  .subst z;have:=eD e;rw[jD (by lia)] at e;cases e;exact .inl rfl
  .rw[jE (bj z)] at e;exact .inr ⟨z,e⟩
 refine⟨fun i v q=>?_,fun i j v w q1 q2 m1 m2 z=>?_,r.tab,fun i f us q=>?_⟩
 .rw[hl];rcases look q with rfl|⟨_,q⟩
  .trivial
  .have z:=r.obj i v q;cases v<;>exact z
 .rcases look q1 with rfl|⟨_,q1⟩
  .cases m1
  .rcases look q2 with rfl|⟨_,q2⟩
   .cases m2
   .exact r.inj i j v w q1 q2 m1 m2 z
 .rw[hl];rcases look q with e|⟨ne,q⟩
  .cases e
  .obtain⟨c',e1,e2⟩:=r.fn i f us q;refine⟨c',?_,e2⟩;have e1:(if i=n then some c else cl.fs i)=some c':=e1;rw[if_neg ne] at e1;exact e1
def Ext.kill(x:Ext (cZ ι h.length g) (h++[.fun f ws]) H ι' h' H')(hg:H g=none):Ext ι h H ι' (h'.set h.length .dead) H':=by
 have hl:(h++[Tw.O.fun f ws]).length=h.length+1:=by simp
 have hl':(h'.set h.length Tw.O.dead).length=h'.length:=by simp
 have hle:=x.len;rw[hl] at hle;refine⟨by lia,fun i hi=>(x.same i (by lia)).trans (bP hi),fun b u e t n=>x.fr b u e t fun i o ei m z=>?_,fun i a b=>?_,x.xb,fun i o u e f=>?_⟩
 .have hi:=eD ei;by_cases q:i<h.length
  .rw[fI q] at ei;rw[bP q] at z;exact n i o ei m z
  .have z':i=h.length:=by lia
   subst z';simp at ei;subst ei;cases m
 .by_cases q:i=h.length
  .subst q;rw[x.same _ (by lia),cy];exact hg
  .exact x.new i (by lia) (by lia)
 .have hi:=eD e;rw[jE (by lia)] at f;exact x.fz i o u (by rw[fI hi];exact e) f
end
section
variable {X:Cx}{E:XK}{CX:fP}{C:Tw.Or}{ci:Nat->Stmt->Bool}{j fw f k:Nat}{a b:Tw.E}{ks:List Nat}
def Mb{params:Arguments}{body:List Stmt}{scope:Scope}{pos p1 p2 cp rp:Pos}{ea eb:Expr}{x:Str}{gw:Addr}{fdw:FuncData}{psw:List Str}{b0:Bool}
  (Wa:Fi X "answer") (hfn:∀x,X.fn x=true) (hN:X.N.Nodup) (hj:X.N[j]?=some "answer") (hl:X.env.scope.names.lookup ("answer":Str)=some .local)
  (cb:CB ci X.base X.cl) (hci:ci f (.FunctionDef "answer" params body [] none [] scope none "answer" pos)=true) (hp:eJ params (fC b0)=true)
  (hfree:(cE scope.names=[]/\ks=[])\/∃y i,cE scope.names=[y]/\ks=[i]/\X.N[i]?=some y/\X.env.scope.names.lookup y=some .cell)
  (own:∀base cl,cl.tb=X.cl.tb->CB ci base cl->bR X.prog X.w X.K X.mg base CX k gw fdw psw (cO X.K X.mg cl (C fw)))
  (hr:cM k X.A) (hg:Gl X x) (hm:X.mg x=some (.ref gw)) (hk:W.keepIn X.K (.ref gw)=true) (hb:Binds X.K fdw psw []) (hd:(x== ("__debug__":Str))=false)
  (hx:Passes CX X E) (ha:PE X ea (tE (zx X E) (Tw.af C a))) (hbb:PE X eb (tE (zx X E) (Tw.af C b))) (pa:ax ea=true) (pb:ax eb=true):
  dS X [.FunctionDef "answer" params body [] none [] scope none "answer" pos,.Return (some (.Call (.Name x p1) [ea,eb,.Name "answer" p2] [] cp)) rp] (cW (zx X E) (Tw.dA C (.lC j fw a b f ks))):=by
 intro pins s σ H D I ⟨ρ,h,ι,at',p⟩;rw[Tw.sU] at p;have hcl:closureFor scope X.env=pure (cK X.env scope.names []):=rQ fun z hz hf=>by
  have hm:z.1∈cE scope.names:=o9.mpr ⟨z,tY.mpr ⟨hz,by rw[hf];rfl⟩,rfl⟩;rcases hfree with ⟨e,_⟩|⟨y,i,e,_,_,hy⟩
  .rw[e] at hm;cases hm
  .rw[e] at hm;obtain rfl:=jH.mp hm;exact I.ok.has _ (.inl hy)
 refine rE (Lu I at'.hr Wa hp hN hj hl hcl fun g cd doc ctv H1 s1 I1 x1 r1 hc1=>?_);have at1:At (zx X E) ι h H1 (ρ.set j none) (σ.set j (some (.ref g))):=(at'.later x1 r1).Ao j _;have p:=bM.later p x1;have st3:starEach [ea,eb,.Name "answer" p2] X.env=(false,eval ea X.env)::starEach [eb,.Name "answer" p2] X.env:=a9 pa;have st2:starEach [eb,.Name "answer" p2] X.env=(false,eval eb X.env)::starEach [.Name "answer" p2] X.env:=a9 pb;have hjl:j<σ.length:=by rw[I.len];exact (fV.mp hj).1
 have sv:(σ.set j (some (V.ref g)))[j]?=some (some (V.ref g)):=by rw[jD hjl]
 refine rE (AI (aB (?_:wpAny (model X.prog X.w) X.A _ (EP X (pins++[(g,W.fnMade "answer" (X.env.qual++ "answer") params body scope (cK X.env scope.names []) doc ((X.mg "__name__").getD .none) cd ctv)]) (σ.set j (some (.ref g))) D.rt) X.xe s1) fun v s5 ⟨x,H5,I5,r5,q5⟩=>⟨x,_,H5,I5.pU fun p hp=>I5.pin p (fL _ (vD _ hp)),r5,q5⟩));refine lj (gu I1 hg hm ?_ hd);have PAx:=bO ha (bO hbb (bO (o7 (pos:=p2) hj (.inl hl)) dD (a9 rfl)) st2) st3;refine qh (h₀:=X.base) I1.ok.mod.rK hk (aB (PAx cp _ s1 _ H1 (fun vs H4=>∃v1 v2 w1 w2 h3 ι3,vs=[v1,v2,.ref g]/\At (zx X E) ι3 h3 H4 (ρ.set j none) (σ.set j (some (.ref g)))/\Ext ι h H1 ι3 h3 H4/\RW X.K ι3 h3.length H4 w1 v1/\RW X.K ι3 h3.length H4 w2 v2/\
  bM (zx X E) ι3 h3 H4 (match Tw.j7 (ρ.set j none) ks with
   |some ws=>Tw.ou h3.length (C fw [w1,w2,.ref h3.length] (h3++[.fun f ws]))
   |none=>.bad) D) I1 ?_) fun us s2 ⟨vs,H4,I2,r2,q⟩=>⟨I2.b9,?_⟩) st3 (by rw[st2];rfl)
 .refine⟨_,h,ι,at1,(eY at1 p).mono fun v1 H2 ⟨w1,h2,ι2,at2,e2,rw2,p2⟩=>⟨_,h2,ι2,at2,(eY at2 p2).mono fun v2 H3 ⟨w2,h3,ι3,at3,e3,rw3,p3⟩=>⟨_,sv,?_⟩⟩⟩;exact⟨v1,v2,w1,w2,h3,ι3,rfl,at3,e2.trans e3,RW.keep (e3.keeps at2.hr) rw2,rw3,p3⟩
 .obtain⟨v1,v2,w1,w2,h3,ι3,rfl,at3,x3,rw1,rw2,p3⟩:=q;have hc3:eN H4 cd (X.env.qual++ "answer"):=hc1.later r1 x3;obtain⟨eg,hgn,hgl,hgf,_⟩:=I2.pin (g,_) (fL _ (fL _ (.head _)));dsimp only at eg hgn hgl hgf;have Bg:∀{a:Addr},a≠X.env.locals->a∉X.fs->a∉bu X.stack:=fun h1 h2 hb=>(fH.mp (I2.kO _ hb)).elim h1 h2;cases ek:Tw.j7 (ρ.set j none) ks with
  |none=>rw[ek] at p3;exact p3.elim
  |some ws=>
   rw[ek] at p3;dsimp only at p3;have kept:∃vs,aS X.K ι3 h3.length H4 ws vs/\Kept (jo X H4 s2) scope.names (cK X.env scope.names []) vs:=by
    rcases hfree with ⟨e,rfl⟩|⟨y,i,e,rfl,hi,hy⟩
    .cases ek;exact⟨[],.nil,.inl ⟨by rw[m6,e];rfl,rfl,e⟩⟩
    .rw[Tw.j7] at ek;cases ew:(ρ.set j none)[i]? with
     |none=>rw[ew] at ek;cases ek
     |some ow=>
      cases ow with
      |none=>rw[ew] at ek;cases ek
      |some w=>
       rw[ew] at ek;cases ek;obtain⟨v,s3,rv⟩:=at3.st i w ew;obtain⟨m,hn,hlo⟩:=I2.loc;obtain⟨u,ru,lk⟩:=hlo i y v hi s3 (.inr (.inl hy));rcases lk with ⟨hk',_⟩|⟨_,c,hc,o,ho,hod⟩
       .have:X.env.scope.names.lookup y=some .local:=hk';rw[hy] at this;cases this
       .refine⟨[v],.cons rv .nil,.inr ⟨y,c,u,v,?_,rfl,⟨o,oW ho (I2.fg y c hc) (Bg (I2.oS y c hc) fun hb=>?_),hod⟩,ru,e⟩⟩
        .rw[m6,e];show [(y,(X.env.cells.lookup y).getD 0)]=_;rw[hc];rfl
        .obtain⟨_,o',ho',_⟩:=I2.ok.gf.mem hb;exact absurd (bY (bJ ho') (I2.ok.rN y c (hfn y) hc)) (qP _)
   obtain⟨kvs,rk,kk⟩:=kept;have eg':(jo X H4 s2).get? g=some _:=oW eg hgn (Bg hgl hgf);have CB':CB ci (jo X H4 s2) (su X.cl h3.length ⟨g,f,kvs,cd,X.env.qual++ "answer"⟩):=fun i c e=>by
    have e:(if i=h3.length then some (⟨g,f,kvs,cd,X.env.qual++ "answer"⟩:oQ) else X.cl.fs i)=some c:=e;by_cases hz:i=h3.length
    .rw[if_pos hz] at e;cases e;exact⟨_,hci,b0,doc,_,ctv,_,hp,eg',kk⟩
    .rw[if_neg hz] at e;obtain⟨st,z1,z2⟩:=cb i c e;exact⟨st,z1,z2.keep (wG I2)⟩
   have F:=own (jo X H4 s2) (su X.cl h3.length ⟨g,f,kvs,cd,X.env.qual++ "answer"⟩) rfl CB';have kp:Keeps ι3 h3.length H4 (cZ ι3 h3.length g) (h3++[Tw.O.fun f ws]).length H4:=⟨by simp,fun i hi=>bP hi,fun _ _ e=>e⟩;have rg:RW X.K (cZ ι3 h3.length g) (h3++[Tw.O.fun f ws]).length H4 (.ref h3.length) (.ref g):=by have z:RW X.K (cZ ι3 h3.length g) (h3++[Tw.O.fun f ws]).length H4 (.ref h3.length) (.ref (cZ ι3 h3.length g h3.length)):=.ref (by simp);rw[cy] at z;exact z
   have hsp:cO X.K X.mg (su X.cl h3.length ⟨g,f,kvs,cd,X.env.qual++ "answer"⟩) (C fw) [v1,v2,.ref g] H4 D.rt E:=by
    refine⟨[w1,w2,.ref h3.length],h3++[.fun f ws],cZ ι3 h3.length g,HR.jO (c:=⟨g,f,kvs,cd,X.env.qual++ "answer"⟩) at3.hr rk hc3,.cons (rw1.keep kp) (.cons (rw2.keep kp) (.cons rg .nil)),?_⟩;cases er:C fw [w1,w2,.ref h3.length] (h3++[.fun f ws]) with
    |bad=>rw[er] at p3;exact p3.elim
    |aw a' h4=>rw[er] at p3;exact fun ι' H' xx rr=>p3 ι' H' (xx.kill hgn) rr.kill
    |ok w h4=>rw[er] at p3;exact fun ι' H' v xx rr q=>p3 ι' H' v (xx.kill hgn) rr.kill (by simpa using q)
   have hlen:(us++[]).length=psw.length:=by rw[fK,<-r2.length];exact F.len _ _ _ _ hsp
   have hbs:=hb s2 us I2.b9 hlen;rw[fK] at hbs;refine lq (pH (F.run X.A X.stack s2 H4 ⟨us,[]⟩ us _ D.rt E hr (Rq I2) hbs r2 hsp) fun r s' hq=>?_);cases r with
   |error e=>exact hx _ _ H4 s2 e s' I2 hq
   |ok fl=>
    cases fl with
    |ret u=>exact I2.after hq
    |next=>exact False.elim hq
    |brk=>exact False.elim hq
    |cont=>exact False.elim hq
end
def xB(e:Expr):Option (Str×Str):=(mV e).bind fun ts=>(nW ts).bind fun q=>(aR q.1).bind fun x=>(aR q.2).map fun y=>(x,y)
def xU(h:xB e=some r):∃p1 p2 k p,e=.Tuple [.Name r.1 p1,.Name r.2 p2] k p:=by obtain⟨ts,e1,h⟩:=lO.mp h;obtain⟨⟨a,b⟩,e2,h⟩:=lO.mp h;obtain⟨x,e3,h⟩:=lO.mp h;obtain⟨y,e4,rfl⟩:=sR.mp h;obtain⟨k,p,z1⟩:=ly e1;have z2:=ja e2;obtain⟨p1,z3⟩:=aM e3;obtain⟨p2,z4⟩:=aM e4;dsimp only at z1 z2 z3 z4⊢;exact⟨p1,p2,k,p,by rw[z1,z2,z3,z4]⟩
def T4(sc:Sc)(N:List Str)(t:Tw.Tg)(tg:Expr):Bool:=match t with
 |.var i=>(aR tg).any fun x=>decide (N[i]?=some x)&&fe sc x
 |.two i j=>(xB tg).any fun r=>decide (N[i]?=some r.1)&&fe sc r.1&&decide (N[j]?=some r.2)&&fe sc r.2
noncomputable def QU:Const->Bool
 |.str _=>true
 |_=>false
noncomputable def Q5:Tw.Es->Bool
 |.nil=>true
 |_=>false
def isTup(e:Expr):Bool:=decide (e.ctorIdx=25)
noncomputable def Gg(e:Stmt)(h:e.ctorIdx=0):Option (Str×Arguments×List Stmt×Scope×Pos):=Stmt.FunctionDef.elim (motive_2:=fun _=>Option (Str×Arguments×List Stmt×Scope×Pos)) e h fun n a b d r t sc ts bi p=>if d.isEmpty&&r.isNone&&t.isEmpty&&ts.isNone&&decide (bi=n) then some (n,a,b,sc,p) else none
def Bj(e:Stmt):Option (Str×Arguments×List Stmt×Scope×Pos):=if h:e.ctorIdx=0 then Gg e h else none
def Ec{e:Stmt}{r:Str×Arguments×List Stmt×Scope×Pos}(h:Bj e=some r):e=.FunctionDef r.1 r.2.1 r.2.2.1 [] none [] r.2.2.2.1 none r.1 r.2.2.2.2:=
 let ⟨c,h⟩:=dv h
 Stmt.FunctionDef.elim (motive_2:=fun e=>∀c,Gg e c=some r->e=.FunctionDef r.1 r.2.1 r.2.2.1 [] none [] r.2.2.2.1 none r.1 r.2.2.2.2) e c (fun n a b d r' t sc ts bi p _ h=>by
  have h:(if (d.isEmpty&&r'.isNone&&t.isEmpty&&ts.isNone&&decide (bi=n))=true then some (n,a,b,sc,p) else none)=some r:=h;by_cases q:(d.isEmpty&&r'.isNone&&t.isEmpty&&ts.isNone&&decide (bi=n))=true
  .rw[if_pos q] at h;cases h;simp only[aq,az,Ap,ua] at q;obtain⟨⟨⟨⟨rfl,rfl⟩,rfl⟩,rfl⟩,rfl⟩:=q;rfl
  .rw[if_neg q] at h;cases h) c h
def Bb{α:Type}:List α->Option (α×α×α)
 |[a,b,c]=>some (a,b,c)
 |_=>none
def xl{α:Type}{l:List α}{r:α×α×α}(h:Bb l=some r):l=[r.1,r.2.1,r.2.2]:=by
 match l,h with
 |[a,b,c],h=>cases h;rfl
def A1(sc:Sc)(N:List Str):List Nat->List Str->Bool
 |[],[]=>true
 |[i],[y]=>decide (N[i]?=some y)&&decide (sc.lookup y=some .cell)
 |_,_=>false
def DY(cf:Cfg)(sc:Sc)(N:List Str)(t:Tw.St)(ss:List Stmt):Bool:=match t with
 |.lC j fw a b f ks=>cf.wk&&(nW ss).any fun q=>cf.ci f q.1&&(Bj q.1).any fun d=>decide (d.1=("answer":Str))&&(eJ d.2.1 (fC true) || eJ d.2.1 (fC false))&&decide (N[j]?=some ("answer":Str))&&decide (sc.lookup ("answer":Str)=some .local)&&
   A1 sc N ks (cE d.2.2.2.1.names)&&(nY q.2).any fun o=>o.any fun e=>(hV e).any fun r=>decide (cf.fns[fw]?=some (.fn r.1))&&fO sc r.1&&iX r.1&&(Bb r.2).any fun z=>ax z.1&&ax z.2.1&&(aR z.2.2).any (fun x=>decide (x=("answer":Str)))&&aE cf sc N a z.1&&aE cf sc N b z.2.1
 |_=>false
mutual
noncomputable def EF(cf:Cfg)(sc:Sc)(N:List Str):Tw.St->Stmt->Bool
 |.expr e,s=>(FT s).any fun x=>ax x&&!(pB x)&&aE cf sc N e x
 |.ret e,s=>(nY s).any fun o=>o.any fun x=>aE cf sc N e x
 |.set i e,s=>(qX s).any fun r=>(aR r.1).any fun y=>decide (N[i]?=some y)&&fe sc y&&ax r.2&&aE cf sc N e r.2
 |.put o k e,s=>(qX s).any fun r=>(pO r.1).any fun q=>ax q.2&&aE cf sc N o q.1&&aE cf sc N k q.2&&aE cf sc N e r.2
 |.iff c a b,s=>(KQ s).any fun r=>dX r.1&&aE cf sc N c r.1&&jY cf sc N a r.2.1&&jY cf sc N b r.2.2
 |.for t it b,s=>(JI s).any fun r=>r.2.2.2.isEmpty&&ax r.2.1&&Be cf sc N (isTup r.1) it r.2.1&&jY cf sc N b r.2.2.1&&T4 sc N t r.1
 |.bad,_=>true
 |.fput o x e,s=>(qX s).any fun r=>(oN r.1).any fun q=>decide (q.2.1=⟨x.toArray⟩)&&zw.contains q.2.1&&ax r.2&&!(pB r.2)&&aE cf sc N o q.1&&aE cf sc N e r.2
 |.oh c b,s=>(K0 s).any fun r=>r.2.2.isEmpty&&dX r.1&&aE cf sc N c r.1&&jY cf sc N b r.2.1
 |.raise c xs es,s=>(B2 s).any fun r=>r.2.isNone&&r.1.any fun e=>(hV e).any fun q=>!(q.2.isEmpty)&&decide (q.1=str c)&&decide (cf.cV.lookup c=some xs)&&fO sc q.1&&iX q.1&&(xs.isEmpty&&Q5 es&&(gF q.2).any fun y=>(mh y).any QU)
 |.qG b hs,s=>(LV s).any fun r=>r.2.2.1.isEmpty&&r.2.2.2.isEmpty&&!(r.2.1.isEmpty)&&lX cf sc N b r.1&&nz cf sc N hs r.2.1
 |.oC i j e,s=>(qX s).any fun r=>(xB r.1).any fun q=>decide (N[i]?=some q.1)&&fe sc q.1&&decide (N[j]?=some q.2)&&fe sc q.2&&isCall r.2&&aE cf sc N e r.2
 |.aug i op e,s=>(IE s).any fun r=>(aR r.1).any fun x=>decide (op=.add)&&decide (r.2.1=.Add)&&decide (N[i]?=some x)&&fe sc x&&aE cf sc N e r.2.2
 |.oI i j k e,s=>(qX s).any fun r=>(mV r.1).any fun ts=>(Bb ts).any fun q=>(aR q.1).any fun x=>(aR q.2.1).any fun y=>(aR q.2.2).any fun z=>decide (N[i]?=some x)&&fe sc x&&decide (N[j]?=some y)&&fe sc y&&decide (N[k]?=some z)&&fe sc z&&isCall r.2&&aE cf sc N e r.2
 |.lC _ _ _ _ _ _,_=>false
noncomputable def jY(cf:Cfg)(sc:Sc)(N:List Str):List Tw.St->List Stmt->Bool
 |[],ss=>ss.isEmpty
 |t::ts,ss=>((nI ss).any fun r=>EF cf sc N t r.1&&jY cf sc N ts r.2) || (ts.isEmpty&&DY cf sc N t ss)
end
structure PH(cf:Cfg)(C:Tw.Or)(CX:fP)(X:Cx):Prop where
 at_:Fi X "answer"
 fn:∀x,X.fn x=true
 cb:CB cf.ci X.base X.cl
 own:∀f x,cf.fns[f]?=some (.fn x)->∃k g fd ps,(∀base cl,cl.tb=X.cl.tb->CB cf.ci base cl->bR X.prog X.w X.K X.mg base CX k g fd ps (cO X.K X.mg cl (C f)))/\cM k X.A/\X.mg x=some (.ref g)/\W.keepIn X.K (.ref g)=true/\Binds X.K fd ps []
structure lK(cf:Cfg)(C:Tw.Or)(CX:fP)(E:XK)(sc:Sc)(N:List Str)(X:Cx):Prop where
 dJ:fR cf C CX E X
 sees:dW sc N X
 same:X.env.scope.names=sc
 nd:N.Nodup
 fn:∀x,fe sc x=true->X.fn x=true\/X.env.scope.names.lookup x=some .local
 pass:PassesOwn (model X.prog X.w) X.A X.env X.xe
 block:X.env.blockKind=.function
 ex:X.ex=[]
 st:X.stack=X.env::X.outer
 fm:X.env.frame=some X.env.locals
 xe:X.xe=pP X E
 cx:CX=cD X.prog X.w
 err:∀c fs,cf.cV.lookup c=some fs->Ol X c fs
 hd:cf.hd=false
 wk:cf.wk=true->PH cf C CX X
section
variable {cf:Cfg}{C:Tw.Or}{CX:fP}{E:XK}{sc:Sc}{N:List Str}{X:Cx}
def lK.loc(R:lK cf C CX E sc N X)(h:fe sc x=true):Loc X.env.scope x:=by
 unfold fe at h;rw[<-R.same] at h;cases e:X.env.scope.names.lookup x with
 |none=>rw[e] at h;exact no h
 |some k=>
  rw[e] at h;cases k with
  | «local» => exact .inl e
  |cell=>exact .inr e
  |_=>exact no h
def lK.jB(R:lK cf C CX E sc N X)(h1:N[i]?=some x)(h2:fe sc x=true):PG X (.Name x p) (gZ i):=
 sS (by rw[R.sees.n];exact R.nd) (by rw[R.sees.n];exact h1) (R.loc h2) (R.fn x h2)
def By(hk:ax k=true)(v:Value):assign (.Subscript o k pos') env v=(do
   let ov <-holding [v] (eval o env)
   let iv <-holding [v,ov] (eval k env)
   standAt pos'
   holding [v,ov,iv] (setItem ov iv v)
   release [v,ov,iv] []):=by
 cases k<;>first|rfl|exact absurd (show false=true from hk) kx
def Md(R:lK cf C CX E sc N X)(h1:N[i]?=some y)(h2:fe sc y=true)(h3:ax x=true)(h4:aE cf sc N e x=true):
  PS X (.Assign [.Name y py] x p) (cW (zx X E) fun ρ h=>(Tw.af C e ρ h).bind fun w h=>.ok (.next (ρ.set i (some w))) h):=by
 have plain:swapsWith x (some (.Name y py)) p.line X.env=pure false->PS X (.Assign [.Name y py] x p) (cW (zx X E) fun ρ h=>(Tw.af C e ρ h).bind fun w h=>.ok (.next (ρ.set i (some w))) h):=fun hs=>
  Gp (by rw[R.sees.n];exact R.nd) (by rw[R.sees.n];exact h1) (R.loc h2) (aO e R.dJ R.sees h4).1 hs (R.fn y h2)
 by_cases hc:pB x=true
 .cases x with
  |ListComp elt gens scope pos=>
   have hsw:swapsWith (.ListComp elt gens scope pos) (some (.Name y py)) p.line X.env=pure (X.env.blockKind== .function&&X.env.kindOf y== some .local&&py.line== pos.line&&!(scope.names.any fun (n,k)=>n== y&&(k== .local || k== .cell))):=rfl;cases hb:(X.env.blockKind== .function&&X.env.kindOf y== some .local&&py.line== pos.line&&!(scope.names.any fun (n,k)=>n== y&&(k== .local || k== .cell))) with
   |false=>rw[hb] at hsw;exact plain hsw
   |true=>
    rw[hb] at hsw;have hl:X.env.scope.names.lookup y=some .local:=by simp only[aq,iK] at hb;exact hb.1.1.2
    cases e with
    |comp el it c=>
     replace h4:=zi h4;replace h4:=h4.2
     .replace h4:=ay h4;obtain⟨⟨yy,gs,scope,pos⟩,e1,h4⟩:=h4;cases rJ e1;replace h4:=ay h4;obtain⟨⟨tg,iter,ifs⟩,e2,h4⟩:=h4;obtain rfl:=uv e2;replace h4:=ay h4;obtain⟨xx,e3,h4⟩:=h4;obtain⟨px,rfl⟩:=aM e3;simp only[aq,az] at h4;obtain⟨⟨⟨⟨⟨h0,h1'⟩,h2'⟩,h3'⟩,h4⟩,h5⟩:=h4;have S:=R.sees;have cs:=BG S h0;have hk:scope.kind=.function:=cs.kind;have hnd:(c9 X.N [xx]).Nodup:=by rw[S.n];exact h1'
      have sees:∀{Cc:Addr}{s:Shared}{H:L2.Hp}{pins:aH}{fp:List Addr},dW scope.names (c9 N [xx]) (br X scope Cc [xx] s H pins fp):=fun {Cc s H pins fp}=>by
       have z:=dW.comp (X:=X) (scope:=scope) (C:=Cc) (x:=[xx]) (s:=s) (H:=H) (pins:=pins) (fp:=fp) hk;rw[S.n] at z;exact z
      have hev:Tw.af C (.comp el it c)=vB LN (Tw.eM C it) (Tw.gH C c) (Tw.af C el):=by funext ρ h;rw[Tw.nA];rfl
      rw[hev];refine JT (R.dJ.calm R.hd) cs (vV hnd cs) (vY _ _) (AV it R.dJ S h3' (fun z=>nomatch z)) (iJ h2') (fun Cc s H pins fp=>(aO el R.dJ.comp sees h4).1) ?_ (by rw[S.n];exact R.nd) (by rw[S.n];exact h1) hl hsw;cases c with
      |none=>
       obtain rfl:=bX (show ifs.isEmpty=true from h5);exact .inl ⟨rfl,fun ρ h=>by rw[Tw.pe]⟩
      |some d=>
       replace h5:=ay h5;obtain⟨z,e4,h5⟩:=h5;obtain rfl:=dH (show gF ifs=some z from e4);rw[aq] at h5;exact .inr ⟨z,Tw.af C d,rfl,fun ρ h=>by rw[Tw.oB],fun Cc s H pins fp=>(aO d R.dJ.comp sees h5.2).2 h5.1⟩
    |bad=>
     refine fun pins s σ H D I ⟨ρ,h,ι,at',p⟩=>?_;simp only[Tw.tL] at p;exact p.elim
    |iW a ns ds cs=>cases a<;>exact no h4
    |_=>first|exact no h4|exact no (zI.mp h4).2
  |_=>exact no hc
 .exact plain (js h3 (by simpa using hc))
def G8(R:lK cf C CX E sc N X){t:Tw.St}{ss:List Stmt}(h:DY cf sc N t ss=true):dS X ss (cW (zx X E) (Tw.aJ C [t])):=by
 cases t with
 |lC j fw a b f ks=>
  replace h:(cf.wk&&(nW ss).any fun q=>cf.ci f q.1&&(Bj q.1).any fun d=>decide (d.1=("answer":Str))&&(eJ d.2.1 (fC true) || eJ d.2.1 (fC false))&&decide (N[j]?=some ("answer":Str))&&decide (sc.lookup ("answer":Str)=some .local)&&
   A1 sc N ks (cE d.2.2.2.1.names)&&(nY q.2).any fun o=>o.any fun e=>(hV e).any fun r=>decide (cf.fns[fw]?=some (.fn r.1))&&fO sc r.1&&iX r.1&&(Bb r.2).any fun z=>ax z.1&&ax z.2.1&&(aR z.2.2).any (fun x=>decide (x=("answer":Str)))&&aE cf sc N a z.1&&aE cf sc N b z.2.1)=true:=h
  rw[aq] at h;obtain⟨hw,h⟩:=h;replace h:=ay h;obtain⟨⟨s1,s2⟩,e1,h⟩:=h;obtain rfl:=ja e1;rw[aq] at h;obtain⟨hci,h⟩:=h;replace h:=ay h;obtain⟨⟨nm,params,body,scope,pos⟩,e2,h⟩:=h;obtain rfl:=Ec (show Bj s1=some _ from e2);simp only[aq,az,vw] at h;obtain⟨⟨⟨⟨⟨rfl,hp⟩,hj⟩,hl⟩,hk⟩,h⟩:=h;replace h:=ay h;obtain⟨o,e3,h⟩:=h;obtain⟨rp,rfl⟩:=kv (show nY s2=some o from e3);replace h:=ay h;obtain⟨e,rfl,h⟩:=h;replace h:=ay h;obtain⟨⟨x,as⟩,e4,h⟩:=h;obtain⟨p1,cp,rfl⟩:=dh e4;simp only[aq,az] at h;obtain⟨⟨⟨h0,h1⟩,h2⟩,h⟩:=h;replace h:=ay h;obtain⟨⟨ea,eb,en⟩,e5,h⟩:=h;obtain rfl:=xl e5;simp only[aq] at h;obtain⟨⟨⟨⟨h3,h4⟩,h5⟩,h6⟩,h7⟩:=h;replace h5:=ay h5;obtain⟨x5,e6,h5⟩:=h5;obtain⟨p2,rfl⟩:=aM (show aR en=some x5 from e6);obtain rfl:x5= "answer":=Bm h5;have Wa:=R.wk hw;obtain⟨k,g,fd,ps,G,hr,hm,hkp,hb⟩:=Wa.own fw x h0;have hfree:(cE scope.names=[]/\ks=[])\/∃y i,cE scope.names=[y]/\ks=[i]/\X.N[i]?=some y/\X.env.scope.names.lookup y=some .cell:=by
   match ks,hq:cE scope.names,(show A1 sc N ks (cE scope.names)=true from hk) with
   |[],[],_=>exact .inl ⟨rfl,rfl⟩
   |[i],[y],hk=>
    have hk:(decide (N[i]?=some y)&&decide (sc.lookup y=some .cell))=true:=hk;simp only[aq,az] at hk;exact .inr ⟨y,i,rfl,rfl,by rw[R.sees.n];exact hk.1,by rw[R.same];exact hk.2⟩
   |[],_::_,hk=>exact no hk
   |[_],[],hk=>exact no hk
   |[_],_::_::_,hk=>exact no hk
   |_::_::_,_,hk=>exact no hk
  have key:∀b0,eJ params (fC b0)=true->dS X _ (cW (zx X E) (Tw.dA C (.lC j fw a b f ks))):=fun b0 hp=>
   Mb (b0:=b0) (p1:=p1) (p2:=p2) (cp:=cp) (rp:=rp) Wa.at_ Wa.fn (by rw[R.sees.n];exact R.nd) (by rw[R.sees.n];exact hj) (by rw[R.same];exact hl) Wa.cb hci hp hfree G hr (R.sees.gl _ h1) hm hkp hb (dG h2) R.dJ.pass (aO a R.dJ R.sees h6).1 (aO b R.dJ R.sees h7).1 h3 h4
  have e:Tw.aJ C [.lC j fw a b f ks]=Tw.dA C (.lC j fw a b f ks):=by
   funext ρ h;rw[Tw.dP,Tw.sU];cases Tw.af C a (ρ.set j none) h with
   |bad=>rfl
   |aw=>rfl
   |ok x h1=>
    simp only[Tw.R.aZ];cases Tw.af C b (ρ.set j none) h1 with
    |bad=>rfl
    |aw=>rfl
    |ok y h2=>
     simp only[Tw.R.aZ];cases Tw.j7 (ρ.set j none) ks with
     |none=>rfl
     |some ws=>
      dsimp only;cases C fw [x,y,.ref h2.length] (h2++[.fun f ws])<;>rfl
  rw[e];exact hp.elim (key true) (key false)
 |_=>exact no h
mutual
theorem RY(R:lK cf C CX E sc N X):∀(t:Tw.St){s:Stmt},EF cf sc N t s=true->PS X s (cW (zx X E) (Tw.dA C t))
 |.expr e,s,h=>by
  replace h:=ay h;obtain⟨x,e1,h⟩:=h;obtain⟨p,rfl⟩:=Cb e1;simp only[aq,iT] at h;exact IJ (aO e R.dJ R.sees h.2).1 (js h.1.1 h.1.2)
 |.ret e,s,h=>by
  replace h:=ay h;obtain⟨o,e1,h⟩:=h;obtain⟨p,rfl⟩:=kv e1;replace h:=ay h;obtain⟨x,rfl,h⟩:=h;exact A0 (aO e R.dJ R.sees h).1
 |.set i e,s,h=>by
  replace h:=ay h;obtain⟨⟨t,v⟩,e1,h⟩:=h;obtain⟨p,rfl⟩:=jg e1;replace h:=ay h;obtain⟨y,e2,h⟩:=h;obtain⟨py,rfl⟩:=aM (show aR t=some y from e2);simp only[aq,az] at h;exact Md R h.1.1.1 h.1.1.2 h.1.2 h.2
 |.put o k e,s,h=>by
  replace h:=ay h;obtain⟨⟨t,v⟩,e1,h⟩:=h;obtain⟨p,rfl⟩:=jg e1;replace h:=ay h;obtain⟨⟨x,y⟩,e2,h⟩:=h;obtain⟨p2,rfl⟩:=lg (show pO t=some (x,y) from e2);simp only[aq] at h;exact Nv (by have:=R.dJ.units;lia) (aO e R.dJ R.sees h.2).1 (aO o R.dJ R.sees h.1.1.2).1 (aO k R.dJ R.sees h.1.2).1 (By h.1.1.1)
 |.iff c a b,s,h=>by
  replace h:=ay h;obtain⟨⟨x,ys,zs⟩,e1,h⟩:=h;obtain⟨p,rfl⟩:=zl e1;simp only[aq] at h;rw[show Tw.dA C (.iff c a b)=fun ρ h=>(Tw.af C c ρ h).bind fun x h=>match Tw.truth h x with
   |some true=>Tw.aJ C a ρ h
   |some false=>Tw.aJ C b ρ h
   |none=>.bad from by funext ρ h;rw[Tw.p6]<;>rfl]
  exact J9 ((aO c R.dJ R.sees h.1.1.2).2 h.1.1.1) (la R a h.1.2) (la R b h.2)
 |.for t it b,s,h=>by
  replace h:=ay h;obtain⟨⟨tg,iter,ys,zs⟩,e1,h⟩:=h;obtain⟨p,rfl⟩:=D9 e1;simp only[aq] at h;obtain⟨⟨⟨⟨hz,h0⟩,h1⟩,h2⟩,h3⟩:=h;obtain rfl:=bX (show zs.isEmpty=true from hz);cases t with
  |var i=>
   replace h3:=ay h3;obtain⟨x,e2,h3⟩:=h3;obtain⟨px,rfl⟩:=aM (show aR tg=some x from e2);simp only[aq,az] at h3;exact Dt R.pass (R.dJ.calm R.hd) (AV it R.dJ R.sees h1 (fun z=>nomatch z)) (R.jB h3.1 h3.2) (Kh _ _) (la R b h2) (iJ h0)
  |two i j=>
   replace h3:=ay h3;obtain⟨⟨x,y⟩,e2,h3⟩:=h3;obtain⟨p1,p2,kt,pt,rfl⟩:=xU (show xB tg=some (x,y) from e2);simp only[aq,az] at h3;exact Dt R.pass (R.dJ.calm R.hd) (AV it R.dJ R.sees h1 (fun _=>⟨_,_,_,rfl⟩)) (vH (R.dJ.calm R.hd) (hF (R.jB h3.1.1.1 h3.1.1.2) (hF (R.jB h3.1.2 h3.2) sZ))) (Ca _ _ _) (la R b h2) (iJ h0)
 |.bad,s,h=>by
  exact fun pins s σ H D I ⟨ρ,h,ι,at',p⟩=>p.elim
 |.fput o x e,s,h=>by
  replace h:=ay h;obtain⟨⟨t,z⟩,e1,h⟩:=h;obtain⟨p,rfl⟩:=jg e1;replace h:=ay h;obtain⟨⟨v,y,p2⟩,e2,h⟩:=h;obtain rfl:=mW (show oN t=some (v,y,p2) from e2);simp only[aq,az,iT] at h;obtain⟨⟨⟨⟨⟨rfl,h1⟩,h2⟩,h3⟩,h4⟩,h5⟩:=h;exact IZ (by rw[zM] at h1;simpa using h1) (aO e R.dJ R.sees h5).1 (aO o R.dJ R.sees h4).1 (js h2 h3)
 |.oh c b,s,h=>by
  replace h:=ay h;obtain⟨⟨x,ys,zs⟩,e1,h⟩:=h;obtain⟨p,rfl⟩:=Ew e1;simp only[aq] at h;obtain⟨⟨⟨hz,h0⟩,h1⟩,h2⟩:=h;obtain rfl:=bX (show zs.isEmpty=true from hz);exact OE R.pass ((aO c R.dJ R.sees h1).2 h0) (la R b h2)
 |.raise c xs es,s,h=>by
  replace h:=ay h;obtain⟨⟨o,cs⟩,e1,h⟩:=h;obtain⟨p,rfl⟩:=AQ e1;rw[aq] at h;obtain⟨hn,h⟩:=h;obtain rfl:=ua.mp (show cs.isNone=true from hn);replace h:=ay h;obtain⟨e,z,h⟩:=h;obtain rfl:o=some e:=z;replace h:=ay h;obtain⟨⟨x,ys⟩,e3,h⟩:=h;obtain⟨np,cp,rfl⟩:=dh e3;simp only[aq,az,iT] at h;obtain⟨⟨⟨⟨⟨hy,rfl⟩,h1⟩,h2⟩,h3⟩,h4⟩:=h;obtain⟨⟨xe,h4⟩,h5⟩:=h4;obtain rfl:=bX xe;cases es with
  |cons _ _=>exact no h4
  |nil=>
   replace h5:=ay h5;obtain⟨y,e5,h5⟩:=h5;obtain rfl:=dH (show gF ys=some y from e5);replace h5:=ay h5;obtain⟨k,e6,h5⟩:=h5;obtain⟨kk,kp,rfl⟩:=lQ e6;cases k with
   |str z=>
    obtain⟨Ce,hm,_,M⟩:=R.err c [] h1;show PS X _ (cW (zx X E) fun _ h=>Tw.qj c [] [] h);exact DV R.ex R.st R.fm R.xe (R.dJ.calm R.hd) hm M (R.sees.gl _ h2) (dG h3)
   |_=>exact no h5
 |.qG b hs,s,h=>by
  replace h:=ay h;obtain⟨⟨bd,l,oe,fb⟩,e1,h⟩:=h;obtain⟨p,rfl⟩:=EC e1;simp only[aq,iT] at h;obtain⟨⟨⟨⟨w1,w2⟩,w3⟩,h1⟩,h2⟩:=h;obtain rfl:=bX (show oe.isEmpty=true from w1);obtain rfl:=bX (show fb.isEmpty=true from w2);have cx:=R.cx;subst cx;exact Mq R.dJ R.sees R.same R.nd R.st R.fm h1 h2 (fun z=>by rw[show l=[] from z] at w3;cases w3)
 |.oC i j e,s,h=>by
  replace h:=ay h;obtain⟨⟨t,v⟩,e1,h⟩:=h;obtain⟨p,rfl⟩:=jg e1;replace h:=ay h;obtain⟨⟨x,y⟩,e2,h⟩:=h;obtain⟨p1,p2,kt,pt,rfl⟩:=xU (show xB t=some (x,y) from e2);simp only[aq,az] at h;obtain⟨⟨⟨⟨⟨h1,h2⟩,h3⟩,h4⟩,h5⟩,h6⟩:=h;rw[show Tw.dA C (.oC i j e)=fun ρ h=>(Tw.af C e ρ h).bind fun x h=>match x with
   |.tup [u,v]=>.ok (.next ((ρ.set i (some u)).set j (some v))) h
   |_=>.bad from by funext ρ h;rw[Tw.E9]<;>rfl]
  exact Kt (vH (R.dJ.calm R.hd) (hF (R.jB h1 h2) (hF (R.jB h3 h4) sZ))) (Ca _ _ _) (aO e R.dJ R.sees h6).1 h5
 |.aug i op e,s,h=>by
  replace h:=ay h;obtain⟨⟨t,o,z⟩,e1,h⟩:=h;obtain⟨p,rfl⟩:=Ef e1;replace h:=ay h;obtain⟨x,e2,h⟩:=h;obtain⟨p2,rfl⟩:=aM (show aR t=some x from e2);simp only[aq,az] at h;obtain⟨⟨⟨⟨rfl,rfl⟩,h1⟩,h2⟩,h3⟩:=h;rw[show Tw.dA C (.aug i .add e)=fun ρ h=>match ρ[i]? with
   |some (some (.int n))=>(Tw.af C e ρ h).bind fun y h=>match y with
    |.int b=>Tw.R.of ((Tw.binI .add n b).map fun c=>.next (ρ.set i (some (.int c)))) h
    |_=>.bad
   |_=>.bad from by funext ρ h;rw[Tw.IA]<;>rfl]
  exact Nt (by rw[R.sees.n];exact R.nd) (by rw[R.sees.n];exact h1) (R.loc h2) (R.fn _ h2) (aO e R.dJ R.sees h3).1
 |.oI i j k e,s,h=>by
  replace h:=ay h;obtain⟨⟨t,v⟩,e1,h⟩:=h;obtain⟨p,rfl⟩:=jg e1;replace h:=ay h;obtain⟨ts,e2,h⟩:=h;obtain⟨kt,pt,rfl⟩:=ly (show mV t=some ts from e2);replace h:=ay h;obtain⟨⟨n1,n2,n3⟩,e3,h⟩:=h;obtain rfl:=xl e3;replace h:=ay h;obtain⟨x,e4,h⟩:=h;obtain⟨px,rfl⟩:=aM (show aR n1=some x from e4);replace h:=ay h;obtain⟨y,e5,h⟩:=h;obtain⟨py,rfl⟩:=aM (show aR n2=some y from e5);replace h:=ay h;obtain⟨z,e6,h⟩:=h;obtain⟨pz,rfl⟩:=aM (show aR n3=some z from e6);simp only[aq,az] at h;obtain⟨⟨⟨⟨⟨⟨⟨h1,h2⟩,h3⟩,h4⟩,h5⟩,h6⟩,h7⟩,h8⟩:=h;rw[show Tw.dA C (.oI i j k e)=fun ρ h=>(Tw.af C e ρ h).bind fun x h=>match x with
   |.tup [u,v,w]=>.ok (.next (((ρ.set i (some u)).set j (some v)).set k (some w))) h
   |_=>.bad from by funext ρ h;rw[Tw.Ey]<;>rfl]
  exact LR (vH (R.dJ.calm R.hd) (hF (R.jB h1 h2) (hF (R.jB h3 h4) (hF (R.jB h5 h6) sZ)))) (aO e R.dJ R.sees h8).1 h7
 |.lC j fw a b f ks,s,h=>by
  exact no h
theorem la(R:lK cf C CX E sc N X):∀(ts:List Tw.St){ss:List Stmt},jY cf sc N ts ss=true->dS X ss (cW (zx X E) (Tw.aJ C ts))
 |[],ss,h=>by
  obtain rfl:=bX h;exact xA
 |t::ts,ss,h=>by
  replace h:((nI ss).any fun r=>EF cf sc N t r.1&&jY cf sc N ts r.2)=true\/(ts.isEmpty&&DY cf sc N t ss)=true:=Bool.or_eq_true_iff.mp h;rcases h with h|h
  rotate_left
  .rw[aq] at h;obtain rfl:=bX h.1;exact G8 R h.2
  replace h:=ay h;obtain⟨⟨s,r⟩,e1,h⟩:=h;obtain rfl:=eK e1;simp only[aq] at h;rw[show Tw.aJ C (t::ts)=fun ρ h=>(Tw.dA C t ρ h).bind fun f h=>match f with
   |.next ρ=>Tw.aJ C ts ρ h
   |f=>.ok f h from by funext ρ h;rw[Tw.dP]<;>rfl]
  exact zF (RY R t h.1) (la R ts h.2)
end
end
structure bG where
 key:Fk
 name:Str
 qual:Str
 st:Stmt
 N:List Str
 ps:List Str
 wk:Bool:=false
def xC(cf:Cfg)(d:bG)(fn:Tw.Fn):Bool:=
 decide ((au d.st).kind=.function)&&!(au d.st).isCoroutine&&!(au d.st).isGenerator&&decide d.N.Nodup&&decide (d.N.take d.ps.length=d.ps)&&
 d.ps.all (fe (au d.st).names)&&(au d.st).names.all (fun y=>decide (y.2≠.free))&&decide (fn.ps=d.ps.length)&&decide (fn.ns=d.N.length)&&jY {cf with wk:=d.wk} (au d.st).names d.N fn.body (cj d.st)
def AF(cf:Cfg)(st:Stmt)(N:List Str)(b:Bool)(fn:Tw.Fn):Bool:=
 decide ((au st).kind=.function)&&!(au st).isCoroutine&&!(au st).isGenerator&&decide N.Nodup&&decide (N.take 3=fC b)&&(fC b).all (fun x=>decide ((au st).names.lookup x=some .local))&&
 (au st).names.all (fun y=>decide (y.2≠.cell))&&decide ((N.drop 3).take (cE (au st).names).length=cE (au st).names)&&(cE (au st).names).all (fun y=>decide ((au st).names.lookup y=some .free))&&
 decide (fn.ps=3+(cE (au st).names).length)&&decide (fn.ns=N.length)&&eJ (cR st) (fC b)&&jY {cf with wk:=false,ci:=fun _ _=>false} (au st).names N fn.body (cj st)
def A2(cf:Cfg)(dY:List (Nat×List Str×Bool×Tw.Fn))(f:Nat)(st:Stmt):Bool:=match dY.lookup f with
 |some (N,b,fn)=>AF cf st N b fn
 |none=>false
noncomputable def jk(K:W.Frag)(mg:Str->Option Value)(g:Addr):Fk->Prop
 |.fn x=>mg x=some (.ref g)
 |.me c m=>∃A,mg ⟨c.toArray⟩=some (.ref A)/\GoodC K A/\(m=dy->Mk K A g)/\(m≠dy->Meth K A ⟨m.toArray⟩ g)
 |.dY=>False
def SK(K:W.Frag)(mg:Str->Option Value)(tb:List kF)(q:Str)(fd:FuncData):Prop:=
 (∃c P,fd.code=.ref c/\(∀h:Heap,K.In h->W.CodeHd h c P)/\⟨P,q++ ".<locals>." ++ "answer"⟩∈tb/\(∀t∈tb,t.P=P->t.q=q++ ".<locals>." ++ "answer"))/\
 ∃bm ob,mg "__builtins__"=some (.ref bm)/\bm≠builtinsNs/\bm≠mainGlobals/\K.lookup bm=some ob/\ob.cls=.type "module" /\ob.dict=some builtinsNs/\ob.data=.plain
structure jm(K:W.Frag)(mg:Str->Option Value)(tb:List kF)(d:bG)(g:Addr)(fd:FuncData):Prop where
 F:Cu K d.name d.qual d.st g fd
 m:jk K mg g d.key
 b:∀us:List Value,us.length=d.ps.length->bindArgs fd ⟨us,[]⟩=pure (d.ps.zip us)
 w:d.wk=true->SK K mg tb d.qual fd
def k9(K:W.Frag)(mg:Str->Option Value)(x:Str)(w:Tw.W):Prop:=∃v u,mg x=some u/\RelV v u/\∀ι n H,RW K ι n H w v
def m9(K:W.Frag)(mg:Str->Option Value)(x:Str)(g:List (Tw.S×Int)):Prop:=∃t,mg x=some (.ref t)/\ng K t g
structure nu(K:W.Frag)(mg:Str->Option Value)(c:Tw.S)(fs:List Tw.S):Prop where
 ex:∃C,mg (str c)=some (.ref C)/\fs=[]/\uI K C
section
variable {P:Program}{w:World}{K:W.Frag}{mg:Str->Option Value}{base:Heap}{cf:Cfg}{C:Tw.Or}
def Cu.To{x qual:Str}{st:Stmt}{f:Addr}{fd:FuncData}{N ps:List Str}{k:Nat}{sp:Sp}{cl:ff}(F:Cu K x qual st f fd)(S:pF N ps (au st))(len:∀vs H Q E,sp vs H Q E->vs.length=ps.length)
  (hb:∀(A:Around)(outer:List Env)(s:Shared)(H:L2.Hp)(vs:List V)(Q:VK)(E:XK),cM k (A.deeper (envOfC qual (au st) s.heap.objs.size f fd.code))->sp vs H Q E->
   ∃t,dS (tW (cD P w) P w K mg base N qual (au st) f fd.code A outer s H E cl) (cj st) t/\t {nx:=fun _ H'=>Q .ah H',rt:=Q} (start N vs) H):bR P w K mg base (cD P w) (k+1) f fd ps sp:=by
 obtain⟨oc,od,kV,doc,pm,an,cdv,ct,osl,rfl,lk,hcd⟩:=F.ex;exact OA lk hcd S len fun A outer s H vs Q E hr hsp=>hb A outer s H vs Q E hr hsp
def x9{K:Zk}{ι:Nat->Addr}{h:Tw.Hp}{H:L2.Hp}{ws:List Tw.W}{vs:List V}{N:List Str}(r:HR K ι h H)(rw':aS K.K ι h.length H ws vs)(hl:vs.length<=N.length):
  At K ι h H (ws.map some++List.replicate (N.length-ws.length) none) (start N vs):=by
 refine⟨r,?_,fun i w e=>?_⟩
 .unfold L2.start;simp only[lI,i9,DK,rw'.length]
 .have hi:i<ws.length:=by
   by_cases hi:i<ws.length
   .exact hi
   .rw[mZ (by simpa using hi),AH] at e;split at e<;>cases e
  rw[fI (by simpa using hi),lP] at e;cases e1:ws[i]? with
  |none=>rw[e1] at e;cases e
  |some u=>
   rw[e1] at e;cases e;obtain⟨v,g1,g2⟩:=rw'.get e1;refine⟨v,?_,g2⟩;unfold L2.start;rw[fI (by rw[i9,<-rw'.length];exact hi),lP,g1];rfl
def Dg{X:Cx}{E:XK}{sc:Scope}{N:List Str}(hP:X.prog=P)(hw:X.w=w)(hN:X.N=N)(hs:X.env.scope=sc)(h1:sc.kind=.function)(h4:N.Nodup)(hc:X.calm=true)(hu:X.A.units+950<cLine)
  (ex:X.ex=[]) (st:X.stack=X.env::X.outer) (fm:X.env.frame=some X.env.locals) (xe:X.xe=pP X E) (ps:Passes (cD P w) X E) (po:PassesOwn (model X.prog X.w) X.A X.env X.xe)
  (hr:cM k X.A) (hb:∀x∈cL,X.mg x=none) (num:∀x g,cf.nums.lookup x=some g->m9 X.K X.mg x g)
  (nM:∀f c,cf.fns[f]?=some (.me c dy)->∃j g fd ps,k=j+1/\bR P w X.K X.mg X.base (cD P w) j g fd ps (cO X.K X.mg X.cl (C (f+1000)))/\jk X.K X.mg g (.me c dy)/\Binds X.K fd ps [])
  (own:∀f kk,cf.fns[f]?=some kk->kk≠.dY->∃g fd ps,bR P w X.K X.mg X.base (cD P w) k g fd ps (cO X.K X.mg X.cl (C f))/\jk X.K X.mg g kk/\W.keepIn X.K (.ref g)=true/\Binds X.K fd ps [])
  (jO:∀i c,X.cl.fs i=some c->∃fd ps,bR P w X.K X.mg X.base (cD P w) k c.g fd ps (wz X.K X.mg X.cl c (C c.f))/\Binds X.K fd ps []/\∃oc od sl,X.base.get? c.g=some ⟨oc,od,.func fd,sl⟩)
   (con:∀x w,cf.cons.lookup x=some w->k9 X.K X.mg x w) (err:∀c fs,cf.cV.lookup c=some fs->nu X.K X.mg c fs) (xf:qV X.K X.mg cf) (hdf:cf.hd=false) (hk2:2<=k)
  (fn:∀x,fe sc.names x=true->X.fn x=true\/X.env.scope.names.lookup x=some .local) (wk:cf.wk=true->PH cf C (cD P w) X):lK cf C (cD P w) E sc.names N X:=by
 subst hP hw;refine⟨⟨fun _=>hc,hu,fun f x e=>?_,fun f c m e ne=>?_,fun f c e=>?_,num,con,hb,xf,ps,cD.never,fun _ i c e=>?_⟩,⟨hN,by rw[hs];exact h1,fun x hx=>?_,fun x hx=>?_,fun x hx=>?_⟩,by rw[hs],h4,fn,po,?_,ex,st,fm,xe,rfl,fun c fs e=>?_,hdf,wk⟩
 .obtain⟨g',fd',ps',z1,z2,z3,z4⟩:=own f (.fn x) e (fun z=>nomatch z);exact⟨k,g',fd',ps',z1,hr,z2,z3,z4⟩
 .obtain⟨g',fd',ps',z1,⟨A',y1,y2,_,y4⟩,z3,z4⟩:=own f (.me c m) e (fun z=>nomatch z);exact⟨k,g',fd',ps',A',z1,hr,y1,y2,y4 ne,z4⟩
 .obtain⟨j,g',fd',ps',ek,z1,⟨A',y1,y2,y3,_⟩,z4⟩:=nM f c e;exact⟨j,g',fd',ps',A',z1,by rw[<-ek];exact hr,y1,y2,y3 rfl,z4⟩
 .obtain⟨fd',ps',z1,z2,z3⟩:=jO i c e;exact⟨k,fd',ps',z1,hr,z2,z3⟩
 .show oE X.env.scope x;rw[hs];unfold sW at hx;cases e:sc.names.lookup x with
  |none=>rw[e] at hx;exact no hx
  |some k=>
   rw[e] at hx;cases k with
   | «local» => exact .inl e
   |cell=>exact .inr (.inl e)
   |free=>exact .inr (.inr e)
   |_=>exact no hx
 .show X.env.scope.names.lookup x=some .globalImplicit;rw[hs];unfold fO at hx;cases e:sc.names.lookup x with
  |none=>rw[e] at hx;exact no hx
  |some k=>
   rw[e] at hx;cases k with
   |globalImplicit=>rfl
   |_=>exact no hx
 .show X.env.scope.names.lookup x=some .cell\/X.env.scope.names.lookup x=some .free;rw[hs];unfold FH at hx;cases e:sc.names.lookup x with
  |none=>rw[e] at hx;exact no hx
  |some k=>
   rw[e] at hx;cases k with
   |cell=>exact .inl rfl
   |free=>exact .inr rfl
   |_=>exact no hx
 .unfold Env.blockKind;rw[hs,h1];exact ite_self _
 .exact (err c fs e).ex
def JK{α:Type}{l:List α}{i:Nat}{x:α}(e:l[i]?=some x):i<l.length:=(fV.mp e).1
def lE{K:W.Frag}{ι:Nat->Addr}{h:Tw.Hp}{H:L2.Hp}{cl:ff}{E:XK}{fn:Tw.Fn}{ws:List Tw.W}(p:ao ⟨K,mg,E,cl⟩ RE ι h H (Tw.eG C fn ws h) Q):
  ws.length=fn.ps/\bM ⟨K,mg,E,cl⟩ ι h H (Tw.aJ C fn.body (ws.map some++List.replicate (fn.ns-fn.ps) none) h) {nx:=fun _ H'=>Q .ah H',rt:=Q}:=by
 unfold Tw.eG at p;by_cases c:ws.length=fn.ps
 .rw[if_pos c] at p;refine⟨c,?_⟩;cases e:Tw.aJ C fn.body (ws.map some++List.replicate (fn.ns-fn.ps) none) h with
  |bad=>rw[e] at p;exact p.elim
  |aw=>rw[e] at p;exact p
  |ok fl h'=>
   rw[e] at p;cases fl with
   |next ρ=>exact fun ι' H' σ' ex a=>p ι' H' .ah ex a.hr .ah
   |ret u=>exact p
   |brk ρ=>exact p.elim
   |cont ρ=>exact p.elim
 .rw[if_neg c] at p;exact p.elim
def NW{tb:List kF}{cl:ff}(htb:cl.tb=tb)(D:jm K mg tb d g fd)(h:xC cf d fn=true)(hb:∀x∈cL,mg x=none)(cb:CB cf.ci base cl)
  (own:∀f kk,cf.fns[f]?=some kk->kk≠.dY->∃g fd ps,(∀base cl,cl.tb=tb->CB cf.ci base cl->bR P w K mg base (cD P w) k g fd ps (cO K mg cl (C f)))/\jk K mg g kk/\W.keepIn K (.ref g)=true/\Binds K fd ps [])
  (jO:∀i c,cl.fs i=some c->∃fd ps,bR P w K mg base (cD P w) k c.g fd ps (wz K mg cl c (C c.f))/\Binds K fd ps []/\∃oc od sl,base.get? c.g=some ⟨oc,od,.func fd,sl⟩)
   (con:∀x w,cf.cons.lookup x=some w->k9 K mg x w) (num:∀x g,cf.nums.lookup x=some g->m9 K mg x g) (nM:∀f c,cf.fns[f]?=some (.me c dy)->∃j g fd ps,k=j+1/\bR P w K mg base (cD P w) j g fd ps (cO K mg cl (C (f+1000)))/\jk K mg g (.me c dy)/\Binds K fd ps []) (err:∀c fs,cf.cV.lookup c=some fs->nu K mg c fs) (xf:qV K mg cf) (hdf:cf.hd=false) (hk2:2<=k):
  bR P w K mg base (cD P w) (k+1) g fd d.ps (cO K mg cl (Tw.eG C fn)):=by
 unfold xC at h;simp only[aq,az,iT,kE] at h;obtain⟨⟨⟨⟨⟨⟨⟨⟨⟨h1,h2⟩,h3⟩,h4⟩,h5⟩,h6⟩,h7⟩,h8⟩,h9⟩,h10⟩:=h;have S:pF d.N d.ps (au d.st):=⟨h1,h2,h3,h4,h5,fun x hx=>by
  have z:=h6 x hx;unfold fe at z;cases e:(au d.st).names.lookup x with
  |none=>rw[e] at z;exact no z
  |some k=>
   rw[e] at z;cases k with
   | «local» => exact .inl rfl
   |cell=>exact .inr rfl
   |_=>exact no z,h7⟩
 have hpl:d.ps.length<=d.N.length:=by have:=dg List.length h5;rw[pv] at this;lia
 have len:∀vs H Q E,cO K mg cl (Tw.eG C fn) vs H Q E->vs.length=d.ps.length:=fun vs H Q E ⟨ws,h,ι,hr,rr,p⟩=>by
  rw[<-rr.length,(lE p).1,h8]
 refine Cu.To (cl:=cl) D.F S len fun A outer s H vs Q E hr hsp=>⟨cW ⟨K,mg,E,cl⟩ (Tw.aJ C fn.body),?_,?_⟩
 .refine la (cf:={cf with wk:=d.wk}) (Dg (k:=k) (N:=d.N) rfl rfl rfl rfl h1 h4 rfl (by have:=hr.un;show (A.deeper (envOfC d.qual (au d.st) s.heap.objs.size g fd.code)).units+950<cLine;lia) rfl rfl rfl rfl (Gi rfl rfl rfl rfl) PassesOwn.leaving hr hb num nM (fun f kk e ne=>?_) jO con err ⟨xf.exc,xf.iY,xf.o5⟩ hdf hk2 (fun _ _=>.inl rfl) fun hw=>?_) fn.body h10
  .obtain⟨g',fd',ps',z1,z2⟩:=own f kk e ne;exact⟨g',fd',ps',z1 base cl htb cb,z2⟩
  .obtain⟨⟨c,P',w1,w2,w3,w4⟩,w5⟩:=D.w hw;refine⟨⟨⟨c,P',w1,w2,by rw[<-htb] at w3;exact w3,by rw[<-htb] at w4;exact w4⟩,w5⟩,fun _=>rfl,cb,fun f x e=>?_⟩;obtain⟨g',fd',ps',z1,z2,z3,z4⟩:=own f (.fn x) e (fun z=>nomatch z);exact⟨k,g',fd',ps',fun b' cl' e'=>z1 b' cl' (e'.trans htb),hr,z2,z3,z4⟩
 .obtain⟨ws,h,ι,hr',rr,p⟩:=hsp;obtain⟨c,p⟩:=lE p;refine⟨_,h,ι,x9 (K:=⟨K,mg,E,cl⟩) (N:=d.N) hr' rr (by rw[<-rr.length,c,h8];exact hpl),?_⟩;rw[show d.N.length-ws.length=fn.ns-fn.ps by rw[h9,c]];exact p
noncomputable def ze(CX:fP)(P:Program)(w:World)(K:W.Frag)(mg:Str->Option Value)(base:Heap)(N:List Str)(qual:Str)(scope:Scope)(f:Addr)(cd:Value)(clos:List (Str×Addr))(A:Around)(outer:List Env)(s:Shared)(H:L2.Hp)(E:XK)(cl:ff):Cx where
 prog:=P
 w:=w
 K:=K
 mg:=mg
 base:=base
 A:=A.deeper (W.envX qual scope s.heap.objs.size f cd clos)
 N:=N
 aL:=s
 kD:=H
 env:=W.envX qual scope s.heap.objs.size f cd clos
 outer:=outer
 stack:=W.envX qual scope s.heap.objs.size f cd clos::outer
 ex:=[]
 calm:=true
 fn:=fun _=>false
 pn:=[]
 xe:=fun e s'=>wpAny (model P w) (A.deeper (W.envX qual scope s.heap.objs.size f cd clos)) (leaving (W.envX qual scope s.heap.objs.size f cd clos) e) (fun _ s''=>CX outer H s E e s'') (fun e' s''=>CX outer H s E e' s'') s'
 cl:=cl
def Ft{names:List (Str×NameKind)}(h:names.lookup y=some .free):y∈cE names:=
 o9.mpr ⟨(y,.free),tY.mpr ⟨iD h,rfl⟩,rfl⟩
def A4{CX:fP}{N:List Str}{qual:Str}{scope:Scope}{f:Addr}{cd:Value}{clos:List (Str×Addr)}{A:Around}{outer:List Env}{s:Shared}{H:L2.Hp}{E:XK}{us:List Value}{vs kvs:List V}{cl:ff}{b:Bool}{h₀:Heap}{tk:Nat}
  (h1:scope.kind=.function) (h5:N.take 3=fC b) (h6:∀x∈fC b,scope.names.lookup x=some .local) (h7:∀y∈scope.names,y.2≠.cell) (h8:(N.drop 3).take (cE scope.names).length=cE scope.names) (h9:∀y∈cE scope.names,scope.names.lookup y=some .free)
  (hd:A.handled=none) (e0:nk P w K mg base A outer s H) (hl:vs.length=3) (r:Vals vs us) (kk:Kept base scope.names clos kvs) (lS:h₀.Ns s.heap.objs.size (fun x=>((fC b).zip us).reverse.lookup x)) (hk:∀b o,s.heap.get? b=some o->h₀.get? b=some o):
  Inv (ze CX P w K mg base N qual scope f cd clos A outer s H E cl) [] (start N (vs++kvs)) H {s with heap:=h₀,toks:=tk}:=by
 have noA:∀b:Addr,b∉(ze CX P w K mg base N qual scope f cd clos A outer s H E cl).ex:=fun b z=>absurd (show b∈([]:List Addr) from z) (by simp);have one:∀{x:Str}{c:Addr},clos.lookup x=some c->∃y a u v,clos=[(y,a)]/\kvs=[v]/\x=y/\c=a/\base.IsCell a (some u)/\RelV v u/\cE scope.names=[y]:=fun {x c} e=>by
  rcases kk with ⟨rfl,_,_⟩|⟨y,a,u,v,rfl,rfl,hc,rv,hf⟩
  .cases e
  .rw[dE] at e;cases hb:x== y with
   |true=>rw[hb] at e;cases e;exact⟨y,_,u,v,rfl,rfl,eq_of_beq hb,rfl,hc,rv,hf⟩
   |false=>rw[hb] at e;cases e
 have kl:kvs.length=(cE scope.names).length:=by rcases kk with ⟨_,rfl,e⟩|⟨y,a,u,v,_,rfl,_,_,e⟩<;>rw[e]<;>rfl
 have hNl:3+kvs.length<=N.length:=by
  have z:=dg List.length h8;rw[pv,zQ] at z;have z3:=dg List.length h5;rw[pv] at z3;have:(fC b).length=3:=rfl
  lia
 refine⟨⟨e0.mod,h1,rfl,rfl,aA _,fun y z c e1 e2=>?_,fun y hy=>?_,fun y c hf _=>absurd (show false=true from hf) kx,fun _=>hd,Around.frames_deeper e0.frames,.inr ⟨rfl,rfl⟩,fun b z=>absurd z (noA b),e0.bs,e0.mG,fun b _ _=>noA b,fun b z=>absurd z (noA b),e0.gf,e0.oq⟩,
  rfl,e0.bare,Un.kept hk,⟨_,lS,fun i y v e1 e2 e3=>?_⟩,fun y c e=>?_,e0.av.fresh (aA _),fun y c e=>?_,fun p hp=>absurd (show p∈([]:aH) from hp) (by simp),e0.av.kept hk,?_⟩
 .obtain⟨y1,a1,_,_,q1,_,rfl,_⟩:=one (show clos.lookup y=some c from e1);obtain⟨y2,a2,_,_,q2,_,rfl,_⟩:=one (show clos.lookup z=some c from e2);rw[q1] at q2;cases q2;rfl
 .have hy:scope.names.lookup y=some .cell\/scope.names.lookup y=some .free:=hy;rcases hy with hy|hy
  .exact absurd rfl (h7 _ (iD hy))
  .have hm:=Ft hy;rcases kk with ⟨_,_,e⟩|⟨y',a,u,v,e1,_,_,_,e⟩
   .rw[e] at hm;cases hm
   .rw[e] at hm;obtain rfl:=jH.mp hm;exact⟨a,by show clos.lookup y=some a;rw[e1];simp⟩
 .unfold L2.start at e2;have hi:i<(vs++kvs).length:=by
   by_cases hi:i<(vs++kvs).length
   .exact hi
   .rw[mZ (by simpa using hi),AH] at e2;split at e2<;>cases e2
  rw[fI (by simpa using hi),lP] at e2;have ha:(vs++kvs)[i]?=some v:=by
   cases e:(vs++kvs)[i]? with
   |none=>rw[e] at e2;cases e2
   |some a=>rw[e] at e2;cases e2;rfl
  have e1:N[i]?=some y:=e1;by_cases hi3:i<3
  .rw[fI (by lia)] at ha;obtain⟨u,hu,rv⟩:=r.get ha;have hp:(fC b)[i]?=some y:=by rw[<-h5,DC hi3];exact e1
   refine⟨u,rv,.inl ⟨h6 y (vo hp),?_⟩⟩;have hu3:us.length=3:=by rw[<-r.length];exact hl
   match us,hu3 with
   |[u1,u2,u3],_=>
    match i,hi3 with
    |0,_=>cases hu;cases hp;cases b<;>rfl
    |1,_=>cases hu;cases hp;cases b<;>rfl
    |2,_=>cases hu;cases hp;cases b<;>rfl
  .rw[mZ (by lia)] at ha;have hj:i-vs.length=i-3:=by rw[hl]
   rw[hj] at ha;rcases kk with ⟨_,rfl,_⟩|⟨y',a,u,v',e4,rfl,⟨o,ho,hod⟩,rv,e5⟩
   .cases ha
   .have h0:i-3=0:=by
     have:=JK ha;simp at this;lia
    rw[h0] at ha;cases ha;have hy:y=y':=by
     have z:((N.drop 3).take 1)[0]?=some y':=by have q:=h8;rw[e5] at q;rw[show (1:Nat)=([y']:List Str).length from rfl,q];rfl
     rw[DC (by decide),List.getElem?_drop] at z;have:3+0=i:=by lia
     rw[this,e1] at z;cases z;rfl
    subst hy;refine⟨u,rv,.inr ⟨.inr (h9 y (by rw[e5];exact .head _)),a,?_,o,hk _ _ (e0.bs a o ho).1,hod⟩⟩;show clos.lookup y=some a;rw[e4];simp
 .obtain⟨y1,a1,u,_,_,_,_,rfl,⟨o,ho,hod⟩,_⟩:=one (show clos.lookup y=some c from e);exact⟨_,o,hk _ _ (e0.bs _ o ho).1,hod⟩
 .obtain⟨y1,a1,u,_,_,_,_,rfl,⟨o,ho,hod⟩,_⟩:=one (show clos.lookup y=some c from e);exact (e0.bs _ o ho).2
 .unfold L2.start;show _=N.length;rw[lI,i9,DK,lI,hl]
  lia
def IH{cl:ff}{c:oQ}{st:Stmt}{b:Bool}(B:xp base st c)(h:AF cf st N b fn=true)(hb:∀x∈cL,mg x=none)
  (own:∀f kk,cf.fns[f]?=some kk->kk≠.dY->∃g fd ps,bR P w K mg base (cD P w) k g fd ps (cO K mg cl (C f))/\jk K mg g kk/\W.keepIn K (.ref g)=true/\Binds K fd ps [])
  (jO:∀i c,cl.fs i=some c->∃fd ps,bR P w K mg base (cD P w) k c.g fd ps (wz K mg cl c (C c.f))/\Binds K fd ps []/\∃oc od sl,base.get? c.g=some ⟨oc,od,.func fd,sl⟩)
   (con:∀x w,cf.cons.lookup x=some w->k9 K mg x w) (num:∀x g,cf.nums.lookup x=some g->m9 K mg x g) (nM:∀f c,cf.fns[f]?=some (.me c dy)->∃j g fd ps,k=j+1/\bR P w K mg base (cD P w) j g fd ps (cO K mg cl (C (f+1000)))/\jk K mg g (.me c dy)/\Binds K fd ps []) (err:∀c fs,cf.cV.lookup c=some fs->nu K mg c fs) (xf:qV K mg cf) (hdf:cf.hd=false) (hk2:2<=k):
  ∃fd ps,bR P w K mg base (cD P w) (k+1) c.g fd ps (wz K mg cl c (Tw.eG C fn))/\Binds K fd ps []/\∃oc od sl,base.get? c.g=some ⟨oc,od,.func fd,sl⟩:=by
 unfold AF at h;simp only[aq,az,iT,kE] at h;obtain⟨⟨⟨⟨⟨⟨⟨⟨⟨⟨⟨⟨h1,h2⟩,h3⟩,h4⟩,h5⟩,h6⟩,h7⟩,h8⟩,h9⟩,h10⟩,h11⟩,h12⟩,h13⟩:=h;obtain⟨_,doc,pm,ctv,clos,_,eg,kk⟩:=B;have kl:c.vs.length=(cE (au st).names).length:=by rcases kk with ⟨_,e1,e⟩|⟨y,a,u,v,_,e1,_,_,e⟩<;>rw[e,e1]<;>rfl
 have p3:(fC b).length=3:=rfl;have hNl:fn.ps<=N.length:=by
  have z:=dg List.length h8;rw[pv,zQ] at z;have z3:=dg List.length h5;rw[pv] at z3
  lia
 have len:∀vs H Q E,wz K mg cl c (Tw.eG C fn) vs H Q E->vs.length=(fC b).length:=fun vs H Q E ⟨_,ws,h,ι,hr,rr,p⟩=>by
  have z:=rr.length;rw[(lE p).1,h10,lI] at z
  lia
 refine⟨_,fC b,⟨len,fun A outer s H args us vs Q E hr e0 hbd r hsp=>?_⟩,.all (GA b h12),_,_,_,eg⟩;have lim:s.heap.NoLimit:=e0.mod.nolimit.keeps fun b o e=>(e0.bs b o e).1;have hl:=len _ _ _ _ hsp;obtain⟨⟨oc,cvs,ct,hcd,hcdd,hcv⟩,ws,h,ι,hr',rr,p⟩:=hsp;obtain⟨hcg,_⟩:=e0.av _ _ hcd;refine codeAny_call_def hr.depth (e0.bs _ _ eg).1 rfl lim ⟨_,oc,cvs,ct,rfl,hcg,hcdd,hcv⟩ rfl hbd h7 (fun y hy=>h6 _ (Af hy).1) (fun h₀ lS hk₀=>?_) h2 h3 h1;have I:Inv (ze (cD P w) P w K mg base N c.q (au st) c.g (.ref c.cd) clos A outer s H E cl) [] (start N (vs++c.vs)) H {s with heap:=h₀,toks:=s.toks+((fC b).zip us).length}:=A4 h1 h5 h6 h7 h8 h9 hr.hd e0 hl r kk lS hk₀;have R:lK {cf with wk:=false,ci:=fun _ _=>false} C (cD P w) E (au st).names N (ze (cD P w) P w K mg base N c.q (au st) c.g (.ref c.cd) clos A outer s H E cl):=by
  have hr2:cM k (ze (cD P w) P w K mg base N c.q (au st) c.g (.ref c.cd) clos A outer s H E cl).A:=hr.deeper _;refine Dg (k:=k) (N:=N) rfl rfl rfl rfl h1 h4 rfl (by have:=hr2.un;lia) rfl rfl rfl rfl (Gi rfl rfl rfl rfl) PassesOwn.leaving hr2 hb num nM own jO con err ⟨xf.exc,xf.iY,xf.o5⟩ hdf hk2 (fun x hx=>.inr ?_) fun z=>nomatch z;unfold fe at hx;show (au st).names.lookup x=some .local;cases e:(au st).names.lookup x with
  |none=>rw[e] at hx;exact no hx
  |some k=>
   rw[e] at hx;cases k with
   | «local» => rfl
   |cell=>exact absurd rfl (h7 _ (iD e))
   |_=>exact no hx
 obtain⟨c1,p⟩:=lE p;have at0:At ⟨K,mg,E,cl⟩ ι h H (ws.map some++List.replicate (fn.ns-fn.ps) none) (start N (vs++c.vs)):=by have z:=x9 (K:=⟨K,mg,E,cl⟩) (N:=N) hr' rr (by rw[<-rr.length,c1];exact hNl);rw[show N.length-ws.length=fn.ns-fn.ps by rw[h11,c1]] at z;exact z
 refine jr (la R fn.body h13 [] _ (start N (vs++c.vs)) H {nx:=fun _ H'=>Q .ah H',rt:=Q} I ⟨_,h,ι,at0,p⟩) (fun fl s' hs=>?_) fun e s' hs=>hs;have fin:∀{σ':L2.St}{H':L2.Hp}{v:V}{u:Value},Inv (ze (cD P w) P w K mg base N c.q (au st) c.g (.ref c.cd) clos A outer s H E cl) [] σ' H' s'->RelV v u->Q v H'->CE outer P w H s Q u s':=
  fun {σ' H' v u} J rv q=>⟨v,H',J.os,J.bare,J.base,J.av,rv,q⟩
 cases fl with
 |ret u=>
  obtain⟨v,σ',H',J,rv,q⟩:=hs;exact fin J rv q
 |next=>
  obtain⟨σ',H',J,q⟩:=hs;exact fin (v:=V.ah) (u:=Value.none) J rfl q
 |brk=>
  obtain⟨_,_,_,q⟩:=hs;exact False.elim q
 |cont=>
  obtain⟨_,_,_,q⟩:=hs;exact False.elim q
def kT(cf:Cfg):List bG->List Tw.Fn->Bool
 |[],[]=>true
 |d::ds,f::fs=>(d.key== .dY || xC cf d f)&&kT cf ds fs
 |_,_=>false
theorem uP:∀{ds:List bG}{fs:List Tw.Fn},kT cf ds fs=true->∀{i:Nat}{d:bG},ds[i]?=some d->∃f,fs[i]?=some f/\(d.key== .dY || xC cf d f)=true
 |[],[],_,i,d,e=>by simp at e
 |[],_::_,h,_,_,_=>by exact no h
 |_::_,[],h,_,_,_=>by exact no h
 |a::ds,f::fs,h,0,d,e=>by
  rw[kT,aq] at h;simp at e;subst e;exact⟨f,rfl,h.1⟩
 |a::ds,f::fs,h,i+1,d,e=>by
  rw[kT,aq] at h;obtain⟨f',z1,z2⟩:=uP h.2 (i:=i) (d:=d) (by simpa using e);exact⟨f',by simpa using z1,z2⟩
def HH{dY:List (Nat×List Str×Bool×Tw.Fn)}{tb:List kF}(hTl:T.length<=1000)(hN:∀x g,cf.nums.lookup x=some g->m9 K mg x g)(hcf:cf.hd=false)(hci:cf.ci=A2 cf dY)(hfn:cf.fns=Ds.map (·.key))(h:kT cf Ds T=true)(hI:∀f N b fn,dY.lookup f=some (N,b,fn)->T[f]?=some fn)
  (hD:∀d∈Ds,d.key≠.dY->∃g fd,jm K mg tb d g fd) (hb:∀x∈cL,mg x=none)
   (hC:∀x w,cf.cons.lookup x=some w->k9 K mg x w) (hE:∀c fs,cf.cV.lookup c=some fs->nu K mg c fs) (hX:qV K mg cf):
  ∀(k:Nat)(base:Heap)(cl:ff),cl.tb=tb->CB cf.ci base cl->(∀(i:Nat)(d:bG),Ds[i]?=some d->∀g fd,jm K mg tb d g fd->bR P w K mg base (cD P w) (k+4) g fd d.ps (cO K mg cl (Tw.run T k i))/\bR P w K mg base (cD P w) (k+3) g fd d.ps (cO K mg cl (Tw.run T k (i+1000))))/\
   ∀i c,cl.fs i=some c->∃fd ps,bR P w K mg base (cD P w) (k+4) c.g fd ps (wz K mg cl c (Tw.run T k c.f))/\Binds K fd ps []/\∃oc od sl,base.get? c.g=some ⟨oc,od,.func fd,sl⟩:=by
 have inn_of:∀{d:bG}{g:Addr}{fd:FuncData},jm K mg tb d g fd->d.key≠.dY:=fun D z=>by
  have:=D.m;rw[z] at this;exact this
 intro k
 induction k with
 |zero=>
  intro base cl htb cb;have bad:∀i vs H Q E,¬ cO K mg cl (Tw.run T 0 i) vs H Q E:=fun i vs H Q E ⟨ws,h,ι,hr,rr,p⟩=>p.elim;refine⟨fun i d e g fd D=>⟨⟨fun vs H Q E q=>(bad i vs H Q E q).elim,fun A outer s H args us vs Q E _ _ _ _ q=>(bad i vs H Q E q).elim⟩,⟨fun vs H Q E q=>(bad (i+1000) vs H Q E q).elim,fun A outer s H args us vs Q E _ _ _ _ q=>(bad (i+1000) vs H Q E q).elim⟩⟩,fun i c e=>?_⟩;obtain⟨st,h1,b,doc,pm,ctv,clos,hp,eg,_⟩:=cb i c e;exact⟨_,fC b,⟨fun vs H Q E q=>(bad _ _ _ _ _ q.2).elim,fun A outer s H args us vs Q E _ _ _ _ q=>(bad _ _ _ _ _ q.2).elim⟩,.all (GA b hp),_,_,_,eg⟩
 |succ k ih=>
  intro base cl htb cb;have er:∀{i:Nat}{f:Tw.Fn},T[i]?=some f->Tw.run T (k+1) i=Tw.eG (Tw.run T k) f:=fun {i f} z1=>by
   funext xs hh;show (match T[i]? with|some fn=>Tw.eG (Tw.run T k) fn xs hh|none=>Tw.run T k (i-1000) xs hh)=_;rw[z1]
  have own:∀f kk,cf.fns[f]?=some kk->kk≠.dY->∃g fd ps,(∀base cl,cl.tb=tb->CB cf.ci base cl->bR P w K mg base (cD P w) (k+4) g fd ps (cO K mg cl (Tw.run T k f)))/\jk K mg g kk/\W.keepIn K (.ref g)=true/\Binds K fd ps []:=fun j x ex ne=>by
   rw[hfn,lP] at ex;cases ed:Ds[j]? with
   |none=>rw[ed] at ex;cases ex
   |some d'=>
    rw[ed] at ex;cases ex;obtain⟨g',fd',D'⟩:=hD d' (vo ed) ne;exact⟨g',fd',d'.ps,fun b' cl' h1 h2=>((ih b' cl' h1 h2).1 j d' ed g' fd' D').1,D'.m,D'.F.kp,.all D'.b⟩
  have own0:∀f kk,cf.fns[f]?=some kk->kk≠.dY->∃g fd ps,bR P w K mg base (cD P w) (k+4) g fd ps (cO K mg cl (Tw.run T k f))/\jk K mg g kk/\W.keepIn K (.ref g)=true/\Binds K fd ps []:=fun j x ex ne=>
   let ⟨g,fd,ps,z1,z2⟩:=own j x ex ne;⟨g,fd,ps,z1 base cl htb cb,z2⟩
  have nM:∀f c,cf.fns[f]?=some (.me c dy)->∃j g fd ps,k+4=j+1/\bR P w K mg base (cD P w) j g fd ps (cO K mg cl (Tw.run T k (f+1000)))/\jk K mg g (.me c dy)/\Binds K fd ps []:=fun j c ex=>by
   rw[hfn,lP] at ex;cases ed:Ds[j]? with
   |none=>rw[ed] at ex;cases ex
   |some d'=>
    rw[ed] at ex;have ek:d'.key=.me c dy:=kj ex;obtain⟨g',fd',D'⟩:=hD d' (vo ed) (by rw[ek];exact fun z=>nomatch z);exact⟨k+3,g',fd',d'.ps,rfl,((ih base cl htb cb).1 j d' ed g' fd' D').2,by rw[<-ek];exact D'.m,.all D'.b⟩
  have jO:=(ih base cl htb cb).2;have er2:∀i,Tw.run T (k+1) (i+1000)=Tw.run T k i:=fun i=>by
   funext xs hh;show (match T[i+1000]? with|some fn=>Tw.eG (Tw.run T k) fn xs hh|none=>Tw.run T k (i+1000-1000) xs hh)=_;rw[wx (by lia),Bo]
  refine⟨fun i d e g fd D=>⟨?_,by rw[er2];exact ((ih base cl htb cb).1 i d e g fd D).1⟩,fun i c e=>?_⟩
  .rw[show k+1+4=(k+4)+1 by lia];obtain⟨f,z1,z2⟩:=uP h e;rw[er z1];have z2:xC cf d f=true:=by
    rcases Bool.or_eq_true_iff.mp z2 with z|z
    .exact absurd (eq_of_beq z) (inn_of D)
    .exact z
   exact NW htb D z2 hb cb own jO hC hN nM hE hX hcf (by lia)
  .rw[show k+1+4=(k+4)+1 by lia];obtain⟨st,h1,B⟩:=cb i c e;rw[hci] at h1;unfold A2 at h1;cases el:dY.lookup c.f with
   |none=>rw[el] at h1;exact no h1
   |some r=>
    obtain⟨N,b,fn⟩:=r;rw[el] at h1;rw[er (hI _ _ _ _ el)];exact IH B h1 hb own0 jO hC hN nM hE hX hcf (by lia)
end
end TwS
namespace TwS
open PySem PySem.W PyProof.Rows
noncomputable def qc(bt:String->Option Builtin)(p:Program)(w:World)(low:Nat)(nt:Option Value):Nat->SharedT->Thread->Option SharedT
 |0,_,_=>none
 |n+1,s,t=>match through t with
  |true=>some s
  |false=>match stepOk low nt t with
   |false=>none
   |true=>match stepT (denote bt) p w s t with
    |some (s',t')=>qc bt p w low nt n s' t'
    |none=>none
def AJ{bt:String->Option Builtin}:∀{n:Nat}{s r:SharedT}{t:Thread},qc bt p w low nt n s t=some r->topRun bt p w low nt n s.abs t=some r.abs:=by
 intro n
 induction n with
 |zero=>intro s r t h;cases h
 |succ n ih=>
  intro s r t h;rw[qc] at h;rw[topRun];cases a:through t with
  |true=>rw[a] at h;cases h;rfl
  |false=>
   rw[a] at h;cases b:stepOk low nt t with
   |false=>rw[b] at h;cases h
   |true=>
    rw[b] at h;cases c:stepT (denote bt) p w s t with
    |none=>rw[c] at h;cases h
    |some q=>
     obtain⟨s',t'⟩:=q;rw[c] at h;rw[stepT_spec c];exact ih h
noncomputable def grow:List Obj->BT->Nat->Option (BT×Nat)
 |[],t,n=>some (t,n)
 |o::l,t,n=>match ((t.ins n o).get n).isSome with
  |true=>grow l (t.ins n o) (n+1)
  |false=>none
theorem vX:∀{l:List Obj}{t t':BT}{n n':Nat}{xs:List Obj},(absHeap t n life).objs.toList=xs->grow l t n=some (t',n')->absHeap t' n' life=⟨(xs++l).toArray,life⟩
 |[],t,t',n,n',xs,e,h=>by
  cases h;subst e;show Heap.mk _ _=Heap.mk _ _;simp[absHeap]
 |o::l,t,t',n,n',xs,e,h=>by
  rw[grow] at h;cases c:((t.ins n o).get n).isSome with
  |false=>rw[c] at h;cases h
  |true=>
   rw[c] at h;have z:=vX (life:=life) (xs:=xs++[o]) (by rw[absHeap_ins (life:=life) c];exact (Array.toList_push (xs:=(absHeap t n life).objs) (x:=o)).trans (by rw[e])) h;rw[z,List.append_assoc];rfl
def pN{α:Type}(p:Program)(N:Nat)(F:Shared->α)(w:World):Option α:=(fencedOpening treeTable p w N).bind fun aL=>match aL.heap.isNs mainGlobals&&aL.gens.size== 0 with
 |false=>none
 |true=>(grow aL.heap.objs.toList .nil 0).bind fun T=>(qc treeTable p w aL.heap.objs.size (aL.heap.nsMap mainGlobals "__annotations__") N ⟨T.1,T.2,aL.heap.life,aL.gens,aL.drawn,aL.toks,aL.os⟩ (topStub p)).bind fun s₁=>
  match staticsOk (importedModules p.main.body) aL.heap s₁.abs.heap&&namesBound p s₁.abs.heap&&gensDone s₁.abs&&laidKept aL.heap s₁.abs.heap with
   |true=>some (F s₁.abs)
   |false=>none
def qg{α:Type}{p:Program}{N:Nat}{F:Shared->α}{w:World}{r:α}(h:pN p N F w=some r):(openEnds treeTable p w N).map F=some r:=by
 unfold pN at h;unfold openEnds;cases a:fencedOpening treeTable p w N with
 |none=>rw[a] at h;cases h
 |some aL=>
  rw[a] at h;simp only[sQ] at h⊢;unfold topFrom;cases b:(aL.heap.isNs mainGlobals&&aL.gens.size== 0) with
  |false=>rw[b] at h;cases h
  |true=>
   rw[b] at h;dsimp only at h⊢;cases c:grow aL.heap.objs.toList .nil 0 with
   |none=>rw[c] at h;cases h
   |some T=>
    rw[c] at h;simp only[sQ] at h;obtain⟨s₁,e1,e2⟩:=lO.mp h;have z:=vX (life:=aL.heap.life) (xs:=[]) (by rfl) c;have e3:=AJ e1;have ea:(⟨T.1,T.2,aL.heap.life,aL.gens,aL.drawn,aL.toks,aL.os⟩:SharedT).abs=aL:=by show Shared.mk _ _ _ _ _=_;rw[z];simp
    rw[ea] at e3;rw[e3];simp only[sQ];cases d:(staticsOk (importedModules p.main.body) aL.heap s₁.abs.heap&&namesBound p s₁.abs.heap&&gensDone s₁.abs&&laidKept aL.heap s₁.abs.heap) with
    |false=>rw[d] at e2;cases e2
    |true=>rw[d] at e2;cases e2;rfl
end TwS
namespace TwS
open PySem L2 PyProof.Rows
def bB{K:W.Frag}{tb:List kF}{h:Heap}{mg:Str->Option Value}{x:Str}{st:Stmt}{N ps:List Str}{f:Addr}{od an:Option Addr}{sl:Array (Option Value)}{oc kV dc pm cd ct:Value}(X:K.In h)(G:h.Ns mainGlobals mg)(l:K.lookup f=some ⟨oc,od,.func (W.fnOf x x (cR st) (cj st) (au st) .none kV dc pm an cd ct),sl⟩)(b:∀(kV doc pm:Value)(an:Option Addr)(cdv ct:Value)(us:List Value),us.length=ps.length->bindArgs (W.fnOf x x (cR st) (cj st) (au st) .none kV doc pm an cdv ct) ⟨us,[]⟩=pure (ps.zip us))(a:W.nsIn K mainGlobals x=some (some (.ref f)):=by kernel_rfl)(c:W.codeIn K cd x=true:=by kernel_rfl)(k:W.keepIn K (.ref f)=true:=by kernel_rfl):
  ∃g fd,jm K mg tb ⟨.fn x,x,x,st,N,ps,false⟩ g fd:=
 have F:=rZ (st:=st) l c k
 ⟨f,_,F,eh X G a,fun us hl=>b _ _ _ _ _ _ us hl,fun z=>nomatch z⟩
def Ts{P:List Value->Prop}(h:P []):∀us:List Value,us.length=0->P us:=fun us hl=>by cases us with|nil=>exact h|cons _ _=>cases hl
def iP{P:List Value->Prop}(h:∀a0,P [a0]):∀us:List Value,us.length=1->P us:=fun us hl=>by cases us with|nil=>cases hl|cons a r=>exact Ts (P:=fun r=>P (a::r)) (h a) r (z6 hl)
def nO{P:List Value->Prop}(h:∀a0 a1,P [a0,a1]):∀us:List Value,us.length=2->P us:=fun us hl=>by cases us with|nil=>cases hl|cons a r=>exact iP (P:=fun r=>P (a::r)) (fun b0=>h a b0) r (z6 hl)
def nL{P:List Value->Prop}(h:∀a0 a1 a2,P [a0,a1,a2]):∀us:List Value,us.length=3->P us:=fun us hl=>by cases us with|nil=>cases hl|cons a r=>exact nO (P:=fun r=>P (a::r)) (fun b0 b1=>h a b0 b1) r (z6 hl)
def O3{P:List Value->Prop}(h:∀a0 a1 a2 a3,P [a0,a1,a2,a3]):∀us:List Value,us.length=4->P us:=fun us hl=>by cases us with|nil=>cases hl|cons a r=>exact nL (P:=fun r=>P (a::r)) (fun b0 b1 b2=>h a b0 b1 b2) r (z6 hl)
def vW{β:Type}{P:Str->β->Prop}:∀x g,([]:List (Str×β)).lookup x=some g->P x g:=fun _ _ e=>nomatch e
def eU{β:Type}{P:Str->β->Prop}{y:Str}{b:β}{r:List (Str×β)}(h:P y b)(k:∀x g,r.lookup x=some g->P x g):∀x g,((y,b)::r).lookup x=some g->P x g:=by
 intro x g e;rw[dE] at e;cases c:x== y with
 |true=>rw[c] at e;cases e;rw[show x=y by simpa using c];exact h
 |false=>rw[c] at e;exact k x g e
def clsAt(s:Stmt)(j:Nat):Stmt:=match s with
 |.ClassDef _ _ _ b _ _ _ _ _ _ _=>b.getD j (.Pass ⟨0,0,0,0⟩)
 |s=>s
def yW{K:W.Frag}{C:Addr}(g1:W.plainGet K C Str.empty=true:=by kernel_rfl)(g2:W.hasDictIn K C=true:=by kernel_rfl)(g3:W.plainOver K C=true:=by kernel_rfl)(g4:W.findIn K (.ref C) "__setattr__"=some (some (.builtin "object.__setattr__")):=by kernel_rfl)(a4:W.findIn K (.ref C) "definitions"=some none:=by kernel_rfl)(a5:W.findIn K (.ref C) "numbers"=some none:=by kernel_rfl)(a6:W.findIn K (.ref C) "part"=some none:=by kernel_rfl)(a7:W.findIn K (.ref C) "around"=some none:=by kernel_rfl):GoodC K C:=by refine⟨⟨g1,g2,g3,g4⟩,?_⟩;unfold zw;simp only[vF];exact⟨a4,a5,a6,a7,fun _ h=>nomatch h⟩
def zE{K:W.Frag}{tb:List kF}{h:Heap}{mg:Str->Option Value}{cn:Tw.S}{qual:Str}{st:Stmt}{N ps:List Str}{C f:Addr}{od an:Option Addr}{sl:Array (Option Value)}{oc kV dc pm cd ct:Value}(X:K.In h)(G:h.Ns mainGlobals mg)(l:K.lookup f=some ⟨oc,od,.func (W.fnOf "__init__" qual (cR st) (cj st) (au st) .none kV dc pm an cd ct),sl⟩)(g:GoodC K C)(b:∀(kV doc pm:Value)(an:Option Addr)(cdv ct:Value)(us:List Value),us.length=ps.length->bindArgs (W.fnOf "__init__" qual (cR st) (cj st) (au st) .none kV doc pm an cdv ct) ⟨us,[]⟩=pure (ps.zip us))(a:W.nsIn K mainGlobals ⟨cn.toArray⟩=some (some (.ref C)):=by kernel_rfl)(m2:W.findIn K (.ref C) "__init__"=some (some (.ref f)):=by kernel_rfl)(c:W.codeIn K cd qual=true:=by kernel_rfl)(k:W.keepIn K (.ref f)=true:=by kernel_rfl)(m1:W.makesIn K C=true:=by kernel_rfl)(m3:W.isFn K (.ref f)=true:=by kernel_rfl)(m4:W.keepIn K (.ref C)=true:=by kernel_rfl):
  ∃g fd,jm K mg tb ⟨.me cn dy,"__init__",qual,st,N,ps,false⟩ g fd:=
 have F:=rZ (st:=st) l c k
 ⟨f,_,F,⟨C,eh X G a,g,fun _=>⟨m1,m2,m3,m4⟩,fun z=>absurd rfl z⟩,fun us hl=>b _ _ _ _ _ _ us hl,fun z=>nomatch z⟩
def pQ{K:W.Frag}{tb:List kF}{h:Heap}{mg:Str->Option Value}{cn mn:Tw.S}{name qual:Str}{st:Stmt}{N ps:List Str}{C f:Addr}{od an:Option Addr}{sl:Array (Option Value)}{oc kV dc pm cd ct:Value}(X:K.In h)(G:h.Ns mainGlobals mg)(l:K.lookup f=some ⟨oc,od,.func (W.fnOf name qual (cR st) (cj st) (au st) .none kV dc pm an cd ct),sl⟩)(g:GoodC K C)(b:∀(kV doc pm:Value)(an:Option Addr)(cdv ct:Value)(us:List Value),us.length=ps.length->bindArgs (W.fnOf name qual (cR st) (cj st) (au st) .none kV doc pm an cdv ct) ⟨us,[]⟩=pure (ps.zip us))(a:W.nsIn K mainGlobals ⟨cn.toArray⟩=some (some (.ref C)):=by kernel_rfl)(m2:W.findIn K (.ref C) ⟨mn.toArray⟩=some (some (.ref f)):=by kernel_rfl)(c:W.codeIn K cd qual=true:=by kernel_rfl)(k:W.keepIn K (.ref f)=true:=by kernel_rfl)(m3:W.isFn K (.ref f)=true:=by kernel_rfl)(ni:mn≠dy:=by decide):
  ∃g fd,jm K mg tb ⟨.me cn mn,name,qual,st,N,ps,false⟩ g fd:=
 have F:=rZ (st:=st) l c k
 ⟨f,_,F,⟨C,eh X G a,g,fun z=>absurd z ni,fun _=>⟨m2,m3,k⟩⟩,fun us hl=>b _ _ _ _ _ _ us hl,fun z=>nomatch z⟩
def sj{K:W.Frag}{h:Heap}{mg:Str->Option Value}{x:Str}{t:Addr}{od:Option Addr}{z:Tw.S}{tk:Tok}{n:Nat}{sl:Array (Option Value)}(X:K.In h)(G:h.Ns mainGlobals mg)
  (a:W.nsIn K mainGlobals x=some (some (.ref t))) (lk:K.lookup t=some ⟨.type "tuple",od,.seq #[.str ⟨z.toArray⟩ tk] n,sl⟩) (hz:z.all (fun c=>decide (c<0x110000))=true):k9 K mg x (.tup [.str z]):=by
 refine⟨.ref t,.ref t,eh X G a,rfl,fun ι n' H=>.tup (xs:=[.str ⟨z.toArray⟩]) (.inr ⟨_,_,n,lk,rfl,rfl,by show 1<=sizeLine;rw[gX];decide,.cons ⟨tk,rfl⟩ .nil⟩) (.cons (.str z ?_) .nil)⟩;intro c hc;have:=(kE.mp hz) c hc;simpa using this
noncomputable def zZ:List DictEntry->List (Tw.S×Int)->Bool
 |[],[]=>true
 |e::es,(s,i)::g=>(match e.key,e.val with
  |.str x _,.int j _=>decide (x=⟨s.toArray⟩)&&decide (j=i)
  |_,_=>false)&&zZ es g
 |_,_=>false
theorem uo{h:Heap}:∀{es:List DictEntry}{g:List (Tw.S×Int)},zZ es g=true->KTD.Rows (KTD.Dat.At h) es (lL g)
 |[],[],_=>.nil
 |[],_::_,r=>no r
 |_::_,[],r=>no r
 |e::es,(s,i)::g,r=>by
  rw[zZ,aq] at r;obtain⟨r1,r2⟩:=r;split at r1
  .next x tx j tj e1 e2=>
   simp only[aq,az] at r1;obtain⟨rfl,rfl⟩:=r1;exact .cons e1 (by rw[e2];exact fun _=>.int _ _) (uo r2)
  .exact no r1
def Lz{K:W.Frag}{h:Heap}{mg:Str->Option Value}{x:Str}{t:Addr}{od:Option Addr}{es:Array DictEntry}{ep:Nat}{sl:Array (Option Value)}{g:List (Tw.S×Int)}(X:K.In h)(G:h.Ns mainGlobals mg)
  (a:W.nsIn K mainGlobals x=some (some (.ref t))) (lk:K.lookup t=some ⟨.type "dict",od,.dict es ep,sl⟩) (ex:(⟨.type "dict",od,.dict es ep,sl⟩:Obj).ExactDict) (hs:(t== sysModules)=false) (r:zZ es.toList g=true):m9 K mg x g:=
 ⟨t,eh X G a,fun h' X'=>⟨hs,_,es,ep,X' _ _ lk,ex,rfl,uo r⟩⟩
theorem zg:∀zs:List (Tw.S×Nat),Vals (zs.map fun z=>V.str ⟨z.1.toArray⟩) (zs.map fun z=>Value.str ⟨z.1.toArray⟩ z.2)
 |[]=>.nil
 |z::zs=>.cons ⟨z.2,rfl⟩ (zg zs)
theorem Dm{K:W.Frag}{ι:Nat->Addr}{n:Nat}{H:Hp}:∀zs:List (Tw.S×Nat),zs.all (fun z=>z.1.all fun c=>decide (c<0x110000))=true->aS K ι n H (zs.map fun z=>.str z.1) (zs.map fun z=>V.str ⟨z.1.toArray⟩)
 |[],_=>.nil
 |z::zs,h=>by
  rw[km,aq] at h;refine .cons (.str z.1 ?_) (Dm zs h.2);intro c hc;have:=(kE.mp h.1) c hc;simpa using this
def tF{K:W.Frag}{h:Heap}{mg:Str->Option Value}{x:Str}{t:Addr}{od:Option Addr}{zs:List (Tw.S×Nat)}{n:Nat}{sl:Array (Option Value)}(X:K.In h)(G:h.Ns mainGlobals mg)
  (a:W.nsIn K mainGlobals x=some (some (.ref t))) (lk:K.lookup t=some ⟨.type "tuple",od,.seq (zs.map fun z=>Value.str ⟨z.1.toArray⟩ z.2).toArray n,sl⟩) (hl:zs.length<=100) (hz:zs.all (fun z=>z.1.all fun c=>decide (c<0x110000))=true):k9 K mg x (.tup (zs.map fun z=>.str z.1)):=by
 refine⟨.ref t,.ref t,eh X G a,rfl,fun ι n' H=>.tup (xs:=zs.map fun z=>V.str ⟨z.1.toArray⟩) (.inr ⟨_,_,n,lk,rfl,rfl,?_,?_⟩) (Dm zs hz)⟩
 .rw[gX];simp;lia
 .simpa using zg zs
def Kq{K:W.Frag}{h:Heap}{mg:Str->Option Value}(X:K.In h)(G:h.Ns mainGlobals mg)(z0:W.nsIn K mainGlobals "len"=some none:=by kernel_rfl)(z1:W.nsIn K mainGlobals "list"=some none:=by kernel_rfl)(y1:W.nsIn K mainGlobals "tuple"=some none:=by kernel_rfl)(z2:W.nsIn K mainGlobals "int"=some none:=by kernel_rfl)(y2:W.nsIn K mainGlobals "bool"=some none:=by kernel_rfl)(z3:W.nsIn K mainGlobals "isinstance"=some none:=by kernel_rfl)(z4:W.nsIn K mainGlobals "range"=some none:=by kernel_rfl)(z5:W.nsIn K mainGlobals "reversed"=some none:=by kernel_rfl):∀x∈cL,mg x=none:=by unfold cL;simp only[vF];exact⟨jQ X G z0,jQ X G z1,jQ X G y1,jQ X G z2,jQ X G y2,jQ X G z3,jQ X G z4,jQ X G z5,fun _ h=>nomatch h⟩
def yp{K:W.Frag}{h:Heap}{mg:Str->Option Value}{c:Tw.S}{C:Addr}(X:K.In h)(G:h.Ns mainGlobals mg)(M:uI K C)(a:W.nsIn K mainGlobals (str c)=some (some (.ref C)):=by kernel_rfl):nu K mg c []:=⟨C,eh X G a,rfl,M⟩
def Dj{K:W.Frag}{h:Heap}{mg:Str->Option Value}{c:Tw.S}{C:Addr}(X:K.In h)(G:h.Ns mainGlobals mg)(xc:XC K C)(t1:W.findIn K (.ref C) "__class__"=some (some (.builtin "object.__class__")):=by kernel_rfl)(t2:W.specialIn K (.builtin "object.__class__") "__get__"=some (some (.builtin "getset_descriptor.__get__")):=by kernel_rfl)(t3:W.takesIn K (.builtin "object.__class__")=some true:=by kernel_rfl)(a:W.nsIn K mainGlobals (str c)=some (some (.ref C)):=by kernel_rfl):∃C,mg (str c)=some (.ref C)/\XC K C/\XT K C:=
 ⟨C,eh X G a,xc,⟨t1,t2,t3⟩⟩
def yX{α β:Type}{P:α->β->Prop}:∀x y,(x,y)∈([]:List (α×β))->P x y:=fun _ _ e=>nomatch e
def mem_cons{α β:Type}{P:α->β->Prop}{a:α}{b:β}{r:List (α×β)}(h:P a b)(k:∀x y,(x,y)∈r->P x y):∀x y,(x,y)∈(a,b)::r->P x y:=fun x y e=>by
 rcases fH.mp e with e|e
 .cases e;exact h
 .exact k x y e
theorem vK{β:Type}{s:Tw.S}{f:β}:∀{g:List (Tw.S×β)},g.lookup s=some f->(s,f)∈g
 |[],e=>by simp at e
 |(a,b)::g,e=>by
  rw[dE] at e;cases c:s== a with
  |true=>
   rw[c] at e;cases e;have:s=a:=by simpa using c
   subst this;exact nh
  |false=>rw[c] at e;exact jc _ (vK e)
def each{K:W.Frag}{h:Heap}{mg:Str->Option Value}{cV:List (Tw.S×List Tw.S)}{es:List (Tw.S×Addr)}(X:K.In h)(G:h.Ns mainGlobals mg)(ee:cV.map (·.1)=es.map (·.1))(en:(es.map fun p=>W.nsIn K mainGlobals (str p.1))=es.map fun p=>some (some (Value.ref p.2)))
  {P:Addr->Option Bool}{cs:List Tw.S} (k:(es.map fun p=>P p.2)=es.map fun p=>some (cs.contains p.1)):∀c fs C,cV.lookup c=some fs->mg (str c)=some (.ref C)->P C=some (cs.contains c):=by
 intro c fs C e m;have hc:c∈es.map (·.1):=by rw[<-ee];exact o9.mpr ⟨(c,fs),vK e,rfl⟩
 obtain⟨⟨c',A⟩,hm,rfl⟩:=o9.mp hc;have:=eh X G (List.map_inj_left.mp en _ hm);rw[m] at this;cases this;exact List.map_inj_left.mp k _ hm
theorem Kg{K:W.Frag}{h:Heap}{mg:Str->Option Value}(X:K.In h)(G:h.Ns mainGlobals mg):∀{ns:List Tw.S}{as:List Addr},(ns.map fun n=>W.nsIn K mainGlobals (str n))=(as.map fun a=>some (some (Value.ref a)))->(ns.map fun n=>mg (str n))=(as.map fun a=>some (Value.ref a))
 |[],[],_=>rfl
 |[],_::_,e=>nomatch e
 |_::_,[],e=>nomatch e
 |n::ns,a::as,e=>by
  simp only[fJ,List.cons.injEq] at e;rw[fJ,fJ,eh X G e.1,Kg X G e.2]
def wO{P:Tw.S->List Tw.S->Prop}:∀c fs,([]:List (Tw.S×List Tw.S)).lookup c=some fs->P c fs:=fun _ _ e=>nomatch e
def lp{P:Tw.S->List Tw.S->Prop}(h:P y b)(k:∀c fs,r.lookup c=some fs->P c fs):∀c fs,((y,b)::r).lookup c=some fs->P c fs:=by
 intro x g e;rw[dE] at e;cases c:x== y with
 |true=>rw[c] at e;cases e;rw[show x=y by simpa using c];exact h
 |false=>rw[c] at e;exact k x g e
theorem wQ{K:W.Frag}{ι:Nat->Addr}{n:Nat}{H:L2.Hp}:∀ns:List Int,aS K ι n H (ns.map Tw.W.int) (ns.map V.int)
 |[]=>.nil
 |i::r=>.cons (.int i) (wQ r)
def FV{K:W.Frag}{tb:List kF}{h:Heap}{mg:Str->Option Value}{x:Str}{st:Stmt}{N ps:List Str}{f c P bm:Addr}{od an od':Option Addr}{sl sl' sl2:Array (Option Value)}{oc kV dc pm ct:Value}{vs:Array Value}{file:Str}{tf tg tt:Tok}{flags tx:Int}{inF:Bool}(X:K.In h)(G:h.Ns mainGlobals mg)
  (a:W.nsIn K mainGlobals x=some (some (.ref f))) (l:K.lookup f=some ⟨oc,od,.func (W.fnOf x x (cR st) (cj st) (au st) .none kV dc pm an (.ref c) ct),sl⟩) (cc:W.codeIn K (.ref c) x=true) (k:W.keepIn K (.ref f)=true)
  (b:∀(kV doc pm:Value)(an:Option Addr)(cdv ct:Value)(us:List Value),us.length=ps.length->bindArgs (W.fnOf x x (cR st) (cj st) (au st) .none kV doc pm an cdv ct) ⟨us,[]⟩=pure (ps.zip us))
  (lc:K.lookup c=some ⟨.type "code",od',.fields vs,sl'⟩) (v1:vs[11]?=some (.ref P)) (v2:vs.getD 18 .none=.str file tf) (v3:vs.getD 7 .none=.int flags tg) (v4:vs.getD 9 .none=.bool inF) (v5:vs.getD 10 .none=.int tx tt) (ne:c≠P)
  (m:⟨P,x++ ".<locals>." ++ "answer"⟩∈tb) (u:∀t∈tb,t.P=P->t.q=x++ ".<locals>." ++ "answer") (lb:W.nsIn K mainGlobals "__builtins__"=some (some (.ref bm))) (n1:bm≠builtinsNs) (n2:bm≠mainGlobals) (lm:K.lookup bm=some ⟨.type "module",some builtinsNs,.plain,sl2⟩):
  ∃g fd,jm K mg tb ⟨.fn x,x,x,st,N,ps,true⟩ g fd:=
 have F:=rZ (st:=st) l cc k
 ⟨f,_,F,eh X G a,fun us hl=>b _ _ _ _ _ _ us hl,fun _=>⟨⟨c,P,rfl,fun h' X'=>⟨_,vs,file,tf,flags,tg,inF,tx,tt,X' _ _ lc,rfl,rfl,v1,by rw[Array.getD_eq_getD_getElem?,v1];rfl,v2,v3,v4,v5,ne⟩,m,u⟩,bm,_,eh X G lb,n1,n2,lm,rfl,rfl,rfl⟩⟩
def AD(tb:List kF)(H:L2.Hp):Prop:=(∀b,H b=none\/(∃o xs,H b=some (.aV o (.lst xs)))\/∃ps,H b=some (.dZ ps))/\∀t∈tb,H t.P=some (.dZ #[])
def B0{P:Program}{w:World}{K:W.Frag}{mg mb:Str->Option Value}{CX:fP}{k:Nat}{fa a:Addr}{fd:FuncData}{x:Str}{sp:Sp}{s₁:Shared}{vs:List Value}{ns:List Int}{tb:List kF}
  (KX:K.In s₁.heap) (lS:s₁.heap.Ns mainGlobals mg) (hb:s₁.heap.Ns builtinsNs mb) (hbb:∀x:Str,x≠ "__name__" ->mb x=bootBuiltins x) (hlim:s₁.heap.NoLimit) (hg:s₁.gens=#[])
  (ha:s₁.heap.get? a=some {cls:=.type "list",data:=.seq vs.toArray}) (hi:IntsAre vs ns) (hl:ns.length<=sizeLine) (hr:cM k callerA)
  (ht:∀t∈tb,s₁.heap.get? t.P=some (W.tabObj #[])) (hct:∀t∈tb,isCodeTable s₁.heap t.P) (hKt:∀t∈tb,K.lookup t.P=none)
  (F:∀base:Heap,K.In base->base.Ns mainGlobals mg->bR P w K mg base CX k fa fd [x] sp) (hbind:∀(s:Shared)(u:Value),BindsTo s fd ⟨[u],[]⟩ [(x,u)])
  (hsp:∀H:L2.Hp,AD tb H->cq K H a (ns.map V.int)->sp [.ref a] H (fun v _=>v=.bl true) fun _ _ _=>False)
  (hCX:∀H e s',CX [] H s₁ (fun _ _ _=>False) e s'->False):
  codeAny (model P w) callerA (.call (.ref fa) ⟨[.ref a],[]⟩) (fun r s'=>r=.ok (.ret (.bool true))/\OldK s₁.heap s'.heap/\s'.os=s₁.os/\AllBare s'.gens) s₁:=by
 have rv:=ud hi;have lenV:=hi.length;have core:∀H:L2.Hp,AD tb H->cq K H a (ns.map V.int)->dN P w H s₁.heap->(∀b,H b≠none->b=a\/∃t∈tb,b=t.P)->(H a≠none->K.lookup a=none)->
   codeAny (model P w) callerA (.call (.ref fa) ⟨[.ref a],[]⟩) (fun r s'=>r=.ok (.ret (.bool true))/\OldK s₁.heap s'.heap/\s'.os=s₁.os/\AllBare s'.gens) s₁:=by
  intro H hO hS av hA hK;have base_of:∀{b:Addr}{o:Obj},s₁.heap.get? b=some o->H b=none->(mS s₁.heap H).get? b=some o:=fun e n=>DR e n;have noA:∀{b:Addr}{o:Obj}{es:Array DictEntry}{ep:Nat},s₁.heap.get? b=some o->o.data=.dict es ep->H b=none:=fun {b o es ep} e d=>by
   cases q:H b with
   |none=>rfl
   |some u=>
    rcases hA b (by rw[q];simp) with e'|⟨t,htm,e'⟩
    .subst e';rw[ha] at e;cases e;have d':Data.seq vs.toArray _=Data.dict es ep:=d;cases d'
    .subst e';rw[ht t htm] at e;cases e;have d':Data.fields _=Data.dict es ep:=d;cases d'
  have nsK:∀{b:Addr}{m:Str->Option Value},s₁.heap.Ns b m->(mS s₁.heap H).Ns b m:=fun {b m} ⟨o,es,ep,e,d,r⟩=>⟨o,es,ep,base_of e (noA e d),d,r⟩;have hKb:K.In (mS s₁.heap H):=fun b o e=>base_of (KX b o e) (by
   cases q:H b with
   |none=>rfl
   |some u=>
    rcases hA b (by rw[q];simp) with e'|⟨t,htm,e'⟩
    .subst e';rw[hK (by rw[q];simp)] at e;cases e
    .subst e';rw[hKt t htm] at e;cases e)
  have hM:Mod K mg (mS s₁.heap H):=⟨hKb,nsK lS,⟨mb,nsK hb,hbb⟩,let ⟨mc,h1,h2⟩:=hlim;⟨mc,nsK h1,h2⟩⟩;have e0:nk P w K mg (mS s₁.heap H) callerA [] s₁ H:=⟨rfl,hM,fun b o e=>HP e,Bp (BV _ _),trivial,fun b hb=>absurd (show b∈([]:List Addr) from hb) (by simp),av,.of_eq hg⟩;refine pH ((F _ hKb (nsK lS)).run callerA [] s₁ H ⟨[.ref a],[]⟩ [.ref a] [.ref a] _ _ hr e0 (hbind s₁ (.ref a)) (.cons rfl .nil) (hsp H hO hS)) fun r s' h=>?_;cases r with
  |error e=>exact (hCX H e s' h).elim
  |ok fl=>
   cases fl with
   |next=>exact False.elim h
   |brk=>exact False.elim h
   |cont=>exact False.elim h
   |ret u=>
    obtain⟨v,H',os,bare,un,hok',r',q⟩:=h;have q':v=.bl true:=q;subst q';obtain rfl:u=Value.bool true:=r';refine⟨rfl,⟨fun b o e=>?_,fun b o e=>un.there b o e (by simp)⟩,os,bare⟩;cases q:H b with
    |none=>exact .inl (un.keep b o e q (by intro z;exact absurd (show b∈([]:List Addr) from z) (by simp)) (by simp))
    |some u=>
     rcases hO.1 b with z|⟨ob,xs,z⟩|⟨ps,z⟩
     .rw[q] at z;cases z
     .have z2:=un.f6 b ob _ z;obtain⟨e1,_⟩:=av b _ z;obtain⟨e2,_⟩:=hok' b _ z2;rw[e] at e1;cases e1;exact .inl e2
     .rcases hA b (by rw[q];simp) with e'|⟨t,htm,e'⟩
      .subst e';have e1:s₁.heap.get? b=some _:=av b _ z;rw[ha] at e1;cases e1
      .subst e';obtain⟨more,z2⟩:=un.fX _ ps z;have e2:s'.heap.get? t.P=some _:=hok' _ _ z2;have e1:=ht t htm;rw[e] at e1;cases e1;have e3:s₁.heap.get? t.P=some _:=av _ _ z;rw[e] at e3;cases e3;exact .inr (.inl ⟨hct t htm,rfl,#[],more,rfl,e2⟩)
 have aP:∀t∈tb,t.P≠a:=fun t htm z=>by
  have e:=ht t htm;rw[z,ha] at e;cases e
 have tabH:∀(A:Addr->Option HO)(b:Addr),(∃t∈tb,b=t.P)->(if tb.any (fun t=>t.P== b)=true then some (HO.dZ #[]) else A b)=some (.dZ #[]):=fun A b ⟨t,h1,h2⟩=>if_pos (List.any_eq_true.mpr ⟨t,h1,by simp[h2]⟩);have tabN:∀(A:Addr->Option HO)(b:Addr),¬ (∃t∈tb,b=t.P)->(if tb.any (fun t=>t.P== b)=true then some (HO.dZ #[]) else A b)=A b:=fun A b h=>if_neg fun z=>h (by obtain⟨t,h1,h2⟩:=List.any_eq_true.mp z;exact⟨t,h1,(iK.mp h2).symm⟩)
 have naT:¬ ∃t∈tb,a=t.P:=fun⟨t,h1,h2⟩=>aP t h1 h2.symm;cases hk:K.lookup a with
 |some o=>
  have e:=KX a o hk;rw[ha] at e;cases e;refine core (fun b=>if tb.any (fun t=>t.P== b)=true then some (HO.dZ #[]) else none) ⟨fun b=>?_,fun t h=>tabH (fun _=>none) _ ⟨t,h,rfl⟩⟩ (.inr ⟨_,vs.toArray,_,hk,rfl,rfl,rfl,by rw[cP,lenV];exact hl,by simpa using rv⟩) (fun b u z=>?_) (fun b z=>?_) fun z=>absurd (tabN (fun _=>none) a naT) z
  .by_cases c:∃t∈tb,b=t.P
   .exact .inr (.inr ⟨_,tabH (fun _=>none) b c⟩)
   .exact .inl (tabN (fun _=>none) b c)
  .by_cases c:∃t∈tb,b=t.P
   .have z':=(tabH (fun _=>none) b c).symm.trans z;cases z';obtain⟨t,h1,rfl⟩:=c;exact ht t h1
   .have z':=(tabN (fun _=>none) b c).symm.trans z;cases z'
  .by_cases c:∃t∈tb,b=t.P
   .exact .inr c
   .exact absurd (tabN (fun _=>none) b c) z
 |none=>
  obtain⟨A,An,Aa⟩:∃A:Addr->Option HO,(∀b,b≠a->A b=none)/\A a=some (.aV {cls:=.type "list",data:=.seq vs.toArray} (.lst (ns.map V.int))):=⟨fun b=>if b=a then some (.aV {cls:=.type "list",data:=.seq vs.toArray} (.lst (ns.map V.int))) else none,fun b h=>if_neg h,if_pos rfl⟩;refine core (fun b=>if tb.any (fun t=>t.P== b)=true then some (HO.dZ #[]) else A b) ⟨fun b=>?_,fun t h=>tabH A _ ⟨t,h,rfl⟩⟩ (.inl (.inr ⟨{cls:=.type "list",data:=.seq vs.toArray},(tabN A a naT).trans Aa⟩)) (fun b u z=>?_) (fun b z=>?_) fun _=>hk
  .by_cases c:∃t∈tb,b=t.P
   .exact .inr (.inr ⟨_,tabH A b c⟩)
   .by_cases hb:b=a
    .subst hb;exact .inr (.inl ⟨_,_,(tabN A b c).trans Aa⟩)
    .exact .inl ((tabN A b c).trans (An b hb))
  .by_cases c:∃t∈tb,b=t.P
   .have z':=(tabH A b c).symm.trans z;cases z';obtain⟨t,h1,rfl⟩:=c;exact ht t h1
   .have z:=(tabN A b c).symm.trans z;by_cases hb:b=a
    .subst hb;have z':=Aa.symm.trans z;cases z';exact⟨ha,by rw[i9];exact hl,vs,_,rv,ha⟩
    .have z':=(An b hb).symm.trans z;cases z'
  .by_cases c:∃t∈tb,b=t.P
   .exact .inr c
   .by_cases hb:b=a
    .exact .inl hb
    .exact absurd ((tabN A b c).trans (An b hb)) z
def En{T:List Tw.Fn}{Ds:List bG}{cf:Cfg}{dY:List (Nat×List Str×Bool×Tw.Fn)}{tb:List kF}{i k:Nat}{st:Stmt}{N:List Str}{l:W.OpenLaw}{q:Program}{loose:List Str}{XP:(Str->Option Value)->Heap->Prop}{YP:World->Heap->Prop}{d:DefRec}{K KF:Params->W.Frag}{x:Str}
  (hTl:T.length<=1000) (hcf:cf.hd=false) (hci:cf.ci=A2 cf dY) (hfn:cf.fns=Ds.map (·.key)) (hc:kT cf Ds T=true) (hI:∀f N b fn,dY.lookup f=some (N,b,fn)->T[f]?=some fn) (hi:Ds[i]?=some ⟨.fn "law","law","law",st,N,[x],false⟩) (hn:l.most=some 63) (hdf:d.params.defaults=[])
  (hY:∀(w:World)(h:Heap),YP w h->(KF w.params).In h) (hKF:∀p,KF p=K p++tb.map fun t=>(t.P,W.tabObj #[])) (hKt:∀p,∀t∈tb,(K p).lookup t.P=none) (hKc:∀p,∀t∈tb,∃c od sl vs,(K p).lookup c=some ⟨.type "code",od,.fields vs,sl⟩/\vs[11]?=some (.ref t.P)) (hd:d.name= "law")
  (F:∀(w:World)(mg:Str->Option Value)(h:Heap),(K w.params).In h->h.Ns mainGlobals mg->(∀d∈Ds,d.key≠.dY->∃g fd,jm (K w.params) mg tb d g fd)/\(∀x∈cL,mg x=none)/\(∀x w',cf.cons.lookup x=some w'->k9 (K w.params) mg x w')/\(∀x g,cf.nums.lookup x=some g->m9 (K w.params) mg x g)/\(∀c fs,cf.cV.lookup c=some fs->nu (K w.params) mg c fs)/\qV (K w.params) mg cf)
  (hr:cM (k+4) callerA) (law:∀ns:List Int,ns.length<=63->∃h',Tw.run T k i [.ref 0] [.aV (ns.map .int)]=.ok (.bl true) h'):
  W.WalkO q loose XP YP l.row.toRowW d [] (fun f vs=>PySem.call f vs):=by
 refine Att.ym hn hdf fun w aL s₁ mg mb fa o pm cd doc a vs ns G Y ho hd' hcd hmg hobj hints hlen hg=>?_;have KF1:=hY w _ Y;rw[hKF] at KF1;have KX:(K w.params).In s₁.heap:=fun b o e=>KF1 b o (by rw[List.lookup_append,e];rfl);have mapL:∀(tb:List kF) t,t∈tb->(tb.map fun t=>(t.P,W.tabObj #[])).lookup t.P=some (W.tabObj #[]):=by
  intro tb
  induction tb with
  |nil=>intro t h;cases h
  |cons u r ih=>
   intro t h;rw[fJ,dE];cases q:t.P== u.P with
   |true=>rfl
   |false=>
    rcases fH.mp h with rfl|h
    .simp at q
    .exact ih t h
 have ht:∀t∈tb,s₁.heap.get? t.P=some (W.tabObj #[]):=fun t h=>KF1 _ _ (by rw[List.lookup_append,hKt _ t h];exact mapL tb t h);have hct:∀t∈tb,isCodeTable s₁.heap t.P:=fun t h=>by
  obtain⟨c,od,sl,vs,e1,e2⟩:=hKc w.params t h;exact⟨c,_,vs,KX _ _ e1,rfl,rfl,e2⟩
 obtain⟨hD,hb,hC,hN,hE,hX⟩:=F w mg _ KX G.T.g;obtain⟨g,fd,D⟩:=hD _ (vo hi) (fun z=>nomatch z);rw[hd] at hmg;have dm:mg "law"=some (.ref g):=D.m;have e:Value.ref fa=Value.ref g:=kj (hmg.symm.trans dm);cases e;have cb0:∀base,CB cf.ci base ⟨fun _=>none,tb⟩:=fun base i c e=>nomatch e;refine B0 (CX:=cD l.prog w) (k:=k+4) (x:=x) (tb:=tb) (sp:=fun vs H Q E=>∃a:Addr,vs=[.ref a]/\uC (K w.params) H a (ns.map V.int)/\AD tb H/\∀H',Q (.bl true) H') KX G.T.g G.T.b G.T.builtins G.T.nolimit hg hobj hints (aF hlen (by decide)) hr ht hct (hKt w.params)
  (fun base _ _=>((HH hTl hN hcf hci hfn hc hI hD hb hC hE hX k base ⟨fun _=>none,tb⟩ rfl (cb0 base)).1 i _ hi _ fd D).1.imp fun vs H Q E ⟨a,ev,sq,hO,q⟩=>?_) (fun s u=>.of_eq (D.b [u] rfl)) (fun H hO hS=>⟨a,rfl,?_,hO,fun _=>rfl⟩) fun H e s' z=>cD.never _ _ _ _ _ z
 .subst ev;obtain⟨h',e⟩:=law ns hlen;refine⟨[.ref 0],[.aV (ns.map .int)],fun _=>a,⟨fun j o ej=>?_,fun j j' o u ej ej' m=>?_,fun t h=>⟨#[],hO.2 t h,trivial,fun _ _ z=>nomatch z⟩,fun j f us ej=>?_⟩,.cons (.ref (by simp)) .nil,?_⟩
  .cases j with
   |zero=>simp at ej;subst ej;exact⟨_,sq,wQ ns⟩
   |succ j=>simp at ej
  .cases j with
   |zero=>simp at ej;subst ej;cases m
   |succ j=>simp at ej
  .cases j with
   |zero=>simp at ej
   |succ j=>simp at ej
  .rw[e];intro ι' H' b _ _ r;cases r;exact q H'
 .rcases hS with (h|h)|h
  .rcases hO.1 a with z|⟨o,xs,z⟩|⟨ps,z⟩
   .rw[h] at z;cases z
   .rw[h] at z;cases z
   .rw[h] at z;cases z
  .exact .inl h
  .exact .inr h
end TwS
namespace K06
inductive T1 where|left|right|bQ
inductive T2 where|call|both|more|sum|less|bK
inductive T3 where|fold|aQ
set_option genInjectivity true in
inductive Co(K:Type) where
 |num (i:Int)|yes|no|var (i:Nat)|ah (k:K)|like (k:K)
 |fn (k:K) (c:Co K)
 |n1 (t:T1) (a:Co K)
 |n2 (t:T2) (a b:Co K)
 |n3 (t:T3) (a b c:Co K)
 |en (a u:Co K)
variable {K:Type}
noncomputable def Co.depth:Co K->Nat
 |.fn _ c=>c.depth+1
 |.n1 _ a=>a.depth+1
 |.n2 _ a b=>max a.depth b.depth+1
 |.n3 _ a b c=>max a.depth (max b.depth c.depth)+1
 |_=>0
def Co.into(v:Co K):Nat->Co K->Co K
 |n,.var i=>if i=n then v else .var i
 |n,.fn k c=>.fn k (Co.into v (n+1) c)
 |n,.n1 t a=>.n1 t (Co.into v n a)
 |n,.n2 t a b=>.n2 t (Co.into v n a) (Co.into v n b)
 |n,.n3 t a b c=>.n3 t (Co.into v n a) (Co.into v n b) (Co.into v n c)
 |_,c=>c
def up(m:Nat):Nat:=if m=0 then 0 else m+1
noncomputable def Co.vd:Nat->Co K->Nat
 |n,.var i=>if i=n then 1 else 0
 |n,.fn _ c=>up (c.vd (n+1))
 |n,.n1 _ a=>up (a.vd n)
 |n,.n2 _ a b=>max (up (a.vd n)) (up (b.vd n))
 |n,.n3 _ a b c=>max (up (a.vd n)) (max (up (b.vd n)) (up (c.vd n)))
 |_,_=>0
def Co.closed(c:Co K):Prop:=∀n,c.vd n=0
def Co.nm(P:Nat):Co K->Prop
 |.fn _ c=>c.vd 0<=P+1/\c.nm P
 |.n1 _ a=>a.nm P
 |.n2 _ a b=>a.nm P/\b.nm P
 |.n3 _ a b c=>a.nm P/\b.nm P/\c.nm P
 |_=>True
def Bd(w a x v:Nat):Prop:=(v=0/\a=x)\/(0<v/\a+1<=max (x+1) (v+w))
theorem Bd.node{w a x v:Nat}(h:Bd w a x v):Bd w (a+1) (x+1) (up v):=by unfold Bd up at *;split<;>lia
theorem bl{x y u Y U:Nat}(h:x+1<=max (y+1) u)(O:y<=Y)(a:u<=U):x+1<=max (Y+1) U:=
 aF h (ie.mpr ⟨aF (cY O) (b8 _ _),aF a (bD _ _)⟩)
theorem bs{x Y U:Nat}(h:x<=Y):x+1<=max (Y+1) U:=aF (cY h) (b8 _ _)
theorem Bd.two{w c a i e b k:Nat}(h:Bd w c a i)(g:Bd w e b k):Bd w (max c e) (max a b) (max i k):=by
 rcases h with ⟨J,Z⟩|⟨J,Z⟩<;>rcases g with ⟨g1,B⟩|⟨g1,B⟩
 .subst J Z g1 B;exact .inl ⟨rfl,rfl⟩
 .subst J Z;exact .inr ⟨by rw[Nat.zero_max];exact g1,by rw[Nat.zero_max];exact Nat.max_lt.mpr ⟨bs (b8 _ _),bl B (bD _ _) (aA _)⟩⟩
 .subst g1 B;exact .inr ⟨by rw[Nat.max_zero];exact J,by rw[Nat.max_zero];exact Nat.max_lt.mpr ⟨bl Z (b8 _ _) (aA _),bs (bD _ _)⟩⟩
 .exact .inr ⟨bY J (b8 _ _),Nat.max_lt.mpr ⟨bl Z (b8 _ _) (sX (b8 _ _) w),bl B (bD _ _) (sX (bD _ _) w)⟩⟩
theorem xw(a b:Nat):up (max a b)=max (up a) (up b):=by unfold up;split<;>split<;>split<;>lia
theorem iA(v:Co K):∀(c:Co K)(n:Nat),Bd v.depth (Co.into v n c).depth c.depth (c.vd n)
 |.num _,n=>.inl ⟨rfl,rfl⟩
 |.yes,n=>.inl ⟨rfl,rfl⟩
 |.no,n=>.inl ⟨rfl,rfl⟩
 |.ah _,n=>.inl ⟨rfl,rfl⟩
 |.like _,n=>.inl ⟨rfl,rfl⟩
 |.en _ _,n=>.inl ⟨rfl,rfl⟩
 |.var i,n=>by
  simp only[Co.vd,Co.into];by_cases e:i=n
  .rw[if_pos e,if_pos e];exact .inr ⟨Nat.one_pos,by rw[Nat.add_comm];exact bD _ _⟩
  .rw[if_neg e,if_neg e];exact .inl ⟨rfl,rfl⟩
 |.fn k c,n=>(iA v c (n+1)).node
 |.n1 t a,n=>(iA v a n).node
 |.n2 t a b,n=>by
  have:=((iA v a n).two (iA v b n)).node;rw[xw] at this;exact this
 |.n3 t a b c,n=>by
  have:=((iA v a n).two ((iA v b n).two (iA v c n))).node;rw[xw,xw] at this;exact this
theorem ik{v:Co K}(l:v.closed):∀(c:Co K)(n m:Nat),m≠n->(Co.into v n c).vd m=c.vd m
 |.num _,_,_,_=>rfl
 |.yes,_,_,_=>rfl
 |.no,_,_,_=>rfl
 |.ah _,_,_,_=>rfl
 |.like _,_,_,_=>rfl
 |.en _ _,_,_,_=>rfl
 |.var i,n,m,h=>by
  simp only[Co.into];by_cases e:i=n
  .rw[if_pos e,l m];simp only[Co.vd];rw[if_neg (by lia)]
  .rw[if_neg e]
 |.fn k c,n,m,h=>by simp only[Co.into,Co.vd,ik l c (n+1) (m+1) (by lia)]
 |.n1 t a,n,m,h=>by simp only[Co.into,Co.vd,ik l a n m h]
 |.n2 t a b,n,m,h=>by simp only[Co.into,Co.vd,ik l a n m h,ik l b n m h]
 |.n3 t a b c,n,m,h=>by simp only[Co.into,Co.vd,ik l a n m h,ik l b n m h,ik l c n m h]
theorem ip{v:Co K}{P:Nat}(l:v.closed)(p:v.nm P):∀(c:Co K)(n:Nat),c.nm P->(Co.into v n c).nm P
 |.num _,_,_=>trivial
 |.yes,_,_=>trivial
 |.no,_,_=>trivial
 |.ah _,_,_=>trivial
 |.like _,_,_=>trivial
 |.en _ _,_,_=>trivial
 |.var i,n,_=>by
  simp only[Co.into];by_cases e:i=n
  .rw[if_pos e];exact p
  .rw[if_neg e];trivial
 |.fn k c,n,h=>⟨by rw[ik l c (n+1) 0 (by lia)];exact h.1,ip l p c (n+1) h.2⟩
 |.n1 t a,n,h=>ip l p a n h
 |.n2 t a b,n,h=>⟨ip l p a n h.1,ip l p b n h.2⟩
 |.n3 t a b c,n,h=>⟨ip l p a n h.1,ip l p b n h.2.1,ip l p c n h.2.2⟩
theorem Bq{k:K}{b v:Co K}{P:Nat}(R:1<=P)(h:b.vd 0<=P+1):(Co.into v 0 b).depth+1<=(Co.n2 .call (.fn k b) v).depth+P:=by
 have z:=iA v b 0;unfold Bd at z;simp only[Co.depth]
 lia
theorem AX{a r s w:Co K}:(Co.n2 .call (.n2 .call w a) (.n3 .fold r s w)).depth<=(Co.n3 .fold (.n2 .more a r) s w).depth+1:=
 have b:=aF (bD s.depth w.depth) (bD (max a.depth r.depth+1) _);have h:=aF (b8 s.depth w.depth) (bD (max a.depth r.depth+1) _);have c:=aF (oR (b8 a.depth r.depth)) (b8 _ (max s.depth w.depth));have e:=aF (oR (bD a.depth r.depth)) (b8 _ (max s.depth w.depth))
 cY (ie.mpr ⟨cY (ie.mpr ⟨b,c⟩),cY (ie.mpr ⟨e,ie.mpr ⟨h,b⟩⟩)⟩)
end K06
namespace Tw
theorem aK{h:Hp}{a:Nat}{o:O}(x:List O)(e:h[a]?=some o):(h++x)[a]?=some o:=by
 have:a<h.length:=by
  rcases tD a h.length with q|q
  .exact q
  .rw[wx q] at e;cases e
 rw[fI this];exact e
theorem lY{h:Hp}{a:Nat}{o:O}(e:h[a]?=some o):a<h.length:=by
 rcases tD a h.length with q|q
 .exact q
 .rw[wx q] at e;cases e
@[simp] theorem bf(h:Hp)(o:O):(h++[o])[h.length]?=some o:=by simp
theorem bI{h:Hp}{a b:Nat}{o u:O}(n:a≠b)(e:h[b]?=some u):(h.set a o)[b]?=some u:=by rw[jE n];exact e
theorem jF{h:Hp}{a:Nat}{o u:O}(e:h[a]?=some u):(h.set a o)[a]?=some o:=by rw[jD (lY e)]
structure Ext(p:Nat)(h h':Hp):Prop where
 len:h.length<=h'.length
 keep:∀q o,h[q]?=some o->q≠p->h'[q]?=some o
theorem Ext.refl(p:Nat)(h:Hp):Ext p h h:=⟨aA _,fun _ _ e _=>e⟩
theorem Ext.trans{p:Nat}{h h1 h2:Hp}(a:Ext p h h1)(b:Ext p h1 h2):Ext p h h2:=
 ⟨aF a.len b.len,fun q o e n=>b.keep q o (a.keep q o e n) n⟩
theorem Ext.app(p:Nat)(h:Hp)(x:List O):Ext p h (h++x):=⟨by simp,fun _ _ e _=>aK x e⟩
theorem Ext.set(p:Nat)(h:Hp)(o:O):Ext p h (h.set p o):=⟨by simp,fun _ _ e n=>bI (bj n) e⟩
section
variable {C:Or}{σ σ':Env}{h h' h2:Hp}{s:St}{r a b:List St}{c:E}{w:W}{i:Nat}{z:R Fl}
theorem pL(e:dA C s σ h=.ok (.next σ') h')(k:aJ C r σ' h'=z):aJ C (s::r) σ h=z:=by rw[dP,e];exact k
theorem lW(e:af C c σ h=.ok w h')(k:aJ C r (σ.set i (some w)) h'=z):aJ C (.set i c::r) σ h=z:=by rw[dP,Ic,e];exact k
theorem iC(e:af C c σ h=.ok w h'):aJ C (.ret c::r) σ h=.ok (.ret w) h':=by rw[dP,GV,e];rfl
theorem sH(e:af C c σ h=.ok (.bl false) h')(k:aJ C r σ h'=z):aJ C (.iff c a []::r) σ h=z:=by rw[dP,p6,e];show (aJ C [] σ h').bind _=_;rw[Fu];exact k
theorem xK(e:af C c σ h=.ok (.bl true) h')(k:aJ C a σ h'=.ok (.ret w) h2):aJ C (.iff c a b::r) σ h=.ok (.ret w) h2:=by rw[dP,p6,e];show (aJ C a σ h').bind _=_;rw[k];rfl
theorem Oh{h3:Hp}(e:af C c σ h=.ok (.bl true) h')(k1:aJ C a σ h'=.ok (.next σ') h3)(k:aJ C r σ' h3=z):aJ C (.iff c a b::r) σ h=z:=by rw[dP,p6,e];show (aJ C a σ h').bind _=_;rw[k1];exact k
theorem vm{f:Fn}{xs:List W}(σ:Env)(l:xs.length=f.ps)(eσ:xs.map some++List.replicate (f.ns-f.ps) none=σ)(e:aJ C f.body σ h=.ok (.ret w) h'):eG C f xs h=.ok w h':=by unfold eG;rw[if_pos l,eσ,e];rfl
theorem sI{f:Fn}{xs:List W}(l:xs.length=f.ps)(e:aJ C f.body (xs.map some++List.replicate (f.ns-f.ps) none) h=.ok (.ret w) h'):eG C f xs h=.ok w h':=by unfold eG;rw[if_pos l,e];rfl
end
theorem vZ(h:Hp)(n:Nat):∀ns:List Int,gT h n (ns.map W.int)=some (ns.map W.int)
 |[]=>rfl
 |x::r=>by simp[vZ h n r]
theorem xQ(h:Hp)(n:Nat):∀ns:List S,gT h n (ns.map W.str)=some (ns.map W.str)
 |[]=>rfl
 |x::r=>by simp[xQ h n r]
structure Gen(p:Nat)(h:Hp):Prop where
 ex:∃(a c:Int) (l:Nat) (ns:List Int),h[p]?=some (.lst [.int a,.ref l,.int c])/\h[l]?=some (.lst (ns.map W.int))/\l<p
theorem Gen.ext{p:Nat}{h:Hp}(g:Gen p h)(x:List O):Gen p (h++x):=by obtain⟨a,c,l,ns,e1,e2,e3⟩:=g.ex;exact⟨a,c,l,ns,aK x e1,aK x e2,e3⟩
noncomputable def vz:Fn:=⟨2,3,[
 .set 2 (.ite (.cmp .ne (.idx (.var 0) (.cst (.int 1))) (.lst .nil)) (.idx (.idx (.var 0) (.cst (.int 1))) (.bin .mod (.idx (.var 0) (.cst (.int 2))) (.blt .len (.idx (.var 0) (.cst (.int 1)))))) (.cst (.int 0))),
 .put (.var 0) (.cst (.int 0)) (.bin .mod (.bin .add (.bin .add (.bin .mul (.idx (.var 0) (.cst (.int 0))) (.cst (.int 48271))) (.bin .mul (.var 2) (.cst (.int 69621)))) (.cst (.int 11))) (.cst (.int 2147483647))),
 .put (.var 0) (.cst (.int 2)) (.bin .add (.idx (.var 0) (.cst (.int 2))) (.cst (.int 1))),
 .ret (.bin .mod (.bin .fdiv (.idx (.var 0) (.cst (.int 0))) (.cst (.int 7))) (.var 1))]⟩
theorem j9{α:Type}(xs:List α)(i:Nat)(h:i<xs.length):dM xs (i:Int)=some xs[i]:=by
 have e1:(0:Int)<=(i:Int):=by lia
 have e2:(i:Int)<(xs.length:Int):=by lia
 simp[dM,i0,e1,e2,lN h]
theorem zp{α:Type}(xs:List α)(c:Int)(h:0<xs.length):∃x,x∈xs/\dM xs (c % (xs.length:Int))=some x:=by
 have e1:0<=c % (xs.length:Int):=Int.emod_nonneg _ (by lia);have e2:c % (xs.length:Int)<(xs.length:Int):=Int.emod_lt_of_pos _ (by lia);have e3:(c % (xs.length:Int)).toNat<xs.length:=by lia
 refine⟨xs[(c % (xs.length:Int)).toNat],vC _,?_⟩;have:=j9 xs _ e3;rw[show (((c % (xs.length:Int)).toNat:Nat):Int)=c % (xs.length:Int) by lia] at this;exact this
@[simp] theorem T8{α:Type}(x:α)(xs:List α):dM (x::xs) 0=some x:=by
 have:((0:Nat):Int)<((xs.length:Int)+1):=by lia
 simp[dM,i0]
@[simp] theorem T7{α:Type}(x y:α)(xs:List α):dM (x::y::xs) 1=some y:=by have:=j9 (x::y::xs) 1 (by simp);simpa using this
@[simp] theorem T6{α:Type}(x y z:α)(xs:List α):dM (x::y::z::xs) 2=some z:=by have:=j9 (x::y::z::xs) 2 (by simp);simpa using this
@[simp] theorem Se:i0 3 0=some 0:=rfl
@[simp] theorem Sg:i0 3 2=some 2:=rfl
@[simp] theorem Rk:small 48271=true:=by decide
@[simp] theorem QM:small 69621=true:=by decide
theorem HW{C:Or}{p:Nat}{h:Hp}(g:Gen p h){m:Int}(hm:0<m):
  ∃v h',eG C vz [.ref p,.int m] h=.ok (.int v) h'/\0<=v/\v<m/\Ext p h h'/\Gen p h':=by
 obtain⟨a,c,l,ns,e1,e2,e3⟩:=g.ex;have f1:=aK [O.lst []] e1;have f2:=aK [O.lst []] e2;have key:∃x:Int,af C (.ite (.cmp .ne (.idx (.var 0) (.cst (.int 1))) (.lst .nil)) (.idx (.idx (.var 0) (.cst (.int 1))) (.bin .mod (.idx (.var 0) (.cst (.int 2))) (.blt .len (.idx (.var 0) (.cst (.int 1)))))) (.cst (.int 0)))
   [some (.ref p),some (.int m),none] h=.ok (.int x) (h++[O.lst []]):=by
  cases ns with
  |nil=>
   refine⟨0,?_⟩;simp[e1,f2,dB,cS]
  |cons n r=>
   obtain⟨x,hx,ex⟩:=zp ((n::r).map W.int) c (by simp);obtain⟨y,_,rfl⟩:=o9.mp hx;refine⟨y,?_⟩;have pos:(0:Int)<(r.length:Int)+1:=by lia
   have t:=vZ (h++[O.lst []]) 899 r;simp only[fJ] at e2 f2 ex;simp only[gK,i9] at ex;push_cast at ex;simp[e1,f1,f2,t,pos,ex,dB,cS]
 obtain⟨x,ex⟩:=key;have g1:=jF (o:=O.lst [.int ((a * 48271+x * 69621+11) % 2147483647),.ref l,.int c]) f1;have g2:=jF (o:=O.lst [.int ((a * 48271+x * 69621+11) % 2147483647),.ref l,.int (c+1)]) g1;have g3:=bI (o:=O.lst [.int ((a * 48271+x * 69621+11) % 2147483647),.ref l,.int c]) (pd e3) f2;have g4:=bI (o:=O.lst [.int ((a * 48271+x * 69621+11) % 2147483647),.ref l,.int (c+1)]) (pd e3) g3;refine⟨(((a * 48271+x * 69621+11) % 2147483647) / 7) % m,(((h++[O.lst []]).set p (.lst [.int ((a * 48271+x * 69621+11) % 2147483647),.ref l,.int c]))).set p (.lst [.int ((a * 48271+x * 69621+11) % 2147483647),.ref l,.int (c+1)]),?_,Int.emod_nonneg _ (by lia),Int.emod_lt_of_pos _ hm,?_,?_⟩
 .exact vm [some (.ref p),some (.int m),none] rfl rfl (lW ex (pL (σ':=[some (.ref p),some (.int m),some (.int x)]) (h':=(h++[O.lst []]).set p (.lst [.int ((a * 48271+x * 69621+11) % 2147483647),.ref l,.int c])) (by simp[f1]) (pL (σ':=[some (.ref p),some (.int m),some (.int x)]) (by simp[g1, -List.set_set];rfl) (iC (by simp[g2,hm, -List.set_set])))))
 .exact ((Ext.app p h _).trans (Ext.set p _ _)).trans (Ext.set p _ _)
 .exact⟨_,_,_,_,g2,g4,e3⟩
set_option genInjectivity true in
inductive Kd where
 |num|tru|row (k:Kd)|pair (a b:Kd)|work (a b:Kd)|any (x:S)|gap (n:Int)
 deriving DecidableEq
abbrev ir:S:=[110,117,109,98,101,114]
abbrev mB:S:=[116,114,117,116,104]
abbrev Ro:S:=[114,111,119]
abbrev vg:S:=[112,97,105,114]
abbrev u7:S:=[119,111,114,107]
abbrev RT:S:=[97,110,121]
abbrev Q4:S:=[103,97,112]
noncomputable def Kd.ae:Kd->W
 |.num=>.tup [.str ir]
 |.tru=>.tup [.str mB]
 |.row k=>.tup [.str Ro,k.ae]
 |.pair a b=>.tup [.str vg,a.ae,b.ae]
 |.work a b=>.tup [.str u7,a.ae,b.ae]
 |.any x=>.tup [.str RT,.str x]
 |.gap n=>.tup [.str Q4,.int n]
noncomputable def Kd.depth:Kd->Nat
 |.row k=>k.depth+1
 |.pair a b=>max a.depth b.depth+1
 |.work a b=>max a.depth b.depth+1
 |_=>0
def Kd.over(l:List S):Kd->Prop
 |.row k=>k.over l
 |.pair a b=>a.over l/\b.over l
 |.work a b=>a.over l/\b.over l
 |.any x=>x∈l
 |.gap _=>False
 |_=>True
theorem Kd.rd(h:Hp):∀(k:Kd)(n:Nat),k.depth+1<=n->Tw.rd h n k.ae=some k.ae
 |.num,n+1,_=>by simp[Kd.ae]
 |.tru,n+1,_=>by simp[Kd.ae]
 |.any x,n+1,_=>by simp[Kd.ae]
 |.gap x,n+1,_=>by simp[Kd.ae]
 |.row k,n+1,e=>by
  have:=Kd.rd h k n (by simp[Kd.depth] at e;lia);simp[Kd.ae,this]
 |.pair a b,n+1,e=>by
  have h1:=Kd.rd h a n (by simp[Kd.depth] at e;lia);have h2:=Kd.rd h b n (by simp[Kd.depth] at e;lia);simp[Kd.ae,h1,h2]
 |.work a b,n+1,e=>by
  have h1:=Kd.rd h a n (by simp[Kd.depth] at e;lia);have h2:=Kd.rd h b n (by simp[Kd.depth] at e;lia);simp[Kd.ae,h1,h2]
theorem Kd.bz:∀a b:Kd,Tw.bz a.ae b.ae=decide (a=b):=by
 intro a
 induction a with
 |num=>intro b;cases b<;>simp[Kd.ae]
 |tru=>intro b;cases b<;>simp[Kd.ae]
 |any x=>intro b;cases b<;>simp[Kd.ae,Cy]
 |gap x=>intro b;cases b<;>simp[Kd.ae,Cy]
 |row k ih=>intro b;cases b<;>simp[Kd.ae,ih]
 |pair a b iha ihb=>intro c;cases c<;>simp[Kd.ae,iha,ihb]
 |work a b iha ihb=>intro c;cases c<;>simp[Kd.ae,iha,ihb]
theorem Kd.cS(h:Hp)(k:Kd):Tw.cS h k.ae=none:=by cases k<;>simp[Kd.ae,Tw.cS]
theorem Kd.dB(h:Hp)(a b:Kd)(ha:a.depth<=890)(hb:b.depth<=890):Tw.dB h a.ae b.ae=some (decide (a=b)):=by simp[Tw.dB,Kd.cS,Kd.rd h a 900 (by lia),Kd.rd h b 900 (by lia),Kd.bz]
theorem run_eq{T:List Fn}{f:Nat}{fn:Fn}(e:T[f]?=some fn)(k:Nat)(xs:List W)(h:Hp):run T (k+1) f xs h=eG (run T k) fn xs h:=by simp[run,e]
def fA(nx self:Nat):Fn:=⟨3,5,[
 .set 3 (.call nx (.cons (.var 0) (.cons (.cst (.int 8)) .nil))),
 .iff (.and (.cmp .ne (.var 2) (.lst .nil)) (.cmp .eq (.var 3) (.cst (.int 7)))) [.ret (.tup (.cons (.cst (.str [97,110,121])) (.cons (.idx (.var 2) (.call nx (.cons (.var 0) (.cons (.blt .len (.var 2)) .nil)))) .nil)))] [],
 .iff (.or (.cmp .eq (.var 1) (.cst (.int 0))) (.cmp .lt (.var 3) (.cst (.int 3)))) [.ret (.idx (.lst (.cons (.tup (.cons (.cst (.str [110,117,109,98,101,114])) .nil)) (.cons (.tup (.cons (.cst (.str [116,114,117,116,104])) .nil)) .nil))) (.call nx (.cons (.var 0) (.cons (.cst (.int 2)) .nil))))] [],
 .set 4 (.call self (.cons (.var 0) (.cons (.bin .sub (.var 1) (.cst (.int 1))) (.cons (.var 2) .nil)))),
 .iff (.cmp .lt (.var 3) (.cst (.int 5))) [.ret (.tup (.cons (.cst (.str [114,111,119])) (.cons (.var 4) .nil)))] [],
 .ret (.tup (.cons (.idx (.lst (.cons (.cst (.str [112,97,105,114])) (.cons (.cst (.str [119,111,114,107])) .nil))) (.bin .fdiv (.call nx (.cons (.var 0) (.cons (.cst (.int 3)) .nil))) (.cst (.int 2)))) (.cons (.var 4) (.cons (.call self (.cons (.var 0) (.cons (.bin .sub (.var 1) (.cst (.int 1))) (.cons (.var 2) .nil)))) .nil))))]⟩
theorem rS{α:Type}(xs:List α)(i:Int)(h0:0<=i)(h:i<(xs.length:Int)):∃x,x∈xs/\dM xs i=some x:=by
 have e3:i.toNat<xs.length:=by lia
 refine⟨xs[i.toNat],vC _,?_⟩;have:=j9 xs _ e3;rw[show ((i.toNat:Nat):Int)=i by lia] at this;exact this
theorem ne_nil{h:Hp}{q:Nat}{names:List S}(e:h[q]?=some (.lst (names.map W.str))):
  dB (h++[O.lst []]) (.ref q) (.ref h.length)=some (decide (names=[])):=by
 have e2:=aK [O.lst []] e;cases names with
 |nil=>simp[dB,cS,e2]
 |cons x r=>
  have t:=xQ (h++[O.lst []]) 899 r;simp only[fJ] at e2;simp[dB,cS,e2,t]
structure EZ(p:Nat)(names:List S)(d:Nat)(h:Hp)(r:R W)(kd:Kd)(h':Hp):Prop where
 eq:r=.ok kd.ae h'
 deep:kd.depth<=d
 over:kd.over names
 ext:Ext p h h'
 gen:Gen p h'
abbrev Ks(C:Or)(nx p:Nat):Prop:=∀(m:Int)(h:Hp),Gen p h->0<m->∃v h',C nx [.ref p,.int m] h=.ok (.int v) h'/\0<=v/\v<m/\Ext p h h'/\Gen p h'
theorem ux{C:Or}{nx self p q:Nat}{names:List S}(nJ:Ks C nx p)(hq:q≠p)(d:Nat)
  (ih:0<d->∀h,Gen p h->h[q]?=some (.lst (names.map W.str))->∃kd h',EZ p names (d-1) h (C self [.ref p,.int ((d:Int)-1),.ref q] h) kd h')
  (h:Hp) (g:Gen p h) (eq:h[q]?=some (.lst (names.map W.str))):∃kd h',EZ p names d h (eG C (fA nx self) [.ref p,.int d,.ref q] h) kd h':=by
 obtain⟨w,h1,r1,a1,b1,x1,g1⟩:=nJ 8 h g (by decide);have eq1:=x1.keep _ _ eq hq;have n1:=ne_nil eq1;have eq2:=aK [O.lst []] eq1;have g2:=g1.ext [O.lst []];have x2:=x1.trans (Ext.app p h1 [O.lst []]);have far:∀(h:Hp),Gen p h->p≠h.length:=fun h g=>by
  obtain⟨_,_,_,_,e,_⟩:=g.ex;exact fun z=>absurd (lY e) (by rw[<-z];lia)
 have cA:∀b:Bool,decide (names=[])=!b->af C (.and (.cmp .ne (.var 2) (.lst .nil)) (.cmp .eq (.var 3) (.cst (.int 7)))) [some (.ref p),some (.int d),some (.ref q),some (.int w),none] h1=.ok (.bl (b&&decide (w=7))) (h1++[O.lst []]):=by intro b hb;rw[hb] at n1;cases b<;>simp[n1]
 have e1:af C (.call nx (.cons (.var 0) (.cons (.cst (.int 8)) .nil))) [some (.ref p),some (.int d),some (.ref q),none,none] h=.ok (.int w) h1:=by simp[r1]
 have st:∀{z:R Fl},aJ C ((fA nx self).body.drop 1) [some (.ref p),some (.int d),some (.ref q),some (.int w),none] h1=z->aJ C (fA nx self).body ([W.ref p,.int d,.ref q].map some++List.replicate ((fA nx self).ns-(fA nx self).ps) none) h=z:=fun k=>lW e1 k;by_cases c1:names≠ []/\w=7
 .obtain⟨c1,rfl⟩:=c1;obtain⟨v,h3,r3,a3,b3,x3,g3⟩:=nJ names.length (h1++[O.lst []]) g2 (by
   have:=List.length_pos_iff.mpr c1;lia)
  obtain⟨x,hx,ex⟩:=rS (names.map W.str) v a3 (by simpa using b3);obtain⟨y,hy,rfl⟩:=o9.mp hx;have eq3:=x3.keep _ _ eq2 hq;refine⟨.any y,h3,sI rfl (st (xK (cA true (by simp[c1])) (iC ?_))),bw _,hy,x2.trans x3,g3⟩;simp[eq2,r3,eq3,ex,Kd.ae]
 .have no1:∀{z:R Fl},aJ C ((fA nx self).body.drop 2) [some (.ref p),some (.int d),some (.ref q),some (.int w),none] (h1++[O.lst []])=z->aJ C ((fA nx self).body.drop 1) [some (.ref p),some (.int d),some (.ref q),some (.int w),none] h1=z:=fun k=>by
   by_cases hn:names=[]
   .exact sH (cA false (by simp[hn])) k
   .have:¬ w=7:=fun z=>c1 ⟨hn,z⟩;have cc:=cA true (by simp[hn]);rw[bc this] at cc;exact sH cc k
  have cB:af C (.or (.cmp .eq (.var 1) (.cst (.int 0))) (.cmp .lt (.var 3) (.cst (.int 3)))) [some (.ref p),some (.int d),some (.ref q),some (.int w),none] (h1++[O.lst []])=.ok (.bl (decide (d=0\/w<3))) (h1++[O.lst []]):=by by_cases hd:d=0<;>by_cases hw:w<3<;>simp[hd,hw]
  by_cases c2:d=0\/w<3
  .rw[bT c2] at cB;obtain⟨v,h3,r3,a3,b3,x3,g3⟩:=nJ 2 ((h1++[O.lst []])++[.lst [.tup [.str ir],.tup [.str mB]]]) (g2.ext _) (by decide);have el:=x3.keep _ _ (bf (h1++[O.lst []]) (.lst [.tup [.str ir],.tup [.str mB]])) (bj (far _ g2));have x4:=(x2.trans (Ext.app p _ [.lst [.tup [.str ir],.tup [.str mB]]])).trans x3;have hv:v=0\/v=1:=by lia
   refine⟨if v=0 then .num else .tru,h3,sI rfl (st (no1 (xK cB (iC ?_)))),?_,?_,x4,g3⟩
   .generalize h1++[O.lst []]=hh at *;rcases hv with rfl|rfl
    .simp[r3,el,Kd.ae]
    .simp[r3,el,Kd.ae]
   .rcases hv with rfl|rfl<;>simp[Kd.depth]
   .rcases hv with rfl|rfl<;>simp[Kd.over]
  .rw[bc c2] at cB;have hd:0<d:=by lia
   obtain⟨k1,h3,i1⟩:=ih hd (h1++[O.lst []]) g2 eq2;have eq3:=i1.ext.keep _ _ eq2 hq;have e4:af C (.call self (.cons (.var 0) (.cons (.bin .sub (.var 1) (.cst (.int 1))) (.cons (.var 2) .nil)))) [some (.ref p),some (.int d),some (.ref q),some (.int w),none] (h1++[O.lst []])=.ok k1.ae h3:=by have t1:=i1.eq;simp[t1]
   have st2:∀{z:R Fl},aJ C ((fA nx self).body.drop 4) [some (.ref p),some (.int d),some (.ref q),some (.int w),some k1.ae] h3=z->aJ C (fA nx self).body ([W.ref p,.int d,.ref q].map some++List.replicate ((fA nx self).ns-(fA nx self).ps) none) h=z:=fun k=>st (no1 (sH cB (lW e4 k)));have cC:af C (.cmp .lt (.var 3) (.cst (.int 5))) [some (.ref p),some (.int d),some (.ref q),some (.int w),some k1.ae] h3=.ok (.bl (decide (w<5))) h3:=by simp
   by_cases c3:w<5
   .rw[bT c3] at cC;refine⟨.row k1,h3,sI rfl (st2 (xK cC (iC ?_))),?_,i1.over,x2.trans i1.ext,i1.gen⟩
    .simp[Kd.ae]
    .have:=i1.deep;simp[Kd.depth];lia
   .rw[bc c3] at cC;obtain⟨v,h5,r5,a5,b5,x5,g5⟩:=nJ 3 (h3++[.lst [.str vg,.str u7]]) (i1.gen.ext _) (by decide);have el:=x5.keep _ _ (bf h3 (.lst [.str vg,.str u7])) (bj (far _ i1.gen));have eq5:=x5.keep _ _ (aK [O.lst [.str vg,.str u7]] eq3) hq;obtain⟨k2,h6,i2⟩:=ih hd h5 g5 eq5;have hv:v / 2=0\/v / 2=1:=by lia
    refine⟨if v / 2=0 then .pair k1 k2 else .work k1 k2,h6,sI rfl (st2 (sH cC (iC ?_))),?_,?_,(((x2.trans i1.ext).trans (Ext.app p _ _)).trans x5).trans i2.ext,i2.gen⟩
    .have t2:=i2.eq;rcases hv with hv|hv
     .simp[t2,r5,el,hv,Kd.ae]
     .simp[t2,r5,el,hv,Kd.ae]
    .have:=i1.deep;have:=i2.deep;rcases hv with hv|hv<;>simp[Kd.depth,hv]<;>lia
    .rcases hv with hv|hv<;>simp[Kd.over,hv]<;>exact⟨i1.over,i2.over⟩
theorem tu{T:List Fn}{nx:Nat}(hn:T[nx]?=some vz)(k p:Nat):Ks (run T (k+1)) nx p:=fun m h g hm=>by
 rw[run_eq hn];exact HW g hm
theorem zr{T:List Fn}{nx self p q:Nat}{names:List S}(hn:T[nx]?=some vz)(hs:T[self]?=some (fA nx self))(hq:q≠p):
  ∀(d k:Nat)(h:Hp),Gen p h->h[q]?=some (.lst (names.map W.str))->∃kd h',EZ p names d h (run T (d+k+2) self [.ref p,.int d,.ref q] h) kd h'
 |0,k,h,g,e=>by
  rw[show 0+k+2=(k+1)+1 by lia,run_eq hs];exact ux (tu hn k p) hq 0 (fun z=>absurd z (by lia)) h g e
 |d+1,k,h,g,e=>by
  rw[show d+1+k+2=(d+k+2)+1 by lia,run_eq hs];refine ux (tu hn (d+k+1) p) hq (d+1) (fun _ h g e=>?_) h g e;have:=zr hn hs hq d k h g e;simpa using this
end Tw
namespace K06
open Tw
noncomputable abbrev C:=Co Kd
abbrev lk(k:Kd):Kd:=.work k (.work k .tru)
inductive Ty:List Kd->C->Kd->Prop
 |num {Γ i}:Ty Γ (.num i) .num
 |yes {Γ}:Ty Γ .yes .tru
 |no {Γ}:Ty Γ .no .tru
 |var {Γ i k}:Γ[i]?=some k->Ty Γ (.var i) k
 |ah {Γ k}:Ty Γ (.ah k) (.row k)
 |jv {Γ}:Ty Γ (.like .num) (lk .num)
 |ju {Γ}:Ty Γ (.like .tru) (lk .tru)
 |fn {Γ k c t}:Ty (k::Γ) c t->Ty Γ (.fn k c) (.work k t)
 |left {Γ a x y}:Ty Γ a (.pair x y)->Ty Γ (.n1 .left a) x
 |right {Γ a x y}:Ty Γ a (.pair x y)->Ty Γ (.n1 .right a) y
 |bQ {Γ a x}:Ty Γ a (lk x)->Ty Γ (.n1 .bQ a) (lk (.row x))
 |call {Γ a b x y}:Ty Γ a (.work x y)->Ty Γ b x->Ty Γ (.n2 .call a b) y
 |both {Γ a b x y}:Ty Γ a x->Ty Γ b y->Ty Γ (.n2 .both a b) (.pair x y)
 |more {Γ a b x}:Ty Γ a x->Ty Γ b (.row x)->Ty Γ (.n2 .more a b) (.row x)
 |sum {Γ a b}:Ty Γ a .num->Ty Γ b .num->Ty Γ (.n2 .sum a b) .num
 |less {Γ a b}:Ty Γ a .num->Ty Γ b .num->Ty Γ (.n2 .less a b) .tru
 |bK {Γ a b x y}:Ty Γ a (lk x)->Ty Γ b (lk y)->Ty Γ (.n2 .bK a b) (lk (.pair x y))
 |fold {Γ a b c x y}:Ty Γ a (.row x)->Ty Γ b y->Ty Γ c (.work x (.work y y))->Ty Γ (.n3 .fold a b c) y
 |aQ {Γ a b c x}:Ty Γ a .tru->Ty Γ b x->Ty Γ c x->Ty Γ (.n3 .aQ a b c) x
theorem Ty.weak{A:List Kd}{c:C}{t:Kd}(h:Ty A c t):∀(E:List Kd),Ty (A++E) c t:=by
 induction h with
 |num=>exact fun _=>.num
 |yes=>exact fun _=>.yes
 |no=>exact fun _=>.no
 |var e=>exact fun E=>.var (by rw[fI (fV.mp e).1];exact e)
 |ah=>exact fun _=>.ah
 |jv=>exact fun _=>.jv
 |ju=>exact fun _=>.ju
 |fn _ a=>exact fun E=>.fn (a E)
 |left _ a=>exact fun E=>.left (a E)
 |right _ a=>exact fun E=>.right (a E)
 |bQ _ a=>exact fun E=>.bQ (a E)
 |call _ _ i j=>exact fun E=>.call (i E) (j E)
 |both _ _ i j=>exact fun E=>.both (i E) (j E)
 |more _ _ i j=>exact fun E=>.more (i E) (j E)
 |sum _ _ i j=>exact fun E=>.sum (i E) (j E)
 |less _ _ i j=>exact fun E=>.less (i E) (j E)
 |bK _ _ i j=>exact fun E=>.bK (i E) (j E)
 |fold _ _ _ i j k=>exact fun E=>.fold (i E) (j E) (k E)
 |aQ _ _ _ i j k=>exact fun E=>.aQ (i E) (j E) (k E)
theorem Ty.vd{A:List Kd}{c:C}{t:Kd}(h:Ty A c t):∀n,A.length<=n->c.vd n=0:=by
 induction h with
 |var e=>intro n hn;have:=(fV.mp e).1;simp only[Co.vd];rw[if_neg (by lia)]
 |fn _ a=>intro n hn;simp only[Co.vd,a (n+1) (by simpa using hn)];rfl
 |left _ a=>intro n hn;simp only[Co.vd,a n hn];rfl
 |right _ a=>intro n hn;simp only[Co.vd,a n hn];rfl
 |bQ _ a=>intro n hn;simp only[Co.vd,a n hn];rfl
 |call _ _ i j=>intro n hn;simp only[Co.vd,i n hn,j n hn];rfl
 |both _ _ i j=>intro n hn;simp only[Co.vd,i n hn,j n hn];rfl
 |more _ _ i j=>intro n hn;simp only[Co.vd,i n hn,j n hn];rfl
 |sum _ _ i j=>intro n hn;simp only[Co.vd,i n hn,j n hn];rfl
 |less _ _ i j=>intro n hn;simp only[Co.vd,i n hn,j n hn];rfl
 |bK _ _ i j=>intro n hn;simp only[Co.vd,i n hn,j n hn];rfl
 |fold _ _ _ i j k=>intro n hn;simp only[Co.vd,i n hn,j n hn,k n hn];rfl
 |aQ _ _ _ i j k=>intro n hn;simp only[Co.vd,i n hn,j n hn,k n hn];rfl
 |_=>intro n hn;rfl
theorem Ty.closed{c:C}{t:Kd}(h:Ty [] c t):c.closed:=fun n=>h.vd n (bw _)
theorem Ty.into{v:C}{k:Kd}(l:Ty [] v k){A:List Kd}{c:C}{t:Kd}(h:Ty A c t):∀(E:List Kd),A=E++[k]->Ty E (Co.into v E.length c) t:=by
 induction h with
 |num=>exact fun _ _=>.num
 |yes=>exact fun _ _=>.yes
 |no=>exact fun _ _=>.no
 | @var A i b e=>
  intro E z;subst z;simp only[Co.into];by_cases q:i=E.length
  .rw[if_pos q];rw[q,mZ (aA _)] at e;simp at e;subst e;exact l.weak E
  .rw[if_neg q];have:=(fV.mp e).1;simp at this;rw[fI (by lia)] at e;exact .var e
 |ah=>exact fun _ _=>.ah
 |jv=>exact fun _ _=>.jv
 |ju=>exact fun _ _=>.ju
 | @fn A b c t _ a=>exact fun E z=>.fn (a (b::E) (by rw[z];rfl))
 |left _ a=>exact fun E z=>.left (a E z)
 |right _ a=>exact fun E z=>.right (a E z)
 |bQ _ a=>exact fun E z=>.bQ (a E z)
 |call _ _ i j=>exact fun E z=>.call (i E z) (j E z)
 |both _ _ i j=>exact fun E z=>.both (i E z) (j E z)
 |more _ _ i j=>exact fun E z=>.more (i E z) (j E z)
 |sum _ _ i j=>exact fun E z=>.sum (i E z) (j E z)
 |less _ _ i j=>exact fun E z=>.less (i E z) (j E z)
 |bK _ _ i j=>exact fun E z=>.bK (i E z) (j E z)
 |fold _ _ _ i j k=>exact fun E z=>.fold (i E z) (j E z) (k E z)
 |aQ _ _ _ i j k=>exact fun E z=>.aQ (i E z) (j E z) (k E z)
noncomputable def bare:C->C
 |.en a _=>a
 |c=>c
noncomputable def cg:C->Bool
 |.like _=>true
 |.n1 .bQ _=>true
 |.n2 .bK _ _=>true
 |_=>false
abbrev bF(c:C):Bool:=cg (bare c)
noncomputable def Co.ended:C->Bool
 |.num _=>true
 |.yes=>true
 |.no=>true
 |.ah _=>true
 |.like _=>true
 |.fn _ _=>true
 |.en _ _=>true
 |.n1 .bQ a=>Co.ended a
 |.n2 .both a b=>Co.ended a&&Co.ended b
 |.n2 .more a b=>Co.ended a&&Co.ended b
 |.n2 .bK a b=>Co.ended a&&Co.ended b
 |.n2 .call a b=>bF a&&Co.ended a&&Co.ended b
 |_=>false
theorem bS{c:C}(h:Ty [] c .num)(e:Co.ended c=true):∃i,c=.num i:=by
 cases h with
 |num=>exact⟨_,rfl⟩
 |var e=>simp at e
 |call h1 h2=>
  simp only[Co.ended,aq] at e;cases h1<;>first|(simp[bF,bare,cg] at e;done)|skip
 |_=>simp[Co.ended] at e
theorem iq{c:C}(h:Ty [] c .tru)(e:Co.ended c=true):c=.yes\/c=.no:=by
 cases h with
 |yes=>exact .inl rfl
 |no=>exact .inr rfl
 |var e=>simp at e
 |call h1 h2=>
  simp only[Co.ended,aq] at e;cases h1<;>first|(simp[bF,bare,cg] at e;done)|skip
 |_=>simp[Co.ended] at e
theorem cH{c:C}{x y:Kd}(h:Ty [] c (.pair x y))(e:Co.ended c=true):∃a b,c=.n2 .both a b/\Co.ended a=true/\Co.ended b=true/\Ty [] a x/\Ty [] b y:=by
 cases h with
 |both h1 h2=>simp only[Co.ended,aq] at e;exact⟨_,_,rfl,e.1,e.2,h1,h2⟩
 |var e=>simp at e
 |call h1 h2=>
  simp only[Co.ended,aq] at e;cases h1<;>first|(simp[bF,bare,cg] at e;done)|skip
 |_=>simp[Co.ended] at e
theorem fF{c:C}{x:Kd}(h:Ty [] c (.row x))(e:Co.ended c=true):c=.ah x\/∃a b,c=.n2 .more a b/\Co.ended a=true/\Co.ended b=true/\Ty [] a x/\Ty [] b (.row x):=by
 cases h with
 |ah=>exact .inl rfl
 |more h1 h2=>simp only[Co.ended,aq] at e;exact .inr ⟨_,_,rfl,e.1,e.2,h1,h2⟩
 |var e=>simp at e
 |call h1 h2=>
  simp only[Co.ended,aq] at e;cases h1<;>first|(simp[bF,bare,cg] at e;done)|skip
 |_=>simp[Co.ended] at e
theorem m7{c:C}{x y:Kd}(h:Ty [] c (.work x y))(e:Co.ended c=true):(∃b,c=.fn x b/\Ty [x] b y)\/(bF c=true/\y=.work x .tru)\/∃l v,c=.n2 .call l v/\bF l=true/\Co.ended l=true/\Co.ended v=true/\Ty [] l (lk x)/\Ty [] v x/\y=.tru:=by
 cases h with
 |fn J=>exact .inl ⟨_,rfl,J⟩
 |jv=>exact .inr (.inl ⟨rfl,rfl⟩)
 |ju=>exact .inr (.inl ⟨rfl,rfl⟩)
 |bQ _=>exact .inr (.inl ⟨rfl,rfl⟩)
 |bK _ _=>exact .inr (.inl ⟨rfl,rfl⟩)
 |var e=>simp at e
 | @call _ a b i _ J Z=>
  simp only[Co.ended,aq] at e;have l:∃z,Kd.work i (.work x y)=lk z:=by cases J<;>first|(simp[bF,bare,cg] at e;done)|exact⟨_,rfl⟩
  obtain⟨z,l⟩:=l;cases l;exact .inr (.inr ⟨_,_,rfl,e.1.1,e.1.2,e.2,J,Z,rfl⟩)
 |_=>simp[Co.ended] at e
noncomputable def AE:C->C->Bool
 |.num i,.num j=>decide (i=j)
 |.yes,.yes=>true
 |.no,.no=>true
 |_,_=>false
def ask(l x y:C):C:=.n2 .call (.n2 .call l x) y
def compared(l x y:C):C:=match l with
 |.like _=>if AE x y then .yes else .no
 |.n1 .bQ a=>match x,y with
  |.n2 .more N P,.n2 .more b c=>.n3 .aQ (ask a N b) (ask (.n1 .bQ a) P c) .no
  |.ah _,.ah _=>.yes
  |_,_=>.no
 |.n2 .bK a e=>match x,y with
  |.n2 .both N P,.n2 .both b c=>.n3 .aQ (ask a N b) (ask e P c) .no
  |_,_=>.no
 |_=>.no
noncomputable def D8:T1->C->C
 |.left,.n2 .both a _=>a
 |.right,.n2 .both _ b=>b
 |t,a=>.n1 t a
noncomputable def oz:T2->C->C->C
 |.call,.fn _ c,v=>Co.into v 0 c
 |.call,.n2 .call l x,y=>compared l x y
 |.sum,.num i,.num j=>.num (i+j)
 |.less,.num i,.num j=>if i<j then .yes else .no
 |t,a,b=>.n2 t a b
noncomputable def Ax:C->C->C->C
 |.n2 .more x r,s,w=>.n2 .call (.n2 .call w x) (.n3 .fold r s w)
 |_,s,_=>s
noncomputable def Co.aj:C->C
 |.n1 t a=>if Co.ended a then D8 t a else .n1 t (Co.aj a)
 |.n2 t a b=>if Co.ended a then (if Co.ended b then oz t a b else .n2 t a (Co.aj b)) else .n2 t (Co.aj a) b
 |.n3 .fold a b c=>if Co.ended a then (if Co.ended b then (if Co.ended c then Ax a b c else .n3 .fold a b (Co.aj c)) else .n3 .fold a (Co.aj b) c) else .n3 .fold (Co.aj a) b c
 |.n3 .aQ a b c=>if Co.ended a then (match a with | .yes=>b|_=>c) else .n3 .aQ (Co.aj a) b c
 |c=>c
def Sk(P:Nat)(c:C)(t:Kd):Prop:=Ty [] c t/\c.nm P
theorem rq{a l N x b y:Nat}(J:a<=l)(Z:N<=x)(G:b<=y):max (max a N+1) b+1<=max (max l x+1) y+1:=
 cY (ie.mpr ⟨aF (cY (ie.mpr ⟨aF J (b8 _ _),aF Z (bD _ _)⟩)) (b8 _ _),aF G (bD _ _)⟩)
theorem B4{A B D:Nat}(a:A<=D)(b:B<=D):max A (max B 0)+1<=D+1:=cY (ie.mpr ⟨a,ie.mpr ⟨b,bw _⟩⟩)
theorem wR(a b:Nat):a<=max a b+1:=oR (b8 _ _)
theorem vI(a b:Nat):b<=max a b+1:=oR (bD _ _)
theorem yh{P:Nat}{l x y:C}{k:Kd}(hl:Sk P l (lk k))(il:bF l=true)(el:Co.ended l=true)(hx:Sk P x k)(ex:Co.ended x=true)(hy:Sk P y k)(ey:Co.ended y=true):Sk P (compared l x y) .tru/\(compared l x y).depth<=(ask l x y).depth+1:=by
 obtain⟨tl,nl⟩:=hl;obtain⟨tx,nx⟩:=hx;obtain⟨ty,ny⟩:=hy;have yn:∀b:Bool,Sk P (if b=true then .yes else .no) .tru/\(if b=true then (.yes:C) else .no).depth<=(ask l x y).depth+1:=fun b=>by cases b<;>exact⟨⟨by constructor,trivial⟩,bw _⟩
 cases tl with
 |jv=>exact yn _
 |ju=>exact yn _
 |bQ h1=>
  rcases fF tx ex with rfl|⟨x1,x2,rfl,e1,e2,t1,t2⟩<;>rcases fF ty ey with rfl|⟨y1,y2,rfl,f1,f2,u1,u2⟩
  .exact yn true
  .exact yn false
  .exact yn false
  .refine⟨⟨.aQ (.call (.call h1 t1) u1) (.call (.call (.bQ h1) t2) u2) .no,⟨⟨nl,nx.1⟩,ny.1⟩,⟨⟨nl,nx.2⟩,ny.2⟩,trivial⟩,?_⟩;exact B4 (rq (tX _) (wR _ _) (wR _ _)) (rq (aA _) (vI _ _) (vI _ _))
 |bK h1 h2=>
  obtain⟨x1,x2,rfl,e1,e2,t1,t2⟩:=cH tx ex;obtain⟨y1,y2,rfl,f1,f2,u1,u2⟩:=cH ty ey;refine⟨⟨.aQ (.call (.call h1 t1) u1) (.call (.call h2 t2) u2) .no,⟨⟨nl.1,nx.1⟩,ny.1⟩,⟨⟨nl.2,nx.2⟩,ny.2⟩,trivial⟩,?_⟩;exact B4 (rq (wR _ _) (wR _ _) (wR _ _)) (rq (vI _ _) (vI _ _) (vI _ _))
 |var e=>simp at e
 |fn _=>simp[bF,bare,cg] at il
 |left _=>simp[bF,bare,cg] at il
 |right _=>simp[bF,bare,cg] at il
 |call _ _=>simp[bF,bare,cg] at il
 |fold _ _ _=>simp[bF,bare,cg] at il
 |aQ _ _ _=>simp[bF,bare,cg] at il
theorem g1{x y P:Nat}(h:x+1<=y+P):x+1+1<=y+1+P:=by lia
theorem gx{x y z P:Nat}(R:2<=P)(h:x+1<=y+P):max x z+1<=max y z+P:=
 Nat.max_lt.mpr ⟨bY h (sX (b8 _ _) P),Nat.lt_of_le_of_lt (bD y z) (Nat.lt_add_of_pos_right (bY Nat.zero_lt_two R))⟩
theorem gy{x y z P:Nat}(R:2<=P)(h:x+1<=y+P):max z x+1<=max z y+P:=by rw[Nat.max_comm z x,Nat.max_comm z y];exact gx R h
theorem gl{x y z P:Nat}(R:2<=P)(h:x+1<=y+P):max x z+1+1<=max y z+1+P:=g1 (gx R h)
theorem gr{x y z P:Nat}(R:2<=P)(h:x+1<=y+P):max z x+1+1<=max z y+1+P:=g1 (gy R h)
theorem gm{x y z w P:Nat}(R:2<=P)(h:x+1<=y+P):max z (max x w)+1+1<=max z (max y w)+1+P:=g1 (gy R (gx R h))
theorem ge{x y z w P:Nat}(R:2<=P)(h:x+1<=y+P):max z (max w x)+1+1<=max z (max w y)+1+P:=g1 (gy R (gy R h))
theorem r1{x m P:Nat}(h:x<=m):x+1<=m+1+1+P:=by lia
theorem r0{m P:Nat}(R:2<=P):0+1<=m+P:=by lia
theorem lB(i j:Int):oz .less (.num i) (.num j)=if i<j then .yes else .no:=rfl
theorem bq{P:Nat}(R:2<=P):∀(c:C)(t:Kd),Sk P c t->Co.ended c=false->Sk P (Co.aj c) t/\(Co.aj c).depth+1<=c.depth+P
 |.num _,_,_,e=>by simp[Co.ended] at e
 |.yes,_,_,e=>by simp[Co.ended] at e
 |.no,_,_,e=>by simp[Co.ended] at e
 |.ah _,_,_,e=>by simp[Co.ended] at e
 |.like _,_,_,e=>by simp[Co.ended] at e
 |.fn _ _,_,_,e=>by simp[Co.ended] at e
 |.en _ _,_,_,e=>by simp[Co.ended] at e
 |.var _,_,⟨h,_⟩,_=>by cases h with|var z=>simp at z
 |.n1 B a,t,⟨h,n⟩,e=>by
  simp only[Co.aj];by_cases Y:Co.ended a=true
  .rw[if_pos Y];cases h with
   |left J=>
    obtain⟨N,u,rfl,r,K,f,g⟩:=cH J Y;exact⟨⟨f,n.1⟩,r1 (b8 _ _)⟩
   |right J=>
    obtain⟨N,u,rfl,r,K,f,g⟩:=cH J Y;exact⟨⟨g,n.2⟩,r1 (bD _ _)⟩
   |bQ J=>simp[Co.ended,Y] at e
  .rw[if_neg Y];have p:Co.ended a=false:=by simpa using Y
   cases h with
   |left J=>obtain⟨s,d⟩:=bq R a _ ⟨J,n⟩ p;exact⟨⟨.left s.1,s.2⟩,g1 d⟩
   |right J=>obtain⟨s,d⟩:=bq R a _ ⟨J,n⟩ p;exact⟨⟨.right s.1,s.2⟩,g1 d⟩
   |bQ J=>obtain⟨s,d⟩:=bq R a _ ⟨J,n⟩ p;exact⟨⟨.bQ s.1,s.2⟩,g1 d⟩
 |.n2 B a b,t,⟨h,n⟩,e=>by
  simp only[Co.aj];by_cases Y:Co.ended a=true
  .rw[if_pos Y];by_cases V:Co.ended b=true
   .rw[if_pos V];cases h with
    |call J Z=>
     rcases m7 J Y with ⟨w,rfl,G⟩|⟨o,_⟩|⟨l,v,rfl,o,y,A,D,E,rfl⟩
     .have z:=Ty.into Z G [] rfl;refine⟨⟨z,ip Z.closed n.2 _ 0 n.1.2⟩,?_⟩;have:=Bq (k:=by assumption) (b:=w) (v:=b) (P:=P) (by lia) n.1.1;exact this
     .simp[Co.ended,o,Y,V] at e
     .obtain⟨s,d⟩:=yh (P:=P) ⟨D,n.1.1⟩ o y ⟨E,n.1.2⟩ A ⟨Z,n.2⟩ V;exact⟨s,by show (compared l v b).depth+1<=(ask l v b).depth+P;lia⟩
    |both _ _=>simp[Co.ended,Y,V] at e
    |more _ _=>simp[Co.ended,Y,V] at e
    |bK _ _=>simp[Co.ended,Y,V] at e
    |sum J Z=>
     obtain⟨i,rfl⟩:=bS J Y;obtain⟨j,rfl⟩:=bS Z V;exact⟨⟨.num,trivial⟩,r0 R⟩
    |less J Z=>
     obtain⟨i,rfl⟩:=bS J Y;obtain⟨j,rfl⟩:=bS Z V;rw[lB];by_cases q:i<j
     .rw[if_pos q];exact⟨⟨.yes,trivial⟩,r0 R⟩
     .rw[if_neg q];exact⟨⟨.no,trivial⟩,r0 R⟩
   .rw[if_neg V];have x:Co.ended b=false:=by simpa using V
    cases h with
    |call J Z=>obtain⟨s,d⟩:=bq R b _ ⟨Z,n.2⟩ x;exact⟨⟨.call J s.1,n.1,s.2⟩,gr R d⟩
    |both J Z=>obtain⟨s,d⟩:=bq R b _ ⟨Z,n.2⟩ x;exact⟨⟨.both J s.1,n.1,s.2⟩,gr R d⟩
    |more J Z=>obtain⟨s,d⟩:=bq R b _ ⟨Z,n.2⟩ x;exact⟨⟨.more J s.1,n.1,s.2⟩,gr R d⟩
    |sum J Z=>obtain⟨s,d⟩:=bq R b _ ⟨Z,n.2⟩ x;exact⟨⟨.sum J s.1,n.1,s.2⟩,gr R d⟩
    |less J Z=>obtain⟨s,d⟩:=bq R b _ ⟨Z,n.2⟩ x;exact⟨⟨.less J s.1,n.1,s.2⟩,gr R d⟩
    |bK J Z=>obtain⟨s,d⟩:=bq R b _ ⟨Z,n.2⟩ x;exact⟨⟨.bK J s.1,n.1,s.2⟩,gr R d⟩
  .rw[if_neg Y];have p:Co.ended a=false:=by simpa using Y
   cases h with
   |call J Z=>obtain⟨s,d⟩:=bq R a _ ⟨J,n.1⟩ p;exact⟨⟨.call s.1 Z,s.2,n.2⟩,gl R d⟩
   |both J Z=>obtain⟨s,d⟩:=bq R a _ ⟨J,n.1⟩ p;exact⟨⟨.both s.1 Z,s.2,n.2⟩,gl R d⟩
   |more J Z=>obtain⟨s,d⟩:=bq R a _ ⟨J,n.1⟩ p;exact⟨⟨.more s.1 Z,s.2,n.2⟩,gl R d⟩
   |sum J Z=>obtain⟨s,d⟩:=bq R a _ ⟨J,n.1⟩ p;exact⟨⟨.sum s.1 Z,s.2,n.2⟩,gl R d⟩
   |less J Z=>obtain⟨s,d⟩:=bq R a _ ⟨J,n.1⟩ p;exact⟨⟨.less s.1 Z,s.2,n.2⟩,gl R d⟩
   |bK J Z=>obtain⟨s,d⟩:=bq R a _ ⟨J,n.1⟩ p;exact⟨⟨.bK s.1 Z,s.2,n.2⟩,gl R d⟩
 |.n3 .fold a b c,t,⟨h,n⟩,e=>by
  simp only[Co.aj];cases h with
  |fold J Z G=>
   by_cases Y:Co.ended a=true
   .rw[if_pos Y];by_cases V:Co.ended b=true
    .rw[if_pos V];by_cases m:Co.ended c=true
     .rw[if_pos m];rcases fF J Y with rfl|⟨N,u,rfl,r,K,f,g⟩
      .exact⟨⟨Z,n.2.1⟩,by simp only[Ax,Co.depth];lia⟩
      .exact⟨⟨.call (.call G f) (.fold g Z G),⟨n.2.2,n.1.1⟩,n.1.2,n.2.1,n.2.2⟩,aF (cY AX) (by lia)⟩
     .rw[if_neg m];obtain⟨s,d⟩:=bq R c _ ⟨G,n.2.2⟩ (by simpa using m);exact⟨⟨.fold J Z s.1,n.1,n.2.1,s.2⟩,ge R d⟩
    .rw[if_neg V];obtain⟨s,d⟩:=bq R b _ ⟨Z,n.2.1⟩ (by simpa using V);exact⟨⟨.fold J s.1 G,n.1,s.2,n.2.2⟩,gm R d⟩
   .rw[if_neg Y];obtain⟨s,d⟩:=bq R a _ ⟨J,n.1⟩ (by simpa using Y);exact⟨⟨.fold s.1 Z G,s.2,n.2⟩,gl R d⟩
 |.n3 .aQ a b c,t,⟨h,n⟩,e=>by
  simp only[Co.aj];cases h with
  |aQ J Z G=>
   by_cases Y:Co.ended a=true
   .rw[if_pos Y];rcases iq J Y with rfl|rfl
    .exact⟨⟨Z,n.2.1⟩,by simp only[Co.depth];lia⟩
    .exact⟨⟨G,n.2.2⟩,by simp only[Co.depth];lia⟩
   .rw[if_neg Y];obtain⟨s,d⟩:=bq R a _ ⟨J,n.1⟩ (by simpa using Y);exact⟨⟨.aQ s.1 Z G,s.2,n.2⟩,gl R d⟩
noncomputable def Co.steps:Nat->C->C
 |0,c=>c
 |n+1,c=>if Co.ended c then c else Co.steps n (Co.aj c)
theorem vU{P:Nat}(R:2<=P):∀(n:Nat)(c:C)(t:Kd),Sk P c t->Sk P (Co.steps n c) t/\(Co.steps n c).depth<=c.depth+n * (P-1)
 |0,c,t,h=>⟨h,by simp[Co.steps]⟩
 |n+1,c,t,h=>by
  simp only[Co.steps];by_cases e:Co.ended c=true
  .rw[if_pos e];exact⟨h,Bz _ _⟩
  .rw[if_neg e];obtain⟨s,d⟩:=bq R c t h (by simpa using e);obtain⟨a,b⟩:=vU R n (Co.aj c) t s;refine⟨a,?_⟩;have:(n+1) * (P-1)=n * (P-1)+(P-1):=by rw[Nat.add_mul,Nat.one_mul]
   lia
noncomputable def wt:Kd->Nat
 |.row a=>wt a+2
 |.pair a b=>max (wt a) (wt b)+1
 |.work a b=>max (wt a) (wt b)+1
 |_=>0
theorem jZ:∀k:Kd,wt k<=2 * k.depth
 |.num=>bw _
 |.tru=>bw _
 |.any _=>bw _
 |.gap _=>bw _
 |.row a=>by have:=jZ a;simp only[wt,Kd.depth];lia
 |.pair a b=>by have:=jZ a;have:=jZ b;simp only[wt,Kd.depth];lia
 |.work a b=>by have:=jZ a;have:=jZ b;simp only[wt,Kd.depth];lia
def md(d:Nat)(k:Kd):Nat:=if d=0 then wt k else max 2 (wt k)+3 * d
section
variable {d:Nat}{k o a b:Kd}
theorem j0{x:Kd}(h:wt x<=max 2 (wt k)+2):md d x+1<=md (d+1) k:=by have b:max 2 (wt x)<=max 2 (wt k)+2:=ie.mpr ⟨Nat.le_add_left _ _,h⟩;have c:=bD 2 (wt x);show (if d=0 then wt x else max 2 (wt x)+3 * d)+1<=max 2 (wt k)+3 * (d+1);generalize max 2 (wt x)=m at *;split<;>lia
theorem Dd{a b c:Nat}(e:a<=c)(y:b<=c):max a b+1<=c+1:=cY (ie.mpr ⟨e,y⟩)
theorem zH(h:wt o<=2):md d (.work o k)+1<=md (d+1) k/\md d o+1<=md (d+1) k:=
 have a:=aF h (b8 2 (wt k))
 ⟨j0 (oR (Dd a (bD _ _))),j0 (aF a (Bz _ _))⟩
theorem ij:md d k+1<=md (d+1) k/\md d .tru+1<=md (d+1) k/\md d .num+1<=md (d+1) k:=
 ⟨j0 (aF (bD 2 _) (Bz _ _)),j0 (bw _),j0 (bw _)⟩
theorem yH(h:wt o<=2):md d (.row o)+1<=md (d+1) k/\md d (.work o (.work k k))+1<=md (d+1) k:=
 have a:=aF h (b8 2 (wt k))
 ⟨j0 (sX a 2),j0 (Dd (oR a) (Dd (bD _ _) (bD _ _)))⟩
theorem pK(h:wt o<=2):md d (.pair k o)+1<=md (d+1) k/\md d (.pair o k)+1<=md (d+1) k:=
 have a:=aF h (b8 2 (wt k))
 ⟨j0 (oR (Dd (bD _ _) a)),j0 (oR (Dd a (bD _ _)))⟩
theorem zd:md (d-1) a+1<=md d (.pair a b)/\md (d-1) b+1<=md d (.pair a b):=by
 simp only[md,wt];rcases d with _|_|d
 .simp;lia
 .simp;lia
 .simp only[Bo,Fc,Nat.one_ne_zero,and_false,bp];lia
theorem sm:md (d-1) a+2<=md d (.row a):=by
 simp only[md,wt];rcases d with _|_|d
 .simp
 .simp<;>lia
 .simp only[Bo,Fc,Nat.one_ne_zero,and_false,bp];lia
theorem yR:md (d-1) b+1<=md d (.work a b):=by
 simp only[md,wt];rcases d with _|_|d
 .simp;lia
 .simp;lia
 .simp only[Bo,Fc,Nat.one_ne_zero,and_false,bp];lia
end
theorem Nm{d:Nat}{a b:Kd}(h:md d (.work a b)+3<=13+d)(hd:d<=3)(t:d=3->max (wt a) (wt b)<=2):md (d-1) b<=9:=by simp only[md,wt] at h⊢;rcases d with _|_|_|_|d<;>simp at h t⊢<;>lia
noncomputable def gY:Kd->C
 |.row a=>.n1 .bQ (gY a)
 |.pair a b=>.n2 .bK (gY a) (gY b)
 |k=>.like k
noncomputable def kC:Kd->Prop
 |.num=>True
 |.tru=>True
 |.row a=>kC a
 |.pair a b=>kC a/\kC b
 |_=>False
theorem jh:∀(k:Kd),kC k->∀A,Ty A (gY k) (lk k)/\(gY k).depth<=wt k/\∀P,(gY k).nm P
 |.num,_,A=>⟨.jv,bw _,fun _=>trivial⟩
 |.tru,_,A=>⟨.ju,bw _,fun _=>trivial⟩
 |.row a,h,A=>by
  obtain⟨J,Z,G⟩:=jh a h A;exact⟨.bQ J,by simp only[gY,Co.depth,wt];lia,fun P=>G P⟩
 |.pair a b,h,A=>by
  obtain⟨J,Z,G⟩:=jh a h.1 A;obtain⟨g1,B,H⟩:=jh b h.2 A;exact⟨.bK J g1,by simp only[gY,Co.depth,wt];lia,fun P=>⟨G P,H P⟩⟩
inductive Dr:Nat->List Kd->Kd->C->Prop
 |var {d Γ K i}:Γ[i]?=some K->Dr d Γ K (.var i)
 |call {d Γ K o a b}:wt o<=2->Dr d Γ (.work o K) a->Dr d Γ o b->Dr (d+1) Γ K (.n2 .call a b)
 |aQ {d Γ K a b c}:Dr d Γ .tru a->Dr d Γ K b->Dr d Γ K c->Dr (d+1) Γ K (.n3 .aQ a b c)
 |fold {d Γ K o a b c}:wt o<=2->Dr d Γ (.row o) a->Dr d Γ K b->Dr d Γ (.work o (.work K K)) c->Dr (d+1) Γ K (.n3 .fold a b c)
 |left {d Γ K o a}:wt o<=2->Dr d Γ (.pair K o) a->Dr (d+1) Γ K (.n1 .left a)
 |right {d Γ K o a}:wt o<=2->Dr d Γ (.pair o K) a->Dr (d+1) Γ K (.n1 .right a)
 |sum {d Γ a b}:Dr d Γ .num a->Dr d Γ .num b->Dr (d+1) Γ .num (.n2 .sum a b)
 |num {d Γ i}:Dr d Γ .num (.num i)
 |less {d Γ a b}:Dr d Γ .num a->Dr d Γ .num b->Dr (d+1) Γ .tru (.n2 .less a b)
 |yes {d Γ}:Dr d Γ .tru .yes
 |no {d Γ}:Dr d Γ .tru .no
 |both {d Γ x y a b}:Dr (d-1) Γ x a->Dr (d-1) Γ y b->Dr d Γ (.pair x y) (.n2 .both a b)
 |Au {d Γ x}:Dr d Γ (.row x) (.ah x)
 |AZ {d Γ x a}:Dr (d-1) Γ x a->Dr d Γ (.row x) (.n2 .more a (.ah x))
 |Ag {d Γ x a b}:Dr (d-1) Γ x a->Dr (d-1) Γ x b->Dr d Γ (.row x) (.n2 .more b (.n2 .more a (.ah x)))
 |like {d Γ x}:kC x->Dr d Γ (lk x) (gY x)
 |fn {d Γ x y c}:Dr (d-1) (x::Γ) y c->Dr d Γ (.work x y) (.fn x c)
theorem NI(d:Nat)(k:Kd):wt k<=md d k:=by
 unfold md;by_cases e:d=0
 .rw[if_pos e];exact aA _
 .rw[if_neg e];lia
theorem Dr.ok{d:Nat}{A:List Kd}{K:Kd}{c:C}(h:Dr d A K c):Ty A c K/\c.depth<=md d K:=by
 induction h with
 |var e=>exact⟨.var e,bw _⟩
 | @call d A K o a b n _ _ i j=>exact⟨.call i.1 j.1,by have:=zH (d:=d) (k:=K) n;have:=i.2;have:=j.2;simp only[Co.depth];lia⟩
 | @aQ d A K a b c _ _ _ i j k=>exact⟨.aQ i.1 j.1 k.1,by have:=ij (d:=d) (k:=K);have:=i.2;have:=j.2;have:=k.2;simp only[Co.depth];lia⟩
 | @fold d A K o a b c n _ _ _ i j k=>exact⟨.fold i.1 j.1 k.1,by have:=yH (d:=d) (k:=K) n;have:=ij (d:=d) (k:=K);have:=i.2;have:=j.2;have:=k.2;simp only[Co.depth];lia⟩
 | @left d A K o a n _ i=>exact⟨.left i.1,by have:=pK (d:=d) (k:=K) n;have:=i.2;simp only[Co.depth];lia⟩
 | @right d A K o a n _ i=>exact⟨.right i.1,by have:=pK (d:=d) (k:=K) n;have:=i.2;simp only[Co.depth];lia⟩
 | @sum d A a b _ _ i j=>exact⟨.sum i.1 j.1,by have:=ij (d:=d) (k:=.num);have:=i.2;have:=j.2;simp only[Co.depth];lia⟩
 |num=>exact⟨.num,bw _⟩
 | @less d A a b _ _ i j=>exact⟨.less i.1 j.1,by have:=ij (d:=d) (k:=.tru);have:=i.2;have:=j.2;simp only[Co.depth];lia⟩
 |yes=>exact⟨.yes,bw _⟩
 |no=>exact⟨.no,bw _⟩
 | @both d A x y a b _ _ i j=>exact⟨.both i.1 j.1,by have:=zd (d:=d) (a:=x) (b:=y);have:=i.2;have:=j.2;simp only[Co.depth];lia⟩
 |Au=>exact⟨.ah,bw _⟩
 | @AZ d A x a _ i=>exact⟨.more i.1 .ah,by have:=sm (d:=d) (a:=x);have:=i.2;simp only[Co.depth];lia⟩
 | @Ag d A x a b _ _ i j=>exact⟨.more j.1 (.more i.1 .ah),by have:=sm (d:=d) (a:=x);have:=i.2;have:=j.2;simp only[Co.depth];lia⟩
 | @like d A x X=>exact⟨(jh x X A).1,by have:=(jh x X A).2.1;have:=NI d (lk x);simp only[wt] at this;lia⟩
 | @fn d A x y c _ i=>exact⟨.fn i.1,by have:=yR (d:=d) (a:=x) (b:=y);have:=i.2;simp only[Co.depth];lia⟩
theorem zP{m k:Nat}(h:m<=k+1):up m<=k+1+1:=by
 unfold up;split
 .exact bw _
 .exact cY h
theorem pj{m k l:Nat}(h:m<=k+1)(z:k<=l):up m<=l+1+1:=zP (aF h (cY z))
theorem lD:∀(c:C)(n:Nat),c.vd n<=c.depth+1
 |.num _,_=>bw _
 |.yes,_=>bw _
 |.no,_=>bw _
 |.ah _,_=>bw _
 |.like _,_=>bw _
 |.en _ _,_=>bw _
 |.var i,n=>by show (if i=n then 1 else 0)<=1;split<;>decide
 |.fn _ c,n=>zP (lD c (n+1))
 |.n1 _ a,n=>zP (lD a n)
 |.n2 _ a b,n=>ie.mpr ⟨pj (lD a n) (b8 _ _),pj (lD b n) (bD _ _)⟩
 |.n3 _ a b c,n=>ie.mpr ⟨pj (lD a n) (b8 _ _),ie.mpr ⟨pj (lD b n) (aF (b8 b.depth c.depth) (bD _ _)),pj (lD c n) (aF (bD b.depth c.depth) (bD _ _))⟩⟩
theorem Dr.names{D m P:Nat}(g:∀{d:Nat}{a b:Kd},md d (.work a b)+m<=D+d->d<=m->(d=m->max (wt a) (wt b)<=2)->md (d-1) b<=P){d:Nat}{A:List Kd}{K:Kd}{c:C}(h:Dr d A K c):md d K+m<=D+d->d<=m->(d=m->0<m/\∀a b,K=.work a b->max (wt a) (wt b)<=2)->c.nm P:=by
 have lt:∀{d:Nat}{K:Kd},d+1<=m->(d=m->0<m/\∀a b,K=.work a b->max (wt a) (wt b)<=2):=fun h e=>by lia
 have f:∀{d:Nat}{K l:Kd},d<=m->(d=m->0<m/\∀a b,K=.work a b->max (wt a) (wt b)<=2)->(d-1=m->0<m/\∀a b,l=.work a b->max (wt a) (wt b)<=2):=fun {d K l} h p e=>by
  have r:d=m:=by lia
  have:=(p r).1
  lia
 induction h with
 |var e=>exact fun _ _ _=>trivial
 | @call d A K o a b n _ _ i j=>
  intro J Z _;have:=zH (d:=d) (k:=K) n;exact⟨i (by lia) (by lia) (lt Z),j (by lia) (by lia) (lt Z)⟩
 | @aQ d A K a b c _ _ _ i j k=>
  intro J Z _;have:=ij (d:=d) (k:=K);exact⟨i (by lia) (by lia) (lt Z),j (by lia) (by lia) (lt Z),k (by lia) (by lia) (lt Z)⟩
 | @fold d A K o a b c n _ _ _ i j k=>
  intro J Z _;have:=yH (d:=d) (k:=K) n;have:=ij (d:=d) (k:=K);exact⟨i (by lia) (by lia) (lt Z),j (by lia) (by lia) (lt Z),k (by lia) (by lia) (lt Z)⟩
 | @left d A K o a n _ i=>
  intro J Z _;have:=pK (d:=d) (k:=K) n;exact i (by lia) (by lia) (lt Z)
 | @right d A K o a n _ i=>
  intro J Z _;have:=pK (d:=d) (k:=K) n;exact i (by lia) (by lia) (lt Z)
 | @sum d A a b _ _ i j=>
  intro J Z _;have:=ij (d:=d) (k:=.num);exact⟨i (by lia) (by lia) (lt Z),j (by lia) (by lia) (lt Z)⟩
 |num=>exact fun _ _ _=>trivial
 | @less d A a b _ _ i j=>
  intro J Z _;have:=ij (d:=d) (k:=.tru);exact⟨i (by lia) (by lia) (lt Z),j (by lia) (by lia) (lt Z)⟩
 |yes=>exact fun _ _ _=>trivial
 |no=>exact fun _ _ _=>trivial
 | @both d A x y a b _ _ i j=>
  intro J Z G;have:=zd (d:=d) (a:=x) (b:=y);exact⟨i (by lia) (by lia) (f Z G),j (by lia) (by lia) (f Z G)⟩
 |Au=>exact fun _ _ _=>trivial
 | @AZ d A x a _ i=>
  intro J Z G;have:=sm (d:=d) (a:=x);exact⟨i (by lia) (by lia) (f Z G),trivial⟩
 | @Ag d A x a b _ _ i j=>
  intro J Z G;have:=sm (d:=d) (a:=x);exact⟨j (by lia) (by lia) (f Z G),i (by lia) (by lia) (f Z G),trivial⟩
 | @like d A x X=>exact fun _ _ _=>(jh x X A).2.2 P
 | @fn d A x y c s i=>
  intro J Z G;have:=yR (d:=d) (a:=x) (b:=y);have q:=g J Z fun e=>(G e).2 x y rfl;have t:=s.ok.2;have u:=lD c 0;exact⟨by lia,i (by lia) (by lia) (f Z G)⟩
theorem JO{K:Kd}{c:C}(hk:K.depth<=2)(h:Dr 3 [] K c)(n:Nat):Sk 9 (Co.steps n c) K/\(Co.steps n c).depth<=13+n * 8:=by
 have w:=jZ K;have i:md 3 K<=13:=by simp only[md];rw[if_neg (by decide)];lia
 have nm:=h.names (D:=13) (m:=3) (P:=9) Nm (by lia) (aA _) fun _=>⟨by decide,fun a b e=>by
  subst e;simp only[Kd.depth] at hk;have:=jZ a;have:=jZ b
  lia⟩
 obtain⟨s,k⟩:=vU (P:=9) (by decide) n c K ⟨h.ok.1,nm⟩;exact⟨s,by have:=h.ok.2;lia⟩
end K06
namespace Tw
theorem Gen.jy{p:Nat}{h:Hp}(g:Gen p h):p≠h.length:=by obtain⟨_,_,_,_,e,_⟩:=g.ex;exact fun z=>absurd (lY e) (by rw[<-z];lia)
structure ai(h h':Hp):Prop where
 len:h.length<=h'.length
 keep:∀(q:Nat)(o:O),h[q]?=some o->h'[q]?=some o
theorem ai.refl(h:Hp):ai h h:=⟨aA _,fun _ _ e=>e⟩
theorem ai.trans{h h1 h2:Hp}(a:ai h h1)(b:ai h1 h2):ai h h2:=⟨aF a.len b.len,fun q o e=>b.keep q o (a.keep q o e)⟩
theorem ai.app(h:Hp)(x:List O):ai h (h++x):=⟨by simp,fun _ _ e=>aK x e⟩
theorem ai.gen{p:Nat}{h h':Hp}(g:Gen p h)(x:ai h h'):Gen p h':=by obtain⟨a,c,l,ns,e1,e2,e3⟩:=g.ex;exact⟨a,c,l,ns,x.keep _ _ e1,x.keep _ _ e2,e3⟩
theorem ai.ext{h h':Hp}(g:ai h h')(p:Nat):Ext p h h':=⟨g.len,fun q o e _=>g.keep q o e⟩
mutual
noncomputable def W.pure:W->Bool
 |.tup xs=>cF xs
 |.ref _=>false
 |.lst _=>false
 |_=>true
noncomputable def cF:List W->Bool
 |[]=>true
 |x::xs=>x.pure&&cF xs
end
mutual
theorem zt(h:Hp):∀(w:W)(n:Nat),w.pure=true->w.deep<=n->rd h n w=some w
 |.ah,n,_,_=>by simp
 |.bl _,n,_,_=>by simp
 |.int _,n,_,_=>by simp
 |.str _,n,_,_=>by simp
 |.ref _,n,p,_=>by simp[W.pure] at p
 |.lst _,n,p,_=>by simp[W.pure] at p
 |.tup xs,0,_,d=>by simp[W.deep] at d
 |.tup xs,n+1,p,d=>by
  simp only[W.pure] at p;simp only[W.deep] at d;simp[q8 h xs n p (by lia)]
theorem q8(h:Hp):∀(xs:List W)(n:Nat),cF xs=true->bA xs<=n->gT h n xs=some xs
 |[],n,_,_=>by simp
 |x::xs,n,p,d=>by
  simp only[cF,aq] at p;simp only[bA] at d;simp[zt h x n p.1 (by lia),q8 h xs n p.2 (by lia)]
end
mutual
theorem wW:∀(w:W),w.pure=true->bz w w=true
 |.ah,_=>by simp
 |.bl _,_=>by simp
 |.int _,_=>by simp
 |.str _,_=>by simp
 |.ref _,p=>by simp[W.pure] at p
 |.lst _,p=>by simp[W.pure] at p
 |.tup xs,p=>by
  simp only[W.pure] at p;simp[uD xs p]
theorem uD:∀(xs:List W),cF xs=true->oY xs xs=true
 |[],_=>by simp
 |x::xs,p=>by
  simp only[cF,aq] at p;simp[wW x p.1,uD xs p.2]
end
theorem eZ:∀k:Kd,k.ae.pure=true
 |.num=>rfl
 |.tru=>rfl
 |.any _=>rfl
 |.gap _=>rfl
 |.row k=>by simp[Kd.ae,W.pure,cF,eZ k]
 |.pair a b=>by simp[Kd.ae,W.pure,cF,eZ a,eZ b]
 |.work a b=>by simp[Kd.ae,W.pure,cF,eZ a,eZ b]
theorem eV:∀k:Kd,k.ae.deep<=k.depth+1
 |.num=>by simp[Kd.ae,W.deep,bA]
 |.tru=>by simp[Kd.ae,W.deep,bA]
 |.any _=>by simp[Kd.ae,W.deep,bA]
 |.gap _=>by simp[Kd.ae,W.deep,bA]
 |.row k=>by have:=eV k;simp[Kd.ae,W.deep,bA,Kd.depth];lia
 |.pair a b=>by have:=eV a;have:=eV b;simp[Kd.ae,W.deep,bA,Kd.depth];lia
 |.work a b=>by have:=eV a;have:=eV b;simp[Kd.ae,W.deep,bA,Kd.depth];lia
theorem qf{h:Hp}{a:Nat}{ws:List W}(e:h[a]?=some (.lst ws))(p:cF ws=true)(d:bA ws<=899):
  dB (h++[O.lst []]) (.ref a) (.ref h.length)=some ws.isEmpty:=by
 have e2:=aK [O.lst []] e;simp only[dB,cS,e2,bf,C8,q8 _ ws 899 p d];cases ws<;>simp
theorem map_pure:∀l:List Kd,cF (l.map Kd.ae)=true
 |[]=>rfl
 |k::r=>by simp[cF,eZ k,map_pure r]
theorem xJ(n:Nat):∀l:List Kd,(∀k∈l,k.depth<=n)->bA (l.map Kd.ae)<=n+1
 |[],_=>by simp[bA]
 |k::r,h=>by
  have h1:=eV k;have h2:=h k nh;have h3:=xJ n r fun x hx=>h x (jc _ hx);simp only[fJ,bA];lia
end Tw
namespace K06
open Tw
noncomputable abbrev gS:List (S×Int):=[([99,97,108,108],2),([98,111,116,104],2),([108,101,102,116],1),([114,105,103,104,116],1),([109,111,114,101],2),([102,111,108,100],3),([105,102],1),([115,117,109],2),([108,101,115,115],2),([108,105,107,101,112,97,105,114],2),([108,105,107,101,114,111,119],1)]
abbrev m5:Nat:=0
abbrev dF:Nat:=1
abbrev hJ:Nat:=2
abbrev pS:Nat:=3
abbrev qR:Nat:=4
abbrev iU:Nat:=5
abbrev qM:Nat:=6
abbrev f9:Nat:=7
abbrev jS:Nat:=8
abbrev gG:Nat:=9
abbrev kY:Nat:=10
abbrev ka:Nat:=11
abbrev bh:Nat:=12
abbrev gA:Nat:=13
abbrev oA:Nat:=14
abbrev lU:Nat:=15
abbrev bW:Nat:=16
abbrev mj:Nat:=17
abbrev mr:Nat:=18
abbrev jL:Nat:=19
abbrev fQ:Nat:=20
abbrev gQ:Nat:=21
abbrev eW:Nat:=22
abbrev fc:Nat:=23
abbrev eA:Nat:=24
abbrev gN:Nat:=25
abbrev fG:Nat:=26
abbrev dI:Nat:=27
abbrev gI:Nat:=28
abbrev zN:Nat:=29
abbrev iS:Nat:=30
abbrev aU:Nat:=31
abbrev iE:Nat:=32
abbrev hW:Nat:=33
abbrev iI:Nat:=34
abbrev eS:Nat:=35
abbrev kL:Nat:=36
abbrev bg:Nat:=37
abbrev cw:Nat:=38
abbrev hU:Nat:=39
abbrev kH:Nat:=40
abbrev jn:Nat:=41
abbrev gv:Nat:=42
abbrev uX:Nat:=43
noncomputable def sL:Fn:=⟨1,1,[
 .iff (.cmp .eq (.idx (.var 0) (.cst (.int 0))) (.cst (.str [102,117,110]))) [.ret (.sl (.var 0) (.some (.cst (.int 2))) .none)] [],
 .iff (.cmp .isin (.idx (.var 0) (.cst (.int 0))) (.cst (.tup [(.str [99,97,108,108]),(.str [98,111,116,104]),(.str [108,101,102,116]),(.str [114,105,103,104,116]),(.str [109,111,114,101]),(.str [102,111,108,100]),(.str [105,102]),(.str [115,117,109]),(.str [108,101,115,115]),(.str [108,105,107,101,112,97,105,114]),(.str [108,105,107,101,114,111,119])]))) [.ret (.sl (.var 0) (.some (.cst (.int 1))) .none)] [],
 .ret (.tup .nil)]⟩
noncomputable def o8:Fn:=⟨2,2,[
 .iff (.cmp .eq (.idx (.var 0) (.cst (.int 0))) (.cst (.str [102,117,110]))) [.ret (.tup (.cons (.cst (.str [102,117,110])) (.cons (.idx (.var 0) (.cst (.int 1))) (.cons (.idx (.var 1) (.cst (.int 0))) .nil))))] [],
 .iff (.cmp .isin (.idx (.var 0) (.cst (.int 0))) (.cst (.tup [(.str [99,97,108,108]),(.str [98,111,116,104]),(.str [108,101,102,116]),(.str [114,105,103,104,116]),(.str [109,111,114,101]),(.str [102,111,108,100]),(.str [105,102]),(.str [115,117,109]),(.str [108,101,115,115]),(.str [108,105,107,101,112,97,105,114]),(.str [108,105,107,101,114,111,119])]))) [.ret (.bin .add (.tup (.cons (.idx (.var 0) (.cst (.int 0))) .nil)) (.blt .tuple (.var 1)))] [],
 .ret (.var 0)]⟩
noncomputable def qC:E:=(.cmp .gt (.blt .len (.var 4)) (.cst (.int 0)))
noncomputable def lH:List St:=[.expr (.fB .append (.var 4) (.cons (.tup (.cons (.var 10) (.cons (.var 9) (.cons (.cst (.bl false)) .nil)))) .nil))]
def qt:List St:=[.oI 5 6 7 (.fB .pop (.var 4) .nil),.set 8 (.call m5 (.cons (.var 5) .nil)),.iff (.var 7) [.expr (.fB .append (.var 3) (.cons (.nE 2 (.cons (.var 5) (.cons (.var 6) (.cons (.call pS (.cons (.var 3) (.cons (.blt .len (.var 8)) .nil))) .nil)))) .nil))] [.expr (.fB .append (.var 4) (.cons (.tup (.cons (.var 5) (.cons (.var 6) (.cons (.cst (.bl true)) .nil)))) .nil)),.set 9 (.ite (.cmp .eq (.idx (.var 5) (.cst (.int 0))) (.cst (.str [102,117,110]))) (.bin .add (.var 6) (.lst (.cons (.idx (.var 5) (.cst (.int 1))) .nil))) (.var 6)),.for (.var 10) (.rev (.var 8)) lH]]
def vn:Fn:=⟨3,11,[
 .set 3 (.lst .nil),
 .set 4 (.lst (.cons (.tup (.cons (.var 0) (.cons (.blt .list (.var 1)) (.cons (.cst (.bl false)) .nil)))) .nil)),
 .oh qC qt,
 .ret (.fB .pop (.var 3) .nil)]⟩
noncomputable def iL:E:=(.cmp .lt (.blt .len (.var 2)) (.var 1))
noncomputable def mT:List St:=[.expr (.fB .append (.var 2) (.cons (.fB .pop (.var 0) .nil) .nil))]
def sV:Fn:=⟨2,3,[
 .set 2 (.lst .nil),
 .oh iL mT,
 .expr (.fB .rev (.var 2) .nil),
 .ret (.var 2)]⟩
noncomputable def wZ:Fn:=⟨2,4,[
 .set 2 (.call qM (.cons (.var 1) .nil)),
 .lC 3 hJ (.var 0) (.lst .nil) iU [2]]⟩
noncomputable def iM:Fn:=⟨4,4,[
 .iff (.and (.cmp .eq (.idx (.var 0) (.cst (.int 0))) (.cst (.str [118,97,114]))) (.cmp .eq (.idx (.var 0) (.cst (.int 1))) (.blt .len (.var 1)))) [.ret (.var 3)] [],
 .ret (.call dF (.cons (.var 0) (.cons (.var 2) .nil)))]⟩
noncomputable def xZ:Fn:=⟨1,1,[
 .ret (.ite (.cmp .eq (.idx (.var 0) (.cst (.int 0))) (.cst (.str [101,110,100]))) (.var 0) (.tup (.cons (.cst (.str [101,110,100])) (.cons (.var 0) (.cons (.call jS (.cons (.var 0) .nil)) .nil)))))]⟩
noncomputable def C1:Fn:=⟨1,1,[
 .ret (.ite (.cmp .eq (.idx (.var 0) (.cst (.int 0))) (.cst (.str [101,110,100]))) (.idx (.var 0) (.cst (.int 1))) (.var 0))]⟩
noncomputable def rR:Fn:=⟨1,2,[
 .lC 1 hJ (.var 0) (.lst .nil) gG []]⟩
noncomputable def gJ:Fn:=⟨3,3,[
 .ret (.ite (.cmp .eq (.idx (.var 0) (.cst (.int 0))) (.cst (.str [101,110,100]))) (.idx (.var 0) (.cst (.int 2))) (.call dF (.cons (.var 0) (.cons (.var 2) .nil))))]⟩
noncomputable def uK:Fn:=⟨2,4,[
 .set 2 (.idx (.var 1) (.cst (.int 0))),
 .iff (.cmp .eq (.var 2) (.cst (.str [99,97,108,108]))) [.ret (.call gA (.cons (.idx (.var 1) (.cst (.int 1))) (.cons (.idx (.var 1) (.cst (.int 2))) .nil)))] [],
 .iff (.cmp .isin (.var 2) (.tup (.cons (.cst (.str [108,101,102,116])) (.cons (.cst (.str [114,105,103,104,116])) .nil)))) [.set 3 (.ite (.cmp .eq (.var 2) (.cst (.str [108,101,102,116]))) (.cst (.int 1)) (.cst (.int 2))),.ret (.idx (.call bh (.cons (.idx (.var 1) (.cst (.int 1))) (.cons (.cst (.str [98,111,116,104])) .nil))) (.var 3))] [],
 .iff (.cmp .eq (.var 2) (.cst (.str [105,102]))) [.ret (.call oA (.cons (.var 1) .nil))] [],
 .iff (.cmp .eq (.var 2) (.cst (.str [102,111,108,100]))) [.ret (.call lU (.cons (.idx (.var 1) (.cst (.int 1))) (.cons (.idx (.var 1) (.cst (.int 2))) (.cons (.idx (.var 1) (.cst (.int 3))) .nil))))] [],
 .iff (.cmp .eq (.var 2) (.cst (.str [115,117,109]))) [.ret (.tup (.cons (.cst (.str [110,117,109,98,101,114])) (.cons (.bin .add (.idx (.call bh (.cons (.idx (.var 1) (.cst (.int 1))) (.cons (.cst (.str [110,117,109,98,101,114])) .nil))) (.cst (.int 1))) (.idx (.call bh (.cons (.idx (.var 1) (.cst (.int 2))) (.cons (.cst (.str [110,117,109,98,101,114])) .nil))) (.cst (.int 1)))) .nil)))] [],
 .iff (.cmp .eq (.var 2) (.cst (.str [108,101,115,115]))) [.ret (.call ka (.cons (.cmp .lt (.idx (.call bh (.cons (.idx (.var 1) (.cst (.int 1))) (.cons (.cst (.str [110,117,109,98,101,114])) .nil))) (.cst (.int 1))) (.idx (.call bh (.cons (.idx (.var 1) (.cst (.int 2))) (.cons (.cst (.str [110,117,109,98,101,114])) .nil))) (.cst (.int 1)))) .nil))] [],
 .iff (.cmp .eq (.var 2) (.cst (.str [100,101,102]))) [.ret .bad] [],
 .raise [83,116,114,97,121] [] .nil]⟩
noncomputable def yV:Fn:=⟨1,1,[
 .ret (.ite (.var 0) (.cst (.tup [(.str [121,101,115])])) (.cst (.tup [(.str [110,111])])))]⟩
noncomputable def nG:Fn:=⟨2,2,[
 .iff (.cmp .ne (.idx (.call f9 (.cons (.var 0) .nil)) (.cst (.int 0))) (.var 1)) [.raise [83,116,114,97,121] [] .nil] [],
 .ret (.call f9 (.cons (.var 0) .nil))]⟩
noncomputable def mE:Fn:=⟨2,3,[
 .set 2 (.call f9 (.cons (.var 0) .nil)),
 .iff (.cmp .eq (.idx (.var 2) (.cst (.int 0))) (.cst (.str [102,117,110]))) [.ret (.call qR (.cons (.idx (.var 2) (.cst (.int 2))) (.cons (.var 1) .nil)))] [],
 .iff (.cmp .eq (.idx (.var 2) (.cst (.int 0))) (.cst (.str [99,97,108,108]))) [.ret (.call bW (.cons (.call f9 (.cons (.idx (.var 2) (.cst (.int 1))) .nil)) (.cons (.call f9 (.cons (.idx (.var 2) (.cst (.int 2))) .nil)) (.cons (.call f9 (.cons (.var 1) .nil)) .nil))))] [],
 .raise [83,116,114,97,121] [] .nil]⟩
noncomputable def nZ:Fn:=⟨1,2,[
 .set 1 (.idx (.call f9 (.cons (.idx (.var 0) (.cst (.int 1))) .nil)) (.cst (.int 0))),
 .iff (.cmp .eq (.var 1) (.cst (.str [121,101,115]))) [.ret (.idx (.var 0) (.cst (.int 2)))] [],
 .iff (.cmp .eq (.var 1) (.cst (.str [110,111]))) [.ret (.idx (.var 0) (.cst (.int 3)))] [],
 .raise [83,116,114,97,121] [] .nil]⟩
noncomputable def mx:Fn:=⟨3,4,[
 .iff (.cmp .eq (.idx (.call f9 (.cons (.var 0) .nil)) (.cst (.int 0))) (.cst (.str [110,111,110,101]))) [.ret (.var 1)] [],
 .set 3 (.call bh (.cons (.var 0) (.cons (.cst (.str [109,111,114,101])) .nil))),
 .ret (.tup (.cons (.cst (.str [99,97,108,108])) (.cons (.tup (.cons (.cst (.str [99,97,108,108])) (.cons (.var 2) (.cons (.idx (.var 3) (.cst (.int 1))) .nil)))) (.cons (.tup (.cons (.cst (.str [102,111,108,100])) (.cons (.idx (.var 3) (.cst (.int 2))) (.cons (.var 1) (.cons (.var 2) .nil))))) .nil))))]⟩
noncomputable def jA:Fn:=⟨3,4,[
 .iff (.cmp .eq (.idx (.var 0) (.cst (.int 0))) (.cst (.str [108,105,107,101]))) [.ret (.call mr (.cons (.idx (.var 0) (.cst (.int 1))) (.cons (.var 1) (.cons (.var 2) .nil))))] [],
 .iff (.cmp .eq (.idx (.var 0) (.cst (.int 0))) (.cst (.str [108,105,107,101,114,111,119]))) [.ret (.call jL (.cons (.var 0) (.cons (.var 1) (.cons (.var 2) .nil))))] [],
 .set 3 (.call mj (.cons (.idx (.var 0) (.cst (.int 1))) (.cons (.idx (.call bh (.cons (.var 1) (.cons (.cst (.str [98,111,116,104])) .nil))) (.cst (.int 1))) (.cons (.idx (.call bh (.cons (.var 2) (.cons (.cst (.str [98,111,116,104])) .nil))) (.cst (.int 1))) .nil)))),
 .ret (.tup (.cons (.cst (.str [105,102])) (.cons (.var 3) (.cons (.call mj (.cons (.idx (.var 0) (.cst (.int 2))) (.cons (.idx (.var 1) (.cst (.int 2))) (.cons (.idx (.var 2) (.cst (.int 2))) .nil)))) (.cons (.cst (.tup [(.str [110,111])])) .nil)))))]⟩
noncomputable def y8:Fn:=⟨3,3,[
 .ret (.tup (.cons (.cst (.str [99,97,108,108])) (.cons (.tup (.cons (.cst (.str [99,97,108,108])) (.cons (.var 0) (.cons (.var 1) .nil)))) (.cons (.var 2) .nil))))]⟩
noncomputable def l9:Fn:=⟨3,3,[
 .iff (.cmp .eq (.idx (.var 0) (.cst (.int 0))) (.cst (.str [110,117,109,98,101,114]))) [.ret (.call ka (.cons (.cmp .eq (.idx (.call bh (.cons (.var 1) (.cons (.cst (.str [110,117,109,98,101,114])) .nil))) (.cst (.int 1))) (.idx (.call bh (.cons (.var 2) (.cons (.cst (.str [110,117,109,98,101,114])) .nil))) (.cst (.int 1)))) .nil))] [],
 .iff (.or (.cmp .notin (.idx (.var 1) (.cst (.int 0))) (.tup (.cons (.cst (.str [121,101,115])) (.cons (.cst (.str [110,111])) .nil)))) (.cmp .notin (.idx (.var 2) (.cst (.int 0))) (.tup (.cons (.cst (.str [121,101,115])) (.cons (.cst (.str [110,111])) .nil))))) [.raise [83,116,114,97,121] [] .nil] [],
 .ret (.call ka (.cons (.cmp .eq (.idx (.var 1) (.cst (.int 0))) (.idx (.var 2) (.cst (.int 0)))) .nil))]⟩
noncomputable def jJ:Fn:=⟨3,3,[
 .iff (.or (.cmp .notin (.idx (.var 1) (.cst (.int 0))) (.tup (.cons (.cst (.str [110,111,110,101])) (.cons (.cst (.str [109,111,114,101])) .nil)))) (.cmp .notin (.idx (.var 2) (.cst (.int 0))) (.tup (.cons (.cst (.str [110,111,110,101])) (.cons (.cst (.str [109,111,114,101])) .nil))))) [.raise [83,116,114,97,121] [] .nil] [],
 .iff (.or (.cmp .eq (.idx (.var 1) (.cst (.int 0))) (.cst (.str [110,111,110,101]))) (.cmp .eq (.idx (.var 2) (.cst (.int 0))) (.cst (.str [110,111,110,101])))) [.ret (.call ka (.cons (.cmp .eq (.idx (.var 1) (.cst (.int 0))) (.idx (.var 2) (.cst (.int 0)))) .nil))] [],
 .ret (.tup (.cons (.cst (.str [105,102])) (.cons (.call mj (.cons (.idx (.var 0) (.cst (.int 1))) (.cons (.idx (.var 1) (.cst (.int 1))) (.cons (.idx (.var 2) (.cst (.int 1))) .nil)))) (.cons (.call mj (.cons (.var 0) (.cons (.idx (.var 1) (.cst (.int 2))) (.cons (.idx (.var 2) (.cst (.int 2))) .nil)))) (.cons (.cst (.tup [(.str [110,111])])) .nil)))))]⟩
noncomputable def lu:Fn:=⟨1,1,[
 .iff (.cmp .eq (.idx (.var 0) (.cst (.int 0))) (.cst (.str [99,97,108,108]))) [.ret (.cmp .isin (.idx (.call f9 (.cons (.idx (.var 0) (.cst (.int 1))) .nil)) (.cst (.int 0))) (.cst (.tup [(.str [108,105,107,101]),(.str [108,105,107,101,112,97,105,114]),(.str [108,105,107,101,114,111,119])])))] [],
 .iff (.cmp .eq (.idx (.var 0) (.cst (.int 0))) (.cst (.str [108,105,107,101]))) [.ret (.cmp .isin (.idx (.var 0) (.cst (.int 1))) (.tup (.cons (.cst (.tup [(.str [110,117,109,98,101,114])])) (.cons (.cst (.tup [(.str [116,114,117,116,104])])) .nil))))] [],
 .ret (.cmp .isin (.idx (.var 0) (.cst (.int 0))) (.cst (.tup [(.str [110,117,109,98,101,114]),(.str [121,101,115]),(.str [110,111]),(.str [110,111,110,101]),(.str [102,117,110]),(.str [98,111,116,104]),(.str [109,111,114,101]),(.str [108,105,107,101,112,97,105,114]),(.str [108,105,107,101,114,111,119]),(.str [101,110,100])])))]⟩
noncomputable def qu:Fn:=⟨3,3,[
 .ret (.bin .add (.bin .add (.sl (.var 0) .none (.some (.var 1))) (.tup (.cons (.var 2) .nil))) (.sl (.var 0) (.some (.bin .add (.var 1) (.cst (.int 1)))) .none))]⟩
noncomputable def kG:Fn:=⟨2,2,[
 .fput (.var 0) [112,97,114,116] (.var 1),
 .fput (.var 0) [97,114,111,117,110,100] (.lst .nil),
 .expr (.own (.var 0) [82,101,99,107,111,110,105,110,103] [115,101,101,107] fc .nil)]⟩
noncomputable def i6:E:=(.and (.call fQ (.cons (.fld (.var 0) [112,97,114,116]) .nil)) (.cmp .gt (.blt .len (.fld (.var 0) [97,114,111,117,110,100])) (.cst (.int 0))))
noncomputable def i5:List St:=[.expr (.own (.var 0) [82,101,99,107,111,110,105,110,103] [108,101,97,118,101] gN .nil)]
def kM:Fn:=⟨1,1,[
 .expr (.own (.var 0) [82,101,99,107,111,110,105,110,103] [101,110,116,101,114] eA .nil),
 .oh i6 i5]⟩
def iN:E:=(.rC (.idx (.fld (.var 0) [112,97,114,116]) (.cst (.int 0))) gS)
noncomputable def iO:List St:=[.expr (.fB .append (.fld (.var 0) [97,114,111,117,110,100]) (.cons (.tup (.cons (.fld (.var 0) [112,97,114,116]) (.cons (.cst (.int 1)) .nil))) .nil)),.fput (.var 0) [112,97,114,116] (.idx (.fld (.var 0) [112,97,114,116]) (.cst (.int 1)))]
def jP:Fn:=⟨1,1,[
 .oh iN iO]⟩
def jK:Fn:=⟨1,3,[
 .oC 1 2 (.fB .pop (.fld (.var 0) [97,114,111,117,110,100]) .nil),
 .set 1 (.call gQ (.cons (.var 1) (.cons (.var 2) (.cons (.fld (.var 0) [112,97,114,116]) .nil)))),
 .iff (.cmp .lt (.var 2) (.sD (.idx (.var 1) (.cst (.int 0))) gS)) [.expr (.fB .append (.fld (.var 0) [97,114,111,117,110,100]) (.cons (.tup (.cons (.var 1) (.cons (.bin .add (.var 2) (.cst (.int 1))) .nil))) .nil)),.fput (.var 0) [112,97,114,116] (.idx (.var 1) (.bin .add (.var 2) (.cst (.int 1)))),.expr (.own (.var 0) [82,101,99,107,111,110,105,110,103] [101,110,116,101,114] eA .nil)] [.fput (.var 0) [112,97,114,116] (.var 1)]]⟩
noncomputable def i4:Fn:=⟨1,1,[
 .ret (.and (.cmp .eq (.blt .len (.fld (.var 0) [97,114,111,117,110,100])) (.cst (.int 0))) (.call fQ (.cons (.fld (.var 0) [112,97,114,116]) .nil)))]⟩
noncomputable def i7:Fn:=⟨2,2,[
 .fput (.var 0) [112,97,114,116] (.call kY (.cons (.var 1) (.cons (.fld (.var 0) [112,97,114,116]) .nil)))]⟩
noncomputable def dj:List St:=[.set 1 (.call gQ (.cons (.var 2) (.cons (.var 3) (.cons (.var 1) .nil))))]
def jN:Fn:=⟨1,4,[
 .set 1 (.fld (.var 0) [112,97,114,116]),
 .for (.two 2 3) (.rev (.fld (.var 0) [97,114,111,117,110,100])) dj,
 .ret (.call jS (.cons (.var 1) .nil))]⟩
noncomputable def wJ:E:=(.not (.own (.var 3) [82,101,99,107,111,110,105,110,103] [105,115,95,100,111,110,101] fG .nil))
noncomputable def vP:List St:=[.iff (.cmp .ge (.var 4) (.var 2)) [.raise [84,111,111,76,111,110,103] [] .nil] [],.expr (.own (.var 3) [82,101,99,107,111,110,105,110,103] [97,100,118,97,110,99,101] dI (.cons (.var 0) .nil)),.expr (.own (.var 3) [82,101,99,107,111,110,105,110,103] [115,101,101,107] fc .nil),.aug 4 .add (.cst (.int 1))]
def FQ:Fn:=⟨3,5,[
 .set 3 (.mk [82,101,99,107,111,110,105,110,103] eW (.cons (.var 1) .nil)),
 .set 4 (.cst (.int 0)),
 .oh wJ vP,
 .ret (.own (.var 3) [82,101,99,107,111,110,105,110,103] [119,104,111,108,101] gI .nil)]⟩
noncomputable def nV:Fn:=⟨1,1,[
 .fput (.var 0) [100,101,102,105,110,105,116,105,111,110,115] (.lst .nil),
 .fput (.var 0) [110,117,109,98,101,114,115] (.fD .nil)]⟩
noncomputable def wX:Fn:=⟨2,3,[
 .set 2 (.ite (.cmp .ne (.idx (.var 0) (.cst (.int 1))) (.lst .nil)) (.idx (.idx (.var 0) (.cst (.int 1))) (.bin .mod (.idx (.var 0) (.cst (.int 2))) (.blt .len (.idx (.var 0) (.cst (.int 1)))))) (.cst (.int 0))),
 .put (.var 0) (.cst (.int 0)) (.bin .mod (.bin .add (.bin .add (.bin .mul (.idx (.var 0) (.cst (.int 0))) (.cst (.int 48271))) (.bin .mul (.var 2) (.cst (.int 69621)))) (.cst (.int 11))) (.cst (.int 2147483647))),
 .put (.var 0) (.cst (.int 2)) (.bin .add (.idx (.var 0) (.cst (.int 2))) (.cst (.int 1))),
 .ret (.bin .mod (.bin .fdiv (.idx (.var 0) (.cst (.int 0))) (.cst (.int 7))) (.var 1))]⟩
noncomputable def sx:Fn:=⟨1,2,[
 .set 1 (.lst (.cons (.bin .sub (.call aU (.cons (.var 0) (.cons (.cst (.int 14)) .nil))) (.cst (.int 5))) (.cons (.bin .sub (.call aU (.cons (.var 0) (.cons (.cst (.int 2000)) .nil))) (.cst (.int 1000))) (.cons (.call aU (.cons (.var 0) (.cons (.cst (.int 4)) .nil))) .nil)))),
 .iff (.cmp .ne (.idx (.var 0) (.cst (.int 1))) (.lst .nil)) [.expr (.fB .append (.var 1) (.cons (.bin .sub (.bin .mod (.idx (.idx (.var 0) (.cst (.int 1))) (.bin .mod (.idx (.var 0) (.cst (.int 2))) (.blt .len (.idx (.var 0) (.cst (.int 1)))))) (.bin .pow (.cst (.int 10)) (.cst (.int 59)))) (.bin .pow (.cst (.int 10)) (.cst (.int 30)))) .nil))] [],
 .ret (.idx (.var 1) (.call aU (.cons (.var 0) (.cons (.blt .len (.var 1)) .nil))))]⟩
noncomputable def v8:Fn:=⟨3,5,[
 .set 3 (.call aU (.cons (.var 0) (.cons (.cst (.int 8)) .nil))),
 .iff (.and (.cmp .ne (.var 2) (.lst .nil)) (.cmp .eq (.var 3) (.cst (.int 7)))) [.ret (.tup (.cons (.cst (.str [97,110,121])) (.cons (.idx (.var 2) (.call aU (.cons (.var 0) (.cons (.blt .len (.var 2)) .nil)))) .nil)))] [],
 .iff (.or (.cmp .eq (.var 1) (.cst (.int 0))) (.cmp .lt (.var 3) (.cst (.int 3)))) [.ret (.idx (.lst (.cons (.tup (.cons (.cst (.str [110,117,109,98,101,114])) .nil)) (.cons (.tup (.cons (.cst (.str [116,114,117,116,104])) .nil)) .nil))) (.call aU (.cons (.var 0) (.cons (.cst (.int 2)) .nil))))] [],
 .set 4 (.call hW (.cons (.var 0) (.cons (.bin .sub (.var 1) (.cst (.int 1))) (.cons (.var 2) .nil)))),
 .iff (.cmp .lt (.var 3) (.cst (.int 5))) [.ret (.tup (.cons (.cst (.str [114,111,119])) (.cons (.var 4) .nil)))] [],
 .ret (.tup (.cons (.idx (.lst (.cons (.cst (.str [112,97,105,114])) (.cons (.cst (.str [119,111,114,107])) .nil))) (.bin .fdiv (.call aU (.cons (.var 0) (.cons (.cst (.int 3)) .nil))) (.cst (.int 2)))) (.cons (.var 4) (.cons (.call hW (.cons (.var 0) (.cons (.bin .sub (.var 1) (.cst (.int 1))) (.cons (.var 2) .nil)))) .nil))))]⟩
noncomputable def uS:E:=(.var 1)
noncomputable def uU:E:=(.not (.call iI (.cons (.var 1) .nil)))
def rP:Fn:=⟨1,1,[
 .iff (.cmp .isin (.idx (.var 0) (.cst (.int 0))) (.tup (.cons (.cst (.str [119,111,114,107])) (.cons (.cst (.str [97,110,121])) .nil)))) [.ret (.cst (.bl false))] [],
 .ret (.cmp .eq (.comp uS (.seq (.sl (.var 0) (.some (.cst (.int 1))) .none)) (.some uU)) (.lst .nil))]⟩
noncomputable def oM:Fn:=⟨2,2,[
 .iff (.cmp .eq (.idx (.var 1) (.cst (.int 0))) (.cst (.str [114,111,119]))) [.ret (.tup (.cons (.cst (.str [108,105,107,101,114,111,119])) (.cons (.call eS (.cons (.var 0) (.cons (.idx (.var 1) (.cst (.int 1))) .nil))) .nil)))] [],
 .iff (.cmp .eq (.idx (.var 1) (.cst (.int 0))) (.cst (.str [112,97,105,114]))) [.ret (.tup (.cons (.cst (.str [108,105,107,101,112,97,105,114])) (.cons (.call eS (.cons (.var 0) (.cons (.idx (.var 1) (.cst (.int 1))) .nil))) (.cons (.call eS (.cons (.var 0) (.cons (.idx (.var 1) (.cst (.int 2))) .nil))) .nil))))] [],
 .ret (.tup (.cons (.cst (.str [108,105,107,101])) (.cons (.var 1) .nil)))]⟩
noncomputable def yg:List St:=[.set 5 (.tup (.cons (.cst (.str [109,111,114,101])) (.cons (.call bg (.cons (.var 0) (.cons (.var 1) (.cons (.idx (.var 2) (.cst (.int 1))) (.cons (.bin .sub (.var 3) (.cst (.int 1))) .nil))))) (.cons (.var 5) .nil))))]
def qJ:Fn:=⟨4,7,[
 .iff (.cmp .eq (.idx (.var 2) (.cst (.int 0))) (.cst (.str [110,117,109,98,101,114]))) [.iff (.and (.cmp .gt (.var 3) (.cst (.int 0))) (.cmp .eq (.call aU (.cons (.var 0) (.cons (.cst (.int 2)) .nil))) (.cst (.int 0)))) [.ret (.tup (.cons (.cst (.str [115,117,109])) (.cons (.call bg (.cons (.var 0) (.cons (.var 1) (.cons (.var 2) (.cons (.bin .sub (.var 3) (.cst (.int 1))) .nil))))) (.cons (.call bg (.cons (.var 0) (.cons (.var 1) (.cons (.var 2) (.cons (.bin .sub (.var 3) (.cst (.int 1))) .nil))))) .nil))))] [],.ret (.tup (.cons (.cst (.str [110,117,109,98,101,114])) (.cons (.call iE (.cons (.var 0) .nil)) .nil)))] [],
 .iff (.cmp .eq (.idx (.var 2) (.cst (.int 0))) (.cst (.str [116,114,117,116,104]))) [.iff (.and (.cmp .gt (.var 3) (.cst (.int 0))) (.cmp .eq (.call aU (.cons (.var 0) (.cons (.cst (.int 2)) .nil))) (.cst (.int 0)))) [.set 4 (.tup (.cons (.cst (.str [110,117,109,98,101,114])) .nil)),.ret (.tup (.cons (.cst (.str [108,101,115,115])) (.cons (.call bg (.cons (.var 0) (.cons (.var 1) (.cons (.var 4) (.cons (.bin .sub (.var 3) (.cst (.int 1))) .nil))))) (.cons (.call bg (.cons (.var 0) (.cons (.var 1) (.cons (.var 4) (.cons (.bin .sub (.var 3) (.cst (.int 1))) .nil))))) .nil))))] [],.ret (.idx (.lst (.cons (.tup (.cons (.cst (.str [121,101,115])) .nil)) (.cons (.tup (.cons (.cst (.str [110,111])) .nil)) .nil))) (.call aU (.cons (.var 0) (.cons (.cst (.int 2)) .nil))))] [],
 .iff (.cmp .eq (.idx (.var 2) (.cst (.int 0))) (.cst (.str [112,97,105,114]))) [.ret (.tup (.cons (.cst (.str [98,111,116,104])) (.cons (.call bg (.cons (.var 0) (.cons (.var 1) (.cons (.idx (.var 2) (.cst (.int 1))) (.cons (.bin .sub (.var 3) (.cst (.int 1))) .nil))))) (.cons (.call bg (.cons (.var 0) (.cons (.var 1) (.cons (.idx (.var 2) (.cst (.int 2))) (.cons (.bin .sub (.var 3) (.cst (.int 1))) .nil))))) .nil))))] [],
 .iff (.cmp .eq (.idx (.var 2) (.cst (.int 0))) (.cst (.str [114,111,119]))) [.set 5 (.tup (.cons (.cst (.str [110,111,110,101])) (.cons (.idx (.var 2) (.cst (.int 1))) .nil))),.for (.var 6) (.ml (.call aU (.cons (.var 0) (.cons (.cst (.int 3)) .nil)))) yg,.ret (.var 5)] [],
 .iff (.and (.cmp .eq (.idx (.var 2) (.cst (.int 2))) (.tup (.cons (.cst (.str [119,111,114,107])) (.cons (.idx (.var 2) (.cst (.int 1))) (.cons (.tup (.cons (.cst (.str [116,114,117,116,104])) .nil)) .nil))))) (.and (.call iI (.cons (.idx (.var 2) (.cst (.int 1))) .nil)) (.cmp .eq (.call aU (.cons (.var 0) (.cons (.cst (.int 2)) .nil))) (.cst (.int 0))))) [.ret (.call eS (.cons (.var 0) (.cons (.idx (.var 2) (.cst (.int 1))) .nil)))] [],
 .ret (.tup (.cons (.cst (.str [102,117,110])) (.cons (.idx (.var 2) (.cst (.int 1))) (.cons (.call bg (.cons (.var 0) (.cons (.bin .add (.var 1) (.lst (.cons (.idx (.var 2) (.cst (.int 1))) .nil))) (.cons (.idx (.var 2) (.cst (.int 2))) (.cons (.bin .sub (.var 3) (.cst (.int 1))) .nil))))) .nil))))]⟩
noncomputable def qv:E:=(.var 10)
noncomputable def qr:E:=(.cmp .eq (.idx (.var 1) (.bin .sub (.bin .sub (.blt .len (.var 1)) (.cst (.int 1))) (.var 10))) (.var 2))
def qH:Fn:=⟨4,10,[
 .set 4 (.call aU (.cons (.var 0) (.cons (.cst (.int 9)) .nil))),
 .set 5 (.comp qv (.ml (.blt .len (.var 1))) (.some qr)),
 .iff (.and (.cmp .ne (.var 5) (.lst .nil)) (.or (.cmp .lt (.var 4) (.cst (.int 3))) (.cmp .lt (.var 3) (.cst (.int 0))))) [.ret (.tup (.cons (.cst (.str [118,97,114])) (.cons (.idx (.var 5) (.call aU (.cons (.var 0) (.cons (.blt .len (.var 5)) .nil)))) .nil)))] [],
 .set 6 (.call hW (.cons (.var 0) (.cons (.cst (.int 1)) (.cons (.lst .nil) .nil)))),
 .iff (.or (.cmp .le (.var 3) (.cst (.int 0))) (.cmp .gt (.var 4) (.cst (.int 7)))) [.ret (.call kL (.cons (.var 0) (.cons (.var 1) (.cons (.var 2) (.cons (.var 3) .nil)))))] [],
 .iff (.cmp .eq (.var 4) (.cst (.int 3))) [.set 7 (.call bg (.cons (.var 0) (.cons (.var 1) (.cons (.tup (.cons (.cst (.str [119,111,114,107])) (.cons (.var 6) (.cons (.var 2) .nil)))) (.cons (.bin .sub (.var 3) (.cst (.int 1))) .nil))))),.ret (.tup (.cons (.cst (.str [99,97,108,108])) (.cons (.var 7) (.cons (.call bg (.cons (.var 0) (.cons (.var 1) (.cons (.var 6) (.cons (.bin .sub (.var 3) (.cst (.int 1))) .nil))))) .nil))))] [],
 .iff (.cmp .eq (.var 4) (.cst (.int 4))) [.set 7 (.call bg (.cons (.var 0) (.cons (.var 1) (.cons (.tup (.cons (.cst (.str [116,114,117,116,104])) .nil)) (.cons (.bin .sub (.var 3) (.cst (.int 1))) .nil))))),.ret (.tup (.cons (.cst (.str [105,102])) (.cons (.var 7) (.cons (.call bg (.cons (.var 0) (.cons (.var 1) (.cons (.var 2) (.cons (.bin .sub (.var 3) (.cst (.int 1))) .nil))))) (.cons (.call bg (.cons (.var 0) (.cons (.var 1) (.cons (.var 2) (.cons (.bin .sub (.var 3) (.cst (.int 1))) .nil))))) .nil)))))] [],
 .iff (.cmp .eq (.var 4) (.cst (.int 5))) [.set 8 (.call bg (.cons (.var 0) (.cons (.var 1) (.cons (.tup (.cons (.cst (.str [114,111,119])) (.cons (.var 6) .nil))) (.cons (.bin .sub (.var 3) (.cst (.int 1))) .nil))))),.set 9 (.call bg (.cons (.var 0) (.cons (.var 1) (.cons (.var 2) (.cons (.bin .sub (.var 3) (.cst (.int 1))) .nil))))),.ret (.tup (.cons (.cst (.str [102,111,108,100])) (.cons (.var 8) (.cons (.var 9) (.cons (.call bg (.cons (.var 0) (.cons (.var 1) (.cons (.tup (.cons (.cst (.str [119,111,114,107])) (.cons (.var 6) (.cons (.tup (.cons (.cst (.str [119,111,114,107])) (.cons (.var 2) (.cons (.var 2) .nil)))) .nil)))) (.cons (.bin .sub (.var 3) (.cst (.int 1))) .nil))))) .nil)))))] [],
 .iff (.cmp .eq (.var 4) (.cst (.int 6))) [.ret (.tup (.cons (.cst (.str [108,101,102,116])) (.cons (.call bg (.cons (.var 0) (.cons (.var 1) (.cons (.tup (.cons (.cst (.str [112,97,105,114])) (.cons (.var 2) (.cons (.var 6) .nil)))) (.cons (.bin .sub (.var 3) (.cst (.int 1))) .nil))))) .nil)))] [],
 .iff (.cmp .eq (.var 4) (.cst (.int 7))) [.ret (.tup (.cons (.cst (.str [114,105,103,104,116])) (.cons (.call bg (.cons (.var 0) (.cons (.var 1) (.cons (.tup (.cons (.cst (.str [112,97,105,114])) (.cons (.var 6) (.cons (.var 2) .nil)))) (.cons (.bin .sub (.var 3) (.cst (.int 1))) .nil))))) .nil)))] [],
 .ret (.call kL (.cons (.var 0) (.cons (.var 1) (.cons (.var 2) (.cons (.var 3) .nil)))))]⟩
noncomputable def xV:E:=(.var 2)
noncomputable def wL:E:=(.not (.call cw (.cons (.var 2) .nil)))
def uh:Fn:=⟨1,2,[
 .iff (.cmp .isin (.idx (.var 0) (.cst (.int 0))) (.tup (.cons (.cst (.str [110,117,109,98,101,114])) (.cons (.cst (.str [121,101,115])) (.cons (.cst (.str [110,111])) (.cons (.cst (.str [110,111,110,101])) (.cons (.cst (.str [108,105,107,101])) (.cons (.cst (.str [102,117,110])) .nil)))))))) [.ret (.cst (.bl true))] [],
 .iff (.cmp .isin (.idx (.var 0) (.cst (.int 0))) (.tup (.cons (.cst (.str [98,111,116,104])) (.cons (.cst (.str [109,111,114,101])) (.cons (.cst (.str [108,105,107,101,112,97,105,114])) (.cons (.cst (.str [108,105,107,101,114,111,119])) .nil)))))) [.ret (.cmp .eq (.comp xV (.seq (.sl (.var 0) (.some (.cst (.int 1))) .none)) (.some wL)) (.lst .nil))] [],
 .set 1 (.and (.cmp .eq (.idx (.var 0) (.cst (.int 0))) (.cst (.str [99,97,108,108]))) (.cmp .isin (.idx (.idx (.var 0) (.cst (.int 1))) (.cst (.int 0))) (.tup (.cons (.cst (.str [108,105,107,101])) (.cons (.cst (.str [108,105,107,101,112,97,105,114])) (.cons (.cst (.str [108,105,107,101,114,111,119])) .nil)))))),
 .ret (.and (.var 1) (.and (.call cw (.cons (.idx (.var 0) (.cst (.int 1))) .nil)) (.call cw (.cons (.idx (.var 0) (.cst (.int 2))) .nil))))]⟩
noncomputable def yk:E:=(.call hU (.cons (.var 3) (.cons (.var 1) (.cons (.var 2) .nil))))
def xi:Fn:=⟨3,3,[
 .iff (.cmp .eq (.idx (.var 0) (.cst (.int 0))) (.cst (.str [118,97,114]))) [.ret (.ite (.cmp .eq (.idx (.var 0) (.cst (.int 1))) (.var 1)) (.var 2) (.var 0))] [],
 .iff (.cmp .eq (.idx (.var 0) (.cst (.int 0))) (.cst (.str [102,117,110]))) [.ret (.tup (.cons (.cst (.str [102,117,110])) (.cons (.idx (.var 0) (.cst (.int 1))) (.cons (.call hU (.cons (.idx (.var 0) (.cst (.int 2))) (.cons (.bin .add (.var 1) (.cst (.int 1))) (.cons (.var 2) .nil)))) .nil))))] [],
 .iff (.cmp .isin (.idx (.var 0) (.cst (.int 0))) (.tup (.cons (.cst (.str [110,117,109,98,101,114])) (.cons (.cst (.str [121,101,115])) (.cons (.cst (.str [110,111])) (.cons (.cst (.str [100,101,102])) (.cons (.cst (.str [110,111,110,101])) (.cons (.cst (.str [108,105,107,101])) .nil)))))))) [.ret (.var 0)] [],
 .ret (.bin .add (.tup (.cons (.idx (.var 0) (.cst (.int 0))) .nil)) (.blt .tuple (.comp yk (.seq (.sl (.var 0) (.some (.cst (.int 1))) .none)) .none)))]⟩
noncomputable def oG:Fn:=⟨3,6,[
 .set 3 (.tup (.cons (.cst (.str [110,111])) .nil)),
 .iff (.cmp .eq (.idx (.var 0) (.cst (.int 0))) (.cst (.str [108,105,107,101]))) [.ret (.idx (.lst (.cons (.var 3) (.cons (.tup (.cons (.cst (.str [121,101,115])) .nil)) .nil))) (.blt .int (.cmp .eq (.var 1) (.var 2))))] [],
 .iff (.and (.cmp .eq (.idx (.var 0) (.cst (.int 0))) (.cst (.str [108,105,107,101,114,111,119]))) (.or (.cmp .eq (.idx (.var 1) (.cst (.int 0))) (.cst (.str [110,111,110,101]))) (.cmp .eq (.idx (.var 2) (.cst (.int 0))) (.cst (.str [110,111,110,101]))))) [.ret (.idx (.lst (.cons (.var 3) (.cons (.tup (.cons (.cst (.str [121,101,115])) .nil)) .nil))) (.blt .int (.cmp .eq (.idx (.var 1) (.cst (.int 0))) (.idx (.var 2) (.cst (.int 0))))))] [],
 .set 4 (.ite (.cmp .eq (.idx (.var 0) (.cst (.int 0))) (.cst (.str [108,105,107,101,112,97,105,114]))) (.idx (.var 0) (.cst (.int 2))) (.var 0)),
 .set 5 (.tup (.cons (.cst (.str [99,97,108,108])) (.cons (.tup (.cons (.cst (.str [99,97,108,108])) (.cons (.idx (.var 0) (.cst (.int 1))) (.cons (.idx (.var 1) (.cst (.int 1))) .nil)))) (.cons (.idx (.var 2) (.cst (.int 1))) .nil)))),
 .ret (.tup (.cons (.cst (.str [105,102])) (.cons (.var 5) (.cons (.tup (.cons (.cst (.str [99,97,108,108])) (.cons (.tup (.cons (.cst (.str [99,97,108,108])) (.cons (.var 4) (.cons (.idx (.var 1) (.cst (.int 2))) .nil)))) (.cons (.idx (.var 2) (.cst (.int 2))) .nil)))) (.cons (.var 3) .nil)))))]⟩
noncomputable def mq:List St:=[.iff (.not (.call cw (.cons (.idx (.var 0) (.var 2)) .nil))) [.ret (.bin .add (.bin .add (.sl (.var 0) .none (.some (.var 2))) (.tup (.cons (.call jn (.cons (.idx (.var 0) (.var 2)) .nil)) .nil))) (.sl (.var 0) (.some (.bin .add (.var 2) (.cst (.int 1)))) .none))] []]
def lM:Fn:=⟨1,4,[
 .set 1 (.ite (.cmp .eq (.idx (.var 0) (.cst (.int 0))) (.cst (.str [105,102]))) (.cst (.int 1)) (.bin .sub (.blt .len (.var 0)) (.cst (.int 1)))),
 .for (.var 2) (.tm (.cst (.int 1)) (.bin .add (.var 1) (.cst (.int 1)))) mq,
 .set 3 (.idx (.var 0) (.cst (.int 0))),
 .iff (.and (.cmp .eq (.var 3) (.cst (.str [99,97,108,108]))) (.cmp .eq (.idx (.idx (.var 0) (.cst (.int 1))) (.cst (.int 0))) (.cst (.str [102,117,110])))) [.ret (.call hU (.cons (.idx (.idx (.var 0) (.cst (.int 1))) (.cst (.int 2))) (.cons (.cst (.int 0)) (.cons (.idx (.var 0) (.cst (.int 2))) .nil))))] [],
 .iff (.cmp .eq (.var 3) (.cst (.str [99,97,108,108]))) [.ret (.call kH (.cons (.idx (.idx (.var 0) (.cst (.int 1))) (.cst (.int 1))) (.cons (.idx (.idx (.var 0) (.cst (.int 1))) (.cst (.int 2))) (.cons (.idx (.var 0) (.cst (.int 2))) .nil))))] [],
 .iff (.cmp .isin (.var 3) (.tup (.cons (.cst (.str [108,101,102,116])) (.cons (.cst (.str [114,105,103,104,116])) .nil)))) [.ret (.idx (.idx (.var 0) (.cst (.int 1))) (.bin .add (.cst (.int 1)) (.blt .int (.cmp .eq (.var 3) (.cst (.str [114,105,103,104,116]))))))] [],
 .iff (.cmp .eq (.var 3) (.cst (.str [105,102]))) [.ret (.ite (.cmp .eq (.idx (.var 0) (.cst (.int 1))) (.tup (.cons (.cst (.str [121,101,115])) .nil))) (.idx (.var 0) (.cst (.int 2))) (.idx (.var 0) (.cst (.int 3))))] [],
 .iff (.and (.cmp .eq (.var 3) (.cst (.str [102,111,108,100]))) (.cmp .eq (.idx (.idx (.var 0) (.cst (.int 1))) (.cst (.int 0))) (.cst (.str [110,111,110,101])))) [.ret (.idx (.var 0) (.cst (.int 2)))] [],
 .iff (.cmp .eq (.var 3) (.cst (.str [102,111,108,100]))) [.ret (.tup (.cons (.cst (.str [99,97,108,108])) (.cons (.tup (.cons (.cst (.str [99,97,108,108])) (.cons (.idx (.var 0) (.cst (.int 3))) (.cons (.idx (.idx (.var 0) (.cst (.int 1))) (.cst (.int 1))) .nil)))) (.cons (.tup (.cons (.cst (.str [102,111,108,100])) (.cons (.idx (.idx (.var 0) (.cst (.int 1))) (.cst (.int 2))) (.cons (.idx (.var 0) (.cst (.int 2))) (.cons (.idx (.var 0) (.cst (.int 3))) .nil))))) .nil))))] [],
 .iff (.cmp .eq (.var 3) (.cst (.str [115,117,109]))) [.ret (.tup (.cons (.cst (.str [110,117,109,98,101,114])) (.cons (.bin .add (.idx (.idx (.var 0) (.cst (.int 1))) (.cst (.int 1))) (.idx (.idx (.var 0) (.cst (.int 2))) (.cst (.int 1)))) .nil)))] [],
 .ret (.idx (.lst (.cons (.tup (.cons (.cst (.str [110,111])) .nil)) (.cons (.tup (.cons (.cst (.str [121,101,115])) .nil)) .nil))) (.blt .int (.cmp .lt (.idx (.idx (.var 0) (.cst (.int 1))) (.cst (.int 1))) (.idx (.idx (.var 0) (.cst (.int 2))) (.cst (.int 1))))))]⟩
noncomputable def p5:Fn:=⟨2,3,[
 .qG [.vM zN (.cons (.mk [83,104,101,108,102] iS .nil) (.cons (.var 0) (.cons (.var 1) .nil)))] [([77,101,101,116,69,114,114,111,114],[[83,116,114,97,121],[84,111,111,76,111,110,103]],2,[.wb (.or (.iW (.var 2) [[82,101,102,117,115,101,100]] [[83,116,114,97,121],[84,111,111,76,111,110,103]] []) (.not (.iW (.var 2) [[86,97,108,117,101,69,114,114,111,114]] [[83,116,114,97,121],[84,111,111,76,111,110,103]] [[83,116,114,97,121],[84,111,111,76,111,110,103]]))) (.cst (.str [111,116,104,101,114])),.wb (.iW (.var 2) [[84,111,111,76,111,110,103]] [[83,116,114,97,121],[84,111,111,76,111,110,103]] [[84,111,111,76,111,110,103]]) (.ite (.iW (.var 2) [[83,116,114,97,121]] [[83,116,114,97,121],[84,111,111,76,111,110,103]] [[83,116,114,97,121]]) (.cst (.str [98,111,116,104])) (.cst (.str [116,111,111,32,108,111,110,103]))),.ret (.ite (.iW (.var 2) [[83,116,114,97,121]] [[83,116,114,97,121],[84,111,111,76,111,110,103]] [[83,116,114,97,121]]) (.cst (.str [115,116,114,97,121])) (.cst (.str [111,116,104,101,114])))])]]⟩
noncomputable def vA:E:=(.and (.cmp .lt (.var 4) (.cst (.int 80))) (.not (.call cw (.cons (.var 3) .nil))))
noncomputable def xT:List St:=[.set 3 (.call jn (.cons (.var 3) .nil)),.set 4 (.bin .add (.var 4) (.cst (.int 1)))]
def sJ:Fn:=⟨1,8,[
 .set 1 (.lst (.cons (.cst (.int 23)) (.cons (.blt .list (.var 0)) (.cons (.cst (.int 0)) .nil)))),
 .set 2 (.call bg (.cons (.var 1) (.cons (.lst .nil) (.cons (.call hW (.cons (.var 1) (.cons (.cst (.int 2)) (.cons (.lst .nil) .nil)))) (.cons (.cst (.int 3)) .nil))))),
 .set 3 (.var 2),
 .set 4 (.cst (.int 0)),
 .oh vA xT,
 .iff (.not (.call cw (.cons (.var 3) .nil))) [.ret (.cmp .eq (.call gv (.cons (.var 2) (.cons (.cst (.int 79)) .nil))) (.cst (.str [116,111,111,32,108,111,110,103])))] [],
 .iff (.or (.cmp .ne (.call gv (.cons (.var 2) (.cons (.var 4) .nil))) (.var 3)) (.cmp .ne (.call gv (.cons (.var 2) (.cons (.bin .add (.var 4) (.cst (.int 10))) .nil))) (.var 3))) [.ret (.cst (.bl false))] [],
 .iff (.and (.cmp .gt (.var 4) (.cst (.int 0))) (.cmp .ne (.call gv (.cons (.var 2) (.cons (.bin .sub (.var 4) (.cst (.int 1))) .nil))) (.cst (.str [116,111,111,32,108,111,110,103])))) [.ret (.cst (.bl false))] [],
 .set 5 (.tup (.cons (.cst (.str [110,117,109,98,101,114])) (.cons (.call iE (.cons (.var 1) .nil)) .nil))),
 .set 6 (.lst (.cons (.tup (.cons (.cst (.str [99,97,108,108])) (.cons (.var 5) (.cons (.var 5) .nil)))) (.cons (.tup (.cons (.cst (.str [108,101,102,116])) (.cons (.var 5) .nil))) (.cons (.tup (.cons (.cst (.str [105,102])) (.cons (.var 5) (.cons (.var 2) (.cons (.var 2) .nil))))) (.cons (.tup (.cons (.cst (.str [115,117,109])) (.cons (.var 5) (.cons (.tup (.cons (.cst (.str [121,101,115])) .nil)) .nil)))) .nil))))),
 .set 6 (.bin .add (.var 6) (.lst (.cons (.tup (.cons (.cst (.str [102,111,108,100])) (.cons (.var 5) (.cons (.var 2) (.cons (.var 2) .nil))))) (.cons (.tup (.cons (.cst (.str [114,105,103,104,116])) (.cons (.tup (.cons (.cst (.str [102,117,110])) (.cons (.tup (.cons (.cst (.str [110,117,109,98,101,114])) .nil)) (.cons (.var 2) .nil)))) .nil))) .nil)))),
 .expr (.fB .append (.var 6) (.cons (.tup (.cons (.cst (.str [99,97,108,108])) (.cons (.tup (.cons (.cst (.str [99,97,108,108])) (.cons (.tup (.cons (.cst (.str [108,105,107,101])) (.cons (.tup (.cons (.cst (.str [110,117,109,98,101,114])) .nil)) .nil))) (.cons (.var 5) .nil)))) (.cons (.idx (.lst (.cons (.tup (.cons (.cst (.str [121,101,115])) .nil)) (.cons (.tup (.cons (.cst (.str [110,111])) .nil)) .nil))) (.call aU (.cons (.var 1) (.cons (.cst (.int 2)) .nil)))) .nil)))) .nil)),
 .expr (.fB .append (.var 6) (.cons (.tup (.cons (.cst (.str [99,97,108,108])) (.cons (.tup (.cons (.cst (.str [99,97,108,108])) (.cons (.tup (.cons (.cst (.str [108,105,107,101])) (.cons (.tup (.cons (.cst (.str [116,114,117,116,104])) .nil)) .nil))) (.cons (.var 5) .nil)))) (.cons (.tup (.cons (.cst (.str [110,117,109,98,101,114])) (.cons (.idx (.var 5) (.cst (.int 1))) .nil))) .nil)))) .nil)),
 .set 7 (.idx (.var 6) (.call aU (.cons (.var 1) (.cons (.cst (.int 8)) .nil)))),
 .iff (.cmp .ne (.call gv (.cons (.var 7) (.cons (.cst (.int 0)) .nil))) (.cst (.str [116,111,111,32,108,111,110,103]))) [.ret (.cst (.bl false))] [],
 .iff (.cmp .ne (.call gv (.cons (.tup (.cons (.cst (.str [98,111,116,104])) (.cons (.var 5) (.cons (.var 7) .nil)))) (.cons (.bin .add (.bin .mul (.var 4) (.cst (.int 3))) (.cst (.int 9))) .nil))) (.cst (.str [115,116,114,97,121]))) [.ret (.cst (.bl false))] [],
 .ret (.cmp .eq (.call gv (.cons (.tup (.cons (.cst (.str [105,102])) (.cons (.tup (.cons (.cst (.str [121,101,115])) .nil)) (.cons (.var 2) (.cons (.var 7) .nil))))) (.cons (.bin .add (.var 4) (.cst (.int 1))) .nil))) (.var 3))]⟩
def T:List Fn:=[sL,o8,vn,sV,wZ,iM,xZ,C1,rR,gJ,uK,yV,nG,mE,nZ,mx,jA,y8,l9,jJ,lu,qu,kG,kM,jP,jK,i4,i7,jN,FQ,nV,wX,sx,v8,rP,oM,qJ,qH,uh,xi,oG,lM,p5,sJ]
theorem M4:T[m5]?=some sL:=rfl
theorem n8:T[dF]?=some o8:=rfl
theorem EA:T[hJ]?=some vn:=rfl
theorem Sa:T[pS]?=some sV:=rfl
theorem Fb:T[qR]?=some wZ:=rfl
theorem sG:T[iU]?=some iM:=rfl
theorem EM:T[qM]?=some xZ:=rfl
theorem Sq:T[f9]?=some C1:=rfl
theorem A7:T[jS]?=some rR:=rfl
theorem qk:T[gG]?=some gJ:=rfl
theorem uz:T[kY]?=some uK:=rfl
theorem Sl:T[ka]?=some yV:=rfl
theorem nR:T[bh]?=some nG:=rfl
theorem jj:T[gA]?=some mE:=rfl
theorem kB:T[oA]?=some nZ:=rfl
theorem je:T[lU]?=some mx:=rfl
theorem oZ:T[bW]?=some jA:=rfl
theorem Sn:T[mj]?=some y8:=rfl
theorem tJ:T[mr]?=some l9:=rfl
theorem Dz:T[jL]?=some jJ:=rfl
theorem si:T[fQ]?=some lu:=rfl
theorem MS:T[gQ]?=some qu:=rfl
theorem qS:T[eW]?=some kG:=rfl
theorem q9:T[fc]?=some kM:=rfl
theorem qp:T[eA]?=some jP:=rfl
theorem ql:T[gN]?=some jK:=rfl
theorem nU:T[fG]?=some i4:=rfl
theorem iZ:T[dI]?=some i7:=rfl
theorem qo:T[gI]?=some jN:=rfl
theorem M8:T[zN]?=some FQ:=rfl
theorem vJ:T[iS]?=some nV:=rfl
theorem RJ:T[aU]?=some wX:=rfl
theorem Bt:T[iE]?=some sx:=rfl
theorem RU:T[hW]?=some v8:=rfl
theorem jT:T[iI]?=some rP:=rfl
theorem o6:T[eS]?=some oM:=rfl
theorem kK:T[kL]?=some qJ:=rfl
theorem Ep:T[bg]?=some qH:=rfl
theorem pf:T[cw]?=some uh:=rfl
theorem kA:T[hU]?=some xi:=rfl
theorem cX:T[kH]?=some oG:=rfl
theorem jt:T[jn]?=some lM:=rfl
theorem GX:T[gv]?=some p5:=rfl
theorem Ng:T[uX]?=some sJ:=rfl
end K06
namespace Tw
def Po{α:Type}(r:R α)(Q:α->Hp->Prop)(X:Nat->Hp->Prop):Prop:=match r with
 |.ok a h=>Q a h
 |.aw a h=>X a h
 |.bad=>False
section
variable {α β:Type}{r m:R α}{k:α->Hp->R β}{Q Q':α->Hp->Prop}{X X':Nat->Hp->Prop}{a:α}{h:Hp}
theorem Po.bind{Q:β->Hp->Prop}(p:Po m (fun a h=>Po (k a h) Q X) X):Po (m.bind k) Q X:=by cases m<;>exact p
theorem Po.mono(p:Po r Q X)(q:∀a h,Q a h->Q' a h)(x:∀a h,X a h->X' a h):Po r Q' X':=by
 cases r with
 |ok a h=>exact q a h p
 |aw a h=>exact x a h p
 |bad=>exact p
theorem Po.ok(e:r=.ok a h)(q:Q a h):Po r Q X:=by rw[e];exact q
theorem Po.of{o:Option α}(e:o=some a)(q:Q a h):Po (R.of o h) Q X:=by rw[e];exact q
end
abbrev Wq:=W->Hp->Prop
abbrev Xq:=Nat->Hp->Prop
abbrev Nq:=Env->Hp->Prop
inductive wC(op:Cp)(x y:W)(h:Hp)(Q:Wq):Prop
 |of (t:Bool) (e:cmp op x y h=some t) (q:Q (.bl t) h):wC op x y h Q
theorem wC.eqs{a b:S}{h:Hp}{Q:Wq}(q:Q (.bl (decide (a=b))) h):wC .eq (.str a) (.str b) h Q:=.of _ (by simp) q
theorem wC.B8{a b:S}{h:Hp}{Q:Wq}(q:Q (.bl (!decide (a=b))) h):wC .ne (.str a) (.str b) h Q:=.of _ (by simp) q
def wB(op:Op)(x y:W)(h:Hp)(Q:Wq)(X:Xq):Prop:=match op,x,y with
 |.add,.int i,.int j=>Q (.int (i+j)) h
 |.sub,.int i,.int j=>Q (.int (i-j)) h
 |.add,.tup a,.tup b=>a.length+b.length<=SZ/\Q (.tup (a++b)) h
 |op,x,y=>Po (bin op x y h) Q X
theorem N0{op:Op}{x y:W}{h:Hp}{Q:Wq}{X:Xq}(p:wB op x y h Q X):Po (bin op x y h) Q X:=by
 unfold wB at p;split at p
 .exact p
 .exact p
 .exact Po.ok (by simp[p.1]) p.2
 .exact p
mutual
noncomputable def wE(C:Or):E->Env->Hp->Wq->Xq->Prop
 |.var i,σ,h,Q,X=>match σ[i]? with
  |some (some w)=>Q w h
  |_=>False
 |.cst w,σ,h,Q,X=>Q w h
 |.tup es,σ,h,Q,X=>wEs C es σ h (fun ws h=>Q (.tup ws) h) X
 |.lst es,σ,h,Q,X=>wEs C es σ h (fun ws h=>Q (.ref h.length) (h++[.lst ws])) X
 |.bin op a b,σ,h,Q,X=>wE C a σ h (fun x h=>wE C b σ h (fun y h=>wB op x y h Q X) X) X
 |.cmp op a b,σ,h,Q,X=>wE C a σ h (fun x h=>wE C b σ h (fun y h=>wC op x y h Q) X) X
 |.idx a b,σ,h,Q,X=>wE C a σ h (fun x h=>wE C b σ h (fun y h=>Po (idx x y h) Q X) X) X
 |.call f es,σ,h,Q,X=>wEs C es σ h (fun ws h=>Po (C f ws h) Q X) X
 |.own o c m f es,σ,h,Q,X=>wE C o σ h (fun x h=>jq x c m h=true/\wEs C es σ h (fun ws h=>Po (C f (x::ws) h) Q X) X) X
 |.fld a x,σ,h,Q,X=>wE C a σ h (fun w h=>Po (R.of (field w x h) h) Q X) X
 |.blt b a,σ,h,Q,X=>wE C a σ h (fun x h=>Po (builtin b x h) Q X) X
 |.fB m o es,σ,h,Q,X=>wE C o σ h (fun x h=>kX m x h=true/\wEs C es σ h (fun ws h=>Po (method m x ws h) Q X) X) X
 |.and a b,σ,h,Q,X=>wE C a σ h (fun x h=>match x with
  |.bl true=>wE C b σ h Q X
  |.bl false=>Q (.bl false) h
  |_=>False) X
 |.or a b,σ,h,Q,X=>wE C a σ h (fun x h=>match x with
  |.bl false=>wE C b σ h Q X
  |.bl true=>Q (.bl true) h
  |_=>False) X
 |.not a,σ,h,Q,X=>wE C a σ h (fun x h=>Po (R.of ((truth h x).map fun b=>.bl (!b)) h) Q X) X
 |.ite c a b,σ,h,Q,X=>wE C c σ h (fun x h=>match truth h x with
  |some true=>wE C a σ h Q X
  |some false=>wE C b σ h Q X
  |none=>False) X
 |.mk c f es,σ,h,Q,X=>wEs C es σ h (fun ws h=>Po (C (f+1000) (.ref h.length::ws) (h++[.ins c []])) (fun r h'=>match r with
  |.ah=>Q (.ref h.length) h'
  |_=>False) X) X
 |.uk a,σ,h,Q,X=>wE C a σ h (fun x h=>match x with
  |.bl _=>Q (.bl true) h
  |_=>False) X
 |.rC k g,σ,h,Q,X=>wE C k σ h (fun x h=>match x with
  |.str s=>Q (.bl (g.lookup s).isSome) h
  |_=>False) X
 |.sD k g,σ,h,Q,X=>wE C k σ h (fun x h=>match x with
  |.str s=>Po (R.of ((g.lookup s).map .int) h) Q X
  |_=>False) X
 |.jB k g,σ,h,Q,X=>wE C k σ h (fun x h=>match x with
  |.str s=>Q (.int ((g.lookup s).getD 0)) h
  |_=>False) X
 |e,σ,h,Q,X=>Po (af C e σ h) Q X
noncomputable def wEs(C:Or):Es->Env->Hp->(List W->Hp->Prop)->Xq->Prop
 |.nil,σ,h,Q,X=>Q [] h
 |.cons e es,σ,h,Q,X=>wE C e σ h (fun w h=>wEs C es σ h (fun ws h=>Q (w::ws) h) X) X
end
mutual
theorem ba(C:Or):∀(e:E)(σ:Env)(h:Hp)(Q:Wq)(X:Xq),wE C e σ h Q X->Po (af C e σ h) Q X
 |.var i,σ,h,Q,X,p=>by
  replace p:(match σ[i]? with|some (some w)=>Q w h|_=>False):=p;rw[yQ];split at p
  .next w e=>(try rw[e]);exact p
  .exact p.elim
 |.cst w,σ,h,Q,X,p=>p
 |.tup es,σ,h,Q,X,p=>Po.bind (iR C es σ h _ X p)
 |.lst es,σ,h,Q,X,p=>Po.bind (iR C es σ h _ X p)
 |.bin op a b,σ,h,Q,X,p=>Po.bind ((ba C a σ h _ X p).mono (fun x h p=>Po.bind ((ba C b σ h _ X p).mono (fun y h p=>N0 p) fun _ _ z=>z)) fun _ _ z=>z)
 |.cmp op a b,σ,h,Q,X,p=>Po.bind ((ba C a σ h _ X p).mono (fun x h p=>Po.bind ((ba C b σ h _ X p).mono (fun y h p=>by
   cases p with
   |of t e q=>exact Po.of (by rw[e];rfl) q) fun _ _ z=>z)) fun _ _ z=>z)
 |.idx a b,σ,h,Q,X,p=>Po.bind ((ba C a σ h _ X p).mono (fun x h p=>Po.bind (ba C b σ h _ X p)) fun _ _ z=>z)
 |.call f es,σ,h,Q,X,p=>Po.bind (iR C es σ h _ X p)
 |.own o c m f es,σ,h,Q,X,p=>Po.bind ((ba C o σ h _ X p).mono (fun x h p=>by rw[if_pos p.1];exact Po.bind (iR C es σ h _ X p.2)) fun _ _ z=>z)
 |.fld a x,σ,h,Q,X,p=>Po.bind (ba C a σ h _ X p)
 |.blt b a,σ,h,Q,X,p=>Po.bind (ba C a σ h _ X p)
 |.fB m o es,σ,h,Q,X,p=>Po.bind ((ba C o σ h _ X p).mono (fun x h p=>by rw[if_pos p.1];exact Po.bind (iR C es σ h _ X p.2)) fun _ _ z=>z)
 |.and a b,σ,h,Q,X,p=>Po.bind ((ba C a σ h _ X p).mono (fun x h p=>by
   split at p
   .exact ba C b σ h Q X p
   .exact p
   .exact p.elim) fun _ _ z=>z)
 |.or a b,σ,h,Q,X,p=>Po.bind ((ba C a σ h _ X p).mono (fun x h p=>by
   split at p
   .exact ba C b σ h Q X p
   .exact p
   .exact p.elim) fun _ _ z=>z)
 |.not a,σ,h,Q,X,p=>Po.bind (ba C a σ h _ X p)
 |.ite c a b,σ,h,Q,X,p=>Po.bind ((ba C c σ h _ X p).mono (fun x h p=>by
   split at p
   .next e=>(try rw[e]);exact ba C a σ h Q X p
   .next e=>(try rw[e]);exact ba C b σ h Q X p
   .exact p.elim) fun _ _ z=>z)
 |.mk c f es,σ,h,Q,X,p=>Po.bind ((iR C es σ h _ X p).mono (fun ws h p=>Po.bind (p.mono (fun r h' p=>by
   split at p
   .exact p
   .exact p.elim) fun _ _ z=>z)) fun _ _ z=>z)
 |.uk k,σ,h,Q,X,p=>Po.bind ((ba C k σ h _ X p).mono (fun x h p=>by
   split at p
   .exact p
   .exact p.elim) fun _ _ z=>z)
 |.rC k g,σ,h,Q,X,p=>Po.bind ((ba C k σ h _ X p).mono (fun x h p=>by
   split at p
   .exact p
   .exact p.elim) fun _ _ z=>z)
 |.sD k g,σ,h,Q,X,p=>Po.bind ((ba C k σ h _ X p).mono (fun x h p=>by
   split at p
   .exact p
   .exact p.elim) fun _ _ z=>z)
 |.jB k g,σ,h,Q,X,p=>Po.bind ((ba C k σ h _ X p).mono (fun x h p=>by
   split at p
   .exact p
   .exact p.elim) fun _ _ z=>z)
 |.fD _,_,_,_,_,p=>p
 |.sl _ _ _,_,_,_,_,p=>p
 |.comp _ _ _,_,_,_,_,p=>p
 |.bad,_,_,_,_,p=>p
 |.iW _ _ _ _,_,_,_,_,p=>p
 |.nE _ _,_,_,_,_,p=>p
theorem iR(C:Or):∀(es:Es)(σ:Env)(h:Hp)(Q:List W->Hp->Prop)(X:Xq),wEs C es σ h Q X->Po (cG C es σ h) Q X
 |.nil,σ,h,Q,X,p=>p
 |.cons e es,σ,h,Q,X,p=>Po.bind ((ba C e σ h _ X p).mono (fun x h p=>Po.bind (iR C es σ h _ X p)) fun _ _ z=>z)
end
def wF(N:Nq)(Q:Wq)(f:Fl)(h:Hp):Prop:=match f with
 |.next σ=>N σ h
 |.ret w=>Q w h
 |_=>False
mutual
noncomputable def wS(C:Or):St->Env->Hp->Nq->Wq->Xq->Prop
 |.expr e,σ,h,N,Q,X=>wE C e σ h (fun _ h=>N σ h) X
 |.ret e,σ,h,N,Q,X=>wE C e σ h Q X
 |.set i e,σ,h,N,Q,X=>wE C e σ h (fun w h=>N (σ.set i (some w)) h) X
 |.oC i j e,σ,h,N,Q,X=>wE C e σ h (fun w h=>match w with
  |.tup [u,v]=>N ((σ.set i (some u)).set j (some v)) h
  |_=>False) X
 |.oI i j k e,σ,h,N,Q,X=>wE C e σ h (fun w h=>match w with
  |.tup [u,v,w]=>N (((σ.set i (some u)).set j (some v)).set k (some w)) h
  |_=>False) X
 |.iff c a b,σ,h,N,Q,X=>wE C c σ h (fun x h=>match truth h x with
  |some true=>wSs C a σ h N Q X
  |some false=>wSs C b σ h N Q X
  |none=>False) X
 |.put o k e,σ,h,N,Q,X=>wE C e σ h (fun v h=>wE C o σ h (fun x h=>wE C k σ h (fun y h=>Po (kn x y v h) (fun _ h=>N σ h) X) X) X) X
 |.fput o x e,σ,h,N,Q,X=>wE C e σ h (fun v h=>wE C o σ h (fun w h=>Po (putField w x v h) (fun _ h=>N σ h) X) X) X
 |.raise c xs es,σ,h,N,Q,X=>wEs C es σ h (fun ws h=>ws.length=xs.length/\X h.length (h++[.aw c (xs.zip ws)])) X
 |s,σ,h,N,Q,X=>Po (dA C s σ h) (wF N Q) X
noncomputable def wSs(C:Or):List St->Env->Hp->Nq->Wq->Xq->Prop
 |[],σ,h,N,Q,X=>N σ h
 |s::r,σ,h,N,Q,X=>wS C s σ h (fun σ h=>wSs C r σ h N Q X) Q X
end
mutual
theorem NL(C:Or):∀(s:St)(σ:Env)(h:Hp)(N:Nq)(Q:Wq)(X:Xq),wS C s σ h N Q X->Po (dA C s σ h) (wF N Q) X
 |.expr e,σ,h,N,Q,X,p=>Po.bind (ba C e σ h _ X p)
 |.ret e,σ,h,N,Q,X,p=>Po.bind (ba C e σ h _ X p)
 |.set i e,σ,h,N,Q,X,p=>Po.bind (ba C e σ h _ X p)
 |.oC i j e,σ,h,N,Q,X,p=>Po.bind ((ba C e σ h _ X p).mono (fun x h p=>by
   split at p
   .exact p
   .exact p.elim) fun _ _ z=>z)
 |.oI i j k e,σ,h,N,Q,X,p=>Po.bind ((ba C e σ h _ X p).mono (fun x h p=>by
   split at p
   .exact p
   .exact p.elim) fun _ _ z=>z)
 |.iff c a b,σ,h,N,Q,X,p=>Po.bind ((ba C c σ h _ X p).mono (fun x h p=>by
   split at p
   .next e=>(try rw[e]);exact mC C a σ h N Q X p
   .next e=>(try rw[e]);exact mC C b σ h N Q X p
   .exact p.elim) fun _ _ z=>z)
 |.put o k e,σ,h,N,Q,X,p=>Po.bind ((ba C e σ h _ X p).mono (fun v h p=>Po.bind ((ba C o σ h _ X p).mono (fun x h p=>Po.bind ((ba C k σ h _ X p).mono (fun y h p=>Po.bind p) fun _ _ z=>z)) fun _ _ z=>z)) fun _ _ z=>z)
 |.fput o x e,σ,h,N,Q,X,p=>Po.bind ((ba C e σ h _ X p).mono (fun v h p=>Po.bind ((ba C o σ h _ X p).mono (fun w h p=>Po.bind p) fun _ _ z=>z)) fun _ _ z=>z)
 |.raise c xs es,σ,h,N,Q,X,p=>Po.bind ((iR C es σ h _ X p).mono (fun ws h p=>by unfold qj;rw[if_pos p.1];exact p.2) fun _ _ z=>z)
 |.for _ _ _,_,_,_,_,_,p=>p
 |.bad,_,_,_,_,_,p=>p
 |.aug _ _ _,_,_,_,_,_,p=>p
 |.oh _ _,_,_,_,_,_,p=>p
 |.qG _ _,_,_,_,_,_,p=>p
 |.lC _ _ _ _ _ _,_,_,_,_,_,p=>p
theorem mC(C:Or):∀(ss:List St)(σ:Env)(h:Hp)(N:Nq)(Q:Wq)(X:Xq),wSs C ss σ h N Q X->Po (aJ C ss σ h) (wF N Q) X
 |[],σ,h,N,Q,X,p=>p
 |s::r,σ,h,N,Q,X,p=>Po.bind ((NL C s σ h _ Q X p).mono (fun f h p=>by
   cases f with
   |next σ=>exact mC C r σ h N Q X p
   |ret w=>exact p
   |_=>exact p.elim) fun _ _ z=>z)
end
theorem wp_run{T:List Fn}{f k:Nat}{fn:Fn}{xs:List W}{h:Hp}{Q:Wq}{X:Xq}(e:T[f]?=some fn)(l:xs.length=fn.ps)(p:wSs (run T k) fn.body (xs.map some++List.replicate (fn.ns-fn.ps) none) h (fun _ h=>Q .ah h) Q X):Po (run T (k+1) f xs h) Q X:=by show Po (match T[f]? with|some fn=>eG (run T k) fn xs h|none=>run T k (f-1000) xs h) Q X;rw[e];show Po (if xs.length=fn.ps then _ else _) Q X;rw[if_pos l];refine Po.bind ((mC _ _ _ _ _ _ _ p).mono (fun f h p=>?_) fun _ _ z=>z);cases f<;>exact p
noncomputable def wT(K:Env->Hp->Nq->Wq->Xq->Prop)(t:Tg):List W->Env->Hp->Nq->Wq->Xq->Prop
 |[],σ,h,N,Q,X=>N σ h
 |x::xs,σ,h,N,Q,X=>match qW t x σ with
  |some σ1=>K σ1 h (fun σ h=>wT K t xs σ h N Q X) Q X
  |none=>False
theorem FD{C:Or}{b:List St}{t:Tg}:∀(xs:List W)(σ:Env)(h:Hp)(N:Nq)(Q:Wq)(X:Xq),wT (wSs C b) t xs σ h N Q X->Po (ku t (aJ C b) xs σ h) (wF N Q) X
 |[],σ,h,N,Q,X,p=>p
 |x::xs,σ,h,N,Q,X,p=>by
  replace p:(match qW t x σ with|some σ1=>wSs C b σ1 h (fun σ h=>wT (wSs C b) t xs σ h N Q X) Q X|none=>False):=p;rw[ku,turn];cases e:qW t x σ with
  |none=>rw[e] at p;exact p.elim
  |some σ1=>
   rw[e] at p;refine Po.bind ((mC C b σ1 h _ Q X p).mono (fun f h p=>?_) fun _ _ z=>z);cases f with
   |next σ=>exact FD xs σ h N Q X p
   |ret w=>exact p
   |_=>exact p.elim
theorem my{C:Or}{b:List St}{t:Tg}{it:It}{σ:Env}{h h1:Hp}{N:Nq}{Q:Wq}{X:Xq}{xs:List W}(e:eM C it σ h=.ok (.fix xs) h1)(p:wT (wSs C b) t xs σ h1 N Q X):Po (dA C (.for t it b) σ h) (wF N Q) X:=by rw[y7,e];exact FD xs σ h1 N Q X p
theorem Po.eq{α:Type}{r:R α}{a:α}{h:Hp}(p:Po r (fun w h'=>w=a/\h'=h) fun _ _=>False):r=.ok a h:=by
 cases r with
 |ok w h'=>obtain⟨rfl,rfl⟩:=p;rfl
 |aw=>exact p.elim
 |bad=>exact p.elim
noncomputable def wK(C:Or)(elt:E)(σ:Env):List W->List W->Hp->(List W->Hp->Prop)->Xq->Prop
 |[],acc,h,Q,X=>Q acc h
 |x::xs,acc,h,Q,X=>wE C elt (σ++[some x]) h (fun y h=>wK C elt σ xs (acc++[y]) h Q X) fun _ _=>False
theorem F6{C:Or}{elt:E}{σ:Env}:∀(xs acc:List W)(h:Hp)(Q:List W->Hp->Prop)(X:Xq),wK C elt σ xs acc h Q X->Po (gj (nD (gH C .none) (af C elt) σ) xs acc h) Q X
 |[],acc,h,Q,X,p=>p
 |x::xs,acc,h,Q,X,p=>by
  refine Po.bind ?_;show Po ((af C elt (σ++[some x]) h).fY.bind fun y h=>.ok (acc++[y]) h) _ _;have q:=(ba C elt _ h _ _ p).mono (fun y h p=>F6 xs (acc++[y]) h Q X p) fun _ _ z=>z;cases e:af C elt (σ++[some x]) h with
  |ok y h1=>rw[e] at q;exact q
  |aw _ _=>rw[e] at q;exact q.elim
  |bad=>rw[e] at q;exact q.elim
theorem uc{C:Or}{elt:E}{it:It}{σ:Env}{h h1:Hp}{Q:Wq}{X:Xq}{xs:List W}(e:eM C it σ h=.ok (.fix xs) h1)(p:wK C elt σ xs [] h1 (fun ys h=>ys.length<=SZ/\Q (.ref h.length) (h++[.lst ys])) X):Po (af C (.comp elt it .none) σ h) Q X:=by rw[nA,e];show Po ((gj (nD (gH C .none) (af C elt) σ) xs [] h1).bind gL) Q X;refine Po.bind ((F6 xs [] h1 _ X p).mono (fun ys h p=>?_) fun _ _ z=>z);unfold gL;rw[if_pos p.1];exact p.2
theorem HK{op:Op}{x y:W}{h:Hp}{Q Q':Wq}{X:Xq}(p:wB op x y h Q X)(m:∀w h,Q w h->Q' w h):wB op x y h Q' X:=by
 unfold wB at p⊢;split at p
 .exact m _ _ p
 .exact m _ _ p
 .exact⟨p.1,m _ _ p.2⟩
 .exact Po.mono p m fun _ _ z=>z
theorem wC.mono{op:Cp}{x y:W}{h:Hp}{Q Q':Wq}(p:wC op x y h Q)(m:∀w h,Q w h->Q' w h):wC op x y h Q':=by
 cases p with
 |of t e q=>exact .of t e (m _ _ q)
mutual
theorem bx(C:Or):∀(e:E)(σ:Env)(h:Hp)(Q Q':Wq)(X:Xq),wE C e σ h Q X->(∀w h,Q w h->Q' w h)->wE C e σ h Q' X
 |.var i,σ,h,Q,Q',X,p,m=>by
  show (match σ[i]? with|some (some w)=>Q' w h|_=>False);replace p:(match σ[i]? with|some (some w)=>Q w h|_=>False):=p;split at p
  .exact m _ _ p
  .exact p.elim
 |.cst w,σ,h,Q,Q',X,p,m=>m _ _ p
 |.tup es,σ,h,Q,Q',X,p,m=>ig C es σ h _ _ X p fun _ _ z=>m _ _ z
 |.lst es,σ,h,Q,Q',X,p,m=>ig C es σ h _ _ X p fun _ _ z=>m _ _ z
 |.bin op a b,σ,h,Q,Q',X,p,m=>bx C a σ h _ _ X p fun x h p=>bx C b σ h _ _ X p fun y h p=>HK p m
 |.cmp op a b,σ,h,Q,Q',X,p,m=>bx C a σ h _ _ X p fun x h p=>bx C b σ h _ _ X p fun y h p=>wC.mono p m
 |.idx a b,σ,h,Q,Q',X,p,m=>bx C a σ h _ _ X p fun x h p=>bx C b σ h _ _ X p fun y h p=>Po.mono p m fun _ _ z=>z
 |.call f es,σ,h,Q,Q',X,p,m=>ig C es σ h _ _ X p fun _ _ p=>Po.mono p m fun _ _ z=>z
 |.own o c mm f es,σ,h,Q,Q',X,p,m=>bx C o σ h _ _ X p fun x h p=>⟨p.1,ig C es σ h _ _ X p.2 fun _ _ p=>Po.mono p m fun _ _ z=>z⟩
 |.fld a x,σ,h,Q,Q',X,p,m=>bx C a σ h _ _ X p fun x h p=>Po.mono p m fun _ _ z=>z
 |.blt b a,σ,h,Q,Q',X,p,m=>bx C a σ h _ _ X p fun x h p=>Po.mono p m fun _ _ z=>z
 |.fB mm o es,σ,h,Q,Q',X,p,m=>bx C o σ h _ _ X p fun x h p=>⟨p.1,ig C es σ h _ _ X p.2 fun _ _ p=>Po.mono p m fun _ _ z=>z⟩
 |.and a b,σ,h,Q,Q',X,p,m=>bx C a σ h _ _ X p fun x h p=>by
   split at p
   .exact bx C b σ h _ _ X p m
   .exact m _ _ p
   .exact p.elim
 |.or a b,σ,h,Q,Q',X,p,m=>bx C a σ h _ _ X p fun x h p=>by
   split at p
   .exact bx C b σ h _ _ X p m
   .exact m _ _ p
   .exact p.elim
 |.not a,σ,h,Q,Q',X,p,m=>bx C a σ h _ _ X p fun x h p=>Po.mono p m fun _ _ z=>z
 |.ite c a b,σ,h,Q,Q',X,p,m=>bx C c σ h _ _ X p fun x h p=>by
   split at p
   .exact bx C a σ h _ _ X p m
   .exact bx C b σ h _ _ X p m
   .exact p.elim
 |.mk c f es,σ,h,Q,Q',X,p,m=>ig C es σ h _ _ X p fun _ _ p=>Po.mono p (fun r h' p=>by
   split at p
   .exact m _ _ p
   .exact p.elim) fun _ _ z=>z
 |.uk k,σ,h,Q,Q',X,p,m=>bx C k σ h _ _ X p fun x h p=>by
   split at p
   .exact m _ _ p
   .exact p.elim
 |.rC k g,σ,h,Q,Q',X,p,m=>bx C k σ h _ _ X p fun x h p=>by
   split at p
   .exact m _ _ p
   .exact p.elim
 |.sD k g,σ,h,Q,Q',X,p,m=>bx C k σ h _ _ X p fun x h p=>by
   split at p
   .exact Po.mono p m fun _ _ z=>z
   .exact p.elim
 |.jB k g,σ,h,Q,Q',X,p,m=>bx C k σ h _ _ X p fun x h p=>by
   split at p
   .exact m _ _ p
   .exact p.elim
 |.fD _,_,_,_,_,_,p,m=>Po.mono p m fun _ _ z=>z
 |.sl _ _ _,_,_,_,_,_,p,m=>Po.mono p m fun _ _ z=>z
 |.comp _ _ _,_,_,_,_,_,p,m=>Po.mono p m fun _ _ z=>z
 |.bad,_,_,_,_,_,p,m=>Po.mono p m fun _ _ z=>z
 |.iW _ _ _ _,_,_,_,_,_,p,m=>Po.mono p m fun _ _ z=>z
 |.nE _ _,_,_,_,_,_,p,m=>Po.mono p m fun _ _ z=>z
theorem ig(C:Or):∀(es:Es)(σ:Env)(h:Hp)(Q Q':List W->Hp->Prop)(X:Xq),wEs C es σ h Q X->(∀w h,Q w h->Q' w h)->wEs C es σ h Q' X
 |.nil,σ,h,Q,Q',X,p,m=>m _ _ p
 |.cons e es,σ,h,Q,Q',X,p,m=>bx C e σ h _ _ X p fun x h p=>ig C es σ h _ _ X p fun _ _ z=>m _ _ z
end
end Tw
namespace K06
open Tw
abbrev Mv:S:=[121,101,115]
abbrev PL:S:=[110,111]
abbrev EY:S:=[118,97,114]
abbrev Gv:S:=[110,111,110,101]
abbrev GL:S:=[108,105,107,101]
abbrev Ad:S:=[102,117,110]
abbrev xS:S:=[101,110,100]
noncomputable def T1.s:T1->S
 |.left=>[108,101,102,116]
 |.right=>[114,105,103,104,116]
 |.bQ=>[108,105,107,101,114,111,119]
noncomputable def T2.s:T2->S
 |.call=>[99,97,108,108]
 |.both=>[98,111,116,104]
 |.more=>[109,111,114,101]
 |.sum=>[115,117,109]
 |.less=>[108,101,115,115]
 |.bK=>[108,105,107,101,112,97,105,114]
noncomputable def T3.s:T3->S
 |.fold=>[102,111,108,100]
 |.aQ=>[105,102]
noncomputable def Co.ae:C->W
 |.num i=>.tup [.str ir,.int i]
 |.yes=>.tup [.str Mv]
 |.no=>.tup [.str PL]
 |.var i=>.tup [.str EY,.int i]
 |.ah k=>.tup [.str Gv,k.ae]
 |.like k=>.tup [.str GL,k.ae]
 |.fn k c=>.tup [.str Ad,k.ae,Co.ae c]
 |.n1 t a=>.tup [.str t.s,Co.ae a]
 |.n2 t a b=>.tup [.str t.s,Co.ae a,Co.ae b]
 |.n3 t a b c=>.tup [.str t.s,Co.ae a,Co.ae b,Co.ae c]
 |.en a u=>.tup [.str xS,Co.ae a,Co.ae u]
noncomputable def parts:C->List C
 |.fn _ c=>[c]
 |.n1 _ a=>[a]
 |.n2 _ a b=>[a,b]
 |.n3 _ a b c=>[a,b,c]
 |_=>[]
noncomputable def j4:C->List C->C
 |.fn k _,[c]=>.fn k c
 |.n1 t _,[a]=>.n1 t a
 |.n2 t _ _,[a,b]=>.n2 t a b
 |.n3 t _ _ _,[a,b,c]=>.n3 t a b c
 |c,_=>c
noncomputable def cu:C->Nat
 |.n1 _ _=>1
 |.n2 _ _ _=>2
 |.n3 .fold _ _ _=>3
 |.n3 .aQ _ _ _=>1
 |_=>0
noncomputable def hd:C->S
 |.num _=>ir
 |.yes=>Mv
 |.no=>PL
 |.var _=>EY
 |.ah _=>Gv
 |.like _=>GL
 |.fn _ _=>Ad
 |.n1 t _=>t.s
 |.n2 t _ _=>t.s
 |.n3 t _ _ _=>t.s
 |.en _ _=>xS
theorem qy(k:Nat)(c:C)(h:Hp):run T (k+1) m5 [Co.ae c] h=.ok (.tup ((parts c).map Co.ae)) h:=by rcases c with _|_|_|_|_|_|_|⟨_|_|_,_⟩|⟨_|_|_|_|_|_,_,_⟩|⟨_|_,_,_,_⟩|_<;>kernel_rfl
theorem ck(k:Nat)(c:C)(h:Hp):run T (k+1) f9 [Co.ae c] h=.ok (Co.ae (bare c)) h:=by rcases c with _|_|_|_|_|_|_|⟨_|_|_,_⟩|⟨_|_|_|_|_|_,_,_⟩|⟨_|_,_,_,_⟩|_<;>kernel_rfl
theorem FP:FU=2 ^ 2000:=by unfold FU;rfl
theorem ve{n:Nat}(h:n<=2000):n<FU:=by rw[FP];exact bY Nat.lt_two_pow_self (AO (by decide) h)
theorem sE{u:Or}{M:Env}{h:Hp}{i:Nat}{v:W}(e:M[i]?=some (some v)):af u (.var i) M h=.ok v h:=by simp[e]
structure ak(a l:Nat)(h h':Hp):Prop where
 len:h.length<=h'.length
 keep:∀(q:Nat)(o:O),q≠a->q≠l->h[q]?=some o->h'[q]?=some o
theorem ak.refl(a l:Nat)(h:Hp):ak a l h h:=⟨aA _,fun _ _ _ _ e=>e⟩
theorem ak.trans{a l:Nat}{h J Z:Hp}(x:ak a l h J)(y:ak a l J Z):ak a l h Z:=⟨aF x.len y.len,fun q o n m e=>y.keep q o n m (x.keep q o n m e)⟩
theorem ak.of{a l:Nat}{h h1:Hp}(x:ai h h1):ak a l h h1:=⟨x.len,fun q o _ _ e=>x.keep q o e⟩
theorem ak.set{a l p:Nat}(o:O)(h:Hp)(R:p=a\/p=l):ak a l h (h.set p o):=
 ⟨by simp,fun q u n m e=>bI (by rcases R with rfl|rfl;exact bj n;exact bj m) e⟩
theorem aX{h:Hp}{a:Nat}{o:O}(e:h[a]?=some o):a<h.length:=by
 rcases tD a h.length with q|q
 .exact q
 .rw[wx q] at e;cases e
theorem di{h:Hp}{a:Nat}{o u:O}(e:h[a]?=some o):(h.set a u)[a]?=some u:=by rw[jD (aX e)]
section
variable {C:Or}{h h1 h2 h':Hp}{q k i b d s0 p:Nat}{w s cn:S}{f v u:W}{A:List W}{σ:Env}{o:Bool}{c:E}{es:Es}
theorem Im{y:W}(e:σ[i]?=some (some (.ref q)))(f:h[q]?=some (.lst (A++[y]))):af C (.fB .pop (.var i) .nil) σ h=.ok y (h.set q (.lst A)):=by simp[e,f]
theorem Hz{y:W}{x:E}{D a:List W}(e:σ[i]?=some (some (.ref p)))(z:h[p]?=some (.lst D))(ex:af C x σ h=.ok y h1)(n:h1[p]?=some (.lst a))(g:a.length<SZ):af C (.fB .append (.var i) (.cons x .nil)) σ h=.ok .ah (h1.set p (.lst (a++[y]))):=by simp[e,z,ex,n,g]
theorem G5{x:E}{y:W}{r:List St}{z:R Fl}(e:af C x σ h=.ok y h1)(k:aJ C r σ h1=z):aJ C (.expr x::r) σ h=z:=by rw[dP,Fm,e];exact k
theorem zy{n:Nat}(hn:n<=3)(e:q≠p):∀(a D:List W)(h:Hp)(m:Nat),h[q]?=some (.lst (A++a.reverse))->h[p]?=some (.lst D)->D.length+a.length=n->
  ∃h',fq (af C iL) (aJ C mT) (m+a.length+1) [some (.ref q),some (.int n),some (.ref p)] h=.ok (.next [some (.ref q),some (.int n),some (.ref p)]) h'/\h'[q]?=some (.lst A)/\h'[p]?=some (.lst (D++a))/\ak q p h h'
 |[],D,h,m,eq,z,x=>by
  refine⟨h,?_,by simpa using eq,by simpa using z,ak.refl _ _ _⟩;have:¬ ((D.length:Int)<n):=by simp at x;lia
  simp[fq,iL,z,this]
 |y::a,D,h,m,eq,z,x=>by
  simp only[gK] at x;have g:((D.length:Int)<n):=by lia
  have B:D.length<SZ:=by simp[SZ];lia
  have j:(h.set q (.lst (A++a.reverse)))[p]?=some (.lst D):=bI e z;have K:((h.set q (.lst (A++a.reverse))).set p (.lst (D++[y])))[q]?=some (.lst (A++a.reverse)):=bI (bj e) (di eq);have t:((h.set q (.lst (A++a.reverse))).set p (.lst (D++[y])))[p]?=some (.lst (D++[y])):=di j;obtain⟨h',E,F,G,H⟩:=zy hn e a (D++[y]) _ m K t (by simp;lia);refine⟨h',?_,F,by simpa using G,(ak.set _ h (.inl rfl)).trans ((ak.set _ _ (.inr rfl)).trans H)⟩;rw[show m+(y::a).length+1=(m+a.length+1)+1 by simp;lia];have r:af C iL [some (.ref q),some (.int n),some (.ref p)] h=.ok (.bl true) h:=by simp[iL,z,g]
  have l:aJ C mT [some (.ref q),some (.int n),some (.ref p)] h=.ok (.next [some (.ref q),some (.int n),some (.ref p)]) ((h.set q (.lst (A++a.reverse))).set p (.lst (D++[y]))):=
   G5 (Hz rfl z (Im rfl (by rw[eq];simp)) j B) rfl
  rw[fq,r,R.aZ];simp only[truth,l,R.aZ];exact E
theorem D2{ks:List W}(hk:ks.length<=3)(eq:h[q]?=some (.lst (A++ks))):∃h',eG C sV [.ref q,.int ks.length] h=.ok (.ref h.length) h'/\h'[q]?=some (.lst A)/\h'[h.length]?=some (.lst ks)/\ak q h.length h h':=by
 have j:=aX eq;obtain⟨h1,e,t,a,g⟩:=zy (C:=C) (A:=A) (n:=ks.length) (q:=q) (p:=h.length) hk (by lia) ks.reverse [] (h++[.lst []]) (FU-ks.reverse.length-1) (by rw[List.reverse_reverse];exact aK _ eq) (by simp) (by simp);rw[show FU-ks.reverse.length-1+ks.reverse.length+1=FU by have:ks.reverse.length<FU:=ve (by simp;lia);lia] at e;have x:(h1.set h.length (.lst ks))[q]?=some (.lst A):=bI (by lia) t;refine⟨h1.set h.length (.lst ks),?_,x,di a,((ak.of (ai.app h [O.lst []])).trans g).trans (ak.set _ _ (.inr rfl))⟩;refine vm [some (.ref q),some (.int ks.length),none] rfl rfl (lW (w:=.ref h.length) (h':=h++[.lst []]) (by kernel_rfl) (pL (σ':=[some (.ref q),some (.int ks.length),some (.ref h.length)]) (h':=h1) ?_ (pL (σ':=[some (.ref q),some (.int ks.length),some (.ref h.length)]) (h':=h1.set h.length (.lst ks)) ?_ (iC (sE rfl)))))
 .rw[IB];exact e
 .simp only[List.nil_append] at a;simp[a]
end
theorem eO{u:Or}{c:E}{b:List St}{n:Nat}{M:Env}{h:Hp}{N:Nq}{Q:Wq}{X:Xq} (p:wE u c M h (fun x h=>match truth h x with
  |some true=>wSs u b M h (fun M h=>Po (fq (af u c) (aJ u b) n M h) (wF N Q) X) Q X
  |some false=>N M h
  |none=>False) X):Po (fq (af u c) (aJ u b) (n+1) M h) (wF N Q) X:=by
 rw[fq];refine Po.bind ((ba u c M h _ X p).mono (fun x h p=>?_) fun _ _ z=>z);split at p
 .next e=>
  (try rw[e])
  refine Po.bind ((mC _ _ _ _ _ _ _ p).mono (fun f h p=>?_) fun _ _ z=>z);cases f with
  |next M=>exact p
  |ret w=>exact p
  |brk M=>exact p.elim
  |cont M=>exact p.elim
 .next e=>(try rw[e]);exact p
 .exact p.elim
section
variable {h:Hp}{l q:Nat}{L:List W}{y x:W}{Q:Wq}{X:Xq}{P:Prop}
theorem rD(e:h[l]?=some (.lst (L++[y])))(q:Q y (h.set l (.lst L))):kX .pop (.ref l) h=true/\Po (method .pop (.ref l) [] h) Q X:=
 ⟨by simp[e],Po.ok (by simp[e]) q⟩
theorem k7(e:h[l]?=some (.lst L)):kX .append (.ref l) h=true:=by simp[e]
theorem mz(e:h[l]?=some (.lst L))(n:L.length<SZ)(q:Q .ah (h.set l (.lst (L++[x])))):Po (method .append (.ref l) [x] h) Q X:=
 Po.ok (by simp[e,n]) q
theorem gU(e:h[l]?=some (.lst L))(q:Q (.int L.length) h):Po (builtin .len (.ref l) h) Q X:=Po.ok (by simp[e]) q
theorem Iv(e:h[l]?=some (.lst L))(q:Q (.ref h.length) (h++[.lst L])):Po (builtin .list (.ref l) h) Q X:=Po.ok (by simp[e]) q
end
def inner(Q:List Kd):C->List Kd
 |.fn k _=>Q++[k]
 |_=>Q
noncomputable abbrev gg(b:Nat)(x:C)(r:Bool):W:=.tup [Co.ae x,.ref b,.bl r]
noncomputable abbrev sw(e c:W)(h a l:Nat)(i k n p x b:Option W):Env:=[some e,some c,some (.ref h),some (.ref a),some (.ref l),i,k,n,p,x,b]
abbrev wN(u:Or)(m:Nat)(M:Env)(h:Hp):R Fl:=fq (af u qC) (aJ u qt) m M h
theorem JB(c:C):(∃k b,c=.fn k b)\/(hd c≠Ad/\∀Q,inner Q c=Q):=by rcases c with _|_|_|_|_|_|_|⟨_|_|_,_⟩|⟨_|_|_|_|_|_,_,_⟩|⟨_|_,_,_,_⟩|_<;>first|exact .inl ⟨_,_,rfl⟩|exact .inr ⟨by simp[hd,T1.s,T2.s,T3.s],fun _=>rfl⟩
theorem pD(c:C)(h:Hp):idx (Co.ae c) (.int 0) h=.ok (.str (hd c)) h:=by cases c<;>rfl
theorem xg(c:C):(parts c).length<=3:=by cases c<;>simp[parts]
theorem ak.less{a l n:Nat}{h I:Hp}(g:ak a n h I)(hn:h.length<=n)(b:a<h.length):ak a l h I:=
 ⟨g.len,fun q o x _ e=>g.keep q o x (by have:=aX e;lia) e⟩
section
variable {m n:Nat}{h:Hp}{b fa a l:Nat}{c0 b0:W}{L A:List W}{bd:List Kd}{t5 t6 t7 t8 t9 t10:Option W}{N:Nq}{Q:Wq}{X:Xq}
theorem yL{i:Or}{w:Nat}:∀(c:List C)(L:List W)(h:Hp)(t10:Option W),h[l]?=some (.lst L)->L.length+c.length<=SZ->
  (∀I u,ak l l h I->I[l]?=some (.lst (L++c.map fun x=>gg w x false))->N (sw c0 b0 fa a l t5 t6 t7 t8 (some (.ref w)) u) I)->
  wT (wSs i lH) (.var 10) (c.map Co.ae) (sw c0 b0 fa a l t5 t6 t7 t8 (some (.ref w)) t10) h N Q X
 |[],L,h,t10,s,hn,k=>k h t10 (ak.refl _ _ _) (by simpa using s)
 |x::c,L,h,t10,s,hn,k=>by
  simp only[gK] at hn;refine dO (k7 s) (mz s (by lia) ?_);refine yL c (L++[gg w x false]) _ _ (di s) (by simp;lia) fun I u g e=>k I u ((ak.set _ h (.inl rfl)).trans g) (by simpa using e)
theorem kJ(c:C)(s:h[l]?=some (.lst (L++[gg b c false])))(V:h[b]?=some (.lst (bd.map Kd.ae)))(E:L.length+4<SZ)(F:bd.length<1000)(d:b≠a/\b≠l)(t:l<h.length/\a<h.length)
  (k:∀I w z o,ak l l h I->I[l]?=some (.lst (L++[gg b c true]++(parts c).reverse.map fun x=>gg w x false))->I[w]?=some (.lst ((inner bd c).map Kd.ae))->w≠a/\w≠l->
   Po (wN (run T (m+2)) n (sw c0 b0 fa a l (some (Co.ae c)) (some (.ref b)) (some (.bl false)) (some (.tup ((parts c).map Co.ae))) z o) I) (wF N Q) X):
  Po (wN (run T (m+2)) (n+1) (sw c0 b0 fa a l t5 t6 t7 t8 t9 t10) h) (wF N Q) X:=by
 refine eO ?_;refine gU s ?_;refine wC.of true (by simp) ?_;refine rD s ?_;refine Po.ok (qy (m+1) c _) ?_;have f:(h.set l (.lst L))[l]?=some (.lst L):=di s;refine dO (k7 f) (mz f (by lia) ?_);have K:=di (u:=.lst (L++[gg b c true])) f;have B:ak l l h ((h.set l (.lst L)).set l (.lst (L++[gg b c true]))):=(ak.set _ _ (.inl rfl)).trans (ak.set _ _ (.inl rfl));have i:=B.keep _ _ d.2 d.2 V;have y:=B.len;generalize (h.set l (.lst L)).set l (.lst (L++[gg b c true]))=Z at K B i y⊢;refine Po.ok (pD c Z) ?_;refine wC.eqs ?_;have p:∀(G:Hp)(w:Nat),ai Z G->G[w]?=some (.lst ((inner bd c).map Kd.ae))->w≠a/\w≠l->wSs (run T (m+2)) [.for (.var 10) (.rev (.var 8)) lH] (sw c0 b0 fa a l (some (Co.ae c)) (some (.ref b)) (some (.bl false)) (some (.tup ((parts c).map Co.ae))) (some (.ref w)) t10) G (fun M h=>Po (wN (run T (m+2)) n M h) (wF N Q) X) Q X:=by intro G w H q n3;refine my (xs:=(parts c).reverse.map Co.ae) (h1:=G) (by simp) ?_;have:=xg c;refine yL (parts c).reverse _ G t10 (H.keep _ _ K) (by simp;lia) fun I u g e=>?_;exact k I w (some (.ref w)) u (B.trans ((ak.of H).trans g)) e (g.keep _ _ n3.2 n3.2 q) n3
 rcases JB c with ⟨j,D,rfl⟩|⟨ne,v⟩
 .have r:=aK [O.lst [j.ae]] i;refine Po.ok (a:=.ref (Z.length+1)) (h:=Z++[.lst [j.ae]]++[.lst ((bd++[j]).map Kd.ae)]) ?_ (p _ _ ((ai.app _ _).trans (ai.app _ _)) (by simp[inner]) (by lia));have:bd.length+1<=16777216:=by lia
  simp[r,SZ,this]
 .rw[bc ne];exact p Z b (ai.refl _) (by rw[v];exact i) d
end
def res(ov:Nat->C->Option C):Nat->C->C
 |n,.fn k c=>.fn k (res ov (n+1) c)
 |n,.n1 t a=>.n1 t (res ov n a)
 |n,.n2 t a b=>.n2 t (res ov n a) (res ov n b)
 |n,.n3 t a b c=>.n3 t (res ov n a) (res ov n b) (res ov n c)
 |n,c=>(ov n c).getD c
structure yY(m f:Nat)(ws:List W)(ov:Nat->C->Option C):Prop where
 eq:∀(c:C)(ks:List C)(h:Hp)(q b:Nat)(bd:List W),h[q]?=some (.lst (ks.map Co.ae))->h[b]?=some (.lst bd)->ks.length=(parts c).length->run T (m+2) f ([Co.ae c,.ref b,.ref q]++ws) h=.ok (Co.ae ((ov bd.length c).getD (j4 c ks))) h
 lf:∀n c,0<(parts c).length->ov n c=none
noncomputable def turns:C->Nat
 |.fn _ c=>turns c+2
 |.n1 _ a=>turns a+2
 |.n2 _ a b=>turns a+turns b+2
 |.n3 _ a b c=>turns a+turns b+turns c+2
 |_=>2
section
variable {m n:Nat}{h:Hp}{b fa a l f:Nat}{c0 b0:W}{L A ws:List W}{bd:List Kd}{t5 t6 t7 t8 t9 t10:Option W}{N:Nq}{Q:Wq}{X:Xq}{ov:Nat->C->Option C}
theorem kP(H:yY m f ws ov)(c:C)(p:List C)(F:h[fa]?=some (.fun f ws))(z:fa≠l/\fa≠a)(s:h[l]?=some (.lst (L++[gg b c true])))(Y:h[a]?=some (.lst (A++p.map Co.ae)))(d:a≠l)(V:h[b]?=some (.lst (bd.map Kd.ae)))(B:A.length<SZ)(r:b≠a/\b≠l)(lk:p.length=(parts c).length)
  (k:∀I t7 t8,ak a l h I->I[l]?=some (.lst L)->I[a]?=some (.lst (A++[Co.ae ((ov bd.length c).getD (j4 c p))]))->Po (wN (run T (m+2)) n (sw c0 b0 fa a l (some (Co.ae c)) (some (.ref b)) t7 t8 t9 t10) I) (wF N Q) X):
  Po (wN (run T (m+2)) (n+1) (sw c0 b0 fa a l t5 t6 t7 t8 t9 t10) h) (wF N Q) X:=by
 refine eO ?_;refine gU s ?_;refine wC.of true (by simp) ?_;refine rD s ?_;refine Po.ok (qy (m+1) c _) ?_;have w:(h.set l (.lst L))[l]?=some (.lst L):=di s;have g1:ak a l h (h.set l (.lst L)):=ak.set _ _ (.inr rfl);have x:(h.set l (.lst L))[a]?=some (.lst (A++p.map Co.ae)):=bI (bj d) Y;have j:(h.set l (.lst L))[fa]?=some (.fun f ws):=bI (bj z.1) F;have g:(h.set l (.lst L))[b]?=some (.lst (bd.map Kd.ae)):=bI (bj r.2) V;generalize h.set l (.lst L)=J at *;refine dO (k7 x) ?_;obtain⟨Z,D,u,E,v⟩:=D2 (C:=run T (m+1)) (ks:=p.map Co.ae) (by have:=xg c;simp;lia) x;have t:∀{q:Nat}{o:O},q≠a->J[q]?=some o->Z[q]?=some o:=fun n e=>v.keep _ _ n (by have:=aX e;lia) e;have G:run T (m+2) pS [.ref a,.int (p.map Co.ae).length] J=.ok (.ref J.length) Z:=D;refine Po.ok (a:=Co.ae ((ov bd.length c).getD (j4 c p))) (h:=Z) ?_ ?_
 .rw[Cs];simp only[List.getElem?_cons_succ,List.getElem?_cons_zero,List.set,j];have y:af (run T (m+2)) (.call pS (.cons (.var 3) (.cons (.blt .len (.var 8)) .nil))) (sw c0 b0 fa a l (some (Co.ae c)) (some (.ref b)) (some (.bl true)) (some (.tup ((parts c).map Co.ae))) t9 t10) J=.ok (.ref J.length) Z:=by
   rw[<-G,show ((p.map Co.ae).length:Nat)=((parts c).map Co.ae).length by simp[lk]];rfl
  rw[lG,sE (i:=5) rfl,R.aZ,lG,sE (i:=6) rfl,R.aZ,lG,y];have:=H.eq c p Z J.length b (bd.map Kd.ae) E (t r.1 g) lk;rw[i9] at this;exact this
 .refine mz u B ?_;exact k _ _ _ ((g1.trans (v.less (aA _) (aX x))).trans (ak.set _ _ (.inl rfl))) (bI d (t (bj d) w)) (di u)
theorem Iq(H:yY m f ws ov)(p:fa≠l/\fa≠a)(r:a≠l):∀(c:C)(bd:List Kd)(L A:List W)(h:Hp)(b n:Nat)(t5 t6 t7 t8 t9 t10:Option W),h[fa]?=some (.fun f ws)->h[l]?=some (.lst (L++[gg b c false]))->h[a]?=some (.lst A)->h[b]?=some (.lst (bd.map Kd.ae))->b≠a/\b≠l->L.length+4 * c.depth+4<SZ->A.length+4 * c.depth+4<SZ->bd.length+c.depth<1000->
  (∀I t5 t6 t7 t8 t9 t10,ak a l h I->I[l]?=some (.lst L)->I[a]?=some (.lst (A++[Co.ae (res ov bd.length c)]))->Po (wN (run T (m+2)) n (sw c0 b0 fa a l t5 t6 t7 t8 t9 t10) I) (wF N Q) X)->
  Po (wN (run T (m+2)) (turns c+n) (sw c0 b0 fa a l t5 t6 t7 t8 t9 t10) h) (wF N Q) X:=by
 have G:∀{h I:Hp},ak l l h I->ak a l h I:=fun g=>⟨g.len,fun q o _ n e=>g.keep q o n n e⟩;have U:∀(c:C),parts c=[]->turns c=2->(∀n,res ov n c=(ov n c).getD c)->(∀ks,j4 c ks=c)->(∀bd,inner bd c=bd)->∀(bd:List Kd)(L A:List W)(h:Hp)(b n:Nat)(t5 t6 t7 t8 t9 t10:Option W),h[fa]?=some (.fun f ws)->h[l]?=some (.lst (L++[gg b c false]))->h[a]?=some (.lst A)->h[b]?=some (.lst (bd.map Kd.ae))->b≠a/\b≠l->L.length+4 * c.depth+4<SZ->A.length+4 * c.depth+4<SZ->bd.length+c.depth<1000->
  (∀I t5 t6 t7 t8 t9 t10,ak a l h I->I[l]?=some (.lst L)->I[a]?=some (.lst (A++[Co.ae (res ov bd.length c)]))->Po (wN (run T (m+2)) n (sw c0 b0 fa a l t5 t6 t7 t8 t9 t10) I) (wF N Q) X)->
  Po (wN (run T (m+2)) (turns c+n) (sw c0 b0 fa a l t5 t6 t7 t8 t9 t10) h) (wF N Q) X:=by
  intro c p0 tc rc wc ic bd L A h b n t5 t6 t7 t8 t9 t10 F v Y V d R P S k;rw[tc,show 2+n=(n+1)+1 by lia];refine kJ c v V (by lia) (by lia) d ⟨aX v,aX Y⟩ fun O w u9 J g1 E K n2=>?_;rw[p0] at E;simp only[List.reverse_nil,zX,fK] at E;refine kP H c [] (g1.keep _ _ p.1 p.1 F) p E (by simpa using g1.keep _ _ r r Y) r (g1.keep _ _ d.2 d.2 V) (by lia) d (by rw[p0]) fun Z t7 t8 B s j=>?_;rw[wc,<-rc] at j;exact k Z _ _ _ _ _ _ ((G g1).trans B) s j
 intro c
 induction c with
 |num i=>exact U _ rfl rfl (fun _=>rfl) (fun _=>rfl) (fun _=>rfl)
 |yes=>exact U _ rfl rfl (fun _=>rfl) (fun _=>rfl) (fun _=>rfl)
 |no=>exact U _ rfl rfl (fun _=>rfl) (fun _=>rfl) (fun _=>rfl)
 |var i=>exact U _ rfl rfl (fun _=>rfl) (fun _=>rfl) (fun _=>rfl)
 |ah k=>exact U _ rfl rfl (fun _=>rfl) (fun _=>rfl) (fun _=>rfl)
 |like k=>exact U _ rfl rfl (fun _=>rfl) (fun _=>rfl) (fun _=>rfl)
 |en x u _ _=>exact U _ rfl rfl (fun _=>rfl) (fun _=>rfl) (fun _=>rfl)
 |fn kd x ix=>
  intro bd L A h b n t5 t6 t7 t8 t9 t10 F v Y V d R P S k;simp only[Co.depth] at R P S;rw[turns,show turns x+2+n=(turns x+(n+1))+1 by lia];refine kJ _ v V (by lia) (by lia) d ⟨aX v,aX Y⟩ fun O w u9 J g1 E K n2=>?_;refine ix _ (L++[gg b (.fn kd x) true]) A O w _ _ _ _ _ _ _ (g1.keep _ _ p.1 p.1 F) E (g1.keep _ _ r r Y) K n2 (by simp;lia) (by lia) (by simp[inner];lia) fun Z t5 t6 t7 t8 t9 t10 B s j=>?_;refine kP H _ [res ov (inner bd (.fn kd x)).length x] ((G g1).trans B |>.keep _ _ p.2 p.1 F) p s (by simpa using j) r ((G g1).trans B |>.keep _ _ d.1 d.2 V) (by lia) d rfl fun h3 t7 t8 M z1 D=>?_;rw[H.lf _ _ (by simp[parts])] at D;exact k h3 _ _ _ _ _ _ (((G g1).trans B).trans M) z1 (by rw[show (inner bd (.fn kd x)).length=bd.length+1 by simp[inner]] at D;exact D)
 |n1 t x ix=>
  intro bd L A h b n t5 t6 t7 t8 t9 t10 F v Y V d R P S k;simp only[Co.depth] at R P S;rw[turns,show turns x+2+n=(turns x+(n+1))+1 by lia];refine kJ _ v V (by lia) (by lia) d ⟨aX v,aX Y⟩ fun O w u9 J g1 E K n2=>?_;refine ix _ (L++[gg b (.n1 t x) true]) A O w _ _ _ _ _ _ _ (g1.keep _ _ p.1 p.1 F) E (g1.keep _ _ r r Y) K n2 (by simp;lia) (by lia) (by simp[inner];lia) fun Z t5 t6 t7 t8 t9 t10 B s j=>?_;refine kP H _ [res ov bd.length x] ((G g1).trans B |>.keep _ _ p.2 p.1 F) p s (by simpa [inner] using j) r ((G g1).trans B |>.keep _ _ d.1 d.2 V) (by lia) d rfl fun h3 t7 t8 M z1 D=>?_;rw[H.lf _ _ (by simp[parts])] at D;exact k h3 _ _ _ _ _ _ (((G g1).trans B).trans M) z1 D
 |n2 t x y ix iy=>
  intro bd L A h b n t5 t6 t7 t8 t9 t10 F v Y V d R P S k;simp only[Co.depth] at R P S;rw[turns,show turns x+turns y+2+n=(turns x+(turns y+(n+1)))+1 by lia];refine kJ _ v V (by lia) (by lia) d ⟨aX v,aX Y⟩ fun O w u9 J g1 E K n2=>?_;refine ix _ (L++[gg b (.n2 t x y) true]++[gg w y false]) A O w _ _ _ _ _ _ _ (g1.keep _ _ p.1 p.1 F) (by simpa [parts] using E) (g1.keep _ _ r r Y) K n2 (by simp;lia) (by lia) (by simp[inner];lia) fun Z t5 t6 t7 t8 t9 t10 B s j=>?_;have G2:=(G g1).trans B;refine iy _ (L++[gg b (.n2 t x y) true]) _ Z w _ _ _ _ _ _ _ (G2.keep _ _ p.2 p.1 F) s j (B.keep _ _ n2.1 n2.2 K) n2 (by simp;lia) (by simp;lia) (by simp[inner];lia) fun h3 t5 t6 t7 t8 t9 t10 M s j=>?_;have G3:=G2.trans M;refine kP H _ [res ov bd.length x,res ov bd.length y] (G3.keep _ _ p.2 p.1 F) p s (by simpa [inner] using j) r (G3.keep _ _ d.1 d.2 V) (by lia) d rfl fun h4 t7 t8 g4 z1 D=>?_;rw[H.lf _ _ (by simp[parts])] at D;exact k h4 _ _ _ _ _ _ (G3.trans g4) z1 D
 |n3 t x y z ix iy iz=>
  intro bd L A h b n t5 t6 t7 t8 t9 t10 F v Y V d R P S k;simp only[Co.depth] at R P S;rw[turns,show turns x+turns y+turns z+2+n=(turns x+(turns y+(turns z+(n+1))))+1 by lia];refine kJ _ v V (by lia) (by lia) d ⟨aX v,aX Y⟩ fun O w u9 J g1 E K n2=>?_;refine ix _ (L++[gg b (.n3 t x y z) true]++[gg w z false]++[gg w y false]) A O w _ _ _ _ _ _ _ (g1.keep _ _ p.1 p.1 F) (by simpa [parts] using E) (g1.keep _ _ r r Y) K n2 (by simp;lia) (by lia) (by simp[inner];lia) fun Z t5 t6 t7 t8 t9 t10 B s j=>?_;have G2:=(G g1).trans B;refine iy _ (L++[gg b (.n3 t x y z) true]++[gg w z false]) _ Z w _ _ _ _ _ _ _ (G2.keep _ _ p.2 p.1 F) s j (B.keep _ _ n2.1 n2.2 K) n2 (by simp;lia) (by simp;lia) (by simp[inner];lia) fun h3 t5 t6 t7 t8 t9 t10 M s j=>?_;have G3:=G2.trans M;refine iz _ (L++[gg b (.n3 t x y z) true]) _ h3 w _ _ _ _ _ _ _ (G3.keep _ _ p.2 p.1 F) s j ((B.trans M).keep _ _ n2.1 n2.2 K) n2 (by simp;lia) (by simp;lia) (by simp[inner];lia) fun h4 t5 t6 t7 t8 t9 t10 g4 s j=>?_;have G4:=G3.trans g4;refine kP H _ [res ov bd.length x,res ov bd.length y,res ov bd.length z] (G4.keep _ _ p.2 p.1 F) p s (by simpa [inner] using j) r (G4.keep _ _ d.1 d.2 V) (by lia) d rfl fun h5 t7 t8 g5 z1 D=>?_;rw[H.lf _ _ (by simp[parts])] at D;exact k h5 _ _ _ _ _ _ (G4.trans g5) z1 D
end
theorem nQ(k:Nat)(c:C)(b:List C){h:Hp}{q:Nat}(e:h[q]?=some (.lst (b.map Co.ae)))(l:b.length=(parts c).length):run T (k+1) dF [Co.ae c,.ref q] h=.ok (Co.ae (j4 c b)) h:=by
 have f:∀(w:S)(d:List W)(n:List W),(w=Ad->False)->(isIn (.str w) (.tup [(.str [99,97,108,108]),(.str [98,111,116,104]),(.str [108,101,102,116]),(.str [114,105,103,104,116]),(.str [109,111,114,101]),(.str [102,111,108,100]),(.str [105,102]),(.str [115,117,109]),(.str [108,101,115,115]),(.str [108,105,107,101,112,97,105,114]),(.str [108,105,107,101,114,111,119])]) h=some true)->h[q]?=some (.lst n)->n.length<=3->run T (k+1) dF [.tup (.str w::d),.ref q] h=.ok (.tup (.str w::n)) h:=by
  intro w d n g i e l;refine Po.eq (wp_run n8 rfl ?_);have p:idx (.tup (.str w::d)) (.int 0) h=.ok (.str w) h:=by simp
  refine Po.ok p ?_;refine wC.eqs ?_;rw[bc g];refine Po.ok p ?_;refine wC.of true i ?_;refine Po.ok p ?_;refine Po.ok (a:=.tup n) (h:=h) (by simp[e]) ?_;exact dO (by simp[SZ];lia) ⟨rfl,rfl⟩
 rcases c with _|_|_|_|_|_|⟨L,x⟩|⟨t,_⟩|⟨t,_,_⟩|⟨t,_,_,_⟩|_
 .kernel_rfl
 .kernel_rfl
 .kernel_rfl
 .kernel_rfl
 .kernel_rfl
 .kernel_rfl
 .obtain⟨x,rfl⟩:∃x,b=[x]:=List.length_eq_one_iff.mp l;refine Po.eq (wp_run n8 rfl ?_);refine wC.eqs ?_;exact Po.ok (a:=Co.ae x) (h:=h) (by simp[e]) ⟨rfl,rfl⟩
 .obtain⟨x,rfl⟩:∃x,b=[x]:=List.length_eq_one_iff.mp l;refine f t.s _ _ (by cases t<;>exact fun z=>nomatch z) (by cases t<;>kernel_rfl) e (by simp)
 .obtain⟨x,y,rfl⟩:∃x y,b=[x,y]:=by match b,l with | [x,y],_=>exact⟨x,y,rfl⟩
  refine f t.s _ _ (by cases t<;>exact fun z=>nomatch z) (by cases t<;>kernel_rfl) e (by simp)
 .obtain⟨x,y,z,rfl⟩:∃x y z,b=[x,y,z]:=by match b,l with | [x,y,z],_=>exact⟨x,y,z,rfl⟩
  refine f t.s _ _ (by cases t<;>exact fun z=>nomatch z) (by cases t<;>kernel_rfl) e (by simp)
 .kernel_rfl
theorem E8:∀c:C,turns c+2<=4 ^ (c.depth+1):=by
 have e:∀{a b:Nat},a<=b->4 ^ (a+1)<=4 ^ (b+1):=fun h=>AO (by decide) (by lia);intro c
 induction c with
 |fn k x j=>simp only[turns,Co.depth,BB] at *;lia
 |n1 t x j=>simp only[turns,Co.depth,BB] at *;lia
 |n2 t x y i n=>
  have a:=aF i (e (b8 x.depth y.depth));have b:=aF n (e (bD x.depth y.depth));simp only[turns,Co.depth];rw[BB];lia
 |n3 t x y z i n p=>
  have a:=aF i (e (b8 x.depth (max y.depth z.depth)));have b:=aF n (e (aF (b8 y.depth z.depth) (bD x.depth _)));have c:=aF p (e (aF (bD y.depth z.depth) (bD x.depth _)));simp only[turns,Co.depth];rw[BB];lia
 |_=>simp[turns,Co.depth]
theorem vt{c:C}(h:c.depth<=900):turns c<FU:=by
 have a:=E8 c;have b:4 ^ (c.depth+1)<=4 ^ 901:=AO (by decide) (by lia);have d:(4:Nat) ^ 901<=FU:=by rw[FP,show (4:Nat) ^ 901=2 ^ 1802 by rw[show (4:Nat)=2 ^ 2 from rfl,<-Nat.pow_mul]];exact AO (by decide) (by decide)
 lia
section
variable {m:Nat}{h:Hp}{f:Nat}{ws:List W}{Q:Wq}{X:Xq}{ov:Nat->C->Option C}
theorem _root_.Tw.ai.put{h J:Hp}{a:Nat}{o:O}(g:ai h J)(l:h.length<=a):ai h (J.set a o):=⟨by simpa using g.len,fun q u e=>bI (by have:=aX e;lia) (g.keep q u e)⟩
theorem _root_.Tw.ai.Kn{a l:Nat}{h b J:Hp}(G:ai h b)(g:ak a l b J)(c:h.length<=a)(i:h.length<=l):ai h J:=⟨aF G.len g.len,fun q o e=>g.keep q o (by have:=aX e;lia) (by have:=aX e;lia) (G.keep q o e)⟩
theorem CN(H:yY m f ws ov)(c:C){b fa:Nat}(F:h[fa]?=some (.fun f ws))(V:h[b]?=some (.lst []))(hd:c.depth<=900)(q:∀I,ai h I->Q (Co.ae (res ov 0 c)) I):Po (run T (m+3) hJ [Co.ae c,.ref b,.ref fa] h) Q X:=by
 refine wp_run EA rfl ?_;have e:=aK [O.lst []] V;refine Iv e ?_;have d:=aX F;have i:∀x y z:O,(h++[x]++[y]++[z])[h.length]?=some x:=fun x y z=>by simp
 have k:∀x y z:O,(h++[x]++[y]++[z])[h.length+1]?=some y:=fun x y z=>by simp
 have K:∀x y z:O,(h++[x]++[y]++[z])[h.length+2]?=some z:=fun x y z=>by simp
 have G:ai h (h++[O.lst []]++[O.lst []]++[O.lst [gg (h.length+1) c false]]):=((ai.app _ _).trans (ai.app _ _)).trans (ai.app _ _);have v:=vt hd;obtain⟨n,hn⟩:∃n,FU=turns c+(n+1):=⟨FU-turns c-1,by lia⟩;show Po (fq _ _ FU [some (Co.ae c),some (.ref b),some (.ref fa),some (.ref h.length),some (.ref (h++[O.lst []]++[O.lst []]).length),none,none,none,none,none,none] (h++[O.lst []]++[O.lst []]++[O.lst [.tup [Co.ae c,.ref (h++[O.lst []]).length,.bl false]]])) _ _;rw[hn,show (h++[O.lst []]).length=h.length+1 by simp,show (h++[O.lst []]++[O.lst []]).length=h.length+2 by simp];refine Iq H (a:=h.length) (l:=h.length+2) ⟨by lia,by lia⟩ (by lia) c [] [] [] _ (h.length+1) (n+1) _ _ _ _ _ _ (G.keep _ _ F) (K _ _ _) (i _ _ _) (k _ _ _) ⟨by lia,by lia⟩ (by simp[SZ];lia) (by simp[SZ];lia) (by simp;lia) fun I j o r t u p g s Y=>?_;refine eO ?_;refine gU s ?_;refine wC.of false (by simp) ?_;refine rD (L:=[]) Y ?_;exact q _ ((ai.Kn G g (aA _) (by lia)).put (aA _))
theorem BJ(H:yY m f ws ov)(c:C){σ:Env}{j:Nat}{ks:List Nat}{N:Nq}(s0:(σ.set j none)[0]?=some (some (Co.ae c)))(ek:j7 (σ.set j none) ks=some ws)(hd:c.depth<=900)(q:∀h',ai h h'->Q (Co.ae (res ov 0 c)) h'):Po (dA (run T (m+3)) (.lC j hJ (.var 0) (.lst .nil) f ks) σ h) (wF N Q) X:=by
 rw[sU,sE s0];show Po (match j7 (σ.set j none) ks with
  |some ws=>ou (h++[O.lst []]).length (run T (m+3) hJ [Co.ae c,.ref h.length,.ref (h++[O.lst []]).length] (h++[O.lst []]++[.fun f ws]))
  |none=>.bad) _ _
 rw[ek];have p:=CN (h:=h++[O.lst []]++[.fun f ws]) (X:=fun _ _=>False) (Q:=fun w h'=>w=Co.ae (res ov 0 c)/\ai (h++[O.lst []]++[.fun f ws]) h') H c (b:=h.length) (fa:=(h++[O.lst []]).length) (bf _ _) (aK _ (bf _ _)) hd fun h' g=>⟨rfl,g⟩;show Po (ou _ _) _ _;cases e:run T (m+3) hJ [Co.ae c,.ref h.length,.ref (h++[O.lst []]).length] (h++[O.lst []]++[.fun f ws]) with
 |ok w h'=>
  rw[e] at p;obtain⟨rfl,g⟩:=p;exact q _ ((((ai.app _ _).trans (ai.app _ _)).trans g).put (by simp))
 |aw x h'=>rw[e] at p;exact p.elim
 |bad=>rw[e] at p;exact p
end
def c8(_:Nat):C->Option C
 |.en _ u=>some u
 |_=>none
def rn(v:C)(n:Nat):C->Option C
 |.var i=>if i=n then some v else none
 |_=>none
def strip(c:C):C:=res c8 0 c
theorem Nw(m:Nat):yY m gG [] c8:=⟨fun c a h q b Q e _ l=>by
 refine Po.eq (wp_run qk rfl ?_);refine Po.ok (pD c h) ?_;refine wC.eqs ?_;have no:hd c≠xS->c8 Q.length c=none->wSs (run T (m+1)) [.ret (.call dF (.cons (.var 0) (.cons (.var 2) .nil)))] [some (Co.ae c),some (.ref b),some (.ref q)] h (fun _ I=>(W.ah=Co.ae ((c8 Q.length c).getD (j4 c a))/\I=h)) (fun w I=>w=Co.ae ((c8 Q.length c).getD (j4 c a))/\I=h) (fun _ _=>False):=fun _ z=>Po.ok (nQ m c a e l) ⟨by rw[z];rfl,rfl⟩;have or:(∃x u,c=.en x u)\/(hd c≠xS/\c8 Q.length c=none):=by rcases c with _|_|_|_|_|_|_|⟨_|_|_,_⟩|⟨_|_|_|_|_|_,_,_⟩|⟨_|_,_,_,_⟩|_<;>first|exact .inl ⟨_,_,rfl⟩|exact .inr ⟨by simp[hd,T1.s,T2.s,T3.s],rfl⟩
 rcases or with ⟨x,u,rfl⟩|⟨n1,n2⟩
 .exact⟨rfl,rfl⟩
 .rw[bc n1];exact no n1 n2,fun n c h=>by cases c<;>first|rfl|(simp[parts] at h)⟩
theorem M7(m:Nat)(v:C):yY m iU [Co.ae v] (rn v):=⟨fun c ks h q b bd e eb l=>by
 refine Po.eq (wp_run sG rfl ?_);refine Po.ok (pD c h) ?_;refine wC.eqs ?_;have no:rn v bd.length c=none->wSs (run T (m+1)) [.ret (.call dF (.cons (.var 0) (.cons (.var 2) .nil)))] [some (Co.ae c),some (.ref b),some (.ref q),some (Co.ae v)] h (fun _ h'=>(W.ah=Co.ae ((rn v bd.length c).getD (j4 c ks))/\h'=h)) (fun w h'=>w=Co.ae ((rn v bd.length c).getD (j4 c ks))/\h'=h) (fun _ _=>False):=fun z=>Po.ok (nQ m c ks e l) ⟨by rw[z];rfl,rfl⟩;have or:(∃i,c=.var i)\/(hd c≠EY/\rn v bd.length c=none):=by rcases c with _|_|_|_|_|_|_|⟨_|_|_,_⟩|⟨_|_|_|_|_|_,_,_⟩|⟨_|_,_,_,_⟩|_<;>first|exact .inl ⟨_,rfl⟩|exact .inr ⟨by simp[hd,T1.s,T2.s,T3.s],rfl⟩
 rcases or with ⟨i,rfl⟩|⟨n1,n2⟩
 .refine gU eb ?_;refine wC.of (decide ((i:Int)=bd.length)) (by simp) ?_;by_cases z:i=bd.length
  .rw[bT (by lia)];exact⟨by simp[rn,z],rfl⟩
  .rw[bc (by lia)];exact no (by simp[rn,z])
 .rw[bc n1];exact no n2,fun n c h=>by cases c<;>first|rfl|(simp[parts] at h)⟩
theorem Fq(v:C):∀(c:C)(n:Nat),res (rn v) n c=Co.into v n c:=by
 intro c
 induction c with
 |var i=>intro n;simp only[res,rn,Co.into];by_cases z:i=n<;>simp[z]
 |fn k x j=>intro n;simp only[res,Co.into,j]
 |n1 t x j=>intro n;simp only[res,Co.into,j]
 |n2 t x y a b=>intro n;simp only[res,Co.into,a,b]
 |n3 t x y z a b e=>intro n;simp only[res,Co.into,a,b,e]
 |_=>intro n;rfl
section
variable {m:Nat}{h:Hp}{Q:Wq}{X:Xq}
theorem qD(c:C)(hd:c.depth<=900)(q:∀I,ai h I->Q (Co.ae (strip c)) I):Po (run T (m+4) jS [Co.ae c] h) Q X:=
 wp_run A7 rfl (BJ (Nw m) c rfl rfl hd q)
noncomputable def rU:C->C
 |.en a u=>.en a u
 |c=>.en c (strip c)
theorem CO(c:C)(hd:c.depth<=900)(q:∀h',ai h h'->Q (Co.ae (rU c)) h'):Po (run T (m+5) qM [Co.ae c] h) Q X:=by
 refine wp_run EM rfl ?_;refine Po.ok (pD c h) ?_;refine wC.eqs ?_;have or:(∃x u,c=.en x u)\/(K06.hd c≠xS/\rU c=.en c (strip c)):=by rcases c with _|_|_|_|_|_|_|⟨_|_|_,_⟩|⟨_|_|_|_|_|_,_,_⟩|⟨_|_,_,_,_⟩|_<;>first|exact .inl ⟨_,_,rfl⟩|exact .inr ⟨by simp[K06.hd,T1.s,T2.s,T3.s],rfl⟩
 rcases or with ⟨x,u,rfl⟩|⟨n1,n2⟩
 .exact q _ (ai.refl _)
 .rw[bc n1];refine qD c hd fun h' g=>?_;have:=q h' g;rw[n2] at this;exact this
theorem Dy(c v:C)(a:c.depth<=900)(l:v.depth<=900)(q:∀I,ai h I->Q (Co.ae (Co.into (rU v) 0 c)) I):Po (run T (m+6) qR [Co.ae c,Co.ae v] h) Q X:=by refine wp_run Fb rfl ?_;refine CO v l fun J g1=>?_;refine BJ (m:=m+2) (M7 (m+2) (rU v)) c rfl rfl a fun Z B=>?_;rw[Fq];exact q Z (g1.trans B)
end
inductive Cm:C->C->C->C->Prop
 |num {i j}:Cm (.like .num) (.num i) (.num j) (if i=j then .yes else .no)
 |yy:Cm (.like .tru) .yes .yes .yes
 |nn:Cm (.like .tru) .no .no .yes
 |yn:Cm (.like .tru) .yes .no .no
 |ny:Cm (.like .tru) .no .yes .no
 |mm {l x1 x2 y1 y2}:Cm (.n1 .bQ l) (.n2 .more x1 x2) (.n2 .more y1 y2) (.n3 .aQ (ask l x1 y1) (ask (.n1 .bQ l) x2 y2) .no)
 |ee {l j k}:Cm (.n1 .bQ l) (.ah j) (.ah k) .yes
 |em {l k x y}:Cm (.n1 .bQ l) (.ah k) (.n2 .more x y) .no
 |me {l k x y}:Cm (.n1 .bQ l) (.n2 .more x y) (.ah k) .no
 |bb {l1 l2 x1 x2 y1 y2}:Cm (.n2 .bK l1 l2) (.n2 .both x1 x2) (.n2 .both y1 y2) (.n3 .aQ (ask l1 x1 y1) (ask l2 x2 y2) .no)
inductive Rd:C->C->Prop
 |fn {f v k b}:bare f=.fn k b->b.depth<=900->v.depth<=900->Rd (.n2 .call f v) (Co.into (rU v) 0 b)
 |ask {f v l x r}:bare f=.n2 .call l x->Cm (bare l) (bare x) (bare v) r->Rd (.n2 .call f v) r
 |left {a x y}:bare a=.n2 .both x y->Rd (.n1 .left a) x
 |right {a x y}:bare a=.n2 .both x y->Rd (.n1 .right a) y
 |yes {a b c}:bare a=.yes->Rd (.n3 .aQ a b c) b
 |no {a b c}:bare a=.no->Rd (.n3 .aQ a b c) c
 |FK {r s w k}:bare r=.ah k->Rd (.n3 .fold r s w) s
 |Gf {r s w x q}:bare r=.n2 .more x q->Rd (.n3 .fold r s w) (.n2 .call (.n2 .call w x) (.n3 .fold q s w))
 |sum {a b i j}:bare a=.num i->bare b=.num j->Rd (.n2 .sum a b) (.num (i+j))
 |less {a b i j}:bare a=.num i->bare b=.num j->Rd (.n2 .less a b) (if i<j then .yes else .no)
theorem xM(k:Nat)(b:Bool)(h:Hp):run T (k+1) ka [.bl b] h=.ok (Co.ae (if b then .yes else .no)) h:=by cases b<;>kernel_rfl
theorem fW(k:Nat){c d:C}(e:bare c=d)(h:Hp):run T (k+2) bh [Co.ae c,.str (hd d)] h=.ok (Co.ae d) h:=by refine Po.eq (wp_run nR rfl ?_);have b:=ck k c h;rw[e] at b;refine Po.ok b ?_;refine Po.ok (pD d h) ?_;refine wC.B8 ?_;rw[bT rfl];exact Po.ok b ⟨rfl,rfl⟩
theorem Gh(p:Prop)[Decidable p](a b:C):(if decide p=true then a else b)=if p then a else b:=by by_cases h:p<;>simp[h]
theorem GZ(k:Nat){l x y r:C}(m:Cm l x y r)(h:Hp):run T (k+5) bW [Co.ae l,Co.ae x,Co.ae y] h=.ok (Co.ae r) h:=by
 cases m with
 | @num i j=>
  refine Po.eq (wp_run oZ rfl ?_);refine wC.eqs ?_;refine wp_run tJ rfl ?_;refine wC.eqs ?_;refine wC.of (decide (i=j)) (by simp) ?_;refine Po.ok (xM (k+2) _ h) ?_;rw[Gh];exact⟨rfl,rfl⟩
 |_=>kernel_rfl
theorem yG{m:Nat}{h:Hp}{f v r:C}{Q:Wq}{X:Xq}(e:Rd (.n2 .call f v) r)(q:∀I,ai h I->Q (Co.ae r) I):Po (run T (m+7) gA [Co.ae f,Co.ae v] h) Q X:=by
 refine wp_run jj rfl ?_;have b:=ck (m+5) f h;cases e with
 |fn F y c=>
  rw[F] at b;refine Po.ok b ?_;refine wC.eqs ?_;exact Dy _ v y c q
 | @ask _ _ l x _ F a=>
  rw[F] at b;refine Po.ok b ?_;refine wC.eqs ?_;refine wC.eqs ?_;refine Po.ok (ck (m+5) l h) ?_;refine Po.ok (ck (m+5) x h) ?_;refine Po.ok (ck (m+5) v h) ?_;exact Po.ok (GZ (m+1) a h) (q _ (ai.refl _))
theorem AM{m:Nat}{h:Hp}{c r:C}{n:W}{Q:Wq}{X:Xq}(e:Rd c r)(q:∀I,ai h I->Q (Co.ae r) I):Po (run T (m+8) kY [n,Co.ae c] h) Q X:=by
 refine wp_run uz rfl ?_;have gr:=q _ (ai.refl h);cases e with
 |fn F y l=>
  refine wC.eqs ?_;exact yG (.fn F y l) q
 |ask F k=>
  refine wC.eqs ?_;exact yG (.ask F k) q
 |left Y=>
  refine wC.eqs ?_;refine wC.of true (by kernel_rfl) ?_;refine wC.eqs ?_;refine Po.ok (fW (m+5) Y h) ?_;exact gr
 |right Y=>
  refine wC.eqs ?_;refine wC.of true (by kernel_rfl) ?_;refine wC.eqs ?_;refine Po.ok (fW (m+5) Y h) ?_;exact gr
 | @yes a _ _ Y=>
  refine wC.eqs ?_;refine wC.of false (by kernel_rfl) ?_;refine wC.eqs ?_;refine wp_run kB rfl ?_;have b:=ck (m+5) a h;rw[Y] at b;refine Po.ok b ?_;refine wC.eqs ?_;exact gr
 | @no a _ _ Y=>
  refine wC.eqs ?_;refine wC.of false (by kernel_rfl) ?_;refine wC.eqs ?_;refine wp_run kB rfl ?_;have b:=ck (m+5) a h;rw[Y] at b;refine Po.ok b ?_;refine wC.eqs ?_;refine wC.eqs ?_;exact gr
 | @FK a _ _ _ Y=>
  refine wC.eqs ?_;refine wC.of false (by kernel_rfl) ?_;refine wC.eqs ?_;refine wC.eqs ?_;refine wp_run je rfl ?_;have b:=ck (m+5) a h;rw[Y] at b;refine Po.ok b ?_;refine wC.eqs ?_;exact gr
 | @Gf a _ _ _ _ Y=>
  refine wC.eqs ?_;refine wC.of false (by kernel_rfl) ?_;refine wC.eqs ?_;refine wC.eqs ?_;refine wp_run je rfl ?_;have b:=ck (m+5) a h;rw[Y] at b;refine Po.ok b ?_;refine wC.eqs ?_;refine Po.ok (fW (m+4) Y h) ?_;exact gr
 | @sum a b i j Y V=>
  refine wC.eqs ?_;refine wC.of false (by kernel_rfl) ?_;refine wC.eqs ?_;refine wC.eqs ?_;refine wC.eqs ?_;refine Po.ok (fW (m+5) Y h) ?_;refine Po.ok (fW (m+5) V h) ?_;exact gr
 | @less a b i j Y V=>
  refine wC.eqs ?_;refine wC.of false (by kernel_rfl) ?_;refine wC.eqs ?_;refine wC.eqs ?_;refine wC.eqs ?_;refine wC.eqs ?_;refine Po.ok (fW (m+5) Y h) ?_;refine Po.ok (fW (m+5) V h) ?_;refine wC.of (decide (i<j)) rfl ?_;refine Po.ok (xM (m+6) _ h) ?_;rw[Gh];exact gr
noncomputable def Gd:C->Prop
 |.like k=>k=.num\/k=.tru
 |.fn _ c=>Gd c
 |.n1 _ a=>Gd a
 |.n2 _ a b=>Gd a/\Gd b
 |.n3 _ a b c=>Gd a/\Gd b/\Gd c
 |.en a u=>Gd a/\Gd u
 |_=>True
theorem Ty.gd{A:List Kd}{c:C}{t:Kd}(h:Ty A c t):Gd c:=by
 induction h with
 |jv=>exact .inl rfl
 |ju=>exact .inr rfl
 |fn _ i=>exact i
 |left _ i=>exact i
 |right _ i=>exact i
 |bQ _ i=>exact i
 |call _ _ i j=>exact⟨i,j⟩
 |both _ _ i j=>exact⟨i,j⟩
 |more _ _ i j=>exact⟨i,j⟩
 |sum _ _ i j=>exact⟨i,j⟩
 |less _ _ i j=>exact⟨i,j⟩
 |bK _ _ i j=>exact⟨i,j⟩
 |fold _ _ _ i j k=>exact⟨i,j,k⟩
 |aQ _ _ _ i j k=>exact⟨i,j,k⟩
 |_=>trivial
noncomputable def eI:C->Bool
 |.num _=>true
 |.yes=>true
 |.no=>true
 |.ah _=>true
 |.like _=>true
 |.fn _ _=>true
 |.en _ _=>true
 |.n1 .bQ _=>true
 |.n2 .both _ _=>true
 |.n2 .more _ _=>true
 |.n2 .bK _ _=>true
 |.n2 .call a _=>bF a
 |_=>false
theorem tV(k:Nat)(c:C)(g:Gd c)(h:Hp):run T (k+2) fQ [Co.ae c] h=.ok (.bl (eI c)) h:=by
 rcases c with _|_|_|_|_|L|_|⟨_|_|_,_⟩|⟨_|_|_|_|_|_,a,b⟩|⟨_|_,_,_,_⟩|_
 case like=>rcases g with rfl|rfl<;>kernel_rfl
 case n2.call=>
  refine Po.eq (wp_run si rfl ?_);refine wC.eqs ?_;refine Po.ok (ck k a h) ?_;refine Po.ok (pD (bare a) h) ?_;refine wC.of (bF a) ?_ ⟨rfl,rfl⟩;unfold bF;generalize bare a=d;rcases d with _|_|_|_|_|_|_|⟨_|_|_,_⟩|⟨_|_|_|_|_|_,_,_⟩|⟨_|_,_,_,_⟩|_<;>kernel_rfl
 all_goals kernel_rfl
noncomputable def aN:C->Nat->C->C
 |.n1 t _,1,p=>.n1 t p
 |.n2 t _ b,1,p=>.n2 t p b
 |.n2 t a _,2,p=>.n2 t a p
 |.n3 t _ b c,1,p=>.n3 t p b c
 |.n3 t a _ c,2,p=>.n3 t a p c
 |.n3 t a b _,3,p=>.n3 t a b p
 |c,_,_=>c
noncomputable def bE:C->Nat->C
 |.n1 _ a,1=>a
 |.n2 _ a _,1=>a
 |.n2 _ _ b,2=>b
 |.n3 _ a _ _,1=>a
 |.n3 _ _ b _,2=>b
 |.n3 _ _ _ c,3=>c
 |c,_=>c
inductive Vp:C->Nat->Prop
 |n1 {t a}:Vp (.n1 t a) 1
 |iB {t a b}:Vp (.n2 t a b) 1
 |gE {t a b}:Vp (.n2 t a b) 2
 |fy {t a b c}:Vp (.n3 t a b c) 1
 |gC {a b c}:Vp (.n3 .fold a b c) 2
 |fN {a b c}:Vp (.n3 .fold a b c) 3
theorem ot(k:Nat){c:C}{i:Nat}(v:Vp c i)(p:C)(h:Hp):run T (k+1) gQ [Co.ae c,.int (i:Int),Co.ae p] h=.ok (Co.ae (aN c i p)) h:=by cases v<;>kernel_rfl
theorem Gs{c:C}{i:Nat}(v:Vp c i)(h:Hp):idx (Co.ae c) (.int (i:Int)) h=.ok (Co.ae (bE c i)) h:=by cases v<;>kernel_rfl
theorem vq(c:C):gS.lookup (hd c)=if cu c=0 then none else some (cu c:Int):=by rcases c with _|_|_|_|_|_|_|⟨_|_|_,_⟩|⟨_|_|_|_|_|_,_,_⟩|⟨_|_,_,_,_⟩|_<;>rfl
theorem Vp.sp{c p:C}{i:Nat}(v:Vp c i):1<=i/\i<=cu c/\cu (aN c i p)=cu c:=by
 cases v with
 | @fy t _ _ _=>cases t<;>exact⟨by decide,by simp[cu],rfl⟩
 |_=>exact⟨by decide,by simp[cu],rfl⟩
theorem Vp.next{c p:C}{i:Nat}(v:Vp c i)(h:i<cu c):Vp (aN c i p) (i+1):=by
 cases v with
 |n1=>simp[cu] at h
 |iB=>exact .gE
 |gE=>simp[cu] at h
 | @fy t _ _ _=>cases t with
  |fold=>exact .gC
  |aQ=>simp[cu] at h
 |gC=>exact .fN
 |fN=>simp[cu] at h
abbrev jx:S:=[112,97,114,116]
abbrev gz:S:=[97,114,111,117,110,100]
abbrev jV:S:=[82,101,99,107,111,110,105,110,103]
abbrev Fs:=List (C×Nat)
abbrev yB(f:C×Nat):W:=.tup [Co.ae f.1,.int (f.2:Int)]
structure aW(r l:Nat)(p:C)(F:Fs)(h:Hp):Prop where
 ob:h[r]?=some (.ins jV [(jx,Co.ae p),(gz,.ref l)])
 ar:h[l]?=some (.lst (F.map yB))
 ne:r≠l
section
variable {r l:Nat}{p:C}{F:Fs}{h:Hp}{Q:Wq}{X:Xq}{m n:Nat}{N:Nq}
theorem aW.part(M:aW r l p F h)(q:Q (Co.ae p) h):Po (R.of (field (.ref r) jx h) h) Q X:=Po.of (by simp[M.ob]) q
theorem aW.around(M:aW r l p F h)(q:Q (.ref l) h):Po (R.of (field (.ref r) gz h) h) Q X:=Po.of (by simp only[field,M.ob];rfl) q
theorem aW.AU(M:aW r l p F h)(b:C){Q:Unit->Hp->Prop}(q:∀I,ak r l h I->aW r l b F I->Q () I):Po (putField (.ref r) jx (Co.ae b) h) Q X:=by refine Po.ok (a:=()) (h:=h.set r (.ins jV [(jx,Co.ae b),(gz,.ref l)])) (by simp only[putField,M.ob];rfl) ?_;exact q _ (ak.set _ _ (.inl rfl)) ⟨di M.ob,bI M.ne M.ar,M.ne⟩
theorem aW.Le(M:aW r l p F h)(a:Fs):ak r l h (h.set l (.lst (a.map yB)))/\aW r l p a (h.set l (.lst (a.map yB))):=
 ⟨ak.set _ _ (.inr rfl),bI (bj M.ne) M.ob,di M.ar,M.ne⟩
theorem aW.push(M:aW r l p F h)(c:C)(i:Nat)(s:F.length<SZ)(q:∀I,ak r l h I->aW r l p (F++[(c,i)]) I->Q .ah I):kX .append (.ref l) h=true/\Po (method .append (.ref l) [.tup [Co.ae c,.int (i:Int)]] h) Q X:=by refine dO (k7 M.ar) (mz M.ar (by simpa using s) ?_);have:=M.Le (F++[(c,i)]);rw[List.map_append] at this;exact q _ this.1 this.2
theorem aW.jG(M:aW r l p F h)(w:S)(ne:w≠jx/\w≠gz):jq (.ref r) jV w h=true:=by
 have a:(w== jx)=false:=by simpa using ne.1
 have b:(w== gz)=false:=by simpa using ne.2
 simp only[jq,M.ob,decide_true,Bool.true_and,List.lookup,a,b];rfl
noncomputable def a8:C->Fs
 |.n1 t a=>(.n1 t a,1)::a8 a
 |.n2 t a b=>(.n2 t a b,1)::a8 a
 |.n3 t a b c=>(.n3 t a b c,1)::a8 a
 |_=>[]
noncomputable def eT:C->C
 |.n1 _ a=>eT a
 |.n2 _ a _=>eT a
 |.n3 _ a _ _=>eT a
 |c=>c
theorem mU:∀c:C,(a8 c).length<=c.depth
 |.n1 _ a=>by have:=mU a;simp only[a8,Co.depth,gK];lia
 |.n2 _ a _=>by have:=mU a;simp only[a8,Co.depth,gK];lia
 |.n3 _ a _ _=>by have:=mU a;simp only[a8,Co.depth,gK];lia
 |.num _=>bw _
 |.yes=>bw _
 |.no=>bw _
 |.var _=>bw _
 |.ah _=>bw _
 |.like _=>bw _
 |.fn _ _=>bw _
 |.en _ _=>bw _
abbrev Gm(u:Or)(n:Nat)(M:Env)(h:Hp):R Fl:=fq (af u iN) (aJ u iO) n M h
theorem Lw{u:Or}:∀(p:C)(F:Fs)(h:Hp)(n:Nat),aW r l p F h->F.length+p.depth<SZ->(∀I,ak r l h I->aW r l (eT p) (F++a8 p) I->N [some (.ref r)] I)->Po (Gm u ((a8 p).length+(n+1)) [some (.ref r)] h) (wF N Q) X:=by
 have e:∀(p:C)(F:Fs)(h:Hp)(n:Nat),cu p=0->a8 p=[]->eT p=p->aW r l p F h->(∀I,ak r l h I->aW r l (eT p) (F++a8 p) I->N [some (.ref r)] I)->Po (Gm u ((a8 p).length+(n+1)) [some (.ref r)] h) (wF N Q) X:=by intro p F h n q K w M k;rw[K,List.length_nil,Nat.zero_add];refine eO ?_;refine M.part ?_;refine Po.ok (pD p h) ?_;show (match truth h (.bl (gS.lookup (hd p)).isSome) with|some true=>_|some false=>_|none=>_);rw[vq,if_pos q];have:=k h (ak.refl _ _ _);rw[K,w,fK] at this;exact this M
 have f:∀(p a:C),Vp p 1->bE p 1=a->a.depth+1<=p.depth->a8 p=(p,1)::a8 a->eT p=eT a->(∀(F:Fs)(h:Hp)(n:Nat),aW r l a F h->F.length+a.depth<SZ->(∀I,ak r l h I->aW r l (eT a) (F++a8 a) I->N [some (.ref r)] I)->Po (Gm u ((a8 a).length+(n+1)) [some (.ref r)] h) (wF N Q) X)->
   ∀(F:Fs)(h:Hp)(n:Nat),aW r l p F h->F.length+p.depth<SZ->(∀I,ak r l h I->aW r l (eT p) (F++a8 p) I->N [some (.ref r)] I)->Po (Gm u ((a8 p).length+(n+1)) [some (.ref r)] h) (wF N Q) X:=by
  intro p a v z A g y d F h n M s k;rw[g,y] at k;rw[g,gK,show (a8 a).length+1+(n+1)=((a8 a).length+(n+1))+1 by lia];refine eO ?_;refine M.part ?_;refine Po.ok (pD p h) ?_;show (match truth h (.bl (gS.lookup (hd p)).isSome) with|some true=>_|some false=>_|none=>_);have st:=v.sp (p:=p);rw[vq,if_neg (by lia)];refine M.around ?_;refine dO (k7 M.ar) ?_;refine M.part ?_;refine (M.push p 1 (by lia) fun J g1 W=>?_).2;refine W.part ?_;refine Po.ok (Gs v J) ?_;rw[z];refine W.AU a fun Z B j=>?_;refine d (F++[(p,1)]) Z n j (by simp;lia) fun G H o=>?_;exact k G ((g1.trans B).trans H) (by simpa using o)
 intro p
 induction p with
 |n1 t a d=>exact f _ a .n1 rfl (by simp only[Co.depth];lia) rfl rfl d
 |n2 t a b d _=>exact f _ a .iB rfl (by simp only[Co.depth];lia) rfl rfl d
 |n3 t a b c d _ _=>exact f _ a .fy rfl (by simp only[Co.depth];lia) rfl rfl d
 |num i=>exact fun F h n M _ k=>e _ F h n rfl rfl rfl M k
 |yes=>exact fun F h n M _ k=>e _ F h n rfl rfl rfl M k
 |no=>exact fun F h n M _ k=>e _ F h n rfl rfl rfl M k
 |var i=>exact fun F h n M _ k=>e _ F h n rfl rfl rfl M k
 |ah i=>exact fun F h n M _ k=>e _ F h n rfl rfl rfl M k
 |like i=>exact fun F h n M _ k=>e _ F h n rfl rfl rfl M k
 |fn i x _=>exact fun F h n M _ k=>e _ F h n rfl rfl rfl M k
 |en i x _ _=>exact fun F h n M _ k=>e _ F h n rfl rfl rfl M k
theorem wA(M:aW r l p F h)(s:F.length+p.depth<SZ)(hd:p.depth<=900)(q:∀I,ak r l h I->aW r l (eT p) (F++a8 p) I->Q .ah I):Po (run T (m+1) eA [.ref r] h) Q X:=by refine wp_run qp rfl ?_;have:=mU p;have a:(a8 p).length<FU:=ve (by lia);obtain⟨n,hn⟩:∃n,FU=(a8 p).length+(n+1):=⟨FU-(a8 p).length-1,by lia⟩;show Po (fq _ _ FU [some (.ref r)] h) _ _;rw[hn];exact Lw p F h n M s q
theorem EG{c:C}{i:Nat}(M:aW r l p (F++[(c,i)]) h)(v:Vp c i)(s:F.length+1+(aN c i p).depth<SZ)(hd:∀j,Vp (aN c i p) j->(bE (aN c i p) j).depth<=900/\(bE (aN c i p) j).depth<=(aN c i p).depth)
  (g:i<cu c->∀I,ak r l h I->aW r l (eT (bE (aN c i p) (i+1))) (F++[(aN c i p,i+1)]++a8 (bE (aN c i p) (i+1))) I->Q .ah I)
  (o:i=cu c->∀I,ak r l h I->aW r l (aN c i p) F I->Q .ah I):Po (run T (m+2) gN [.ref r] h) Q X:=by
 refine wp_run ql rfl ?_;refine M.around ?_;have ar:=M.ar;rw[List.map_append] at ar;refine rD (y:=yB (c,i)) ar ?_;obtain⟨g1,W⟩:=M.Le F;generalize h.set l (.lst (F.map yB))=J at g1 W;refine W.part ?_;refine Po.ok (ot m v p J) ?_;refine Po.ok (pD _ J) ?_;obtain⟨t,u,q⟩:=v.sp (p:=p);refine Po.of (a:=.int (cu c)) (by rw[vq,q,if_neg (by lia)];rfl) ?_;refine wC.of (decide ((i:Int)<cu c)) rfl ?_;by_cases z:i<cu c
 .rw[bT (by lia)];refine W.around ?_;refine dO (k7 W.ar) ?_;refine (W.push (aN c i p) (i+1) (by lia) fun Z B k=>?_).2;have e:=v.next (p:=p) z
  refine Po.ok (Gs e Z) ?_;refine k.AU _ fun G H b=>?_;refine dO (b.jG _ (by decide)) ?_;refine wA b (by have:=hd _ e;simp;lia) (hd _ e).1 fun f d x=>?_;exact g z f (((g1.trans B).trans H).trans d) x
 .rw[bc (by lia)];exact W.AU _ fun G H b=>o (by lia) G (g1.trans H) b
end
theorem Vp.same{c:C}{i:Nat}(v:Vp c i):aN c i (bE c i)=c:=by cases v<;>rfl
theorem Vp.deep{c:C}{i:Nat}(v:Vp c i):(bE c i).depth+1<=c.depth:=by
 cases v with
 |n1=>exact aA _
 |iB=>exact cY (b8 _ _)
 |gE=>exact cY (bD _ _)
 |fy=>exact cY (b8 _ _)
 | @gC a b c=>exact cY (aF (b8 b.depth c.depth) (bD _ _))
 | @fN a b c=>exact cY (aF (bD b.depth c.depth) (bD _ _))
theorem Vp.gd{c:C}{i:Nat}(v:Vp c i)(g:Gd c):Gd (bE c i):=by
 cases v with
 |n1=>exact g
 |iB=>exact g.1
 |gE=>exact g.2
 |fy=>exact g.1
 |gC=>exact g.2.1
 |fN=>exact g.2.2
noncomputable def fr:C->Fs
 |.n1 t a=>if Co.ended a then [] else (.n1 t a,1)::fr a
 |.n2 t a b=>if Co.ended a then (if Co.ended b then [] else (.n2 t a b,2)::fr b) else (.n2 t a b,1)::fr a
 |.n3 .fold a b c=>if Co.ended a then (if Co.ended b then (if Co.ended c then [] else (.n3 .fold a b c,3)::fr c) else (.n3 .fold a b c,2)::fr b) else (.n3 .fold a b c,1)::fr a
 |.n3 .aQ a b c=>if Co.ended a then [] else (.n3 .aQ a b c,1)::fr a
 |_=>[]
noncomputable def aC:C->C
 |.n1 t a=>if Co.ended a then .n1 t a else aC a
 |.n2 t a b=>if Co.ended a then (if Co.ended b then .n2 t a b else aC b) else aC a
 |.n3 .fold a b c=>if Co.ended a then (if Co.ended b then (if Co.ended c then .n3 .fold a b c else aC c) else aC b) else aC a
 |.n3 .aQ a b c=>if Co.ended a then .n3 .aQ a b c else aC a
 |c=>c
noncomputable def nS:C->Nat
 |.n1 _ a=>nS a+1
 |.n2 _ a b=>nS a+nS b+2
 |.n3 .fold a b c=>nS a+nS b+nS c+3
 |.n3 .aQ a _ _=>nS a+1
 |_=>0
theorem OF:∀c:C,nS c+1<=turns c:=by
 intro c
 induction c with
 |n1 t a e=>simp only[nS,turns];lia
 |n2 t a b e h=>simp only[nS,turns];lia
 |n3 t a b c e h i=>cases t<;>simp only[nS,turns]<;>lia
 |_=>simp[nS,turns]
theorem lF(c:C)(e:Co.ended c=true):eI c=true:=by
 rcases c with _|_|_|_|_|_|_|⟨_|_|_,_⟩|⟨_|_|_|_|_|_,a,b⟩|⟨_|_,_,_,_⟩|_<;>first|rfl|exact e|skip
 simp only[Co.ended,aq] at e;exact e.1.1
theorem lV(t:T1)(a:C):Co.ended (.n1 t a)=(eI (.n1 t a)&&Co.ended a):=by cases t<;>rfl
theorem fo(t:T2)(a b:C):Co.ended (.n2 t a b)=(eI (.n2 t a b)&&(Co.ended a&&Co.ended b)):=by cases t<;>first|rfl|(simp only[Co.ended,eI,Bool.and_assoc])|simp[Co.ended,eI]
theorem mM(t:T3)(a b c:C):Co.ended (.n3 t a b c)=false/\eI (.n3 t a b c)=false:=by cases t<;>exact⟨rfl,rfl⟩
section
variable {r l:Nat}{p:C}{F:Fs}{h:Hp}{Q:Wq}{X:Xq}{m n:Nat}{N:Nq}
abbrev iw(u:Or)(n:Nat)(M:Env)(h:Hp):R Fl:=fq (af u i6) (aJ u i5) n M h
theorem kg(M:aW r l p F h)(g:Gd p)(e:eI p=false\/F=[])(k:N [some (.ref r)] h):Po (iw (run T (m+2)) (n+1) [some (.ref r)] h) (wF N Q) X:=by
 refine eO ?_;refine M.part ?_;refine Po.ok (tV m p g h) ?_;cases z:eI p with
 |false=>exact k
 |true=>
  rcases e with e|rfl
  .rw[z] at e;cases e
  refine M.around ?_;refine gU M.ar ?_;refine wC.of false (by simp) ?_;exact k
theorem zj{c:C}{i:Nat}(M:aW r l p (F++[(c,i)]) h)(g:Gd p)(e:eI p=true)(v:Vp c i)(s:F.length+1+(aN c i p).depth<SZ)(hd:∀j,Vp (aN c i p) j->(bE (aN c i p) j).depth<=900/\(bE (aN c i p) j).depth<=(aN c i p).depth)
  (a:i<cu c->∀I,ak r l h I->aW r l (eT (bE (aN c i p) (i+1))) (F++[(aN c i p,i+1)]++a8 (bE (aN c i p) (i+1))) I->Po (iw (run T (m+2)) n [some (.ref r)] I) (wF N Q) X)
  (b:i=cu c->∀I,ak r l h I->aW r l (aN c i p) F I->Po (iw (run T (m+2)) n [some (.ref r)] I) (wF N Q) X):Po (iw (run T (m+2)) (n+1) [some (.ref r)] h) (wF N Q) X:=by
 refine eO ?_;refine M.part ?_;refine Po.ok (tV m p g h) ?_;rw[e];refine M.around ?_;refine gU M.ar ?_;refine wC.of true (by simp) ?_;refine dO (M.jG _ (by decide)) ?_;exact EG M v s hd a b
theorem jd{c:C}{i:Nat}(g:Gd c)(v:Vp c i)(M:aW r l (bE c i) (F++[(c,i)]) h)(e:Co.ended (bE c i)=true)(s:F.length+1+c.depth<SZ)(hd:c.depth<=900)
  (b:i<cu c->∀I,ak r l h I->aW r l (eT (bE c (i+1))) (F++[(c,i+1)]++a8 (bE c (i+1))) I->Po (iw (run T (m+2)) n [some (.ref r)] I) (wF N Q) X)
  (k:i=cu c->∀I,ak r l h I->aW r l c F I->Po (iw (run T (m+2)) n [some (.ref r)] I) (wF N Q) X):Po (iw (run T (m+2)) (n+1) [some (.ref r)] h) (wF N Q) X:=by
 refine zj M (v.gd g) (lF _ e) v (by rw[v.same];exact s) (fun j a=>?_) (fun z I g1 W=>?_) fun z I g1 W=>?_
 .rw[v.same] at a⊢;have:=a.deep
  lia
 .rw[v.same] at W;exact b z I g1 W
 .rw[v.same] at W;exact k z I g1 W
theorem yv:∀(c:C)(F:Fs)(h:Hp)(n:Nat),Gd c->c.depth<=900->F.length+c.depth+1<SZ->aW r l (eT c) (F++a8 c) h->(Co.ended c=true->∀I,ak r l h I->aW r l c F I->Po (iw (run T (m+2)) (n+1) [some (.ref r)] I) (wF N Q) X)->(Co.ended c=false->∀I,ak r l h I->aW r l (aC c) (F++fr c) I->N [some (.ref r)] I)->Po (iw (run T (m+2)) (nS c+(n+1)) [some (.ref r)] h) (wF N Q) X:=by
 have U:∀(c:C),nS c=0->a8 c=[]->eT c=c->fr c=[]->aC c=c->eI c=Co.ended c->∀(F:Fs)(h:Hp)(n:Nat),Gd c->c.depth<=900->F.length+c.depth+1<SZ->aW r l (eT c) (F++a8 c) h->(Co.ended c=true->∀I,ak r l h I->aW r l c F I->Po (iw (run T (m+2)) (n+1) [some (.ref r)] I) (wF N Q) X)->(Co.ended c=false->∀I,ak r l h I->aW r l (aC c) (F++fr c) I->N [some (.ref r)] I)->Po (iw (run T (m+2)) (nS c+(n+1)) [some (.ref r)] h) (wF N Q) X:=by
  intro c K L O e4 e5 e6 F h n g hd s M k q;rw[K,Nat.zero_add];rw[L,O,fK] at M;rw[e4,e5,fK] at q;cases e:Co.ended c with
  |true=>exact k e h (ak.refl _ _ _) M
  |false=>exact kg M g (.inl (by rw[e6,e])) (q e h (ak.refl _ _ _) M)
 have v:∀(c:C)(F:Fs)(h J:Hp)(n j:Nat),Gd c->Co.ended c=eI c->fr c=[]->aC c=c->ak r l h J->aW r l c F J->(Co.ended c=true->∀I,ak r l h I->aW r l c F I->Po (iw (run T (m+2)) (n+1) [some (.ref r)] I) (wF N Q) X)->(Co.ended c=false->∀I,ak r l h I->aW r l (aC c) (F++fr c) I->N [some (.ref r)] I)->(Co.ended c=true->j=n)->Po (iw (run T (m+2)) (j+1) [some (.ref r)] J) (wF N Q) X:=by
  intro c F h J n j g K L O g1 M k q hj;rw[L,O,fK] at q;cases e:Co.ended c with
  |true=>rw[hj e];exact k e J g1 M
  |false=>exact kg M g (.inl (by rw[<-K,e])) (q e J g1 M)
 intro c
 induction c with
 |num i=>exact U _ rfl rfl rfl rfl rfl rfl
 |yes=>exact U _ rfl rfl rfl rfl rfl rfl
 |no=>exact U _ rfl rfl rfl rfl rfl rfl
 |var i=>exact U _ rfl rfl rfl rfl rfl rfl
 |ah k=>exact U _ rfl rfl rfl rfl rfl rfl
 |like k=>exact U _ rfl rfl rfl rfl rfl rfl
 |fn k x _=>exact U _ rfl rfl rfl rfl rfl rfl
 |en x u _ _=>exact U _ rfl rfl rfl rfl rfl rfl
 |n1 t a o=>
  intro F h n g hd s M k q;simp only[Co.depth] at hd s;rw[nS,show nS a+1+(n+1)=nS a+((n+1)+1) by lia];refine o (F++[(.n1 t a,1)]) h (n+1) g (by lia) (by simp;lia) (by simpa [a8,eT] using M) (fun Y J g1 W=>?_) fun Y J g1 W=>?_
  .refine jd g .n1 W Y (by simp only[Co.depth];lia) (by simpa [Co.depth] using hd) (fun z=>absurd z (by simp[cu])) fun _ Z B d=>?_;exact v (.n1 t a) F h Z n n g (by rw[lV,Y,Bool.and_true]) (by simp[fr,Y]) (by simp[aC,Y]) (g1.trans B) d k q fun _=>rfl
  .exact q (by rw[lV,Y,nK]) J g1 (by simpa [fr,aC,Y] using W)
 |n2 t a b o R=>
  intro F h n g hd s M k q;simp only[Co.depth] at hd s;rw[nS,show nS a+nS b+2+(n+1)=nS a+((nS b+(n+1)+1)+1) by lia];refine o (F++[(.n2 t a b,1)]) h _ g.1 (by lia) (by simp;lia) (by simpa [a8,eT] using M) (fun Y J g1 W=>?_) fun Y J g1 W=>?_
  .refine jd g .iB W Y (by simp only[Co.depth];lia) (by simpa [Co.depth] using hd) (fun _ Z B d=>?_) fun z=>absurd z (by simp[cu]);rw[show nS b+(n+1)+1=nS b+((n+1)+1) by lia];refine R (F++[(Co.n2 t a b,2)]) Z (n+1) g.2 (by lia) (by simp;lia) (show aW r l (eT b) (F++[(Co.n2 t a b,2)]++a8 b) Z from d) (fun V G H f=>?_) fun V G H f=>?_
   .refine jd g .gE f V (by simp only[Co.depth];lia) (by simpa [Co.depth] using hd) (fun z=>absurd z (by simp[cu])) fun _ A y D=>?_;exact v (.n2 t a b) F h A n n g (by rw[fo,Y,V];simp) (by simp[fr,Y,V]) (by simp[aC,Y,V]) (((g1.trans B).trans H).trans y) D k q fun _=>rfl
   .exact q (by rw[fo,V,nK,nK]) G ((g1.trans B).trans H) (by simpa [fr,aC,Y,V] using f)
  .exact q (by rw[fo,Y,Bool.false_and,nK]) J g1 (by simpa [fr,aC,Y] using W)
 |n3 t a b c o R ic=>
  intro F h n g hd s M k q;have q:=q (mM t a b c).1;simp only[Co.depth] at hd s;cases t with
  |aQ=>
   rw[nS,show nS a+1+(n+1)=nS a+((n+1)+1) by lia];refine o (F++[(.n3 .aQ a b c,1)]) h (n+1) g.1 (by lia) (by simp;lia) (by simpa [a8,eT] using M) (fun Y J g1 W=>?_) fun Y J g1 W=>?_
   .refine jd g .fy W Y (by simp only[Co.depth];lia) (by simpa [Co.depth] using hd) (fun z=>absurd z (by simp[cu])) fun _ Z B d=>?_;exact kg d g (.inl rfl) (q Z (g1.trans B) (by simpa [fr,aC,Y] using d))
   .exact q J g1 (by simpa [fr,aC,Y] using W)
  |fold=>
   rw[nS,show nS a+nS b+nS c+3+(n+1)=nS a+((nS b+((nS c+(n+1)+1)+1))+1) by lia];refine o (F++[(.n3 .fold a b c,1)]) h _ g.1 (by lia) (by simp;lia) (by simpa [a8,eT] using M) (fun Y J g1 W=>?_) fun Y J g1 W=>?_
   .refine jd g .fy W Y (by simp only[Co.depth];lia) (by simpa [Co.depth] using hd) (fun _ Z B d=>?_) fun z=>absurd z (by simp[cu]);refine R (F++[(Co.n3 .fold a b c,2)]) Z _ g.2.1 (by lia) (by simp;lia) (show aW r l (eT b) (F++[(Co.n3 .fold a b c,2)]++a8 b) Z from d) (fun V G H f=>?_) fun V G H f=>?_
    .refine jd g .gC f V (by simp only[Co.depth];lia) (by simpa [Co.depth] using hd) (fun _ A y D=>?_) fun z=>absurd z (by simp[cu]);rw[show nS c+(n+1)+1=nS c+((n+1)+1) by lia];refine ic (F++[(Co.n3 .fold a b c,3)]) A _ g.2.2 (by lia) (by simp;lia) (show aW r l (eT c) (F++[(Co.n3 .fold a b c,3)]++a8 c) A from D) (fun w h5 P E=>?_) fun w h5 P E=>?_
     .refine jd g .fN E w (by simp only[Co.depth];lia) (by simpa [Co.depth] using hd) (fun z=>absurd z (by simp[cu])) fun _ h6 g6 S=>?_;exact kg S g (.inl rfl) (q h6 (((((g1.trans B).trans H).trans y).trans P).trans g6) (by simpa [fr,aC,Y,V,w] using S))
     .exact q h5 ((((g1.trans B).trans H).trans y).trans P) (by simpa [fr,aC,Y,V,w] using E)
    .exact q G ((g1.trans B).trans H) (by simpa [fr,aC,Y,V] using f)
   .exact q J g1 (by simpa [fr,aC,Y] using W)
end
def aT(F:Fs)(p:C):C:=F.foldr (fun f p=>aN f.1 f.2 p) p
section
variable {r l:Nat}{p c:C}{F:Fs}{h:Hp}{Q:Wq}{X:Xq}{m n:Nat}{N:Nq}
theorem pZ(M:aW r l p F h)(g:Gd p)(q:Q (.bl (F.isEmpty&&eI p)) h):Po (run T (m+3) fG [.ref r] h) Q X:=by
 refine wp_run nU rfl ?_;refine M.around ?_;refine gU M.ar ?_;cases F with
 |nil=>
  refine wC.of true (by simp) ?_;refine M.part ?_;exact Po.ok (tV m p g h) q
 |cons f F=>
  refine wC.of false (by simp;lia) ?_;exact q
theorem JY{a:C}{k:W}(M:aW r l p F h)(e:Rd p a)(q:∀I,ak r l h I->aW r l a F I->Q .ah I):Po (run T (m+9) dI [.ref r,k] h) Q X:=by refine wp_run iZ rfl ?_;refine M.part ?_;refine AM (m:=m) e fun J g1=>?_;have b:aW r l p F J:=⟨g1.keep _ _ M.ob,g1.keep _ _ M.ar,M.ne⟩;exact b.AU a fun Z B i=>q Z ((ak.of g1).trans B) i
theorem CK(k:Nat)(s:h[l]?=some (.lst (F.map yB)))(d:∀f∈F,Vp f.1 f.2):∀(n:Nat)(p:C)(t a:Option W),n<=F.length->∃i x,fT l (.two 2 3) (aJ (run T (k+1)) dj) n [some (.ref r),some (Co.ae p),t,a] h=.ok (.next [some (.ref r),some (Co.ae (aT (F.take n) p)),i,x]) h
 |0,p,t,a,_=>⟨t,a,rfl⟩
 |n+1,p,t,a,hn=>by
  have g:F[n]?=some F[n]:=lN (by lia);have v:=d F[n] (vC _);obtain⟨i,x,e⟩:=CK k s d n (aN F[n].1 F[n].2 p) (some (Co.ae F[n].1)) (some (.int (F[n].2:Int))) (by lia);refine⟨i,x,?_⟩;rw[fT];simp only[eC,s,lP,g,Option.map_some,turn,qW];have w:=ot k v p h;have b:aJ (run T (k+1)) dj [some (.ref r),some (Co.ae p),some (Co.ae F[n].1),some (.int (F[n].2:Int))] h=.ok (.next [some (.ref r),some (Co.ae (aN F[n].1 F[n].2 p)),some (Co.ae F[n].1),some (.int (F[n].2:Int))]) h:=by show ((run T (k+1) gQ [Co.ae F[n].1,.int (F[n].2:Int),Co.ae p] h).bind _).bind _=_;rw[w];rfl
  simp only[List.set,b,R.aZ,e];have j:F.take (n+1)=F.take n++[F[n]]:=List.take_succ_eq_append_getElem (by lia);simp only[aT,j,List.foldr_append,List.foldr]
theorem Ez(M:aW r l p F h)(x:∀f∈F,Vp f.1 f.2)(hd:(aT F p).depth<=900)(q:∀I,ai h I->Q (Co.ae (strip (aT F p))) I):Po (run T (m+5) gI [.ref r] h) Q X:=by
 refine wp_run qo rfl ?_;refine M.part ?_;obtain⟨b,k,e⟩:=CK (r:=r) (m+3) M.ar x F.length p none none (aA _);rw[List.take_length] at e;have K:dA (run T (m+4)) (.for (.two 2 3) (.rev (.fld (.var 0) gz)) dj) [some (.ref r),some (Co.ae p),none,none] h=.ok (.next [some (.ref r),some (Co.ae (aT F p)),b,k]) h:=by
  rw[y7,vE,HC,sE (i:=0) rfl,R.aZ];have a:field (.ref r) gz h=some (.ref l):=by simp only[field,M.ob];rfl
  rw[a];simp only[R.Hk,R.aZ,M.ar,i9];exact e
 refine Po.ok K ?_;exact qD (aT F p) hd q
end
noncomputable def Pl:C->Prop
 |.fn _ c=>Pl c
 |.n1 _ a=>Pl a
 |.n2 _ a b=>Pl a/\Pl b
 |.n3 _ a b c=>Pl a/\Pl b/\Pl c
 |.en _ _=>False
 |_=>True
theorem Ty.pl{A:List Kd}{c:C}{t:Kd}(h:Ty A c t):Pl c:=by
 induction h with
 |fn _ i=>exact i
 |left _ i=>exact i
 |right _ i=>exact i
 |bQ _ i=>exact i
 |call _ _ i j=>exact⟨i,j⟩
 |both _ _ i j=>exact⟨i,j⟩
 |more _ _ i j=>exact⟨i,j⟩
 |sum _ _ i j=>exact⟨i,j⟩
 |less _ _ i j=>exact⟨i,j⟩
 |bK _ _ i j=>exact⟨i,j⟩
 |fold _ _ _ i j k=>exact⟨i,j,k⟩
 |aQ _ _ _ i j k=>exact⟨i,j,k⟩
 |_=>trivial
theorem Ku:∀(c:C)(n:Nat),Pl c->res c8 n c=c:=by
 intro c
 induction c with
 |fn k x i=>intro n h;simp only[res,i (n+1) h]
 |n1 t x i=>intro n h;simp only[res,i n h]
 |n2 t x y i j=>intro n h;simp only[res,i n h.1,j n h.2]
 |n3 t x y z i j k=>intro n h;simp only[res,i n h.1,j n h.2.1,k n h.2.2]
 |en a u _ _=>intro n h;exact h.elim
 |_=>intro n h;rfl
theorem yK{c:C}(h:Pl c):bare c=c:=by cases c<;>first|rfl|exact h.elim
theorem mm{a b c d:Nat}(h:a<=c)(g:b<=d):max a b<=max c d:=ie.mpr ⟨aF h (b8 _ _),aF g (bD _ _)⟩
theorem Fv:∀(c:C)(n:Nat),c.depth<=(res c8 n c).depth:=by
 intro c
 induction c with
 |fn k x i=>exact fun n=>cY (i (n+1))
 |n1 t x i=>exact fun n=>cY (i n)
 |n2 t x y i j=>exact fun n=>cY (mm (i n) (j n))
 |n3 t x y z i j k=>exact fun n=>cY (mm (i n) (mm (j n) (k n)))
 |_=>intro n;exact bw _
theorem Gq{l x y:C}{k:Kd}(p:Ty [] l (lk k))(v:bF l=true)(b:Ty [] x k)(ex:Co.ended x=true)(c:Ty [] y k)(a:Co.ended y=true):Cm l x y (compared l x y):=by
 cases p with
 |jv=>
  obtain⟨i,rfl⟩:=bS b ex;obtain⟨j,rfl⟩:=bS c a;have:=@Cm.num i j;simp only[compared,AE,az];exact this
 |ju=>rcases iq b ex with rfl|rfl<;>rcases iq c a with rfl|rfl<;>constructor
 |bQ J=>rcases fF b ex with rfl|⟨N,P,rfl,f,K,q,t⟩<;>rcases fF c a with rfl|⟨m,o,rfl,h,n,d,g⟩<;>constructor
 |bK J Z=>
  obtain⟨N,P,rfl,f,K,q,t⟩:=cH b ex;obtain⟨m,o,rfl,h,n,d,g⟩:=cH c a;constructor
 |var e=>simp at e
 |fn _=>simp[bF,bare,cg] at v
 |left _=>simp[bF,bare,cg] at v
 |right _=>simp[bF,bare,cg] at v
 |call _ _=>simp[bF,bare,cg] at v
 |fold _ _ _=>simp[bF,bare,cg] at v
 |aQ _ _ _=>simp[bF,bare,cg] at v
noncomputable def eB:C->Prop
 |.en _ _=>False
 |_=>True
noncomputable def Wm:C->Prop
 |.fn _ c=>Wm c
 |.n1 _ a=>Wm a
 |.n2 _ a b=>Wm a/\Wm b
 |.n3 _ a b c=>Wm a/\Wm b/\Wm c
 |.en x u=>Wm x/\eB x/\Co.ended x=true/\strip x=u/\Pl u/\u.closed
 |_=>True
theorem Nf:∀(c:C)(n:Nat),res c8 n c=strip c:=by
 intro c
 induction c with
 |fn k x i=>intro n;show Co.fn k (res c8 (n+1) x)=Co.fn k (res c8 1 x);rw[i (n+1),i 1]
 |n1 t x i=>intro n;show Co.n1 t (res c8 n x)=Co.n1 t (res c8 0 x);rw[i n,i 0]
 |n2 t x y i j=>intro n;show Co.n2 t (res c8 n x) (res c8 n y)=Co.n2 t (res c8 0 x) (res c8 0 y);rw[i n,i 0,j n,j 0]
 |n3 t x y z i j k=>intro n;show Co.n3 t (res c8 n x) (res c8 n y) (res c8 n z)=Co.n3 t (res c8 0 x) (res c8 0 y) (res c8 0 z);rw[i n,i 0,j n,j 0,k n,k 0]
 |_=>intro n;rfl
theorem ji(k:Kd)(c:C):strip (.fn k c)=.fn k (strip c):=by show Co.fn k (res c8 1 c)=_;rw[Nf]
theorem mF(t:T1)(a:C):strip (.n1 t a)=.n1 t (strip a):=rfl
theorem jz(t:T2)(a b:C):strip (.n2 t a b)=.n2 t (strip a) (strip b):=rfl
theorem eR(t:T3)(a b c:C):strip (.n3 t a b c)=.n3 t (strip a) (strip b) (strip c):=rfl
theorem Pl.wm:∀{c:C},Pl c->Wm c:=by
 intro c
 induction c with
 |fn k x i=>exact fun h=>i h
 |n1 t x i=>exact fun h=>i h
 |n2 t x y i j=>exact fun h=>⟨i h.1,j h.2⟩
 |n3 t x y z i j k=>exact fun h=>⟨i h.1,j h.2.1,k h.2.2⟩
 |en a u _ _=>exact fun h=>h.elim
 |_=>exact fun _=>trivial
theorem Wm.pl:∀{c:C},Wm c->Pl (strip c):=by
 intro c
 induction c with
 |fn k x i=>intro h;rw[ji];exact i h
 |n1 t x i=>exact fun h=>i h
 |n2 t x y i j=>exact fun h=>⟨i h.1,j h.2⟩
 |n3 t x y z i j k=>exact fun h=>⟨i h.1,j h.2.1,k h.2.2⟩
 |en a u _ _=>exact fun h=>h.2.2.2.2.1
 |_=>exact fun _=>trivial
theorem Tz{x:C}(h:eB x):cg (strip x)=cg x:=by rcases x with _|_|_|_|_|_|_|⟨_|_|_,_⟩|⟨_|_|_|_|_|_,_,_⟩|⟨_|_,_,_,_⟩|_<;>first|rfl|exact h.elim
theorem gq{a:C}(h:Wm a):Wm (bare a)/\eB (bare a)/\strip (bare a)=strip a:=by cases a<;>first|exact⟨h,trivial,rfl⟩|exact⟨h.1,h.2.1,h.2.2.2.1⟩
theorem xX{a:C}(h:Wm a):bF (strip a)=bF a:=by obtain⟨w,n,e⟩:=gq h;unfold bF;rw[yK h.pl,<-e];exact Tz n
theorem aD:∀{c:C},Wm c->Co.ended (strip c)=Co.ended c:=by
 intro c
 induction c with
 |fn k x i=>intro h;rfl
 |n1 t x i=>intro h;cases t<;>first|rfl|exact i h
 |n2 t x y i j=>
  intro h;cases t<;>simp only[jz,Co.ended,i h.1,j h.2,xX h.1]
 |n3 t x y z i j k=>intro h;cases t<;>rfl
 |en a u i _=>
  intro h;show Co.ended u=true;rw[<-h.2.2.2.1,i h.1];exact h.2.2.1
 |_=>intro h;rfl
theorem kR:∀{c:C},Wm c->Gd (strip c)->Gd c:=by
 intro c
 induction c with
 |fn k x i=>intro h g;rw[ji] at g;exact i h g
 |n1 t x i=>exact fun h g=>i h g
 |n2 t x y i j=>exact fun h g=>⟨i h.1 g.1,j h.2 g.2⟩
 |n3 t x y z i j k=>exact fun h g=>⟨i h.1 g.1,j h.2.1 g.2.1,k h.2.2 g.2.2⟩
 |en a u i _=>exact fun h g=>⟨i h.1 (by rw[h.2.2.2.1];exact g),g⟩
 |_=>exact fun _ g=>g
theorem j8(c:C):c.depth<=(strip c).depth:=Fv c 0
section
variable {x a b:C}{k:Kd}{i:Int}{t:T1}{u:T2}
theorem Nd(n:eB x)(e:strip x=.num i):x=.num i:=by cases x<;>first|exact n.elim|exact e|(simp[strip,res,c8] at e)
theorem NS(n:eB x)(e:strip x=.yes):x=.yes:=by cases x<;>first|exact n.elim|exact e|(simp[strip,res,c8] at e)
theorem Rj(n:eB x)(e:strip x=.no):x=.no:=by cases x<;>first|exact n.elim|exact e|(simp[strip,res,c8] at e)
theorem NX(n:eB x)(e:strip x=.ah k):x=.ah k:=by cases x<;>first|exact n.elim|exact e|(simp[strip,res,c8] at e)
theorem KG(n:eB x)(e:strip x=.like k):x=.like k:=by cases x<;>first|exact n.elim|exact e|(simp[strip,res,c8] at e)
theorem QI(n:eB x)(e:strip x=.fn k b):∃h,x=.fn k h/\strip h=b:=by
 cases x with
 |fn j c=>rw[ji] at e;cases e;exact⟨c,rfl,rfl⟩
 |_=>first|exact n.elim|(simp[strip,res,c8] at e)
theorem EV(n:eB x)(e:strip x=.n1 t a):∃h,x=.n1 t h/\strip h=a:=by
 cases x with
 |n1 s c=>rw[mF] at e;cases e;exact⟨c,rfl,rfl⟩
 |_=>first|exact n.elim|(simp[strip,res,c8] at e)
theorem tZ(n:eB x)(e:strip x=.n2 u a b):∃h p,x=.n2 u h p/\strip h=a/\strip p=b:=by
 cases x with
 |n2 s c d=>rw[jz] at e;cases e;exact⟨c,d,rfl,rfl,rfl⟩
 |_=>first|exact n.elim|(simp[strip,res,c8] at e)
variable {c:C}
theorem eE(w:Wm c)(e:strip c=.num i):bare c=.num i:=by obtain⟨_,n,z⟩:=gq w;exact Nd n (z.trans e)
theorem lx(w:Wm c)(e:strip c=.yes):bare c=.yes:=by obtain⟨_,n,z⟩:=gq w;exact NS n (z.trans e)
theorem sO(w:Wm c)(e:strip c=.no):bare c=.no:=by obtain⟨_,n,z⟩:=gq w;exact Rj n (z.trans e)
theorem rH(w:Wm c)(e:strip c=.ah k):bare c=.ah k:=by obtain⟨_,n,z⟩:=gq w;exact NX n (z.trans e)
theorem oX(w:Wm c)(e:strip c=.like k):bare c=.like k:=by obtain⟨_,n,z⟩:=gq w;exact KG n (z.trans e)
theorem Kf(w:Wm c)(e:strip c=.fn k b):∃h,bare c=.fn k h/\strip h=b/\Wm h:=by obtain⟨v,n,z⟩:=gq w;obtain⟨h,f,s⟩:=QI n (z.trans e);rw[f] at v;exact⟨h,f,s,v⟩
theorem Qx(w:Wm c)(e:strip c=.n1 t a):∃h,bare c=.n1 t h/\strip h=a/\Wm h:=by obtain⟨v,n,z⟩:=gq w;obtain⟨p,f,s⟩:=EV n (z.trans e);rw[f] at v;exact⟨p,f,s,v⟩
theorem iF(w:Wm c)(e:strip c=.n2 u a b):∃h p,bare c=.n2 u h p/\strip h=a/\strip p=b/\Wm h/\Wm p:=by obtain⟨v,n,z⟩:=gq w;obtain⟨h,p,f,s,r⟩:=tZ n (z.trans e);rw[f] at v;exact⟨h,p,f,s,r,v.1,v.2⟩
end
theorem w9{m:Nat}(h:up m=0):m=0:=by unfold up at h;split at h<;>lia
theorem yj(v:C):∀(c:C)(n:Nat),c.vd n=0->Co.into v n c=c:=by
 intro c
 induction c with
 |var i=>intro n h;simp only[Co.vd] at h;simp only[Co.into];by_cases e:i=n<;>simp[e] at h⊢
 |fn k x i=>intro n h;simp only[Co.vd] at h;simp only[Co.into,i (n+1) (w9 h)]
 |n1 t x i=>intro n h;simp only[Co.vd] at h;simp only[Co.into,i n (w9 h)]
 |n2 t x y i j=>intro n h;simp only[Co.vd] at h;simp only[Co.into,i n (w9 (by lia)),j n (w9 (by lia))]
 |n3 t x y z i j k=>intro n h;simp only[Co.vd] at h;simp only[Co.into,i n (w9 (by lia)),j n (w9 (by lia)),k n (w9 (by lia))]
 |_=>intro n h;rfl
theorem BP(v:C):strip (rU v)=strip v:=by cases v<;>rfl
theorem Aw(v:C):∀(c:C)(n:Nat),Wm c->strip (Co.into (rU v) n c)=Co.into (strip v) n (strip c):=by
 intro c
 induction c with
 |var i=>
  intro n _;simp only[Co.into];show _=Co.into (strip v) n (.var i);simp only[Co.into];by_cases e:i=n
  .rw[if_pos e,if_pos e,BP]
  .rw[if_neg e,if_neg e];rfl
 |fn k x i=>intro n h;simp only[Co.into,ji,i (n+1) h]
 |n1 t x i=>intro n h;simp only[Co.into,mF,i n h]
 |n2 t x y i j=>intro n h;simp only[Co.into,jz,i n h.1,j n h.2]
 |n3 t x y z i j k=>intro n h;simp only[Co.into,eR,i n h.1,j n h.2.1,k n h.2.2]
 |en a u _ _=>intro n h;show u=Co.into (strip v) n u;rw[yj _ u n (h.2.2.2.2.2 n)]
 |_=>intro n h;rfl
theorem Hw{v:C}(w:Wm v):∀(c:C)(n:Nat),Wm c->Wm (Co.into v n c):=by
 intro c
 induction c with
 |var i=>intro n _;simp only[Co.into];by_cases e:i=n<;>simp only[e,bU,bp]<;>first|exact w|trivial
 |fn k x i=>exact fun n h=>i (n+1) h
 |n1 t x i=>exact fun n h=>i n h
 |n2 t x y i j=>exact fun n h=>⟨i n h.1,j n h.2⟩
 |n3 t x y z i j k=>exact fun n h=>⟨i n h.1,j n h.2.1,k n h.2.2⟩
 |en a u _ _=>exact fun n h=>h
 |_=>exact fun n h=>trivial
theorem Km{v:C}{k:Kd}(w:Wm v)(e:Co.ended v=true)(b:Ty [] (strip v) k):Wm (rU v):=by
 have:eB v->rU v=.en v (strip v):=fun n=>by cases v<;>first|rfl|exact n.elim
 cases v with
 |en a u=>exact w
 |_=>rw[this trivial];exact⟨w,trivial,e,rfl,b.pl,b.closed⟩
noncomputable def Rx:C->Prop
 |.n1 t a=>Co.ended a=true/\eI (.n1 t a)=false
 |.n2 t a b=>Co.ended a=true/\Co.ended b=true/\eI (.n2 t a b)=false
 |.n3 .fold a b c=>Co.ended a=true/\Co.ended b=true/\Co.ended c=true
 |.n3 .aQ a _ _=>Co.ended a=true
 |.var _=>True
 |_=>False
theorem Rx.eI{c:C}(h:Rx c):K06.eI c=false:=by
 cases c with
 |n1 t a=>exact h.2
 |n2 t a b=>exact h.2.2
 |n3 t a b c=>exact (mM t a b c).2
 |var i=>rfl
 |_=>exact h.elim
theorem Rx.ne{c:C}(h:Rx c):Co.ended c=false:=by
 cases e:Co.ended c with
 |false=>rfl
 |true=>have:=lF c e;rw[h.eI] at this;cases this
theorem Nk{l x y:C}{k:Kd}(m:Wm l)(b:Wm x)(c:Wm y)(K:Ty [] (strip l) (lk k))(v:bF (strip l)=true)(f:Ty [] (strip x) k)(ex:Co.ended (strip x)=true)(g:Ty [] (strip y) k)(d:Co.ended (strip y)=true):∃r,Cm (bare l) (bare x) (bare y) r/\Wm r/\strip r=compared (strip l) (strip x) (strip y):=by
 generalize s:strip l=L at K v;cases K with
 |jv=>
  obtain⟨i,I⟩:=bS f ex;obtain⟨j,J⟩:=bS g d;rw[oX m s,eE b I,eE c J,I,J];refine⟨_,.num,?_,?_⟩
  .by_cases z:i=j<;>simp[z,Wm]
  .simp only[compared,AE,az];by_cases z:i=j<;>simp only[z,bU,bp]<;>rfl
 |ju=>
  rw[oX m s];rcases iq f ex with X|X<;>rcases iq g d with O|O
  .rw[lx b X,lx c O,X,O];exact⟨_,.yy,trivial,rfl⟩
  .rw[lx b X,sO c O,X,O];exact⟨_,.yn,trivial,rfl⟩
  .rw[sO b X,lx c O,X,O];exact⟨_,.ny,trivial,rfl⟩
  .rw[sO b X,sO c O,X,O];exact⟨_,.nn,trivial,rfl⟩
 |bQ M=>
  obtain⟨N,bl,R,h⟩:=Qx m s;rw[bl];rcases fF f ex with X|⟨S,U,X,_,_,_,_⟩<;>rcases fF g d with O|⟨V,W,O,_,_,_,_⟩
  .rw[rH b X,rH c O,X,O];exact⟨_,.ee,trivial,rfl⟩
  .obtain⟨p,q,a,_,_,_,_⟩:=iF c O;rw[rH b X,a,X,O];exact⟨_,.em,trivial,rfl⟩
  .obtain⟨p,q,n,_,_,_,_⟩:=iF b X;rw[n,rH c O,X,O];exact⟨_,.me,trivial,rfl⟩
  .obtain⟨p,q,n,o,t,D,E⟩:=iF b X;obtain⟨P,Q,a,u,w,F,G⟩:=iF c O;rw[n,a,X,O];refine⟨_,.mm,⟨⟨⟨h,D⟩,F⟩,⟨⟨h,E⟩,G⟩,trivial⟩,?_⟩;rw[<-R,<-o,<-t,<-u,<-w];rfl
 |bK M Z=>
  obtain⟨N,Y,bl,A,B,h,H⟩:=iF m s;obtain⟨S,U,X,_,_,_,_⟩:=cH f ex;obtain⟨V,W,O,_,_,_,_⟩:=cH g d;obtain⟨p,q,n,o,t,D,E⟩:=iF b X;obtain⟨P,Q,a,u,w,F,G⟩:=iF c O;rw[bl,n,a,X,O];refine⟨_,.bb,⟨⟨⟨h,D⟩,F⟩,⟨⟨H,E⟩,G⟩,trivial⟩,?_⟩;rw[<-A,<-B,<-o,<-t,<-u,<-w];rfl
 |var e=>simp at e
 |fn _=>simp[bF,bare,cg] at v
 |left _=>simp[bF,bare,cg] at v
 |right _=>simp[bF,bare,cg] at v
 |call _ _=>simp[bF,bare,cg] at v
 |fold _ _ _=>simp[bF,bare,cg] at v
 |aQ _ _ _=>simp[bF,bare,cg] at v
def Pg(q:C):Prop:=∃a,Rd q a/\Wm a/\strip a=Co.aj (strip q)
theorem prog{q:C}{t:Kd}(rx:Rx q)(w:Wm q)(h:Ty [] (strip q) t)(d:(strip q).depth<=900):Pg q:=by
 cases q with
 |num _=>exact rx.elim
 |yes=>exact rx.elim
 |no=>exact rx.elim
 |ah _=>exact rx.elim
 |like _=>exact rx.elim
 |fn _ _=>exact rx.elim
 |en _ _=>exact rx.elim
 |var i=>cases h with|var e=>simp at e
 |n1 D a=>
  rw[mF] at h d;have E:Wm a:=w;have B:Co.ended (strip a)=true:=by rw[aD E];exact rx.1
  unfold Pg;rw[mF];simp only[Co.aj,B,bU];cases h with
  |left J=>
   obtain⟨N,P,e,_,_,_,_⟩:=cH J B;obtain⟨p,q,b,m,o,u,y⟩:=iF E e;exact⟨p,.left b,u,by rw[e,m];rfl⟩
  |right J=>
   obtain⟨N,P,e,_,_,_,_⟩:=cH J B;obtain⟨p,q,b,m,o,u,y⟩:=iF E e;exact⟨q,.right b,y,by rw[e,o];rfl⟩
  |bQ J=>have:=rx.2;cases this
 |n2 D a b=>
  rw[jz] at h d;have Y:Co.ended (strip a)=true:=by rw[aD w.1];exact rx.1
  have V:Co.ended (strip b)=true:=by rw[aD w.2];exact rx.2.1
  have g:=rx.2.2;unfold Pg;rw[jz];simp only[Co.aj,Y,V,bU];simp only[Co.depth] at d;cases h with
  |both J Z=>cases g
  |more J Z=>cases g
  |bK J Z=>cases g
  |sum J Z=>
   obtain⟨i,n⟩:=bS J Y;obtain⟨j,x⟩:=bS Z V;exact⟨_,.sum (eE w.1 n) (eE w.2 x),trivial,by rw[n,x];rfl⟩
  |less J Z=>
   obtain⟨i,n⟩:=bS J Y;obtain⟨j,x⟩:=bS Z V;refine⟨_,.less (eE w.1 n) (eE w.2 x),?_,?_⟩
   .by_cases z:i<j<;>simp only[z,bU,bp]<;>trivial
   .rw[n,x];rw[lB];by_cases z:i<j<;>simp only[z,bU,bp]<;>rfl
  |call J Z=>
   rcases m7 J Y with ⟨X,e,hb⟩|⟨f,_⟩|⟨l,v,e,f,el,F,I,K,rfl⟩
   .obtain⟨A,k,s,L⟩:=Kf w.1 e;rw[e] at d;simp only[Co.depth] at d;refine⟨_,.fn k ?_ ?_,Hw (Km w.2 rx.2.1 Z) A 0 L,?_⟩
    .have:=j8 A;rw[s] at this;lia
    .have:=j8 b;lia
    .rw[Aw b A 0 L,e,s];rfl
   .rw[xX w.1] at f;simp only[eI,f] at g;cases g
   .obtain⟨l0,x0,k,G,H,S,W⟩:=iF w.1 e;rw[<-G] at I f;rw[<-H] at K F;obtain⟨r,M,U,R⟩:=Nk S W w.2 I f K F Z V;refine⟨r,.ask k M,U,?_⟩;rw[R,e,G,H];rfl
 |n3 D a b c=>
  cases D with
  |fold=>
   rw[eR] at h d;have Y:Co.ended (strip a)=true:=by rw[aD w.1];exact rx.1
   have V:Co.ended (strip b)=true:=by rw[aD w.2.1];exact rx.2.1
   have O:Co.ended (strip c)=true:=by rw[aD w.2.2];exact rx.2.2
   unfold Pg;rw[eR];simp only[Co.aj,Y,V,O,bU];cases h with
   |fold J Z Q=>
    rcases fF J Y with e|⟨N,P,e,_,_,_,_⟩
    .exact⟨b,.FK (rH w.1 e),w.2.1,by rw[e];rfl⟩
    .obtain⟨p,q,k,m,o,u,y⟩:=iF w.1 e;refine⟨_,.Gf k,⟨⟨w.2.2,u⟩,y,w.2.1,w.2.2⟩,?_⟩;rw[e,<-m,<-o];rfl
  |aQ=>
   rw[eR] at h d;have Y:Co.ended (strip a)=true:=by rw[aD w.1];exact rx
   unfold Pg;rw[eR];simp only[Co.aj,Y,bU];cases h with
   |aQ J Z Q=>
    rcases iq J Y with e|e
    .exact⟨b,.yes (lx w.1 e),w.2.1,by rw[e]⟩
    .exact⟨c,.no (sO w.1 e),w.2.2,by rw[e]⟩
theorem Iw{q a b:C}(w:Wm q)(rx:Rx q)(e:strip q=.n3 .aQ .yes a b):Pg q:=by
 cases q with
 |n3 t x y z=>
  rw[eR] at e;cases c:strip x with
  |yes=>
   rw[c] at e;have h:t=.aQ:=by injection e
   subst h;refine⟨y,.yes (lx w.1 c),w.2.1,?_⟩;rw[eR,c];rfl
  |_=>rw[c] at e;injection e with _ z;cases z
 |_=>first|exact rx.elim|(simp[strip,res,c8] at e)
inductive Fp:C->Nat->Prop
 |n1 {t a}:Fp (.n1 t a) 1
 |iB {t a b}:Fp (.n2 t a b) 1
 |gE {t a b}:Co.ended a=true->Fp (.n2 t a b) 2
 |fy {t a b c}:Fp (.n3 t a b c) 1
 |gC {a b c}:Co.ended a=true->Fp (.n3 .fold a b c) 2
 |fN {a b c}:Co.ended a=true->Co.ended b=true->Fp (.n3 .fold a b c) 3
abbrev Fr(F:Fs):Prop:=∀f∈F,Fp f.1 f.2
section
variable {c p p' q x y:C}{i:Nat}{F G:Fs}{t:Kd}
theorem Fp.vp(f:Fp c i):Vp c i:=by cases f<;>constructor
theorem Vp.P4(v:Vp c i)(g:Gd (aN c i p)):Gd p:=by
 cases v with
 |n1=>exact g
 |iB=>exact g.1
 |gE=>exact g.2
 |fy=>exact g.1
 |gC=>exact g.2.1
 |fN=>exact g.2.2
theorem Vp.Tx(v:Vp c i):p.depth+1<=(aN c i p).depth:=by
 cases v with
 |n1=>exact aA _
 |iB=>exact cY (b8 _ _)
 |gE=>exact cY (bD _ _)
 |fy=>exact cY (b8 _ _)
 | @gC a b c=>exact cY (aF (b8 p.depth c.depth) (bD _ _))
 | @fN a b c=>exact cY (aF (bD b.depth p.depth) (bD _ _))
theorem Vp.lS(v:Vp c i):nS p+1<=nS (aN c i p):=by
 cases v with
 |n1=>exact aA _
 | @iB t a b=>show nS p+1<=nS p+nS b+2;lia
 | @gE t a b=>show nS p+1<=nS a+nS p+2;lia
 | @fy t a b c=>cases t with
  |fold=>show nS p+1<=nS p+nS b+nS c+3;lia
  |aQ=>exact aA _
 | @gC a b c=>show nS p+1<=nS a+nS p+nS c+3;lia
 | @fN a b c=>show nS p+1<=nS a+nS b+nS p+3;lia
theorem Vp.FC(v:Vp c i)(e:Co.ended p=false):Co.ended (aN c i p)=false:=by
 cases v with
 | @n1 t a=>show Co.ended (.n1 t p)=false;rw[lV,e,nK]
 | @iB t a b=>show Co.ended (.n2 t p b)=false;rw[fo,e,Bool.false_and,nK]
 | @gE t a b=>show Co.ended (.n2 t a p)=false;rw[fo,e,nK,nK]
 |fy=>exact (mM _ _ _ _).1
 |gC=>exact (mM _ _ _ _).1
 |fN=>exact (mM _ _ _ _).1
theorem Vp.FY(v:Vp c i)(w:Wm (aN c i p)):Wm p:=by
 cases v with
 |n1=>exact w
 |iB=>exact w.1
 |gE=>exact w.2
 |fy=>exact w.1
 |gC=>exact w.2.1
 |fN=>exact w.2.2
theorem Vp.put(v:Vp c i)(w:Wm (aN c i p))(a:Wm p'):Wm (aN c i p'):=by
 cases v with
 |n1=>exact a
 |iB=>exact⟨a,w.2⟩
 |gE=>exact⟨w.1,a⟩
 |fy=>exact⟨a,w.2⟩
 |gC=>exact⟨w.1,a,w.2.2⟩
 |fN=>exact⟨w.1,w.2.1,a⟩
theorem Fp.bH(f:Fp c i)(w:Wm (aN c i p))(e:Co.ended p=false)(s:strip p'=Co.aj (strip p)):strip (aN c i p')=Co.aj (strip (aN c i p)):=by
 have z:Co.ended (strip p)=false:=by rw[aD (f.vp.FY w)];exact e
 cases f with
 | @n1 t a=>show strip (.n1 t p')=Co.aj (strip (.n1 t p));simp only[mF,Co.aj,z,s,eL,bp]
 | @iB t a b=>show strip (.n2 t p' b)=Co.aj (strip (.n2 t p b));simp only[jz,Co.aj,z,s,eL,bp]
 | @gE t a b h=>show strip (.n2 t a p')=Co.aj (strip (.n2 t a p));simp only[jz,Co.aj,z,s,eL,bp,aD w.1,h,bU]
 | @fy t a b c=>show strip (.n3 t p' b c)=Co.aj (strip (.n3 t p b c));cases t<;>simp only[eR,Co.aj,z,s,eL,bp]
 | @gC a b c h=>show strip (.n3 .fold a p' c)=Co.aj (strip (.n3 .fold a p c));simp only[eR,Co.aj,z,s,eL,bp,aD w.1,h,bU]
 | @fN a b c h I=>show strip (.n3 .fold a b p')=Co.aj (strip (.n3 .fold a b p));simp only[eR,Co.aj,z,s,eL,bp,aD w.1,aD w.2.1,h,I,bU]
theorem Fp.SH(f:Fp c i)(e:Co.ended p=false):aC (aN c i p)=aC p:=by
 cases f with
 | @n1 t a=>show aC (.n1 t p)=_;simp only[aC,e,eL,bp]
 | @iB t a b=>show aC (.n2 t p b)=_;simp only[aC,e,eL,bp]
 | @gE t a b h=>show aC (.n2 t a p)=_;simp only[aC,e,h,eL,bp,bU]
 | @fy t a b c=>show aC (.n3 t p b c)=_;cases t<;>simp only[aC,e,eL,bp]
 | @gC a b c h=>show aC (.n3 .fold a p c)=_;simp only[aC,e,h,eL,bp,bU]
 | @fN a b c h I=>show aC (.n3 .fold a b p)=_;simp only[aC,e,h,I,eL,bp,bU]
theorem qL:aT (F++G) p=aT F (aT G p):=by simp only[aT,List.foldr_append]
theorem vQ:aT (F++[(c,i)]) p=aT F (aN c i p):=by rw[qL];rfl
theorem Fr.head{f:C×Nat}(h:Fr (f::F)):Fp f.1 f.2:=h f (nh ..)
theorem Fr.tail{f:C×Nat}(h:Fr (f::F)):Fr F:=fun g a=>h g (jc _ a)
theorem Fr.app(a:Fr F)(b:Fr G):Fr (F++G):=fun f e=>by
 rcases qK.mp e with z|z
 .exact a f z
 .exact b f z
theorem Fr.one(a:Fr F)(b:Fp c i):Fr (F++[(c,i)]):=a.app fun f e=>by rw[jH.mp e];exact b
theorem Fr.nil:Fr []:=fun f a=>nomatch a
theorem Fr.pre(a:Fr (F++G)):Fr F:=fun f b=>a f (vD _ b)
theorem Fr.last(a:Fr (F++[(c,i)])):Fp c i:=a (c,i) (fL _ (jH.mpr rfl))
theorem gB:∀{F:Fs},Fr F->Gd (aT F p)->Gd p
 |[],_,g=>g
 |f::F,h,g=>gB h.tail (h.head.vp.P4 g)
theorem lZ:∀{F:Fs},Fr F->p.depth+F.length<=(aT F p).depth
 |[],_=>aA _
 |f::F,h=>by
  have a:=lZ h.tail;have b:=h.head.vp.Tx (p:=aT F p);show _<=(aN f.1 f.2 (aT F p)).depth;rw[gK];lia
theorem tN:∀{F:Fs},Fr F->nS p<=nS (aT F p)
 |[],_=>aA _
 |f::F,h=>by
  have a:=tN h.tail;have b:=h.head.vp.lS (p:=aT F p);show _<=nS (aN f.1 f.2 (aT F p))
  lia
theorem pT(e:Co.ended p=false):∀{F:Fs},Fr F->Co.ended (aT F p)=false
 |[],_=>e
 |f::F,h=>h.head.vp.FC (pT e h.tail)
theorem tP:∀{F:Fs},Fr F->Wm (aT F p)->Wm p
 |[],_,w=>w
 |f::F,h,w=>tP h.tail (h.head.vp.FY w)
theorem we(a:Wm p'):∀{F:Fs},Fr F->Wm (aT F p)->Wm (aT F p')
 |[],_,w=>a
 |f::F,h,w=>h.head.vp.put w (we a h.tail (h.head.vp.FY w))
theorem yU(e:Co.ended p=false)(s:strip p'=Co.aj (strip p)):∀{F:Fs},Fr F->Wm (aT F p)->strip (aT F p')=Co.aj (strip (aT F p))
 |[],_,w=>s
 |f::F,h,w=>h.head.bH w (pT e h.tail) (yU e s h.tail (h.head.vp.FY w))
theorem Rx.aC(h:Rx c):K06.aC c=c:=by
 cases c with
 |n1 t a=>simp[K06.aC,h.1]
 |n2 t a b=>simp[K06.aC,h.1,h.2.1]
 |n3 t a b c=>cases t with
  |fold=>simp[K06.aC,h.1,h.2.1,h.2.2]
  |aQ=>have h:Co.ended a=true:=h;simp[K06.aC,h]
 |_=>rfl
theorem tS(h:Rx q):∀{F:Fs},Fr F->aC (aT F q)=q
 |[],_=>h.aC
 |f::F,g=>(g.head.SH (pT h.ne g.tail)).trans (tS h g.tail)
theorem zD(e:Co.ended c=true):aC c=c:=by
 cases c with
 |n1 t a=>rw[lV,aq] at e;simp[aC,e.2]
 |n2 t a b=>rw[fo,aq,aq] at e;simp[aC,e.2.1,e.2.2]
 |n3 t a b c=>rw[(mM t a b c).1] at e;cases e
 |_=>rfl
end
theorem uF:∀{c:C},Wm c->strip (aC c)=aC (strip c):=by
 intro c
 induction c with
 |n1 t a i=>
  intro w;have e:=aD (c:=a) w;cases z:Co.ended a<;>rw[z] at e<;>simp only[aC,mF,e,z,bU,bp,eL]<;>first|rfl|exact i w
 |n2 t a b i j=>
  intro w;have e:=aD w.1;have f:=aD w.2;cases z:Co.ended a<;>rw[z] at e<;>cases y:Co.ended b<;>rw[y] at f<;>simp only[aC,jz,e,f,z,y,bU,bp,eL]<;>first|rfl|exact i w.1|exact j w.2
 |n3 t a b c i j k=>
  intro w;have e:=aD w.1;have f:=aD w.2.1;have g:=aD w.2.2;cases t with
  |fold=>cases z:Co.ended a<;>rw[z] at e<;>cases y:Co.ended b<;>rw[y] at f<;>cases x:Co.ended c<;>rw[x] at g<;>simp only[aC,eR,e,f,g,z,y,x,bU,bp,eL]<;>first|rfl|exact i w.1|exact j w.2.1|exact k w.2.2
  |aQ=>cases z:Co.ended a<;>rw[z] at e<;>simp only[aC,eR,e,z,bU,bp,eL]<;>first|rfl|exact i w.1
 |en a u _ _=>
  intro w;have e:=aD (c:=.en a u) w;exact (zD e).symm
 |fn k x _=>intro w;rw[ji];exact ji k x
 |_=>intro w;rfl
theorem sF:∀(c:C),Co.ended c=false->Rx (aC c)/\aT (fr c) (aC c)=c/\Fr (fr c):=by
 have cons:∀{c a:C}{i:Nat},Fp c i->bE c i=a->Rx (aC a)/\aT (fr a) (aC a)=a/\Fr (fr a)->Rx (aC a)/\aT ((c,i)::fr a) (aC a)=c/\Fr ((c,i)::fr a):=by
  intro c a i f e ⟨x,y,z⟩;refine⟨x,?_,fun g h=>?_⟩
  .show aN c i (aT (fr a) (aC a))=c;rw[y,<-e];exact f.vp.same
  .rcases fH.mp h with rfl|h
   .exact f
   .exact z g h
 intro c
 induction c with
 |n1 t a i=>
  intro e;cases z:Co.ended a with
  |true=>rw[lV,z,Bool.and_true] at e;simp only[aC,fr,z,bU];exact⟨⟨z,e⟩,rfl,Fr.nil⟩
  |false=>simp only[aC,fr,z,bp,eL];exact cons .n1 rfl (i z)
 |n2 t a b i j=>
  intro e;cases z:Co.ended a with
  |true=>cases y:Co.ended b with
   |true=>rw[fo,z,y,Bool.and_self,Bool.and_true] at e;simp only[aC,fr,z,y,bU];exact⟨⟨z,y,e⟩,rfl,Fr.nil⟩
   |false=>simp only[aC,fr,z,y,bU,bp,eL];exact cons (.gE z) rfl (j y)
  |false=>simp only[aC,fr,z,bp,eL];exact cons .iB rfl (i z)
 |n3 t a b c i j k=>
  intro e;cases t with
  |fold=>cases z:Co.ended a with
   |true=>cases y:Co.ended b with
    |true=>cases x:Co.ended c with
     |true=>simp only[aC,fr,z,y,x,bU];exact⟨⟨z,y,x⟩,rfl,Fr.nil⟩
     |false=>simp only[aC,fr,z,y,x,bU,bp,eL];exact cons (.fN z y) rfl (k x)
    |false=>simp only[aC,fr,z,y,bU,bp,eL];exact cons (.gC z) rfl (j y)
   |false=>simp only[aC,fr,z,bp,eL];exact cons .fy rfl (i z)
  |aQ=>cases z:Co.ended a with
   |true=>simp only[aC,fr,z,bU];exact⟨z,rfl,Fr.nil⟩
   |false=>simp only[aC,fr,z,bp,eL];exact cons .fy rfl (i z)
 |var i=>exact fun _=>⟨trivial,rfl,Fr.nil⟩
 |_=>exact fun e=>by simp[Co.ended] at e
structure zh(w q:C)(F:Fs):Prop where
 eq:aT F q=w
 fr:Fr F
 or:(F=[]/\Co.ended q=true)\/Rx q
section
variable {r l m:Nat}{N:Nq}{Q:Wq}{X:Xq}
def I9(r l m:Nat)(N:Nq)(Q:Wq)(X:Xq)(F:Fs):Prop:=∀(p:C)(h:Hp)(n:Nat),Fr F->Gd (aT F p)->(aT F p).depth<=900->Co.ended p=true->aW r l p F h->nS (aT F p)<=n+nS p->
 (∀I q a,ak r l h I->aW r l q a I->zh (aT F p) q a->N [some (.ref r)] I)->Po (iw (run T (m+2)) (n+1) [some (.ref r)] h) (wF N Q) X
theorem kU{F:Fs}(U:I9 r l m N Q X F){c:C}{h:Hp}{n:Nat}(rx:eI c=false->Rx c)(en:eI c=true->Co.ended c=true)(f:Fr F)(g:Gd (aT F c))(d:(aT F c).depth<=900)(M:aW r l c F h)(hn:nS (aT F c)<=n+nS c)(k:∀I q a,ak r l h I->aW r l q a I->zh (aT F c) q a->N [some (.ref r)] I):Po (iw (run T (m+2)) (n+1) [some (.ref r)] h) (wF N Q) X:=by
 cases e:eI c with
 |true=>exact U c h n f g d (en e) M hn k
 |false=>exact kg M (gB f g) (.inl e) (k h c F (ak.refl _ _ _) M ⟨rfl,f,.inr (rx e)⟩)
theorem eQ{F:Fs}{c p:C}{i n:Nat}{h:Hp}(v:Vp c i)(f:Fr F)(g:Gd (aT F (aN c i p)))(d:(aT F (aN c i p)).depth<=900)(z:Co.ended p=true)(M:aW r l p (F++[(c,i)]) h)
  (a:i<cu c->∀I,ak r l h I->aW r l (eT (bE (aN c i p) (i+1))) (F++[(aN c i p,i+1)]++a8 (bE (aN c i p) (i+1))) I->Po (iw (run T (m+2)) n [some (.ref r)] I) (wF N Q) X)
  (b:i=cu c->∀I,ak r l h I->aW r l (aN c i p) F I->Po (iw (run T (m+2)) n [some (.ref r)] I) (wF N Q) X):Po (iw (run T (m+2)) (n+1) [some (.ref r)] h) (wF N Q) X:=by
 have dp:=lZ (p:=aN c i p) f;refine zj M (v.P4 (gB f g)) (lF _ z) v (by simp only[SZ];lia) (fun j e=>?_) a b;have:=e.deep
 lia
theorem uY{F:Fs}{c:C}{i n:Nat}{h:Hp}(f:Fr F)(x:Fp c i)(g:Gd (aT F c))(d:(aT F c).depth<=900)(M:aW r l (eT (bE c i)) (F++[(c,i)]++a8 (bE c i)) h)
  (k:∀I q j,ak r l h I->aW r l q j I->zh (aT F c) q j->N [some (.ref r)] I)
  (q:Co.ended (bE c i)=true->∀I,ak r l h I->aW r l (bE c i) (F++[(c,i)]) I->Po (iw (run T (m+2)) (n+1) [some (.ref r)] I) (wF N Q) X):Po (iw (run T (m+2)) (nS (bE c i)+(n+1)) [some (.ref r)] h) (wF N Q) X:=by
 have dp:=lZ (p:=c) f;have o:=gB f g;have s:=x.vp.deep;refine yv (bE c i) (F++[(c,i)]) h n (x.vp.gd o) (by lia) (by simp[SZ];lia) M q fun e I g1 W=>?_;obtain⟨a,b,z⟩:=sF _ e;refine k I _ _ g1 W ⟨?_,(f.one x).app z,.inr a⟩;rw[qL,b,vQ,x.vp.same]
theorem M9:∀F:Fs,I9 r l m N Q X F:=by
 have D:∀(k:Nat)(F:Fs),F.length=k->I9 r l m N Q X F:=by
  intro k
  induction k with
  |zero=>
   intro F e p h n f g d o M hn k;have e:=List.length_eq_zero_iff.mp e;subst e;exact kg M g (.inr rfl) (k h p [] (ak.refl _ _ _) M ⟨rfl,Fr.nil,.inl ⟨rfl,o⟩⟩)
  |succ k S=>
   intro F e p h n f g d o M hn k;obtain⟨x,⟨c,i⟩,rfl⟩:∃x f,F=x++[f]:=by
    rcases List.eq_nil_or_concat F with rfl|⟨L,b,rfl⟩
    .simp at e
    .exact⟨L,b,by simp⟩
   have U:=S x (by simpa using e);have s:=f.pre;have O:=f.last;rw[vQ] at g d hn k;have w:=tN (p:=aN c i p) s;cases O with
   | @n1 t a=>
    rw[show aN (.n1 t a) 1 p=.n1 t p from rfl] at g d hn k w;have en:nS (Co.n1 t p:C)=nS p+1:=rfl;obtain⟨n,rfl⟩:∃j,n=j+1:=⟨n-1,by lia⟩;refine eQ .n1 s g d o M (fun z=>absurd z (by simp[cu])) fun _ J g1 W=>?_;exact kU (c:=.n1 t p) U (fun e=>⟨o,e⟩) (fun e=>by rw[lV,e,o];rfl) s g d W (by lia) fun I q x B=>k I q x (g1.trans B)
   | @iB t a b=>
    rw[show aN (.n2 t a b) 1 p=.n2 t p b from rfl] at g d hn k w;have en:nS (Co.n2 t p b:C)=nS p+nS b+2:=rfl;obtain⟨n,rfl⟩:∃j,n=nS b+(j+1)+1:=⟨n-nS b-2,by lia⟩;refine eQ .iB s g d o M (fun _ J g1 W=>?_) fun z=>absurd z (by simp[cu]);rw[show nS b+(n+1)+1=nS b+((n+1)+1) by lia];refine uY (c:=.n2 t p b) (i:=2) s (.gE o) g d W (fun I q x B=>k I q x (g1.trans B)) fun V Z B y=>?_;have V:Co.ended b=true:=V;refine eQ (c:=.n2 t p b) (p:=b) .gE s g d V y (fun z=>absurd z (by simp[cu])) fun _ G H A=>?_;exact kU (c:=.n2 t p b) U (fun e=>⟨o,V,e⟩) (fun e=>by rw[fo,e,o,V];rfl) s g d A (by lia) fun I q x v=>k I q x (((g1.trans B).trans H).trans v)
   | @gE t a b Y=>
    rw[show aN (.n2 t a b) 2 p=.n2 t a p from rfl] at g d hn k w;have en:nS (Co.n2 t a p:C)=nS a+nS p+2:=rfl;obtain⟨n,rfl⟩:∃j,n=j+1:=⟨n-1,by lia⟩;refine eQ .gE s g d o M (fun z=>absurd z (by simp[cu])) fun _ J g1 W=>?_;exact kU (c:=.n2 t a p) U (fun e=>⟨Y,o,e⟩) (fun e=>by rw[fo,e,Y,o];rfl) s g d W (by lia) fun I q x B=>k I q x (g1.trans B)
   | @fy t a b c=>
    rw[show aN (.n3 t a b c) 1 p=.n3 t p b c from rfl] at g d hn k w;cases t with
    |aQ=>
     have en:nS (Co.n3 .aQ p b c:C)=nS p+1:=rfl;obtain⟨n,rfl⟩:∃j,n=j+1:=⟨n-1,by lia⟩;refine eQ .fy s g d o M (fun z=>absurd z (by simp[cu])) fun _ J g1 W=>?_;exact kU (c:=.n3 .aQ p b c) U (fun e=>o) (fun e=>by cases e) s g d W (by lia) fun I q x B=>k I q x (g1.trans B)
    |fold=>
     have en:nS (Co.n3 .fold p b c:C)=nS p+nS b+nS c+3:=rfl;obtain⟨n,rfl⟩:∃j,n=nS b+((nS c+(j+1)+1)+1):=⟨n-nS b-nS c-3,by lia⟩;refine eQ .fy s g d o M (fun _ J g1 W=>?_) fun z=>absurd z (by simp[cu]);refine uY (c:=.n3 .fold p b c) (i:=2) s (.gC o) g d W (fun I q x B=>k I q x (g1.trans B)) fun V Z B y=>?_;have V:Co.ended b=true:=V;refine eQ (c:=.n3 .fold p b c) (p:=b) .gC s g d V y (fun _ G H A=>?_) fun z=>absurd z (by simp[cu]);rw[show nS c+(n+1)+1=nS c+((n+1)+1) by lia];refine uY (c:=.n3 .fold p b c) (i:=3) s (.fN o V) g d A (fun I q x v=>k I q x (((g1.trans B).trans H).trans v)) fun u h4 v E=>?_;have u:Co.ended c=true:=u;refine eQ (c:=.n3 .fold p b c) (p:=c) .fN s g d u E (fun z=>absurd z (by simp[cu])) fun _ h5 P K=>?_;exact kU (c:=.n3 .fold p b c) U (fun e=>⟨o,V,u⟩) (fun e=>by cases e) s g d K (by lia) fun I q x R=>k I q x (((((g1.trans B).trans H).trans v).trans P).trans R)
   | @gC a b c Y=>
    rw[show aN (.n3 .fold a b c) 2 p=.n3 .fold a p c from rfl] at g d hn k w;have en:nS (Co.n3 .fold a p c:C)=nS a+nS p+nS c+3:=rfl;obtain⟨n,rfl⟩:∃j,n=nS c+(j+1)+1:=⟨n-nS c-2,by lia⟩;refine eQ .gC s g d o M (fun _ J g1 W=>?_) fun z=>absurd z (by simp[cu]);rw[show nS c+(n+1)+1=nS c+((n+1)+1) by lia];refine uY (c:=.n3 .fold a p c) (i:=3) s (.fN Y o) g d W (fun I q x B=>k I q x (g1.trans B)) fun u Z B y=>?_;have u:Co.ended c=true:=u;refine eQ (c:=.n3 .fold a p c) (p:=c) .fN s g d u y (fun z=>absurd z (by simp[cu])) fun _ G H A=>?_;exact kU (c:=.n3 .fold a p c) U (fun e=>⟨Y,o,u⟩) (fun e=>by cases e) s g d A (by lia) fun I q x v=>k I q x (((g1.trans B).trans H).trans v)
   | @fN a b c Y V=>
    rw[show aN (.n3 .fold a b c) 3 p=.n3 .fold a b p from rfl] at g d hn k w;have en:nS (Co.n3 .fold a b p:C)=nS a+nS b+nS p+3:=rfl;obtain⟨n,rfl⟩:∃j,n=j+1:=⟨n-1,by lia⟩;refine eQ .fN s g d o M (fun z=>absurd z (by simp[cu])) fun _ J g1 W=>?_;exact kU (c:=.n3 .fold a b p) U (fun e=>⟨Y,V,o⟩) (fun e=>by cases e) s g d W (by lia) fun I q x B=>k I q x (g1.trans B)
 exact fun F=>D F.length F rfl
theorem yO{F:Fs}{p:C}{h:Hp}(M:aW r l p F h)(f:Fr F)(g:Gd (aT F p))(d:(aT F p).depth<=900)(q:∀I i c,ak r l h I->aW r l i c I->zh (aT F p) i c->Q .ah I):Po (run T (m+3) fc [.ref r] h) Q X:=by
 refine wp_run q9 rfl ?_;refine dO (M.jG _ (by decide)) ?_;have dp:=lZ (p:=p) f;refine wA M (by simp only[SZ];lia) (by lia) fun J g1 W=>?_;have j:=vt d;have n1:=OF (aT F p);have n2:=tN (p:=p) f;obtain⟨n,hn⟩:∃n,FU=nS p+(n+1):=⟨FU-nS p-1,by lia⟩;show Po (fq _ _ FU [some (.ref r)] J) _ _;rw[hn];refine yv p F J n (gB f g) (by lia) (by simp only[SZ];lia) W (fun e Z B k=>?_) fun e Z B k=>?_
 .refine M9 F p Z n f g d e k (by lia) fun I i c H x s=>q I i c ((g1.trans B).trans H) x s
 .obtain⟨a,b,z⟩:=sF _ e;exact q Z _ _ (g1.trans B) k ⟨by rw[qL,b],f.app z,.inr a⟩
theorem HL{c:C}{h:Hp}(g:Gd c)(hd:c.depth<=900):Po (run T (m+5) (eW+1000) [.ref h.length,Co.ae c] (h++[.ins jV []])) (fun w I=>w=.ah/\∃l p F,ai h I/\h.length<l/\aW h.length l p F I/\zh c p F) X:=by
 show Po (run T (m+4) eW [.ref h.length,Co.ae c] (h++[.ins jV []])) _ _;refine wp_run qS rfl ?_;refine Po.ok (a:=()) (h:=h++[.ins jV [(jx,Co.ae c)]]) (by simp only[putField,bf];simp[jW]) ?_;refine Po.ok (a:=()) (h:=h++[.ins jV [(jx,Co.ae c),(gz,.ref (h.length+1))]]++[.lst []]) ?_ ?_
 .have e:=aK [O.lst []] (bf h (.ins jV [(jx,Co.ae c)]));simp only[putField,e];simp[jW]
 .have M:aW h.length (h.length+1) c [] (h++[.ins jV [(jx,Co.ae c),(gz,.ref (h.length+1))]]++[.lst []]):=⟨aK _ (bf _ _),by simp,by lia⟩;refine dO (M.jG _ (by decide)) ?_;refine yO M Fr.nil g hd fun I p F g1 W s=>?_;exact⟨rfl,h.length+1,p,F,(ai.Kn ((ai.app _ _).trans (ai.app _ _)) g1 (aA _) (by lia)),(by lia),W,s⟩
end
abbrev fE:S:=[83,116,114,97,121]
abbrev u5:S:=[84,111,111,76,111,110,103]
inductive mI:C->Prop
 |call {i v}:mI (.n2 .call (.num i) v)
 |left {i}:mI (.n1 .left (.num i))
 |aQ {i b c}:mI (.n3 .aQ (.num i) b c)
 |sum {i}:mI (.n2 .sum (.num i) .yes)
 |fold {i s w}:mI (.n3 .fold (.num i) s w)
 |right {k b}:mI (.n1 .right (.fn k b))
 |Dp {i}:mI (.n2 .call (.n2 .call (.like .num) (.num i)) .yes)
 |Cn {i}:mI (.n2 .call (.n2 .call (.like .num) (.num i)) .no)
 |lt {i j}:mI (.n2 .call (.n2 .call (.like .tru) (.num i)) (.num j))
theorem _root_.Tw.Po.ex{b:Type}{r:R b}{Q:b->Hp->Prop}{X:Xq}{a:Nat}{h:Hp}(e:r=.aw a h)(x:X a h):Po r Q X:=by rw[e];exact x
theorem IM{x a b c:C}{t:T3}(n:eB x)(e:strip x=.n3 t a b c):∃h i k,x=.n3 t h i k/\strip h=a/\strip i=b/\strip k=c:=by
 cases x with
 |n3 s c d f=>rw[eR] at e;cases e;exact⟨c,d,f,rfl,rfl,rfl,rfl⟩
 |_=>first|exact n.elim|(simp[strip,res,c8] at e)
theorem Rx.not{q:C}(h:Rx q):eB q:=by cases q<;>first|trivial|exact h.elim
section
variable {m:Nat}{h:Hp}{Q:Wq}{X:Xq}{sh:W}
theorem ll(k:Nat){c d:C}{w:S}(e:bare c=d)(ne:hd d≠w)(x:X h.length (h++[.aw fE []])):Po (run T (k+2) bh [Co.ae c,.str w] h) Q X:=by refine wp_run nR rfl ?_;have b:=ck k c h;rw[e] at b;refine Po.ok b ?_;refine Po.ok (pD d h) ?_;refine wC.B8 ?_;rw[bc ne];exact⟨rfl,x⟩
theorem Ij(k:Nat)(i:Int)(h:Hp):run T (k+5) bW [Co.ae (.like .num),Co.ae (.num i),Co.ae .yes] h=.aw h.length (h++[.aw fE []]):=by kernel_rfl
theorem Ho(k:Nat)(i:Int)(h:Hp):run T (k+5) bW [Co.ae (.like .num),Co.ae (.num i),Co.ae .no] h=.aw h.length (h++[.aw fE []]):=by kernel_rfl
theorem Jo(k:Nat)(i j:Int)(h:Hp):run T (k+5) bW [Co.ae (.like .tru),Co.ae (.num i),Co.ae (.num j)] h=.aw h.length (h++[.aw fE []]):=by kernel_rfl
theorem sY{f v l a L Y V:C}(F:bare f=.n2 .call l a)(s:bare l=L)(ex:bare a=Y)(p:bare v=V)(e:∀(k:Nat)(h:Hp),run T (k+5) bW [Co.ae L,Co.ae Y,Co.ae V] h=.aw h.length (h++[.aw fE []]))(x:X h.length (h++[.aw fE []])):Po (run T (m+7) gA [Co.ae f,Co.ae v] h) Q X:=by refine wp_run jj rfl ?_;have b:=ck (m+5) f h;rw[F] at b;refine Po.ok b ?_;refine wC.eqs ?_;refine wC.eqs ?_;have c:=ck (m+5) l h;have i:=ck (m+5) a h;rw[s] at c;rw[ex] at i;have n:=ck (m+5) v h;rw[p] at n;refine Po.ok c ?_;refine Po.ok i ?_;refine Po.ok n ?_;exact Po.ex (e (m+1) h) x
theorem DG{q:C}(w:Wm q)(n:eB q)(s:mI (strip q))(x:X h.length (h++[.aw fE []])):Po (run T (m+8) kY [sh,Co.ae q] h) Q X:=by
 refine wp_run uz rfl ?_;generalize e:strip q=z at s;cases s with
 |call=>
  obtain⟨f,v,rfl,F,p⟩:=tZ n e;refine wC.eqs ?_;refine wp_run jj rfl ?_;have b:=ck (m+5) f h;rw[eE w.1 F] at b;refine Po.ok b ?_;refine wC.eqs ?_;refine wC.eqs ?_;exact⟨rfl,x⟩
 |left=>
  obtain⟨a,rfl,Y⟩:=EV n e;refine wC.eqs ?_;refine wC.of true (by kernel_rfl) ?_;refine wC.eqs ?_;exact ll (m+5) (eE (c:=a) w Y) (by simp[hd]) x
 |right=>
  obtain⟨a,rfl,Y⟩:=EV n e;obtain⟨u,i,_,_⟩:=Kf (c:=a) w Y;refine wC.eqs ?_;refine wC.of true (by kernel_rfl) ?_;refine wC.eqs ?_;exact ll (m+5) i (by simp[hd]) x
 |aQ=>
  obtain⟨a,b,c,rfl,Y,V,t⟩:=IM n e;refine wC.eqs ?_;refine wC.of false (by kernel_rfl) ?_;refine wC.eqs ?_;refine wp_run kB rfl ?_;have b:=ck (m+5) a h;rw[eE w.1 Y] at b;refine Po.ok b ?_;refine wC.eqs ?_;refine wC.eqs ?_;exact⟨rfl,x⟩
 |fold=>
  obtain⟨a,b,c,rfl,Y,V,t⟩:=IM n e;refine wC.eqs ?_;refine wC.of false (by kernel_rfl) ?_;refine wC.eqs ?_;refine wC.eqs ?_;refine wp_run je rfl ?_;have b:=ck (m+5) a h;rw[eE w.1 Y] at b;refine Po.ok b ?_;refine wC.eqs ?_;exact ll (m+4) (eE w.1 Y) (by simp[hd]) x
 |sum=>
  obtain⟨a,b,rfl,Y,V⟩:=tZ n e;refine wC.eqs ?_;refine wC.of false (by kernel_rfl) ?_;refine wC.eqs ?_;refine wC.eqs ?_;refine wC.eqs ?_;refine Po.ok (fW (m+5) (eE w.1 Y) h) ?_;exact ll (m+5) (lx w.2 V) (by simp[hd]) x
 |Dp=>
  obtain⟨f,v,rfl,F,p⟩:=tZ n e;obtain⟨o,r,i,d,g,j,l⟩:=iF w.1 F;refine wC.eqs ?_;exact sY i (oX j d) (eE l g) (lx w.2 p) (fun k h=>Ij k _ h) x
 |Cn=>
  obtain⟨f,v,rfl,F,p⟩:=tZ n e;obtain⟨o,r,i,d,g,j,l⟩:=iF w.1 F;refine wC.eqs ?_;exact sY i (oX j d) (eE l g) (sO w.2 p) (fun k h=>Ho k _ h) x
 |lt=>
  obtain⟨f,v,rfl,F,p⟩:=tZ n e;obtain⟨o,r,i,d,g,j,l⟩:=iF w.1 F;refine wC.eqs ?_;exact sY i (oX j d) (eE l g) (eE w.2 p) (fun k h=>Jo k _ _ h) x
theorem HB{r l:Nat}{q:C}{F:Fs}(M:aW r l q F h)(w:Wm q)(n:eB q)(s:mI (strip q))(x:X h.length (h++[.aw fE []])):Po (run T (m+9) dI [.ref r,sh] h) Q X:=by refine wp_run iZ rfl ?_;refine M.part ?_;exact DG (m:=m) w n s x
end
set_option genInjectivity true in
inductive Out where|ok (c:C)|long|iV
inductive Runs:Nat->C->Out->Prop
 |done {n c}:Co.ended c=true->Runs n c (.ok c)
 |long {c}:Co.ended c=false->Runs 0 c .long
 |iV {n c}:Co.ended c=false->mI (aC c)->Runs (n+1) c .iV
 |step {n c o}:Co.ended c=false->(((∃t,Ty [] (aC c) t)\/∃a b,aC c=.n3 .aQ .yes a b))->(Co.aj c).depth<=900->Gd (Co.aj c)->Runs n (Co.aj c) o->Runs (n+1) c o
theorem Lg:∀c:C,(aC c).depth<=c.depth:=by
 intro c;cases e:Co.ended c with
 |true=>rw[zD e];exact aA _
 |false=>
  obtain⟨_,b,z⟩:=sF c e;have:=lZ (p:=aC c) z;rw[b] at this
  lia
abbrev Tn(u:Or)(n:Nat)(M:Env)(h:Hp):R Fl:=fq (af u wJ) (aJ u vP) n M h
section
variable {r l m:Nat}{N:Nq}{Q:Wq}{X:Xq}{sh c0:W}{most:Int}
theorem L6{n:Nat}{c:C}{o:Out}(R:Runs n c o):∀(s:Int)(k:Nat)(h:Hp)(V q:C)(F:Fs),s+n=most->n<k->aW r l q F h->zh V q F->Wm V->strip V=c->Gd c->c.depth<=900->
  (∀H,o=.ok H->∀I p A,ak r l h I->aW r l p [] I->strip p=H->p.depth<=900->N [some sh,some c0,some (.int most),some (.ref r),some (.int A)] I)->
  (o=.long->∀I,ak r l h I->X I.length (I++[.aw u5 []]))->(o=.iV->∀I,ak r l h I->X I.length (I++[.aw fE []]))->
  Po (Tn (run T (m+10)) k [some sh,some c0,some (.int most),some (.ref r),some (.int s)] h) (wF N Q) X:=by
 induction R with
 | @done n c e=>
  intro s k h V q F K hk M S w i g d ok B st;obtain⟨k,rfl⟩:∃j,k=j+1:=⟨k-1,by lia⟩;refine eO ?_;refine dO (M.jG _ (by decide)) ?_;have u:=kR w (by rw[i];exact g);have f:Co.ended V=true:=by rw[<-aD w,i];exact e
  have v:Gd q:=by have:=S.eq;subst this;exact gB S.fr u
  rcases S.or with ⟨rfl,eq⟩|rx
  .refine pZ (m:=m+7) M v ?_;rw[lF q eq];have:aT [] q=V:=S.eq;have:q=V:=this;subst this;exact ok c rfl h q s (ak.refl _ _ _) M i (aF (j8 q) (by rw[i];exact d))
  .have z:=pT rx.ne S.fr;rw[S.eq,f] at z;cases z
 | @long c e=>
  intro s k h V q F K hk M S w i g d ok B st;obtain⟨k,rfl⟩:∃j,k=j+1:=⟨k-1,by lia⟩;refine eO ?_;refine dO (M.jG _ (by decide)) ?_;have u:=kR w (by rw[i];exact g);have f:Co.ended V=false:=by rw[<-aD w,i];exact e
  have v:Gd q:=by have:=S.eq;subst this;exact gB S.fr u
  have rx:Rx q:=by
   rcases S.or with ⟨rfl,eq⟩|rx
   .have:q=V:=S.eq;subst this;rw[f] at eq;cases eq
   .exact rx
  refine pZ (m:=m+7) M v ?_;rw[rx.eI,nK];refine wC.of true (by simp[cmp];lia) ?_;exact⟨rfl,B rfl h (ak.refl _ _ _)⟩
 | @iV n c e sy=>
  intro s k h V q F K hk M S w i g d ok B st;obtain⟨k,rfl⟩:∃j,k=j+1:=⟨k-1,by lia⟩;refine eO ?_;refine dO (M.jG _ (by decide)) ?_;have u:=kR w (by rw[i];exact g);have f:Co.ended V=false:=by rw[<-aD w,i];exact e
  have v:Gd q:=by have:=S.eq;subst this;exact gB S.fr u
  have J:Wm q:=by have:=S.eq;subst this;exact tP S.fr w
  have rx:Rx q:=by
   rcases S.or with ⟨rfl,eq⟩|rx
   .have:q=V:=S.eq;subst this;rw[f] at eq;cases eq
   .exact rx
  have L:aC V=q:=by have:=S.eq;subst this;exact tS rx S.fr
  have D:strip q=aC c:=by rw[<-L,uF w,i]
  refine pZ (m:=m+7) M v ?_;rw[rx.eI,nK];refine wC.of false (by simp[cmp];lia) ?_;refine dO (M.jG _ (by decide)) ?_;exact HB (m:=m+1) M J rx.not (by rw[D];exact sy) (st rfl h (ak.refl _ _ _))
 | @step n c o e pr U Y R ih=>
  intro s k h V q F K hk M S w i g d ok B st;obtain⟨k,rfl⟩:∃j,k=j+1:=⟨k-1,by lia⟩;refine eO ?_;refine dO (M.jG _ (by decide)) ?_;have u:=kR w (by rw[i];exact g);have f:Co.ended V=false:=by rw[<-aD w,i];exact e
  have v:Gd q:=by have:=S.eq;subst this;exact gB S.fr u
  have J:Wm q:=by have:=S.eq;subst this;exact tP S.fr w
  have rx:Rx q:=by
   rcases S.or with ⟨rfl,eq⟩|rx
   .have:q=V:=S.eq;subst this;rw[f] at eq;cases eq
   .exact rx
  have L:aC V=q:=by have:=S.eq;subst this;exact tS rx S.fr
  have D:strip q=aC c:=by rw[<-L,uF w,i]
  have dq:(strip q).depth<=900:=by rw[D];exact aF (Lg c) d
  have pg:Pg q:=by
   rcases pr with ⟨t,ty⟩|⟨a,b,y⟩
   .exact prog rx J (by rw[D];exact ty) dq
   .exact Iw J rx (D.trans y)
  obtain⟨q',rd,P,O⟩:=pg;have E:Wm (aT F q):=by rw[S.eq];exact w
  have Z:=we P S.fr E;have A:=yU rx.ne O S.fr E;rw[S.eq,i] at A;refine pZ (m:=m+7) M v ?_;rw[rx.eI,nK];refine wC.of false (by simp[cmp];lia) ?_;refine dO (M.jG _ (by decide)) ?_;refine JY (m:=m+1) M rd fun h1 g1 W=>?_;refine dO (W.jG _ (by decide)) ?_;refine yO (m:=m+7) W S.fr (kR Z (by rw[A];exact Y)) (aF (j8 _) (by rw[A];exact U)) fun h2 p' F' g2 M2 S2=>?_;have G:=g1.trans g2;exact ih (s+1) k h2 _ p' F' (by lia) (by lia) M2 S2 Z A Y U (fun H z I p x g=>ok H z I p x (G.trans g)) (fun z I g=>B z I (G.trans g)) fun z I g=>st z I (G.trans g)
theorem LM{n:Nat}{c:C}{o:Out}{h:Hp}(R:Runs n c o)(p:Pl c)(g:Gd c)(d:c.depth<=900)(hn:n<=1000)(q:∀a,o=.ok a->∀I,ai h I->Q (Co.ae a) I)(i:o=.long->∀I,ai h I->X I.length (I++[.aw u5 []]))(st:o=.iV->∀I,ai h I->X I.length (I++[.aw fE []])):Po (run T (m+11) zN [sh,Co.ae c,.int (n:Int)] h) Q X:=by refine wp_run M8 rfl ?_;refine Po.mono (HL (m:=m+5) g d) (fun v J z=>?_) fun _ _ z=>z;obtain⟨rfl,l,k,F,g1,x,M,S⟩:=z;have gr:∀{I:Hp},ak h.length l J I->ai h I:=fun g=>ai.Kn g1 g (aA _) (by lia);show Po (fq _ _ FU [some sh,some (Co.ae c),some (.int (n:Int)),some (.ref h.length),some (.int 0)] J) _ _;refine L6 (m:=m) R 0 FU J c k F (by lia) (ve (by lia)) M S p.wm (Ku c 0 p) g d (fun a z I p j B b sp dp=>?_) (fun z I B=>i z I (gr B)) fun z I B=>st z I (gr B);refine dO (b.jG _ (by decide)) ?_;refine Ez (m:=m+5) b (fun f e=>nomatch e) dp fun G H=>?_;have:strip (aT [] p)=a:=sp;rw[this];exact q a z G ((gr B).trans H)
end
noncomputable def C5(u:Or)(b a:E)(M:Env):List W->List W->Hp->(List W->Hp->Prop)->Prop
 |[],D,h,Q=>Q D h
 |x::c,D,h,Q=>wE u b (M++[some x]) h (fun t h=>match truth h t with
  |some true=>wE u a (M++[some x]) h (fun y h=>C5 u b a M c (D++[y]) h Q) fun _ _=>False
  |some false=>C5 u b a M c D h Q
  |none=>False) fun _ _=>False
theorem C4{α:Type}{r:R α}{Q:α->Hp->Prop}{X:Xq}(p:Po r Q fun _ _=>False):Po r.fY Q X:=by
 cases r with
 |ok a h=>exact p
 |aw a h=>exact p.elim
 |bad=>exact p
theorem xD{u:Or}{c a:E}{M:Env}{X:Xq}:∀(b D:List W)(h:Hp)(Q:List W->Hp->Prop),C5 u c a M b D h Q->Po (gj (nD (gH u (.some c)) (af u a) M) b D h) Q X
 |[],D,h,Q,p=>p
 |x::b,D,h,Q,p=>by
  refine Po.bind ?_;unfold nD;refine Po.bind (C4 ?_);rw[oB];refine Po.bind ((ba u c _ h _ _ p).mono (fun t h p=>?_) fun _ _ z=>z);show Po (match mD h (some t) with|none=>_|some true=>_|some false=>_) _ _;simp only[mD];split at p
  .next e=>
   (try rw[e])
   exact Po.bind (C4 ((ba u a _ h _ _ p).mono (fun y h p=>xD b _ h Q p) fun _ _ z=>z))
  .next e=>(try rw[e]);exact xD b D h Q p
  .exact p.elim
theorem jb{u:Or}{b a:E}{c:It}{M:Env}{h h1:Hp}{Q:Wq}{X:Xq}{xs:List W}(e:eM u c M h=.ok (.fix xs) h1)(p:C5 u b a M xs [] h1 (fun ys h=>ys.length<=SZ/\Q (.ref h.length) (h++[.lst ys]))):Po (af u (.comp a c (.some b)) M h) Q X:=by rw[nA,e];show Po ((gj (nD (gH u (.some b)) (af u a) M) xs [] h1).bind gL) Q X;refine Po.bind ((xD xs [] h1 _ p).mono (fun ys h p=>?_) fun _ _ z=>z);unfold gL;rw[if_pos p.1];exact p.2
def kb(n:Nat):C->Prop
 |.ah k=>k.depth<=n
 |.like k=>k.depth<=n
 |.fn k c=>k.depth<=n/\kb n c
 |.n1 _ a=>kb n a
 |.n2 _ a b=>kb n a/\kb n b
 |.n3 _ a b c=>kb n a/\kb n b/\kb n c
 |.en _ _=>False
 |_=>True
theorem yz:∀c:C,(Co.ae c).pure=true:=by
 intro c
 induction c with
 |num=>rfl
 |yes=>rfl
 |no=>rfl
 |var=>rfl
 |ah k=>simp[Co.ae,W.pure,cF,eZ k]
 |like k=>simp[Co.ae,W.pure,cF,eZ k]
 |fn k x i=>simp[Co.ae,W.pure,cF,eZ k,i]
 |n1 t x i=>simp[Co.ae,W.pure,cF,i]
 |n2 t x y i j=>simp[Co.ae,W.pure,cF,i,j]
 |n3 t x y z i j k=>simp[Co.ae,W.pure,cF,i,j,k]
 |en x y i j=>simp[Co.ae,W.pure,cF,i,j]
theorem zA{n:Nat}:∀c:C,kb n c->(Co.ae c).deep<=c.depth+n+2:=by
 intro c
 induction c with
 |num=>intro _;simp[Co.ae,W.deep,bA]
 |yes=>intro _;simp[Co.ae,W.deep,bA]
 |no=>intro _;simp[Co.ae,W.deep,bA]
 |var=>intro _;simp[Co.ae,W.deep,bA]
 |ah k=>intro h;have:=eV k;simp only[kb] at h;simp[Co.ae,W.deep,bA];lia
 |like k=>intro h;have:=eV k;simp only[kb] at h;simp[Co.ae,W.deep,bA];lia
 |fn k x i=>intro h;have:=eV k;have:=i h.2;have:=h.1;simp[Co.ae,W.deep,bA,Co.depth];lia
 |n1 t x i=>intro h;have:=i h;simp[Co.ae,W.deep,bA,Co.depth];lia
 |n2 t x y i j=>intro h;have:=i h.1;have:=j h.2;simp[Co.ae,W.deep,bA,Co.depth];lia
 |n3 t x y z i j k=>intro h;have:=i h.1;have:=j h.2.1;have:=k h.2.2;simp[Co.ae,W.deep,bA,Co.depth];lia
 |en x y i j=>intro h;exact h.elim
theorem kb.pl{n:Nat}:∀c:C,kb n c->Pl c:=by
 intro c
 induction c with
 |fn k x i=>exact fun h=>i h.2
 |n1 t x i=>exact fun h=>i h
 |n2 t x y i j=>exact fun h=>⟨i h.1,j h.2⟩
 |n3 t x y z i j k=>exact fun h=>⟨i h.1,j h.2.1,k h.2.2⟩
 |en x y i j=>exact fun h=>h.elim
 |_=>exact fun _=>trivial
theorem sT{n:Nat}{c:C}(h:Hp)(k:kb n c)(d:c.depth+n+2<=900):dB h (Co.ae c) (Co.ae c)=some true:=by
 have p:=yz c;have e:cS h (Co.ae c)=none:=by cases c<;>rfl
 have r:=zt h (Co.ae c) 900 p (aF (zA c k) d);simp only[dB,e,r,wW _ p]
theorem GY{n:Nat}{v:C}(l:kb n v):∀(c:C)(i:Nat),kb n c->kb n (Co.into v i c):=by
 intro c
 induction c with
 |var j=>
  intro i _;simp only[Co.into];by_cases e:j=i
  .rw[if_pos e];exact l
  .rw[if_neg e];trivial
 |fn k x a=>exact fun i h=>⟨h.1,a (i+1) h.2⟩
 |n1 t x a=>exact fun i h=>a i h
 |n2 t x y a b=>exact fun i h=>⟨a i h.1,b i h.2⟩
 |n3 t x y z a b p=>exact fun i h=>⟨a i h.1,b i h.2.1,p i h.2.2⟩
 |en x y _ _=>exact fun i h=>h.elim
 |_=>exact fun i h=>h
theorem NJ{n:Nat}{l x y r:C}(m:Cm l x y r)(pl:kb n l)(a:kb n x)(b:kb n y):kb n r:=by
 cases m with
 | @num i j=>by_cases z:i=j<;>simp[z,kb]
 |mm=>exact⟨⟨⟨pl,a.1⟩,b.1⟩,⟨⟨pl,a.2⟩,b.2⟩,trivial⟩
 |bb=>exact⟨⟨⟨pl.1,a.1⟩,b.1⟩,⟨⟨pl.2,a.2⟩,b.2⟩,trivial⟩
 |_=>trivial
theorem iu{n:Nat}:∀(c:C)(t:Kd),Ty [] c t->kb n c->Co.ended c=false->kb n (Co.aj c)
 |.num _,_,_,k,_=>k
 |.yes,_,_,k,_=>k
 |.no,_,_,k,_=>k
 |.ah _,_,_,k,_=>k
 |.like _,_,_,k,_=>k
 |.fn _ _,_,_,k,_=>k
 |.en _ _,_,_,k,_=>k
 |.var _,_,_,k,_=>k
 |.n1 d a,t,h,k,e=>by
  simp only[Co.aj];have p:∀o,Ty [] a o->Co.ended a=false->kb n (Co.aj a):=fun o J Y=>iu a o J k Y;cases Y:Co.ended a with
  |true=>
   cases h with
   |left J=>obtain⟨N,P,rfl,_⟩:=cH J Y;exact k.1
   |right J=>obtain⟨N,P,rfl,_⟩:=cH J Y;exact k.2
   |bQ J=>simp[Co.ended,Y] at e
  |false=>
   cases h with
   |left J=>exact p _ J Y
   |right J=>exact p _ J Y
   |bQ J=>exact p _ J Y
 |.n2 d a b,t,h,k,e=>by
  simp only[Co.aj];have m:∀q f,Ty [] a q->Ty [] b f->(Co.ended a=true->Co.ended b=true->kb n (oz d a b))->kb n (if Co.ended a=true then (if Co.ended b=true then oz d a b else .n2 d a (Co.aj b)) else .n2 d (Co.aj a) b):=fun q f J Z r=>by
   cases Y:Co.ended a with
   |true=>
    cases V:Co.ended b with
    |true=>exact r Y V
    |false=>exact⟨k.1,iu b f Z k.2 V⟩
   |false=>exact⟨iu a q J k.1 Y,k.2⟩
  cases h with
  |both J Z=>exact m _ _ J Z fun _ _=>k
  |more J Z=>exact m _ _ J Z fun _ _=>k
  |bK J Z=>exact m _ _ J Z fun _ _=>k
  |sum J Z=>
   refine m _ _ J Z fun x y=>?_;obtain⟨i,rfl⟩:=bS J x;obtain⟨j,rfl⟩:=bS Z y;trivial
  |less J Z=>
   refine m _ _ J Z fun x y=>?_;obtain⟨i,rfl⟩:=bS J x;obtain⟨j,rfl⟩:=bS Z y;rw[lB];by_cases z:i<j
   .rw[if_pos z];trivial
   .rw[if_neg z];trivial
  |call J Z=>
   refine m _ _ J Z fun x y=>?_;rcases m7 J x with ⟨s,rfl,F⟩|⟨g,_⟩|⟨l,v,rfl,g,E,w,A,B,rfl⟩
   .exact GY k.2 s 0 k.1.2
   .rw[fo,x,y,show eI (.n2 .call a b)=bF a from rfl,g] at e;cases e
   .exact NJ (Gq A g B w Z y) k.1.1 k.1.2 k.2
 |.n3 .fold a b c,t,h,k,e=>by
  simp only[Co.aj];cases h with
  |fold J Z G=>
   cases Y:Co.ended a with
   |true=>
    cases V:Co.ended b with
    |true=>
     cases u:Co.ended c with
     |true=>
      rcases fF J Y with rfl|⟨N,P,rfl,D,K,q,f⟩
      .exact k.2.1
      .exact⟨⟨k.2.2,k.1.1⟩,k.1.2,k.2.1,k.2.2⟩
     |false=>exact⟨k.1,k.2.1,iu c _ G k.2.2 u⟩
    |false=>exact⟨k.1,iu b _ Z k.2.1 V,k.2.2⟩
   |false=>exact⟨iu a _ J k.1 Y,k.2⟩
 |.n3 .aQ a b c,t,h,k,e=>by
  simp only[Co.aj];cases h with
  |aQ J Z G=>
   cases Y:Co.ended a with
   |true=>
    rcases iq J Y with rfl|rfl
    .exact k.2.1
    .exact k.2.2
   |false=>exact⟨iu a _ J k.1 Y,k.2⟩
theorem wu:∀a:List C,cF (a.map Co.ae)=true
 |[]=>rfl
 |y::r=>by simp[cF,yz y,wu r]
theorem xN{n m:Nat}:∀a:List C,(∀y∈a,kb n y/\y.depth+n+2<=m)->bA (a.map Co.ae)<=m
 |[],_=>by simp[bA]
 |y::r,h=>by
  have J:=h y nh;have Z:=zA y J.1;have G:=xN r fun z b=>h z (jc _ b);simp only[fJ,bA];lia
theorem w8{n:Nat}{h:Hp}{ys:List C}{Q:Wq}(a:∀y∈ys,kb n y/\y.depth+n+2<=899)(q:Q (.bl ys.isEmpty) (h++[.lst (ys.map Co.ae)]++[.lst []])):wC .eq (.ref h.length) (.ref (h++[O.lst (ys.map Co.ae)]).length) (h++[.lst (ys.map Co.ae)]++[.lst []]) Q:=by refine wC.of _ ?_ q;show dB _ _ _=_;rw[qf (bf h _) (wu ys) (xN ys a)];cases ys<;>rfl
theorem xO(n:Nat):∀(c:C)(k:Nat)(h:Hp)(Q:Wq)(X:Xq),kb n c->c.depth+n+2<=899->(∀I,ai h I->Q (.bl (Co.ended c)) I)->Po (run T (k+c.depth+1) cw [Co.ae c] h) Q X:=by
 have U:∀(c:C)(k:Nat)(h:Hp)(Q:Wq)(X:Xq),(∀I,ai h I->Q (.bl (Co.ended c)) I)->run T (k+c.depth+1) cw [Co.ae c] h=.ok (.bl (Co.ended c)) h->Po (run T (k+c.depth+1) cw [Co.ae c] h) Q X:=fun c k h Q X q e=>Po.ok e (q h (ai.refl _));have two:∀(t:T2)(a b:C),t=.both\/t=.more\/t=.bK->(∀(k:Nat)(h:Hp)(Q:Wq)(X:Xq),kb n a->a.depth+n+2<=899->(∀I,ai h I->Q (.bl (Co.ended a)) I)->Po (run T (k+a.depth+1) cw [Co.ae a] h) Q X)->(∀(k:Nat)(h:Hp)(Q:Wq)(X:Xq),kb n b->b.depth+n+2<=899->(∀I,ai h I->Q (.bl (Co.ended b)) I)->Po (run T (k+b.depth+1) cw [Co.ae b] h) Q X)->
   ∀(k:Nat)(h:Hp)(Q:Wq)(X:Xq),kb n (.n2 t a b)->(Co.n2 t a b).depth+n+2<=899->(∀I,ai h I->Q (.bl (Co.ended (.n2 t a b))) I)->Po (run T (k+(Co.n2 t a b).depth+1) cw [Co.ae (.n2 t a b)] h) Q X:=by
  intro t a b w j r k h Q X S d q;simp only[Co.depth] at d;have v:Co.ended (.n2 t a b)=(Co.ended a&&Co.ended b):=by rcases w with rfl|rfl|rfl<;>rfl
  rw[v] at q;rw[show k+(Co.n2 t a b).depth+1=(k+(max a.depth b.depth))+1+1 by simp only[Co.depth];lia];refine wp_run pf rfl ?_;refine wC.of false (by rcases w with rfl|rfl|rfl<;>kernel_rfl) ?_;refine wC.of true (by rcases w with rfl|rfl|rfl<;>kernel_rfl) ?_;refine jb (xs:=[Co.ae a,Co.ae b]) (h1:=h) (by kernel_rfl) ?_;have u:=j (k+max a.depth b.depth-a.depth);have s:=r (k+max a.depth b.depth-b.depth);rw[show k+max a.depth b.depth-a.depth+a.depth+1=k+max a.depth b.depth+1 by lia] at u;rw[show k+max a.depth b.depth-b.depth+b.depth+1=k+max a.depth b.depth+1 by lia] at s;refine u h _ _ S.1 (by lia) fun J g1=>?_;have f:∀(m:List C)(H:Hp),(∀y∈m,y=a\/y=b)->ai h H->m.isEmpty=(Co.ended a&&Co.ended b)->m.length<=2->(m.map Co.ae).length<=SZ/\wC .eq (.ref H.length) (.ref (H++[O.lst (m.map Co.ae)]).length) (H++[.lst (m.map Co.ae)]++[.lst []]) Q:=by
   intro m H p g e l;refine⟨by simp[SZ];lia,w8 (n:=n) (fun y o=>?_) ?_⟩
   .rcases p y o with rfl|rfl
    .exact⟨S.1,by lia⟩
    .exact⟨S.2,by lia⟩
   .rw[e];exact q _ ((g.trans (ai.app _ _)).trans (ai.app _ _))
  cases Y:Co.ended a with
  |true=>
   refine s J _ _ S.2 (by lia) fun Z B=>?_;cases V:Co.ended b with
   |true=>exact f [] Z (fun y p=>by cases p) (g1.trans B) (by rw[Y,V];rfl) (by simp)
   |false=>exact f [b] Z (fun y p=>by simp at p;exact .inr p) (g1.trans B) (by rw[Y,V];rfl) (by simp)
  |false=>
   refine s J _ _ S.2 (by lia) fun Z B=>?_;cases V:Co.ended b with
   |true=>exact f [a] Z (fun y p=>by simp at p;exact .inl p) (g1.trans B) (by rw[Y,V];rfl) (by simp)
   |false=>exact f [a,b] Z (fun y p=>by simpa using p) (g1.trans B) (by rw[Y,V];rfl) (by simp)
 intro c
 induction c with
 |num i=>exact fun k h Q X _ _ q=>U _ k h Q X q (by kernel_rfl)
 |yes=>exact fun k h Q X _ _ q=>U _ k h Q X q (by kernel_rfl)
 |no=>exact fun k h Q X _ _ q=>U _ k h Q X q (by kernel_rfl)
 |var i=>exact fun k h Q X _ _ q=>U _ k h Q X q (by kernel_rfl)
 |ah i=>exact fun k h Q X _ _ q=>U _ k h Q X q (by kernel_rfl)
 |like i=>exact fun k h Q X _ _ q=>U _ k h Q X q (by kernel_rfl)
 |fn i x _=>exact fun k h Q X _ _ q=>U _ k h Q X q (by kernel_rfl)
 |en x y _ _=>exact fun k h Q X z=>z.elim
 |n3 t x y z _ _ _=>cases t<;>exact fun k h Q X _ _ q=>U _ k h Q X q (by kernel_rfl)
 |n1 t a j=>
  cases t with
  |left=>exact fun k h Q X _ _ q=>U _ k h Q X q (by kernel_rfl)
  |right=>exact fun k h Q X _ _ q=>U _ k h Q X q (by kernel_rfl)
  |bQ=>
   intro k h Q X S d q;simp only[Co.depth] at d;rw[show k+(Co.n1 T1.bQ a).depth+1=(k+a.depth+1)+1 by simp only[Co.depth];lia];refine wp_run pf rfl ?_;refine wC.of false (by kernel_rfl) ?_;refine wC.of true (by kernel_rfl) ?_;refine jb (xs:=[Co.ae a]) (h1:=h) (by kernel_rfl) ?_;refine j k h _ _ S (by lia) fun J g1=>?_;have q:∀I,ai h I->Q (.bl (Co.ended a)) I:=q;cases Y:Co.ended a with
   |true=>exact⟨by simp,w8 (n:=n) (ys:=[]) (fun y o=>by cases o) (by rw[Y] at q;exact q _ ((g1.trans (ai.app _ _)).trans (ai.app _ _)))⟩
   |false=>exact⟨by simp[SZ],w8 (n:=n) (ys:=[a]) (fun y o=>by simp at o;subst o;exact⟨S,by lia⟩) (by rw[Y] at q;exact q _ ((g1.trans (ai.app _ _)).trans (ai.app _ _)))⟩
 |n2 t a b j r=>
  cases t with
  |sum=>exact fun k h Q X _ _ q=>U _ k h Q X q (by kernel_rfl)
  |less=>exact fun k h Q X _ _ q=>U _ k h Q X q (by kernel_rfl)
  |both=>exact two _ a b (.inl rfl) j r
  |more=>exact two _ a b (.inr (.inl rfl)) j r
  |bK=>exact two _ a b (.inr (.inr rfl)) j r
  |call=>
   intro k h Q X S d q;simp only[Co.depth] at d;rw[show k+(Co.n2 T2.call a b).depth+1=(k+(max a.depth b.depth))+1+1 by simp only[Co.depth];lia];have u:=j (k+max a.depth b.depth-a.depth);have s:=r (k+max a.depth b.depth-b.depth);rw[show k+max a.depth b.depth-a.depth+a.depth+1=k+max a.depth b.depth+1 by lia] at u;rw[show k+max a.depth b.depth-b.depth+b.depth+1=k+max a.depth b.depth+1 by lia] at s;refine wp_run pf rfl ?_;refine wC.of false (by kernel_rfl) ?_;refine wC.of false (by kernel_rfl) ?_;refine wC.eqs ?_;refine Po.ok (pD a h) ?_;have D:=yK (kb.pl a S.1);refine wC.of (bF a) ?_ ?_
   .unfold bF;rw[D];rcases a with _|_|_|_|_|_|_|⟨_|_|_,_⟩|⟨_|_|_|_|_|_,_,_⟩|⟨_|_,_,_,_⟩|_<;>kernel_rfl
   have v:Co.ended (.n2 .call a b)=(bF a&&(Co.ended a&&Co.ended b)):=by simp only[Co.ended,Bool.and_assoc]
   rw[v] at q;cases A:bF a with
   |false=>rw[A] at q;exact q h (ai.refl _)
   |true=>
    rw[A] at q;refine u h _ _ S.1 (by lia) fun J g1=>?_;cases Y:Co.ended a with
    |false=>rw[Y] at q;exact q J g1
    |true=>
     rw[Y] at q;exact s J _ _ S.2 (by lia) fun Z B=>q Z (g1.trans B)
theorem N9(v:C):∀(c:C)(k i:Nat)(h:Hp)(Q:Wq)(X:Xq),Pl c->(∀I,ai h I->Q (Co.ae (Co.into v i c)) I)->Po (run T (k+c.depth+1) hU [Co.ae c,.int (i:Int),Co.ae v] h) Q X:=by
 have U:∀(c:C)(k i:Nat)(h:Hp)(Q:Wq)(X:Xq),(∀I,ai h I->Q (Co.ae (Co.into v i c)) I)->run T (k+c.depth+1) hU [Co.ae c,.int (i:Int),Co.ae v] h=.ok (Co.ae (Co.into v i c)) h->Po (run T (k+c.depth+1) hU [Co.ae c,.int (i:Int),Co.ae v] h) Q X:=fun c k i h Q X q e=>Po.ok e (q h (ai.refl _));intro c
 induction c with
 |num j=>exact fun k i h Q X _ q=>U _ k i h Q X q (by kernel_rfl)
 |yes=>exact fun k i h Q X _ q=>U _ k i h Q X q (by kernel_rfl)
 |no=>exact fun k i h Q X _ q=>U _ k i h Q X q (by kernel_rfl)
 |ah j=>exact fun k i h Q X _ q=>U _ k i h Q X q (by kernel_rfl)
 |like j=>exact fun k i h Q X _ q=>U _ k i h Q X q (by kernel_rfl)
 |en x y _ _=>exact fun k i h Q X z=>z.elim
 |var j=>
  intro k i h Q X _ q;refine wp_run kA rfl ?_;refine wC.eqs ?_;refine wC.of (decide ((j:Int)=i)) (by simp) ?_;have q:=q h (ai.refl _);simp only[Co.into] at q;by_cases z:j=i
  .rw[if_pos z] at q;rw[bT (by lia)];exact q
  .rw[if_neg z] at q;rw[bc (by lia)];exact q
 |fn L x r=>
  intro k i h Q X n q;refine wp_run (k:=k+x.depth+1) kA rfl ?_;refine wC.eqs ?_;refine wC.eqs ?_;exact r k (i+1) h _ _ n q
 |n1 t a p=>
  intro k i h Q X n q;refine wp_run (k:=k+a.depth+1) kA rfl ?_;refine wC.of false (by cases t<;>kernel_rfl) ?_;refine wC.of false (by cases t<;>kernel_rfl) ?_;refine wC.of false (by cases t<;>kernel_rfl) ?_;refine uc (xs:=[Co.ae a]) (h1:=h) (by kernel_rfl) ?_;refine p k i h _ _ n fun J g1=>?_;refine⟨by simp[SZ],?_⟩;refine Po.ok (a:=.tup [Co.ae (Co.into v i a)]) (h:=J++[O.lst [Co.ae (Co.into v i a)]]) (by simp) ?_;exact dO (by simp[SZ]) (q _ (g1.trans (ai.app _ _)))
 |n2 t a b p g=>
  intro k i h Q X n q;rw[show k+(Co.n2 t a b).depth+1=(k+(max a.depth b.depth))+1+1 by simp only[Co.depth];lia];have d:=p (k+max a.depth b.depth-a.depth) i;have f:=g (k+max a.depth b.depth-b.depth) i;rw[show k+max a.depth b.depth-a.depth+a.depth+1=k+max a.depth b.depth+1 by lia] at d;rw[show k+max a.depth b.depth-b.depth+b.depth+1=k+max a.depth b.depth+1 by lia] at f;refine wp_run kA rfl ?_;refine wC.of false (by cases t<;>kernel_rfl) ?_;refine wC.of false (by cases t<;>kernel_rfl) ?_;refine wC.of false (by cases t<;>kernel_rfl) ?_;refine uc (xs:=[Co.ae a,Co.ae b]) (h1:=h) (by kernel_rfl) ?_;refine d h _ _ n.1 fun J g1=>?_;refine f J _ _ n.2 fun Z B=>?_;refine⟨by simp[SZ],?_⟩;refine Po.ok (a:=.tup [Co.ae (Co.into v i a),Co.ae (Co.into v i b)]) (h:=Z++[O.lst [Co.ae (Co.into v i a),Co.ae (Co.into v i b)]]) (by simp) ?_;exact dO (by simp[SZ]) (q _ ((g1.trans B).trans (ai.app _ _)))
 |n3 t a b c p g o=>
  intro k i h Q X n q;generalize s:max a.depth (max b.depth c.depth)=m;rw[show k+(Co.n3 t a b c).depth+1=(k+m)+1+1 by simp only[Co.depth];lia];have d:=p (k+m-a.depth) i;have f:=g (k+m-b.depth) i;have l:=o (k+m-c.depth) i;rw[show k+m-a.depth+a.depth+1=k+m+1 by lia] at d;rw[show k+m-b.depth+b.depth+1=k+m+1 by lia] at f;rw[show k+m-c.depth+c.depth+1=k+m+1 by lia] at l;refine wp_run kA rfl ?_;refine wC.of false (by cases t<;>kernel_rfl) ?_;refine wC.of false (by cases t<;>kernel_rfl) ?_;refine wC.of false (by cases t<;>kernel_rfl) ?_;refine uc (xs:=[Co.ae a,Co.ae b,Co.ae c]) (h1:=h) (by kernel_rfl) ?_;refine d h _ _ n.1 fun J g1=>?_;refine f J _ _ n.2.1 fun Z B=>?_;refine l Z _ _ n.2.2 fun G H=>?_;refine⟨by simp[SZ],?_⟩;refine Po.ok (a:=.tup [Co.ae (Co.into v i a),Co.ae (Co.into v i b),Co.ae (Co.into v i c)]) (h:=G++[O.lst [Co.ae (Co.into v i a),Co.ae (Co.into v i b),Co.ae (Co.into v i c)]]) (by simp) ?_;exact dO (by simp[SZ]) (q _ (((g1.trans B).trans H).trans (ai.app _ _)))
theorem FG(h:Hp)(u v:W)(b:Bool):idx (.ref h.length) (.int (if b=true then 1 else 0)) (h++[.lst [u,v]])=.ok (if b then v else u) (h++[.lst [u,v]]):=by cases b<;>simp
theorem CT{k:Nat}{h:Hp}{l x y r:C}{Q:Wq}{X:Xq}(m:Cm l x y r)(q:∀I,ai h I->Q (Co.ae r) I):Po (run T (k+1) kH [Co.ae l,Co.ae x,Co.ae y] h) Q X:=by
 have g:∀(b:Bool),(if b then Co.ae .yes else Co.ae .no)=Co.ae r->Po (idx (.ref h.length) (.int (if b=true then 1 else 0)) (h++[.lst [.tup [.str [110,111]],.tup [.str [121,101,115]]]])) Q X:=by intro b e;refine Po.ok (FG h _ _ b) ?_;have:=q _ (ai.app h [.lst [.tup [.str [110,111]],.tup [.str [121,101,115]]]]);rw[<-e] at this;exact this
 cases m with
 | @num i j=>
  refine wp_run cX rfl ?_;refine wC.eqs ?_;refine wC.of (decide (i=j)) ?_ ?_
  .simp[dB,cS,Co.ae]
  .exact g (decide (i=j)) (by by_cases z:i=j<;>simp[z])
 |yy=>
  refine wp_run cX rfl ?_;refine wC.eqs ?_;refine wC.of true (by kernel_rfl) ?_;exact g true rfl
 |nn=>
  refine wp_run cX rfl ?_;refine wC.eqs ?_;refine wC.of true (by kernel_rfl) ?_;exact g true rfl
 |yn=>
  refine wp_run cX rfl ?_;refine wC.eqs ?_;refine wC.of false (by kernel_rfl) ?_;exact g false rfl
 |ny=>
  refine wp_run cX rfl ?_;refine wC.eqs ?_;refine wC.of false (by kernel_rfl) ?_;exact g false rfl
 |ee=>
  refine wp_run cX rfl ?_;refine wC.eqs ?_;refine wC.eqs ?_;refine wC.eqs ?_;refine wC.eqs ?_;exact g true rfl
 |em=>
  refine wp_run cX rfl ?_;refine wC.eqs ?_;refine wC.eqs ?_;refine wC.eqs ?_;refine wC.eqs ?_;exact g false rfl
 |me=>
  refine wp_run cX rfl ?_;refine wC.eqs ?_;refine wC.eqs ?_;refine wC.eqs ?_;refine wC.eqs ?_;refine wC.eqs ?_;exact g false rfl
 |mm=>exact Po.ok (h:=h) (by kernel_rfl) (q h (ai.refl _))
 |bb=>exact Po.ok (h:=h) (by kernel_rfl) (q h (ai.refl _))
theorem S3{c:C}{j:Nat}(v:Vp c j):∃A B:List W,(∀(u:Or)(h:Hp)(q e:Option W),af u (.sl (.var 0) .none (.some (.var 2))) [some (Co.ae c),q,some (.int (j:Int)),e] h=.ok (.tup A) h)/\(∀(u:Or)(h:Hp)(q e:Option W),af u (.sl (.var 0) (.some (.bin .add (.var 2) (.cst (.int 1)))) .none) [some (Co.ae c),q,some (.int (j:Int)),e] h=.ok (.tup B) h)/\(∀p,Co.ae (aN c j p)=.tup (A++[Co.ae p]++B))/\A.length+B.length<=3:=by
 cases v with
 | @n1 t a=>exact⟨[.str t.s],[],by intros;kernel_rfl,by intros;kernel_rfl,fun _=>rfl,by simp⟩
 | @iB t a b=>exact⟨[.str t.s],[Co.ae b],by intros;kernel_rfl,by intros;kernel_rfl,fun _=>rfl,by simp⟩
 | @gE t a b=>exact⟨[.str t.s,Co.ae a],[],by intros;kernel_rfl,by intros;kernel_rfl,fun _=>rfl,by simp⟩
 | @fy t a b c=>exact⟨[.str t.s],[Co.ae b,Co.ae c],by intros;kernel_rfl,by intros;kernel_rfl,fun _=>rfl,by simp⟩
 | @gC a b c=>exact⟨[.str T3.fold.s,Co.ae a],[Co.ae c],by intros;kernel_rfl,by intros;kernel_rfl,fun _=>rfl,by simp⟩
 | @fN a b c=>exact⟨[.str T3.fold.s,Co.ae a,Co.ae b],[],by intros;kernel_rfl,by intros;kernel_rfl,fun _=>rfl,by simp⟩
section
variable {n k:Nat}{h:Hp}{c:C}{N:Nq}{Q:Wq}{X:Xq}{t1 t3:Option W}
def LS(n:Nat)(c:C):Prop:=∀(k:Nat)(h:Hp)(Q:Wq)(X:Xq),(∀I,ai h I->Q (Co.ae (Co.aj c)) I)->Po (run T (k+c.depth+3) jn [Co.ae c] h) Q X
theorem i8{j:Nat}(v:Vp c j)(S:kb n c)(d:c.depth+n+2<=899)(f:Co.ended (bE c j)=false->LS n (bE c j))(x:kb n (bE c j))(g:Co.ended (bE c j)=true->∀I,ai h I->N [some (Co.ae c),t1,some (.int (j:Int)),t3] I)(l:Co.ended (bE c j)=false->∀I,ai h I->Q (Co.ae (aN c j (Co.aj (bE c j)))) I):wSs (run T (k+c.depth+2)) mq [some (Co.ae c),t1,some (.int (j:Int)),t3] h N Q X:=by
 have dp:=v.deep;have b:=xO n (bE c j) (k+c.depth+1-(bE c j).depth) h;rw[show k+c.depth+1-(bE c j).depth+(bE c j).depth+1=k+c.depth+2 by lia] at b;refine Po.ok (Gs v h) ?_;refine b _ _ x (by lia) fun J g1=>?_;cases e:Co.ended (bE c j) with
 |true=>exact g e J g1
 |false=>
  obtain⟨A,B,m,o,q,r⟩:=S3 v;refine Po.of (a:=.bl true) rfl ?_;refine Po.ok (m _ J t1 t3) ?_;refine Po.ok (Gs v J) ?_;have i:=f e (k+c.depth-1-(bE c j).depth) J;rw[show k+c.depth-1-(bE c j).depth+(bE c j).depth+3=k+c.depth+2 by lia] at i;refine i _ _ fun Z p=>?_;refine dO (by simp[SZ];lia) ?_;refine Po.ok (o _ Z t1 t3) ?_;refine dO (by simp[SZ];lia) ?_;have:=l e Z (g1.trans p);rw[q] at this;exact this
end
abbrev Tl(n:Nat)(c:C)(k:Nat)(w:W)(r:C):Prop:=∀(h:Hp)(Q:Wq)(X:Xq)(q t:Option W),(∀I,ai h I->Q w I)->w=Co.ae r->wSs (run T (k+c.depth+2)) (lM.body.drop 2) [some (Co.ae c),q,t,none] h (fun _ h=>Q .ah h) Q X
section
variable {n k:Nat}{a b c:C}
theorem JN(t:T1)(S:kb n (.n1 t a))(d:(Co.n1 t a).depth+n+2<=899)(i:Co.ended a=false->LS n a)(p:Co.ended a=true->∀k,Tl n (.n1 t a) k (Co.ae (D8 t a)) (D8 t a)):LS n (.n1 t a):=by
 intro k h Q X q;refine wp_run jt rfl ?_;refine wC.of false (by cases t<;>kernel_rfl) ?_;refine my (xs:=[.int 1]) (h1:=h) (by kernel_rfl) ?_;simp only[Co.aj] at q;refine i8 .n1 S d i S (fun e J g1=>?_) fun e J g1=>?_
 .have e:Co.ended a=true:=e;rw[if_pos e] at q;exact p e k J Q X _ _ (fun Z B=>q Z (g1.trans B)) rfl
 .have e:Co.ended a=false:=e;rw[if_neg (by simp[e])] at q;exact q J g1
theorem Ta(t:T2)(S:kb n (.n2 t a b))(d:(Co.n2 t a b).depth+n+2<=899)(i:Co.ended a=false->LS n a)(p:Co.ended b=false->LS n b)(x:Co.ended a=true->Co.ended b=true->∀k,Tl n (.n2 t a b) k (Co.ae (oz t a b)) (oz t a b)):LS n (.n2 t a b):=by
 intro k h Q X q;refine wp_run jt rfl ?_;refine wC.of false (by cases t<;>kernel_rfl) ?_;refine my (xs:=[.int 1,.int 2]) (h1:=h) (by kernel_rfl) ?_;simp only[Co.aj] at q;refine i8 .iB S d i S.1 (fun e J g1=>?_) fun e J g1=>?_
 .have e:Co.ended a=true:=e;rw[if_pos e] at q;refine i8 .gE S d p S.2 (fun f Z B=>?_) fun f Z B=>?_
  .have f:Co.ended b=true:=f;rw[if_pos f] at q;exact x e f k Z Q X _ _ (fun G H=>q G ((g1.trans B).trans H)) rfl
  .have f:Co.ended b=false:=f;rw[if_neg (by simp[f])] at q;exact q Z (g1.trans B)
 .have e:Co.ended a=false:=e;rw[if_neg (by simp[e])] at q;exact q J g1
theorem S1(S:kb n (.n3 .fold a b c))(d:(Co.n3 .fold a b c).depth+n+2<=899)(g:Co.ended a=false->LS n a)(j:Co.ended b=false->LS n b)(l:Co.ended c=false->LS n c)(m:Co.ended a=true->∀k,Tl n (.n3 .fold a b c) k (Co.ae (Ax a b c)) (Ax a b c)):LS n (.n3 .fold a b c):=by
 intro k h Q X q;refine wp_run jt rfl ?_;refine wC.eqs ?_;refine my (xs:=[.int 1,.int 2,.int 3]) (h1:=h) (by kernel_rfl) ?_;simp only[Co.aj] at q;refine i8 .fy S d g S.1 (fun e J g1=>?_) fun e J g1=>?_
 .have e:Co.ended a=true:=e;rw[if_pos e] at q;refine i8 .gC S d j S.2.1 (fun f Z B=>?_) fun f Z B=>?_
  .have f:Co.ended b=true:=f;rw[if_pos f] at q;refine i8 .fN S d l S.2.2 (fun i G H=>?_) fun i G H=>?_
   .have i:Co.ended c=true:=i;rw[if_pos i] at q;exact m e k G Q X _ _ (fun x p=>q x (((g1.trans B).trans H).trans p)) rfl
   .have i:Co.ended c=false:=i;rw[if_neg (by simp[i])] at q;exact q G ((g1.trans B).trans H)
  .have f:Co.ended b=false:=f;rw[if_neg (by simp[f])] at q;exact q Z (g1.trans B)
 .have e:Co.ended a=false:=e;rw[if_neg (by simp[e])] at q;exact q J g1
theorem Sz(S:kb n (.n3 .aQ a b c))(d:(Co.n3 .aQ a b c).depth+n+2<=899)(i:Co.ended a=false->LS n a)(p:Co.ended a=true->∀k,Tl n (.n3 .aQ a b c) k (Co.ae (Co.aj (.n3 .aQ a b c))) (Co.aj (.n3 .aQ a b c))):LS n (.n3 .aQ a b c):=by
 intro k h Q X q;refine wp_run jt rfl ?_;refine wC.eqs ?_;refine my (xs:=[.int 1]) (h1:=h) (by kernel_rfl) ?_;refine i8 .fy S d i S.1 (fun e J g1=>?_) fun e J g1=>?_
 .exact p e k J Q X _ _ (fun Z B=>q Z (g1.trans B)) rfl
 .have e:Co.ended a=false:=e;simp only[Co.aj,e,eL,bp] at q;exact q J g1
end
theorem dU(n:Nat):∀(c:C)(t:Kd),Ty [] c t->kb n c->c.depth+n+2<=899->Co.ended c=false->LS n c
 |.num _,_,_,_,_,e=>by simp[Co.ended] at e
 |.yes,_,_,_,_,e=>by simp[Co.ended] at e
 |.no,_,_,_,_,e=>by simp[Co.ended] at e
 |.ah _,_,_,_,_,e=>by simp[Co.ended] at e
 |.like _,_,_,_,_,e=>by simp[Co.ended] at e
 |.fn _ _,_,_,_,_,e=>by simp[Co.ended] at e
 |.en _ _,_,_,_,_,e=>by simp[Co.ended] at e
 |.var _,_,h,_,_,_=>by cases h with|var z=>simp at z
 |.n1 tg a,t,h,kc,d,e=>by
  have d':=d;simp only[Co.depth] at d';cases h with
  |left h1=>
   refine JN .left kc d (fun ea=>dU n a _ h1 kc (by lia) ea) fun ea k h Q X t1 t2 q w=>?_;obtain⟨x1,x2,rfl,e1,e2,ty1,ty2⟩:=cH h1 ea;have:=q h (ai.refl _);refine wC.eqs ?_;refine wC.eqs ?_;refine wC.of true (by kernel_rfl) ?_;refine wC.eqs ?_;exact this
  |right h1=>
   refine JN .right kc d (fun ea=>dU n a _ h1 kc (by lia) ea) fun ea k h Q X t1 t2 q w=>?_;obtain⟨x1,x2,rfl,e1,e2,ty1,ty2⟩:=cH h1 ea;have:=q h (ai.refl _);refine wC.eqs ?_;refine wC.eqs ?_;refine wC.of true (by kernel_rfl) ?_;refine wC.eqs ?_;exact this
  |bQ h1=>
   refine JN .bQ kc d (fun ea=>dU n a _ h1 kc (by lia) ea) fun ea=>?_;simp[Co.ended,ea] at e
 |.n2 tg a b,t,h,kc,d,e=>by
  have d':=d;simp only[Co.depth] at d';have no:∀{P:Prop},eI (.n2 tg a b)=true->Co.ended a=true->Co.ended b=true->P:=fun x y z=>by rw[fo,x,y,z] at e;cases e
  have key:∀t1 t2,Ty [] a t1->Ty [] b t2->(Co.ended a=true->Co.ended b=true->∀k,Tl n (.n2 tg a b) k (Co.ae (oz tg a b)) (oz tg a b))->LS n (.n2 tg a b):=fun t1 t2 h1 h2 tl=>Ta tg kc d (fun ea=>dU n a t1 h1 kc.1 (by lia) ea) (fun eb=>dU n b t2 h2 kc.2 (by lia) eb) tl;cases h with
  |both h1 h2=>exact key _ _ h1 h2 fun x y=>no rfl x y
  |more h1 h2=>exact key _ _ h1 h2 fun x y=>no rfl x y
  |bK h1 h2=>exact key _ _ h1 h2 fun x y=>no rfl x y
  |sum h1 h2=>
   refine key _ _ h1 h2 fun x y k h Q X t1 t2 q w=>?_;obtain⟨i,rfl⟩:=bS h1 x;obtain⟨j,rfl⟩:=bS h2 y;have:=q h (ai.refl _);refine wC.eqs ?_;refine wC.eqs ?_;refine wC.of false (by kernel_rfl) ?_;refine wC.eqs ?_;refine wC.eqs ?_;refine wC.eqs ?_;refine wC.eqs ?_;exact this
  |less h1 h2=>
   refine key _ _ h1 h2 fun x y k h Q X t1 t2 q w=>?_;obtain⟨i,rfl⟩:=bS h1 x;obtain⟨j,rfl⟩:=bS h2 y;have:=q (h++[.lst [.tup [.str [110,111]],.tup [.str [121,101,115]]]]) (ai.app _ _);refine wC.eqs ?_;refine wC.eqs ?_;refine wC.of false (by kernel_rfl) ?_;refine wC.eqs ?_;refine wC.eqs ?_;refine wC.eqs ?_;refine wC.eqs ?_;refine wC.of (decide (i<j)) rfl ?_;refine Po.ok (a:=.int (if decide (i<j)=true then 1 else 0)) (h:=h++[.lst [.tup [.str [110,111]],.tup [.str [121,101,115]]]]) rfl ?_;refine Po.ok (FG h _ _ (decide (i<j))) ?_;rw[lB] at this;by_cases z:i<j
   .rw[if_pos z] at this;rw[if_pos (bT z)];exact this
   .rw[if_neg z] at this;rw[if_neg (by simpa using z)];exact this
  |call h1 h2=>
   refine key _ _ h1 h2 fun x y k h Q X t1 t2 q w=>?_;rcases m7 h1 x with ⟨bo,rfl,hb⟩|⟨il,_⟩|⟨l,v,rfl,il,el,ev,tl,tv,rfl⟩
   .refine wC.eqs ?_;refine wC.eqs ?_;have:=N9 b bo (k+2+(max (bo.depth+1) b.depth-bo.depth)) 0 h Q X hb.pl q;rw[show k+2+(max (bo.depth+1) b.depth-bo.depth)+bo.depth+1=k+(Co.n2 .call (.fn _ bo) b:C).depth+2 by simp only[Co.depth];lia] at this;exact this
   .exact no il x y
   .refine wC.eqs ?_;refine wC.eqs ?_;refine wC.eqs ?_;exact CT (k:=k+(Co.n2 .call (.n2 .call l v) b:C).depth+1) (Gq tl il tv ev h2 y) q
 |.n3 .fold a b c,t,h,kc,d,e=>by
  have d':=d;simp only[Co.depth] at d';cases h with
  |fold h1 h2 h3=>
   refine S1 kc d (fun ea=>dU n a _ h1 kc.1 (by lia) ea) (fun eb=>dU n b _ h2 kc.2.1 (by lia) eb) (fun ec=>dU n c _ h3 kc.2.2 (by lia) ec) fun ea k h Q X t1 t2 q w=>?_;have:=q h (ai.refl _);rcases fF h1 ea with rfl|⟨x1,x2,rfl,e1,e2,ty1,ty2⟩
   .refine wC.eqs ?_;refine wC.eqs ?_;refine wC.of false (by kernel_rfl) ?_;refine wC.eqs ?_;refine wC.eqs ?_;refine wC.eqs ?_;exact this
   .refine wC.eqs ?_;refine wC.eqs ?_;refine wC.of false (by kernel_rfl) ?_;refine wC.eqs ?_;refine wC.eqs ?_;refine wC.eqs ?_;refine wC.eqs ?_;exact this
 |.n3 .aQ a b c,t,h,kc,d,e=>by
  have d':=d;simp only[Co.depth] at d';cases h with
  |aQ h1 h2 h3=>
   refine Sz kc d (fun ea=>dU n a _ h1 kc.1 (by lia) ea) fun ea k h Q X t1 t2 q w=>?_;have:=q h (ai.refl _);rcases iq h1 ea with rfl|rfl
   .refine wC.eqs ?_;refine wC.eqs ?_;refine wC.of false (by kernel_rfl) ?_;refine wC.eqs ?_;refine wC.of true (by kernel_rfl) ?_;exact this
   .refine wC.eqs ?_;refine wC.eqs ?_;refine wC.of false (by kernel_rfl) ?_;refine wC.eqs ?_;refine wC.of false (by kernel_rfl) ?_;exact this
theorem uM{n:Nat}(hn:n<=1000):cJ (n:Int)=true:=by unfold cJ;rw[bT (by lia),bT (by lia)];rfl
theorem CG{i:Int}{h:Hp}(e:cJ i=true):(if cJ i=true then R.ok (Src.fix (upTo 0 i.toNat)) h else .bad)=.ok (.fix (upTo 0 i.toNat)) h:=if_pos e
theorem IY{u:Or}{M:Env}{h:Hp}{e:E}{i:Int}(r:cJ i=true)(ee:af u e M h=.ok (.int i) h):eM u (.ml e) M h=.ok (.fix (upTo 0 i.toNat)) h:=by rw[qQ,ee];exact CG r
theorem NU{f:Nat}{fn:Fn}(e:T[f]?=some fn)(k:Nat)(a:List W)(h:Hp):run T (k+1) f a h=eG (run T k) fn a h:=run_eq e k a h
theorem nJ(k p:Nat):Ks (run T (k+1)) aU p:=tu (nx:=aU) rfl k p
theorem oF:∀a:List Int,cF (a.map W.int)=true
 |[]=>rfl
 |x::r=>by simp[cF,W.pure,oF r]
theorem oJ:∀a:List Int,bA (a.map W.int)=0
 |[]=>rfl
 |x::r=>by simp[bA,W.deep,oJ r]
theorem G7(k p:Nat)(h:Hp)(g:Gen p h):∃v h',run T (k+2) iE [.ref p] h=.ok (.int v) h'/\Ext p h h'/\Gen p h':=by
 obtain⟨v1,h1,r1,a1,b1,x1,g1⟩:=nJ k p 14 h g (by decide);obtain⟨v2,h2,r2,a2,b2,x2,g2⟩:=nJ k p 2000 h1 g1 (by decide);obtain⟨v3,h3,r3,a3,b3,x3,g3⟩:=nJ k p 4 h2 g2 (by decide);have x123:=(x1.trans x2).trans x3;have g4:=g3.ext [O.lst [.int (v1-5),.int (v2-1000),.int v3]];have n4:=g3.jy;obtain⟨a,c,l,ns,e1',e2',e3⟩:=g3.ex;have nl:l≠h3.length:=fun z=>absurd (lY e2') (by lia);have e1:=aK [O.lst [.int (v1-5),.int (v2-1000),.int v3]] e1';have e2:=aK [O.lst [.int (v1-5),.int (v2-1000),.int v3]] e2';have q:=qf e2 (oF ns) (by rw[oJ];lia);have f1:=aK [O.lst []] e1;have f2:=aK [O.lst []] e2;have g5:=g4.ext [O.lst []];have A5:=aK [O.lst []] (bf h3 (O.lst [.int (v1-5),.int (v2-1000),.int v3]));have x5:Ext p h ((h3++[O.lst [.int (v1-5),.int (v2-1000),.int v3]])++[O.lst []]):=(x123.trans (Ext.app p _ _)).trans (Ext.app p _ _);rw[NU Bt];simp only[List.append_assoc,List.cons_append,List.nil_append] at q f1 f2 g5 A5 x5;simp only[lI,gK,List.length_nil] at q;cases ns with
 |nil=>
  obtain⟨v6,h6,r6,a6,b6,x6,g6⟩:=nJ k p 3 _ g5 (by decide);have A6:=x6.keep _ _ A5 (bj n4);obtain⟨y,hy,ey⟩:=rS [W.int (v1-5),.int (v2-1000),.int v3] v6 a6 (by simpa using b6);obtain⟨z,rfl⟩:∃z,y=.int z:=by simp at hy;rcases hy with rfl|rfl|rfl<;>exact⟨_,rfl⟩
  refine⟨z,h6,?_,x5.trans x6,g6⟩;simp only[zX,List.isEmpty_nil] at q;exact vm [some (.ref p),none] rfl rfl (lW (w:=.ref h3.length) (h':=h3++[O.lst [.int (v1-5),.int (v2-1000),.int v3]]) (by simp[r1,r2,r3]) (sH (h':=h3++[O.lst [.int (v1-5),.int (v2-1000),.int v3],O.lst []]) (by simp[e1,q]) (iC (by simp[A5,r6,A6,ey]))))
 |cons n r=>
  obtain⟨w,hw,ew⟩:=zp ((n::r).map W.int) c (by simp);obtain⟨y,_,rfl⟩:=o9.mp hw;have pos:(0:Int)<(r.length:Int)+1:=by lia
  have B:Gen p ((h3++[O.lst [.int (v1-5),.int (v2-1000),.int v3],O.lst []]).set h3.length (O.lst [.int (v1-5),.int (v2-1000),.int v3,.int (y % 100000000000000000000000000000000000000000000000000000000000-1000000000000000000000000000000)])):=by refine⟨a,c,l,n::r,bI (bj n4) f1,bI (bj nl) f2,e3⟩
  obtain⟨v6,h6,r6,a6,b6,x6,g6⟩:=nJ k p 4 _ B (by decide);have A6:=x6.keep _ _ (jF (o:=O.lst [.int (v1-5),.int (v2-1000),.int v3,.int (y % 100000000000000000000000000000000000000000000000000000000000-1000000000000000000000000000000)]) A5) (bj n4);obtain⟨u,hu,eu⟩:=rS [W.int (v1-5),.int (v2-1000),.int v3,.int (y % 100000000000000000000000000000000000000000000000000000000000-1000000000000000000000000000000)] v6 a6 (by simpa using b6);obtain⟨z,rfl⟩:∃z,u=.int z:=by simp at hu;rcases hu with rfl|rfl|rfl|rfl<;>exact⟨_,rfl⟩
  have xs:Ext p h3 ((h3++[O.lst [.int (v1-5),.int (v2-1000),.int v3],O.lst []]).set h3.length (O.lst [.int (v1-5),.int (v2-1000),.int v3,.int (y % 100000000000000000000000000000000000000000000000000000000000-1000000000000000000000000000000)])):=⟨by simp,fun q o e n=>bI (fun z=>absurd (lY e) (by lia)) (aK _ e)⟩;refine⟨z,h6,?_,(x123.trans xs).trans x6,g6⟩;simp only[fJ,List.isEmpty_cons] at q f2 ew;simp only[gK,i9] at ew;push_cast at ew;simp at r6 A6;exact vm [some (.ref p),none] rfl rfl (lW (w:=.ref h3.length) (h':=h3++[O.lst [.int (v1-5),.int (v2-1000),.int v3]]) (by simp[r1,r2,r3]) (Oh (h':=h3++[O.lst [.int (v1-5),.int (v2-1000),.int v3],O.lst []]) (σ':=[some (.ref p),some (.ref h3.length)]) (h3:=h3++[O.lst [.int (v1-5),.int (v2-1000),.int v3,.int (y % 100000000000000000000000000000000000000000000000000000000000-1000000000000000000000000000000)],O.lst []]) (by simp[e1,q]) (by simp[-binI,f1,f2,A5,pos,ew,SZ,binI.eq_def]) (iC (by simp[r6,A6,eu]))))
section
variable {p b k:Nat}{h:Hp}{Q:Wq}{X:Xq}
theorem nv(k:Nat)(g:Gen p h)(m:Int)(c:0<m)(q:∀v J,0<=v->v<m->Ext p h J->Gen p J->Q (.int v) J):Po (run T (k+1) aU [.ref p,.int m] h) Q X:=by obtain⟨v,J,e,a,b,x,g⟩:=nJ k p m h g c;exact Po.ok e (q v J a b x g)
theorem CP(k:Nat)(g:Gen p h)(q:∀v J,Ext p h J->Gen p J->Q (.int v) J):Po (run T (k+2) iE [.ref p] h) Q X:=by obtain⟨v,J,e,x,g⟩:=G7 k p h g;exact Po.ok e (q v J x g)
theorem Gu(n k:Nat)(g:Gen p h)(q:∀(L:Kd) J,L.depth<=n->L.over []->Ext p h J->Gen p J->Q L.ae J):Po (run T (k+n+2) hW [.ref p,.int n,.ref h.length] (h++[O.lst []])) Q X:=by obtain⟨L,J,i⟩:=zr (T:=T) (nx:=aU) (self:=hW) (q:=h.length) (names:=[]) rfl rfl (bj g.jy) n k (h++[O.lst []]) (g.ext _) (by simp);rw[Nat.add_comm k n];exact Po.ok i.eq (q L J i.deep i.over ((Ext.app p h [O.lst []]).trans i.ext) i.gen)
structure In(p b:Nat)(bd:List Kd)(h:Hp):Prop where
 look:h[b]?=some (.lst (bd.map Kd.ae))
 ne:b≠p
theorem In.to{a:List Kd}{h I:Hp}(i:In p b a h)(x:Ext p h I):In p b a I:=⟨x.keep _ _ i.look i.ne,i.ne⟩
end
noncomputable def fS:Kd->Bool
 |.row k=>fS k
 |.pair a b=>fS a&&fS b
 |.num=>true
 |.tru=>true
 |_=>false
theorem rA:∀k:Kd,fS k=true->kC k
 |.num,_=>trivial
 |.tru,_=>trivial
 |.row k,h=>rA k h
 |.pair a b,h=>by
  simp only[fS,aq] at h;exact⟨rA a h.1,rA b h.2⟩
 |.work _ _,h=>by simp[fS] at h
 |.any _,h=>by simp[fS] at h
 |.gap _,h=>by simp[fS] at h
theorem qe{n:Nat}{h:Hp}{ys:List Kd}{Q:Wq}(hn:n<=800)(a:∀y∈ys,y.depth<=n)(q:Q (.bl ys.isEmpty) (h++[.lst (ys.map Kd.ae)]++[.lst []])):wC .eq (.ref h.length) (.ref (h++[O.lst (ys.map Kd.ae)]).length) (h++[.lst (ys.map Kd.ae)]++[.lst []]) Q:=by refine wC.of _ ?_ q;show dB _ _ _=_;rw[qf (bf h _) (map_pure ys) (aF (xJ n ys a) (by lia))];cases ys<;>rfl
theorem Ii:∀(kd:Kd)(k:Nat)(h:Hp)(Q:Wq)(X:Xq),kd.over []->kd.depth<=800->(∀h',ai h h'->Q (.bl (fS kd)) h')->Po (run T (k+kd.depth+1) iI [kd.ae] h) Q X:=by
 have leaf:∀(kd:Kd)(k:Nat)(h:Hp)(Q:Wq)(X:Xq),(eM (run T (k+kd.depth)) (.seq (.sl (.var 0) (.some (.cst (.int 1))) .none)) [some kd.ae] h=.ok (.fix []) h)->isIn (.str (match kd with | .num=>ir|_=>mB)) (.tup [.str [119,111,114,107],.str [97,110,121]]) h=some false->idx kd.ae (.int 0) h=.ok (.str (match kd with | .num=>ir|_=>mB)) h->(∀h',ai h h'->Q (.bl true) h')->Po (run T (k+kd.depth+1) iI [kd.ae] h) Q X:=by intro kd k h Q X e1 e2 e3 q;refine wp_run jT rfl ?_;refine Po.ok e3 ?_;refine wC.of false e2 ?_;refine jb e1 ?_;exact⟨by simp,qe (ys:=[]) (n:=0) (by lia) (fun y hy=>by cases hy) (q _ ((ai.app _ _).trans (ai.app _ _)))⟩
 intro kd
 induction kd with
 |num=>exact fun k h Q X _ _ q=>leaf .num k h Q X (by kernel_rfl) (by kernel_rfl) (by kernel_rfl) q
 |tru=>exact fun k h Q X _ _ q=>leaf .tru k h Q X (by kernel_rfl) (by kernel_rfl) (by kernel_rfl) q
 |any x=>intro k h Q X o;simp[Kd.over] at o
 |gap x=>intro k h Q X o;simp[Kd.over] at o
 |work a b _ _=>
  intro k h Q X o d q;refine wp_run jT rfl ?_;refine wC.of true (by kernel_rfl) ?_;exact q h (ai.refl _)
 |row a ia=>
  intro k h Q X o d q;simp only[Kd.depth] at d;refine wp_run (k:=k+a.depth+1) jT rfl ?_;refine wC.of false (by kernel_rfl) ?_;refine jb (xs:=[a.ae]) (h1:=h) (by kernel_rfl) ?_;refine ia k h _ _ o (by lia) fun h1 g1=>?_;have q:∀h',ai h h'->Q (.bl (fS a)) h':=q;cases ea:fS a with
  |true=>exact⟨by simp,qe (ys:=[]) (n:=0) (by lia) (fun y hh=>by cases hh) (by rw[ea] at q;exact q _ ((g1.trans (ai.app _ _)).trans (ai.app _ _)))⟩
  |false=>exact⟨by simp[SZ],qe (ys:=[a]) (n:=800) (by lia) (fun y hh=>by simp at hh;subst hh;lia) (by rw[ea] at q;exact q _ ((g1.trans (ai.app _ _)).trans (ai.app _ _)))⟩
 |pair a b ia ib=>
  intro k h Q X o d q;simp only[Kd.depth] at d;have ra:=ia (k+max a.depth b.depth-a.depth);have rb:=ib (k+max a.depth b.depth-b.depth);rw[show k+max a.depth b.depth-a.depth+a.depth+1=k+max a.depth b.depth+1 by lia] at ra;rw[show k+max a.depth b.depth-b.depth+b.depth+1=k+max a.depth b.depth+1 by lia] at rb;refine wp_run (k:=k+max a.depth b.depth+1) jT rfl ?_;refine wC.of false (by kernel_rfl) ?_;refine jb (xs:=[a.ae,b.ae]) (h1:=h) (by kernel_rfl) ?_;refine ra h _ _ o.1 (by lia) fun h1 g1=>?_;have q:∀h',ai h h'->Q (.bl (fS a&&fS b)) h':=q;have fin:∀(ys:List Kd)(H:Hp),(∀y∈ys,y=a\/y=b)->ai h H->ys.isEmpty=(fS a&&fS b)->ys.length<=2->(ys.map Kd.ae).length<=SZ/\wC .eq (.ref H.length) (.ref (H++[O.lst (ys.map Kd.ae)]).length) (H++[.lst (ys.map Kd.ae)]++[.lst []]) Q:=by
   intro ys H hy g e l;refine⟨by simp[SZ];lia,qe (n:=800) (by lia) (fun y hh=>?_) ?_⟩
   .rcases hy y hh with rfl|rfl<;>lia
   .rw[e];exact q _ ((g.trans (ai.app _ _)).trans (ai.app _ _))
  cases ea:fS a with
  |true=>
   refine rb h1 _ _ o.2 (by lia) fun h2 g2=>?_;cases eb:fS b with
   |true=>exact fin [] h2 (fun y hy=>by cases hy) (g1.trans g2) (by rw[ea,eb];rfl) (by simp)
   |false=>exact fin [b] h2 (fun y hy=>by simp at hy;exact .inr hy) (g1.trans g2) (by rw[ea,eb];rfl) (by simp)
  |false=>
   refine rb h1 _ _ o.2 (by lia) fun h2 g2=>?_;cases eb:fS b with
   |true=>exact fin [a] h2 (fun y hy=>by simp at hy;exact .inl hy) (g1.trans g2) (by rw[ea,eb];rfl) (by simp)
   |false=>exact fin [a,b] h2 (fun y hy=>by simpa using hy) (g1.trans g2) (by rw[ea,eb];rfl) (by simp)
theorem k8(p:Nat):∀(L:Kd)(k:Nat)(h:Hp),fS L=true->run T (k+L.depth+1) eS [.ref p,L.ae] h=.ok (Co.ae (gY L)) h
 |.num,k,h,_=>by kernel_rfl
 |.tru,k,h,_=>by kernel_rfl
 |.row a,k,h,l=>by
  refine Po.eq (wp_run (k:=k+a.depth+1) o6 rfl ?_);refine wC.eqs ?_;exact Po.ok (k8 p a k h l) ⟨rfl,rfl⟩
 |.pair a b,k,h,l=>by
  simp only[fS,aq] at l;have c:=k8 p a (k+max a.depth b.depth-a.depth) h l.1;have e:=k8 p b (k+max a.depth b.depth-b.depth) h l.2;rw[show k+max a.depth b.depth-a.depth+a.depth+1=k+max a.depth b.depth+1 by lia] at c;rw[show k+max a.depth b.depth-b.depth+b.depth+1=k+max a.depth b.depth+1 by lia] at e;refine Po.eq (wp_run (k:=k+max a.depth b.depth+1) o6 rfl ?_);refine wC.eqs ?_;refine wC.eqs ?_;refine Po.ok c ?_;exact Po.ok e ⟨rfl,rfl⟩
 |.work _ _,_,_,l=>by simp[fS] at l
 |.any _,_,_,l=>by simp[fS] at l
 |.gap _,_,_,l=>by simp[fS] at l
section
variable {p b k:Nat}{h:Hp}{Q:Wq}{X:Xq}{bd:List Kd}{kd:Kd}
abbrev P5(bd:List Kd)(kd:Kd)(a:List Nat):Prop:=∀x∈a,bd.reverse[x]?=some kd
noncomputable abbrev sc(p b:Nat)(kd:Kd)(e v:Int)(a c i n x:Option W):Env:=[some (.ref p),some (.ref b),some kd.ae,some (.int e),some (.int v),a,c,i,n,x]
theorem tR{Φ:Or}{e0 v:Int}{g5 g6 g7 g8 g9:Option W}{Q:List W->Hp->Prop}(V:h[b]?=some (.lst (bd.map Kd.ae)))(hk:kd.depth<=800)(y:∀x∈bd,x.depth<=800):∀(n i:Nat)(D:List Nat),i+n=bd.length->P5 bd kd D->D.length<=i->(∀c,P5 bd kd c->c.length<=bd.length->Q (c.map fun (j:Nat)=>W.int (j:Int)) h)->C5 Φ qr qv (sc p b kd e0 v g5 g6 g7 g8 g9) (upTo (i:Int) n) (D.map fun (j:Nat)=>W.int (j:Int)) h Q
 |0,i,D,e,f,l,q=>q D f (by lia)
 |n+1,i,D,e,f,l,q=>by
  have d:bd.length-1-i<bd.length:=by lia
  have g:idx (.ref b) (.int ((bd.length:Int)-1-i)) h=.ok (bd[bd.length-1-i]).ae h:=by have:=j9 (bd.map Kd.ae) (bd.length-1-i) (by simpa using d);rw[show (((bd.length-1-i:Nat)):Int)=(bd.length:Int)-1-i by lia] at this;simp only[idx,V,this];simp
  refine gU V ?_;rw[i9];refine Po.ok g ?_;refine wC.of (decide (bd[bd.length-1-i]=kd)) (Kd.dB h _ kd (aF (y _ (vC _)) (by lia)) (by lia)) ?_;by_cases z:bd[bd.length-1-i]=kd
  .rw[bT z];have:=tR (Φ:=Φ) (e0:=e0) (v:=v) (g5:=g5) (g6:=g6) (g7:=g7) (g8:=g8) (g9:=g9) (Q:=Q) V hk y n (i+1) (D++[i]) (by lia) (fun x a=>?_) (by simp;lia) q
   .rw[List.map_append] at this;exact this
   .rcases qK.mp a with a|a
    .exact f x a
    .rw[jH.mp a,List.getElem?_reverse (by lia),lN d,z]
  .rw[bc z];exact tR (Φ:=Φ) (Q:=Q) V hk y n (i+1) D (by lia) f (by lia) q
end
def Cr(k p b:Nat)(a:List Kd)(d:Nat)(e:Int)(L:Kd):Prop:=∀(h:Hp)(Q:Wq)(X:Xq),Gen p h->In p b a h->(∀c I,Dr d a.reverse L c->Ext p h I->Gen p I->Q (Co.ae c) I)->Po (run T k bg [.ref p,.ref b,L.ae,.int e] h) Q X
def Bs(k p b:Nat)(a:List Kd)(d:Nat)(e:Int)(L:Kd):Prop:=∀(h:Hp)(Q:Wq)(X:Xq),Gen p h->In p b a h->(∀c I,Dr d a.reverse L c->Ext p h I->Gen p I->Q (Co.ae c) I)->Po (run T k kL [.ref p,.ref b,L.ae,.int e] h) Q X
section
variable {p b k d:Nat}{bd:List Kd}{kd:Kd}{e:Int}{h:Hp}{Q:Wq}{X:Xq}
theorem DL{c:List Nat}{h:Hp}{a:Nat}(e:h[a]?=some (.lst (c.map fun (j:Nat)=>W.int (j:Int)))):dB (h++[O.lst []]) (.ref a) (.ref h.length)=some c.isEmpty:=by
 have p:cF (c.map fun (j:Nat)=>W.int (j:Int))=true:=by have:=oF (c.map fun (j:Nat)=>(j:Int));rwa [List.map_map] at this
 have d:bA (c.map fun (j:Nat)=>W.int (j:Int))=0:=by have:=oJ (c.map fun (j:Nat)=>(j:Int));rwa [List.map_map] at this
 rw[qf e p (by rw[d];lia)];cases c<;>rfl
theorem zJ(hk:kd.depth<=800)(hb:∀x∈bd,x.depth<=800)(hn:bd.length<=1000)(bs:Bs (k+3) p b bd d e kd)(cr:0<e->∃A,d=A+1/\∀o:Kd,o.over []->o.depth<=1->Cr (k+3) p b bd A (e-1) (.work o kd)/\Cr (k+3) p b bd A (e-1) o/\Cr (k+3) p b bd A (e-1) .tru/\Cr (k+3) p b bd A (e-1) kd/\Cr (k+3) p b bd A (e-1) (.row o)/\Cr (k+3) p b bd A (e-1) (.work o (.work kd kd))/\Cr (k+3) p b bd A (e-1) (.pair kd o)/\Cr (k+3) p b bd A (e-1) (.pair o kd)):Cr (k+4) p b bd d e kd:=by
 intro h Q X g i q;refine wp_run Ep rfl ?_;refine nv (k+2) g 9 (by decide) fun v J v0 v9 x1 g1=>?_;have i1:=i.to x1;refine jb (xs:=upTo 0 bd.length) (h1:=J) ?_ ?_
 .have l:af (run T (k+3)) (.blt .len (.var 1)) (sc p b kd e v none none none none none) J=.ok (.int (bd.length:Int)) J:=by simp[i1.look]
  have:=IY (uM hn) l;rw[Int.toNat_natCast] at this;exact this
 refine tR (p:=p) i1.look hk hb bd.length 0 [] (by lia) (fun x hx=>by cases hx) (by simp) fun H ft fl=>?_;refine⟨by simp[SZ];lia,?_⟩;have x2:=x1.trans (Ext.app p J [O.lst (H.map fun (j:Nat)=>W.int (j:Int))]);have g2:=g1.ext [O.lst (H.map fun (j:Nat)=>W.int (j:Int))];have i2:=i.to x2;have lk:=bf J (O.lst (H.map fun (j:Nat)=>W.int (j:Int)));have nq:J.length≠p:=bj g1.jy;generalize hq:J.length=qq at lk nq;generalize J++[O.lst (H.map fun (j:Nat)=>W.int (j:Int))]=Z at x2 g2 i2 lk⊢;refine wC.of (!H.isEmpty) (by show (dB (Z++[O.lst []]) (.ref qq) (.ref Z.length)).map _=_;rw[DL lk];rfl) ?_
 have V:=x2.trans (Ext.app p Z [O.lst []]);have g3:=g2.ext [O.lst []];have i3:=i.to V;have D:=aK [O.lst []] lk;generalize Z++[O.lst []]=h3 at V g3 i3 D⊢;have tail:wSs (run T (k+3)) (qH.body.drop 3) (sc p b kd e v (some (.ref qq)) none none none none) h3 (fun _ h=>Q .ah h) Q X:=by
  refine Gu 1 k g3 fun o F od oo E I=>?_;have E:=V.trans E;have z:=i.to E;have s:Po (run T (k+3) kL [.ref p,.ref b,kd.ae,.int e] F) Q X:=bs F Q X I z fun c P dr x g=>q c P dr (E.trans x) g;refine wC.of (decide (e<=0)) rfl ?_;by_cases K:e<=0
  .rw[bT K];exact s
  rw[bc K];refine wC.of (decide (7<v)) rfl ?_;by_cases L:7<v
  .rw[bT L];exact s
  rw[bc L];obtain⟨A,rfl,Y⟩:=cr (by lia);obtain⟨r1,r2,r3,r4,r5,r6,r7,r8⟩:=Y o oo od;have U:wt o<=2:=by have:=jZ o;lia
  refine wC.of (decide (v=3)) (by simp) ?_;by_cases c3:v=3
  .rw[bT c3];refine r1 F _ _ I z fun a r B m t=>?_;refine r2 r _ _ t (z.to m) fun c R M G N=>?_;exact q (.n2 .call a c) R (.call U B M) ((E.trans m).trans G) N
  rw[bc c3];refine wC.of (decide (v=4)) (by simp) ?_;by_cases c4:v=4
  .rw[bT c4];refine r3 F _ _ I z fun a r B m t=>?_;refine r4 r _ _ t (z.to m) fun c R M G N=>?_;refine r4 R _ _ N ((z.to m).to G) fun f h7 df x7 g7=>?_;exact q (.n3 .aQ a c f) h7 (.aQ B M df) (((E.trans m).trans G).trans x7) g7
  rw[bc c4];refine wC.of (decide (v=5)) (by simp) ?_;by_cases c5:v=5
  .rw[bT c5];refine r5 F _ _ I z fun a r B m t=>?_;refine r4 r _ _ t (z.to m) fun c R M G N=>?_;refine r6 R _ _ N ((z.to m).to G) fun f h7 df x7 g7=>?_;exact q (.n3 .fold a c f) h7 (.fold U B M df) (((E.trans m).trans G).trans x7) g7
  rw[bc c5];refine wC.of (decide (v=6)) (by simp) ?_;by_cases c6:v=6
  .rw[bT c6];refine r7 F _ _ I z fun a r B m t=>?_;exact q (.n1 .left a) r (.left U B) (E.trans m) t
  rw[bc c6];refine wC.of (decide (v=7)) (by simp) ?_;by_cases c7:v=7
  .rw[bT c7];refine r8 F _ _ I z fun a r B m t=>?_;exact q (.n1 .right a) r (.right U B) (E.trans m) t
  rw[bc c7];exact s
 cases H with
 |nil=>exact tail
 |cons f0 fr=>
  have S:Po (run T (k+3) aU [.ref p,.int (((f0::fr).map fun (j:Nat)=>W.int (j:Int)).length:Int)] h3) (fun u P=>Po (idx (.ref qq) u P) (fun w P=>Q (.tup [.str [118,97,114],w]) P) X) X:=by refine nv (k+2) g3 _ (by simp) fun v5 r a5 b5 m t=>?_;obtain⟨y,hy,ey⟩:=rS _ v5 a5 b5;obtain⟨n,hn,rfl⟩:=o9.mp hy;refine Po.ok (a:=.int (n:Int)) (h:=r) (by simp only[idx,m.keep _ _ D nq,ey];rfl) ?_;exact q (.var n) r (.var (ft n hn)) (V.trans m) t
  refine wC.of (decide (v<3)) rfl ?_;by_cases K:v<3
  .rw[bT K];exact gU D S
  rw[bc K];refine wC.of (decide (e<0)) rfl ?_;by_cases L:e<0
  .rw[bT L];exact gU D S
  rw[bc L];exact tail
end
structure BH(k p b:Nat)(bd:List Kd)(d:Nat)(e:Int)(kd:Kd):Prop where
 dn:0<e->∃d',d=d'+1/\Cr (k+2) p b bd d' (e-1) .num
 dp:∀x:Kd,x.over []->x.depth+1<=kd.depth->Cr (k+2) p b bd (d-1) (e-1) x
 df:∀(x y:Kd)(b':Nat),x.over []->y.over []->x.depth+1<=kd.depth->y.depth+1<=kd.depth->Cr (k+2) p b' (bd++[x]) (d-1) (e-1) y
 ov:kd.over []
 hk:kd.depth<=k
 h8:kd.depth<=800
 hn:bd.length<=1000
section
variable {p b k d:Nat}{bd:List Kd}{kd x y:Kd}{e:Int}{h:Hp}{Q:Wq}{X:Xq}
theorem BY{c i n:Option W}{j:W}(g:Gen p h)(f:0<e->∀I,Ext p h I->Gen p I->Q (.bl true) I)(a:∀I,Ext p h I->Gen p I->Q (.bl false) I):wE (run T (k+2)) (.and (.cmp .gt (.var 3) (.cst (.int 0))) (.cmp .eq (.call aU (.cons (.var 0) (.cons (.cst (.int 2)) .nil))) (.cst (.int 0)))) [some (.ref p),some (.ref b),some j,some (.int e),c,i,n] h Q X:=by
 refine wC.of (decide (0<e)) rfl ?_;by_cases z:0<e
 .rw[bT z];refine nv (k+1) g 2 (by decide) fun v J _ _ N g1=>?_;refine wC.of (decide (v=0)) (by simp) ?_;by_cases y:v=0
  .rw[bT y];exact f z J N g1
  .rw[bc y];exact a J N g1
 .rw[bc z];exact a h (Ext.refl _ _) g
theorem DS(H:BH k p b bd d e .num):Bs (k+3) p b bd d e .num:=by
 intro h Q X g i q;refine wp_run kK rfl ?_;refine wC.eqs ?_;refine BY g (fun z J N g1=>?_) fun J N g1=>?_
 .obtain⟨m,rfl,r⟩:=H.dn z;refine r J _ _ g1 (i.to N) fun a Z n P B=>?_;refine r Z _ _ B ((i.to N).to P) fun c G f l j=>?_;exact q (.n2 .sum a c) G (.sum n f) ((N.trans P).trans l) j
 .refine CP k g1 fun v Z P B=>?_;exact q (.num v) Z .num (N.trans P) B
theorem Ff(H:BH k p b bd d e .tru):Bs (k+3) p b bd d e .tru:=by
 intro h Q X g i q;refine wp_run kK rfl ?_;refine wC.eqs ?_;refine wC.eqs ?_;refine BY g (fun z J N g1=>?_) fun J N g1=>?_
 .obtain⟨o,rfl,r⟩:=H.dn z;refine r J _ _ g1 (i.to N) fun a Z f P B=>?_;refine r Z _ _ B ((i.to N).to P) fun c G j m l=>?_;exact q (.n2 .less a c) G (.less f j) ((N.trans P).trans m) l
 .have ne:=g1.jy;refine nv (k+1) (g1.ext _) 2 (by decide) fun v Z s t P B=>?_;have lk:=P.keep _ _ (bf J _) (bj ne);have n:=N.trans ((Ext.app p J _).trans P);obtain rfl|rfl:v=0\/v=1:=by lia
  .exact Po.ok (a:=Co.ae .yes) (h:=Z) (by simp[lk,Co.ae]) (q .yes Z .yes n B)
  .exact Po.ok (a:=Co.ae .no) (h:=Z) (by simp[lk,Co.ae]) (q .no Z .no n B)
theorem Df(H:BH k p b bd d e (.pair x y)):Bs (k+3) p b bd d e (.pair x y):=by intro h Q X g i q;refine wp_run kK rfl ?_;refine wC.eqs ?_;refine wC.eqs ?_;refine wC.eqs ?_;refine H.dp x H.ov.1 (by simp only[Kd.depth];lia) h _ _ g i fun a J n N g1=>?_;refine H.dp y H.ov.2 (by simp only[Kd.depth];lia) J _ _ g1 (i.to N) fun c Z f P B=>?_;exact q (.n2 .both a c) Z (.both n f) (N.trans P) B
theorem Eh(H:BH k p b bd d e (.row x)):Bs (k+3) p b bd d e (.row x):=by
 intro h Q X g i q;refine wp_run kK rfl ?_;refine wC.eqs ?_;refine wC.eqs ?_;refine wC.eqs ?_;refine wC.eqs ?_;have r:=H.dp x H.ov (by simp only[Kd.depth];lia);obtain⟨v,J,o,z,A,N,g1⟩:=nJ (k+1) p 3 h g (by decide);have t:∀l:W,eM (run T (k+2)) (.ml (.call aU (.cons (.var 0) (.cons (.cst (.int 3)) .nil)))) [some (.ref p),some (.ref b),some (Kd.row x).ae,some (.int e),none,some l,none] h=.ok (.fix (upTo 0 v.toNat)) J:=fun l=>by
  have ee:af (run T (k+2)) (.call aU (.cons (.var 0) (.cons (.cst (.int 3)) .nil))) [some (.ref p),some (.ref b),some (Kd.row x).ae,some (.int e),none,some l,none] h=.ok (.int v) J:=o;rw[qQ,ee];have u:cJ v=true:=by
   have:=uM (n:=v.toNat) (by lia)
   rwa [show ((v.toNat:Nat):Int)=v by lia] at this
  exact CG u
 have j:=i.to N;refine my (t _) ?_;obtain rfl|rfl|rfl:v=0\/v=1\/v=2:=by lia
 .exact q (.ah x) J .Au N g1
 .refine r J _ _ g1 j fun a Z f P B=>?_;exact q (.n2 .more a (.ah x)) Z (.AZ f) (N.trans P) B
 .refine r J _ _ g1 j fun a Z f P B=>?_;refine r Z _ _ B (j.to P) fun c G m w s=>?_;exact q (.n2 .more c (.n2 .more a (.ah x))) G (.Ag f m) ((N.trans P).trans w) s
theorem B1(H:BH k p b bd d e (.work x y)):Bs (k+3) p b bd d e (.work x y):=by
 intro h Q X g i q;refine wp_run kK rfl ?_;refine wC.eqs ?_;refine wC.eqs ?_;refine wC.eqs ?_;refine wC.eqs ?_;have h8:=H.h8;have hk:=H.hk;simp only[Kd.depth] at h8 hk;have fn:∀J,Ext p h J->Gen p J->wSs (run T (k+2)) (qJ.body.drop 5) [some (.ref p),some (.ref b),some (Kd.work x y).ae,some (.int e),none,none,none] J (fun _ h=>Q .ah h) Q X:=by
  intro J N g1;have r:=i.to N;have t:=aK [O.lst [x.ae]] r.look;refine Po.ok (a:=.ref (J++[O.lst [x.ae]]).length) (h:=J++[O.lst [x.ae]]++[O.lst ((bd++[x]).map Kd.ae)]) ?_ ?_
  .have n:=H.hn;simp only[bin,t,bf];rw[if_pos ⟨trivial,by simp[SZ];lia⟩];simp[Tw.new]
  .have P:=N.trans ((Ext.app p J [O.lst [x.ae]]).trans (Ext.app p _ [O.lst ((bd++[x]).map Kd.ae)]));refine H.df x y _ H.ov.1 H.ov.2 (by simp only[Kd.depth];lia) (by simp only[Kd.depth];lia) _ _ _ ((g1.ext _).ext _) ⟨bf _ _,bj (g1.ext [O.lst [x.ae]]).jy⟩ fun c G m u o=>?_;exact q (.fn x c) G (.fn (by simpa using m)) (P.trans u) o
 refine wC.of (decide (y=.work x .tru)) (Kd.dB h y (.work x .tru) (by lia) (by simp only[Kd.depth];lia)) ?_;by_cases z:y=.work x .tru
 .rw[bT z];have j:=Ii x (k+1-x.depth) h;rw[show k+1-x.depth+x.depth+1=k+2 by lia] at j;refine j _ _ H.ov.1 (by lia) fun J l=>?_;have N:=l.ext p;have g1:=l.gen g;cases s:fS x with
  |false=>exact fn J N g1
  |true=>
   refine nv (k+1) g1 2 (by decide) fun v Z _ _ P B=>?_;refine wC.of (decide (v=0)) (by simp) ?_;by_cases c:v=0
   .rw[bT c];have f:=k8 p x (k+1-x.depth) Z s;rw[show k+1-x.depth+x.depth+1=k+2 by lia] at f;refine Po.ok f ?_;subst z;exact q (gY x) Z (.like (rA x s)) (N.trans P) B
   .rw[bc c];exact fn Z (N.trans P) B
 .rw[bc z];exact fn h (Ext.refl _ _) g
theorem y6(H:BH k p b bd d e kd):Bs (k+3) p b bd d e kd:=by
 cases kd with
 |num=>exact DS H
 |tru=>exact Ff H
 |row x=>exact Eh H
 |pair x y=>exact Df H
 |work x y=>exact B1 H
 |any x=>exact absurd H.ov (by simp[Kd.over])
 |gap x=>exact absurd H.ov (by simp[Kd.over])
end
def BU(k N E:Nat):Prop:=∀(p b:Nat)(Q:List Kd)(L:Kd)(e:Int),(∀x∈Q,x.depth<=40)->Q.length+N+3 * E<=100->N+2 * E<=40->L.over []->L.depth<=N->e<=(E:Int)->Cr k p b Q e.toNat e L
theorem vR{Q:List Kd}{a:Kd}(y:∀x∈Q,x.depth<=40)(h:a.depth<=40):∀x∈Q++[a],x.depth<=40:=fun x X=>by
 rcases qK.mp X with q|q
 .exact y x q
 .rw[jH.mp q];exact h
theorem F5{e:Int}(h:0<e):e.toNat=(e-1).toNat+1:=by lia
theorem wY:∀N k,2 * N+8<=k->BU k N 0
 |N,k,hk=>by
  intro p b Q L e a hn d ov hd f;obtain⟨j,rfl⟩:∃j,k=j+4:=⟨k-4,by lia⟩;have c:e.toNat-1=(e-1).toNat:=by lia
  refine zJ (by lia) (fun x X=>aF (a x X) (by decide)) (by lia) (y6 ⟨fun z=>by lia,fun x o h=>?_,fun x y w g i h n=>?_,ov,by lia,by lia,by lia⟩) (fun z=>by lia)
  .rw[c];obtain⟨M,rfl⟩:∃M,N=M+1:=⟨N-1,by lia⟩;exact wY M (j+2) (by lia) p b Q x (e-1) a (by lia) (by lia) o (by lia) (by lia)
  .rw[c];obtain⟨M,rfl⟩:∃M,N=M+1:=⟨N-1,by lia⟩;exact wY M (j+2) (by lia) p w (Q++[x]) y (e-1) (vR a (by lia)) (by simp;lia) (by lia) i (by lia) (by lia)
theorem vL:∀E N k,2 * N+6 * E+8<=k->BU k N E
 |0,N,k,hk=>wY N k (by lia)
 |E+1,N,k,hk=>by
  intro p b Q L e n hn t ov hd u;obtain⟨j,rfl⟩:∃j,k=j+4:=⟨k-4,by lia⟩;have g:e.toNat-1=(e-1).toNat:=by lia
  have R:∀(i M:Nat)(l:2 * M+6 * E+8<=i)(w:Nat)(a:List Kd)(x:Kd),(∀x∈a,x.depth<=40)->a.length+M+3 * E<=100->M+2 * E<=40->x.over []->x.depth<=M->Cr i p w a (e-1).toNat (e-1) x:=fun i M l w a x d f q o h=>vL E M i l p w a x (e-1) d f q o h (by lia);refine zJ (by lia) (fun x X=>aF (n x X) (by decide)) (by lia) (y6 ⟨fun z=>⟨_,F5 z,R (j+2) N (by lia) b Q .num n (by lia) (by lia) trivial (bw _)⟩,fun x o h=>?_,fun x y w m r h s=>?_,ov,by lia,by lia,by lia⟩) (fun z=>⟨_,F5 z,fun o c v=>?_⟩)
  .rw[g];exact R (j+2) N (by lia) b Q x n (by lia) (by lia) o (by lia)
  .rw[g];exact R (j+2) N (by lia) w (Q++[x]) y (vR n (by lia)) (by simp;lia) (by lia) r (by lia)
  .have S:∀x:Kd,x.over []->x.depth<=N+2->Cr (j+3) p b Q (e-1).toNat (e-1) x:=fun x m h=>R (j+3) (N+2) (by lia) b Q x n (by lia) (by lia) m h;exact⟨S _ ⟨c,ov⟩ (by simp only[Kd.depth];lia),S _ c (by lia),S _ trivial (bw _),S _ ov (by lia),S _ c (by simp only[Kd.depth];lia),S _ ⟨c,ov,ov⟩ (by simp only[Kd.depth];lia),S _ ⟨ov,c⟩ (by simp only[Kd.depth];lia),S _ ⟨c,ov⟩ (by simp only[Kd.depth];lia)⟩
theorem j1:∀k:Kd,k.depth<=wt k
 |.num=>aA _
 |.tru=>aA _
 |.any _=>aA _
 |.gap _=>aA _
 |.row a=>by have:=j1 a;simp only[wt,Kd.depth];lia
 |.pair a b=>by have:=j1 a;have:=j1 b;simp only[wt,Kd.depth];lia
 |.work a b=>by have:=j1 a;have:=j1 b;simp only[wt,Kd.depth];lia
theorem mY{n:Nat}:∀k:Kd,kC k->kb n (gY k)
 |.num,_=>bw _
 |.tru,_=>bw _
 |.row a,h=>mY a h
 |.pair a b,h=>⟨mY a h.1,mY b h.2⟩
theorem dm{a b m n:Nat}(c:a+1+m<=n)(y:b+1+m<=n):max a b+1+m<=n:=by
 rcases Nat.le_total a b with h|h
 .rw[Nat.max_eq_right h];exact y
 .rw[Nat.max_eq_left h];exact c
theorem dl{a b m n:Nat}(h:max a b+m<=n):a+m<=n:=aF (sX (b8 a b) m) h
theorem dr{a b m n:Nat}(h:max a b+m<=n):b+m<=n:=aF (sX (bD a b) m) h
theorem Dr.kb{n d:Nat}{A:List Kd}{K:Kd}{c:C}(h:Dr d A K c):K.depth+2 * d<=n->3+2 * d<=n->K06.kb n c:=by
 induction h with
 |var e=>exact fun _ _=>trivial
 | @call d A K o a b p _ _ i j=>intro h g;have:=j1 o;exact⟨i (dm (by lia) (by lia)) (by lia),j (by lia) (by lia)⟩
 | @aQ d A K a b c _ _ _ i j k=>intro h g;exact⟨i (by show 0+2 * d<=n;lia) (by lia),j (by lia) (by lia),k (by lia) (by lia)⟩
 | @fold d A K o a b c p _ _ _ i j k=>intro h g;have:=j1 o;exact⟨i (by show o.depth+1+2 * d<=n;lia) (by lia),j (by lia) (by lia),k (dm (by lia) (by rw[show (Kd.work K K).depth=K.depth+1 by show max K.depth K.depth+1=_;rw[Nat.max_self]];lia)) (by lia)⟩
 | @left d A K o a p _ i=>intro h g;have:=j1 o;exact i (dm (by lia) (by lia)) (by lia)
 | @right d A K o a p _ i=>intro h g;have:=j1 o;exact i (dm (by lia) (by lia)) (by lia)
 | @sum d A a b _ _ i j=>intro h g;exact⟨i (by show 0+2 * d<=n;lia) (by lia),j (by show 0+2 * d<=n;lia) (by lia)⟩
 |num=>exact fun _ _=>trivial
 | @less d A a b _ _ i j=>intro h g;exact⟨i (by show 0+2 * d<=n;lia) (by lia),j (by show 0+2 * d<=n;lia) (by lia)⟩
 |yes=>exact fun _ _=>trivial
 |no=>exact fun _ _=>trivial
 | @both d A x y a b _ _ i j=>intro h g;rw[show (Kd.pair x y).depth+2 * d=max x.depth y.depth+(1+2 * d) by show max x.depth y.depth+1+2 * d=_;lia] at h;have:=dl h;have:=dr h;exact⟨i (by lia) (by lia),j (by lia) (by lia)⟩
 | @Au d A x=>intro h g;have h:x.depth+1+2 * d<=n:=h;show x.depth<=n;lia
 | @AZ d A x a _ i=>intro h g;have h:x.depth+1+2 * d<=n:=h;exact⟨i (by lia) (by lia),show x.depth<=n by lia⟩
 | @Ag d A x a b _ _ i j=>intro h g;have h:x.depth+1+2 * d<=n:=h;exact⟨j (by lia) (by lia),i (by lia) (by lia),show x.depth<=n by lia⟩
 | @like d A x X=>exact fun _ _=>mY x X
 | @fn d A x y c _ i=>intro h g;rw[show (Kd.work x y).depth+2 * d=max x.depth y.depth+(1+2 * d) by show max x.depth y.depth+1+2 * d=_;lia] at h;have:=dl h;have:=dr h;exact⟨by lia,i (by lia) (by lia)⟩
section
variable {p k:Nat}{h:Hp}{Q:Wq}{X:Xq}{sh:W}
theorem draw{N E:Nat}{L:Kd}{e:Int}(hk:2 * N+6 * E+8<=k)(d:N+3 * E<=40)(ov:L.over [])(hd:L.depth<=N)(a:e<=(E:Int))(b:Nat)(g:Gen p h)(i:In p b [] h)(q:∀c I,Dr e.toNat [] L c->Ext p h I->Gen p I->Q (Co.ae c) I):Po (run T k bg [.ref p,.ref b,L.ae,.int e] h) Q X:=
 vL E N k hk p b [] L e (fun x n=>by cases n) (by simp;lia) (by lia) ov hd a h Q X g i q
end
theorem HZ{Φ:Or}{f:Nat}{es:Es}{hs:List Hd}{σ:Env}{h:Hp}{N:Nq}{Q:Wq}{X:Xq}
  (p:wEs Φ es σ h (fun xs h=>Po (Φ f xs h) Q (fun a h'=>∃w c fs j act,h'[a]?=some (.aw c fs)/\kZ c hs=some (j,act)/\oV Φ act (σ.set j (some (.ref a))) h'=.ok (.ret w) h'/\Q w h')) (fun _ _=>False)):Po (dA Φ (.qG [.vM f es] hs) σ h) (wF N Q) X:=by
 rw[Fw];simp only[jw,vv];have q:=iR Φ es σ h _ _ p;cases e:cG Φ es σ h with
 |ok xs h1=>
  rw[e] at q;have q:Po (Φ f xs h1) Q _:=q;cases e2:Φ f xs h1 with
  |ok w h2=>
   rw[e2] at q;simp only[R.kr,R.aZ,e2,lT];exact q
  |aw a h2=>
   rw[e2] at q;obtain⟨w,c,fs,j,act,l,pk,ev,qq⟩:=q;simp only[R.kr,R.aZ,e2,R.D6,lT,l,pk,ev,Mm];exact qq
  |bad=>rw[e2] at q;exact q.elim
 |aw a h1=>rw[e] at q;exact q.elim
 |bad=>rw[e] at q;exact q.elim
abbrev xW:S:=[116,111,111,32,108,111,110,103]
abbrev zc:S:=[115,116,114,97,121]
noncomputable def Out.ae:Out->W
 |.ok c=>Co.ae c
 |.long=>.str xW
 |.iV=>.str zc
abbrev mH:S:=[83,104,101,108,102]
noncomputable abbrev z7:S:=[100,101,102,105,110,105,116,105,111,110,115]
abbrev NF:S:=[110,117,109,98,101,114,115]
section
variable {m n:Nat}{h:Hp}{Q:Wq}{X:Xq}{c:C}{o:Out}{i:Int}
theorem E3:Po (run T (m+2) (iS+1000) [.ref h.length] (h++[.ins mH []])) (fun w I=>w=.ah/\ai h I) X:=by
 show Po (run T (m+1) iS [.ref h.length] (h++[.ins mH []])) _ _;refine wp_run vJ rfl ?_;refine Po.ok (a:=()) (h:=h++[.ins mH [(z7,.ref (h.length+1))]]++[.lst []]) ?_ ?_
 .have e:=aK [O.lst []] (bf h (.ins mH []));simp only[putField,e];simp[jW]
 refine Po.ok (a:=()) (h:=h++[.ins mH [(z7,.ref (h.length+1)),(NF,.ref (h.length+2))]]++[.lst []]++[.fD []]) ?_ ?_
 .have e:=aK [O.fD []] (aK [O.lst []] (bf h (.ins mH [(z7,.ref (h.length+1))])));simp only[putField,e];simp[jW]
 exact⟨rfl,((ai.app _ _).trans (ai.app _ _)).trans (ai.app _ _)⟩
theorem kW(R:Runs n c o)(p:Pl c)(g:Gd c)(d:c.depth<=900)(hn:n<=1000)(a:i=(n:Int))(q:∀I,ai h I->Q o.ae I):Po (run T (m+12) gv [Co.ae c,.int i] h) Q X:=by
 subst a;refine wp_run GX rfl ?_;refine HZ ?_;refine Po.mono (E3 (m:=m+9)) (fun w J z=>?_) fun _ _ z=>z;obtain⟨rfl,g1⟩:=z;refine LM (m:=m) R p g d hn (fun b z I B=>by subst z;exact q I (g1.trans B)) (fun z I B=>?_) fun z I B=>?_
 .have e:=bf I (O.aw u5 []);refine⟨.str xW,u5,[],2,_,e,rfl,?_,?_⟩
  .simp[e,p5]
  .subst z;exact q _ ((g1.trans B).trans (ai.app _ _))
 .have e:=bf I (O.aw fE []);refine⟨.str zc,fE,[],2,_,e,rfl,?_,?_⟩
  .simp[e,p5]
  .subst z;exact q _ ((g1.trans B).trans (ai.app _ _))
end
inductive Path:Nat->C->C->Prop
 |nil {c}:Path 0 c c
 |cons {n c d}:Co.ended c=false->Path n (Co.aj c) d->Path (n+1) c d
theorem Path.snoc{n:Nat}{c d:C}(p:Path n c d)(e:Co.ended d=false):Path (n+1) c (Co.aj d):=by
 induction p with
 |nil=>exact .cons e .nil
 |cons a _ j=>exact .cons a (j e)
section
variable {c p:C}{i:Nat}{t:Kd}
theorem Vp.BN(v:Vp c i)(h:Ty [] (aN c i p) t):∃f,Ty [] p f:=by
 have d:∀{t a k},Ty [] (.n1 t a) k->∃x,Ty [] a x:=fun h=>by cases h<;>exact⟨_,by assumption⟩
 have n:∀{t a b k},Ty [] (.n2 t a b) k->∃x y,Ty [] a x/\Ty [] b y:=fun h=>by cases h<;>exact⟨_,_,by assumption,by assumption⟩
 have e:∀{t a b c k},Ty [] (.n3 t a b c) k->∃x y z,Ty [] a x/\Ty [] b y/\Ty [] c z:=fun h=>by cases h<;>exact⟨_,_,_,by assumption,by assumption,by assumption⟩
 cases v with
 |n1=>exact d h
 |iB=>obtain⟨x,_,h,_⟩:=n h;exact⟨x,h⟩
 |gE=>obtain⟨_,x,_,h⟩:=n h;exact⟨x,h⟩
 |fy=>obtain⟨x,_,_,h,_,_⟩:=e h;exact⟨x,h⟩
 |gC=>obtain⟨_,x,_,_,h,_⟩:=e h;exact⟨x,h⟩
 |fN=>obtain⟨_,_,x,_,_,h⟩:=e h;exact⟨x,h⟩
theorem zC:∀{F:Fs}{t:Kd},Fr F->Ty [] (aT F p) t->∃a,Ty [] p a
 |[],t,_,h=>⟨t,h⟩
 |f::F,t,g,h=>by
  obtain⟨a,I⟩:=g.head.vp.BN h;exact zC g.tail I
theorem CZ(h:Ty [] c t)(e:Co.ended c=false):∃a,Ty [] (aC c) a:=by obtain⟨_,b,z⟩:=sF c e;rw[<-b] at h;exact zC z h
end
structure Cx(K:C->C):Prop where
 ne:∀x,Co.ended x=false->Co.ended (K x)=false
 rx:∀x,Co.ended x=false->aC (K x)=aC x
 st:∀x,Co.ended x=false->Co.aj (K x)=K (Co.aj x)
 dp:∀x:C,x.depth<=890->(K x).depth<=900
 gd:∀x,Gd x->Gd (K x)
theorem Cx.id:Cx fun x=>x:=⟨fun _ e=>e,fun _ _=>rfl,fun _ _=>rfl,fun _ e=>by lia,fun _ g=>g⟩
section
variable {P j m:Nat}{x d:C}{t:Kd}{o:Out}{K:C->C}
theorem oy(k:Cx K)(R:2<=P)(p:Path j x d):∀{t:Kd},Sk P x t->x.depth+j * (P-1)<=890->Runs m (K d) o->Runs (j+m) (K x) o:=by
 induction p with
 |nil=>intro t _ _ r;rw[Nat.zero_add];exact r
 | @cons n x d e p b=>
  intro t s dp r;have em:(n+1) * (P-1)=n * (P-1)+(P-1):=by rw[Nat.add_mul,Nat.one_mul]
  rw[em] at dp;obtain⟨a,i⟩:=bq R x t s e;obtain⟨c,h⟩:=CZ s.1 e;rw[show n+1+m=(n+m)+1 by lia];refine .step (k.ne x e) (.inl ⟨c,by rw[k.rx x e];exact h⟩) ?_ ?_ ?_
  .rw[k.st x e];exact k.dp _ (by lia)
  .rw[k.st x e];exact k.gd _ a.1.gd
  .rw[k.st x e];exact b a (by lia) r
theorem oa(R:2<=P)(p:Path j x d)(s:Sk P x t)(dp:x.depth+j * (P-1)<=890)(e:Co.ended d=true):Runs (j+m) x (.ok d):=oy Cx.id R p s dp (.done e)
theorem n9(R:2<=P):∀{j:Nat}{x d:C}{t:Kd},Path (j+1) x d->Sk P x t->x.depth+j * (P-1)<=890->Runs j x .long
 |0,x,d,t,.cons e _,_,_=>.long e
 |j+1,x,d,t,.cons e p,s,dp=>by
  have em:(j+1) * (P-1)=j * (P-1)+(P-1):=by rw[Nat.add_mul,Nat.one_mul]
  rw[em] at dp;obtain⟨a,h⟩:=bq R x t s e;obtain⟨b,c⟩:=CZ s.1 e;exact .step e (.inl ⟨b,c⟩) (by lia) a.1.gd (n9 R p a (by lia))
theorem pR(R:2<=P)(p:Path j x d):∀{t:Kd},Sk P x t->Sk P d t/\d.depth<=x.depth+j * (P-1):=by
 induction p with
 |nil=>exact fun s=>⟨s,Bz _ _⟩
 | @cons n x d e p c=>
  intro t s;have em:(n+1) * (P-1)=n * (P-1)+(P-1):=by rw[Nat.add_mul,Nat.one_mul]
  obtain⟨h,i⟩:=bq R x t s e;obtain⟨a,b⟩:=c h;exact⟨a,by lia⟩
theorem tU{n:Nat}(p:Path j x d):∀{t:Kd},Sk P x t->2<=P->kb n x->kb n d:=by
 induction p with
 |nil=>exact fun _ _ k=>k
 |cons e p a=>exact fun s R k=>a (bq R _ _ s e).1 R (iu _ _ s.1 k e)
end
section
variable {i:Int}{c d:C}{j m P:Nat}{t:Kd}
theorem DB(b:c.depth<=700)(a:Gd c):Cx fun x=>.n2 .both (.num i) (.n3 .fold (.num i) x c):=by
 refine⟨fun x e=>rfl,fun x e=>?_,fun x e=>?_,fun x e=>?_,fun x e=>⟨trivial,trivial,e,a⟩⟩
 .simp[aC,Co.ended,e]
 .simp[Co.aj,Co.ended,e]
 .simp only[Co.depth];lia
theorem Ed(a:Co.ended d=true)(b:d.depth<=700)(gd:Gd d):Cx fun x=>.n2 .both (.num i) (.n3 .fold (.num i) d x):=by
 refine⟨fun x e=>rfl,fun x e=>?_,fun x e=>?_,fun x e=>?_,fun x e=>⟨trivial,trivial,gd,e⟩⟩
 .simp[aC,Co.ended,e,a]
 .simp[Co.aj,Co.ended,e,a]
 .simp only[Co.depth];lia
inductive gR(i:Int)(c:C):C->Prop
 |call:gR i c (.n2 .call (.num i) (.num i))
 |left:gR i c (.n1 .left (.num i))
 |aQ:gR i c (.n3 .aQ (.num i) c c)
 |sum:gR i c (.n2 .sum (.num i) .yes)
 |fold:gR i c (.n3 .fold (.num i) c c)
 |right:gR i c (.n1 .right (.fn .num c))
 |Dp:gR i c (.n2 .call (.n2 .call (.like .num) (.num i)) .yes)
 |Cn:gR i c (.n2 .call (.n2 .call (.like .num) (.num i)) .no)
 |lt:gR i c (.n2 .call (.n2 .call (.like .tru) (.num i)) (.num i))
theorem gR.pl{b:C}(o:gR i c b)(h:Pl c):Pl b:=by cases o<;>simp only[Pl,and_self,and_true,true_and]<;>first|trivial|exact h|exact⟨h,h⟩
theorem gR.gd{b:C}(o:gR i c b)(h:Gd c):Gd b:=by cases o<;>simp only[Gd,and_self,and_true,true_and]<;>first|trivial|exact h|exact⟨h,h⟩|exact .inl rfl|exact .inr rfl
theorem gR.dp{b:C}(o:gR i c b):b.depth<=c.depth+2:=by cases o<;>simp only[Co.depth]<;>lia
theorem gR.ne{b:C}(o:gR i c b):Co.ended b=false:=by cases o<;>rfl
theorem DI{b:C}(o:gR i c b):Runs 0 b .long:=.long o.ne
theorem Ci{b:C}(o:gR i c b)(R:2<=P)(p:Path j c d)(s:Sk P c t)(dp:c.depth+j * (P-1)<=700)(e:Co.ended d=true):Runs (3 * j+9) (.n2 .both (.num i) b) .iV:=by
 have h:mI b->aC (.n2 .both (.num i) b)=b->Runs (3 * j+9) (.n2 .both (.num i) b) .iV:=fun y r=>.iV (by simp only[fo,o.ne,nK]) (by rw[r];exact y);cases o with
 |call=>exact h .call rfl
 |left=>exact h .left rfl
 |aQ=>exact h .aQ rfl
 |sum=>exact h .sum rfl
 |right=>exact h .right rfl
 |Dp=>exact h .Dp rfl
 |Cn=>exact h .Cn rfl
 |lt=>exact h .lt rfl
 |fold=>
  obtain⟨g,l⟩:=pR R p s;rw[show 3 * j+9=j+(j+(j+9)) by lia];have n:c.depth<=700:=by lia
  have f:d.depth<=700:=by lia
  have k:c.depth+j * (P-1)<=890:=by lia
  have a:Runs (j+9) (.n2 .both (.num i) (.n3 .fold (.num i) d d)) .iV:=.iV rfl (by simp only[aC,Co.ended,e,bU,bp,eL];exact .fold);have b:=oy (Ed (i:=i) e f g.1.gd) R p s k a;exact oy (K:=fun x=>.n2 .both (.num i) (.n3 .fold (.num i) x c)) (DB (i:=i) n s.1.gd) R p s k b
theorem KI{b:C}(R:2<=P)(p:Path j c d)(s:Sk P c t)(dp:c.depth+j * (P-1)<=700)(e:Co.ended d=true):Runs (j+1) (.n3 .aQ .yes c b) (.ok d):=
 have hd:c.depth<=900:=by lia
 have a:c.depth+j * (P-1)<=890:=by lia
 .step rfl (.inr ⟨c,b,rfl⟩) hd s.1.gd (oa (m:=0) R p s a e)
end
theorem Kj:small 3=true:=by kernel_rfl
theorem Qk{j:Int}{h:Hp}:bin .mul (.int j) (.int 3) h=.ok (.int (j * 3)) h:=by simp[Kj]
theorem TR{i:Int}{h:Hp}{Q:Wq}{X:Xq}(q:Q (.int (i * 3)) h):wB .mul (.int i) (.int 3) h Q X:=by unfold wB;exact Po.ok Qk q
theorem Lx{Φ:Or}{op:Op}{σ:Env}{h:Hp}{Q:Wq}{X:Xq}{i k:Int}(e:σ[4]?=some (some (.int i)))(q:wB op (.int i) (.int k) h Q X):wE Φ (.bin op (.var 4) (.cst (.int k))) σ h Q X:=by show (match σ[4]? with|some (some w)=>wB op w (.int k) h Q X|_=>False);rw[e];exact q
theorem t3{Φ:Or}{σ:Env}{h:Hp}{Q:Wq}{X:Xq}{i:Int}(e:σ[4]?=some (some (.int i)))(q:Q (.int (i * 3)) h):wE Φ (.bin .mul (.var 4) (.cst (.int 3))) σ h Q X:=by have z:=@Lx Φ .mul σ h Q X i 3 e (TR q);exact z
section
variable {c:C}{K:Kd}{N:Nq}{Q:Wq}{X:Xq}{s0 s1:W}
theorem GJ{D:Nat}(hD:D=653)(sk:Sk 9 c K)(kc:kb 40 c)(dc:c.depth<=13):∀(k j fu:Nat)(d:C)(h:Hp),j+k=80->k<fu->Path j c d->
  (∀(j:Nat) d h',Path j c d->j<=80->(j=80\/Co.ended d=true)->ai h h'->N [some s0,some s1,some (Co.ae c),some (Co.ae d),some (.int (j:Int)),none,none,none] h')->
  Po (fq (af (run T (D+13)) vA) (aJ (run T (D+13)) xT) fu [some s0,some s1,some (Co.ae c),some (Co.ae d),some (.int (j:Int)),none,none,none] h) (wF N Q) X
 |0,j,fu,d,h,hj,hf,p,q=>by
  obtain⟨fu,rfl⟩:∃n,fu=n+1:=⟨fu-1,by lia⟩;refine eO ?_;refine wC.of (decide ((j:Int)<80)) rfl ?_;rw[bc (by lia)];exact q j d h p (by lia) (.inl (by lia)) (ai.refl _)
 |k+1,j,fu,d,h,hj,hf,p,q=>by
  obtain⟨fu,rfl⟩:∃n,fu=n+1:=⟨fu-1,by lia⟩;obtain⟨sd,dd⟩:=pR (by decide) p sk;have kd:=tU p sk (by decide) kc;refine eO ?_;refine wC.of (decide ((j:Int)<80)) rfl ?_;rw[bT (by lia)];have re:=xO 40 d (D+12-d.depth) h;rw[show D+12-d.depth+d.depth+1=D+13 by lia] at re;refine re _ _ kd (by lia) fun h1 g1=>?_;cases e:Co.ended d with
  |true=>exact q j d h1 p (by lia) (.inr e) g1
  |false=>
   have rs:=dU 40 d K sd.1 kd (by lia) e (D+10-d.depth) h1;rw[show D+10-d.depth+d.depth+3=D+13 by lia] at rs;refine rs _ _ fun h2 g2=>?_;exact GJ hD sk kc dc k (j+1) fu (Co.aj d) h2 (by lia) (by lia) (p.snoc e) fun j d h' p a b g=>q j d h' p a b ((g1.trans g2).trans g)
end
noncomputable def bC(i:Int)(c z:C):List C:=[.n2 .call (.num i) (.num i),.n1 .left (.num i),.n3 .aQ (.num i) c c,.n2 .sum (.num i) .yes,.n3 .fold (.num i) c c,.n1 .right (.fn .num c),.n2 .call (.n2 .call (.like .num) (.num i)) z,.n2 .call (.n2 .call (.like .tru) (.num i)) (.num i)]
theorem Ea{i v:Int}{c z:C}{a:Nat}{h:Hp}(hz:z=.yes\/z=.no)(e:h[a]?=some (.lst ((bC i c z).map Co.ae)))(h0:0<=v)(h8:v<8):∃b,gR i c b/\idx (.ref a) (.int v) h=.ok (Co.ae b) h:=by
 obtain rfl|rfl|rfl|rfl|rfl|rfl|rfl|rfl:v=0\/v=1\/v=2\/v=3\/v=4\/v=5\/v=6\/v=7:=by lia
 .exact⟨_,.call,by simp[e,bC]⟩
 .exact⟨_,.left,by simp[e,bC]⟩
 .exact⟨_,.aQ,by simp[e,bC]⟩
 .exact⟨_,.sum,by simp[e,bC];rfl⟩
 .exact⟨_,.fold,by simp[e,bC];rfl⟩
 .exact⟨_,.right,by simp[e,bC];rfl⟩
 .rcases hz with rfl|rfl
  .exact⟨_,.Dp,by simp[e,bC];rfl⟩
  .exact⟨_,.Cn,by simp[e,bC];rfl⟩
 .exact⟨_,.lt,by simp[e,bC];rfl⟩
theorem LC{h:Hp}{a:Nat}{v:Int}(e:h[a]?=some (.lst [Co.ae .yes,Co.ae .no]))(h0:0<=v)(h1:v<2):∃c:C,(c=.yes\/c=.no)/\idx (.ref a) (.int v) h=.ok (Co.ae c) h:=by
 obtain rfl|rfl:v=0\/v=1:=by lia
 .exact⟨.yes,.inl rfl,by simp[e]⟩
 .exact⟨.no,.inr rfl,by simp[e]⟩
theorem yZ{h:Hp}{q:Nat}{o:O}{L:List W}(g:Gen 2 h)(e:h[q]?=some (.lst L))(n:q≠2)(nl:∀ns:List Int,L≠ns.map W.int):Gen 2 (h.set q o):=by obtain⟨a,c,l,ns,e1,e2,e3⟩:=g.ex;refine⟨a,c,l,ns,bI n e1,bI (fun z=>?_) e2,e3⟩;subst z;rw[e] at e2;cases e2;exact nl ns rfl
section
variable {h:Hp}{X:Xq}{c d:C}{K:Kd}{D j:Nat}
theorem HS{i:Int}{b:C}{w6:W}(hD:D=653)(sk:Sk 9 c K)(kc:kb 40 c)(dc:c.depth<=13)(p:Path j c d)(hj:j<=80)(e:Co.ended d=true)(o:gR i c b):wSs (run T (D+13)) (sJ.body.drop 14) [some (.ref 0),some (.ref 2),some (Co.ae c),some (Co.ae d),some (.int (j:Int)),some (Co.ae (.num i)),some w6,some (Co.ae b)] h (fun _ _=>W.ah=.bl true) (fun w _=>w=.bl true) X:=by
 have ob:=o.dp;have dp:c.depth+j * (9-1)<=700:=by lia
 have dd:=(pR (by decide) p sk).2;have kd:=tU p sk (by decide) kc;refine kW (m:=D+1) (DI o) (o.pl sk.1.pl) (o.gd sk.1.gd) (by lia) (by decide) rfl fun h1 g1=>?_;refine wC.B8 ?_;rw[bT rfl];simp only[Bool.not_true,truth];show wS _ _ _ _ _ _ _;have h3:∀(Q:Wq)(X:Xq),Q (.int ((j:Int) * 3)) h1->wE (run T (D+13)) (.bin .mul (.var 4) (.cst (.int 3))) [some (.ref 0),some (.ref 2),some (Co.ae c),some (Co.ae d),some (.int (j:Int)),some (Co.ae (.num i)),some w6,some (Co.ae b)] h1 Q X:=by intro Q X q;have e:([some (.ref 0),some (.ref 2),some (Co.ae c),some (Co.ae d),some (.int (j:Int)),some (Co.ae (.num i)),some w6,some (Co.ae b)]:Env)[4]?=some (some (.int (j:Int))):=rfl;generalize ([some (.ref 0),some (.ref 2),some (Co.ae c),some (Co.ae d),some (.int (j:Int)),some (Co.ae (.num i)),some w6,some (Co.ae b)]:Env)=σ at e⊢;exact t3 e q
 generalize (E.bin Op.mul (E.var 4) (E.cst (W.int 3)))=e3 at h3⊢;refine h3 _ _ ?_;refine kW (m:=D+1) (c:=.n2 .both (.num i) b) (Ci o (by decide) p sk dp e) ⟨trivial,o.pl sk.1.pl⟩ ⟨trivial,o.gd sk.1.gd⟩ (by simp only[Co.depth];lia) (by lia) (by lia) fun h2 g2=>?_;refine wC.B8 ?_;refine kW (m:=D+1) (c:=.n3 .aQ .yes c b) (KI (by decide) p sk dp e) ⟨trivial,sk.1.pl,o.pl sk.1.pl⟩ ⟨trivial,sk.1.gd,o.gd sk.1.gd⟩ (by simp only[Co.depth];lia) (by lia) (by lia) fun h3 g3=>?_;exact wC.of true (by simp only[cmp];exact sT h3 kd (by lia)) rfl
theorem zq{h1:Hp}(hD:D=653)(g:Gen 2 h1)(sk:Sk 9 c K)(kc:kb 40 c)(dc:c.depth<=13)(p:Path j c d)(hj:j<=80)(e:Co.ended d=true):wSs (run T (D+13)) (sJ.body.drop 8) [some (.ref 0),some (.ref 2),some (Co.ae c),some (Co.ae d),some (.int (j:Int)),none,none,none] h1 (fun _ _=>W.ah=.bl true) (fun w _=>w=.bl true) X:=by
 refine CP (D+11) g fun i h2 x2 g2=>?_;have n2:=g2.jy;have l2:2<h2.length:=by obtain⟨_,_,_,_,e,_⟩:=g2.ex;exact aX e
 refine Po.ok (a:=.ref (h2.length+2)) (h:=h2++[.lst (((bC i c .yes).take 4).map Co.ae)]++[.lst ((((bC i c .yes).drop 4).take 2).map Co.ae)]++[.lst (((bC i c .yes).take 6).map Co.ae)]) ?_ ?_
 .have a1:=aK [O.lst ((((bC i c .yes).drop 4).take 2).map Co.ae)] (bf h2 (.lst (((bC i c .yes).take 4).map Co.ae)));have a2:=bf (h2++[.lst (((bC i c .yes).take 4).map Co.ae)]) (.lst ((((bC i c .yes).drop 4).take 2).map Co.ae));show bin .add (.ref h2.length) (.ref (h2++[O.lst (((bC i c .yes).take 4).map Co.ae)]).length) (h2++[.lst (((bC i c .yes).take 4).map Co.ae)]++[.lst ((((bC i c .yes).drop 4).take 2).map Co.ae)])=_;simp only[bin,a1,a2];rw[if_pos ⟨trivial,by simp[SZ,bC]⟩];simp[Tw.new,bC]
 have e6:(h2++[.lst (((bC i c .yes).take 4).map Co.ae)]++[.lst ((((bC i c .yes).drop 4).take 2).map Co.ae)]++[.lst (((bC i c .yes).take 6).map Co.ae)])[h2.length+2]?=some (O.lst (((bC i c .yes).take 6).map Co.ae)):=by simp
 have g6:=((g2.ext [O.lst (((bC i c .yes).take 4).map Co.ae)]).ext [O.lst ((((bC i c .yes).drop 4).take 2).map Co.ae)]).ext [O.lst (((bC i c .yes).take 6).map Co.ae)];generalize h2++[O.lst (((bC i c .yes).take 4).map Co.ae)]++[.lst ((((bC i c .yes).drop 4).take 2).map Co.ae)]++[.lst (((bC i c .yes).take 6).map Co.ae)]=h3 at e6 g6⊢;have q2:h2.length+2≠2:=by lia
 generalize h2.length+2=q at e6 q2⊢;refine dO (k7 e6) ?_;have n6:=g6.jy;refine nv (D+12) (g6.ext _) 2 (by decide) fun v h4 v0 v1 x4 g4=>?_;obtain⟨z,hz,ez⟩:=LC (x4.keep _ _ (bf h3 _) (bj n6)) v0 v1;refine Po.ok ez ?_;have e7:=x4.keep _ _ (aK [O.lst [Co.ae .yes,Co.ae .no]] e6) q2;refine mz e7 (by simp[SZ,bC]) ?_;have e8:=di (u:=.lst (((bC i c .yes).take 6).map Co.ae++[Co.ae (.n2 .call (.n2 .call (.like .num) (.num i)) z)])) e7;refine dO (k7 e8) (mz e8 (by simp[SZ,bC]) ?_);have e9:=di (u:=.lst ((bC i c z).map Co.ae)) e8;have g9:Gen 2 ((h4.set q (.lst (((bC i c .yes).take 6).map Co.ae++[Co.ae (.n2 .call (.n2 .call (.like .num) (.num i)) z)]))).set q (.lst ((bC i c z).map Co.ae))):=yZ (yZ g4 e7 q2 (fun ns z=>by cases ns<;>simp[bC,Co.ae] at z)) e8 q2 (fun ns z=>by cases ns<;>simp[bC,Co.ae] at z);refine nv (D+12) g9 8 (by decide) fun v h5 v0 v1 x5 g5=>?_;obtain⟨b,o,eb⟩:=Ea hz (x5.keep _ _ e9 q2) v0 v1;refine Po.ok eb ?_;exact HS hD sk kc dc p hj e o
theorem E5(hD:D=653)(g:Gen 2 h):wSs (run T (D+13)) (sJ.body.drop 1) [some (.ref 0),some (.ref 2),none,none,none,none,none,none] h (fun _ _=>W.ah=.bl true) (fun w _=>w=.bl true) X:=by
 have nn:=g.jy;have g1:=g.ext [O.lst []];refine Gu 2 (D+9) g1 fun K h2 dK oK x2 g2=>?_;have i2:In 2 h.length [] h2:=⟨x2.keep _ _ (bf h _) (bj nn),bj nn⟩;refine draw (N:=2) (E:=3) (by lia) (by decide) oK dK (by decide) h.length g2 i2 fun c h3 dr x3 g3=>?_;obtain⟨sk,dc⟩:=JO dK dr 0;have sk:Sk 9 c K:=sk;have dc:c.depth<=13:=dc;have kc:kb 40 c:=dr.kb (by show K.depth+2 * 3<=40;lia) (by decide);have fu:80<FU:=ve (by decide);show Po (fq _ _ FU [some (.ref 0),some (.ref 2),some (Co.ae c),some (Co.ae c),some (.int ((0:Nat):Int)),none,none,none] h3) _ _;refine GJ hD sk kc dc 80 0 FU c h3 rfl fu .nil fun j d h4 p hj ej w4=>?_;have g4:=w4.gen g3;obtain⟨sd,dd⟩:=pR (by decide) p sk;have kd:=tU p sk (by decide) kc;have dp:c.depth+j * (9-1)<=700:=by lia
 have re:=xO 40 d (D+12-d.depth) h4;rw[show D+12-d.depth+d.depth+1=D+13 by lia] at re;refine re _ _ kd (by lia) fun h5 w5=>?_;cases e:Co.ended d with
 |false=>
  have j80:j=80:=by rcases ej with z|z;exact z;rw[e] at z;cases z
  subst j80;refine kW (m:=D+1) (n:=79) (n9 (P:=9) (by decide) p sk (by lia)) sk.1.pl sk.1.gd (by lia) (by decide) rfl fun h6 g6=>?_;exact wC.eqs rfl
 |true=>
  refine kW (m:=D+1) (oa (m:=0) (P:=9) (by decide) p sk (by lia) e) sk.1.pl sk.1.gd (by lia) (by lia) rfl fun h6 g6=>?_;refine wC.of false (by show (dB h6 (Co.ae d) (Co.ae d)).map (fun x=>!x)=_;rw[sT h6 kd (by lia)];rfl) ?_;refine kW (m:=D+1) (oa (m:=10) (P:=9) (by decide) p sk (by lia) e) sk.1.pl sk.1.gd (by lia) (by lia) (by lia) fun h7 g7=>?_;refine wC.of false (by show (dB h7 (Co.ae d) (Co.ae d)).map (fun x=>!x)=_;rw[sT h7 kd (by lia)];rfl) ?_;have W7:=(w5.trans g6).trans g7;refine wC.of (decide (0<(j:Int))) rfl ?_;by_cases z:0<j
  .rw[bT (by lia)];obtain⟨j,rfl⟩:∃i,j=i+1:=⟨j-1,by lia⟩;refine kW (m:=D+1) (n:=j) (n9 (P:=9) (by decide) p sk (by lia)) sk.1.pl sk.1.gd (by lia) (by lia) (by lia) fun h8 g8=>?_;refine wC.B8 ?_;exact zq hD ((W7.trans g8).gen g4) sk kc dc p hj e
  .rw[bc (by lia)];exact zq hD (W7.gen g4) sk kc dc p hj e
theorem GS(hD:D=653)(ns:List Int):Po (run T (D+14) uX [.ref 0] [.aV (ns.map .int)]) (fun w _=>w=.bl true) fun _ _=>False:=by refine wp_run Ng rfl ?_;have g:Gen 2 [O.aV (ns.map .int),.lst (ns.map .int),.lst [.int 23,.ref 1,.int 0]]:=⟨⟨23,0,1,ns,rfl,rfl,by decide⟩⟩;have:=E5 (X:=fun _ _=>False) hD g;exact this
end
theorem CQ(ns:List Int):∃h',run T 667 uX [.ref 0] [.aV (ns.map .int)]=.ok (.bl true) h':=by
 have key:=GS rfl ns
 revert key
 generalize run T (653+14) uX [.ref 0] [.aV (ns.map .int)]=r;intro key;cases r with
 |ok w h=>exact⟨h,by rw[show w=.bl true from key]⟩
 |aw a h=>exact key.elim
 |bad=>exact key.elim
end K06
set_option maxHeartbeats 0
namespace K06G
open PySem PySem.W L2 TwS PyProof.Rows
open K06 (T CQ)
noncomputable abbrev pw:Program:=PySem.Challenge.pw_twomeet_k06_run_to_the_end
abbrev top(i:Nat):Stmt:=pw.main.body.getD i (.Pass ⟨0,0,0,0⟩)
abbrev s0:Stmt:=top 32
abbrev d0:bG:=⟨.fn "parts_of","parts_of","parts_of",s0,["core"],["core"],false⟩
abbrev s1:Stmt:=top 33
abbrev d1:bG:=⟨.fn "with_parts","with_parts","with_parts",s1,["core","within"],["core","within"],false⟩
abbrev s2:Stmt:=top 34
abbrev d2:bG:=⟨.fn "walked","walked","walked",s2,["core","context","answer","answers","left","part","bound","ready","within","inside","one"],["core","context","answer"],false⟩
abbrev s3:Stmt:=top 35
abbrev d3:bG:=⟨.fn "taken","taken","taken",s3,["answers","many","last"],["answers","many"],false⟩
abbrev s4:Stmt:=top 36
abbrev d4:bG:=⟨.fn "put_in","put_in","put_in",s4,["core","end","closed","answer"],["core","end"],true⟩
noncomputable abbrev s5:Stmt:=(cj s4).getD 1 (.Pass ⟨0,0,0,0⟩)
abbrev d5:bG:=⟨.dY,"answer","",s5,["part","bound","within","closed"],["part","bound","within"],false⟩
abbrev s6:Stmt:=top 37
abbrev d6:bG:=⟨.fn "marked","marked","marked",s6,["core"],["core"],false⟩
abbrev s7:Stmt:=top 38
abbrev d7:bG:=⟨.fn "bare","bare","bare",s7,["core"],["core"],false⟩
abbrev s8:Stmt:=top 39
abbrev d8:bG:=⟨.fn "unmarked","unmarked","unmarked",s8,["core","answer"],["core"],true⟩
noncomputable abbrev s9:Stmt:=(cj s8).getD 0 (.Pass ⟨0,0,0,0⟩)
abbrev d9:bG:=⟨.dY,"answer","",s9,["part","bound","within"],["part","bound","within"],false⟩
abbrev Pp:Stmt:=top 48
abbrev OI:bG:=⟨.fn "becomes","becomes","becomes",Pp,["shelf","core","word","side"],["shelf","core"],false⟩
abbrev Pk:Stmt:=top 49
abbrev Pq:bG:=⟨.fn "truth","truth","truth",Pk,["holds"],["holds"],false⟩
abbrev Ph:Stmt:=top 50
abbrev OS:bG:=⟨.fn "taken_apart","taken_apart","taken_apart",Ph,["core","word"],["core","word"],false⟩
abbrev OO:Stmt:=top 51
abbrev PF:bG:=⟨.fn "call_becomes","call_becomes","call_becomes",OO,["called","part","work"],["called","part"],false⟩
abbrev OU:Stmt:=top 52
abbrev Qe:bG:=⟨.fn "if_becomes","if_becomes","if_becomes",OU,["core","word"],["core"],false⟩
abbrev Pd:Stmt:=top 53
abbrev Qf:bG:=⟨.fn "fold_becomes","fold_becomes","fold_becomes",Pd,["row","start","work","more"],["row","start","work"],false⟩
abbrev O0:Stmt:=top 54
abbrev O6:bG:=⟨.fn "likeness_becomes","likeness_becomes","likeness_becomes",O0,["like","first","second","left"],["like","first","second"],false⟩
abbrev OL:Stmt:=top 55
abbrev PB:bG:=⟨.fn "asked","asked","asked",OL,["like","first","second"],["like","first","second"],false⟩
abbrev P9:Stmt:=top 56
abbrev O7:bG:=⟨.fn "like_becomes","like_becomes","like_becomes",P9,["kind","first","second"],["kind","first","second"],false⟩
abbrev OX:Stmt:=top 57
abbrev Pm:bG:=⟨.fn "likerow_becomes","likerow_becomes","likerow_becomes",OX,["like","first","second"],["like","first","second"],false⟩
abbrev O4:Stmt:=top 62
abbrev Pw:bG:=⟨.fn "ends_by_parts","ends_by_parts","ends_by_parts",O4,["core"],["core"],false⟩
abbrev PZ:Stmt:=top 63
abbrev PN:bG:=⟨.fn "with_part","with_part","with_part",PZ,["core","place","part"],["core","place","part"],false⟩
abbrev OP:Stmt:=clsAt (top 64) 0
abbrev PC:bG:=⟨.me [82,101,99,107,111,110,105,110,103] dy,"__init__","Reckoning.__init__",OP,["self","core"],["self","core"],false⟩
abbrev Pb:Stmt:=clsAt (top 64) 1
abbrev Qi:bG:=⟨.me [82,101,99,107,111,110,105,110,103] [115,101,101,107],"seek","Reckoning.seek",Pb,["self"],["self"],false⟩
abbrev P2:Stmt:=clsAt (top 64) 2
abbrev Pr:bG:=⟨.me [82,101,99,107,111,110,105,110,103] [101,110,116,101,114],"enter","Reckoning.enter",P2,["self"],["self"],false⟩
abbrev Qd:Stmt:=clsAt (top 64) 3
abbrev P1:bG:=⟨.me [82,101,99,107,111,110,105,110,103] [108,101,97,118,101],"leave","Reckoning.leave",Qd,["self","core","place"],["self"],false⟩
abbrev OK:Stmt:=clsAt (top 64) 4
abbrev Qa:bG:=⟨.me [82,101,99,107,111,110,105,110,103] [105,115,95,100,111,110,101],"is_done","Reckoning.is_done",OK,["self"],["self"],false⟩
abbrev Qh:Stmt:=clsAt (top 64) 5
abbrev O5:bG:=⟨.me [82,101,99,107,111,110,105,110,103] [97,100,118,97,110,99,101],"advance","Reckoning.advance",Qh,["self","shelf"],["self","shelf"],false⟩
abbrev OQ:Stmt:=clsAt (top 64) 6
abbrev Px:bG:=⟨.me [82,101,99,107,111,110,105,110,103] [119,104,111,108,101],"whole","Reckoning.whole",OQ,["self","core","around","place"],["self"],false⟩
abbrev O9:Stmt:=top 65
abbrev Pz:bG:=⟨.fn "run","run","run",O9,["shelf","core","most","reckoning","steps"],["shelf","core","most"],false⟩
abbrev Qb:Stmt:=clsAt (top 103) 0
abbrev Pj:bG:=⟨.me [83,104,101,108,102] dy,"__init__","Shelf.__init__",Qb,["self"],["self"],false⟩
abbrev O2:Stmt:=top 106
abbrev PJ:bG:=⟨.fn "_law_next","_law_next","_law_next",O2,["_law_h","_law_many","_law_cell"],["_law_h","_law_many"],false⟩
abbrev Pe:Stmt:=top 107
abbrev Pu:bG:=⟨.fn "_law_number","_law_number","_law_number",Pe,["_law_h","_law_some"],["_law_h"],false⟩
abbrev O8:Stmt:=top 109
abbrev PK:bG:=⟨.fn "_law_kind","_law_kind","_law_kind",O8,["_law_h","_law_deep","_law_names","_law_way","_law_one"],["_law_h","_law_deep","_law_names"],false⟩
abbrev OJ:Stmt:=top 110
abbrev P6:bG:=⟨.fn "_law_likely","_law_likely","_law_likely",OJ,["_law_kind_here"],["_law_kind_here"],false⟩
abbrev ON:Stmt:=top 111
abbrev OW:bG:=⟨.fn "_law_likecore","_law_likecore","_law_likecore",ON,["_law_h","_law_kind_here"],["_law_h","_law_kind_here"],false⟩
abbrev Qg:Stmt:=top 112
abbrev Py:bG:=⟨.fn "_law_base","_law_base","_law_base",Qg,["_law_h","_law_bound","_law_kind_here","_law_deep","_law_number_here","_law_made","_law_k"],["_law_h","_law_bound","_law_kind_here","_law_deep"],false⟩
abbrev OT:Stmt:=top 113
abbrev Qc:bG:=⟨.fn "_law_core","_law_core","_law_core",OT,["_law_h","_law_bound","_law_kind_here","_law_deep","_law_way","_law_fars","_law_other","_law_part","_law_row","_law_start"],["_law_h","_law_bound","_law_kind_here","_law_deep"],false⟩
abbrev OR:Stmt:=top 114
abbrev Pf:bG:=⟨.fn "_law_ended","_law_ended","_law_ended",OR,["_law_core_here","_law_liked"],["_law_core_here"],false⟩
abbrev OV:Stmt:=top 115
abbrev OY:bG:=⟨.fn "_law_into","_law_into","_law_into",OV,["_law_core_here","_law_far","_law_value"],["_law_core_here","_law_far","_law_value"],false⟩
abbrev OH:Stmt:=top 116
abbrev PQ:bG:=⟨.fn "_law_compared","_law_compared","_law_compared",OH,["_law_like","_law_one","_law_other","_law_no","_law_rest","_law_ahead"],["_law_like","_law_one","_law_other"],false⟩
abbrev PU:Stmt:=top 117
abbrev OM:bG:=⟨.fn "_law_stepped","_law_stepped","_law_stepped",PU,["_law_core_here","_law_many","_law_k","_law_head"],["_law_core_here"],false⟩
abbrev P8:Stmt:=top 118
abbrev P0:bG:=⟨.fn "_law_ran","_law_ran","_law_ran",P8,["_law_core_here","_law_most","e"],["_law_core_here","_law_most"],false⟩
abbrev Pa:Stmt:=top 119
abbrev PR:bG:=⟨.fn "law","law","law",Pa,["_law_script","_law_h","_law_core_here","_law_last","_law_many","_law_number_here","_law_odd","_law_bad"],["_law_script"],false⟩
noncomputable abbrev cV:List (Tw.S×List Tw.S):=[([83,116,114,97,121],[]),([84,111,111,76,111,110,103],[])]
noncomputable abbrev iY:List (Tw.S×List Tw.S):=[([77,101,101,116,69,114,114,111,114],[[83,116,114,97,121],[84,111,111,76,111,110,103]])]
noncomputable abbrev o5:List (List Tw.S×List Tw.S):=[([[86,97,108,117,101,69,114,114,111,114]],[[83,116,114,97,121],[84,111,111,76,111,110,103]]),([[82,101,102,117,115,101,100]],[]),([[84,111,111,76,111,110,103]],[[84,111,111,76,111,110,103]]),([[83,116,114,97,121]],[[83,116,114,97,121]])]
noncomputable abbrev S6:List (Tw.S×Addr):=[([83,116,114,97,121],87),([84,111,111,76,111,110,103],99)]
abbrev Ds:List bG:=[d0,d1,d2,d3,d4,d5,d6,d7,d8,d9,OI,Pq,OS,PF,Qe,Qf,O6,PB,O7,Pm,Pw,PN,PC,Qi,Pr,P1,Qa,O5,Px,Pz,Pj,PJ,Pu,PK,P6,OW,Py,Qc,Pf,OY,PQ,OM,P0,PR]
noncomputable abbrev nums:List (Str×List (Tw.S×Int)):=[("STEPPING",[([99,97,108,108],2),([98,111,116,104],2),([108,101,102,116],1),([114,105,103,104,116],1),([109,111,114,101],2),([102,111,108,100],3),([105,102],1),([115,117,109],2),([108,101,115,115],2),([108,105,107,101,112,97,105,114],2),([108,105,107,101,114,111,119],1)])]
noncomputable abbrev cons:List (Str×Tw.W):=[("ENDS",.tup [(.str [110,117,109,98,101,114]),(.str [121,101,115]),(.str [110,111]),(.str [110,111,110,101]),(.str [102,117,110]),(.str [98,111,116,104]),(.str [109,111,114,101]),(.str [108,105,107,101,112,97,105,114]),(.str [108,105,107,101,114,111,119]),(.str [101,110,100])]),("LIKENESSES",.tup [(.str [108,105,107,101]),(.str [108,105,107,101,112,97,105,114]),(.str [108,105,107,101,114,111,119])]),("MADE_OF_PARTS",.tup [(.str [99,97,108,108]),(.str [98,111,116,104]),(.str [108,101,102,116]),(.str [114,105,103,104,116]),(.str [109,111,114,101]),(.str [102,111,108,100]),(.str [105,102]),(.str [115,117,109]),(.str [108,101,115,115]),(.str [108,105,107,101,112,97,105,114]),(.str [108,105,107,101,114,111,119])]),("NO",.tup [(.str [110,111])]),("NUMBER",.tup [(.str [110,117,109,98,101,114])]),("TRUTH",.tup [(.str [116,114,117,116,104])]),("YES",.tup [(.str [121,101,115])])]
abbrev dY:List (Nat×List Str×Bool×Tw.Fn):=[(5,["part","bound","within","closed"],false,K06.iM),(9,["part","bound","within"],false,K06.gJ)]
noncomputable abbrev tb:List kF:=[⟨325,("put_in":Str)++ ".<locals>." ++ "answer"⟩,⟨346,("unmarked":Str)++ ".<locals>." ++ "answer"⟩]
abbrev PX:Cfg:={fns:=Ds.map (·.key),cons:=cons,nums:=nums,cV:=cV,iY:=iY,o5:=o5}
abbrev cf:Cfg:={PX with ci:=A2 PX dY}
theorem TF:kT cf Ds T=true:=by decide+kernel
noncomputable abbrev ke(P:Params)(x:Str)(t:Nat)(v:Value):DictEntry:=⟨PyData.keyHash P x,.str x t,v⟩
noncomputable abbrev cN(n q:Str)(a b c d:Nat)(l x y z u:Int)(r1:Nat)(bb:Bool)(i1:Int)(r2:Nat)(v:Value)(r3 r4 r5:Nat)(k:Int):Obj:=⟨.type "code",none,.fields #[.str n a,.str q b,.str "/claim/cut.py" c,.int l 0,.int x 0,.int y 0,.int z 0,.int u 0,.ref r1,.bool bb,.int i1 0,.ref r2,v,.ref r3,.ref r4,.ref r5,.int k 0,.int l 0,.str "/claim/cut.py" d],#[]⟩
noncomputable abbrev cm(n q:Str)(s:Stmt)(m:Str)(t c:Nat):Obj:=⟨.type "function",none,.func (fnOf n q (cR s) (cj s) (au s) .none .none .none (.str m t) none (.ref c) .none),#[]⟩
abbrev o2(P:Params):Obj:=⟨.none,none,(.dict #[] 0),#[]⟩
abbrev o3(P:Params):Obj:=⟨(.type "dict"),none,(.dict #[ke P "__name__" 165 (.str "law_twomeet_k06_run_to_the_end" 1545),ke P "__doc__" 166 .none,ke P "__package__" 167 .none,ke P "__loader__" 168 (.builtin "__main__.__loader__#opaque"),ke P "__spec__" 169 .none,ke P "__annotations__" 170 (.ref 6),ke P "__builtins__" 171 (.ref 4),ke P "__file__" 173 (.str "/claim/cut.py" 172),ke P "__cached__" 174 .none,ke P "_wall" 193 (.ref 21),ke P "MeetError" 213 (.ref 31),ke P "Refused" 238 (.ref 51),ke P "Told" 254 (.ref 63),ke P "Loose" 270 (.ref 75),ke P "Stray" 286 (.ref 87),ke P "TooLong" 302 (.ref 99),ke P "Unmet" 330 (.ref 118),ke P "Unfit" 356 (.ref 137),ke P "Misused" 382 (.ref 156),ke P "NoRule" 408 (.ref 175),ke P "Unbound" 434 (.ref 194),ke P "Unsaid" 450 (.ref 206),ke P "NUMBER" 454 (.ref 209),ke P "TRUTH" 456 (.ref 210),ke P "parts" 463 (.ref 217),ke P "filled" 471 (.ref 224),ke P "gaps_filled" 479 (.ref 231),ke P "replaced" 491 (.ref 238),ke P "has_gaps" 500 (.ref 245),ke P "names_in" 508 (.ref 252),ke P "put_names" 517 (.ref 259),ke P "met" 530 (.ref 266),ke P "met_gap" 540 (.ref 273),ke P "unlikely" 552 (.ref 280),ke P "likeness" 560 (.ref 287),ke P "likeness_kind" 567 (.ref 294),ke P "MADE_OF_PARTS" 581 (.ref 295),ke P "parts_of" 588 (.ref 302),ke P "with_parts" 596 (.ref 309),ke P "walked" 613 (.ref 316),ke P "taken" 622 (.ref 323),ke P "put_in" 632 (.ref 330),ke P "marked" 639 (.ref 337),ke P "bare" 646 (.ref 344),ke P "unmarked" 654 (.ref 351),ke P "core_filled" 664 (.ref 358),ke P "Definition" 704 (.ref 375),ke P "told_at" 714 (.ref 386),ke P "core_at" 724 (.ref 393),ke P "YES" 728 (.ref 394),ke P "NO" 730 (.ref 395),ke P "becomes" 740 (.ref 402),ke P "truth" 747 (.ref 409),ke P "taken_apart" 755 (.ref 416),ke P "call_becomes" 764 (.ref 423),ke P "if_becomes" 772 (.ref 430),ke P "fold_becomes" 782 (.ref 437),ke P "likeness_becomes" 792 (.ref 444),ke P "asked" 801 (.ref 451),ke P "like_becomes" 810 (.ref 458),ke P "likerow_becomes" 819 (.ref 465),ke P "STEPPING" 855 (.ref 466),ke P "LIKENESSES" 859 (.ref 467),ke P "ENDS" 870 (.ref 468),ke P "ends_by_parts" 877 (.ref 475),ke P "with_part" 886 (.ref 482),ke P "Reckoning" 964 (.ref 541),ke P "run" 975 (.ref 552),ke P "Scope" 1053 (.ref 600),ke P "come_up" 1064 (.ref 611),ke P "go_down" 1074 (.ref 618),ke P "found_to_be" 1086 (.ref 625),ke P "number_up" 1095 (.ref 632),ke P "truth_up" 1104 (.ref 639),ke P "told_up" 1114 (.ref 646),ke P "fun_up" 1123 (.ref 653),ke P "fun_down" 1134 (.ref 660),ke P "both_up" 1147 (.ref 667),ke P "both_down" 1159 (.ref 674),ke P "side_up" 1170 (.ref 681),ke P "rowof_up" 1184 (.ref 688),ke P "rowof_down" 1190 (.ref 693),ke P "row_of" 1200 (.ref 700),ke P "ahead_up" 1212 (.ref 707),ke P "ahead_down" 1224 (.ref 714),ke P "fold_up" 1238 (.ref 721),ke P "if_up" 1251 (.ref 728),ke P "if_down" 1264 (.ref 735),ke P "let_up" 1277 (.ref 742),ke P "let_down" 1290 (.ref 749),ke P "reckoned_up" 1301 (.ref 756),ke P "like_up" 1313 (.ref 763),ke P "called_up" 1322 (.ref 770),ke P "called_down" 1334 (.ref 777),ke P "called" 1349 (.ref 784),ke P "work_called" 1361 (.ref 791),ke P "definition_called" 1367 (.ref 796),ke P "part_met" 1382 (.ref 803),ke P "left_met" 1393 (.ref 810),ke P "definition_at" 1399 (.ref 815),ke P "COMING_UP" 1436 (.ref 816),ke P "GOING_DOWN" 1453 (.ref 818),ke P "Shelf" 1532 (.ref 870),ke P "refuse_names" 1544 (.ref 881),ke P "_law_next" 1555 (.ref 888),ke P "_law_number" 1563 (.ref 895),ke P "_law_word" 1569 (.ref 900),ke P "_law_kind" 1580 (.ref 907),ke P "_law_likely" 1586 (.ref 912),ke P "_law_likecore" 1594 (.ref 919),ke P "_law_base" 1607 (.ref 926),ke P "_law_core" 1613 (.ref 931),ke P "_law_ended" 1619 (.ref 936),ke P "_law_into" 1625 (.ref 941),ke P "_law_compared" 1637 (.ref 948),ke P "_law_stepped" 1647 (.ref 955),ke P "_law_ran" 1656 (.ref 962),ke P "law" 1670 (.ref 969)] 118),#[]⟩
noncomputable abbrev o4:Obj:=⟨(.type "module"),(some 0),.plain,#[]⟩
abbrev SF(P:Params):Obj:=⟨(.type "dict"),none,(.dict #[ke P "__module__" 203 (.str "twomeet.errors" 194),ke P "__firstlineno__" 207 (.int 5 206),ke P "__static_attributes__" 208 (.ref 29),ke P "__weakref__" 210 (.ref 32),ke P "__doc__" 211 .none] 3),#[]⟩
noncomputable abbrev Tr:Obj:=⟨(.type "type"),none,(.cls ⟨"MeetError",[(.type "ValueError")],[(.ref 31),(.type "ValueError"),(.type "Exception"),(.type "BaseException"),(.type "object")],30,"MeetError",true,[],[(.ref 51),(.ref 63),(.ref 75),(.ref 87),(.ref 99)],false,none,false⟩),#[(some (.ref 22)),none,(some (.str "MeetError" 196)),(some (.str "MeetError" 204)),(some (.builtin "ValueError.__new__")),(some (.bool true))]⟩
abbrev Tc(P:Params):Obj:=⟨(.type "dict"),none,(.dict #[ke P "__module__" 221 (.str "twomeet.errors" 194),ke P "__firstlineno__" 225 (.int 7 224),ke P "__init__" 233 (.ref 48),ke P "__static_attributes__" 235 (.ref 49),ke P "__doc__" 236 .none] 2),#[]⟩
noncomputable abbrev TN:Obj:=⟨(.type "type"),none,(.cls ⟨"Refused",[(.ref 31)],[(.ref 51),(.ref 31),(.type "ValueError"),(.type "Exception"),(.type "BaseException"),(.type "object")],50,"Refused",true,[],[(.ref 118),(.ref 137),(.ref 156),(.ref 175),(.ref 194),(.ref 206)],false,none,false⟩),#[(some (.ref 35)),none,(some (.str "Refused" 214)),(some (.str "Refused" 222)),(some (.builtin "ValueError.__new__")),(some (.bool true))]⟩
abbrev Tf(P:Params):Obj:=⟨(.type "dict"),none,(.dict #[ke P "__module__" 278 (.str "twomeet.errors" 194),ke P "__firstlineno__" 282 (.int 15 281),ke P "__static_attributes__" 283 (.ref 85),ke P "__doc__" 284 .none] 2),#[]⟩
noncomputable abbrev SJ:Obj:=⟨(.type "type"),none,(.cls ⟨"Stray",[(.ref 31)],[(.ref 87),(.ref 31),(.type "ValueError"),(.type "Exception"),(.type "BaseException"),(.type "object")],86,"Stray",true,[],[],false,none,false⟩),#[(some (.ref 78)),none,(some (.str "Stray" 271)),(some (.str "Stray" 279)),(some (.builtin "ValueError.__new__")),(some (.bool true))]⟩
abbrev SX(P:Params):Obj:=⟨(.type "dict"),none,(.dict #[ke P "__module__" 294 (.str "twomeet.errors" 194),ke P "__firstlineno__" 298 (.int 17 297),ke P "__static_attributes__" 299 (.ref 97),ke P "__doc__" 300 .none] 2),#[]⟩
noncomputable abbrev Td:Obj:=⟨(.type "type"),none,(.cls ⟨"TooLong",[(.ref 31)],[(.ref 99),(.ref 31),(.type "ValueError"),(.type "Exception"),(.type "BaseException"),(.type "object")],98,"TooLong",true,[],[],false,none,false⟩),#[(some (.ref 90)),none,(some (.str "TooLong" 287)),(some (.str "TooLong" 295)),(some (.builtin "ValueError.__new__")),(some (.bool true))]⟩
noncomputable abbrev ID:Obj:=⟨(.type "tuple"),none,(.seq #[(.str "number" 453)] 0),#[]⟩
noncomputable abbrev Mf:Obj:=⟨(.type "tuple"),none,(.seq #[(.str "truth" 455)] 0),#[]⟩
noncomputable abbrev LF:Obj:=⟨(.type "tuple"),none,(.seq #[(.str "call" 570),(.str "both" 571),(.str "left" 572),(.str "right" 573),(.str "more" 574),(.str "fold" 575),(.str "if" 576),(.str "sum" 577),(.str "less" 578),(.str "likepair" 579),(.str "likerow" 580)] 0),#[]⟩
abbrev RK:Obj:=cN "parts_of" "parts_of" 582 583 584 587 127 1 0 0 3 296 true 181 297 .none 298 299 300 586
abbrev K7:Obj:=cm "parts_of" "parts_of" s0 "twomeet.walks" 568 301
abbrev RV:Obj:=cN "with_parts" "with_parts" 589 590 591 595 133 2 0 0 3 303 true 181 304 .none 305 306 307 594
abbrev LK:Obj:=cm "with_parts" "with_parts" s1 "twomeet.walks" 568 308
abbrev Rg:Obj:=cN "walked" "walked" 597 598 599 612 139 3 0 0 3 310 true 181 311 .none 312 313 314 611
abbrev LY:Obj:=cm "walked" "walked" s2 "twomeet.walks" 568 315
abbrev Q9:Obj:=cN "taken" "taken" 614 615 616 621 153 2 0 0 3 317 true 181 318 .none 319 320 321 620
abbrev K8:Obj:=cm "taken" "taken" s3 "twomeet.walks" 568 322
abbrev IP:Obj:=cN "put_in" "put_in" 623 624 625 631 159 2 0 0 3 324 true 181 325 .none 326 327 328 630
abbrev IS:Obj:=cm "put_in" "put_in" s4 "twomeet.walks" 568 329
abbrev Qy:Obj:=cN "marked" "marked" 633 634 635 638 167 1 0 0 3 331 true 181 332 .none 333 334 335 637
abbrev KN:Obj:=cm "marked" "marked" s6 "twomeet.walks" 568 336
abbrev Rz:Obj:=cN "bare" "bare" 640 641 642 645 169 1 0 0 3 338 true 181 339 .none 340 341 342 644
abbrev KD:Obj:=cm "bare" "bare" s7 "twomeet.walks" 568 343
abbrev Kl:Obj:=cN "unmarked" "unmarked" 647 648 649 653 171 1 0 0 3 345 true 181 346 .none 347 348 349 652
abbrev KR:Obj:=cm "unmarked" "unmarked" s8 "twomeet.walks" 568 350
noncomputable abbrev Jm:Obj:=⟨(.type "tuple"),none,(.seq #[(.str "yes" 727)] 0),#[]⟩
noncomputable abbrev IC:Obj:=⟨(.type "tuple"),none,(.seq #[(.str "no" 729)] 0),#[]⟩
abbrev QR:Obj:=cN "becomes" "becomes" 731 732 733 739 213 2 0 0 3 396 true 181 397 .none 398 399 400 738
abbrev Mp:Obj:=cm "becomes" "becomes" Pp "twomeet.rules" 725 401
abbrev Rn:Obj:=cN "truth" "truth" 741 742 743 746 231 1 0 0 3 403 true 181 404 .none 405 406 407 745
abbrev IK:Obj:=cm "truth" "truth" Pk "twomeet.rules" 725 408
abbrev QS:Obj:=cN "taken_apart" "taken_apart" 748 749 750 754 233 2 0 0 3 410 true 181 411 .none 412 413 414 753
abbrev Ls:Obj:=cm "taken_apart" "taken_apart" Ph "twomeet.rules" 725 415
abbrev Qz:Obj:=cN "call_becomes" "call_becomes" 756 757 758 763 237 2 0 0 3 417 true 181 418 .none 419 420 421 762
abbrev Lf:Obj:=cm "call_becomes" "call_becomes" OO "twomeet.rules" 725 422
abbrev Rt:Obj:=cN "if_becomes" "if_becomes" 765 766 767 771 244 1 0 0 3 424 true 181 425 .none 426 427 428 770
abbrev Ml:Obj:=cm "if_becomes" "if_becomes" OU "twomeet.rules" 725 429
abbrev QW:Obj:=cN "fold_becomes" "fold_becomes" 773 774 775 781 251 3 0 0 3 431 true 181 432 .none 433 434 435 780
abbrev JE:Obj:=cm "fold_becomes" "fold_becomes" Pd "twomeet.rules" 725 436
abbrev Rh:Obj:=cN "likeness_becomes" "likeness_becomes" 783 784 785 791 256 3 0 0 3 438 true 181 439 .none 440 441 442 790
abbrev K6:Obj:=cm "likeness_becomes" "likeness_becomes" O0 "twomeet.rules" 725 443
abbrev Q7:Obj:=cN "asked" "asked" 793 794 795 800 263 3 0 0 3 445 true 181 446 .none 447 448 449 799
abbrev Ln:Obj:=cm "asked" "asked" OL "twomeet.rules" 725 450
abbrev QT:Obj:=cN "like_becomes" "like_becomes" 802 803 804 809 265 3 0 0 3 452 true 181 453 .none 454 455 456 808
abbrev KA:Obj:=cm "like_becomes" "like_becomes" P9 "twomeet.rules" 725 457
abbrev Rf:Obj:=cN "likerow_becomes" "likerow_becomes" 811 812 813 818 271 3 0 0 3 459 true 181 460 .none 461 462 463 817
abbrev Kz:Obj:=cm "likerow_becomes" "likerow_becomes" OX "twomeet.rules" 725 464
abbrev Kp(P:Params):Obj:=⟨(.type "dict"),none,(.dict #[ke P "call" 822 (.int 2 823),ke P "both" 824 (.int 2 825),ke P "left" 826 (.int 1 827),ke P "right" 828 (.int 1 829),ke P "more" 830 (.int 2 831),ke P "fold" 832 (.int 3 833),ke P "if" 834 (.int 1 835),ke P "sum" 836 (.int 2 837),ke P "less" 838 (.int 2 839),ke P "likepair" 840 (.int 2 841),ke P "likerow" 842 (.int 1 843)] 11),#[]⟩
noncomputable abbrev JM:Obj:=⟨(.type "tuple"),none,(.seq #[(.str "like" 856),(.str "likepair" 857),(.str "likerow" 858)] 0),#[]⟩
noncomputable abbrev Jw:Obj:=⟨(.type "tuple"),none,(.seq #[(.str "number" 860),(.str "yes" 861),(.str "no" 862),(.str "none" 863),(.str "fun" 864),(.str "both" 865),(.str "more" 866),(.str "likepair" 867),(.str "likerow" 868),(.str "end" 869)] 0),#[]⟩
abbrev R0:Obj:=cN "ends_by_parts" "ends_by_parts" 871 872 873 876 281 1 0 0 3 469 true 181 470 .none 471 472 473 875
abbrev I0:Obj:=cm "ends_by_parts" "ends_by_parts" O4 "twomeet.steps" 820 474
abbrev QV:Obj:=cN "with_part" "with_part" 878 879 880 885 287 3 0 0 3 476 true 181 477 .none 478 479 480 884
abbrev Ma:Obj:=cm "with_part" "with_part" PZ "twomeet.steps" 820 481
abbrev Qo:Obj:=cN "__init__" "Reckoning.__init__" 899 900 901 905 291 2 0 0 3 490 true 181 491 .none 492 493 494 904
abbrev Mi:Obj:=cm "__init__" "Reckoning.__init__" OP "twomeet.steps" 820 495
abbrev R1:Obj:=cN "seek" "Reckoning.seek" 907 908 909 912 296 1 0 0 3 497 true 181 498 .none 499 500 501 911
abbrev Jq:Obj:=cm "seek" "Reckoning.seek" Pb "twomeet.steps" 820 502
abbrev QO:Obj:=cN "enter" "Reckoning.enter" 914 915 916 919 301 1 0 0 3 504 true 181 505 .none 506 507 508 918
abbrev LO:Obj:=cm "enter" "Reckoning.enter" P2 "twomeet.steps" 820 509
abbrev Ry:Obj:=cN "leave" "Reckoning.leave" 921 922 923 928 306 1 0 0 3 511 true 181 512 .none 513 514 515 927
abbrev Jx:Obj:=cm "leave" "Reckoning.leave" Qd "twomeet.steps" 820 516
abbrev QX:Obj:=cN "is_done" "Reckoning.is_done" 930 931 932 935 316 1 0 0 3 518 true 181 519 .none 520 521 522 934
abbrev LZ:Obj:=cm "is_done" "Reckoning.is_done" OK "twomeet.steps" 820 523
abbrev Rv:Obj:=cN "advance" "Reckoning.advance" 937 938 939 943 319 2 0 0 3 525 true 181 526 .none 527 528 529 942
abbrev Mu:Obj:=cm "advance" "Reckoning.advance" Qh "twomeet.steps" 820 530
abbrev QL:Obj:=cN "whole" "Reckoning.whole" 945 946 947 953 322 1 0 0 3 532 true 181 533 .none 534 535 536 952
abbrev Ju:Obj:=cm "whole" "Reckoning.whole" OQ "twomeet.steps" 820 537
abbrev Qq(P:Params):Obj:=⟨(.type "dict"),none,(.dict #[ke P "__module__" 894 (.str "twomeet.steps" 820),ke P "__firstlineno__" 898 (.int 289 897),ke P "__init__" 906 (.ref 496),ke P "seek" 913 (.ref 503),ke P "enter" 920 (.ref 510),ke P "leave" 929 (.ref 517),ke P "is_done" 936 (.ref 524),ke P "advance" 944 (.ref 531),ke P "whole" 954 (.ref 538),ke P "__static_attributes__" 957 (.ref 539),ke P "__dict__" 959 (.ref 542),ke P "__weakref__" 961 (.ref 543),ke P "__doc__" 962 .none] 4),#[]⟩
noncomputable abbrev RZ:Obj:=⟨(.type "type"),none,(.cls ⟨"Reckoning",[(.type "object")],[(.ref 541),(.type "object")],540,"Reckoning",true,[],[],false,none,false⟩),#[none,none,(some (.str "Reckoning" 887)),(some (.str "Reckoning" 895)),(some (.builtin "object.__new__")),(some (.bool true))]⟩
abbrev Q8:Obj:=cN "run" "run" 965 966 967 974 327 3 0 0 3 546 true 181 547 .none 548 549 550 973
abbrev Jc:Obj:=cm "run" "run" O9 "twomeet.steps" 820 551
abbrev QP:Obj:=cN "__init__" "Shelf.__init__" 1468 1469 1470 1473 555 1 0 0 3 826 true 181 827 .none 828 829 830 1472
abbrev LX:Obj:=cm "__init__" "Shelf.__init__" Qb "twomeet.shelf" 1454 831
abbrev RP(P:Params):Obj:=⟨(.type "dict"),none,(.dict #[ke P "__module__" 1463 (.str "twomeet.shelf" 1454),ke P "__firstlineno__" 1467 (.int 553 1466),ke P "__init__" 1474 (.ref 832),ke P "tell" 1487 (.ref 839),ke P "write" 1495 (.ref 846),ke P "write_as" 1504 (.ref 853),ke P "end" 1515 (.ref 860),ke P "outside" 1522 (.ref 867),ke P "__static_attributes__" 1525 (.ref 868),ke P "__dict__" 1527 (.ref 871),ke P "__weakref__" 1529 (.ref 872),ke P "__doc__" 1530 .none] 4),#[]⟩
noncomputable abbrev QZ:Obj:=⟨(.type "type"),none,(.cls ⟨"Shelf",[(.type "object")],[(.ref 870),(.type "object")],869,"Shelf",true,[],[],false,none,false⟩),#[none,none,(some (.str "Shelf" 1456)),(some (.str "Shelf" 1464)),(some (.builtin "object.__new__")),(some (.bool true))]⟩
abbrev Ru:Obj:=cN "_law_next" "_law_next" 1547 1548 1549 1554 591 2 0 0 3 882 true 181 883 .none 884 885 886 1553
abbrev II:Obj:=cm "_law_next" "_law_next" O2 "law_twomeet_k06_run_to_the_end" 1545 887
abbrev RM:Obj:=cN "_law_number" "_law_number" 1556 1557 1558 1562 596 1 0 0 3 889 true 181 890 .none 891 892 893 1561
abbrev Jt:Obj:=cm "_law_number" "_law_number" Pe "law_twomeet_k06_run_to_the_end" 1545 894
abbrev Ra:Obj:=cN "_law_kind" "_law_kind" 1570 1571 1572 1579 604 3 0 0 3 901 true 181 902 .none 903 904 905 1578
abbrev JD:Obj:=cm "_law_kind" "_law_kind" O8 "law_twomeet_k06_run_to_the_end" 1545 906
abbrev Qr:Obj:=⟨(.type "code"),none,(.fields #[(.str "_law_likely" 1581),(.str "_law_likely" 1582),(.str "/claim/cut.py" 1583),(.int 614 0),(.int 1 0),(.int 0 0),(.int 0 0),(.int 3 0),(.ref 908),(.bool true),(.int 181 0),(.ref 909),.none,.none,.none,(.ref 910),(.int 1584 0),(.int 614 0),(.str "/claim/cut.py" 1585)]),#[]⟩
abbrev Kv:Obj:=cm "_law_likely" "_law_likely" OJ "law_twomeet_k06_run_to_the_end" 1545 911
abbrev Rm:Obj:=cN "_law_likecore" "_law_likecore" 1587 1588 1589 1593 618 2 0 0 3 913 true 181 914 .none 915 916 917 1592
abbrev Jy:Obj:=cm "_law_likecore" "_law_likecore" ON "law_twomeet_k06_run_to_the_end" 1545 918
abbrev Qp:Obj:=cN "_law_base" "_law_base" 1595 1596 1597 1606 624 4 0 0 3 920 true 181 921 .none 922 923 924 1605
abbrev Jj:Obj:=cm "_law_base" "_law_base" Qg "law_twomeet_k06_run_to_the_end" 1545 925
abbrev QE:Obj:=⟨(.type "code"),none,(.fields #[(.str "_law_core" 1608),(.str "_law_core" 1609),(.str "/claim/cut.py" 1610),(.int 644 0),(.int 4 0),(.int 0 0),(.int 0 0),(.int 3 0),(.ref 927),(.bool true),(.int 181 0),(.ref 928),.none,.none,.none,(.ref 929),(.int 1611 0),(.int 644 0),(.str "/claim/cut.py" 1612)]),#[]⟩
abbrev LW:Obj:=cm "_law_core" "_law_core" OT "law_twomeet_k06_run_to_the_end" 1545 930
abbrev QK:Obj:=⟨(.type "code"),none,(.fields #[(.str "_law_ended" 1614),(.str "_law_ended" 1615),(.str "/claim/cut.py" 1616),(.int 667 0),(.int 1 0),(.int 0 0),(.int 0 0),(.int 3 0),(.ref 932),(.bool true),(.int 181 0),(.ref 933),.none,.none,.none,(.ref 934),(.int 1617 0),(.int 667 0),(.str "/claim/cut.py" 1618)]),#[]⟩
abbrev Mh:Obj:=cm "_law_ended" "_law_ended" OR "law_twomeet_k06_run_to_the_end" 1545 935
abbrev QJ:Obj:=⟨(.type "code"),none,(.fields #[(.str "_law_into" 1620),(.str "_law_into" 1621),(.str "/claim/cut.py" 1622),(.int 674 0),(.int 3 0),(.int 0 0),(.int 0 0),(.int 3 0),(.ref 937),(.bool true),(.int 181 0),(.ref 938),.none,.none,.none,(.ref 939),(.int 1623 0),(.int 674 0),(.str "/claim/cut.py" 1624)]),#[]⟩
abbrev JV:Obj:=cm "_law_into" "_law_into" OV "law_twomeet_k06_run_to_the_end" 1545 940
abbrev R5:Obj:=cN "_law_compared" "_law_compared" 1626 1627 1628 1636 682 3 0 0 3 942 true 181 943 .none 944 945 946 1635
abbrev Ms:Obj:=cm "_law_compared" "_law_compared" OH "law_twomeet_k06_run_to_the_end" 1545 947
abbrev Q6:Obj:=cN "_law_stepped" "_law_stepped" 1638 1639 1640 1646 691 1 0 0 3 949 true 181 950 .none 951 952 953 1645
abbrev Jf:Obj:=cm "_law_stepped" "_law_stepped" PU "law_twomeet_k06_run_to_the_end" 1545 954
abbrev QF:Obj:=cN "_law_ran" "_law_ran" 1648 1649 1650 1655 712 2 0 0 3 956 true 181 957 .none 958 959 960 1654
abbrev KH:Obj:=cm "_law_ran" "_law_ran" P8 "law_twomeet_k06_run_to_the_end" 1545 961
abbrev Qs:Obj:=cN "law" "law" 1657 1658 1659 1669 721 1 0 0 3 963 true 181 964 .none 965 966 967 1668
abbrev Lq:Obj:=cm "law" "law" Pa "law_twomeet_k06_run_to_the_end" 1545 968
def K(P:Params):Frag:=[(2,(o2 P)),(3,(o3 P)),(4,o4),(30,(SF P)),(31,Tr),(50,(Tc P)),(51,TN),(86,(Tf P)),(87,SJ),(98,(SX P)),(99,Td),(209,ID),(210,Mf),(295,LF),(301,RK),(302,K7),(308,RV),(309,LK),(315,Rg),(316,LY),(322,Q9),(323,K8),(329,IP),(330,IS),(336,Qy),(337,KN),(343,Rz),(344,KD),(350,Kl),(351,KR),(394,Jm),(395,IC),(401,QR),(402,Mp),(408,Rn),(409,IK),(415,QS),(416,Ls),(422,Qz),(423,Lf),(429,Rt),(430,Ml),(436,QW),(437,JE),(443,Rh),(444,K6),(450,Q7),(451,Ln),(457,QT),(458,KA),(464,Rf),(465,Kz),(466,(Kp P)),(467,JM),(468,Jw),(474,R0),(475,I0),(481,QV),(482,Ma),(495,Qo),(496,Mi),(502,R1),(503,Jq),(509,QO),(510,LO),(516,Ry),(517,Jx),(523,QX),(524,LZ),(530,Rv),(531,Mu),(537,QL),(538,Ju),(540,(Qq P)),(541,RZ),(551,Q8),(552,Jc),(831,QP),(832,LX),(869,(RP P)),(870,QZ),(887,Ru),(888,II),(894,RM),(895,Jt),(906,Ra),(907,JD),(911,Qr),(912,Kv),(918,Rm),(919,Jy),(925,Qp),(926,Jj),(930,QE),(931,LW),(935,QK),(936,Mh),(940,QJ),(941,JV),(947,R5),(948,Ms),(954,Q6),(955,Jf),(961,QF),(962,KH),(968,Qs),(969,Lq)]
def KF(P:Params):Frag:=K P++tb.map fun t=>(t.P,tabObj #[])
noncomputable def as:List Addr:=[2,3,4,30,31,50,51,86,87,98,99,209,210,295,301,302,308,309,315,316,322,323,329,330,336,337,343,344,350,351,394,395,401,402,408,409,415,416,422,423,429,430,436,437,443,444,450,451,457,458,464,465,466,467,468,474,475,481,482,495,496,502,503,509,510,516,517,523,524,530,531,537,538,540,541,551,552,831,832,869,870,887,888,894,895,906,907,911,912,918,919,925,926,930,931,935,936,940,941,947,948,954,955,961,962,968,969,325,346]
def H:Hook:=kHook KF as fun _=>by kernel_rfl
def view:Program:={pw with main:={pw.main with body:=[top 119]}}
def loose:List Str:=(["_wall","MeetError","Refused","Told","Loose","Stray","TooLong","Unmet","Unfit","Misused","NoRule","Unbound","Unsaid","NUMBER","TRUTH","parts","filled","gaps_filled","replaced","has_gaps","names_in","put_names","met","met_gap","unlikely","likeness","likeness_kind","MADE_OF_PARTS","parts_of","with_parts","walked","taken","put_in","marked","bare","unmarked","core_filled","Definition","told_at","core_at","YES","NO","becomes","truth","taken_apart","call_becomes","if_becomes","fold_becomes","likeness_becomes","asked","like_becomes","likerow_becomes","STEPPING","LIKENESSES","ENDS","ends_by_parts","with_part","Reckoning","run","Scope","come_up","go_down","found_to_be","number_up","truth_up","told_up","fun_up","fun_down","both_up","both_down","side_up","rowof_up","rowof_down","row_of","ahead_up","ahead_down","fold_up","if_up","if_down","let_up","let_down","reckoned_up","like_up","called_up","called_down","called","work_called","definition_called","part_met","left_met","definition_at","COMING_UP","GOING_DOWN","Shelf","refuse_names","_law_next","_law_number","_law_word","_law_kind","_law_likely","_law_likecore","_law_base","_law_core","_law_ended","_law_into","_law_compared","_law_stepped","_law_ran"]:List String).map Str.ofString
def seen(s:Shared):Bool:=xlAt view [] s&&recOk (PySem.Challenge.rw_twomeet_k06_run_to_the_end).row.toRowW.records s
noncomputable def _root_.PySem.W.Fast.tw803248717891846368:Program:=PySem.Challenge.pw_twomeet_k06_run_to_the_end
theorem _root_.PySem.W.Fast.te803248717891846368:PySem.Challenge.pw_twomeet_k06_run_to_the_end=PySem.W.Fast.tw803248717891846368:=rfl
def yJ(s:Shared):=openSeen view loose (importedModules pw.main.body) seen true s
def yT(s:Shared):=as.map s.heap.get?
def obs(s:Shared):=(yJ s,yT s)
theorem both{o:Option Shared}{a:_}{b:_}(h1:o.map yJ=some a)(h2:o.map yT=some b):o.map obs=some (a,b):=by
 cases o with
 |none=>cases h1
 |some s=>cases h1;cases h2;rfl
def Bv(w:World):=pN pw 12000 yJ (w.withFollow "special-get-raises" false)
theorem Eg:Bv=Bv:=rfl
name_quick runF1_K06G for K06G.Bv by K06G.Eg
theorem Kc(w:World):(openEnds treeTable pw (w.withFollow "special-get-raises" false) 12000).map yJ=some (openGood view loose):=qg ((congrFun PySem.W.Fast.runF1_K06G_eq w).trans (by kernel_rfl))
def Bx(w:World):=pN pw 12000 yT (w.withFollow "special-get-raises" false)
theorem EN:Bx=Bx:=rfl
name_quick runF2_K06G for K06G.Bx by K06G.EN
theorem Lk(w:World):(openEnds treeTable pw (w.withFollow "special-get-raises" false) 12000).map yT=some (Hook.val H (w.withFollow "special-get-raises" false)):=qg ((congrFun PySem.W.Fast.runF2_K06G_eq w).trans (by kernel_rfl))
theorem Ou(w:World):(openEnds treeTable pw (w.withFollow "special-get-raises" false) 12000).map obs=some (openGood view loose,Hook.val H (w.withFollow "special-get-raises" false)):=both (Kc w) (Lk w)
def A3(w:World):=pN pw 12000 yJ (w.withFollow "special-get-raises" true)
theorem DF:A3=A3:=rfl
name_quick runT1_K06G for K06G.A3 by K06G.DF
theorem KJ(w:World):(openEnds treeTable pw (w.withFollow "special-get-raises" true) 12000).map yJ=some (openGood view loose):=qg ((congrFun PySem.W.Fast.runT1_K06G_eq w).trans (by kernel_rfl))
def z8(w:World):=pN pw 12000 yT (w.withFollow "special-get-raises" true)
theorem EJ:z8=z8:=rfl
name_quick runT2_K06G for K06G.z8 by K06G.EJ
theorem Mr(w:World):(openEnds treeTable pw (w.withFollow "special-get-raises" true) 12000).map yT=some (Hook.val H (w.withFollow "special-get-raises" true)):=qg ((congrFun PySem.W.Fast.runT2_K06G_eq w).trans (by kernel_rfl))
theorem Oi(w:World):(openEnds treeTable pw (w.withFollow "special-get-raises" true) 12000).map obs=some (openGood view loose,Hook.val H (w.withFollow "special-get-raises" true)):=both (KJ w) (Mr w)
theorem left:LeftO pw view loose seen (Hook.obs H) (Hook.val H) 12000:=byRow2 "special-get-raises" (P:=fun w=>(openEnds treeTable pw w 12000).map obs=some (openGood view loose,Hook.val H w)) Ou Oi
section
variable (P:Params)
theorem l0:(K P).lookup 302=some K7:=by kernel_rfl
theorem l1:(K P).lookup 309=some LK:=by kernel_rfl
theorem l2:(K P).lookup 316=some LY:=by kernel_rfl
theorem l3:(K P).lookup 323=some K8:=by kernel_rfl
theorem l4:(K P).lookup 330=some IS:=by kernel_rfl
theorem l6:(K P).lookup 337=some KN:=by kernel_rfl
theorem l7:(K P).lookup 344=some KD:=by kernel_rfl
theorem l8:(K P).lookup 351=some KR:=by kernel_rfl
theorem TZ:(K P).lookup 402=some Mp:=by kernel_rfl
theorem TH:(K P).lookup 409=some IK:=by kernel_rfl
theorem TM:(K P).lookup 416=some Ls:=by kernel_rfl
theorem Sw:(K P).lookup 423=some Lf:=by kernel_rfl
theorem Ti:(K P).lookup 430=some Ml:=by kernel_rfl
theorem SQ:(K P).lookup 437=some JE:=by kernel_rfl
theorem Tu:(K P).lookup 444=some K6:=by kernel_rfl
theorem TU:(K P).lookup 451=some Ln:=by kernel_rfl
theorem TL:(K P).lookup 458=some KA:=by kernel_rfl
theorem SA:(K P).lookup 465=some Kz:=by kernel_rfl
theorem Tv:(K P).lookup 475=some I0:=by kernel_rfl
theorem TY:(K P).lookup 482=some Ma:=by kernel_rfl
theorem SU:(K P).lookup 496=some Mi:=by kernel_rfl
theorem Ss:(K P).lookup 503=some Jq:=by kernel_rfl
theorem S9:(K P).lookup 510=some LO:=by kernel_rfl
theorem SI:(K P).lookup 517=some Jx:=by kernel_rfl
theorem SY:(K P).lookup 524=some LZ:=by kernel_rfl
theorem SS:(K P).lookup 531=some Mu:=by kernel_rfl
theorem Su:(K P).lookup 538=some Ju:=by kernel_rfl
theorem TQ:(K P).lookup 552=some Jc:=by kernel_rfl
theorem TC:(K P).lookup 832=some LX:=by kernel_rfl
theorem TB:(K P).lookup 888=some II:=by kernel_rfl
theorem SV:(K P).lookup 895=some Jt:=by kernel_rfl
theorem SO:(K P).lookup 907=some JD:=by kernel_rfl
theorem SG:(K P).lookup 912=some Kv:=by kernel_rfl
theorem Sv:(K P).lookup 919=some Jy:=by kernel_rfl
theorem Sx:(K P).lookup 926=some Jj:=by kernel_rfl
theorem TJ:(K P).lookup 931=some LW:=by kernel_rfl
theorem Te:(K P).lookup 936=some Mh:=by kernel_rfl
theorem SN:(K P).lookup 941=some JV:=by kernel_rfl
theorem S4:(K P).lookup 948=some Ms:=by kernel_rfl
theorem SW:(K P).lookup 955=some Jf:=by kernel_rfl
theorem TX:(K P).lookup 962=some KH:=by kernel_rfl
theorem TV:(K P).lookup 969=some Lq:=by kernel_rfl
theorem Ko:(K P).lookup 468=some Jw:=by kernel_rfl
theorem xG:(K P).lookup 467=some JM:=by kernel_rfl
theorem se:(K P).lookup 295=some LF:=by kernel_rfl
theorem QD:(K P).lookup 395=some IC:=by kernel_rfl
theorem Fh:(K P).lookup 209=some ID:=by kernel_rfl
theorem GR:(K P).lookup 210=some Mf:=by kernel_rfl
theorem NP:(K P).lookup 394=some Jm:=by kernel_rfl
theorem zO:(K P).lookup 466=some (Kp P):=by kernel_rfl
theorem ui:(K P).lookup 329=some IP:=by kernel_rfl
theorem qw:(K P).lookup 350=some Kl:=by kernel_rfl
theorem PD:(K P).lookup 4=some o4:=by kernel_rfl
theorem cQ:GoodC (K P) 541:=by exact yW
theorem Ai:GoodC (K P) 870:=by exact yW
end
section
variable (P:Params)
theorem Ee:uI (K P) 87:=⟨⟨"Stray","Stray",86,[(.ref 31)],[(.ref 31),(.type "ValueError"),(.type "Exception"),(.type "BaseException"),(.type "object")],true,[],[],false,none,none,(some (.ref 78)),none,(some (.str "Stray" 271)),(some (.str "Stray" 279)),(some (.bool true)),by kernel_rfl,by decide+kernel,by decide+kernel,by decide+kernel,by decide+kernel⟩,by kernel_rfl,by kernel_rfl⟩
theorem D1:XC (K P) 87:=⟨⟨⟨"Stray",[(.ref 31)],[(.ref 87),(.ref 31),(.type "ValueError"),(.type "Exception"),(.type "BaseException"),(.type "object")],86,"Stray",true,[],[],false,none,false⟩,[31],by kernel_rfl,rfl,rfl⟩,by kernel_rfl,by kernel_rfl,by kernel_rfl⟩
end
section
variable (P:Params)
theorem AN:uI (K P) 99:=⟨⟨"TooLong","TooLong",98,[(.ref 31)],[(.ref 31),(.type "ValueError"),(.type "Exception"),(.type "BaseException"),(.type "object")],true,[],[],false,none,none,(some (.ref 90)),none,(some (.str "TooLong" 287)),(some (.str "TooLong" 295)),(some (.bool true)),by kernel_rfl,by decide+kernel,by decide+kernel,by decide+kernel,by decide+kernel⟩,by kernel_rfl,by kernel_rfl⟩
theorem AA:XC (K P) 99:=⟨⟨⟨"TooLong",[(.ref 31)],[(.ref 99),(.ref 31),(.type "ValueError"),(.type "Exception"),(.type "BaseException"),(.type "object")],98,"TooLong",true,[],[],false,none,false⟩,[31],by kernel_rfl,rfl,rfl⟩,by kernel_rfl,by kernel_rfl,by kernel_rfl⟩
end
theorem RI:∀f N b fn,dY.lookup f=some (N,b,fn)->T[f]?=some fn:=by
 intro f N b fn e;rw[dE] at e;by_cases hz:f=5
 .subst hz;cases e;rfl
 .rw[show (f== 5)=false from j2.mpr hz] at e;rw[dE] at e;by_cases hz:f=9
  .subst hz;cases e;rfl
  .rw[show (f== 9)=false from j2.mpr hz] at e;cases e
theorem Tt:∀p,∀t∈tb,(K p).lookup t.P=none:=fun p=>by
 simp only[vF];exact⟨(by kernel_rfl),(by kernel_rfl),fun _ h=>nomatch h⟩
theorem Sr:∀p,∀t∈tb,∃c od sl vs,(K p).lookup c=some ⟨.type "code",od,.fields vs,sl⟩/\vs[11]?=some (.ref t.P):=fun p=>by
 simp only[vF];exact⟨⟨329,_,_,_,ui p,rfl⟩,⟨350,_,_,_,qw p,rfl⟩,fun _ h=>nomatch h⟩
theorem facts(w:World)(mg:Str->Option Value)(h:Heap)(KX:(K w.params).In h)(G:h.Ns mainGlobals mg):(∀d∈Ds,d.key≠.dY->∃g fd,jm (K w.params) mg tb d g fd)/\(∀x∈cL,mg x=none)/\(∀x w',cf.cons.lookup x=some w'->k9 (K w.params) mg x w')/\(∀x g,cf.nums.lookup x=some g->m9 (K w.params) mg x g)/\(∀c fs,cf.cV.lookup c=some fs->nu (K w.params) mg c fs)/\qV (K w.params) mg cf:=by
 have ea:=fun {P:Addr->Option Bool}{cs:List Tw.S} k=>each (cV:=cV) (es:=S6) (P:=P) (cs:=cs) KX G rfl (by kernel_rfl) k;refine⟨?D,?B,?C,?N,?X,?E,?H,?I⟩
 case E=>
  refine lp (Dj (C:=87) KX G (D1 _)) ?_;refine lp (Dj (C:=99) KX G (AA _)) ?_;exact wO
 case H=>
  refine mem_cons ⟨31,eh KX G (by kernel_rfl),ea (by kernel_rfl)⟩ ?_;exact yX
 case I=>
  refine mem_cons (.inr (.inl ⟨rfl,jQ KX G (by kernel_rfl),ea (by kernel_rfl)⟩)) ?_;refine mem_cons (.inl ⟨_,51,rfl,eh KX G (by kernel_rfl),ea (by kernel_rfl)⟩) ?_;refine mem_cons (.inl ⟨_,99,rfl,eh KX G (by kernel_rfl),ea (by kernel_rfl)⟩) ?_;refine mem_cons (.inl ⟨_,87,rfl,eh KX G (by kernel_rfl),ea (by kernel_rfl)⟩) ?_;exact yX
 case X=>
  refine lp (yp (C:=87) KX G (Ee _)) ?_;refine lp (yp (C:=99) KX G (AN _)) ?_;exact wO
 case N=>
  refine eU (Lz (t:=466) KX G (by kernel_rfl) (zO _) ⟨rfl,rfl,rfl⟩ rfl (by kernel_rfl)) ?_;exact vW
 case C=>
  refine eU (tF (t:=468) (zs:=[([110,117,109,98,101,114],860),([121,101,115],861),([110,111],862),([110,111,110,101],863),([102,117,110],864),([98,111,116,104],865),([109,111,114,101],866),([108,105,107,101,112,97,105,114],867),([108,105,107,101,114,111,119],868),([101,110,100],869)]) KX G (by kernel_rfl) (Ko _) (by decide) rfl) ?_;refine eU (tF (t:=467) (zs:=[([108,105,107,101],856),([108,105,107,101,112,97,105,114],857),([108,105,107,101,114,111,119],858)]) KX G (by kernel_rfl) (xG _) (by decide) rfl) ?_;refine eU (tF (t:=295) (zs:=[([99,97,108,108],570),([98,111,116,104],571),([108,101,102,116],572),([114,105,103,104,116],573),([109,111,114,101],574),([102,111,108,100],575),([105,102],576),([115,117,109],577),([108,101,115,115],578),([108,105,107,101,112,97,105,114],579),([108,105,107,101,114,111,119],580)]) KX G (by kernel_rfl) (se _) (by decide) rfl) ?_;refine eU (sj (t:=395) (z:=[110,111]) KX G (by kernel_rfl) (QD _) rfl) ?_;refine eU (sj (t:=209) (z:=[110,117,109,98,101,114]) KX G (by kernel_rfl) (Fh _) rfl) ?_;refine eU (sj (t:=210) (z:=[116,114,117,116,104]) KX G (by kernel_rfl) (GR _) rfl) ?_;refine eU (sj (t:=394) (z:=[121,101,115]) KX G (by kernel_rfl) (NP _) rfl) ?_;exact vW
 case D=>
  show ∀d∈ [d0,d1,d2,d3,d4,d5,d6,d7,d8,d9,OI,Pq,OS,PF,Qe,Qf,O6,PB,O7,Pm,Pw,PN,PC,Qi,Pr,P1,Qa,O5,Px,Pz,Pj,PJ,Pu,PK,P6,OW,Py,Qc,Pf,OY,PQ,OM,P0,PR],_;simp only[vF];refine⟨?_,?_,?_,?_,?_,?_,?_,?_,?_,?_,?_,?_,?_,?_,?_,?_,?_,?_,?_,?_,?_,?_,?_,?_,?_,?_,?_,?_,?_,?_,?_,?_,?_,?_,?_,?_,?_,?_,?_,?_,?_,?_,?_,?_,fun _ h=>nomatch h⟩
  .exact fun _=>bB (f:=302) KX G (l0 _) (fun _ _ _ _ _ _=>iP (fun _=>rfl))
  .exact fun _=>bB (f:=309) KX G (l1 _) (fun _ _ _ _ _ _=>nO (fun _ _=>rfl))
  .exact fun _=>bB (f:=316) KX G (l2 _) (fun _ _ _ _ _ _=>nL (fun _ _ _=>rfl))
  .exact fun _=>bB (f:=323) KX G (l3 _) (fun _ _ _ _ _ _=>nO (fun _ _=>rfl))
  .exact fun _=>FV (f:=330) (c:=329) (P:=325) (bm:=4) KX G (by kernel_rfl) (l4 _) (by kernel_rfl) (by kernel_rfl) (fun _ _ _ _ _ _=>nO (fun _ _=>rfl)) (ui _) rfl rfl rfl rfl rfl (by decide) (.head _) (by intro t ht;rcases fH.mp ht with rfl|ht;exact fun _=>rfl;rcases fH.mp ht with rfl|ht;exact fun h=>absurd h (by decide);exact nomatch ht) (by kernel_rfl) (by decide) (by decide) (PD _)
  .exact fun h=>absurd rfl h
  .exact fun _=>bB (f:=337) KX G (l6 _) (fun _ _ _ _ _ _=>iP (fun _=>rfl))
  .exact fun _=>bB (f:=344) KX G (l7 _) (fun _ _ _ _ _ _=>iP (fun _=>rfl))
  .exact fun _=>FV (f:=351) (c:=350) (P:=346) (bm:=4) KX G (by kernel_rfl) (l8 _) (by kernel_rfl) (by kernel_rfl) (fun _ _ _ _ _ _=>iP (fun _=>rfl)) (qw _) rfl rfl rfl rfl rfl (by decide) (.tail _ (.head _)) (by intro t ht;rcases fH.mp ht with rfl|ht;exact fun h=>absurd h (by decide);rcases fH.mp ht with rfl|ht;exact fun _=>rfl;exact nomatch ht) (by kernel_rfl) (by decide) (by decide) (PD _)
  .exact fun h=>absurd rfl h
  .exact fun _=>bB (f:=402) KX G (TZ _) (fun _ _ _ _ _ _=>nO (fun _ _=>rfl))
  .exact fun _=>bB (f:=409) KX G (TH _) (fun _ _ _ _ _ _=>iP (fun _=>rfl))
  .exact fun _=>bB (f:=416) KX G (TM _) (fun _ _ _ _ _ _=>nO (fun _ _=>rfl))
  .exact fun _=>bB (f:=423) KX G (Sw _) (fun _ _ _ _ _ _=>nO (fun _ _=>rfl))
  .exact fun _=>bB (f:=430) KX G (Ti _) (fun _ _ _ _ _ _=>iP (fun _=>rfl))
  .exact fun _=>bB (f:=437) KX G (SQ _) (fun _ _ _ _ _ _=>nL (fun _ _ _=>rfl))
  .exact fun _=>bB (f:=444) KX G (Tu _) (fun _ _ _ _ _ _=>nL (fun _ _ _=>rfl))
  .exact fun _=>bB (f:=451) KX G (TU _) (fun _ _ _ _ _ _=>nL (fun _ _ _=>rfl))
  .exact fun _=>bB (f:=458) KX G (TL _) (fun _ _ _ _ _ _=>nL (fun _ _ _=>rfl))
  .exact fun _=>bB (f:=465) KX G (SA _) (fun _ _ _ _ _ _=>nL (fun _ _ _=>rfl))
  .exact fun _=>bB (f:=475) KX G (Tv _) (fun _ _ _ _ _ _=>iP (fun _=>rfl))
  .exact fun _=>bB (f:=482) KX G (TY _) (fun _ _ _ _ _ _=>nL (fun _ _ _=>rfl))
  .exact fun _=>zE (f:=496) (C:=541) KX G (SU _) (cQ _) (fun _ _ _ _ _ _=>nO (fun _ _=>rfl))
  .exact fun _=>pQ (f:=503) (C:=541) KX G (Ss _) (cQ _) (fun _ _ _ _ _ _=>iP (fun _=>rfl))
  .exact fun _=>pQ (f:=510) (C:=541) KX G (S9 _) (cQ _) (fun _ _ _ _ _ _=>iP (fun _=>rfl))
  .exact fun _=>pQ (f:=517) (C:=541) KX G (SI _) (cQ _) (fun _ _ _ _ _ _=>iP (fun _=>rfl))
  .exact fun _=>pQ (f:=524) (C:=541) KX G (SY _) (cQ _) (fun _ _ _ _ _ _=>iP (fun _=>rfl))
  .exact fun _=>pQ (f:=531) (C:=541) KX G (SS _) (cQ _) (fun _ _ _ _ _ _=>nO (fun _ _=>rfl))
  .exact fun _=>pQ (f:=538) (C:=541) KX G (Su _) (cQ _) (fun _ _ _ _ _ _=>iP (fun _=>rfl))
  .exact fun _=>bB (f:=552) KX G (TQ _) (fun _ _ _ _ _ _=>nL (fun _ _ _=>rfl))
  .exact fun _=>zE (f:=832) (C:=870) KX G (TC _) (Ai _) (fun _ _ _ _ _ _=>iP (fun _=>rfl))
  .exact fun _=>bB (f:=888) KX G (TB _) (fun _ _ _ _ _ _=>nO (fun _ _=>rfl))
  .exact fun _=>bB (f:=895) KX G (SV _) (fun _ _ _ _ _ _=>iP (fun _=>rfl))
  .exact fun _=>bB (f:=907) KX G (SO _) (fun _ _ _ _ _ _=>nL (fun _ _ _=>rfl))
  .exact fun _=>bB (f:=912) KX G (SG _) (fun _ _ _ _ _ _=>iP (fun _=>rfl))
  .exact fun _=>bB (f:=919) KX G (Sv _) (fun _ _ _ _ _ _=>nO (fun _ _=>rfl))
  .exact fun _=>bB (f:=926) KX G (Sx _) (fun _ _ _ _ _ _=>O3 (fun _ _ _ _=>rfl))
  .exact fun _=>bB (f:=931) KX G (TJ _) (fun _ _ _ _ _ _=>O3 (fun _ _ _ _=>rfl))
  .exact fun _=>bB (f:=936) KX G (Te _) (fun _ _ _ _ _ _=>iP (fun _=>rfl))
  .exact fun _=>bB (f:=941) KX G (SN _) (fun _ _ _ _ _ _=>nL (fun _ _ _=>rfl))
  .exact fun _=>bB (f:=948) KX G (S4 _) (fun _ _ _ _ _ _=>nL (fun _ _ _=>rfl))
  .exact fun _=>bB (f:=955) KX G (SW _) (fun _ _ _ _ _ _=>iP (fun _=>rfl))
  .exact fun _=>bB (f:=962) KX G (TX _) (fun _ _ _ _ _ _=>nO (fun _ _=>rfl))
  .exact fun _=>bB (f:=969) KX G (TV _) (fun _ _ _ _ _ _=>iP (fun _=>rfl))
 case B=>
  exact Kq KX G
theorem walk{l:OpenLaw}{q:Program}{lo:List Str}{XP:(Str->Option Value)->Heap->Prop}{YP:World->Heap->Prop}{d:DefRec}(hn:l.most=some 63)(hdf:d.params.defaults=[])(hY:∀(w:World)(h:Heap),YP w h->(KF w.params).In h)(hd:d.name= "law"):WalkO q lo XP YP l.row.toRowW d [] (fun f vs=>PySem.call f vs):=
 En (T:=T) (Ds:=Ds) (cf:=cf) (dY:=dY) (tb:=tb) (K:=K) (KF:=KF) (i:=43) (k:=667) (by decide) rfl rfl rfl TF RI rfl hn hdf hY (fun _=>rfl) Tt Sr hd facts (by exact⟨rfl,by decide,by decide⟩) fun ns hl=>CQ ns
end K06G
open PySem PySem.W PyProof.Rows
set_option maxRecDepth 100000 in
set_option maxHeartbeats 0 in
theorem PySem.Challenge.cw_twomeet_k06_run_to_the_end_holds : PySem.Challenge.rw_twomeet_k06_run_to_the_end.Holds := by
 w_on;o_law
 refine holds_open (q:=K06G.view) (loose:=K06G.loose) (Xt:=K06G.seen) (XP:=XL K06G.view []) (Yf:=Hook.obs K06G.H) (Ya:=Hook.val K06G.H) (YP:=Hook.says K06G.H) (N:=12000) K06G.left (Hook.of K06G.H) (Hook.keeps K06G.H) (fun s e=>xl_of s (zI.mp e).1) XL.keeps (by rfl) (by rfl) (by rfl) (fun s e=>recFacts_of (zI.mp e).2) (by rfl) (by assumption) (by decide+kernel) ⟨rfl,rfl,rfl,rfl,rfl,by decide+kernel⟩ ?hw ?hc
 case hw=>w_witness2
 exact K06G.walk (l:=PySem.Challenge.rw_twomeet_k06_run_to_the_end) rfl rfl (fun w h Y=>kIn_of Y) rfl

