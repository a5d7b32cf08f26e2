import PyProof.Rows.All
import PyProof.TableCode
import PyProof.DefCall
import KE.KRevIter
import KE.KNest
import Wide.All
import OpenK.AllK
import Wide.FinOn
import Lean
import PyProof.EqAt
import PyProof.EqKinds
import PyProof.TupleCall
import PySem.Challenge.RW_twomeet_k05_steps_of_cores
set_option Elab.async false
set_option genSizeOf false
set_option genInjectivity false
set_option linter.all false
set_option maxRecDepth 100000
set_option maxHeartbeats 4000000
set_option compiler.extract_closed false
noncomputable section
abbrev aO:=PySem.Value->PySem.Shared->Prop
abbrev aE:=List (PySem.Addr×PySem.Obj)
abbrev dW:=@And.intro
abbrev E9:=@Array.getElem?_eq_some_iff
abbrev Ik:=@Array.length_toList
abbrev ao:=@Bool.and_eq_true
abbrev xp:=@Bool.and_eq_true_iff
abbrev xE:=@Bool.and_false
abbrev B7:=@Bool.beq_eq_decide_eq
abbrev pM:=@Bool.false_eq_true
abbrev j0:=@Bool.false_ne_true
abbrev xV:=@Bool.not_eq_true
abbrev gZ:=@Bool.not_eq_true'
abbrev wz:=@Bool.or_eq_true
abbrev CD:=@PySem.Calls.callWith_builtin
abbrev C6:=@PySem.Calls.spliced_cons
abbrev D0:=@PySem.Heap.SameBut.update
abbrev bM:=@PySem.Heap.get?_push_of_some
abbrev fN:=@PySem.Heap.get?_push_size
abbrev mX:=@PySem.Heap.get?_update_other
abbrev rY:=@PySem.Heap.get?_update_self
abbrev bw:=@PySem.Heap.lt_size
abbrev rZ:=@PySem.Heap.size_push
abbrev jU:=@List.all_cons
abbrev jP:=@List.all_eq_true
abbrev eX:=@List.append_nil
abbrev yS:=@List.contains_eq_mem
abbrev CG:=@List.contains_iff_mem
abbrev rU:=@List.filterMap_cons
abbrev uv:=@List.forall_mem_cons
abbrev e9:=@List.getElem?_append_left
abbrev lQ:=@List.getElem?_append_right
abbrev kH:=@List.getElem?_eq_getElem
abbrev uO:=@List.getElem?_eq_none
abbrev y9:=@List.getElem?_eq_none_iff
abbrev fH:=@List.getElem?_eq_some_iff
abbrev kO:=@List.getElem?_map
abbrev zd:=@List.getElem?_replicate
abbrev i7:=@List.getElem?_set_ne
abbrev i5:=@List.getElem?_set_self
abbrev DV:=@List.getElem?_take_of_lt
abbrev vH:=@List.getElem_mem
abbrev Av:=@List.isEmpty_iff
abbrev kQ:=@List.length_append
abbrev fZ:=@List.length_cons
abbrev zW:=@List.length_drop
abbrev iG:=@List.length_map
abbrev Dz:=@List.length_replicate
abbrev wu:=@List.length_set
abbrev nO:=@List.length_take
abbrev di:=@List.lookup_cons
abbrev gz:=@List.map_cons
abbrev zJ:=@List.map_nil
abbrev sm:=@List.mem_append
abbrev zV:=@List.mem_append_left
abbrev fq:=@List.mem_append_right
abbrev eZ:=@List.mem_cons
abbrev iY:=@List.mem_cons_of_mem
abbrev n8:=@List.mem_cons_self
abbrev r9:=@List.mem_filter
abbrev nQ:=@List.mem_map
abbrev vc:=@List.mem_of_getElem?
abbrev kJ:=@List.mem_singleton
abbrev zm:=@List.nodup_cons
abbrev Aq:=@List.of_mem_zip
abbrev yY:=@List.reverse_cons
abbrev cF:=@List.size_toArray
abbrev Cq:=@Nat.add_eq_zero_iff
abbrev zj:=@Nat.add_sub_cancel
abbrev mQ:=@Nat.le_max_left
abbrev lY:=@Nat.le_max_right
abbrev z7:=@Nat.le_of_eq
abbrev Ae:=@Nat.le_of_lt
abbrev aA:=@Nat.le_refl
abbrev rM:=@Nat.le_succ
abbrev bG:=@Nat.le_trans
abbrev pX:=@Nat.lt_irrefl
abbrev bT:=@Nat.lt_of_lt_of_le
abbrev rN:=@Nat.lt_or_ge
abbrev vD:=@Nat.lt_succ_self
abbrev mK:=@Nat.ne_of_gt
abbrev cV:=@Nat.ne_of_lt
abbrev i6:=@Nat.not_lt
abbrev zO:=@Nat.pow_le_pow_right
abbrev zE:=@Nat.pow_succ
abbrev Ao:=@Nat.succ.inj
abbrev zf:=@Nat.succ_le_succ
abbrev bu:=@Nat.zero_le
abbrev aX:=@Ne.symm
abbrev p7:=@PySem.Obj.data_mapFields
abbrev wx:=@PySem.Obj.isFreed_of_fields
abbrev kG:=@Option.bind_eq_some_iff
abbrev si:=@Option.bind_some
abbrev sx:=@Option.isNone_iff_eq_none
abbrev CT:=@Option.isSome_iff_exists
abbrev sj:=@Option.map_eq_some_iff
abbrev j1:=@Option.some.inj
abbrev D5:=@PyProof.Rows.boot_isinstance
abbrev zD:=@PyProof.Rows.callWith_type1
abbrev D1:=@PyProof.Rows.slot_tuple_getitem
abbrev CA:=@PySem.F.args_tuple_add_2
abbrev DF:=@PySem.F.entry_tuple_add
abbrev zo:=@PySem.F.plainAttrs_list
abbrev Au:=@PySem.F.slot_tuple_add
abbrev oC:=@PySem.W.callWith_K
abbrev zF:=@PySem.W.hideAll_none
abbrev fO:=@PySem.W.kia_one
abbrev tY:=@PySem.W.looks_findIn
abbrev kz:=@PySem.W.mg_none_of
abbrev jv:=@PySem.W.mg_of
abbrev yR:=@PySem.W.plainGet_of
abbrev gX:=@PySem.mem_of_lookup
abbrev lL:=@True.intro
abbrev jq:=@beq_eq_false_iff_ne
abbrev gS:=@beq_iff_eq
abbrev ua:=@PySem.builtinLookup_eq_fast
abbrev oF:=@PySem.codeAny_mono
abbrev cR:=@congrArg
abbrev aY:=@decide_eq_false
abbrev bU:=@decide_eq_true
abbrev ax:=@decide_eq_true_eq
abbrev dq:=@if_false
abbrev fg:=@if_true
abbrev tW:=@PySem.isSubtype_type
abbrev yL:=@PySem.noFill_tuple_add
abbrev zz:=@of_decide_eq_true
abbrev gu:=@PySem.sizeLine_eq
abbrev z8:=@PySem.slot_dict_getitem
abbrev uc:=@PySem.typeLookup_type
abbrev kr:=@PySem.wpAny_Call_Name_kw
abbrev zt:=@PySem.wpAny_Return_some
abbrev qC:=@PySem.wpAny_attempt
abbrev ag:=@PySem.wpAny_bind
abbrev kB:=@PySem.wpAny_call
abbrev tS:=@PySem.wpAny_callSpecial?_slot
abbrev qt:=@PySem.wpAny_call_entry
abbrev qO:=@PySem.wpAny_execs_cons
abbrev oR:=@PySem.wpAny_execs_nil
abbrev gx:=@PySem.wpAny_field
abbrev jB:=@PySem.wpAny_holding
abbrev rF:=@PySem.wpAny_isSubtype_exc
abbrev jC:=@PySem.wpAny_loadPart_at
abbrev iK:=@PySem.wpAny_mono
abbrev jn:=@PySem.wpAny_newObj_type
abbrev kx:=@PySem.wpAny_of_eq
abbrev lU:=@PySem.wpAny_passesOwn
abbrev aC:=@PySem.wpAny_pure
abbrev ot:=@PySem.wpAny_setField
abbrev qU:=@PySem.wpAny_standAt
abbrev uf:=@PySem.wpAny_truthy_bool
theorem Exists.g{α:Sort u}{p:α->Prop}{b:Prop}(h:∃x,p x)(k:∀a,p a->b):b:=Exists.elim h k
theorem And.g{a b c:Prop}(h:a/\b)(k:a->b->c):c:=k h.1 h.2
theorem Exists.g4{α:Sort u}{β:Sort v}{p q s:α->β->Prop}{r:Prop}(h:∃a b,p a b/\q a b/\s a b)(k:∀a b,p a b->q a b->s a b->r):r:=h.elim fun a h=>h.elim fun b h=>k a b h.1 h.2.1 h.2.2
theorem Exists.g6{α:Sort u}{β:Sort v}{γ:Sort w}{p q s t:α->β->γ->Prop}{r:Prop}(h:∃a b c,p a b c/\q a b c/\s a b c/\t a b c)(k:∀a b c,p a b c->q a b c->s a b c->t a b c->r):r:=h.elim fun a h=>h.elim fun b h=>h.elim fun c h=>k a b c h.1 h.2.1 h.2.2.1 h.2.2.2
theorem Exists.k1{α:Type}{p q:α->Prop}{r:Prop}(h:∃a,p a/\q a)(f:∀a,p a->q a->r):r:=h.elim fun a u=>f a u.1 u.2
theorem Exists.k2{α β:Type}{p q s:α->β->Prop}{r:Prop}(h:∃a b,p a b/\q a b/\s a b)(f:∀a b,p a b->q a b->s a b->r):r:=h.elim fun a u=>u.elim fun b u=>f a b u.1 u.2.1 u.2.2
theorem Exists.k3{α β γ:Type}{p q:α->β->γ->Prop}{r:Prop}(h:∃a b c,p a b c/\q a b c)(f:∀a b c,p a b c->q a b c->r):r:=h.elim fun a u=>u.elim fun b u=>u.elim fun c u=>f a b c u.1 u.2
theorem Exists.k4{α β γ:Type}{p q s t:α->β->γ->Prop}{r:Prop}(h:∃a b c,p a b c/\q a b c/\s a b c/\t a b c)(f:∀a b c,p a b c->q a b c->s a b c->t a b c->r):r:=h.elim fun a u=>u.elim fun b u=>u.elim fun c u=>f a b c u.1 u.2.1 u.2.2.1 u.2.2.2
namespace L2
open PySem PySem.Spec PyProof.Rows
noncomputable abbrev Key:=Sum Int Str
noncomputable def EN:Key->Value->Bool
 |.inl k,v=>Value.isInt k v
 |.inr x,v=>Value.isStrOf x v
def PH(w:World):Key->Int
 |.inl k=>hashInt k
 |.inr x=>hashStr w x
theorem cI:∀{k:Key}{v:Value},EN k v=true->(∃i t,k=Sum.inl i/\v=Value.int i t)\/(∃x t,k=Sum.inr x/\v=Value.str x t)
 |.inl i,v,h=>by
  obtain⟨t,e⟩:=Value.isInt_shape (k:=i) (v:=v) h;exact .inl ⟨i,t,rfl,e⟩
 |.inr x,v,h=>by
  obtain⟨t,e⟩:=Value.isStrOf_shape (x:=x) (v:=v) h;exact .inr ⟨x,t,rfl,e⟩
theorem Ie(a b:Int):decide ((Sum.inl a:Key)=Sum.inl b)=(a== b):=by
 by_cases e:a=b
 .subst e;simp
 .have h:¬ (Sum.inl a:Key)=Sum.inl b:=fun q=>e (Sum.inl.inj q);rw[aY h];exact (jq.mpr e).symm
theorem IF(a b:Str):decide ((Sum.inr a:Key)=Sum.inr b)=decide (a=b):=by
 by_cases e:a=b
 .subst e;simp
 .have h:¬ (Sum.inr a:Key)=Sum.inr b:=fun q=>e (Sum.inr.inj q);rw[aY h,aY e]
theorem H8(a:Int)(b:Str):decide ((Sum.inl a:Key)=Sum.inr b)=false:=aY (fun q=>nomatch q)
theorem Iw(a:Str)(b:Int):decide ((Sum.inr a:Key)=Sum.inl b)=false:=aY (fun q=>nomatch q)
def sC(prog:Program)(w:World):PySem.KeyKind prog w Key where
 is:=EN
 hash:=PH w
 inj:=fun v a b ha hb=>by
  rcases cI ha with ⟨i,t,rfl,rfl⟩|⟨x,t,rfl,rfl⟩
  .rcases cI hb with ⟨j,u,rfl,e⟩|⟨y,u,rfl,e⟩
   .injection e with e1 _;rw[e1]
   .exact nomatch e
  .rcases cI hb with ⟨j,u,rfl,e⟩|⟨y,u,rfl,e⟩
   .exact nomatch e
   .injection e with e1 _;rw[e1]
 byValue:=fun k v h=>by
  rcases cI h with ⟨i,t,rfl,rfl⟩|⟨x,t,rfl,rfl⟩<;>rfl
 pyHash:=fun hv h=>by
  rcases cI hv with ⟨i,t,rfl,rfl⟩|⟨x,t,rfl,rfl⟩
  .exact wpAny_pyHash_int h
  .exact wpAny_pyHash_str h
 eqBool:=fun hu hv h=>by
  rcases cI hu with ⟨i,t,rfl,rfl⟩|⟨x,t,rfl,rfl⟩
  .rcases cI hv with ⟨j,u,rfl,rfl⟩|⟨y,u,rfl,rfl⟩
   .rw[Ie] at h;exact wpAny_eqBool_int h
   .rw[H8] at h;exact SeqAt.EqAt.int_str i t y u _ _ _ _ h
  .rcases cI hv with ⟨j,u,rfl,rfl⟩|⟨y,u,rfl,rfl⟩
   .rw[Iw] at h;exact SeqAt.EqAt.str_int x t j u _ _ _ _ h
   .rw[IF] at h;exact wpAny_eqBool_str h
 «strs» := fun k x t v h=>by
  rcases cI h with ⟨i,u,rfl,e⟩|⟨y,u,rfl,e⟩
  .exact nomatch e
  .injection e with e1 _;subst e1;cases v<;>rfl
inductive V where
 |ah|bl (b:Bool)|int (i:Int)|str (x:Str)|byt (b:Array UInt8)|flt (b:UInt64)|ref (a:Addr)|ty (n:String)
 deriving DecidableEq
noncomputable def RelV:V->Value->Prop
 |.ah,u=>u=Value.none
 |.bl b,u=>u=Value.bool b
 |.int i,u=>∃t,u=Value.int i t
 |.str x,u=>∃t,u=Value.str x t
 |.byt b,u=>∃t,u=Value.bytes b t
 |.flt b,u=>∃t,u=Value.float b t
 |.ref a,u=>u=Value.ref a
 |.ty n,u=>u=Value.type n
abbrev Vals:List V->List Value->Prop:=Paired RelV
theorem Vals.length{xs:List V}{us:List Value}(r:Vals xs us):xs.length=us.length:=Paired.length r
theorem Vals.get:∀{xs:List V}{us:List Value}{i:Nat}{x:V},Vals xs us->xs[i]?=some x->∃u,us[i]?=some u/\RelV x u
 |_,_,_,_,.nil,e=>by simp at e
 |_,_,0,_,.cons r _,e=>by simp at e;subst e;exact⟨_,rfl,r⟩
 |_,_,i+1,x,.cons _ t,e=>by
  obtain⟨u,h1,h2⟩:=Vals.get (i:=i) (x:=x) t (by simpa using e);exact⟨u,by simpa using h1,h2⟩
theorem Vals.set{x:V}{u:Value}(r:RelV x u):∀{xs:List V}{us:List Value}(i:Nat),Vals xs us->Vals (xs.set i x) (us.set i u)
 |_,_,_,.nil=>.nil
 |_,_,0,.cons _ t=>.cons r t
 |_,_,i+1,.cons q t=>.cons q (Vals.set r i t)
theorem Vals.append:∀{xs ys:List V}{us ws:List Value},Vals xs us->Vals ys ws->Vals (xs++ys) (us++ws)
 |_,_,_,_,.nil,s=>s
 |_,_,_,_,.cons r t,s=>.cons r (Vals.append t s)
theorem Vals.take:∀{xs:List V}{us:List Value}(n:Nat),Vals xs us->Vals (xs.take n) (us.take n)
 |_,_,0,_=>.nil
 |_,_,_+1,.nil=>.nil
 |_,_,n+1,.cons r t=>.cons r (Vals.take n t)
theorem Vals.drop:∀{xs:List V}{us:List Value}(n:Nat),Vals xs us->Vals (xs.drop n) (us.drop n)
 |_,_,0,r=>r
 |_,_,_+1,.nil=>.nil
 |_,_,n+1,.cons _ t=>Vals.drop n t
noncomputable def kM:Option V->Option Value->Prop
 |some v,some u=>RelV v u
 |none,none=>True
 |_,_=>False
def KV{κ:Type}:List (κ×V)->List (κ×Value)->Prop:=Paired fun (p:κ×V) (q:κ×Value)=>p.1=q.1/\RelV p.2 q.2
noncomputable def kV:Key->V
 |.inl i=>.int i
 |.inr x=>.str x
inductive HO where
 |lst (xs:List V)
 |tup (xs:List V)
 |dK (kvs:List (Key×V))|dT (kvs:List (List Key×V))
 |set (S:Int->Bool) (n:Nat)
 |ins (C dx:Addr) (fs:List (Str×V))
 |own (x:Addr)
 |xd (fs:List (Str×V))
 |met (f x:Addr)
 |ja (lo hi:Int)
 |aM (o:Obj) (u:HO)
 |dQ (ps:Array Value)
 |ext (φ:Heap->Prop)
noncomputable abbrev Hp:=Addr->Option HO
noncomputable def upd(H:Hp)(a:Addr)(o:HO):Hp:=fun b=>if b=a then some o else H b
theorem bI{H:Hp}{a:Addr}{o:HO}:upd H a o a=some o:=by unfold upd;rw[if_pos rfl]
theorem aD{H:Hp}{a b:Addr}{o:HO}(h:b≠a):upd H a o b=H b:=by unfold upd;rw[if_neg h]
theorem eQ{H:Hp}{a b:Addr}{o:HO}(h:H a=some o)(h':H b=none):a≠b:=by intro e;subst e;rw[h] at h';cases h'
section
variable (P:Program) (w:World)
def cj(H:Hp)(h:Heap)(a:Addr):HO->Prop
 |.lst xs=>xs.length<=sizeLine/\∃(its:List Value) (n:Nat),Vals xs its/\h.get? a=some {cls:=.type "list",data:=.seq its.toArray n}
 |.tup xs=>xs.length<=sizeLine/\∃its:List Value,Vals xs its/\IsTup h a its.toArray
 |.dK kvs=>kvs.length<=sizeLine/\(a== sysModules)=false/\∃vs,KV kvs vs/\h.DictOf (sC P w) a vs
 |.dT kvs=>kvs.length<=sizeLine/\(a== sysModules)=false/\∃xs:List (List Key×Addr×Value),
   Paired (fun (p:List Key×V) (q:List Key×Addr×Value)=>p.1=q.1/\H q.2.1=some (.tup (p.1.map kV))/\RelV p.2 q.2.2) kvs xs/\
   ∃o es ep,h.get? a=some o/\o.ExactDict/\o.data=.dict es ep/\es.toList=xs.map (entryOfKey (tupleKind (sC P w)))/\(xs.map (·.1)).Nodup
 |.set S n=>h.SetOf (intKind P w) a S n
 |.ins C dx fs=>H dx=some (.own a)/\fs.length<=1000/\dx≠a/\h.get? a=some (W.instObj C dx)/\
   ∃mA,h.Ns1 dx mA/\(∀f,kM (fs.lookup f) (mA f))/\PySem.Within mA (fs.map (·.1))
 |.own _=>∃o,h.get? a=some o
 |.xd fs=>∃mA,h.Ns1 a mA/\∀f,kM (fs.lookup f) (mA f)
 |.ja lo hi=>∃t u v,h.get? a=some {cls:=.type "range",data:=.fields #[.int lo t,.int hi u,.int 1 v]}
 |.aM o u=>h.get? a=some o/\cj H h a u
 |.dQ ps=>h.get? a=some {cls:=.none,data:=.fields ps}
 |.met f x=>h.get? a=some (W.methodObj (.ref f) (.ref x))
 |.ext φ=>φ h/\(∃o,h.get? a=some o)/\∀h1 h2:Heap,φ h1->(∀o,h1.get? a=some o->h2.get? a=some o)->φ h2
def dB(H:Hp)(h:Heap):Prop:=∀a o,H a=some o->cj P w H h a o
end
section
variable {P:Program}{w:World}{H H':Hp}{h h':Heap}{a:Addr}{o:HO}
theorem cj.lt(x:cj P w H h a o):a<h.objs.size:=by
 cases o with
 |lst xs=>obtain⟨_,_,_,_,e⟩:=x;exact bw e
 |tup xs=>obtain⟨_,_,_,p⟩:=x;exact p.lt
 |dK kvs=>obtain⟨_,_,_,_,o,_,_,e,_⟩:=x;exact bw e
 |dT kvs=>obtain⟨_,_,_,_,o,_,_,e,_⟩:=x;exact bw e
 |set S n=>obtain⟨o,_,_,_,e,_⟩:=x;exact bw e
 |ins C dx fs=>obtain⟨_,_,_,e,_⟩:=x;exact bw e
 |own y=>obtain⟨_,e⟩:=x;exact bw e
 |xd fs=>obtain⟨_,⟨_,_,_,e,_⟩,_⟩:=x;exact bw e
 |ja lo hi=>obtain⟨_,_,_,e⟩:=x;exact bw e
 |aM ob u=>obtain⟨e,_⟩:=x;exact bw e
 |dQ ps=>exact bw (show h.get? a=some _ from x)
 |met f y=>exact bw (show h.get? a=some _ from x)
 |ext φ=>obtain⟨_,⟨_,e⟩,_⟩:=x;exact bw e
theorem Paired.Ks{α β:Type}{F G:α->β->Prop}:∀{l₁:List α}{l₂:List β},Paired F l₁ l₂->(∀a b,F a b->G a b)->Paired G l₁ l₂
 |_,_,.nil,_=>.nil
 |_,_,.cons r t,f=>.cons (f _ _ r) (Paired.Ks t f)
theorem cj.fG(x:cj P w H h a o)(k:∀b u,(b=a\/H b=some (.own a))->h.get? b=some u->h'.get? b=some u)
  (ho:∀b,H b=some (.own a)->H' b=some (.own a)) (ht:∀b xs,H b=some (.tup xs)->H' b=some (.tup xs)):cj P w H' h' a o:=by
 induction o with
 |lst xs=>obtain⟨z,its,n,r,e⟩:=x;exact⟨z,its,n,r,k _ _ (.inl rfl) e⟩
 |tup xs=>obtain⟨z,its,r,ob,e,c⟩:=x;exact⟨z,its,r,ob,k _ _ (.inl rfl) e,c⟩
 |dK kvs=>obtain⟨z,y,vs,r,ob,es,ep,e,c⟩:=x;exact⟨z,y,vs,r,ob,es,ep,k _ _ (.inl rfl) e,c⟩
 |dT kvs=>
  obtain⟨z,y,xs,r,ob,es,ep,e,c⟩:=x;exact⟨z,y,xs,Paired.Ks r fun p q z=>⟨z.1,ht _ _ z.2.1,z.2.2⟩,ob,es,ep,k _ _ (.inl rfl) e,c⟩
 |set S n=>obtain⟨ob,es,ep,t,e,c⟩:=x;exact⟨ob,es,ep,t,k _ _ (.inl rfl) e,c⟩
 |ins C dx fs=>
  obtain⟨d,z,ne,e,mA,⟨od,es,ep,e2,c⟩,r⟩:=x;exact⟨ho _ d,z,ne,k _ _ (.inl rfl) e,mA,⟨od,es,ep,k _ _ (.inr d) e2,c⟩,r⟩
 |own y=>obtain⟨ob,e⟩:=x;exact⟨ob,k _ _ (.inl rfl) e⟩
 |xd fs=>obtain⟨mA,⟨od,es,ep,e,c⟩,r⟩:=x;exact⟨mA,⟨od,es,ep,k _ _ (.inl rfl) e,c⟩,r⟩
 |ja lo hi=>obtain⟨t,u,v,e⟩:=x;exact⟨t,u,v,k _ _ (.inl rfl) e⟩
 |aM ob u ih=>obtain⟨e,q⟩:=x;exact⟨k _ _ (.inl rfl) e,ih q⟩
 |dQ ps=>
  have e:h.get? a=some {cls:=.none,data:=.fields ps}:=x;show h'.get? a=some {cls:=.none,data:=.fields ps};exact k a _ (.inl rfl) e
 |met f y=>
  have e:h.get? a=some (W.methodObj (.ref f) (.ref y)):=x;show h'.get? a=some (W.methodObj (.ref f) (.ref y));exact k a _ (.inl rfl) e
 |ext φ=>obtain⟨p,⟨o,e⟩,st⟩:=x;exact⟨st _ _ p fun o q=>k _ _ (.inl rfl) q,⟨o,k _ _ (.inl rfl) e⟩,st⟩
theorem dB.lt(x:dB P w H h)(e:H a=some o):a<h.objs.size:=(x a o e).lt
theorem dB.fresh(x:dB P w H h)(e:h.objs.size<=a):H a=none:=by
 cases q:H a with
 |none=>rfl
 |some u=>exact absurd (bT (x.lt q) e) (pX _)
theorem dB.kept(x:dB P w H h)(k:∀b u,h.get? b=some u->h'.get? b=some u):dB P w H h':=fun a o e=>
 (x a o e).fG (fun b u _ q=>k b u q) (fun _ q=>q) fun _ _ q=>q
theorem dB.laid(x:dB P w H h)(k:∀b u,h.get? b=some u->h'.get? b=some u)(hp:h.objs.size<=a)(new:cj P w (upd H a o) h' a o):dB P w (upd H a o) h':=fun b u e=>by
 have hn:=x.fresh hp;by_cases hb:b=a
 .subst hb;rw[bI] at e;cases e;exact new
 .rw[aD hb] at e;exact (x b u e).fG (fun c v _ q=>k c v q) (fun c q=>by rw[aD (eQ q hn)];exact q) fun c xs q=>by rw[aD (eQ q hn)];exact q
end
def Rd(H:Hp)(a:Addr)(u:HO):Prop:=H a=some u\/∃o,H a=some (.aM o u)
theorem Rd.ok{P:Program}{w:World}{H:Hp}{h:Heap}{a:Addr}{u:HO}(r:Rd H a u)(x:dB P w H h):cj P w H h a u:=by
 rcases r with r|⟨o,r⟩
 .exact x a u r
 .obtain⟨_,q⟩:=x a _ r;exact q
noncomputable def ED:Option HO->Prop
 |some (.lst _)=>True
 |some (.dK _)=>True
 |some (.dT _)=>True
 |some (.set _ _)=>True
 |some (.ins _ _ _)=>True
 |some (.ext _)=>True
 |_=>False
section
variable {P:Program}{w:World}{H:Hp}{h h':Heap}{x e:Addr}{o':HO}
theorem dB.write(ok:dB P w H h)(mu:ED (H x))(he:e=x\/H e=some (.own x))(k:∀b u,b≠e->h.get? b=some u->h'.get? b=some u)(heo:∃u,h'.get? e=some u)
  (new:cj P w (upd H x o') h' x o'):dB P w (upd H x o') h':=fun b u q=>by
 have nown:∀c y,H c=some (.own y)->c≠x:=fun c y r z=>by subst z;rw[r] at mu;exact mu
 have ntup:∀c xs,H c=some (.tup xs)->c≠x:=fun c xs r z=>by subst z;rw[r] at mu;exact mu
 by_cases hb:b=x
 .subst hb;rw[bI] at q;cases q;exact new
 .rw[aD hb] at q;by_cases hbe:b=e
  .have q':H b=some (.own x):=by
    rcases he with z|z
    .exact absurd (hbe.trans z) hb
    .rw[hbe];exact z
   rw[q] at q';cases q';obtain⟨v,hv⟩:=heo;exact⟨v,by rw[hbe];exact hv⟩
  .refine (ok b u q).fG (fun c v hc r=>k c v ?_ r) (fun c r=>by rw[aD (nown c b r)];exact r) fun c xs r=>by rw[aD (ntup c xs r)];exact r
   rcases hc with rfl|hc
   .exact hbe
   .rintro rfl
    rcases he with z|z
    .exact nown c b hc z
    .rw[hc] at z;cases z;exact hb rfl
end
structure Un(fs ex:List Addr)(H H':Hp)(h h':Heap):Prop where
 keep:∀b o,h.get? b=some o->H b=none->b∉fs->b∉ex->h'.get? b=some o
 slot:∀b o,h.get? b=some o->H b=none->b∈fs->b∉ex->∃sl,h'.get? b=some {o with slots:=sl}
 free:∀b o,h.get? b=some o->H b=none->b∉ex->H' b=none
 there:∀b o,h.get? b=some o->b∉ex->∃o',h'.get? b=some o'
 gg:∀b xs,H b=some (.tup xs)->H' b=some (.tup xs)
 fI:∀b o u,H b=some (.aM o u)->H' b=some (.aM o u)
 fL:∀b ps,H b=some (.dQ ps)->∃more,H' b=some (.dQ (ps++more))
section
variable {fs fs' ex ex':List Addr}{H H1 H2:Hp}{h h1 h2 h':Heap}{a x e:Addr}{o:HO}
theorem Un.any(u:Un fs ex H H1 h h1){b:Addr}{ob:Obj}(q:h.get? b=some ob)(n:H b=none)(hx:b∉ex):∃sl,h1.get? b=some {ob with slots:=sl}:=by
 by_cases hb:b∈fs
 .exact u.slot b ob q n hb hx
 .exact⟨ob.slots,u.keep b ob q n hb hx⟩
theorem Un.trans(a:Un fs ex H H1 h h1)(b:Un fs ex H1 H2 h1 h2):Un fs ex H H2 h h2 where
 keep:=fun c ob q n hc hx=>b.keep c ob (a.keep c ob q n hc hx) (a.free c ob q n hx) hc hx
 slot:=fun c ob q n hc hx=>by
  obtain⟨sl,e1⟩:=a.slot c ob q n hc hx;obtain⟨sl',e2⟩:=b.slot c _ e1 (a.free c ob q n hx) hc hx;exact⟨sl',e2⟩
 free:=fun c ob q n hx=>by
  obtain⟨o',e1⟩:=a.there c ob q hx;exact b.free c o' e1 (a.free c ob q n hx) hx
 there:=fun c ob q hx=>by
  obtain⟨o',e1⟩:=a.there c ob q hx;exact b.there c o' e1 hx
 gg:=fun c xs q=>b.gg c xs (a.gg c xs q)
 fI:=fun c ob xs q=>b.fI c ob xs (a.fI c ob xs q)
 fL:=fun c ps q=>by
  obtain⟨m1,e1⟩:=a.fL c ps q;obtain⟨m2,e2⟩:=b.fL c _ e1;exact⟨m1++m2,by rw[e2,Array.append_assoc]⟩
theorem Un.kept(k:∀b u,h.get? b=some u->h'.get? b=some u):Un fs ex H H h h':=
 ⟨fun b ob q _ _ _=>k b ob q,fun b ob q _ _ _=>⟨ob.slots,k b ob q⟩,fun _ _ _ n _=>n,fun b ob q _=>⟨ob,k b ob q⟩,fun _ _ q=>q,fun _ _ _ q=>q,fun _ ps q=>⟨#[],by rw[q];simp⟩⟩
theorem Un.refl:Un fs ex H H h h:=Un.kept fun _ _ q=>q
theorem Un.laid(k:∀b u,h.get? b=some u->h'.get? b=some u)(hp:h.objs.size<=a)(hn:H a=none):Un fs ex H (upd H a o) h h' where
 keep:=fun b u q _ _ _=>k b u q
 slot:=fun b u q _ _ _=>⟨u.slots,k b u q⟩
 free:=fun b u q n _=>by rw[aD (cV (bT (bw q) hp))];exact n
 there:=fun b u q _=>⟨u,k b u q⟩
 gg:=fun b xs q=>by rw[aD (eQ q hn)];exact q
 fI:=fun b u xs q=>by rw[aD (eQ q hn)];exact q
 fL:=fun b ps q=>⟨#[],by rw[aD (eQ q hn),q];simp⟩
theorem Un.write(mu:ED (H x))(he:e=x\/H e=some (.own x))(k:∀b u,b≠e->h.get? b=some u->h'.get? b=some u)(heo:∃u,h'.get? e=some u):Un fs ex H (upd H x o) h h':=by
 have hx:∀b,H b=none->b≠x:=fun b n z=>by subst z;rw[n] at mu;exact mu
 have hb:∀b,H b=none->b≠e:=fun b n z=>by
  subst z;rcases he with r|r
  .exact hx b n r
  .rw[n] at r;cases r
 have hm:∀b u,H b=some u->¬ ED (some u)->b≠x:=fun b u q nm z=>by subst z;rw[q] at mu;exact nm mu
 refine⟨fun b u q n _ _=>k b u (hb b n) q,fun b u q n _ _=>⟨u.slots,k b u (hb b n) q⟩,fun b u q n _=>by rw[aD (hx b n)];exact n,fun b u q _=>?_,
  fun b xs q=>by rw[aD (hm b _ q fun z=>z)];exact q,fun b u xs q=>by rw[aD (hm b _ q fun z=>z)];exact q,fun b ps q=>⟨#[],by rw[aD (hm b _ q fun z=>z),q];simp⟩⟩
 by_cases hbe:b=e
 .subst hbe;exact heo
 .exact⟨u,k b u hbe q⟩
theorem Un.mono(u:Un fs ex H H1 h h1)(hs:∀b∈fs,b∈fs')(hx:∀b∈ex,b∈ex'):Un fs' ex' H H1 h h1:=
 ⟨fun b ob q n hb he=>u.keep b ob q n (fun z=>hb (hs b z)) fun z=>he (hx b z),fun _ _ q n _ he=>u.any q n fun z=>he (hx _ z),fun b ob q n he=>u.free b ob q n fun z=>he (hx b z),fun b ob q he=>u.there b ob q fun z=>he (hx b z),u.gg,u.fI,u.fL⟩
end
noncomputable def xu(h:Heap)(H:Hp):List Addr:=(List.range h.objs.size).filter fun a=>(H a).isSome
def mh(h:Heap)(H:Hp):Heap:=W.hideAll h (xu h H)
theorem AX(h:Heap)(H:Hp):(mh h H).objs.size=h.objs.size:=W.hideAll_size _ _
theorem DH{h:Heap}{H:Hp}{b:Addr}{o:Obj}(e:h.get? b=some o)(n:H b=none):(mh h H).get? b=some o:=
 W.hideAll_get _ e fun hm=>by
  have q:(H b).isSome=true:=(r9.mp hm).2;rw[n] at q;simp at q
theorem FT{h:Heap}{H:Hp}{b:Addr}{o:Obj}(e:(mh h H).get? b=some o):h.get? b=some o/\H b=none:=by
 have e':h.get? b=some o:=W.of_hideAll (xu h H) e;refine⟨e',?_⟩;cases q:H b with
 |none=>rfl
 |some x=>
  have hm:b∈xu h H:=r9.mpr ⟨List.mem_range.mpr (bw e'),by simp[q]⟩;have z:(mh h H).get? b=none:=zF (xu h H) hm;rw[z] at e;cases e
noncomputable def GK(g h:Heap)(L:Addr):aE:=(List.range h.objs.size).filterMap fun a=>if a=L\/(g.get? a).isSome=true then none else (h.get? a).map fun o=>(a,o)
def rest(g h:Heap)(L d:Addr):aE:=(GK g h L).filter fun p=>decide (p.1≠d)
structure Mod(K:W.Frag)(mg:Str->Option Value)(base:Heap):Prop where
 q8:K.In base
 glob:base.Ns mainGlobals mg
 blt:∃mb,base.Ns builtinsNs mb/\∀x:Str,x≠ "__name__" ->mb x=bootBuiltins x
 nolimit:base.NoLimit
structure m5 where
 g:Addr
 f:Nat
 vs:List V
 cd:Addr
 q:Str
structure jH where
 P:Addr
 q:Str
structure eM where
 fs:Nat->Option m5
 tb:List jH
noncomputable abbrev Nj:eM:=⟨fun _=>none,[]⟩
/-- the context:a def's body (or a comprehension's block) running. base:fixed through the whole law;aG,jW:the entry;outer:the frames whose slots others may change (a def's callers);stack:all frames that run;
  ex:iterators that were made ahead of the entry and are walked here (a comprehension's);fn:the names whose cells were made at the entry (a def:all;a comprehension's block:its own);calm:not within an except suite;pn:pins that every state bears;xe:what is wanted of an exception that leaves the code -/
structure Cx where
 prog:Program
 w:World
 K:W.Frag
 mg:Str->Option Value
 base:Heap
 A:Around
 N:List Str
 aG:Shared
 jW:Hp
 env:Env
 outer:List Env
 stack:List Env
 ex:List Addr
 fn:Str->Bool
 calm:Bool
 pn:aE
 xe:aO
 cl:eM:=Nj
def a9(l:List Env):List Addr:=l.filterMap (·.frame)
abbrev Cx.fs(X:Cx):List Addr:=a9 X.outer
def m8(sc:Scope)(x:Str):Prop:=sc.names.lookup x=some .local\/sc.names.lookup x=some .cell\/sc.names.lookup x=some .free
def Loc(sc:Scope)(x:Str):Prop:=sc.names.lookup x=some .local\/sc.names.lookup x=some .cell
def Look(env:Env)(h:Heap)(m:Str->Option Value)(x:Str)(u:Value):Prop:=
 (env.kindOf x=some .local/\m x=some u)\/((env.kindOf x=some .cell\/env.kindOf x=some .free)/\∃c,env.cells.lookup x=some c/\h.IsCell c (some u))
structure Cx.Ok(X:Cx):Prop where
 mod:Mod X.K X.mg X.base
 kind:X.env.scope.kind=.function
 glob:X.env.globals=mainGlobals
 blt:X.env.builtins=builtinsNs
 above:X.aG.heap.objs.size<=X.env.locals
 inj:∀x y c,X.env.cells.lookup x=some c->X.env.cells.lookup y=some c->x=y
 has:∀x,(X.env.kindOf x=some .cell\/X.env.kindOf x=some .free)->∃c,X.env.cells.lookup x=some c
 rG:∀x c,X.fn x=true->X.env.cells.lookup x=some c->X.aG.heap.objs.size<=c
 hd:X.calm=true->X.A.handled=none
 frames:X.A.frames=some X.stack
 uU:X.stack=X.outer\/(X.stack=X.env::X.outer/\X.env.frame=some X.env.locals)
 AI:∀b∈X.ex,b≠X.env.locals/\∀x c,X.env.cells.lookup x=some c->c≠b
 bs:∀b o,X.base.get? b=some o->X.aG.heap.get? b=some o/\X.jW b=none
 lC:X.base.objs.size<=X.aG.heap.objs.size
 mP:∀b o,X.base.get? b=some o->b∉X.ex
 pU:∀b∈X.ex,b∉X.fs
 fK:X.aG.heap.FunFrames X.base X.outer
 nF:∀b∈X.fs,X.jW b=none
structure Inv(X:Cx)(pins:aE)(σ:List (Option V))(H:Hp)(s:Shared):Prop where
 ok:X.Ok
 os:s.os=X.aG.os
 bare:AllBare s.gens
 base:Un X.fs X.ex X.jW H X.aG.heap s.heap
 loc:∃m,s.heap.Ns X.env.locals m/\∀(i:Nat)(x:Str)(v:V),X.N[i]?=some x->σ[i]?=some (some v)->m8 X.env.scope x->∃u,RelV v u/\Look X.env s.heap m x u
 cell:∀x c,X.env.cells.lookup x=some c->∃v,s.heap.IsCell c v
 free:H X.env.locals=none
 eN:∀x c,X.env.cells.lookup x=some c->H c=none
 pin:∀p∈X.pn++pins,s.heap.get? p.1=some p.2/\H p.1=none/\p.1≠X.env.locals/\p.1∉X.fs/\∀v,p.2.data≠.cell v
 av:dB X.prog X.w H s.heap
 len:σ.length=X.N.length
section
variable {X:Cx}{pins:aE}{σ:List (Option V)}{H H':Hp}{s:Shared}{h':Heap}
theorem Cx.Ok.Ai(ok:X.Ok){b:Addr}{o:Obj}(e:X.base.get? b=some o):b∉X.fs:=fun hb=>by
 have:=(ok.fK.mem hb).1;rw[e] at this;cases this
theorem Inv.bs(I:Inv X pins σ H s):∀b o,X.base.get? b=some o->s.heap.get? b=some o/\H b=none:=fun b o e=>
 ⟨I.base.keep b o (I.ok.bs b o e).1 (I.ok.bs b o e).2 (I.ok.Ai e) (I.ok.mP b o e),I.base.free b o (I.ok.bs b o e).1 (I.ok.bs b o e).2 (I.ok.mP b o e)⟩
theorem Inv.bk(I:Inv X pins σ H s):∀b o,X.base.get? b=some o->s.heap.get? b=some o:=fun b o e=>(I.bs b o e).1
theorem Inv.mod(I:Inv X pins σ H s):Mod X.K X.mg X.base:=I.ok.mod
theorem Inv.bP(I:Inv X pins σ H s):X.K.In s.heap:=I.ok.mod.q8.keeps I.bk
theorem Inv.lt(I:Inv X pins σ H s):X.env.locals<s.heap.objs.size:=let ⟨_,hn,_⟩:=I.loc;hn.lt
theorem Inv.sz(I:Inv X pins σ H s):X.aG.heap.objs.size<=s.heap.objs.size:=bG I.ok.above (Ae I.lt)
theorem Inv.HQ(I:Inv X pins σ H s){a:Addr}(h:s.heap.objs.size<=a):a∉X.fs:=fun hb=>by
 obtain⟨_,o,ho,_⟩:=I.ok.fK.mem hb;exact absurd (bT (bw ho) (bG I.sz h)) (pX _)
theorem Inv.m6(I:Inv X pins σ H s):∀x c,X.env.cells.lookup x=some c->c≠X.env.locals:=fun x c e z=>by
 obtain⟨v,o,ho,hd⟩:=I.cell x c e;obtain⟨m,⟨o',es,ep,ho',hd',_⟩,_⟩:=I.loc;rw[z,ho'] at ho;cases ho;rw[hd'] at hd;cases hd
theorem Inv.fK(I:Inv X pins σ H s):s.heap.FunFrames X.base X.outer:=by
 have all:∀(l:List Env),(∀b∈a9 l,b∈X.fs)->X.aG.heap.FunFrames X.base l->s.heap.FunFrames X.base l:=by
  intro l
  induction l with
  |nil=>intro _ _;trivial
  |cons env r ih=>
   intro hs hl;obtain⟨hk,⟨L,o,hf,hn,ho,hd⟩,hr⟩:=hl;have hL:L∈X.fs:=hs L (by unfold a9;rw[rU,hf];exact n8);obtain⟨sl,e⟩:=I.base.slot L o ho (I.ok.nF L hL) hL fun z=>I.ok.pU L z hL;exact⟨hk,⟨L,_,hf,hn,e,hd⟩,ih (fun b hb=>hs b (by unfold a9;rw[rU,hf];exact iY _ hb)) hr⟩
 exact all X.outer (fun _ hb=>hb) I.ok.fK
theorem Inv.stack(I:Inv X pins σ H s):s.heap.FunFrames X.base X.stack:=by
 rcases I.ok.uU with e|⟨e,hf⟩
 .rw[e];exact I.fK
 .rw[e];obtain⟨m,hn,_⟩:=I.loc;refine .cons (by rw[I.ok.kind];decide) hf hn ?_ I.fK;exact Heap.get?_none_of_le (bG I.ok.lC I.ok.above)
theorem Inv.j5(I:Inv X pins σ H s):∀b∈a9 X.stack,b∈X.env.locals::X.fs:=fun b hb=>by
 rcases I.ok.uU with e|⟨e,hf⟩
 .rw[e] at hb;exact iY _ hb
 .rw[e] at hb;unfold a9 at hb;rw[rU,hf] at hb;exact hb
theorem Inv.iB(I:Inv X pins σ H s):∀b∈a9 X.stack,H b=none:=fun b hb=>by
 rcases eZ.mp (I.j5 b hb) with e|hb
 .rw[e];exact I.free
 .obtain⟨_,o,ho,_⟩:=I.ok.fK.mem hb;exact I.base.free b o ho (I.ok.nF b hb) fun z=>I.ok.pU b z hb
theorem Inv.step{g':Array GenState}{t':Nat}{d':Drawn}{ch:List Addr}(I:Inv X pins σ H s)
  (hch:∀b∈ch,(b∈X.ex\/X.aG.heap.objs.size<=b)/\b≠X.env.locals/\(∀x c,X.env.cells.lookup x=some c->c≠b)/\∀p∈X.pn++pins,p.1≠b)
  (keep:∀b o,b≠X.env.locals->b∉X.fs->b∉ch->s.heap.get? b=some o->H b=none->h'.get? b=some o)
  (slot:∀b o,b≠X.env.locals->b∈X.fs->b∉ch->s.heap.get? b=some o->H b=none->∃sl,h'.get? b=some {o with slots:=sl}) (free:∀b o,b∉ch->s.heap.get? b=some o->H b=none->H' b=none)
  (there:∀b o,b∉ch->s.heap.get? b=some o->∃o',h'.get? b=some o')
  (gg:∀b xs,H b=some (.tup xs)->H' b=some (.tup xs)) (fI:∀b o u,H b=some (.aM o u)->H' b=some (.aM o u)) (fL:∀b ps,H b=some (.dQ ps)->∃more,H' b=some (.dQ (ps++more)))
  (ns:∀m,s.heap.Ns X.env.locals m->h'.Ns X.env.locals m) (av:dB X.prog X.w H' h') (hg:AllBare g'):
  Inv X pins σ H' {s with heap:=h',gens:=g',drawn:=d',toks:=t'}:=by
 have neL:∀b o,X.aG.heap.get? b=some o->b≠X.env.locals:=fun b o e=>cV (bT (bw e) I.ok.above);have neC:∀b o,X.aG.heap.get? b=some o->b∉X.ex->b∉ch:=fun b o e hx hb=>by
  rcases (hch b hb).1 with z|z
  .exact hx z
  .exact absurd (bT (bw e) z) (pX _)
 have cellK:∀x c,X.env.cells.lookup x=some c->∀v,s.heap.IsCell c v->h'.IsCell c v:=fun x c e v Z=>Z.g fun o Z=>Z.g fun ho hd=>by
  have nch:c∉ch:=fun z=>(hch c z).2.2.1 x c e rfl;by_cases hc:c∈X.fs
  .obtain⟨sl,q⟩:=slot c o (I.m6 x c e) hc nch ho (I.eN x c e);exact⟨_,q,hd⟩
  .exact⟨o,keep c o (I.m6 x c e) hc nch ho (I.eN x c e),hd⟩
 refine⟨I.ok,I.os,hg,⟨fun b o e n hb hx=>?_,fun b o e n hb hx=>?_,fun b o e n hx=>?_,fun b o e hx=>?_,fun b xs e=>gg b xs (I.base.gg b xs e),fun b o xs e=>fI b o xs (I.base.fI b o xs e),fun b ps e=>?_⟩,?_,fun x c e=>?_,?_,fun x c e=>?_,fun p hp=>?_,av,I.len⟩
 .exact keep b o (neL b o e) hb (neC b o e hx) (I.base.keep b o e n hb hx) (I.base.free b o e n hx)
 .obtain⟨sl,e1⟩:=I.base.slot b o e n hb hx;obtain⟨sl',e2⟩:=slot b _ (neL b o e) hb (neC b o e hx) e1 (I.base.free b o e n hx);exact⟨sl',e2⟩
 .obtain⟨o',e1⟩:=I.base.there b o e hx;exact free b o' (neC b o e hx) e1 (I.base.free b o e n hx)
 .obtain⟨o',e1⟩:=I.base.there b o e hx;exact there b o' (neC b o e hx) e1
 .obtain⟨m1,e1⟩:=I.base.fL b ps e;obtain⟨m2,e2⟩:=fL b _ e1;exact⟨m1++m2,by rw[e2,Array.append_assoc]⟩
 .obtain⟨m,hn,hl⟩:=I.loc;refine⟨m,ns m hn,fun i x v e1 e2 e3=>?_⟩;obtain⟨u,r,l⟩:=hl i x v e1 e2 e3;refine⟨u,r,?_⟩;rcases l with l|⟨k,c,e,z⟩
  .exact .inl l
  .exact .inr ⟨k,c,e,cellK x c e _ z⟩
 .obtain⟨v,z⟩:=I.cell x c e;exact⟨v,cellK x c e v z⟩
 .obtain⟨m,⟨o,_,_,ho,_⟩,_⟩:=I.loc;exact free _ o (fun z=>(hch _ z).2.1 rfl) ho I.free
 .obtain⟨v,o,ho,hd⟩:=I.cell x c e;exact free c o (fun z=>(hch c z).2.2.1 x c e rfl) ho (I.eN x c e)
 .obtain⟨e,n,ne,nf,d⟩:=I.pin p hp;have nch:p.1∉ch:=fun z=>(hch p.1 z).2.2.2 p hp rfl;exact⟨keep p.1 p.2 ne nf nch e n,free p.1 p.2 nch e n,ne,nf,d⟩
theorem Inv.un{t':Nat}(I:Inv X pins σ H s)(u:Un X.fs [] H H' s.heap h')(av:dB X.prog X.w H' h'):Inv X pins σ H' {s with heap:=h',toks:=t'}:=by
 obtain⟨m,⟨o,es,ep,ho,r⟩,_⟩:=id I.loc;obtain⟨sl,hL⟩:=u.any ho I.free (by simp);exact I.step (g':=s.gens) (d':=s.drawn) (ch:=[]) (fun _ z=>nomatch z) (fun b o _ hb _ e n=>u.keep b o e n hb (by simp)) (fun b o _ hb _ e n=>u.slot b o e n hb (by simp)) (fun b o _ e n=>u.free b o e n (by simp)) (fun b o _ e=>u.there b o e (by simp)) u.gg u.fI u.fL (fun m' hm=>by
  obtain⟨o',es',ep',ho',r'⟩:=hm;rw[ho] at ho';cases ho';exact⟨_,es',ep',hL,r'⟩) av I.bare
theorem Inv.call{g':Array GenState}{t':Nat}{d':Drawn}{ch:List Addr}(I:Inv X pins σ H s)(u:Un (a9 X.stack) ch H H' s.heap h')(av:dB X.prog X.w H' h')(hg:AllBare g')
  (hch:∀b∈ch,(b∈X.ex\/X.aG.heap.objs.size<=b)/\b≠X.env.locals/\(∀x c,X.env.cells.lookup x=some c->c≠b)/\∀p∈X.pn++pins,p.1≠b):
  Inv X pins σ H' {s with heap:=h',gens:=g',drawn:=d',toks:=t'}:=by
 obtain⟨m,⟨o,es,ep,ho,r⟩,_⟩:=id I.loc;obtain⟨sl,hL⟩:=u.any ho I.free fun z=>(hch _ z).2.1 rfl;exact I.step (ch:=ch) hch (fun b o hL hb hc e n=>u.keep b o e n (fun z=>(eZ.mp (I.j5 b z)).elim hL hb) hc) (fun b o _ _ hc e n=>u.any e n hc) (fun b o hc e n=>u.free b o e n hc) (fun b o hc e=>u.there b o e hc) u.gg u.fI u.fL (fun m' hm=>by
  obtain⟨o',es',ep',ho',r'⟩:=hm;rw[ho] at ho';cases ho';exact⟨_,es',ep',hL,r'⟩) av hg
theorem Inv.turned{t':Nat}{it:Addr}(I:Inv X pins σ H s)(k:∀b o,b≠it->s.heap.get? b=some o->h'.get? b=some o)(hn:H it=none)(hL:it≠X.env.locals)
  (h1:it∈X.ex\/X.aG.heap.objs.size<=it) (h2:∀x c,X.env.cells.lookup x=some c->c≠it) (h3:∀p∈X.pn++pins,p.1≠it):Inv X pins σ H {s with heap:=h',toks:=t'}:=by
 have nit:∀b u,H b=some u->b≠it:=fun b u e z=>by rw[z,hn] at e;cases e
 refine I.step (g':=s.gens) (d':=s.drawn) (ch:=[it]) (fun b hb=>?_) (fun b o _ _ hc e _=>k b o (fun z=>hc (by simp[z])) e) (fun b o _ _ hc e _=>⟨o.slots,k b o (fun z=>hc (by simp[z])) e⟩) (fun _ _ _ _ n=>n)
  (fun b o hc e=>⟨o,k b o (fun z=>hc (by simp[z])) e⟩) (fun _ _ e=>e) (fun _ _ _ e=>e) (fun b ps e=>⟨#[],by rw[e];simp⟩) (fun m hm=>?_) (fun b u e=>?_) I.bare
 .have e:b=it:=by simpa using hb
  subst e;exact⟨h1,hL,h2,h3⟩
 .obtain⟨o,es,ep,ho,r⟩:=hm;exact⟨o,es,ep,k _ o (aX hL) ho,r⟩
 .refine (I.av b u e).fG (fun c v hc q=>k c v ?_ q) (fun _ q=>q) fun _ _ q=>q;rcases hc with z|z
  .rw[z];exact nit b u e
  .exact nit c _ z
theorem Inv.tok(I:Inv X pins σ H s)(t:Nat):Inv X pins σ H {s with toks:=t}:=I.un (h':=s.heap) (t':=t) Un.refl I.av
theorem Inv.kept{t':Nat}(I:Inv X pins σ H s)(k:∀b u,s.heap.get? b=some u->h'.get? b=some u):Inv X pins σ H {s with heap:=h',toks:=t'}:=I.un (Un.kept k) (I.av.kept k)
theorem Inv.laid{a:Addr}{o:HO}{t':Nat}(I:Inv X pins σ H s)(k:∀b u,s.heap.get? b=some u->h'.get? b=some u)(hp:s.heap.objs.size<=a)(new:cj X.prog X.w (upd H a o) h' a o):
  Inv X pins σ (upd H a o) {s with heap:=h',toks:=t'}:=I.un (Un.laid k hp (I.av.fresh hp)) (I.av.laid k hp new)
theorem Inv.write{x e:Addr}{o:HO}{t':Nat}(I:Inv X pins σ H s)(mu:ED (H x))(he:e=x\/H e=some (.own x))(k:∀b u,b≠e->s.heap.get? b=some u->h'.get? b=some u)(heo:∃u,h'.get? e=some u)
  (new:cj X.prog X.w (upd H x o) h' x o):Inv X pins σ (upd H x o) {s with heap:=h',toks:=t'}:=I.un (Un.write mu he k heo) (I.av.write mu he k heo new)
theorem Inv.o5{pins':aE}(I:Inv X pins σ H s)(h:∀p∈pins',s.heap.get? p.1=some p.2/\H p.1=none/\p.1≠X.env.locals/\p.1∉X.fs/\∀v,p.2.data≠.cell v):Inv X pins' σ H s:=
 ⟨I.ok,I.os,I.bare,I.base,I.loc,I.cell,I.free,I.eN,fun p hp=>(sm.mp hp).elim (fun z=>I.pin p (zV _ z)) (h p),I.av,I.len⟩
theorem qf{N:List Str}(hN:N.Nodup){i j:Nat}{x:Str}(a:N[i]?=some x)(b:N[j]?=some x):i=j:=by obtain⟨h1,e1⟩:=fH.mp a;obtain⟨h2,e2⟩:=fH.mp b;exact (List.getElem_inj hN).mp (e1.trans e2.symm)
theorem sH{M:Model}{A:Around}{E:aO}{i:Nat}{x:Str}{v:V}{u:Value}{Q:Unit->Shared->Prop}(I:Inv X pins σ H s)(hN:X.N.Nodup)(hi:X.N[i]?=some x)(hx:Loc X.env.scope x)(r:RelV v u)
  (h:∀s',Inv X pins (σ.set i (some v)) H s'->(∃a,Heap.SameBut a s.heap s'.heap/\(a=X.env.locals\/X.env.cells.lookup x=some a))->Q () s') (hf:X.fn x=true\/X.env.scope.names.lookup x=some .local:=by first|exact .inl rfl|exact .inr rfl|assumption):wpAny M A (storeName X.env x u) Q E s:=by
 obtain⟨m,hn,hl⟩:=id I.loc;have hcls:(X.env.scope.kind== .class || (X.env.scope.kind== .module&&X.env.locals != X.env.globals))=false:=by rw[I.ok.kind];rfl
 have hiσ:i<σ.length:=by rw[I.len];exact (fH.mp hi).1
 have m6:=I.m6;have tracked:∀{a:Addr}{h':Heap},(∃o,s.heap.get? a=some o/\H a=none)->Heap.SameBut a s.heap h'->dB X.prog X.w H h':=fun {a h'} ha hs b ob e=>by
  obtain⟨_,_,hfree⟩:=ha;refine (I.av b ob e).fG (fun c w' hc q=>(hs.2 c ?_).trans q) (fun _ q=>q) fun _ _ q=>q
  rintro rfl
  rcases hc with rfl|hc
  .rw[hfree] at e;cases e
  .rw[hfree] at hc;cases hc
 rcases hx with hk|hk
 .refine wpAny_storeName_local hk hn (fun h' hn' hs=>?_) hcls;obtain⟨oL,_,_,hoL,_⟩:=id hn;refine h _ ⟨I.ok,I.os,I.bare,⟨fun b o e n hb hx=>?_,fun b o e n hb hx=>?_,I.base.free,fun b o e hx=>?_,I.base.gg,I.base.fI,I.base.fL⟩,⟨_,hn',fun j y v' e1 e2 e3=>?_⟩,fun y c e=>?_,I.free,I.eN,fun p hp=>?_,tracked ⟨oL,hoL,I.free⟩ hs,by simpa using I.len⟩ ⟨_,hs,.inl rfl⟩
  .exact (hs.2 b (cV (bT (bw e) I.ok.above))).trans (I.base.keep b o e n hb hx)
  .obtain⟨sl,e1⟩:=I.base.slot b o e n hb hx;exact⟨sl,(hs.2 b (cV (bT (bw e) I.ok.above))).trans e1⟩
  .obtain⟨o',e1⟩:=I.base.there b o e hx;exact⟨o',(hs.2 b (cV (bT (bw e) I.ok.above))).trans e1⟩
  .by_cases hj:j=i
   .subst hj;rw[hi] at e1;cases e1;rw[i5 hiσ] at e2;cases e2;exact⟨u,r,.inl ⟨hk,by simp⟩⟩
   .rw[i7 (aX hj)] at e2;obtain⟨u',r',q⟩:=hl j y v' e1 e2 e3;refine⟨u',r',?_⟩;rcases q with ⟨k,e⟩|⟨k,c,e,z⟩
    .refine .inl ⟨k,?_⟩;have:y≠x:=fun e=>hj (qf hN e1 (e▸hi));simp[this,e]
    .exact .inr ⟨k,c,e,z.sameBut hs (m6 y c e)⟩
  .obtain⟨w',z⟩:=I.cell y c e;exact⟨w',z.sameBut hs (m6 y c e)⟩
  .obtain⟨e,n,ne,nf,d⟩:=I.pin p hp;exact⟨(hs.2 p.1 ne).trans e,n,ne,nf,d⟩
 .have hfn:X.fn x=true:=by
   rcases hf with z|z
   .exact z
   .rw[z] at hk;cases hk
  obtain⟨c,hc⟩:=I.ok.has x (.inl hk);obtain⟨w',z⟩:=I.cell x c hc;refine wpAny_storeName_cell I.ok.kind hk hc z (fun h' hc' hs=>?_);obtain⟨oc,hoc,hocd⟩:=id z;refine h {s with heap:=h'} ⟨I.ok,I.os,I.bare,⟨fun b o e n hb hx=>?_,fun b o e n hb hx=>?_,I.base.free,fun b o e hx=>?_,I.base.gg,I.base.fI,I.base.fL⟩,⟨m,hn.sameBut hs (aX (m6 x c hc)),fun j y v' e1 e2 e3=>?_⟩,fun y c' e=>?_,I.free,I.eN,fun p hp=>?_,tracked ⟨oc,hoc,I.eN x c hc⟩ hs,by simpa using I.len⟩ ⟨c,hs,.inr hc⟩
  .exact (hs.2 b (cV (bT (bw e) (I.ok.rG x c hfn hc)))).trans (I.base.keep b o e n hb hx)
  .obtain⟨sl,e1⟩:=I.base.slot b o e n hb hx;exact⟨sl,(hs.2 b (cV (bT (bw e) (I.ok.rG x c hfn hc)))).trans e1⟩
  .obtain⟨o',e1⟩:=I.base.there b o e hx;exact⟨o',(hs.2 b (cV (bT (bw e) (I.ok.rG x c hfn hc)))).trans e1⟩
  .by_cases hj:j=i
   .subst hj;rw[hi] at e1;cases e1;rw[i5 hiσ] at e2;cases e2;exact⟨u,r,.inr ⟨.inl hk,c,hc,hc'⟩⟩
   .rw[i7 (aX hj)] at e2;obtain⟨u',r',q⟩:=hl j y v' e1 e2 e3;refine⟨u',r',?_⟩;rcases q with q|⟨k,c',e,z'⟩
    .exact .inl q
    .refine .inr ⟨k,c',e,z'.sameBut hs ?_⟩
     rintro rfl
     exact hj (qf hN e1 (I.ok.inj _ _ _ e hc▸hi))
  .by_cases hcc:c'=c
   .subst hcc;exact⟨_,hc'⟩
   .obtain⟨w2,z2⟩:=I.cell y c' e;exact⟨w2,z2.sameBut hs hcc⟩
  .obtain⟨e,n,ne,nf,d⟩:=I.pin p hp;refine⟨(hs.2 p.1 ?_).trans e,n,ne,nf,d⟩;intro q;rw[q,hoc] at e;have q':oc=p.2:=j1 e;exact d w' (by rw[<-q'];exact hocd)
theorem jK{M:Model}{A:Around}{E:aO}{i:Nat}{x:Str}{v:V}{u:Value}{Q:Unit->Shared->Prop}(I:Inv X pins σ H s)(hN:X.N.Nodup)(hi:X.N[i]?=some x)(hx:Loc X.env.scope x)(r:RelV v u)
  (h:∀s',Inv X pins (σ.set i (some v)) H s'->Q () s') (hf:X.fn x=true\/X.env.scope.names.lookup x=some .local:=by first|exact .inl rfl|exact .inr rfl|assumption):wpAny M A (storeName X.env x u) Q E s:=
 sH I hN hi hx r (fun s' I' _=>h s' I') hf
theorem Inv.LD{s':Shared}{ch:List Addr}(I:Inv X pins σ H s)(ho:s'.os=s.os)(u:Un (a9 X.stack) ch H H' s.heap s'.heap)(av:dB X.prog X.w H' s'.heap)(hg:AllBare s'.gens)
  (hch:∀b∈ch,(b∈X.ex\/X.aG.heap.objs.size<=b)/\b≠X.env.locals/\(∀x c,X.env.cells.lookup x=some c->c≠b)/\∀p∈X.pn++pins,p.1≠b):Inv X pins σ H' s':=by
 obtain⟨h',g',d',t',o'⟩:=s';have e:o'=s.os:=ho;subst e;exact I.call (g':=g') (t':=t') (d':=d') u av hg hch
end
abbrev XK:=Value->Option Addr->Hp->Prop
noncomputable abbrev St:=List (Option V)
abbrev VK:=V->Hp->Prop
abbrev TE:=St->Hp->VK->Prop
abbrev TT:=St->Hp->(Bool->Hp->Prop)->Prop
abbrev TA:=St->Hp->(List V->Hp->Prop)->Prop
structure Ends where
 nx:St->Hp->Prop
 rt:VK
 bk:St->Hp->Prop:=fun _ _=>False
 ct:St->Hp->Prop:=fun _ _=>False
abbrev TS:=Ends->St->Hp->Prop
def EP(X:Cx)(pins:aE)(σ:St)(Q:VK)(u:Value)(s':Shared):Prop:=∃v H',Inv X pins σ H' s'/\RelV v u/\Q v H'
def TP(X:Cx)(pins:aE)(σ:St)(Q:Bool->Hp->Prop)(b:Bool)(s':Shared):Prop:=∃H',Inv X pins σ H' s'/\Q b H'
def AP(X:Cx)(pins:aE)(σ:St)(Q:List V->Hp->Prop)(us:List Value)(s':Shared):Prop:=∃vs H',Inv X pins σ H' s'/\Vals vs us/\Q vs H'
def SP(X:Cx)(pins:aE)(D:Ends)(f:Flow)(s':Shared):Prop:=
 match f with
 |.next=>∃σ' H',Inv X pins σ' H' s'/\D.nx σ' H'
 |.brk=>∃σ' H',Inv X pins σ' H' s'/\D.bk σ' H'
 |.cont=>∃σ' H',Inv X pins σ' H' s'/\D.ct σ' H'
 |.ret u=>∃v σ' H',Inv X pins σ' H' s'/\RelV v u/\D.rt v H'
def PE(X:Cx)(e:Expr)(t:TE):Prop:=
 ∀(pins:aE)(s:Shared)(σ:St)(H:Hp)(Q:VK),Inv X pins σ H s->t σ H Q->wpAny (model X.prog X.w) X.A (eval e X.env) (EP X pins σ Q) X.xe s
def PT(X:Cx)(e:Expr)(t:TT):Prop:=
 ∀(pins:aE)(s:Shared)(σ:St)(H:Hp)(Q:Bool->Hp->Prop),Inv X pins σ H s->t σ H Q->wpAny (model X.prog X.w) X.A (isTrue e X.env (eval e X.env)) (TP X pins σ Q) X.xe s
def PW(X:Cx)(e:Expr)(t:TT):Prop:=
 ∀(whole:Sem Value)(pins:aE)(s:Shared)(σ:St)(H:Hp)(Q:Bool->Hp->Prop),Inv X pins σ H s->t σ H Q->wpAny (model X.prog X.w) X.A (isTrue e X.env whole) (TP X pins σ Q) X.xe s
theorem PW.pt{X:Cx}{e:Expr}{t:TT}(h:PW X e t):PT X e t:=h _
def PA(X:Cx)(es:List Expr)(t:TA):Prop:=
 ∀(pos:Pos)(pins:aE)(s:Shared)(σ:St)(H:Hp)(Q:List V->Hp->Prop),Inv X pins σ H s->t σ H Q->wpAny (model X.prog X.w) X.A (spliced (backTo pos (starEach es X.env))) (AP X pins σ Q) X.xe s
def PS(X:Cx)(st:Stmt)(t:TS):Prop:=
 ∀(pins:aE)(s:Shared)(σ:St)(H:Hp)(D:Ends),Inv X pins σ H s->t D σ H->wpAny (model X.prog X.w) X.A (exec st X.env) (SP X pins D) X.xe s
def dE(X:Cx)(st:List Stmt)(t:TS):Prop:=
 ∀(pins:aE)(s:Shared)(σ:St)(H:Hp)(D:Ends),Inv X pins σ H s->t D σ H->wpAny (model X.prog X.w) X.A (execs st X.env) (SP X pins D) X.xe s
theorem az{α:Type}{t:Sem α}{Q Q':α->Shared->Prop}{M:Model}{A:Around}{E:aO}{s:Shared}(h:wpAny M A t Q E s)(hQ:∀a s,Q a s->Q' a s):wpAny M A t Q' E s:=iK h hQ fun _ _ x=>x
section
variable {X:Cx}
noncomputable def O2(i:Nat):TE:=fun σ H Q=>∃v,σ[i]?=some (some v)/\Q v H
def tC(v:V):TE:=fun _ H Q=>Q v H
theorem nD{i:Nat}{x:Str}{pos:Pos}(hN:X.N[i]?=some x)(hv:m8 X.env.scope x)(hd:(x== ("__debug__" : Str))=false:=by decide)(hcd:(x== ("__classdict__" : Str))=false:=by decide):PE X (.Name x pos) (O2 i):=by
 intro pins s σ H Q I h;obtain⟨v,e,h⟩:=h;obtain⟨m,hn,hl⟩:=I.loc;obtain⟨u,r,l⟩:=hl i x v hN e hv;have fin:EP X pins σ Q u s:=⟨v,H,I,r,h⟩;rcases l with ⟨hk,hm⟩|⟨hk,c,hc,hcell⟩
 .exact wpAny_Name (wpAny_loadName_local I.ok.kind hk hn hm fin) hd
 .rcases hk with hk|hk
  .exact wpAny_Name (wpAny_loadName_cell I.ok.kind hk hc hcell fin) hd
  .exact wpAny_Name (wpAny_loadName_free I.ok.kind hk hc hcell fin hcd) hd
theorem Be{i j pos}:PE X (.Constant (.int i) j pos) (tC (.int i)):=fun _ _ _ H _ I h=>wpAny_Constant_int ⟨.int i,H,I.tok _,⟨_,rfl⟩,h⟩
theorem MG{b j pos}:PE X (.Constant (.bool b) j pos) (tC (.bl b)):=fun _ _ _ H _ I h=>Constant_bool ⟨.bl b,H,I,rfl,h⟩
theorem JO{j pos}:PE X (.Constant .none j pos) (tC .ah):=fun _ _ _ H _ I h=>Constant_none ⟨.ah,H,I,rfl,h⟩
theorem Ax{x j pos}:PE X (.Constant (.str x) j pos) (tC (.str x)):=fun _ _ _ H _ I h=>Calls.Constant_str ⟨.str x,H,I.tok _,⟨_,rfl⟩,h⟩
def Gl(X:Cx)(x:Str):Prop:=X.env.kindOf x=some .globalImplicit
theorem fQ{E:aO}{pins:aE}{s:Shared}{σ:St}{H:Hp}{x:Str}{u:Value}{pos:Pos}{Q:aO}(I:Inv X pins σ H s)(hg:Gl X x)(hm:X.mg x=some u)(h:Q u s)
  (hd:(x== ("__debug__" : Str))=false:=by decide):wpAny (model X.prog X.w) X.A (eval (.Name x pos) X.env) Q E s:=
 Calls.Name_function_global I.ok.kind hg (Calls.loadGlobal_global (by rw[I.ok.glob];exact I.mod.glob.keeps I.bk) hm h) hd
theorem lF{E:aO}{pins:aE}{s:Shared}{σ:St}{H:Hp}{x:Str}{u:Value}{pos:Pos}{Q:aO}(I:Inv X pins σ H s)(hg:Gl X x)(hm:X.mg x=none)(hv:bootBuiltins x=some u)(h:Q u s)
  (hn:x≠ "__name__" := by decide) (hd:(x== ("__debug__" : Str))=false:=by decide):wpAny (model X.prog X.w) X.A (eval (.Name x pos) X.env) Q E s:=by
 obtain⟨mb,h1,h2⟩:=I.mod.blt;exact Calls.Name_function_global I.ok.kind hg (Calls.loadGlobal_builtin (by rw[I.ok.glob];exact I.mod.glob.keeps I.bk) hm (by rw[I.ok.blt];exact h1.keeps I.bk) ((h2 x hn).trans hv) h) hd
theorem jG{x:Str}{v:V}{u:Value}{pos:Pos}(hg:Gl X x)(hm:X.mg x=some u)(r:RelV v u)(hd:(x== ("__debug__" : Str))=false:=by decide):PE X (.Name x pos) (tC v):=
 fun _ _ _ H _ I h=>fQ I hg hm ⟨v,H,I,r,h⟩ hd
theorem xm{x:Str}{v:V}{u:Value}{pos:Pos}(hg:Gl X x)(hm:X.mg x=none)(hv:bootBuiltins x=some u)(r:RelV v u)(hn:x≠ "__name__" := by decide)(hd:(x== ("__debug__" : Str))=false:=by decide):PE X (.Name x pos) (tC v):=
 fun _ _ _ H _ I h=>lF I hg hm hv ⟨v,H,I,r,h⟩ hn hd
variable {a b:Expr}{ta tb:TE}{pos:Pos}
variable {tA tB':TT}{rest:List Expr}
noncomputable def O0(t u:TT):TT:=fun σ H Q=>t σ H fun c H1=>if c=true then u σ H1 Q else Q false H1
noncomputable def QT(t u:TT):TT:=fun σ H Q=>t σ H fun c H1=>if c=true then Q true H1 else u σ H1 Q
def Qs(t:TT):TT:=fun σ H Q=>t σ H fun c H1=>Q (!c) H1
theorem Fp(ha:PT X a tA):PW X (.BoolOp .And [a] pos) tA:=by
 intro wh pins s σ H Q I h;refine isTrue_and (az (ha pins s σ H Q I h) fun c s1 e=>?_);cases c with
 |true=>exact isTrue_and_nil e
 |false=>exact e
theorem KA(ha:PT X a tA):PW X (.BoolOp .Or [a] pos) tA:=by
 intro wh pins s σ H Q I h;refine isTrue_or (az (ha pins s σ H Q I h) fun c s1 e=>?_);cases c with
 |false=>exact isTrue_or_nil e
 |true=>exact e
theorem GY(ha:PT X a tA)(hb:PW X (.BoolOp .And (b::rest) pos) tB'):PW X (.BoolOp .And (a::b::rest) pos) (O0 tA tB'):=by
 intro wh pins s σ H Q I h;refine isTrue_and (az (ha pins s σ H _ I h) fun c s1 Z=>Z.k1 fun H1 I1 q1=>?_);cases c with
 |true=>exact hb wh pins s1 σ H1 Q I1 q1
 |false=>exact⟨H1,I1,q1⟩
theorem Ly(ha:PT X a tA)(hb:PW X (.BoolOp .Or (b::rest) pos) tB'):PW X (.BoolOp .Or (a::b::rest) pos) (QT tA tB'):=by
 intro wh pins s σ H Q I h;refine isTrue_or (az (ha pins s σ H _ I h) fun c s1 Z=>Z.k1 fun H1 I1 q1=>?_);cases c with
 |true=>exact⟨H1,I1,q1⟩
 |false=>exact hb wh pins s1 σ H1 Q I1 q1
theorem JF(ha:PT X a tA):PT X (.UnaryOp .Not a pos) (Qs tA):=by intro pins s σ H Q I h;exact isTrue_not (ha pins s σ H (fun c H1=>Q (!c) H1) I h)
noncomputable def MA(ta tb:TE):TE:=fun σ H Q=>ta σ H fun x H1=>∃c,x=.bl c/\if c=true then tb σ H1 Q else Q (.bl false) H1
noncomputable def Pf(ta tb:TE):TE:=fun σ H Q=>ta σ H fun x H1=>∃c,x=.bl c/\if c=true then Q (.bl true) H1 else tb σ H1 Q
theorem Jc{op}{t:TE}(h:PE X a t):PE X (.BoolOp op [a] pos) t:=fun pins s σ H Q I hw=>BoolOp_one (h pins s σ H Q I hw)
theorem IC(ha:PE X a ta)(hb:PE X (.BoolOp .And (b::rest) pos) tb):PE X (.BoolOp .And (a::b::rest) pos) (MA ta tb):=by
 intro pins s σ H Q I h;refine BoolOp_and (az (ha pins s σ H _ I h) fun v s1 Z=>Z.k2 fun x H1 I1 r1 q1=>?_);obtain⟨c,rfl,q1⟩:=q1;cases r1;refine uf ?_;cases c with
 |true=>exact hb pins s1 σ H1 Q I1 q1
 |false=>exact⟨.bl false,H1,I1,rfl,q1⟩
theorem MQ(ha:PE X a ta)(hb:PE X (.BoolOp .Or (b::rest) pos) tb):PE X (.BoolOp .Or (a::b::rest) pos) (Pf ta tb):=by
 intro pins s σ H Q I h;refine BoolOp_or (az (ha pins s σ H _ I h) fun v s1 Z=>Z.k2 fun x H1 I1 r1 q1=>?_);obtain⟨c,rfl,q1⟩:=q1;cases r1;refine uf ?_;cases c with
 |false=>exact hb pins s1 σ H1 Q I1 q1
 |true=>exact⟨.bl true,H1,I1,rfl,q1⟩
noncomputable def QO(t:TT)(ta tb:TE):TE:=fun σ H Q=>t σ H fun c H1=>if c=true then ta σ H1 Q else tb σ H1 Q
theorem DD{c:Expr}(hc:PT X c tA)(ha:PE X a ta)(hb:PE X b tb):PE X (.IfExp c a b pos) (QO tA ta tb):=by
 intro pins s σ H Q I h;refine wpAny_IfExp (az (hc pins s σ H _ I h) fun d s1 Z=>Z.k1 fun H1 I1 q1=>?_);cases d with
 |true=>exact ha pins s1 σ H1 Q I1 q1
 |false=>exact hb pins s1 σ H1 Q I1 q1
end
def bW(K:W.Frag)(H:Hp)(a:Addr)(xs:List V):Prop:=
 Rd H a (.lst xs)\/
  ∃(o:Obj) (its:Array Value) (n:Nat),K.lookup a=some o/\o.cls=.type "list" /\o.dict=none/\o.data=.seq its n/\its.size<=sizeLine/\Vals xs its.toList
def cY(K:W.Frag)(H:Hp)(a:Addr)(xs:List V):Prop:=
 Rd H a (.tup xs)\/
  ∃(o:Obj) (its:Array Value) (n:Nat),K.lookup a=some o/\o.cls=.type "tuple" /\o.data=.seq its n/\its.size<=sizeLine/\Vals xs its.toList
noncomputable def Qx:Value->Option V
 |.none=>some .ah
 |.bool b=>some (.bl b)
 |.int i _=>some (.int i)
 |.str x _=>some (.str x)
 |.bytes b _=>some (.byt b)
 |.float b _=>some (.flt b)
 |.ref a=>some (.ref a)
 |.type n=>some (.ty n)
 |_=>none
theorem RelV.abs{x:V}{u:Value}(r:RelV x u):Qx u=some x:=by
 cases x with
 |ah=>cases r;rfl
 |bl _=>cases r;rfl
 |int _=>obtain⟨t,rfl⟩:=r;rfl
 |str _=>obtain⟨t,rfl⟩:=r;rfl
 |byt _=>obtain⟨t,rfl⟩:=r;rfl
 |flt _=>obtain⟨t,rfl⟩:=r;rfl
 |ref _=>cases r;rfl
 |ty _=>cases r;rfl
theorem RelV.inj{x y:V}{u:Value}(r:RelV x u)(q:RelV y u):x=y:=j1 (r.abs.symm.trans q.abs)
theorem Vals.inj:∀{xs ys:List V}{us:List Value},Vals xs us->Vals ys us->xs=ys
 |_,_,_,.nil,.nil=>rfl
 |_,_,_,.cons r t,.cons r' t'=>by rw[r.inj r',Vals.inj t t']
section
variable {X:Cx}{pins:aE}{σ:St}{H:Hp}{s:Shared}{a:Addr}{xs ys:List V}
theorem bW.of{K:W.Frag}(h:H a=some (.lst xs)):bW K H a xs:=.inl (.inl h)
theorem cY.of{K:W.Frag}(h:H a=some (.tup xs)):cY K H a xs:=.inl (.inl h)
theorem Inv.list(I:Inv X pins σ H s)(h:bW X.K H a xs):∃its:List Value,Vals xs its/\PlainL s.heap a its.toArray/\xs.length<=sizeLine:=by
 rcases h with h|⟨o,its,n,hk,hc,hd,hs,hz,r⟩
 .obtain⟨z,its,n,r,e⟩:=h.ok I.av;exact⟨its,r,⟨_,n,e,rfl,rfl,rfl⟩,z⟩
 .refine⟨its.toList,r,⟨o,n,I.bP a o hk,hc,hd,by simpa using hs⟩,?_⟩;have e:=r.length;simp only[Ik] at e
  lia
theorem Inv.tuple(I:Inv X pins σ H s)(h:cY X.K H a xs):∃its:List Value,Vals xs its/\IsTup s.heap a its.toArray/\xs.length<=sizeLine:=by
 rcases h with h|⟨o,its,n,hk,hc,hs,hz,r⟩
 .obtain⟨z,its,r,p⟩:=h.ok I.av;exact⟨its,r,p,z⟩
 .refine⟨its.toList,r,⟨o,I.bP a o hk,hc,n,by simpa using hs⟩,?_⟩;have e:=r.length;simp only[Ik] at e
  lia
theorem Inv.wG(I:Inv X pins σ H s)(h:bW X.K H a xs)(h':bW X.K H a ys):xs=ys:=by
 obtain⟨its,r,⟨o,n,e,_,_,d⟩,_⟩:=I.list h;obtain⟨its',r',⟨o',n',e',_,_,d'⟩,_⟩:=I.list h';rw[e] at e';cases e';rw[d] at d';injection d' with d1 _;have:its=its':=by simpa using cR Array.toList d1
 subst this;exact r.inj r'
theorem Inv.sJ(I:Inv X pins σ H s)(h:cY X.K H a xs)(h':cY X.K H a ys):xs=ys:=by
 obtain⟨its,r,⟨o,e,_,n,d⟩,_⟩:=I.tuple h;obtain⟨its',r',⟨o',e',_,n',d'⟩,_⟩:=I.tuple h';rw[e] at e';cases e';rw[d] at d';injection d' with d1 _;have:its=its':=by simpa using cR Array.toList d1
 subst this;exact r.inj r'
end
noncomputable abbrev Cx.lZ(X:Cx)(E:aO):Cx:={X with xe:=E}
abbrev Cx.Cd(X:Cx):Cx:=X.lZ fun _ _=>False
theorem Cx.Ok.lZ{X:Cx}(ok:X.Ok)(E:aO):(X.lZ E).Ok:=
 ⟨ok.mod,ok.kind,ok.glob,ok.blt,ok.above,ok.inj,ok.has,ok.rG,ok.hd,ok.frames,ok.uU,ok.AI,ok.bs,ok.lC,ok.mP,ok.pU,ok.fK,ok.nF⟩
theorem Cx.Ok.q9{X:Cx}{E:aO}(ok:(X.lZ E).Ok):X.Ok:=
 ⟨ok.mod,ok.kind,ok.glob,ok.blt,ok.above,ok.inj,ok.has,ok.rG,ok.hd,ok.frames,ok.uU,ok.AI,ok.bs,ok.lC,ok.mP,ok.pU,ok.fK,ok.nF⟩
section
variable {X:Cx}{pins:aE}{σ:St}{H:Hp}{s:Shared}{E:aO}
theorem Inv.lZ(I:Inv X pins σ H s)(E:aO):Inv (X.lZ E) pins σ H s:=⟨I.ok.lZ E,I.os,I.bare,I.base,I.loc,I.cell,I.free,I.eN,I.pin,I.av,I.len⟩
theorem Inv.q9(I:Inv (X.lZ E) pins σ H s):Inv X pins σ H s:=⟨I.ok.q9,I.os,I.bare,I.base,I.loc,I.cell,I.free,I.eN,I.pin,I.av,I.len⟩
end
section
variable {X:Cx}{st:Stmt}{rest:List Stmt}{t u:TS}{e:Expr}{te:TE}{pos:Pos}
noncomputable def Mw:TS:=fun D σ H=>D.nx σ H
def Qu(t u:TS):TS:=fun D σ H=>t {D with nx:=u D} σ H
theorem Gv:dE X [] Mw:=fun _ _ σ H _ I h=>oR ⟨σ,H,I,h⟩
theorem DL(h1:PS X st t)(h2:dE X rest u):dE X (st::rest) (Qu t u):=by
 intro pins s σ H D I h;refine qO (az (h1 pins s σ H {D with nx:=u D} I h) fun f s1 q=>?_);cases f with
 |next=>
  obtain⟨σ',H',I',q⟩:=q;exact h2 pins s1 σ' H' D I' q
 |ret v=>exact q
 |brk=>exact q
 |cont=>exact q
theorem Fv(h1:PS X st t):dE X [st] t:=by
 intro pins s σ H D I h;refine qO (az (h1 pins s σ H D I h) fun f s1 q=>?_);cases f with
 |next=>exact oR q
 |ret v=>exact q
 |brk=>exact q
 |cont=>exact q
theorem Inv.quiet{pins:aE}{σ:St}{H:Hp}{s:Shared}(I:Inv X pins σ H s):interactive X.env=false:=by simp[interactive,I.ok.kind]
def Mu(te:TE):TS:=fun D σ H=>te σ H fun _ H1=>D.nx σ H1
theorem GG(he:PE X e te)(hs:swapsWith e none pos.line X.env=pure false:=by rfl):PS X (.Expr e pos) (Mu te):=by intro pins s σ H D I h;exact wpAny_Expr_any (az (he pins s σ H _ I h) fun v s1 Z=>Z.k2 fun x H1 I1 r1 q1=>⟨σ,H1,I1,q1⟩) I.quiet hs
def PK(te:TE):TS:=fun D σ H=>te σ H D.rt
theorem JG(he:PE X e te):PS X (.Return (some e) pos) (PK te):=by intro pins s σ H D I h;exact zt (az (he pins s σ H _ I h) fun v s1 Z=>Z.k2 fun x H1 I1 r1 q1=>⟨x,σ,H1,I1,r1,q1⟩)
noncomputable def Pr(c:TT)(t u:TS):TS:=fun D σ H=>c σ H fun b H1=>if b=true then t D σ H1 else u D σ H1
theorem LA{c:Expr}{a b:List Stmt}{tc:TT}(hc:PT X c tc)(ha:dE X a t)(hb:dE X b u):PS X (.If c a b pos) (Pr tc t u):=by
 intro pins s σ H D I h;refine wpAny_If (az (hc pins s σ H _ I h) fun d s1 Z=>Z.k1 fun H1 I1 q1=>?_);cases d with
 |true=>exact ha pins s1 σ H1 D I1 q1
 |false=>exact hb pins s1 σ H1 D I1 q1
end
abbrev TG:=V->St->Hp->(St->Hp->Prop)->Prop
abbrev u5:=List V->St->Hp->(St->Hp->Prop)->Prop
def PG(X:Cx)(target:Expr)(t:TG):Prop:=
 ∀(pins:aE)(s:Shared)(σ:St)(H:Hp)(v:V)(u:Value)(Q:St->Hp->Prop),Inv X pins σ H s->RelV v u->t v σ H Q->
  wpAny (model X.prog X.w) X.A (assign target X.env u) (fun _ s'=>∃σ' H',Inv X pins σ' H' s'/\Q σ' H') X.xe s
def EI(X:Cx)(ts:List Expr)(t:u5):Prop:=
 ∀(pins:aE)(s:Shared)(σ:St)(H:Hp)(vs:List V)(us:List Value)(Q:St->Hp->Prop),Inv X pins σ H s->Vals vs us->t vs σ H Q->
  wpAny (model X.prog X.w) X.A (assignInOrder ((assignEach ts X.env).map (·.2)) us) (fun _ s'=>∃σ' H',Inv X pins σ' H' s'/\Q σ' H') X.xe s
abbrev C2:=V->V->V->Hp->(Hp->Prop)->Prop
def K4(X:Cx)(t:C2):Prop:=
 ∀(pins:aE)(s:Shared)(σ:St)(H:Hp)(o i v:V)(ov iv u:Value)(Q:Hp->Prop),Inv X pins σ H s->RelV o ov->RelV i iv->RelV v u->t o i v H Q->
  wpAny (model X.prog X.w) X.A (setItem ov iv u) (fun _ s'=>∃H',Inv X pins σ H' s'/\Q H') X.xe s
abbrev EU:=V->V->Hp->VK->Prop
def Nl(X:Cx)(op:Operator)(t:EU):Prop:=
 ∀(pins:aE)(s:Shared)(σ:St)(H:Hp)(x y:V)(v u:Value)(Q:VK),Inv X pins σ H s->RelV x v->RelV y u->t x y H Q->
  wpAny (model X.prog X.w) X.A (inplaceOp op v u) (EP X pins σ Q) X.xe s
section
variable {X:Cx}{pos:Pos}
def gv(i:Nat):TG:=fun v σ H Q=>Q (σ.set i (some v)) H
theorem rT{i:Nat}{x:Str}(hN:X.N.Nodup)(hi:X.N[i]?=some x)(hx:Loc X.env.scope x)(hf:X.fn x=true\/X.env.scope.names.lookup x=some .local:=by first|exact .inl rfl|exact .inr rfl|assumption):PG X (.Name x pos) (gv i):=by intro pins s σ H v u Q I r h;exact wpAny_assign_Name (jK I hN hi hx r (fun s' I'=>⟨_,H,I',h⟩) hf)
noncomputable def CQ:u5:=fun vs σ H Q=>vs=[]/\Q σ H
noncomputable def oM(t:TG)(u:u5):u5:=fun vs σ H Q=>∃v r,vs=v::r/\t v σ H fun σ' H'=>u r σ' H' Q
theorem rJ:EI X [] CQ:=by intro pins s σ H vs us Q I r h;obtain⟨e,h⟩:=h;subst e;cases r;exact assignInOrder_nil ⟨σ,H,I,h⟩
theorem gH{e:Expr}{es:List Expr}{t:TG}{u:u5}(h1:PG X e t)(h2:EI X es u)
  (hs:(assignEach (e::es) X.env).map (·.2)=assign e X.env::(assignEach es X.env).map (·.2):=by rfl):EI X (e::es) (oM t u):=by
 intro pins s σ H vs us Q I r h;obtain⟨v,vr,e1,h⟩:=h;subst e1;cases r with
 |cons r rr=>
  rw[hs];refine assignInOrder_cons (az (h1 pins s σ H _ _ _ I r h) fun _ s1 Z=>Z.g fun σ1 Z=>Z.k1 fun H1 I1 q1=>?_);exact h2 pins s1 σ1 H1 _ _ Q I1 rr q1
noncomputable def CO(K:W.Frag)(n:Nat)(t:u5):TG:=fun v σ H Q=>∃a xs,v=.ref a/\cY K H a xs/\xs.length=n/\t xs σ H Q
theorem wR{es:List Expr}{k:Nat}{t:u5}{n:Nat}(hc:X.calm=true)(h:EI X es t)
  (hn:(assignEach es X.env).length=n:=by rfl) (hst:(assignEach es X.env).findIdx? (·.1)=none:=by rfl):PG X (.Tuple es k pos) (CO X.K n t):=by
 intro pins s σ H v u Q I r hw;obtain⟨a,xs,e1,hq,hl,hw⟩:=hw;subst e1;cases r;obtain⟨its,rv,ht,hz⟩:=I.tuple hq;refine assign_Tuple_tuple (I.ok.hd hc) ht (by simp[hn,<-hl,rv.length]) hst fun h' hx=>?_;have I1:Inv X pins σ H {s with heap:=h'}:=I.kept (t':=s.toks) fun b o e=>hx b o (cV (bw e)) e;exact h pins _ σ H xs _ Q I1 (by simpa using rv) hw
noncomputable def PJ(to ti:TE)(t:C2):TG:=fun v σ H Q=>to σ H fun o H1=>ti σ H1 fun i H2=>t o i v H2 fun H3=>Q σ H3
theorem HB{o i:Expr}{to ti:TE}{t:C2}(ho:PE X o to)(hi:PE X i ti)(hs:K4 X t)
  (ha:∀v,assign (.Subscript o i pos) X.env v=(do
   let ov <-holding [v] (eval o X.env)
   let iv <-holding [v,ov] (eval i X.env)
   standAt pos
   holding [v,ov,iv] (setItem ov iv v)
   release [v,ov,iv] []):=by intro _;rfl):PG X (.Subscript o i pos) (PJ to ti t):=by
 intro pins s σ H v u Q I r h;rw[ha];refine ag (jB (az (ho pins s σ H _ I h) fun ov s1 Z=>Z.k2 fun x H1 I1 r1 q1=>?_));refine ag (jB (az (hi pins s1 σ H1 _ I1 q1) fun iv s2 Z=>Z.k2 fun y H2 I2 r2 q2=>?_));refine ag (qU (ag (jB (az (hs pins s2 σ H2 x y v ov iv u _ I2 r1 r2 r q2) fun _ s3 Z=>Z.k1 fun H3 I3 q3=>?_))));exact wpAny_release ⟨σ,H3,I3,q3⟩
noncomputable def Il(te:TE)(g:TG):TS:=fun D σ H=>te σ H fun x H1=>g x σ H1 D.nx
theorem uw{tg e:Expr}{te:TE}{g:TG}(he:PE X e te)(hg:PG X tg g)(hs:swapsWithSole [tg] e pos.line X.env=pure false:=by rfl)(hw:swappedStores [tg] e X.env=pure none:=by rfl)
  (h1:(assignEach [tg] X.env).map (·.2)=[assign tg X.env]:=by rfl):PS X (.Assign [tg] e pos) (Il te g):=by
 intro pins s σ H D I h;refine wpAny_Assign_stores (az (he pins s σ H _ I h) fun v s1 Z=>Z.k2 fun x H1 I1 r1 q1=>?_) hs hw;rw[h1];exact az (hg pins s1 σ H1 x v _ I1 r1 q1) fun _ s2 q=>q
theorem Hw{i:Nat}{x:Str}{e:Expr}{te:TE}{pos':Pos}(hN:X.N.Nodup)(hi:X.N[i]?=some x)(hx:Loc X.env.scope x)(he:PE X e te)(hs:swapsWith e (some (.Name x pos')) pos.line X.env=pure false:=by rfl)(hf:X.fn x=true\/X.env.scope.names.lookup x=some .local:=by first|exact .inl rfl|exact .inr rfl|assumption):
  PS X (.Assign [.Name x pos'] e pos) (Il te (gv i)):=by
 intro pins s σ H D I h;refine wpAny_Assign_Name (az (he pins s σ H _ I h) fun v s1 Z=>Z.k2 fun y H1 I1 r1 q1=>?_) hs;exact jK I1 hN hi hx r1 (fun s2 I2=>⟨_,H1,I2,q1⟩) hf
noncomputable def P6(i:Nat)(te:TE)(ti:EU):TS:=fun D σ H=>∃x,σ[i]?=some (some x)/\te σ H fun y H1=>ti x y H1 fun z H2=>D.nx (σ.set i (some z)) H2
theorem KO{i:Nat}{x:Str}{e:Expr}{te:TE}{op:Operator}{ti:EU}{pos':Pos}(hN:X.N.Nodup)(hi:X.N[i]?=some x)(hx:Loc X.env.scope x)(he:PE X e te)(ho:Nl X op ti)(hf:X.fn x=true\/X.env.scope.names.lookup x=some .local:=by first|exact .inl rfl|exact .inr rfl|assumption):
  PS X (.AugAssign (.Name x pos') op e pos) (P6 i te ti):=by
 intro pins s σ H D I h;obtain⟨v,e1,h⟩:=h;obtain⟨m,hn,hl⟩:=I.loc;have lI:m8 X.env.scope x:=by rcases hx with k|k;exact .inl k;exact .inr (.inl k)
 obtain⟨u,r,l⟩:=hl i x v hi e1 lI;refine wpAny_AugAssign_Name ?_;have go:wpAny (model X.prog X.w) X.A (eval e X.env) (fun w s₂=>wpAny (model X.prog X.w) X.A (inplaceOp op u w) (fun r s₃=>wpAny (model X.prog X.w) X.A (storeName X.env x r) (fun _=>SP X pins D .next) X.xe s₃) X.xe s₂) X.xe s:=by refine az (he pins s σ H _ I h) fun w s1 Z=>Z.k2 fun y H1 I1 r1 q1=>?_;refine az (ho pins s1 σ H1 v y u w _ I1 r r1 q1) fun z s2 Z=>Z.k2 fun zv H2 I2 r2 q2=>?_;exact jK I2 hN hi hx r2 (fun s3 I3=>⟨_,H2,I3,q2⟩) hf
 rcases l with ⟨hk,hm⟩|⟨hk,c,hc,hcell⟩
 .exact wpAny_loadName_local I.ok.kind hk hn hm go
 .rcases hk with hk|hk
  .exact wpAny_loadName_cell I.ok.kind hk hc hcell go
  .rcases hx with k|k
   .have:X.env.scope.names.lookup x=some .free:=hk;rw[k] at this;cases this
   .have:X.env.scope.names.lookup x=some .free:=hk;rw[k] at this;cases this
noncomputable def Rf(f:Int->Int->Int):EU:=fun x y H Q=>∃i j,x=.int i/\y=.int j/\Q (.int (f i j)) H
theorem Ju:Nl X .Add (Rf fun i j=>i+j):=by intro pins s σ H x y v u Q I r1 r2 h;obtain⟨i,j,e1,e2,q⟩:=h;subst e1;subst e2;obtain⟨t,rfl⟩:=r1;obtain⟨t',rfl⟩:=r2;exact iadd_int ⟨.int _,H,I.tok _,⟨_,rfl⟩,q⟩
end
section
variable {X:Cx}{pos:Pos}
def GX(c:TT)(tb:TS):TS:=fun D σ H=>∃W:Nat->St->Hp->Prop,(∃m,W m σ H)/\∀m σ H,W m σ H->
 c σ H fun b H1=>if b=true then ∃N:St->Hp->Prop,(∀σ' H',N σ' H'->∃m',m'<m/\W m' σ' H')/\tb {D with nx:=N,ct:=N,bk:=D.nx} σ H1 else D.nx σ H1
theorem D9{c:Expr}{body:List Stmt}{tc:TT}{tb:TS}(hp:PassesOwn (model X.prog X.w) X.A X.env X.xe)(hc:PT X c tc)(hb:dE X body tb):PS X (.While c body [] pos) (GX tc tb):=by
 intro pins s σ H D I h;obtain⟨W,⟨m0,w0⟩,turn⟩:=h;refine wpAny_While (codeAny_whileLoop (fun n s'=>∃σ' H',Inv X pins σ' H' s'/\W n σ' H') ?_ m0 ⟨σ,H,I,w0⟩)
 rintro n s1 ⟨σ1,H1,I1,w1⟩
 refine lU hp (az (hc pins s1 σ1 H1 _ I1 (turn n σ1 H1 w1)) fun b s2 Z=>Z.k1 fun H2 I2 q2=>?_);cases b with
 |true=>
  obtain⟨N,hN,q2⟩:=q2;rw[if_pos rfl];refine lU hp (az (hb pins s2 σ1 H2 _ I2 q2) fun f s3 q3=>?_);cases f with
  |next=>
   obtain⟨σ3,H3,I3,n3⟩:=q3;obtain⟨m',hm,w3⟩:=hN σ3 H3 n3;exact⟨m',hm,σ3,H3,I3,w3⟩
  |cont=>
   obtain⟨σ3,H3,I3,n3⟩:=q3;obtain⟨m',hm,w3⟩:=hN σ3 H3 n3;exact⟨m',hm,σ3,H3,I3,w3⟩
  |brk=>exact q3
  |ret v=>exact q3
 |false=>
  rw[if_neg j0];exact oR ⟨σ1,H2,I2,q2⟩
end
structure It where
 go:Nat->Hp->Prop
 Em:Nat->Hp->V->Hp->Prop
 stop:Nat->Hp->Prop
def fY(X:Cx)(pins:aE)(H:Hp)(b:Addr):Prop:=
 H b=none/\b≠X.env.locals/\b∉X.fs/\(b∈X.ex\/X.aG.heap.objs.size<=b)/\(∀x c,X.env.cells.lookup x=some c->c≠b)/\∀p∈X.pn++pins,p.1≠b
theorem Inv.uS{X:Cx}{pins:aE}{σ:St}{H H':Hp}{s:Shared}{b:Addr}(I:Inv X pins σ H s)(hb:s.heap.objs.size<=b)(hn:H' b=none):fY X pins H' b:=by
 refine⟨hn,mK (bT I.lt hb),I.HQ hb,.inr (bG I.sz hb),fun x c e z=>?_,fun p hp z=>?_⟩
 .obtain⟨v,q⟩:=I.cell x c e;exact absurd (bT q.lt (by rw[z];exact hb)) (pX _)
 .exact absurd (bT (bw (I.pin p hp).1) (by rw[z];exact hb)) (pX _)
structure Turn(P:Program)(w:World)(K:W.Frag)(tg:Expr)(J:It)(fp:List Addr)(it:Addr)(tn:Nat->Heap->Prop):Prop where
 mem:it∈fp
 obj:∀i h,tn i h->∀b∈fp,∃o,h.get? b=some o/\∀v,o.data≠.cell v
 keep:∀i h h',tn i h->(∀b∈fp,∀o,h.get? b=some o->h'.get? b=some o)->tn i h'
 item:∀(X:Cx),X.prog=P->X.w=w->X.K=K->X.calm=true->∀(i:Nat)(pins:aE)(s:Shared)(σ:St)(H:Hp)(E:aO),Inv X pins σ H s->(∀b∈fp,fY X pins H b)->tn i s.heap->J.go i H->
  wpAny (model P w) X.A (pyNext (.ref it)) (fun r s1=>∃u,r=some u/\
   wpAny (model P w) X.A (letOwnedTupleGo tg (.ref it) u) (fun _ s2=>∃x H',Inv X pins σ H' s2/\RelV x u/\J.Em i H x H'/\tn (i+1) s2.heap/\∀b∈fp,H' b=none) E s1) E s
 done:∀(X:Cx),X.prog=P->X.w=w->X.K=K->X.calm=true->∀(i:Nat)(pins:aE)(s:Shared)(σ:St)(H:Hp)(E:aO),Inv X pins σ H s->(∀b∈fp,fY X pins H b)->tn i s.heap->J.stop i H->
  wpAny (model P w) X.A (pyNext (.ref it)) (fun r s1=>r=none/\Inv X pins σ H s1) E s
 self:∀(A:Around)(i:Nat)(s:Shared)(Q:aO)(E:aO),tn i s.heap->Q (.ref it) s->wpAny (model P w) A (pyIter (.ref it)) Q E s
abbrev TI:=St->Hp->(It->Hp->Prop)->Prop
def Ny(X:Cx)(pins:aE)(σ:St)(tg:Expr)(R:It->Hp->Prop)(itv:Value)(s2:Shared):Prop:=
 ∃(it:Addr) (fp:List Addr) (tn:Nat->Heap->Prop) (J:It) (H':Hp),itv=.ref it/\Inv X pins σ H' s2/\Turn X.prog X.w X.K tg J fp it tn/\tn 0 s2.heap/\(∀b∈fp,fY X pins H' b)/\R J H'
def PI(X:Cx)(tg iter:Expr)(wi:TI):Prop:=
 ∀(pins:aE)(s:Shared)(σ:St)(H:Hp)(R:It->Hp->Prop),Inv X pins σ H s->wi σ H R->
  wpAny (model X.prog X.w) X.A (eval iter X.env) (fun v s1=>wpAny (model X.prog X.w) X.A (pyIter v) (Ny X pins σ tg R) X.xe s1) X.xe s
theorem qI{M:Model}{A:Around}{E:aO}{s:Shared}{tg:Expr}{it:Addr}{u:Value}{o:Obj}{n:String}{vs:Array Value}{Q:Unit->Shared->Prop}(ho:s.heap.get? it=some o)(hc:o.cls=.type n)(hd:o.data=.fields vs)
  (hn: ["enumerate", "zip", "dict_itemiterator", "dict_reverseitemiterator", "odict_iterator", "itertools.zip_longest", "itertools.pairwise"].contains n=false) (hQ:Q () s):wpAny M A (letOwnedTupleGo tg (.ref it) u) Q E s:=by
 unfold letOwnedTupleGo;cases tg<;>first
  |exact aC hQ
  |(cases u<;>first
    |exact aC hQ
    |(refine ag (wpAny_load ho ?_)
      rw[hc,hd];show wpAny M A (if (["enumerate", "zip", "dict_itemiterator", "dict_reverseitemiterator", "odict_iterator", "itertools.zip_longest", "itertools.pairwise"].contains n&&vs[0]?== some (rawInt _))=true then _ else _) Q E s;rw[if_neg (by intro h;rw[hn,Bool.false_and] at h;cases h)];exact aC hQ))
def HL(K:W.Frag)(a:Addr):It:=
 ⟨fun i H=>∃xs x,bW K H a xs/\xs[i]?=some x,fun i H x H'=>H'=H/\∀xs,bW K H a xs->xs[i]?=some x,fun i H=>∃xs,bW K H a xs/\xs.length<=i⟩
def G9(K:W.Frag)(a:Addr):It:=
 ⟨fun i H=>∃xs x,cY K H a xs/\xs[i]?=some x,fun i H x H'=>H'=H/\∀xs,cY K H a xs->xs[i]?=some x,fun i H=>∃xs,cY K H a xs/\xs.length<=i⟩
noncomputable def AR(lo:Int)(n:Nat):It:=⟨fun i _=>i<n,fun i H x H'=>H'=H/\x=.int (lo+i),fun i _=>n<=i⟩
theorem Bq{P:Program}{w:World}{K:W.Frag}{tg:Expr}(a it:Addr):Turn P w K tg (HL K a) [it] it (fun i h=>h.IsListIter it a i) where
 mem:=by simp
 obj:=fun i h st b hb=>by
  have e:b=it:=by simpa using hb
  subst e;obtain⟨o,e,c,d⟩:=st;exact⟨o,e,fun v z=>by rw[d] at z;cases z⟩
 keep:=fun i h h' st k=>st.at fun o e=>k it (by simp) o e
 item:=by intro X hP hw hK hc i pins s σ H E I hf st hg;subst hP hw hK;obtain⟨xs,x,hq,hx⟩:=hg;obtain⟨its,rv,p,hz⟩:=I.list hq;obtain⟨u,hu,ru⟩:=rv.get hx;obtain⟨f0,f1,f2,f3,f4,f5⟩:=hf it (by simp);refine wpAny_pyNext_list_item st p.isList (x:=u) (by simpa using hu) fun h' st' sb=>?_;have I1:Inv X pins σ H {s with heap:=h'}:=I.turned (t':=s.toks) (fun b o hb e=>(sb.2 b hb).trans e) f0 f1 f3 f4 f5;obtain⟨o,e,c,d⟩:=id st';exact⟨u,rfl,qI (s:={s with heap:=h'}) e c d (by decide) ⟨x,H,I1,ru,⟨rfl,fun ys hy=>by rw[I.wG hy hq];exact hx⟩,st',fun b hb=>(hf b hb).1⟩⟩
 done:=by intro X hP hw hK hc i pins s σ H E I hf st hg;subst hP hw hK;obtain⟨xs,hq,hx⟩:=hg;obtain⟨its,rv,p,hz⟩:=I.list hq;obtain⟨f0,f1,f2,f3,f4,f5⟩:=hf it (by simp);have hl:=rv.length;exact wpAny_pyNext_list_end (I.ok.hd hc) st p.isList (by simp;lia) fun h' eb=>⟨rfl,I.turned (t':=s.toks) (fun b o hb e=>eb b o hb e) f0 f1 f3 f4 f5⟩
 self:=fun _ _ _ _ _ st h=>wpAny_pyIter_listiter st h
theorem Ar{P:Program}{w:World}{K:W.Frag}{tg:Expr}(a it:Addr):Turn P w K tg (G9 K a) [it] it (fun i h=>h.IsTupleIter it a i) where
 mem:=by simp
 obj:=fun i h st b hb=>by
  have e:b=it:=by simpa using hb
  subst e;obtain⟨o,e,c,d⟩:=st;exact⟨o,e,fun v z=>by rw[d] at z;cases z⟩
 keep:=fun i h h' st k=>st.at fun o e=>k it (by simp) o e
 item:=by intro X hP hw hK hc i pins s σ H E I hf st hg;subst hP hw hK;obtain⟨xs,x,hq,hx⟩:=hg;obtain⟨its,rv,p,hz⟩:=I.tuple hq;obtain⟨u,hu,ru⟩:=rv.get hx;obtain⟨f0,f1,f2,f3,f4,f5⟩:=hf it (by simp);refine wpAny_pyNext_tuple_item st (show s.heap.IsTuple a its.toArray from p) (x:=u) (by simpa using hu) fun h' st' sb=>?_;have I1:Inv X pins σ H {s with heap:=h'}:=I.turned (t':=s.toks) (fun b o hb e=>(sb.2 b hb).trans e) f0 f1 f3 f4 f5;obtain⟨o,e,c,d⟩:=id st';exact⟨u,rfl,qI (s:={s with heap:=h'}) e c d (by decide) ⟨x,H,I1,ru,⟨rfl,fun ys hy=>by rw[I.sJ hy hq];exact hx⟩,st',fun b hb=>(hf b hb).1⟩⟩
 done:=by intro X hP hw hK hc i pins s σ H E I hf st hg;subst hP hw hK;obtain⟨xs,hq,hx⟩:=hg;obtain⟨its,rv,p,hz⟩:=I.tuple hq;obtain⟨f0,f1,f2,f3,f4,f5⟩:=hf it (by simp);have hl:=rv.length;exact wpAny_pyNext_tuple_end (I.ok.hd hc) st (show s.heap.IsTuple a its.toArray from p) (by simp;lia) fun h' eb=>⟨rfl,I.turned (t':=s.toks) (fun b o hb e=>eb b o hb e) f0 f1 f3 f4 f5⟩
 self:=fun _ _ _ _ _ st h=>wpAny_pyIter_tupleiter st h
theorem zu{P:Program}{w:World}{K:W.Frag}{tg:Expr}(it:Addr)(lo:Int)(n:Nat):Turn P w K tg (AR lo n) [it] it (fun i h=>IsRangeIter h it (lo+(i:Nat) * 1) ((n:Int)-(i:Nat)) 1) where
 mem:=by simp
 obj:=fun i h st b hb=>by
  have e:b=it:=by simpa using hb
  subst e;exact⟨_,st,fun v z=>by
   have z':Data.fields _=Data.cell v:=z;cases z'⟩
 keep:=fun i h h' st k=>k it (by simp) _ st
 item:=by intro X hP hw hK hc i pins s σ H E I hf st hg;subst hP hw hK;obtain⟨f0,f1,f2,f3,f4,f5⟩:=hf it (by simp);have W:=Walks.range (prog:=X.prog) (w:=X.w) (I.ok.hd hc) it lo 1 n;refine W.item i s _ _ hg st fun v h' tk hv st' kk=>?_;obtain⟨t,rfl⟩:=hv;have I1:Inv X pins σ H {s with heap:=h',toks:=tk}:=I.turned (fun b o hb e=>kk b o (by simpa using hb) e) f0 f1 f3 f4 f5;refine⟨_,rfl,qI (s:={s with heap:=h',toks:=tk}) (n:= "range_iterator") st' rfl rfl (by decide) ⟨.int (lo+i),H,I1,⟨t,?_⟩,⟨rfl,rfl⟩,st',fun b hb=>(hf b hb).1⟩⟩;rw[Int.mul_one]
 done:=by intro X hP hw hK hc i pins s σ H E I hf st hg;subst hP hw hK;obtain⟨f0,f1,f2,f3,f4,f5⟩:=hf it (by simp);exact wpAny_pyNext_range_end (I.ok.hd hc) st (by have:n<=i:=hg;lia) fun h' eb=>⟨rfl,I.turned (t':=s.toks) (fun b o hb e=>eb b o hb e) f0 f1 f3 f4 f5⟩
 self:=fun _ _ _ _ _ st h=>wpAny_pyIter_rangeiter st h
section
variable {X:Cx}{tg:Expr}
noncomputable def LN(K:W.Frag)(tl:TE):TI:=fun σ H R=>tl σ H fun x H1=>∃a,x=.ref a/\(∃xs,bW K H1 a xs)/\R (HL K a) H1
noncomputable def P4(K:W.Frag)(tl:TE):TI:=fun σ H R=>tl σ H fun x H1=>∃a,x=.ref a/\(∃xs,cY K H1 a xs)/\R (G9 K a) H1
theorem Fy{l:Expr}{tl:TE}(hl:PE X l tl):PI X tg l (LN X.K tl):=by
 intro pins s σ H R I h;refine az (hl pins s σ H _ I h) fun v s1 Z=>Z.k2 fun x H1 I1 r1 q1=>?_;obtain⟨a,e,⟨xs,hq⟩,q⟩:=q1;subst e;cases r1;obtain⟨its,rv,p,hz⟩:=I1.list hq;refine wpAny_pyIter_list p.isList ?_;refine⟨s1.heap.objs.size,[s1.heap.objs.size],_,_,H1,rfl,I1.kept (t':=s1.toks) fun b o e=>bM _ e,Bq a _,⟨_,fN _ rfl,rfl,rfl⟩,fun b hb=>?_,q⟩;have e:b=s1.heap.objs.size:=by simpa using hb
 subst e;exact I1.uS (aA _) (I1.av.fresh (aA _))
theorem HP{l:Expr}{tl:TE}(hl:PE X l tl):PI X tg l (P4 X.K tl):=by
 intro pins s σ H R I h;refine az (hl pins s σ H _ I h) fun v s1 Z=>Z.k2 fun x H1 I1 r1 q1=>?_;obtain⟨a,e,⟨xs,hq⟩,q⟩:=q1;subst e;cases r1;obtain⟨its,rv,p,hz⟩:=I1.tuple hq;refine wpAny_pyIter_tuple (show s1.heap.IsTuple a its.toArray from p) ?_;refine⟨s1.heap.objs.size,[s1.heap.objs.size],_,_,H1,rfl,I1.kept (t':=s1.toks) fun b o e=>bM _ e,Ar a _,⟨_,fN _ rfl,rfl,rfl⟩,fun b hb=>?_,q⟩;have e:b=s1.heap.objs.size:=by simpa using hb
 subst e;exact I1.uS (aA _) (I1.av.fresh (aA _))
theorem vC{pins:aE}{σ:St}{H:Hp}{s:Shared}{R:It->Hp->Prop}{E:aO}{lo hi:Int}{t u v:Tok}{tk:Nat}(I:Inv X pins σ H s)(h1: -(2 ^ 62)<=lo)(h2:lo<2 ^ 62)(h3: -(2 ^ 62)<=hi)(h4:hi<2 ^ 62)
  (q:R (AR lo (hi-lo).toNat) H):wpAny (model X.prog X.w) X.A (pyIter (.ref s.heap.objs.size)) (Ny X pins σ tg R) E {s with heap:=s.heap.push {cls:=.type "range",data:=.fields #[.int lo t,.int hi u,.int 1 v]},toks:=tk}:=by
 refine wpAny_pyIter_range (IsRange.new ..) (small_one h1 h2 h3 h4) ?_;have I1:Inv X pins σ H {s with heap:=s.heap.push {cls:=.type "range",data:=.fields #[.int lo t,.int hi u,.int 1 v]},toks:=tk}:=I.kept fun b o e=>bM _ e;refine⟨(s.heap.push {cls:=.type "range",data:=.fields #[.int lo t,.int hi u,.int 1 v]}).objs.size,[(s.heap.push {cls:=.type "range",data:=.fields #[.int lo t,.int hi u,.int 1 v]}).objs.size],_,_,H,rfl,
  I1.kept (t':=tk) fun b o e=>bM _ e,zu _ lo (hi-lo).toNat,?_,fun b hb=>?_,q⟩
 .have e1:lo+((0:Nat):Int) * 1=lo:=by simp
  have e2:(((hi-lo).toNat:Nat):Int)-((0:Nat):Int)=Builtin.Range.rangeSize lo hi 1:=by rw[rangeSize_one];split<;>lia
  show IsRangeIter _ _ (lo+((0:Nat):Int) * 1) ((((hi-lo).toNat:Nat):Int)-((0:Nat):Int)) 1;rw[e1,e2];exact fN _ rfl
 .have e:b=(s.heap.push {cls:=.type "range",data:=.fields #[.int lo t,.int hi u,.int 1 v]}).objs.size:=by simpa using hb
  subst e;exact I1.uS (aA _) (I1.av.fresh (aA _))
def MT(ta:TA):TI:=fun σ H R=>ta σ H fun vs H1=>∃j:Int,vs=[.int j]/\ -(2 ^ 62)<=j/\j<2 ^ 62/\R (AR 0 j.toNat) H1
def Mz(ta:TA):TI:=fun σ H R=>ta σ H fun vs H1=>∃i j:Int,vs=[.int i,.int j]/\(-(2 ^ 62)<=i/\i<2 ^ 62/\ -(2 ^ 62)<=j/\j<2 ^ 62)/\R (AR i (j-i).toNat) H1
theorem AE{a:Expr}{ta:TA}{p pos:Pos}(hg:Gl X "range")(hm:X.mg "range" = none)(ha:PA X [a] ta)(hs:starEach [a] X.env=[(false,eval a X.env)]:=by rfl):PI X tg (.Call (.Name "range" p) [a] [] pos) (MT ta):=by
 intro pins s σ H R I h;refine Call_ (lF I hg hm boot_range (zD (az (ha pos pins s σ H _ I h) fun us s1 Z=>Z.k2 fun vs H1 I1 r1 q1=>?_) hs rfl));obtain⟨j,e,q1,q2,q⟩:=q1;subst e;cases r1 with
 |cons r rr=>
  cases rr;obtain⟨t,rfl⟩:=r;exact call_range_1 (vC I1 (by lia) (by lia) q1 q2 (by simpa using q))
theorem BV{a b:Expr}{ta:TA}{p pos:Pos}(hg:Gl X "range")(hm:X.mg "range" = none)(ha:PA X [a,b] ta)(hs:starEach [a,b] X.env=[(false,eval a X.env),(false,eval b X.env)]:=by rfl)(hs2:starEach [b] X.env=[(false,eval b X.env)]:=by rfl):
  PI X tg (.Call (.Name "range" p) [a,b] [] pos) (Mz ta):=by
 intro pins s σ H R I h;refine Call_ (lF I hg hm boot_range (zD (az (ha pos pins s σ H _ I h) fun us s1 Z=>Z.k2 fun vs H1 I1 r1 q1=>?_) (by rw[hs,hs2]) (by rw[hs2];rfl)));obtain⟨i,j,e,⟨q1,q2,q3,q4⟩,q⟩:=q1;subst e;cases r1 with
 |cons r rr=>
  cases rr with
  |cons r' rr=>
   cases rr;obtain⟨t,rfl⟩:=r;obtain⟨t',rfl⟩:=r';exact call_range_2 (vC I1 q1 q2 q3 q4 q)
def P8(wi:TI)(g:TG)(tb:TS):TS:=fun D σ H=>wi σ H fun J H1=>∃W:Nat->Nat->St->Hp->Prop,(∃m,W 0 m σ H1)/\∀i m σ H,W i m σ H->
 (J.stop i H/\D.nx σ H)\/(J.go i H/\∃N:St->Hp->Prop,(∀σ' H',N σ' H'->∃m',m'<m/\W (i+1) m' σ' H')/\∀x H',J.Em i H x H'->g x σ H' fun σ2 H2=>tb {D with nx:=N,ct:=N,bk:=D.nx} σ2 H2)
noncomputable def j8(fp:List Addr)(h:Heap):aE:=fp.filterMap fun b=>(h.get? b).map fun o=>(b,o)
theorem gU{fp:List Addr}{h:Heap}{b:Addr}{o:Obj}(hb:b∈fp)(e:h.get? b=some o):(b,o)∈j8 fp h:=List.mem_filterMap.mpr ⟨b,hb,by rw[e];rfl⟩
theorem AL{fp:List Addr}{h:Heap}{p:Addr×Obj}(hp:p∈j8 fp h):p.1∈fp/\h.get? p.1=some p.2:=by
 obtain⟨b,hb,e⟩:=List.mem_filterMap.mp hp;cases q:h.get? b with
 |none=>rw[q] at e;cases e
 |some o=>
  rw[q] at e;have e':(b,o)=p:=j1 e;subst e';exact⟨hb,q⟩
theorem Inv.pinned{pins:aE}{σ:St}{H:Hp}{s:Shared}{fp:List Addr}(I:Inv X pins σ H s)(hf:∀b∈fp,fY X pins H b)(ho:∀b∈fp,∃o,s.heap.get? b=some o/\∀v,o.data≠.cell v):Inv X (pins++j8 fp s.heap) σ H s:=
 I.o5 fun p hp=>(sm.mp hp).elim (fun z=>I.pin p (fq _ z)) fun z=>by
  obtain⟨hb,e⟩:=AL z;obtain⟨f0,f1,f2,_⟩:=hf p.1 hb;obtain⟨o,e',d⟩:=ho p.1 hb;rw[e] at e';cases e';exact⟨e,f0,f1,f2,d⟩
theorem Inv.jQ{pins pl:aE}{σ:St}{H:Hp}{s:Shared}(I:Inv X (pins++pl) σ H s):Inv X pins σ H s:=I.o5 fun p hp=>I.pin p (fq _ (zV _ hp))
theorem HN{iter:Expr}{body:List Stmt}{wi:TI}{g:TG}{tb:TS}{pos:Pos}(hp:PassesOwn (model X.prog X.w) X.A X.env X.xe)(hc:X.calm=true)(hi:PI X tg iter wi)(hg:PG X tg g)(hb:dE X body tb)
  (hs:∀x,foldedSetIterable iter X.env x=pure x:=by intro _;rfl):PS X (.For tg iter body [] pos) (P8 wi g tb):=by
 intro pins s σ H D I h;refine wpAny_For (az (hi pins s σ H _ I h) fun v s1 h1=>az h1 fun itv s2 h2=>?_) hs;obtain⟨it,fp,tn,J,H2,e,I2,T,st2,f2,W,⟨m0,w0⟩,turn⟩:=h2;subst e;have stat:∀{H':Hp},(∀b∈fp,H' b=none)->∀b∈fp,fY X pins H' b:=fun hn b hb=>⟨hn b hb,(f2 b hb).2⟩;refine codeAny_forLoop_any (fun n s'=>∃i σ' H',Inv X pins σ' H' s'/\tn i s'.heap/\(∀b∈fp,H' b=none)/\W i n σ' H') ?_ m0 ⟨0,σ,H2,I2,st2,fun b hb=>(f2 b hb).1,w0⟩
 rintro n s3 ⟨i,σ3,H3,I3,st3,fr3,w3⟩
 rcases turn i n σ3 H3 w3 with ⟨stop,qn⟩|⟨go,N,hN,step⟩
 .refine lU hp (az (T.done X rfl rfl rfl hc i pins s3 σ3 H3 X.xe I3 (stat fr3) st3 stop) fun r s4 Z=>Z.g fun hr I4=>?_);subst hr;exact oR ⟨σ3,H3,I4,qn⟩
 .refine lU hp (az (T.item X rfl rfl rfl hc i pins s3 σ3 H3 X.xe I3 (stat fr3) st3 go) fun r s4 Z=>Z.g fun u Z=>Z.g fun hr h4=>?_);subst hr;refine lU hp (az h4 fun _ s5 Z=>Z.k2 fun x H5 I5 r5 Z=>Z.g fun y5 Z=>Z.g fun st5 fr5=>?_);have I5':=I5.pinned (stat fr5) (T.obj _ _ st5);refine lU hp (az (hg _ s5 σ3 H5 x u _ I5' r5 (step x H5 y5)) fun _ s6 Z=>Z.g fun σ6 Z=>Z.k1 fun H6 I6 q6=>?_);refine lU hp (az (hb _ s6 σ6 H6 _ I6 q6) fun f s7 q7=>?_);have again:∀{σ7:St}{H7:Hp},Inv X (pins++j8 fp s5.heap) σ7 H7 s7->N σ7 H7->∃m,m<n/\∃i σ' H',Inv X pins σ' H' s7/\tn i s7.heap/\(∀b∈fp,H' b=none)/\W i m σ' H':=fun {σ7 H7} I7 n7=>by
   obtain⟨m',hm,w7⟩:=hN σ7 H7 n7;refine⟨m',hm,i+1,σ7,H7,I7.jQ,T.keep _ _ _ st5 fun b hb o e=>(I7.pin (b,o) (fq _ (fq _ (gU hb e)))).1,fun b hb=>?_,w7⟩;obtain⟨o,e,d⟩:=T.obj _ _ st5 b hb;exact (I7.pin (b,o) (fq _ (fq _ (gU hb e)))).2.1
  cases f with
  |next=>obtain⟨σ7,H7,I7,n7⟩:=q7;exact again I7 n7
  |cont=>obtain⟨σ7,H7,I7,n7⟩:=q7;exact again I7 n7
  |brk=>obtain⟨σ7,H7,I7,q7⟩:=q7;exact⟨σ7,H7,I7.jQ,q7⟩
  |ret v=>obtain⟨x7,σ7,H7,I7,r7,q7⟩:=q7;exact⟨x7,σ7,H7,I7.jQ,r7,q7⟩
end
abbrev R2:=V->V->Hp->VK->Prop
def cX(X:Cx)(f:Value->Value->Sem Value)(r:R2):Prop:=
 ∀(pins:aE)(s:Shared)(σ:St)(H:Hp)(x y:V)(v u:Value)(Q:VK),Inv X pins σ H s->RelV x v->RelV y u->r x y H Q->
  wpAny (model X.prog X.w) X.A (f v u) (EP X pins σ Q) X.xe s
def js(X:Cx)(f:Value)(r:List V->Hp->VK->Prop):Prop:=
 ∀(pins:aE)(s:Shared)(σ:St)(H:Hp)(xs:List V)(us:List Value)(Q:VK),Inv X pins σ H s->Vals xs us->r xs H Q->
  wpAny (model X.prog X.w) X.A (call f us) (EP X pins σ Q) X.xe s
def Qd(X:Cx)(r:V->Hp->(Bool->Hp->Prop)->Prop):Prop:=
 ∀(pins:aE)(s:Shared)(σ:St)(H:Hp)(x:V)(v:Value)(Q:Bool->Hp->Prop),Inv X pins σ H s->RelV x v->r x H Q->
  wpAny (model X.prog X.w) X.A (truthy v) (TP X pins σ Q) X.xe s
noncomputable def xN(r:R2)(ta tb:TE):TE:=fun σ H Q=>ta σ H fun x H1=>tb σ H1 fun y H2=>r x y H2 Q
noncomputable def rI(C:Int->Int->Prop)(g:Int->Int->V):R2:=fun x y H Q=>∃i j,x=.int i/\y=.int j/\C i j/\Q (g i j) H
noncomputable def pv(g:Int->Int->V):R2:=fun x y H Q=>∃i j,x=.int i/\y=.int j/\Q (g i j) H
section
variable {X:Cx}{a b c:Expr}{ta tb tc:TE}{pos:Pos}
theorem CP(ha:PE X a ta)(hb:PE X b tb){pins:aE}{s:Shared}{σ:St}{H:Hp}{R:V->V->Hp->Prop}(I:Inv X pins σ H s)
  (h:ta σ H fun x H1=>tb σ H1 fun y H2=>R x y H2) {Q:aO}{f:Value->Value->Sem Value}
  (hf:∀v u s2 x y H2,Inv X pins σ H2 s2->RelV x v->RelV y u->R x y H2->wpAny (model X.prog X.w) X.A (f v u) Q X.xe s2):
  wpAny (model X.prog X.w) X.A (eval a X.env) (fun v s₁=>wpAny (model X.prog X.w) X.A (eval b X.env) (fun u s₂=>wpAny (model X.prog X.w) X.A (f v u) Q X.xe s₂) X.xe s₁) X.xe s:=by
 refine az (ha pins s σ H _ I h) fun v s1 Z=>Z.k2 fun x H1 I1 r1 q1=>?_;refine az (hb pins s1 σ H1 _ I1 q1) fun u s2 Z=>Z.k2 fun y H2 I2 r2 q2=>?_;exact hf v u s2 x y H2 I2 r1 r2 q2
theorem oH{op:Operator}{r:R2}(ho:cX X (binaryOp op) r)(ha:PE X a ta)(hb:PE X b tb):PE X (.BinOp a op b pos) (xN r ta tb):=by intro pins s σ H Q I h;exact wpAny_BinOp (CP ha hb I h fun v u s2 x y H2 I2 rx ry q=>ho pins s2 σ H2 x y v u Q I2 rx ry q)
theorem Eu{f:Value->Value->Sem Value}{C:Int->Int->Prop}{g:Int->Int->Int}
  (rule:∀(i j:Int)(t u:Tok)(s:Shared)(Q:aO)(E:aO),C i j->Q (.int (g i j) s.toks) {s with toks:=s.toks+1}->wpAny (model X.prog X.w) X.A (f (.int i t) (.int j u)) Q E s):
  cX X f (rI C fun i j=>.int (g i j)):=by
 intro pins s σ H x y v u Q I rx ry h;obtain⟨i,j,rfl,rfl,hc,q⟩:=h;obtain⟨t,rfl⟩:=rx;obtain⟨t',rfl⟩:=ry;exact rule i j t t' s _ _ hc ⟨.int (g i j),H,I.tok _,⟨_,rfl⟩,q⟩
theorem HZ{f:Value->Value->Sem Value}{g:Int->Int->Int}
  (rule:∀(i j:Int)(t u:Tok)(s:Shared)(Q:aO)(E:aO),Q (.int (g i j) s.toks) {s with toks:=s.toks+1}->wpAny (model X.prog X.w) X.A (f (.int i t) (.int j u)) Q E s):
  cX X f (pv fun i j=>.int (g i j)):=by
 intro pins s σ H x y v u Q I rx ry h;obtain⟨i,j,rfl,rfl,q⟩:=h;obtain⟨t,rfl⟩:=rx;obtain⟨t',rfl⟩:=ry;exact rule i j t t' s _ _ ⟨.int (g i j),H,I.tok _,⟨_,rfl⟩,q⟩
theorem yX{f:Value->Value->Sem Value}{g:Int->Int->Bool}
  (rule:∀(i j:Int)(t u:Tok)(s:Shared)(Q:aO)(E:aO),Q (.bool (g i j)) s->wpAny (model X.prog X.w) X.A (f (.int i t) (.int j u)) Q E s):
  cX X f (pv fun i j=>.bl (g i j)):=by
 intro pins s σ H x y v u Q I rx ry h;obtain⟨i,j,rfl,rfl,q⟩:=h;obtain⟨t,rfl⟩:=rx;obtain⟨t',rfl⟩:=ry;exact rule i j t t' s _ _ ⟨.bl (g i j),H,I,rfl,q⟩
def PQ(i j:Int):Prop:=0<j/\j<1073741824
def Pw(i j:Int):Prop:=0<=j/\j<=1000000/\i.natAbs<2 ^ 64
def DC(i j:Int):Prop:=(-(2 ^ 64)<i/\i<2 ^ 64)\/(-(2 ^ 64)<j/\j<2 ^ 64)
theorem DC.ok{i j:Int}(h:DC i j):IntMulOk i j:=by
 rcases h with ⟨h1,h2⟩|⟨h1,h2⟩
 .exact .of_left (intBits_le_64 h1 h2)
 .exact .of_right (intBits_le_64 h1 h2)
theorem JR:cX X (binaryOp .Add) (pv fun i j=>.int (i+j)):=HZ fun _ _ _ _ _ _ _ q=>add_int q
theorem Ia:cX X (binaryOp .Sub) (pv fun i j=>.int (i-j)):=HZ fun _ _ _ _ _ _ _ q=>sub_int q
theorem J7:cX X (binaryOp .Mult) (rI DC fun i j=>.int (i * j)):=Eu fun _ _ _ _ _ _ _ hc q=>mul_int q hc.ok
theorem FP:cX X (binaryOp .FloorDiv) (rI PQ fun i j=>.int (i / j)):=Eu fun i j _ _ _ _ _ hc q=>by
 have h1:(0:Int)<j:=hc.1;have h2:j<1073741824:=hc.2;exact floordiv_int (by lia) (by rw[Int.fdiv_eq_ediv_of_nonneg i (by lia)];exact q) (.inl (PyProof.noPylong_small (by lia)))
theorem Hf:cX X (binaryOp .Mod) (rI (fun _ j=>0<j) fun i j=>.int (i % j)):=Eu fun i j _ _ _ _ _ hc q=>by
 have h1:(0:Int)<j:=hc;exact mod_int' (by lia) (by rw[Int.fmod_eq_emod_of_nonneg i (by lia)];exact q)
theorem HC:cX X (binaryOp .Pow) (rI Pw fun i j=>.int (i ^ j.toNat)):=Eu fun _ _ _ _ _ _ _ hc q=>pow_int_small hc.1 hc.2.1 hc.2.2 q
end
section
variable {X:Cx}{a b c:Expr}{ta tb tc:TE}{pos:Pos}
theorem KJ{pins:aE}{σ:St}{H:Hp}{s:Shared}{Q:VK}{k k':Bool}(I:Inv X pins σ H s)(q:Q (.bl k) H)(e:k=k'):EP X pins σ Q (.bool k') s:=by subst e;exact⟨.bl k,H,I,rfl,q⟩
theorem LV:cX X (compareOp .Lt) (pv fun i j=>.bl (decide (i<j))):=yX fun _ _ _ _ _ _ _ q=>lt_int q
theorem LP:cX X (compareOp .LtE) (pv fun i j=>.bl (decide (i<=j))):=yX fun _ _ _ _ _ _ _ q=>le_int q
theorem MU:cX X (compareOp .Gt) (pv fun i j=>.bl (decide (j<i))):=yX fun _ _ _ _ _ _ _ q=>gt_int q
theorem LI:cX X (compareOp .GtE) (pv fun i j=>.bl (decide (j<=i))):=yX fun _ _ _ _ _ _ _ q=>ge_int q
theorem Gh:cX X (compareOp .IsNot) (fun x y H Q=>y=.ah/\Q (.bl (!decide (x=.ah))) H):=by
 intro pins s σ H x y v u Q I rx ry h;obtain⟨rfl,q⟩:=h;cases ry;refine isnot_none_gen (KJ I q ?_);cases x<;>first
  |(cases rx;rfl)
  |(obtain⟨t,rfl⟩:=rx;rfl)
theorem cX.or{f:Value->Value->Sem Value}{r r':R2}(h:cX X f r)(h':cX X f r'):cX X f (fun x y H Q=>r x y H Q\/r' x y H Q):=by
 intro pins s σ H x y v u Q I rx ry q;rcases q with q|q
 .exact h pins s σ H x y v u Q I rx ry q
 .exact h' pins s σ H x y v u Q I rx ry q
theorem Ro(b:Expr){op:CmpOp}(h:op≠.In:=by decide)(h2:op≠.NotIn:=by decide):behindInMarks op b=false:=by
 have e1:(op== CmpOp.In)=false:=by cases op<;>first|rfl|exact absurd rfl h
 have e2:(op== CmpOp.NotIn)=false:=by cases op<;>first|rfl|exact absurd rfl h2
 cases b<;>simp[behindInMarks,e1,e2]
theorem yF{op:CmpOp}{r:R2}(ho:cX X (compareOp op) r)(ha:PE X a ta)(hb:PE X b tb)(hm:behindInMarks op b=false):PE X (.Compare a [op] [b] pos) (xN r ta tb):=by intro pins s σ H Q I h;exact wpAny_Compare1 (CP ha hb I h fun v u s2 x y H2 I2 rx ry q=>ho pins s2 σ H2 x y v u Q I2 rx ry q) hm
noncomputable def MP(t:TE):TT:=fun σ H Q=>t σ H fun x H'=>∃k,x=.bl k/\Q k H'
theorem yd{op:CmpOp}{r:R2}(ho:cX X (compareOp op) r)(ha:PE X a ta)(hb:PE X b tb)(hm:behindInMarks op b=false):PT X (.Compare a [op] [b] pos) (MP (xN r ta tb)):=by
 intro pins s σ H Q I h;refine wpAny_isTrue_Compare1 (az (ha pins s σ H _ I h) fun v s1 Z=>Z.k2 fun x H1 I1 r1 q1=>az (hb pins s1 σ H1 _ I1 q1) fun u s2 Z=>Z.k2 fun y H2 I2 r2 q2=>
  az (ho pins s2 σ H2 x y v u _ I2 r1 r2 q2) fun c s3 Z=>Z.k2 fun z H3 I3 r3 Z=>Z.g fun k Z=>Z.g fun e q3=>?_) hm
 subst e;cases r3;exact uf ⟨H3,I3,q3⟩
def Dt(K:W.Frag)(x:V)(H:Hp)(k:Bool):Prop:=
 match x with
 |.ah=>k=false
 |.bl b=>k=b
 |.int i=>k=(i != 0)
 |.str y=>y.length<=sizeLine/\k=((y.length:Int) != 0)
 |.byt y=>y.size<=sizeLine/\k=((y.size:Int) != 0)
 |.ref p=>(∃xs,bW K H p xs/\k=!xs.isEmpty)\/(∃xs,cY K H p xs/\k=!xs.isEmpty)\/∃kvs,H p=some (.dK kvs)/\k=!kvs.isEmpty
 |_=>False
theorem zw{κ:Type}{kvs:List (κ×V)}{vs:List (κ×Value)}(r:KV kvs vs):(!vs.isEmpty)=!kvs.isEmpty:=by cases r<;>rfl
theorem qZ{xs:List V}{its:List Value}(r:Vals xs its):(!its.toArray.isEmpty)=!xs.isEmpty:=by cases r<;>simp
theorem lJ:(sizeLine:Nat)<2 ^ 63:=by rw[gu];decide
theorem B8:Qd X (fun x H Q=>∃k,Dt X.K x H k/\Q k H):=by
 intro pins s σ H x v Q I rx h;obtain⟨k,e,q⟩:=h;have hl:=lJ;have hs:sizeLine=16777216:=gu;cases x with
 |ah=>
  cases rx;have e':k=false:=e;subst e';exact truthy_none ⟨H,I,q⟩
 |bl b=>
  cases rx;have e':k=b:=e;subst e';exact uf ⟨H,I,q⟩
 |int i=>
  obtain⟨t,rfl⟩:=rx;have e':k=(i != 0):=e;subst e';exact PySem.P.truthy_int ⟨H,I,q⟩
 |str y=>
  obtain⟨t,rfl⟩:=rx;obtain⟨hy,e'⟩:y.length<=sizeLine/\k=((y.length:Int) != 0):=e;subst e';exact PySem.P.truthy_str (by lia) ⟨H,I.tok _,q⟩
 |byt y=>
  obtain⟨t,rfl⟩:=rx;obtain⟨hy,e'⟩:y.size<=sizeLine/\k=((y.size:Int) != 0):=e;subst e';exact W.truthy_bytes (by lia) ⟨H,I.tok _,q⟩
 |ref p=>
  cases rx;have e':(∃xs,bW X.K H p xs/\k=!xs.isEmpty)\/(∃xs,cY X.K H p xs/\k=!xs.isEmpty)\/∃kvs,H p=some (.dK kvs)/\k=!kvs.isEmpty:=e;rcases e' with ⟨xs,hx,e'⟩|⟨xs,hx,e'⟩|⟨kvs,hx,e'⟩
  .subst e';obtain⟨its,r,pl,hz⟩:=I.list hx;have hlen:=r.length;exact wpAny_truthy_list pl.isList (by simp only[cF];lia) ⟨H,I.tok _,by rw[qZ r];exact q⟩
  .subst e';obtain⟨its,r,pl,hz⟩:=I.tuple hx;have hlen:=r.length;exact truthy_tuple pl (by simp only[cF];lia) ⟨H,I.tok _,by rw[qZ r];exact q⟩
  .subst e';obtain⟨hz,hS,vs,r,m⟩:kvs.length<=sizeLine/\(p== sysModules)=false/\∃vs,KV kvs vs/\s.heap.DictOf (sC X.prog X.w) p vs:=I.av p _ hx;have hlen:kvs.length=vs.length:=Paired.length r;exact wpAny_truthy_dict hS m (by lia) ⟨H,I.tok _,by rw[zw r];exact q⟩
 |_=>exact (show False from e).elim
theorem DS(ha:PE X a ta)(he:∀whole,isTrue a X.env whole=(do let v <-whole;standAt a.pos;holding [v] (truthy v))):
  PT X a (fun σ H Q=>ta σ H fun x H'=>∃k,Dt X.K x H' k/\Q k H'):=by
 intro pins s σ H Q I h;exact isTrue_plain (az (ha pins s σ H _ I h) fun v s1 Z=>Z.k2 fun x H1 I1 r1 q1=>B8 pins s1 σ H1 x v Q I1 r1 q1) (he _)
theorem vals1{x:V}{us:List Value}(r:Vals [x] us):∃u,us=[u]/\RelV x u:=by
 cases r with
 |cons r1 r2=>cases r2;exact⟨_,rfl,r1⟩
theorem vals2{x y:V}{us:List Value}(r:Vals [x,y] us):∃u w',us=[u,w']/\RelV x u/\RelV y w':=by
 cases r with
 |cons r1 r2=>
  cases r2 with
  |cons r3 r4=>cases r4;exact⟨_,_,rfl,r1,r3⟩
theorem AO:js X (.type "int") (fun xs H Q=>(∃i,xs=[.int i]/\Q (.int i) H)\/∃k,xs=[.bl k]/\Q (.int (if k then 1 else 0)) H):=by
 intro pins s σ H xs us Q I r h;rcases h with ⟨i,rfl,q⟩|⟨k,rfl,q⟩
 .obtain⟨u,rfl,t,rfl⟩:=vals1 r;exact call_int_int ⟨.int i,H,I,⟨_,rfl⟩,q⟩
 .obtain⟨u,rfl,r1⟩:=vals1 r;cases r1;exact call_int_bool ⟨.int (if k then 1 else 0),H,I.tok _,⟨_,rfl⟩,q⟩
end
structure p6(h:Heap)(x dx C:Addr)(mA:Str->Option Value):Prop where
 obj:h.get? x=some (W.instObj C dx)
 ns:h.Ns1 dx mA
 ne:dx≠x
theorem sZ{h:Heap}{dx:Addr}{mA:Str->Option Value}(n:h.Ns1 dx mA):∃od,h.get? dx=some od/\∀name,W.lookIn name od=some (mA name):=by
 obtain⟨o,es,ep,ho,hd,hk,_,hm⟩:=n;refine⟨o,ho,fun name=>?_⟩;have e:=hm name;unfold nsFind findBy at e;rw[<-Array.find?_toList] at e;unfold W.lookIn;rw[hd];dsimp only;split
 .rename_i y q;rw[q] at e;exact cR some e
 .rename_i q;rw[q] at e;have a:es.toList.any (·.refKey)=false:=by
   rw[List.any_eq_false];intro y hy;obtain⟨z,t,hkey⟩:=hk y (Array.mem_toList_iff.mp hy);simp[DictEntry.refKey,hkey]
  have a':¬ es.toList.any (·.refKey)=true:=by rw[a];exact j0
  rw[if_neg a'];exact cR some e
theorem p6.look{h:Heap}{x dx C:Addr}{mA:Str->Option Value}(I:p6 h x dx C mA):∃od,W.InstAt h x (W.instObj C dx) C (some od)/\∀name,W.lookIn name od=some (mA name):=
 let ⟨od,ho,hl⟩:=sZ I.ns
 ⟨od,⟨I.obj,rfl,rfl,ho⟩,hl⟩
section
variable {prog:Program}{w:World}{A:Around}{E:aO}{s:Shared}{K:W.Frag}{x dx C f:Addr}{mA:Str->Option Value}{name:Str}{v:Value}
theorem get_map{expr:Bool}{Q:aO}(X:K.In s.heap)(I:p6 s.heap x dx C mA)(hg:W.plainGet K C name=true)(hh:W.hasDictIn K C=true)
  (ha:W.findIn K (.ref C) name=some none) (hv:mA name=some v) (hv':W.handedIn v=true) (h:Q v {s with toks:=s.toks+1}):
  wpAny (model prog w) A (getAttr (.ref x) name expr) Q E s:=by
 obtain⟨od,J,hl⟩:=I.look;exact W.get_value X J (yR hg).1 (W.findObj_own hh ha rfl (by rw[hl,hv])) hv' h
theorem DA{pl:Sem Bool}{Q:Value×List Value->Shared->Prop}(X:K.In s.heap)(I:p6 s.heap x dx C mA)(hg:W.plainGet K C name=true)
  (hf:W.findIn K (.ref C) name=some (some (.ref f))) (ht:W.isFn K (.ref f)=true) (hv:mA name=none) (h:Q (.ref f,[.ref x]) s):
  wpAny (model prog w) A (getMethod (.ref x) name pl) Q E s:=by
 obtain⟨od,J,hl⟩:=I.look;exact W.method_fn X J (yR hg).1 (yR hg).2 hf (gS.mp ht) (by show (W.lookIn name od).map (·.isSome)=some false;rw[hl,hv];rfl) h
theorem Fo{ns:List Str}{Q:Unit->Shared->Prop}(X:K.In s.heap)(I:p6 s.heap x dx C mA)
  (hs:W.findIn K (.ref C) "__setattr__" = some (some (.builtin "object.__setattr__"))) (hp:W.plainOver K C=true) (ht:W.takerIn K C name=some none) (hh:W.hasDictIn K C=true)
  (hw:PySem.Within mA ns) (hsz:ns.length<=sizeLine)
  (h:∀h',p6 h' x dx C (fun y=>if y=name then some v else mA y)->Heap.SameBut dx s.heap h'->Q () {s with heap:=h',toks:=s.toks+2}):
  wpAny (model prog w) A (setAttr (.ref x) name v) Q E s:=by
 obtain⟨od,J,hl⟩:=I.look;refine W.set_plain X J hs (W.osa_open (s:={s with toks:=s.toks+1}) (r:=none) X J hp ht fun b=>?_);obtain⟨cd,hc,hd'⟩:=W.any_some hh;have hx:s.heap.get? x=some ⟨.ref C,some dx,.plain,#[]⟩:=I.obj;refine ag (aC (ag (ag (wpAny_loadPart hx (ag (W.Looks.here (s:={s with toks:=s.toks+1}) (W.looks_clsIn X hc) ?_))))));rw[hd'];refine aC (a:=some dx) (ag (aC (ag ?_)));refine wpAny_nsSet1 (s:={s with toks:=s.toks+1}) I.ns fun h' hn2 hs2=>?_;obtain⟨oD,esD,epD,hoD,hdD,hcD⟩:=hn2.count (PySem.Within.cons name v hw);refine ag (wpAny_lookBehind hoD (by rw[hdD];exact pastItsLine_dict (bG hcD (by rw[fZ];lia))) ?_);exact aC (h _ ⟨(hs2.2 _ (aX I.ne)).trans I.obj,hn2,I.ne⟩ hs2)
theorem CL{R:Result->Shared->Prop}{vs:List Value}{kw:List (Str×Value)}(X:K.In s.heap)(hm:W.makesIn K C=true)
  (hi:W.findIn K (.ref C) "__init__" = some (some (.ref f))) (hf:W.typeIn K (.ref f)=some (.type "function"))
  (h:codeAny (model prog w) (A.under (.builtin "type.__call__" ⟨.ref C::vs,kw⟩)) (.call (.ref f) ⟨.ref (s.heap.objs.size+1)::vs,kw⟩) (W.InitBack (s.heap.objs.size+1) R)
   {s with heap:=(s.heap.push W.emptyDict).push (W.instObj C s.heap.objs.size)}):
  codeAny (model prog w) A (.call (.ref C) ⟨vs,kw⟩) R s:=by
 obtain⟨hh,g,d,t,os⟩:=s;exact W.make_core (W.makes_of X hm) (tY X hi) (fun self=>W.bind_fn X self hf) (.inl rfl) h
end
def eL(f:Str)(v:V):List (Str×V)->List (Str×V)
 |[]=>[(f,v)]
 |(g,x)::r=>if g=f then (g,v)::r else (g,x)::eL f v r
theorem pF(f g:Str)(v:V):∀fs:List (Str×V),(eL f v fs).lookup g=if g=f then some v else fs.lookup g
 |[]=>by
  show List.lookup g [(f,v)]=_;by_cases h:g=f
  .have hb:(g== f)=true:=gS.mpr h;simp only[List.lookup,hb,if_pos h]
  .have hb:(g== f)=false:=jq.mpr h;simp only[List.lookup,hb,if_neg h]
 |(k,x)::r=>by
  have ih:=pF f g v r;rw[show eL f v ((k,x)::r)=(if k=f then (k,v)::r else (k,x)::eL f v r) from rfl];by_cases hk:k=f
  .rw[if_pos hk];by_cases h:g=k
   .have hb:(g== k)=true:=gS.mpr h;simp only[List.lookup,hb,if_pos (h.trans hk)]
   .have hb:(g== k)=false:=jq.mpr h;simp only[List.lookup,hb,if_neg (fun e:g=f=>h (e.trans hk.symm))]
  .rw[if_neg hk];by_cases h:g=k
   .have hb:(g== k)=true:=gS.mpr h;simp only[List.lookup,hb,if_neg (fun e:g=f=>hk (h.symm.trans e))]
   .have hb:(g== k)=false:=jq.mpr h;simp only[List.lookup,hb];exact ih
theorem mM(f:Str)(v:V):∀fs:List (Str×V),f∈(eL f v fs).map (·.1)/\∀g,g∈fs.map (·.1)->g∈(eL f v fs).map (·.1)
 |[]=>⟨by simp[eL],fun g h=>by simp at h⟩
 |(k,x)::r=>by
  obtain⟨i1,i2⟩:=mM f v r;rw[show eL f v ((k,x)::r)=(if k=f then (k,v)::r else (k,x)::eL f v r) from rfl];by_cases hk:k=f
  .rw[if_pos hk];subst hk;exact⟨by simp,fun g h=>by simpa using h⟩
  .rw[if_neg hk];refine⟨?_,fun g h=>?_⟩
   .rw[gz];exact iY _ i1
   .rw[gz] at h⊢;rcases eZ.mp h with e|e
    .exact eZ.mpr (.inl e)
    .exact iY _ (i2 g e)
theorem pH(f:Str)(v:V):∀fs:List (Str×V),(eL f v fs).length<=fs.length+1
 |[]=>by simp[eL]
 |(k,x)::r=>by
  have ih:=pH f v r;rw[show eL f v ((k,x)::r)=(if k=f then (k,v)::r else (k,x)::eL f v r) from rfl];by_cases hk:k=f
  .rw[if_pos hk,fZ,fZ];lia
  .rw[if_neg hk,fZ,fZ];lia
theorem kM.some_of{v:V}{o:Option Value}(r:kM (some v) o):∃u,o=some u/\RelV v u:=by
 cases o with
 |none=>exact (show False from r).elim
 |some u=>exact⟨u,rfl,r⟩
theorem kM.none_of{o:Option Value}(r:kM none o):o=none:=by
 cases o with
 |none=>rfl
 |some u=>exact (show False from r).elim
theorem Ba{v:V}{u:Value}(r:RelV v u):W.handedIn u=true:=by
 cases v with
 |ah=>cases (show u=Value.none from r);rfl
 |bl b=>cases (show u=Value.bool b from r);rfl
 |int i=>obtain⟨t,e⟩:=(show ∃t,u=Value.int i t from r);cases e;rfl
 |str x=>obtain⟨t,e⟩:=(show ∃t,u=Value.str x t from r);cases e;rfl
 |byt b=>obtain⟨t,e⟩:=(show ∃t,u=Value.bytes b t from r);cases e;rfl
 |flt b=>obtain⟨t,e⟩:=(show ∃t,u=Value.float b t from r);cases e;rfl
 |ref a=>cases (show u=Value.ref a from r);rfl
 |ty n=>cases (show u=Value.type n from r);rfl
section
variable {P:Program}{w:World}{H H':Hp}{h h':Heap}{a C dx:Addr}{fs fs':List (Str×V)}
theorem oO(av:dB P w H h)(e:H a=some (.ins C dx fs)):∃mA,p6 h a dx C mA/\(∀f,kM (fs.lookup f) (mA f))/\PySem.Within mA (fs.map (·.1))/\fs.length<=1000/\H dx=some (.own a):=by obtain⟨d,z,ne,ob,mA,n,r,q⟩:=(show cj P w H h a (.ins C dx fs) from av a _ e);exact⟨mA,⟨ob,n,ne⟩,r,q,z,d⟩
end
structure pL(K:W.Frag)(C:Addr):Prop where
 pg:W.plainGet K C Str.empty=true
 hd:W.hasDictIn K C=true
 po:W.plainOver K C=true
 sa:W.findIn K (.ref C) "__setattr__" = some (some (.builtin "object.__setattr__"))
theorem pL.get{K:W.Frag}{C:Addr}(c:pL K C)(f:Str):W.plainGet K C f=true:=c.pg
def jX(K:W.Frag)(C:Addr)(f:Str):Prop:=W.findIn K (.ref C) f=some none
theorem jX.MR{K:W.Frag}{C:Addr}{f:Str}(n:jX K C f):W.takerIn K C f=some none:=by unfold W.takerIn;rw[show W.findIn K (.ref C) f=some none from n];rfl
structure Meth(K:W.Frag)(C:Addr)(m:Str)(f:Addr):Prop where
 at_:W.findIn K (.ref C) m=some (some (.ref f))
 fn:W.isFn K (.ref f)=true
 kp:W.keepIn K (.ref f)=true
section
variable {X:Cx}{pins:aE}{σ:St}{H:Hp}{s:Shared}{a C dx:Addr}{fs:List (Str×V)}{f:Str}{v:V}{A:Around}{E:aO}
theorem zI{b:Bool}{Q:aO}(I:Inv X pins σ H s)(e:H a=some (.ins C dx fs))(c:pL X.K C)(n:jX X.K C f)(l:fs.lookup f=some v)
  (h:∀u s',Inv X pins σ H s'->RelV v u->Q u s'):wpAny (model X.prog X.w) A (getAttr (.ref a) f b) Q E s:=by
 obtain⟨mA,O,r,_,_,_⟩:=oO I.av e;obtain⟨u,hu,ru⟩:=kM.some_of (v:=v) (o:=mA f) (by rw[<-l];exact r f);exact get_map I.bP O (c.get f) c.hd n hu (Ba ru) (h u _ (I.tok _) ru)
theorem qX{m:Str}{g:Addr}{pl:Sem Bool}{Q:Value×List Value->Shared->Prop}(I:Inv X pins σ H s)(e:H a=some (.ins C dx fs))(c:pL X.K C)(k:Meth X.K C m g)(l:fs.lookup m=none)
  (h:Q (.ref g,[.ref a]) s):wpAny (model X.prog X.w) A (getMethod (.ref a) m pl) Q E s:=by
 obtain⟨mA,O,r,_,_,_⟩:=oO I.av e;have hn:mA m=none:=kM.none_of (by rw[<-l];exact r m);exact DA I.bP O (c.get m) k.at_ k.fn hn h
theorem yT{y:V}{u:Value}{Q:Unit->Shared->Prop}(I:Inv X pins σ H s)(e:H a=some (.ins C dx fs))(c:pL X.K C)(n:jX X.K C f)(hl:fs.length<1000)(ry:RelV y u)
  (h:∀s',Inv X pins σ (upd H a (.ins C dx (eL f y fs))) s'->Q () s'):wpAny (model X.prog X.w) A (setAttr (.ref a) f u) Q E s:=by
 obtain⟨mA,O,r,wi,_,ho⟩:=oO I.av e;have hz:(fs.map (·.1)).length<=sizeLine:=by rw[iG,gu];lia
 refine Fo I.bP O c.sa c.po n.MR c.hd wi hz fun h' O' sb=>h _ ?_;have hd:∃o,h'.get? dx=some o:=let ⟨o,_,_,e',_⟩:=O'.ns;⟨o,e'⟩
 refine I.write (x:=a) (e:=dx) (by rw[e];exact lL) (.inr ho) (fun b q hb z=>(sb.2 b hb).trans z) hd ?_;refine⟨by rw[aD O.ne];exact ho,?_,O.ne,O'.obj,_,O'.ns,fun g=>?_,fun g hg=>?_⟩
 .have:=pH f y fs;lia
 .show kM ((eL f y fs).lookup g) (if g=f then some u else mA g);rw[pF];by_cases q:g=f
  .rw[if_pos q,if_pos q];exact ry
  .rw[if_neg q,if_neg q];exact r g
 .by_cases q:g=f
  .rw[q];exact (mM f y fs).1
  .refine (mM f y fs).2 g (wi g fun z=>hg ?_);show (if g=f then some u else mA g)=none;rw[if_neg q];exact z
theorem Inv.made(I:Inv X pins σ H s):Inv X pins σ (upd (upd H s.heap.objs.size (.own (s.heap.objs.size+1))) (s.heap.objs.size+1) (.ins C s.heap.objs.size []))
  {s with heap:=(s.heap.push W.emptyDict).push (W.instObj C s.heap.objs.size)}:=by
 have e1:(s.heap.push W.emptyDict).get? s.heap.objs.size=some W.emptyDict:=fN s.heap rfl;have e2:((s.heap.push W.emptyDict).push (W.instObj C s.heap.objs.size)).get? (s.heap.objs.size+1)=some (W.instObj C s.heap.objs.size):=by
  have:=fN (s.heap.push W.emptyDict) (o:=W.instObj C s.heap.objs.size) rfl
  rwa [rZ] at this
 have e3:(s.heap.push W.emptyDict).Ns s.heap.objs.size (fun _=>none):=⟨W.emptyDict,#[],_,e1,rfl,(fun e he=>absurd he (by simp)),fun _=>rfl⟩;have I1:=I.laid (a:=s.heap.objs.size) (o:=.own (s.heap.objs.size+1)) (h':=s.heap.push W.emptyDict) (t':=s.toks) (fun b u q=>bM _ q) (aA _) ⟨_,e1⟩;refine I1.laid (a:=s.heap.objs.size+1) (o:=.ins C s.heap.objs.size []) (t':=s.toks) (fun b u q=>bM _ q) (z7 (rZ _ _)) ?_;have ne:s.heap.objs.size≠s.heap.objs.size+1:=cV (vD _);refine⟨by rw[aD ne,bI],bu _,ne,e2,fun _=>none,(Heap.Ns1.of_empty e3).at fun o q=>bM _ q,fun _=>lL,fun y hy=>absurd rfl hy⟩
theorem GR{prog:Program}{w:World}{env:Env}{e:Expr}{f:Str}{pos:Pos}{s:Shared}{Q:aO}(hb:attributeBase e f env (eval e env)=eval e env)
  (h:wpAny (model prog w) A (eval e env) (fun o s₁=>wpAny (model prog w) A (getAttr o f true) Q E s₁) E s):wpAny (model prog w) A (eval (.Attribute e f pos) env) Q E s:=
 Attribute_any_ h (by rw[arm_eval_Attribute,hb])
end
noncomputable def Qc(K:W.Frag)(ta:TE)(f:Str):TE:=fun σ H Q=>ta σ H fun x H1=>∃a C dx fs v,x=.ref a/\H1 a=some (.ins C dx fs)/\pL K C/\jX K C f/\fs.lookup f=some v/\Q v H1
def OT(K:W.Frag)(ta tv:TE)(f:Str):TS:=fun D σ H=>tv σ H fun y H1=>ta σ H1 fun x H2=>∃a C dx fs,x=.ref a/\H2 a=some (.ins C dx fs)/\pL K C/\jX K C f/\fs.length<1000/\
 D.nx σ (upd H2 a (.ins C dx (eL f y fs)))
section
variable {X:Cx}{o e value:Expr}{f:Str}{pos pos' tpos:Pos}{ta tv:TE}
theorem JV(he:PE X e ta)(hb:attributeBase e f X.env (eval e X.env)=eval e X.env):PE X (.Attribute e f pos) (Qc X.K ta f):=by intro pins s σ H Q I h;refine GR hb (az (he pins s σ H _ I h) fun u s1 Z=>Z.k2 fun x H1 I1 rx Z=>Z.g fun a Z=>Z.g fun C Z=>Z.g fun dx Z=>Z.g fun fs Z=>Z.g fun v Z=>Z.g fun ex Z=>Z.g fun ea Z=>Z.g fun c Z=>Z.g fun n Z=>Z.g fun l q=>?_);subst ex;obtain rfl:u=Value.ref a:=rx;exact zI I1 ea c n l fun u' s2 I2 ru=>⟨v,H1,I2,ru,q⟩
theorem Ig(ha:PE X o ta)(hv:PE X value tv)(hs:swapsWith value (some (.Attribute o f pos')) pos.line X.env=pure false):PS X (.Assign [.Attribute o f pos'] value pos) (OT X.K ta tv f):=by intro pins s σ H D I h;refine plainObj_wpAny_Assign_Attribute (az (hv pins s σ H _ I h) fun u s1 Z=>Z.k2 fun y H1 I1 ry q=>az (ha pins s1 σ H1 _ I1 q) fun ov s2 Z=>Z.k2 fun x H2 I2 rx Z=>Z.g fun a Z=>Z.g fun C Z=>Z.g fun dx Z=>Z.g fun fs Z=>Z.g fun ex Z=>Z.g fun ea Z=>Z.g fun c Z=>Z.g fun n Z=>Z.g fun l q2=>?_) hs;subst ex;obtain rfl:ov=Value.ref a:=rx;exact yT I2 ea c n l ry fun s3 I3=>⟨σ,_,I3,q2⟩
end
section
variable {X:Cx}{pins:aE}{σ:St}{H:Hp}{s:Shared}{A:Around}{E:aO}{Q:aO}{c:Value}{b:Bool}
inductive i8(K:W.Frag)(H:Hp):V->Value->Prop where
 |ah:i8 K H .ah (.type "NoneType")
 |bl (x:Bool):i8 K H (.bl x) (.type "bool")
 |int (i:Int):i8 K H (.int i) (.type "int")
 |str (x:Str):i8 K H (.str x) (.type "str")
 |flt (x:UInt64):i8 K H (.flt x) (.type "float")
 |lst {a:Addr}{xs:List V} (e:H a=some (.lst xs)):i8 K H (.ref a) (.type "list")
 |aM {a:Addr}{o:Obj}{xs:List V} (e:H a=some (.aM o (.lst xs))):i8 K H (.ref a) (.type "list")
 |tup {a:Addr}{xs:List V} (e:H a=some (.tup xs)):i8 K H (.ref a) (.type "tuple")
 |dK {a:Addr}{kvs:List (Key×V)} (e:H a=some (.dK kvs)):i8 K H (.ref a) (.type "dict")
 |dT {a:Addr}{kvs:List (List Key×V)} (e:H a=some (.dT kvs)):i8 K H (.ref a) (.type "dict")
 |ins {a C dx:Addr}{fs:List (Str×V)} (e:H a=some (.ins C dx fs)) (cl:pL K C) (ha:W.findIn K (.ref C) "__class__" = some (some (.builtin "object.__class__")))
   (hn:W.specialIn K (.builtin "object.__class__") "__get__" = some (some (.builtin "getset_descriptor.__get__"))) (htk:W.takesIn K (.builtin "object.__class__")=some true)
   (hm:W.mroIn K C (.type "object")=some true):i8 K H (.ref a) (.ref C)
theorem Bi{x:V}{u t:Value}(I:Inv X pins σ H s)(rx:RelV x u)(ty:i8 X.K H x t)(e:W.kitOne X.K t c=some b)(h:∀tk,Q (.bool b) {s with toks:=tk}):
  wpAny (model X.prog X.w) A (call (.builtin "isinstance") [u,c]) Q E s:=by
 cases ty with
 |ah=>cases (show u=Value.none from rx);exact fO W.kitx_none I.bP lL e (fun z=>nomatch z) h
 |bl y=>cases (show u=Value.bool y from rx);exact fO W.kitx_bool I.bP lL e (fun z=>nomatch z) h
 |int i=>obtain⟨t,q⟩:=(show ∃t,u=Value.int i t from rx);cases q;exact fO W.kitx_int I.bP lL e (fun z=>nomatch z) h
 |str y=>obtain⟨t,q⟩:=(show ∃t,u=Value.str y t from rx);cases q;exact fO W.kitx_str I.bP lL e (fun z=>nomatch z) h
 |flt y=>obtain⟨t,q⟩:=(show ∃t,u=Value.float y t from rx);cases q;exact fO W.kitx_float I.bP lL e (fun z=>nomatch z) h
 | @lst a xs ea=>
  cases (show u=Value.ref a from rx);obtain⟨_,_,n,_,h1⟩:=(show cj X.prog X.w H s.heap a (.lst xs) from I.av a _ ea);exact fO W.kitx_list I.bP ⟨_,h1,rfl⟩ e (fun z=>nomatch z) h
 | @aM a ob xs ea=>
  cases (show u=Value.ref a from rx);obtain⟨_,_,_,n,_,h1⟩:=(show cj X.prog X.w H s.heap a (.aM ob (.lst xs)) from I.av a _ ea);exact fO W.kitx_list I.bP ⟨_,h1,rfl⟩ e (fun z=>nomatch z) h
 | @tup a xs ea=>
  cases (show u=Value.ref a from rx);obtain⟨_,_,_,p⟩:=(show cj X.prog X.w H s.heap a (.tup xs) from I.av a _ ea);obtain⟨o,h1,h2,_⟩:=p;exact fO W.kitx_tuple I.bP ⟨o,h1,h2⟩ e (fun z=>nomatch z) h
 | @dK a kvs ea=>
  cases (show u=Value.ref a from rx);obtain⟨_,_,vs,_,p⟩:=(show cj X.prog X.w H s.heap a (.dK kvs) from I.av a _ ea);obtain⟨o,es,ep,h1,h2,_⟩:=p;exact fO W.kitx_dict I.bP ⟨o,h1,h2.1⟩ e (fun z=>nomatch z) h
 | @dT a kvs ea=>
  cases (show u=Value.ref a from rx);obtain⟨_,_,xs,_,o,es,ep,h1,h2,_⟩:=(show cj X.prog X.w H s.heap a (.dT kvs) from I.av a _ ea);exact fO W.kitx_dict I.bP ⟨o,h1,h2.1⟩ e (fun z=>nomatch z) h
 | @ins a C dx fs ea cl ha hn htk hm=>
  cases (show u=Value.ref a from rx);obtain⟨mA,O,_⟩:=oO I.av ea;obtain⟨od,J,_⟩:=O.look;exact fO (W.kitx_own (cl.get _) cl.hd ha hn htk hm) I.bP J e (fun z=>nomatch z) h
end
structure cq(k:Nat)(A:Around):Prop where
 hd:A.handled=none
 dp:A.depth+k+5<recursionLimit
 un:A.units+4 * k+1000<cLine
theorem cq.deeper{k:Nat}{A:Around}(r:cq (k+1) A)(env:Env):cq k (A.deeper env):=
 ⟨r.hd,by have:=r.dp;show A.depth+1+k+5<_;lia,by have:=r.un;show A.units+3+4 * k+1000<_;lia⟩
theorem yV{A:Around}{C:Addr}{us:List Value}{kw:List (Str×Value)}:(A.under (.builtin "type.__call__" ⟨.ref C::us,kw⟩)).depth=A.depth+1:=by first|rfl|simp[Around.under,Code.weight,Code.isCreation,Code.isGuard,Code.isCaller,Code.frames,Code.isFrame,guardIds]
theorem As{A:Around}{C:Addr}{us:List Value}{kw:List (Str×Value)}:(A.under (.builtin "type.__call__" ⟨.ref C::us,kw⟩)).units=A.units+1:=by first|rfl|simp[Around.under,Code.cUnits,Code.frames,Code.isFrame]
theorem cq.make{k:Nat}{A:Around}(r:cq (k+1) A)(C:Addr)(us:List Value)(kw:List (Str×Value)):cq k (A.under (.builtin "type.__call__" ⟨.ref C::us,kw⟩)):=
 ⟨r.hd,by have:=r.dp;rw[yV];lia,by have:=r.un;rw[As];lia⟩
theorem cq.depth{k:Nat}{A:Around}(r:cq k A):A.depth<recursionLimit:=by have:=r.dp;lia
noncomputable def wq:TA:=fun _ H Q=>Q [] H
noncomputable def o9(ta:TE)(tr:TA):TA:=fun σ H Q=>ta σ H fun x H1=>tr σ H1 fun xs H2=>Q (x::xs) H2
section
variable {X:Cx}{e:Expr}{es:List Expr}{te:TE}{t:TA}{pos:Pos}
theorem cZ:PA X [] wq:=fun _ _ _ _ H Q I h=>Calls.spliced_nil ⟨[],H,I,.nil,h⟩
theorem bD(ha:PE X e te)(hr:PA X es t)(hs:starEach (e::es) X.env=(false,eval e X.env)::starEach es X.env:=by rfl):PA X (e::es) (o9 te t):=by intro pos pins s σ H Q I h;rw[hs];show wpAny _ _ (spliced ((false,eval e X.env)::backTo pos (starEach es X.env))) _ _ s;refine C6 (az (ha pins s σ H _ I h) fun u s1 Z=>Z.k2 fun x H1 I1 r1 q1=>?_);exact az (hr pos pins s1 σ H1 _ I1 q1) fun us s2 Z=>Z.k2 fun xs H2 I2 r2 q2=>⟨x::xs,H2,I2,.cons r1 r2,q2⟩
def JY(t:TA):TE:=fun σ H Q=>t σ H fun xs H1=>xs.length<=sizeLine/\∀p,H1 p=none->Q (.ref p) (upd H1 p (.tup xs))
def O1(t:TA):TE:=fun σ H Q=>t σ H fun xs H1=>xs.length<=sizeLine/\∀p,H1 p=none->Q (.ref p) (upd H1 p (.lst xs))
theorem BI{x1}(h:PA X es t):PE X (.Tuple es x1 pos) (JY t):=by intro pins s σ H Q I hq;refine wpAny_Tuple_spliced (az (h pos pins s σ H _ I hq) fun us s1 Z=>Z.k2 fun xs H1 I1 r Z=>Z.g fun z q=>⟨by rw[<-r.length];exact z,?_⟩);have hf:H1 s1.heap.objs.size=none:=I1.av.fresh (aA _);refine⟨.ref s1.heap.objs.size,upd H1 s1.heap.objs.size (.tup xs),I1.laid (t':=s1.toks) (fun b u e=>bM _ e) (aA _) ?_,rfl,q _ hf⟩;exact⟨z,us,r,⟨_,fN _ rfl,rfl,_,rfl⟩⟩
theorem JS(h:PA X es t):PE X (.List es pos) (O1 t):=by intro pins s σ H Q I hq;refine wpAny_List_spliced (az (h pos pins s σ H _ I hq) fun us s1 Z=>Z.k2 fun xs H1 I1 r Z=>Z.g fun z q=>⟨by rw[<-r.length];exact z,?_⟩);have hf:H1 s1.heap.objs.size=none:=I1.av.fresh (aA _);refine⟨.ref s1.heap.objs.size,upd H1 s1.heap.objs.size (.lst xs),I1.laid (t':=s1.toks) (fun b u e=>bM _ e) (aA _) ?_,rfl,q _ hf⟩;exact⟨z,us,0,r,fN _ rfl⟩
end
abbrev Sp:=List V->Hp->VK->XK->Prop
abbrev fj:=List Env->Hp->Shared->XK->aO
structure ml(P:Program)(w:World)(K:W.Frag)(mg:Str->Option Value)(base:Heap)(A:Around)(outer:List Env)(s:Shared)(H:Hp):Prop where
 frames:A.frames=some outer
 mod:Mod K mg base
 bs:∀b o,base.get? b=some o->s.heap.get? b=some o/\H b=none
 lC:base.objs.size<=s.heap.objs.size
 fK:s.heap.FunFrames base outer
 nF:∀b∈a9 outer,H b=none
 av:dB P w H s.heap
 bare:AllBare s.gens
def CE(outer:List Env)(P:Program)(w:World)(H:Hp)(s:Shared)(Q:VK)(u:Value)(s':Shared):Prop:=
 ∃v H',s'.os=s.os/\AllBare s'.gens/\Un (a9 outer) [] H H' s.heap s'.heap/\dB P w H' s'.heap/\RelV v u/\Q v H'
def CR(CX:fj)(outer:List Env)(P:Program)(w:World)(H:Hp)(s:Shared)(Q:VK)(E:XK)(r:Result)(s':Shared):Prop:=
 match r with
 |.ok (.ret u)=>CE outer P w H s Q u s'
 |.ok _=>False
 |.error e=>CX outer H s E e s'
structure bF(P:Program)(w:World)(K:W.Frag)(mg:Str->Option Value)(base:Heap)(CX:fj)(k:Nat)(f:Addr)(fd:FuncData)(ps:List Str)(sp:Sp):Prop where
 len:∀vs H Q E,sp vs H Q E->vs.length=ps.length
 run:∀(A:Around)(outer:List Env)(s:Shared)(H:Hp)(args:Args)(us:List Value)(vs:List V)(Q:VK)(E:XK),cq k A->ml P w K mg base A outer s H->BindsTo s fd args (ps.zip us)->Vals vs us->sp vs H Q E->
  codeAny (model P w) A (.call (.ref f) args) (CR CX outer P w H s Q E) s
theorem bF.imp{P:Program}{w:World}{K:W.Frag}{mg:Str->Option Value}{base:Heap}{CX:fj}{k:Nat}{f:Addr}{fd:FuncData}{ps:List Str}{sp sp':Sp}(F:bF P w K mg base CX k f fd ps sp)
  (h:∀vs H Q E,sp' vs H Q E->sp vs H Q E):bF P w K mg base CX k f fd ps sp':=
 ⟨fun vs H Q E q=>F.len vs H Q E (h _ _ _ _ q),fun A outer s H args us vs Q E hr he hb hv hs=>F.run A outer s H args us vs Q E hr he hb hv (h _ _ _ _ hs)⟩
theorem ml.make{P:Program}{w:World}{K:W.Frag}{mg:Str->Option Value}{base:Heap}{A:Around}{outer:List Env}{s:Shared}{H:Hp}(e:ml P w K mg base A outer s H)(C:Addr)(us:List Value)(kw:List (Str×Value)):
  ml P w K mg base (A.under (.builtin "type.__call__" ⟨.ref C::us,kw⟩)) outer s H:=⟨by first|exact e.frames|(simpa [Around.under,Code.envs,Code.isFrame,pushEnvs] using e.frames),e.mod,e.bs,e.lC,e.fK,e.nF,e.av,e.bare⟩
section
variable {X:Cx}{pins:aE}{σ:St}{H:Hp}{s s':Shared}
theorem Inv.Ct(I:Inv X pins σ H s):ml X.prog X.w X.K X.mg X.base X.A X.stack s H:=
 ⟨I.ok.frames,I.ok.mod,I.bs,bG I.ok.lC I.sz,I.stack,I.iB,I.av,I.bare⟩
theorem Inv.after{Q:VK}{u:Value}(I:Inv X pins σ H s)(h:CE X.stack X.prog X.w H s Q u s'):EP X pins σ Q u s':=by obtain⟨v,H',os,bare,un,av,r,q⟩:=h;obtain⟨hh,g,d,t,os'⟩:=s';obtain rfl:os'=s.os:=os;exact⟨v,H',I.call (h':=hh) (g':=g) (d':=d) (t':=t) (ch:=[]) un av bare (fun b z=>absurd z (by simp)),r,q⟩
end
noncomputable def LW(sp:Sp)(dvs:List V)(E:XK)(t:TA):TE:=fun σ H Q=>t σ H fun vs H1=>sp (vs++dvs) H1 Q E
noncomputable def Fg(C:Addr)(m:Str)(sp:Sp)(dvs:List V)(E:XK)(ta:TE)(t:TA):TE:=fun σ H Q=>ta σ H fun x H1=>∃a dx fs,x=.ref a/\H1 a=some (.ins C dx fs)/\fs.lookup m=none/\
 t σ H1 fun vs H2=>sp (x::(vs++dvs)) H2 Q E
def Mo(C:Addr)(sp:Sp)(dvs:List V)(E:XK)(t:TA):TE:=fun σ H Q=>t σ H fun vs H1=>∀x dx,H1 x=none->H1 dx=none->dx≠x->
 sp (.ref x::(vs++dvs)) (upd (upd H1 dx (.own x)) x (.ins C dx [])) (fun v H2=>v=.ah/\Q (.ref x) H2) E
def Binds(K:W.Frag)(fd:FuncData)(ps:List Str)(ds:List Value):Prop:=
 ∀(s:Shared)(us:List Value),K.In s.heap->(us++ds).length=ps.length->BindsTo s fd ⟨us,[]⟩ (ps.zip (us++ds))
theorem Binds.all{K:W.Frag}{fd:FuncData}{ps:List Str}(h:∀us:List Value,us.length=ps.length->bindArgs fd ⟨us,[]⟩=pure (ps.zip us)):Binds K fd ps []:=fun s us _ hl=>by
 rw[eX] at hl⊢;exact .of_eq (h us hl)
def Passes(CX:fj)(X:Cx)(E:XK):Prop:=∀(pins:aE)(σ:St)(H:Hp)(s:Shared)(e:Value)(s':Shared),Inv X pins σ H s->CX X.stack H s E e s'->X.xe e s'
section
variable {X:Cx}{CX:fj}{k:Nat}{f C:Addr}{fd:FuncData}{ps:List Str}{sp:Sp}{dvs:List V}{ds:List Value}{E:XK}{x m:Str}{p pos apos:Pos}{e o:Expr}{es:List Expr}{ta:TE}{t:TA}
theorem qV{pins:aE}{σ:St}{H:Hp}{s:Shared}{Q:VK}{us:List Value}{vs:List V}(F:bF X.prog X.w X.K X.mg X.base CX k f fd ps sp)(hr:cq k X.A)(hb:Binds X.K fd ps ds)(hd:Vals dvs ds)(hx:Passes CX X E)
  (I:Inv X pins σ H s) (r:Vals vs us) (h:sp (vs++dvs) H Q E):wpAny (model X.prog X.w) X.A (call (.ref f) us) (EP X pins σ Q) X.xe s:=by
 have r2:Vals (vs++dvs) (us++ds):=r.append hd;have hl:(us++ds).length=ps.length:=by rw[<-r2.length];exact F.len _ _ _ _ h
 refine kB (oF (F.run X.A X.stack s H ⟨us,[]⟩ (us++ds) (vs++dvs) Q E hr I.Ct (hb s us I.bP hl) r2 h) fun r s' hq=>?_);cases r with
 |error e=>exact hx pins σ H s e s' I hq
 |ok fl=>
  cases fl with
  |ret u=>exact I.after hq
  |next=>exact False.elim hq
  |brk=>exact False.elim hq
  |cont=>exact False.elim hq
theorem FJ(F:bF X.prog X.w X.K X.mg X.base CX k f fd ps sp)(hr:cq k X.A)(hg:Gl X x)(hm:X.mg x=some (.ref f))(hk:W.keepIn X.K (.ref f)=true)(hb:Binds X.K fd ps ds)(hd:Vals dvs ds)(hx:Passes CX X E)
  (ha:PA X (e::es) t) (hdb:(x== ("__debug__" : Str))=false:=by decide) (he:starEach (e::es) X.env=(false,eval e X.env)::starEach es X.env:=by rfl) (hpl:(backTo pos (starEach es X.env)).any (·.1)=false:=by rfl):
  PE X (.Call (.Name x p) (e::es) [] pos) (LW sp dvs E t):=by
 intro pins s σ H Q I h;refine kr (fQ I hg hm ?_ hdb);refine oC (h₀:=X.base) I.ok.mod.q8 hk (az (ha pos pins s σ H _ I h) fun us s1 Z=>Z.k2 fun vs H1 I1 r q=>⟨I1.bP,?_⟩) he hpl;exact qV F hr hb hd hx I1 r q
theorem Gp{pl:Sem Bool}(he:PE X o ta)(c:pL X.K C)(hm:Meth X.K C m f)(F:bF X.prog X.w X.K X.mg X.base CX k f fd ps sp)(hr:cq k X.A)(hb:Binds X.K fd ps ds)(hd:Vals dvs ds)(hx:Passes CX X E)(ha:PA X (e::es) t)
  (hst:starEach (e::es) X.env=(false,eval e X.env)::starEach es X.env:=by rfl) (hpl:(backTo pos (starEach es X.env)).any (·.1)=false:=by rfl)
  (ht:eval (.Call (.Attribute o m apos) (e::es) [] pos) X.env=(do
   let ov <-eval o X.env
   standAt apos.atName
   let (f,first) <-holding [ov] (getMethod ov m pl)
   callWith pos f first (backTo pos (starEach (e::es) X.env)) (backToKw pos (keywordEach [] X.env))):=by rfl):
  PE X (.Call (.Attribute o m apos) (e::es) [] pos) (Fg C m sp dvs E ta t):=by
 intro pins s σ H Q I h;refine W.methodCall_KW (pl:=pl) (az (he pins s σ H _ I h) fun u s1 Z=>Z.k2 fun x H1 I1 rx Z=>Z.g fun a Z=>Z.g fun dx Z=>Z.g fun fs Z=>Z.g fun ex Z=>Z.g fun ea Z=>Z.g fun l q=>?_) ht;subst ex;obtain rfl:u=Value.ref a:=rx;refine qX I1 ea c hm l ?_;refine oC (first:=[.ref a]) (h₀:=X.base) I.ok.mod.q8 hm.kp (az (ha pos pins s1 σ H1 _ I1 q) fun us s2 Z=>Z.k2 fun vs H2 I2 r q2=>⟨I2.bP,?_⟩) hst hpl;exact qV (us:=.ref a::us) (vs:=.ref a::vs) F hr hb hd hx I2 (.cons rfl r) q2
structure Mk(K:W.Frag)(C f:Addr):Prop where
 makes:W.makesIn K C=true
 init:W.findIn K (.ref C) "__init__" = some (some (.ref f))
 fn:W.isFn K (.ref f)=true
 kp:W.keepIn K (.ref C)=true
theorem um{pins:aE}{σ:St}{H:Hp}{s:Shared}{Q:VK}{us:List Value}{vs:List V}(M:Mk X.K C f)(F:bF X.prog X.w X.K X.mg X.base CX k f fd ps sp)(hr:cq (k+1) X.A)(hb:Binds X.K fd ps ds)(hd:Vals dvs ds)
  (hx:Passes CX X E) (I:Inv X pins σ H s) (r:Vals vs us)
  (h:∀x dx,H x=none->H dx=none->dx≠x->sp (.ref x::(vs++dvs)) (upd (upd H dx (.own x)) x (.ins C dx [])) (fun v H2=>v=.ah/\Q (.ref x) H2) E):
  wpAny (model X.prog X.w) X.A (call (.ref C) us) (EP X pins σ Q) X.xe s:=by
 have hq:=h (s.heap.objs.size+1) s.heap.objs.size (I.av.fresh (rM _)) (I.av.fresh (aA _)) (cV (vD _));have I2:=Inv.made (C:=C) I;have r2:Vals (V.ref (s.heap.objs.size+1)::(vs++dvs)) (Value.ref (s.heap.objs.size+1)::(us++ds)):=.cons rfl (r.append hd);have hl:(Value.ref (s.heap.objs.size+1)::us++ds).length=ps.length:=by have e:=r2.length;rw[F.len _ _ _ _ hq] at e;exact e.symm
 refine kB (CL (f:=f) I.bP M.makes M.init (gS.mp M.fn) (oF (F.run _ X.stack _ _ ⟨Value.ref (s.heap.objs.size+1)::us,[]⟩ (Value.ref (s.heap.objs.size+1)::(us++ds)) _ _ E (hr.make C us [])
  (I2.Ct.make C us []) (hb _ (Value.ref (s.heap.objs.size+1)::us) I2.bP hl) r2 hq) fun r s' hq'=>?_))
 cases r with
 |error e=>exact hx pins σ _ _ e s' I2 hq'
 |ok fl=>
  cases fl with
  |ret u=>
   obtain⟨v,H',I3,rv,ev,q3⟩:=I2.after hq';subst ev;exact⟨rv,⟨V.ref (s.heap.objs.size+1),H',I3,rfl,q3⟩⟩
  |next=>exact False.elim hq'
  |brk=>exact False.elim hq'
  |cont=>exact False.elim hq'
theorem FW(M:Mk X.K C f)(F:bF X.prog X.w X.K X.mg X.base CX k f fd ps sp)(hr:cq (k+1) X.A)(hg:Gl X x)(hm:X.mg x=some (.ref C))(hb:Binds X.K fd ps ds)(hd:Vals dvs ds)(hx:Passes CX X E)
  (ha:PA X (e::es) t) (hdb:(x== ("__debug__" : Str))=false:=by decide) (he:starEach (e::es) X.env=(false,eval e X.env)::starEach es X.env:=by rfl) (hpl:(backTo pos (starEach es X.env)).any (·.1)=false:=by rfl):
  PE X (.Call (.Name x p) (e::es) [] pos) (Mo C sp dvs E t):=by
 intro pins s σ H Q I h;refine kr (fQ I hg hm ?_ hdb);refine oC (h₀:=X.base) I.ok.mod.q8 M.kp (az (ha pos pins s σ H _ I h) fun us s1 Z=>Z.k2 fun vs H1 I1 r q=>⟨I1.bP,?_⟩) he hpl;exact um M F hr hb hd hx I1 r q
end
section
variable {X:Cx}{CX:fj}{k:Nat}{f C:Addr}{fd:FuncData}{ps ks:List Str}{sp:Sp}{E:XK}{x m:Str}{p pos apos kpos:Pos}{e o:Expr}{es:List Expr}{kws:List Keyword}{te ta:TE}{t tk:TA}{nm:Option Str}
variable {g:List Value->List Value->List Value}{gV:List V->List V->List V}
end
structure oE(N P:List Str)(sc:Scope):Prop where
 kind:sc.kind=.function
 co:sc.isCoroutine=false
 gen:sc.isGenerator=false
 nd:N.Nodup
 pre:N.take P.length=P
 par:∀x∈P,sc.names.lookup x=some .local\/sc.names.lookup x=some .cell
 Jl:∀y∈sc.names,y.2≠.free
theorem sQ{kindOf:Str->Option NameKind}{x:Str}:∀{binds:List (Str×Value)}{m:Str->Option Value},(∀v,(x,v)∉binds)->bindL kindOf binds m x=m x
 |[],_,_=>rfl
 |(n,v)::r,m,h=>by
  unfold bindL;rw[sQ fun w hw=>h w (iY _ hw)];split
  .have:x≠n:=by rintro rfl;exact h v n8
   simp[this]
  .rfl
theorem sS{kindOf:Str->Option NameKind}{x:Str}:∀{binds:List (Str×Value)}{m:Str->Option Value},(∀v,(x,v)∉binds)->bindC kindOf binds m x=m x
 |[],_,_=>rfl
 |(n,v)::r,m,h=>by
  unfold bindC;rw[sS fun w hw=>h w (iY _ hw)];split
  .rfl
  .have:x≠n:=by rintro rfl;exact h v n8
   simp[this]
theorem tJ{kindOf:Str->Option NameKind}{x:Str}{v:Value}:∀{P:List Str}{vs:List Value}{i:Nat}{m:Str->Option Value},P.Nodup->P[i]?=some x->vs[i]?=some v->kindOf x=some .local->
  bindL kindOf (P.zip vs) m x=some v
 |[],_,_,_,_,h,_,_=>by simp at h
 |_::_,[],_,_,_,_,h,_=>by simp at h
 |p::P,w::vs,0,m,nd,h1,h2,hk=>by
  simp at h1 h2;subst h1;subst h2;show bindL kindOf ((p,w)::P.zip vs) m p=_;unfold bindL;rw[sQ fun v hv=>(zm.mp nd).1 (Aq hv).1,if_pos hk];simp
 |p::P,w::vs,i+1,m,nd,h1,h2,hk=>by
  show bindL kindOf ((p,w)::P.zip vs) m x=_;unfold bindL;exact tJ (i:=i) (zm.mp nd).2 (by simpa using h1) (by simpa using h2) hk
theorem sO{kindOf:Str->Option NameKind}{x:Str}{v:Value}:∀{P:List Str}{vs:List Value}{i:Nat}{m:Str->Option Value},P.Nodup->P[i]?=some x->vs[i]?=some v->kindOf x≠some .local->
  bindC kindOf (P.zip vs) m x=some v
 |[],_,_,_,_,h,_,_=>by simp at h
 |_::_,[],_,_,_,_,h,_=>by simp at h
 |p::P,w::vs,0,m,nd,h1,h2,hk=>by
  simp at h1 h2;subst h1;subst h2;show bindC kindOf ((p,w)::P.zip vs) m p=_;unfold bindC;rw[sS fun v hv=>(zm.mp nd).1 (Aq hv).1,if_neg hk];simp
 |p::P,w::vs,i+1,m,nd,h1,h2,hk=>by
  show bindC kindOf ((p,w)::P.zip vs) m x=_;unfold bindC;exact sO (i:=i) (zm.mp nd).2 (by simpa using h1) (by simpa using h2) hk
noncomputable def start(N:List Str)(vs:List V):St:=vs.map some++List.replicate (N.length-vs.length) none
def rL(CX:fj)(P:Program)(w:World)(K:W.Frag)(mg:Str->Option Value)(base:Heap)(N:List Str)(qual:Str)(scope:Scope)(f:Addr)(cd:Value)(A:Around)(outer:List Env)(s:Shared)(H:Hp)(E:XK)(cl:eM:=Nj):Cx where
 cl:=cl
 prog:=P
 w:=w
 K:=K
 mg:=mg
 base:=base
 A:=A.deeper (envOfC qual scope s.heap.objs.size f cd)
 N:=N
 aG:=s
 jW:=H
 env:=envOfC qual scope s.heap.objs.size f cd
 outer:=outer
 stack:=envOfC qual scope s.heap.objs.size f cd::outer
 ex:=[]
 calm:=true
 fn:=fun _=>true
 pn:=[]
 xe:=fun e s'=>wpAny (model P w) (A.deeper (envOfC qual scope s.heap.objs.size f cd)) (leaving (envOfC qual scope s.heap.objs.size f cd) e) (fun _ s''=>CX outer H s E e s'') (fun e' s''=>CX outer H s E e' s'') s'
theorem vX{sc:Scope}{n:Nat}{x:Str}(h:sc.names.lookup x=some .cell):∃c,(cellsFrom n sc.names []).lookup x=some c:=by have q:=W.cellsFrom_some sc.names n [] (.inl h);exact CT.mp q
theorem AH{CX:fj}{P:Program}{w:World}{K:W.Frag}{mg:Str->Option Value}{base:Heap}{N ps:List Str}{qual:Str}{scope:Scope}{f:Addr}{cd:Value}{A:Around}{outer:List Env}{s s1:Shared}{H:Hp}{E:XK}{us:List Value}{vs:List V}{cl:eM}
  (S:oE N ps scope) (hd:A.handled=none) (e0:ml P w K mg base A outer s H) (hl:vs.length=ps.length) (r:Vals vs us)
  (x:InCallC s s.heap.objs.size (bindL (envOfC qual scope s.heap.objs.size f cd).kindOf (ps.zip us) fun _=>none) (cellsFrom (s.heap.objs.size+1) scope.names []) (bindC (envOfC qual scope s.heap.objs.size f cd).kindOf (ps.zip us) fun _=>none) s1):
  Inv (rL CX P w K mg base N qual scope f cd A outer s H E cl) [] (start N vs) H s1:=by
 have hpl:ps.length<=N.length:=by have:=cR List.length S.pre;rw[nO] at this;lia
 obtain⟨h1,tk,rfl,hk⟩:=x.done;have noA:∀b:Addr,b∉(rL CX P w K mg base N qual scope f cd A outer s H E cl).ex:=fun b z=>absurd (show b∈([]:List Addr) from z) (by simp);refine⟨⟨e0.mod,S.kind,rfl,rfl,aA _,fun y z c h1 h2=>?_,fun y hy=>?_,fun y c _ h=>?_,fun _=>hd,Around.frames_deeper e0.frames,.inr ⟨rfl,rfl⟩,fun b z=>absurd z (noA b),e0.bs,e0.lC,fun b _ _=>noA b,fun b z=>absurd z (noA b),e0.fK,e0.nF⟩,
  rfl,e0.bare,Un.kept hk,⟨_,x.toInCall.ns,fun i y v h1 h2 h3=>?_⟩,fun y c h=>⟨_,x.cell y c h⟩,e0.av.fresh (aA _),fun y c h=>?_,fun p hp=>absurd (show p∈([]:aE) from hp) (by simp),e0.av.kept hk,?_⟩
 .exact name_of_addr x.apart (gX h1) (gX h2)
 .have hy:scope.names.lookup y=some .cell\/scope.names.lookup y=some .free:=hy;rcases hy with hy|hy
  .exact vX hy
  .exact absurd rfl (S.Jl _ (gX hy))
 .exact Ae (x.above y c (gX h))
 .have hi:i<vs.length:=by
   unfold start at h2;by_cases hi:i<vs.length
   .exact hi
   .rw[lQ (by simpa using hi)] at h2;rw[zd] at h2;split at h2<;>cases h2
  have ha:vs[i]?=some v:=by
   unfold start at h2;rw[e9 (by simpa using hi),kO] at h2;cases e:vs[i]? with
   |none=>rw[e] at h2;cases h2
   |some a=>rw[e] at h2;cases h2;rfl
  obtain⟨u,hu,rv⟩:=r.get ha;have hp:ps[i]?=some y:=by rw[<-S.pre,DV (by lia)];exact h1
  have ndP:ps.Nodup:=by rw[<-S.pre];exact S.nd.sublist (List.take_sublist _ _)
  refine⟨u,rv,?_⟩;rcases S.par y (vc hp) with k|k
  .exact .inl ⟨k,tJ ndP hp hu k⟩
  .obtain⟨c,e⟩:=vX (n:=s.heap.objs.size+1) k;refine .inr ⟨.inl k,c,e,?_⟩;have q:=x.cell y c e;rw[sO ndP hp hu (by show scope.names.lookup y≠_;rw[k];decide)] at q;exact q
 .exact e0.av.fresh (Ae (x.above y c (gX h)))
 .unfold start;show _=N.length;rw[kQ,iG,Dz]
  lia
theorem MY{CX:fj}{P:Program}{w:World}{K:W.Frag}{mg:Str->Option Value}{base:Heap}{k:Nat}{f:Addr}{name qual:Str}{params:Arguments}{body:List Stmt}{scope:Scope}{dV kV doc pm cdv ct oc:Value}{an od:Option Addr}
  {osl:Array (Option Value)}{N ps:List Str}{sp:Sp}{cl:eM} (lk:K.lookup f=some ⟨oc,od,.func (W.fnOf name qual params body scope dV kV doc pm an cdv ct),osl⟩) (hcd:W.codeIn K cdv qual=true) (S:oE N ps scope)
  (len:∀vs H Q E,sp vs H Q E->vs.length=ps.length)
  (hbody:∀(A:Around)(outer:List Env)(s:Shared)(H:Hp)(vs:List V)(Q:VK)(E:XK),cq k (A.deeper (envOfC qual scope s.heap.objs.size f cdv))->sp vs H Q E->
   ∃t,dE (rL CX P w K mg base N qual scope f cdv A outer s H E cl) body t/\t {nx:=fun _ H'=>Q .ah H',rt:=Q} (start N vs) H):
  bF P w K mg base CX (k+1) f (W.fnOf name qual params body scope dV kV doc pm an cdv ct) ps sp:=by
 refine⟨len,fun A outer s H args us vs Q E hr e0 hb r hsp=>?_⟩;have hl:=len _ _ _ _ hsp;have KX:K.In s.heap:=e0.mod.q8.keeps fun b o e=>(e0.bs b o e).1;have lim:s.heap.NoLimit:=e0.mod.nolimit.keeps fun b o e=>(e0.bs b o e).1;have hkind:∀y∈ps.zip us,scope.names.lookup y.1=some .local\/(scope.names.lookup y.1=some .cell/\((cellsFrom (s.heap.objs.size+1) scope.names []).lookup y.1).isSome=true):=fun⟨n,v⟩ hy=>by
  rcases S.par n (Aq hy).1 with q|q
  .exact .inl q
  .exact .inr ⟨q,W.cellsFrom_some _ _ _ (.inl q)⟩
 refine codeAny_call_function hr.depth (KX _ _ lk) rfl S.co S.gen rfl (W.codeRec_of KX hcd) (hb _ _ _ _ ?_);refine wpAny_newFunctionEnv_cells S.kind hkind fun env he s1 x=>?_;subst he;refine⟨lim.keeps x.toInCall.keep,codeAny_func ?_⟩;obtain⟨t,ht,hq⟩:=hbody A outer s H vs Q E (hr.deeper _) hsp;have I:Inv (rL CX P w K mg base N qual scope f cdv A outer s H E cl) [] (start N vs) H s1:=AH S hr.hd e0 hl r x;refine iK (ht [] s1 (start N vs) H _ I hq) (fun fl s' hs=>?_) fun e s' hs=>hs;have fin:∀{σ':St}{H':Hp}{v:V}{u:Value},Inv (rL CX P w K mg base N qual scope f cdv A outer s H E cl) [] σ' H' s'->RelV v u->Q v H'->CE outer P w H s Q u s':=
  fun {σ' H' v u} J rv q=>⟨v,H',J.os,J.bare,J.base,J.av,rv,q⟩
 cases fl with
 |ret u=>
  obtain⟨v,σ',H',J,rv,q⟩:=hs;exact fin J rv q
 |next=>
  obtain⟨σ',H',J,q⟩:=hs;exact fin (v:=V.ah) (u:=Value.none) J rfl q
 |brk=>
  obtain⟨_,_,_,q⟩:=hs;exact False.elim q
 |cont=>
  obtain⟨_,_,_,q⟩:=hs;exact False.elim q
section
variable {X:Cx}{x:Str}{p pos:Pos}{e:Expr}{es:List Expr}{t:TA}{id T:String}{r:List V->Hp->VK->Prop}
noncomputable def Kz(r:List V->Hp->VK->Prop)(t:TA):TE:=fun σ H Q=>t σ H fun vs H1=>r vs H1 Q
theorem mf(hc:js X (.builtin id) r)(hg:Gl X x)(hm:X.mg x=none)(hv:bootBuiltins x=some (.builtin id))(ha:PA X (e::es) t)(hn:x≠ "__name__" := by decide)(hdb:(x== ("__debug__" : Str))=false:=by decide)
  (he:starEach (e::es) X.env=(false,eval e X.env)::starEach es X.env:=by rfl) (hpl:(backTo pos (starEach es X.env)).any (·.1)=false:=by rfl):PE X (.Call (.Name x p) (e::es) [] pos) (Kz r t):=by
 intro pins s σ H Q I h;refine kr (lF I hg hm hv ?_ hn hdb);exact PyProof.Rows.callWith_builtin1 (az (ha pos pins s σ H _ I h) fun us s1 Z=>Z.k2 fun vs H1 I1 r1 q1=>hc pins s1 σ H1 vs us Q I1 r1 q1) he hpl
theorem nk(hc:js X (.type T) r)(hg:Gl X x)(hm:X.mg x=none)(hv:bootBuiltins x=some (.type T))(ha:PA X (e::es) t)(hn:x≠ "__name__" := by decide)(hdb:(x== ("__debug__" : Str))=false:=by decide)
  (he:starEach (e::es) X.env=(false,eval e X.env)::starEach es X.env:=by rfl) (hpl:(backTo pos (starEach es X.env)).any (·.1)=false:=by rfl):PE X (.Call (.Name x p) (e::es) [] pos) (Kz r t):=by
 intro pins s σ H Q I h;refine kr (lF I hg hm hv ?_ hn hdb);exact zD (az (ha pos pins s σ H _ I h) fun us s1 Z=>Z.k2 fun vs H1 I1 r1 q1=>hc pins s1 σ H1 vs us Q I1 r1 q1) he hpl
end
end L2
namespace HT
open PySem PyProof.Rows
section
open PySem.SeqAt
open PySem.AutoSeq1 (wpAny_loadPart')
open PySem.MeetsSeq PySem.MeetsSeq2 PySem.MeetsSeq3
end
section
variable {prog:Program}{w:World}{A:Around}{E:aO}{s:Shared}
theorem Gz{t b:Addr}{vs ws:List Value}{Q:aO}(ht:IsTup s.heap t vs.toArray)(hb:IsTup s.heap b ws.toArray)(hv:vs≠ [])
  (h1:ws=[]->Q (.ref t) s) (h2:ws≠ []->Q (.ref s.heap.objs.size) {s with heap:=s.heap.push {cls:=.type "tuple",data:=.seq (vs++ws).toArray}})
  (hsz:vs.length+ws.length<=sizeLine):wpAny (model prog w) A (binaryOp .Add (.ref t) (.ref b)) Q E s:=by
 obtain⟨⟨cls,dd,data,sl⟩,ho,hc,n,hd⟩:=id ht;obtain⟨⟨cls2,dd2,data2,sl2⟩,ho2,hc2,n2,hd2⟩:=id hb;simp only at hc hd hc2 hd2;subst hc hd hc2 hd2;have e:vs.toArray++ws.toArray=(vs++ws).toArray:=by simp
 by_cases hw:ws=[]
 .exact concat_meets ⟨_,ho,rfl⟩ ⟨_,ho2,rfl⟩ yL seq_tuple_add Au DF (CA _ _)
   (tuple_addW1 t b vs.toArray ws.toArray n n2 dd dd2 sl sl2 (by simpa using hv) (by simp[hw])) ⟨ho,ho2,h1 hw⟩
 .refine concat_meets ⟨_,ho,rfl⟩ ⟨_,ho2,rfl⟩ yL seq_tuple_add Au DF (CA _ _)
   (tuple_addW2 t b vs.toArray ws.toArray n n2 dd dd2 sl sl2 (by simpa using hv) (by simpa using hw) (by rw[cF,cF];exact hsz)) ⟨ho,ho2,?_⟩
  rw[e];exact h2 hw
def bz(n d:Nat):Option Int->Nat
 |none=>d
 |some v=>if v<0 then (v+(n:Int)).toNat else min v.toNat n
theorem Hg(n d:Nat)(hd:d<=n)(o:Option Int):bz n d o<=n:=by
 cases o with
 |none=>exact hd
 |some v=>
  show (if v<0 then (v+(n:Int)).toNat else min v.toNat n)<=n;by_cases hv:v<0
  .rw[if_pos hv];lia
  .rw[if_neg hv];exact Nat.min_le_right _ _
theorem yb(v:Int)(n d:Nat):(if v<0 then max (v+(n:Int)) 0 else min v (n:Int))=((bz n d (some v):Nat):Int):=by
 show (if v<0 then max (v+(n:Int)) 0 else min v (n:Int))=(((if v<0 then (v+(n:Int)).toNat else min v.toNat n):Nat):Int);by_cases hv:v<0
 .simp only[if_pos hv];lia
 .simp only[if_neg hv];lia
theorem zA(lo hi:Option Int)(n:Nat):Builtin.Slice.sliceAdjust lo hi 1 (n:Int)=(((bz n 0 lo:Nat):Int),((bz n n hi:Nat):Int)):=by
 have h1:¬ ((1:Int)<0):=by lia
 unfold Builtin.Slice.sliceAdjust;simp only[h1,dq];refine Prod.ext ?_ ?_
 .cases lo with
  |none=>rfl
  |some v=>exact yb v n 0
 .cases hi with
  |none=>rfl
  |some v=>exact yb v n n
theorem zy(i j:Nat):Builtin.Slice.slicePlaces (i:Int) (j:Int) 1=j-i:=by
 unfold Builtin.Slice.slicePlaces;have h1:(1:Int) > 0:=by lia
 simp only[h1,fg,Int.ediv_one];split<;>lia
theorem qx{v:Value}{o:Option Int}{Q:Option Int->Shared->Prop}(p:IsPart v o)(h:Q o s):wpAny (model prog w) A (Builtin.Slice.slicePartIndex v) Q E s:=by
 cases p with
 |none=>exact slicePart_none h
 |int i t=>exact slicePart_int h
theorem ql{sl:Addr}{vl vu:Value}{lo hi:Option Int}{n:Nat}{Q:Int×Int×Nat->Shared->Prop}(hs:s.heap.IsSliceOf sl vl vu .none)(pl:IsPart vl lo)(pu:IsPart vu hi)
  (h:Q (((bz n 0 lo:Nat):Int),1,bz n n hi-bz n 0 lo) s):wpAny (model prog w) A (Builtin.Slice.sliceApplied (.ref sl) (pure (n:Int))) Q E s:=by
 obtain⟨os,hos,hcs,ij⟩:=id hs;unfold Builtin.Slice.sliceApplied Builtin.Slice.sliceFields;refine ag (ag (gx hos ij (x:=vl) rfl (ag (gx hos ij (x:=vu) rfl (ag (gx hos ij (x:=.none) rfl (aC ?_)))))));refine ag (slicePart_none ?_);show wpAny _ _ (if ((1:Int)== 0)=true then _ else _) _ _ s;rw[if_neg (by decide)];refine ag (qx pl (ag (qx pu (ag (aC ?_)))));show wpAny _ _ (match Builtin.Slice.sliceAdjust lo hi 1 (n:Int) with|(lo,hi)=>pure (lo,(1:Int),Builtin.Slice.slicePlaces lo hi 1)) _ _ s;rw[zA lo hi n];show wpAny _ _ (pure (((bz n 0 lo:Nat):Int),(1:Int),Builtin.Slice.slicePlaces ((bz n 0 lo:Nat):Int) ((bz n n hi:Nat):Int) 1)) _ _ s;rw[zy];exact aC h
theorem C7(xs:Array Value)(i k:Nat):((List.range k).filterMap fun (m:Nat)=>xs[((i:Int)+(m:Int) * 1).toNat]?).toArray=((xs.toList.drop i).take k).toArray:=by
 have e:(fun (m:Nat)=>xs[((i:Int)+(m:Int) * 1).toNat]?)=fun m=>xs[i+m]?:=by
  funext m;have:((i:Int)+(m:Int) * 1).toNat=i+m:=by lia
  rw[this]
 rw[e];have:=pick_run xs i k;rw[List.filterMap_map] at this;have e2:((fun x=>xs[x]?) ∘ fun x=>i+x)=fun m=>xs[i+m]?:=rfl;rw[e2] at this;rw[this]
theorem pe{t sl:Addr}{items:Array Value}{vl vu:Value}{lo hi:Option Int}{Q:aO}(ht:IsTup s.heap t items)(hs:s.heap.IsSliceOf sl vl vu .none)(pl:IsPart vl lo)(pu:IsPart vu hi)
  (hw:¬ (bz items.size 0 lo=0/\bz items.size items.size hi=items.size))
  (h:Q (.ref s.heap.objs.size) {s with heap:=s.heap.push {cls:=.type "tuple",data:=.seq ((items.toList.drop (bz items.size 0 lo)).take (bz items.size items.size hi-bz items.size 0 lo)).toArray}})
  (hsz:items.size<=sizeLine):wpAny (model prog w) A (getItem (.ref t) (.ref sl)) Q E s:=by
 have htake:sizeOk (.seq ((items.toList.drop (bz items.size 0 lo)).take (bz items.size items.size hi-bz items.size 0 lo)).toArray):=by
  show ((items.toList.drop (bz items.size 0 lo)).take (bz items.size items.size hi-bz items.size 0 lo)).toArray.size<=sizeLine;rw[cF,nO,zW,Ik]
  lia
 have hj:bz items.size items.size hi<=items.size:=Hg _ _ (aA _) hi;obtain⟨os,hos,hcs,ij⟩:=id hs;have hTs:s.TypeIs (.ref sl) "slice" := ⟨os,hos,hcs⟩;unfold getItem
 try with_reducible refine jB ?_
 first|refine ag (aC ?_)|skip
 refine ag (wpAny_sequenceKey ht.typeIs (by decide) ?_);refine ag (tS (name:=Str.ofString "__getitem__") ht.typeIs D1
  (qt D1 ht.typeIs entry_tuple_getitem ?_ (args_tuple_getitem _ _)))
 show wpAny _ _ (Builtin.Tuple.tupleItemsOf (.ref t) >>= _) _ _ s;refine ag (tupleItemsOf_ ht ?_);refine ag (wpAny_typeOf hTs ?_);rw[if_pos (by decide)];refine ag (ql hs pl pu ?_);have hno:¬ ((((bz items.size 0 lo:Nat):Int)== 0&&(1:Int)== 1&&(bz items.size items.size hi-bz items.size 0 lo)== items.size)=true):=by intro q;rw[ao,ao] at q;have q1:((bz items.size 0 lo:Nat):Int)=0:=eq_of_beq q.1.1;have q2:bz items.size items.size hi-bz items.size 0 lo=items.size:=eq_of_beq q.2;exact hw ⟨by lia,by lia⟩
 show wpAny _ _ (if (((bz items.size 0 lo:Nat):Int)== 0&&(1:Int)== 1&&(bz items.size items.size hi-bz items.size 0 lo)== items.size)=true then _ else _) _ _ s;rw[if_neg hno,C7];first
  |exact ag (m:=Builtin.Tuple.tupleExact _) (jn (aC ⟨_,rfl,aC h⟩) htake)
  |exact ag (m:=Builtin.Tuple.tupleExact _) (jn (ag (aC (aC ⟨_,rfl,aC h⟩))) htake)
  |exact ag (ag (m:=Builtin.Tuple.tupleExact _) (jn (aC (aC ⟨_,rfl,aC h⟩)) htake))
  |exact ag (ag (m:=Builtin.Tuple.tupleExact _) (jn (aC ⟨_,rfl,aC h⟩) htake))
end
end HT
namespace L2
open PySem PySem.Spec PyProof.Rows
abbrev TO:=St->Hp->(Option Int->Hp->Prop)->Prop
def PO(X:Cx)(e:Option Expr)(t:TO):Prop:=
 ∀(pins:aE)(s:Shared)(σ:St)(H:Hp)(Q:Option Int->Hp->Prop),Inv X pins σ H s->t σ H Q->
  wpAny (model X.prog X.w) X.A (evalPart e X.env) (fun u s'=>∃o H',Inv X pins σ H' s'/\IsPart u o/\Q o H') X.xe s
noncomputable def GV:TO:=fun _ H Q=>Q none H
noncomputable def LG(t:TE):TO:=fun σ H Q=>t σ H fun x H1=>∃i,x=.int i/\Q (some i) H1
section
variable {X:Cx}{e:Expr}{te:TE}{lo hi:Option Expr}{tl th:TO}{pos p2:Pos}
theorem F8:PO X none GV:=by intro pins s σ H Q I h;rw[evalPart_none];exact aC ⟨none,H,I,.none,h⟩
theorem FG(h:PE X e te):PO X (some e) (LG te):=by intro pins s σ H Q I hw;rw[evalPart_some];refine az (h pins s σ H _ I hw) fun u s1 Z=>Z.k2 fun x H1 I1 r1 q1=>?_;obtain⟨i,rfl,q⟩:=q1;obtain⟨t,rfl⟩:=r1;exact⟨some i,H1,I1,.int i t,q⟩
def Oq(X:Cx)(r:V->Option Int->Option Int->Hp->VK->Prop):Prop:=
 ∀(pins:aE)(s:Shared)(σ:St)(H:Hp)(x:V)(v vl vu:Value)(lo hi:Option Int)(sl:Addr)(Q:VK),Inv X pins σ H s->RelV x v->s.heap.IsSliceOf sl vl vu .none->IsPart vl lo->IsPart vu hi->r x lo hi H Q->
  ∃T id,typeLookup (.type T) "__getitem__" = pure (some (.builtin id))/\s.TypeIs v T/\wpAny (model X.prog X.w) X.A (getItem v (.ref sl)) (EP X pins σ Q) X.xe s
noncomputable def RL(r:V->Option Int->Option Int->Hp->VK->Prop)(te:TE)(tl th:TO):TE:=fun σ H Q=>te σ H fun x H1=>tl σ H1 fun l H2=>th σ H2 fun u H3=>r x l u H3 Q
theorem C8{r:V->Option Int->Option Int->Hp->VK->Prop}(hr:Oq X r)(he:PE X e te)(hl:PO X lo tl)(hu:PO X hi th):PE X (.Subscript e (.Slice lo hi none p2) pos) (RL r te tl th):=by intro pins s σ H Q I h;refine Subscript_ (az (he pins s σ H _ I h) fun v s1 Z=>Z.k2 fun x H1 I1 r1 q1=>?_);refine wpAny_Slice (az (hl pins s1 σ H1 _ I1 q1) fun vl s2 Z=>Z.k2 fun l H2 I2 pl q2=>az (hu pins s2 σ H2 _ I2 q2) fun vu s3 Z=>Z.k2 fun u H3 I3 pu q3=>?_);rw[evalPart_none];refine aC ?_;have I4:Inv X pins σ H3 {s3 with heap:=s3.heap.push {cls:=.type "slice",data:=.fields #[vl,vu,.none]}}:=I3.kept (t':=s3.toks) fun b ob q=>bM _ q;obtain⟨T,id,hT,ht,hg⟩:=hr pins {s3 with heap:=s3.heap.push {cls:=.type "slice",data:=.fields #[vl,vu,.none]}} σ H3 x v vl vu l u s3.heap.objs.size Q I4 r1 (Heap.IsSliceOf.new ..) pl pu q3;show wpAny (model X.prog X.w) X.A (subscriptTail e (.Slice lo hi none p2) v (.ref s3.heap.objs.size)) (EP X pins σ Q) X.xe {s3 with heap:=s3.heap.push {cls:=.type "slice",data:=.fields #[vl,vu,.none]}};exact tail_any (ops:=[.ref s3.heap.objs.size,v]) ht hT hg (by with_unfolding_all rfl)
noncomputable def su(xs:List V)(lo hi:Option Int):List V:=(xs.drop (HT.bz xs.length 0 lo)).take (HT.bz xs.length xs.length hi-HT.bz xs.length 0 lo)
theorem wZ(xs:List V)(lo hi:Option Int):(su xs lo hi).length<=xs.length:=by
 unfold su;rw[nO,zW]
 lia
def Kt(K:W.Frag):V->Option Int->Option Int->Hp->VK->Prop:=fun x lo hi H Q=>∃a xs,x=.ref a/\cY K H a xs/\
 ¬ (HT.bz xs.length 0 lo=0/\HT.bz xs.length xs.length hi=xs.length)/\∀p,H p=none->Q (.ref p) (upd H p (.tup (su xs lo hi)))
theorem I0:Oq X (Kt X.K):=by
 intro pins s σ H x v vl vu lo hi sl Q I rx hs pl pu h;obtain⟨a,xs,rfl,hx,hw,q⟩:=h;cases rx;obtain⟨its,r,ht,hz⟩:=I.tuple hx;have hlen:its.toArray.size=xs.length:=by rw[cF];exact r.length.symm
 refine⟨"tuple",_,D1.lookup,ht.typeIs,?_⟩;refine HT.pe ht hs pl pu (by rw[hlen];exact hw) ?_ (by rw[hlen];exact hz);rw[hlen];refine⟨.ref s.heap.objs.size,_,I.laid (t':=s.toks) (o:=.tup (su xs lo hi)) (fun b ob q=>bM _ q) (aA _) ?_,rfl,q _ (I.av.fresh (aA _))⟩;exact⟨bG (wZ xs lo hi) hz,_,(r.drop (HT.bz xs.length 0 lo)).take (HT.bz xs.length xs.length hi-HT.bz xs.length 0 lo),IsTup.new _ _⟩
def Ew(K:W.Frag):R2:=fun x y H Q=>∃a b xs ys,x=.ref a/\y=.ref b/\cY K H a xs/\cY K H b ys/\xs≠ []/\xs.length+ys.length<=sizeLine/\
 (ys=[]->Q (.ref a) H)/\(ys≠ []->∀p,H p=none->Q (.ref p) (upd H p (.tup (xs++ys))))
theorem Vals.rP{xs:List V}{us:List Value}(r:Vals xs us):us=[]↔xs=[]:=by
 cases r with
 |nil=>simp
 |cons _ _=>simp
theorem Gx:cX X (binaryOp .Add) (Ew X.K):=by intro pins s σ H x y v u Q I rx ry h;obtain⟨a,b,xs,ys,rfl,rfl,ha,hb,hx,hz,q1,q2⟩:=h;cases rx;cases ry;obtain⟨its,r1,p1,_⟩:=I.tuple ha;obtain⟨its2,r2,p2,_⟩:=I.tuple hb;refine HT.Gz p1 p2 (fun z=>hx (r1.rP.mp z)) (fun z=>⟨.ref a,H,I,rfl,q1 (r2.rP.mp z)⟩) (fun z=>?_) (by rw[<-r1.length,<-r2.length];exact hz);refine⟨.ref s.heap.objs.size,_,I.laid (t':=s.toks) (o:=.tup (xs++ys)) (fun b ob q=>bM _ q) (aA _) ?_,rfl,q2 (fun w=>z (r2.rP.mpr w)) _ (I.av.fresh (aA _))⟩;exact⟨by rw[kQ];exact hz,_,r1.append r2,IsTup.new _ _⟩
end
noncomputable def ik(n:Nat)(i:Int):Option Nat:=if 0<=i then (if i<n then some i.toNat else none) else if -(n:Int)<=i then some (i+n).toNat else none
def dw{α:Type}(xs:List α)(i:Int):Option α:=(ik xs.length i).bind fun j=>xs[j]?
theorem yt{n:Nat}{i:Int}{j:Nat}(h:ik n i=some j):seqIndex? i n=some j/\j<n/\ -(n:Int)<=i/\i<n:=by
 unfold ik at h;by_cases h0:0<=i
 .rw[if_pos h0] at h;by_cases h1:i<n
  .rw[if_pos h1] at h;have e:i.toNat=j:=j1 h;exact⟨by rw[seqIndex_of h0 h1,e],by lia,by lia,h1⟩
  .rw[if_neg h1] at h;cases h
 .rw[if_neg h0] at h;by_cases h1: -(n:Int)<=i
  .rw[if_pos h1] at h;have e:(i+n).toNat=j:=j1 h;exact⟨by rw[seqIndex_neg (by lia) h1,e],by lia,h1,by lia⟩
  .rw[if_neg h1] at h;cases h
theorem sy{α:Type}{xs:List α}{i:Int}{v:α}(h:dw xs i=some v):∃j,seqIndex? i xs.length=some j/\xs[j]?=some v/\j<xs.length/\ -(xs.length:Int)<=i/\i<xs.length:=by
 unfold dw at h;cases e:ik xs.length i with
 |none=>rw[e] at h;cases h
 |some j=>
  rw[e] at h;obtain⟨h1,h2,h3,h4⟩:=yt e;exact⟨j,h1,h,h2,h3,h4⟩
theorem jF{α:Type}{xs:List α}{j:Nat}{v:α}(h:xs[j]?=some v):dw xs (j:Int)=some v:=by
 have hj:j<xs.length:=(fH.mp h).1;have e:ik xs.length (j:Int)=some j:=by unfold ik;rw[if_pos (by lia),if_pos (by lia)];simp
 unfold dw;rw[e];exact h
def oX(b:Expr):Prop:=∀o i,subscripted b false o i=operate [o,i] (getItem o i)
def pR(X:Cx)(r:R2):Prop:=
 ∀(value slice:Expr)(pins:aE)(s:Shared)(σ:St)(H:Hp)(x y:V)(v u:Value)(Q:VK),Inv X pins σ H s->RelV x v->RelV y u->r x y H Q->
  subscripted slice false v u=operate [v,u] (getItem v u)->wpAny (model X.prog X.w) X.A (subscriptTail value slice v u) (EP X pins σ Q) X.xe s
def Nb(X:Cx)(id:String)(r:V->List V->Hp->VK->Prop):Prop:=
 ∀(pins:aE)(s:Shared)(σ:St)(H:Hp)(x:V)(xs:List V)(v:Value)(us:List Value)(Q:VK),Inv X pins σ H s->RelV x v->Vals xs us->r x xs H Q->
  wpAny (model X.prog X.w) X.A (call (.builtin id) (v::us)) (EP X pins σ Q) X.xe s
section
variable {X:Cx}{a b:Expr}{ta tb:TE}{pos:Pos}
theorem pR.or{r r':R2}(h:pR X r)(h':pR X r'):pR X (fun x y H Q=>r x y H Q\/r' x y H Q):=by
 intro value slice pins s σ H x y v u Q I rx ry q hs;rcases q with q|q
 .exact h value slice pins s σ H x y v u Q I rx ry q hs
 .exact h' value slice pins s σ H x y v u Q I rx ry q hs
theorem En{r:R2}(hr:pR X r)(ha:PE X a ta)(hb:PE X b tb)(hs:oX b):PE X (.Subscript a b pos) (xN r ta tb):=by intro pins s σ H Q I h;exact Subscript_ (CP ha hb I h fun v u s2 x y H2 I2 rx ry q=>hr a b pins s2 σ H2 x y v u Q I2 rx ry q (hs _ _))
def GZ(K:W.Frag):R2:=fun x y H Q=>∃p xs i v,x=.ref p/\y=.int i/\bW K H p xs/\dw xs i=some v/\Q v H
def Hm(K:W.Frag):R2:=fun x y H Q=>∃p xs i v,x=.ref p/\y=.int i/\cY K H p xs/\dw xs i=some v/\Q v H
def Hv:R2:=fun x y H Q=>∃z i c,x=.str z/\y=.int i/\z.length<=sizeLine/\dw z.cps.toList i=some c/\Q (.str ⟨#[c]⟩) H
theorem F5:pR X (GZ X.K):=by
 intro value slice pins s σ H x y v u Q I rx ry h hs;obtain⟨p,xs,i,z,rfl,rfl,hq,he,q⟩:=h;cases rx;obtain⟨t,rfl⟩:=ry;obtain⟨its,r,pl,hz⟩:=I.list hq;obtain⟨j,h1,h2,h3,h4,h5⟩:=sy he;obtain⟨w,ew,rw'⟩:=r.get h2;have hl:=r.length;have hn:=lJ;have fin:EP X pins σ Q w s:=⟨z,H,I,rw',q⟩;by_cases h0:0<=i
 .have hj:i.toNat=j:=by
   rw[seqIndex_of h0 h5] at h1;exact j1 h1
  exact item_listR pl.isList h0 (by lia) (by rw[hj];simpa using ew) fin hs
 .have hj:(i+(its.toArray.size:Int)).toNat=j:=by
   rw[seqIndex_neg (by lia) h4] at h1;rw[cF,<-hl];exact j1 h1
  exact subscriptTail_builtinR (x:=w) pl.isList.typeIs slot_list_getitem.lookup
   (wpAny_getItem_list_neg (Q:=fun r s'=>r=w/\EP X pins σ Q r s') pl.isList (by lia) (by rw[cF]<;>lia) (by lia) (by rw[hj];simpa using ew) ⟨rfl,fin⟩) hs
theorem KC:pR X (Hm X.K):=by
 intro value slice pins s σ H x y v u Q I rx ry h hs;obtain⟨p,xs,i,z,rfl,rfl,hq,he,q⟩:=h;cases rx;obtain⟨t,rfl⟩:=ry;obtain⟨its,r,pl,hz⟩:=I.tuple hq;obtain⟨j,h1,h2,h3,h4,h5⟩:=sy he;obtain⟨w,ew,rw'⟩:=r.get h2;have hl:=r.length;have hn:=lJ;have fin:EP X pins σ Q w s:=⟨z,H,I,rw',q⟩;exact subscriptTail_builtinR (x:=w) pl.typeIs slot_tuple_getitem.lookup
  (getItem_tuple (j:=j) (Q:=fun r s'=>r=w/\EP X pins σ Q r s') pl (by lia) (by lia) (by rw[cF,<-hl];exact h1) (by simpa using ew) ⟨rfl,fin⟩) hs
theorem IY:pR X Hv:=by
 intro value slice pins s σ H x y v u Q I rx ry h hs;obtain⟨z,i,c,rfl,rfl,hz,he,q⟩:=h;obtain⟨t,rfl⟩:=rx;obtain⟨t',rfl⟩:=ry;obtain⟨j,h1,h2,h3,h4,h5⟩:=sy he;have hl:z.cps.toList.length=z.length:=by simp[Str.length]
 rw[hl] at h1 h4 h5;have hn:=lJ;exact tail_any (typeIs_str s z t) slot_str_getitem.lookup (getItem_str (c:=c) (by have e1:decide (i < -(2 ^ 63:Int))=false:=aY (by lia);have e2:decide (i ≥ 2 ^ 63)=false:=aY (by lia);rw[e1,e2,Bool.or_false]) (by rw[h1];simpa using h2) ⟨.str ⟨#[c]⟩,H,I.tok _,⟨_,rfl⟩,q⟩) hs
def Jv(K:W.Frag):R2:=fun x y H Q=>GZ K x y H Q\/Hm K x y H Q\/Hv x y H Q
theorem Jp:pR X (Jv X.K):=F5.or (KC.or IY)
theorem zb(its:List Value)(n j:Nat)(u:Value):Obj.mapSeq (·.setIfInBounds j u) {cls:=.type "list",data:=.seq its.toArray n}={cls:=.type "list",data:=.seq (its.set j u).toArray n}:=by simp[Obj.mapSeq]
theorem Inv.lst{pins:aE}{σ:St}{H:Hp}{s:Shared}{p:Addr}{xs:List V}(I:Inv X pins σ H s)(h:H p=some (.lst xs)):
  ∃(its:List Value) (n:Nat),Vals xs its/\s.heap.get? p=some {cls:=.type "list",data:=.seq its.toArray n}/\xs.length<=sizeLine:=by
 obtain⟨z,its,n,r,e⟩:=I.av p _ h;exact⟨its,n,r,e,z⟩
theorem Inv.KL{pins:aE}{σ:St}{H:Hp}{s:Shared}{p:Addr}{xs ys:List V}{its its':List Value}{n n':Nat}{f:Obj->Obj}(I:Inv X pins σ H s)(h:H p=some (.lst xs))
  (ho:s.heap.get? p=some {cls:=.type "list",data:=.seq its.toArray n}) (hf:f {cls:=.type "list",data:=.seq its.toArray n}={cls:=.type "list",data:=.seq its'.toArray n'}) (r:Vals ys its') (hz:ys.length<=sizeLine) (t:Nat):
  Inv X pins σ (upd H p (.lst ys)) {s with heap:=s.heap.update p f,toks:=t}:=by
 have e:(s.heap.update p f).get? p=some {cls:=.type "list",data:=.seq its'.toArray n'}:=by rw[rY f ho (by rw[hf]<;>rfl),hf]
 refine I.write (x:=p) (e:=p) (by rw[h];trivial) (.inl rfl) (fun b u hb q=>(mX _ _ (aX hb)).trans q) ⟨_,e⟩ ?_;exact⟨hz,its',n',r,e⟩
def E5:V->V->V->Hp->(Hp->Prop)->Prop:=fun o i v H Q=>∃p xs k j,o=.ref p/\i=.int k/\H p=some (.lst xs)/\ik xs.length k=some j/\Q (upd H p (.lst (xs.set j v)))
theorem set_list:K4 X E5:=by
 intro pins s σ H o i v ov iv u Q I ro ri rv h;obtain⟨p,xs,k,j,rfl,rfl,hp,hj,q⟩:=h;cases ro;obtain⟨t,rfl⟩:=ri;obtain⟨its,n,r,ho,hz⟩:=I.lst hp;obtain⟨h1,h2,h3,h4⟩:=yt hj;have hl:=r.length;have hn:=lJ;have I':Inv X pins σ (upd H p (.lst (xs.set j v))) {s with heap:=s.heap.update p (Obj.mapSeq (·.setIfInBounds j u))}:=
  I.KL hp ho (zb its n j u) (r.set rv j) (by rw[wu];exact hz) s.toks
 by_cases h0:0<=k
 .have hk:k.toNat=j:=by
   rw[seqIndex_of h0 h4] at h1;exact j1 h1
  exact W.ki_setAt ho h0 (by lia) (by rw[cF,<-hl];exact h4) (by rw[hk];exact⟨_,I',q⟩)
 .have hk:(k+(its.toArray.size:Int)).toNat=j:=by
   rw[seqIndex_neg (by lia) h3] at h1;rw[cF,<-hl];exact j1 h1
  exact W.ki_setBack ho (by lia) (by rw[cF,<-hl];exact h3) (by lia) (by rw[hk];exact⟨_,I',q⟩)
theorem uR:js X (.builtin "len") (fun xs H Q=>∃p ys,xs=[.ref p]/\(bW X.K H p ys\/cY X.K H p ys)/\Q (.int ys.length) H):=by
 intro pins s σ H xs us Q I r h;obtain⟨p,ys,rfl,hq,q⟩:=h;obtain⟨u,rfl,rx⟩:=vals1 r;cases rx;have hn:=lJ;rcases hq with hq|hq
 .obtain⟨its,r',pl,hz⟩:=I.list hq;have hlen:=r'.length;exact Calls.call_len_list pl.isList (by simp only[cF]<;>lia) ⟨.int ys.length,H,I.tok _,⟨s.toks+1,by rw[cF,hlen]⟩,q⟩
 .obtain⟨its,r',pl,hz⟩:=I.tuple hq;have hlen:=r'.length;exact len_tuple pl (by simp only[cF]<;>lia) ⟨.int ys.length,H,I.tok _,⟨s.toks+1,by rw[cF,hlen]⟩,q⟩
theorem u7:js X (.type "list") (fun xs H Q=>∃p ys,xs=[.ref p]/\(bW X.K H p ys\/cY X.K H p ys)/\∀l,H l=none->Q (.ref l) (upd H l (.lst ys))):=by
 intro pins s σ H xs us Q I r h;obtain⟨p,ys,rfl,hq,q⟩:=h;obtain⟨u,rfl,rx⟩:=vals1 r;cases rx;have fin:∀(its:List Value),Vals ys its->ys.length<=sizeLine->∀(h':Heap)(c':Nat),(∀b o',s.heap.get? b=some o'->h'.get? b=some o')->
   h'.get? s.heap.objs.size=some {cls:=.type "list",dict:=none,data:=.seq its.toArray c',slots:=#[]}->EP X pins σ Q (.ref s.heap.objs.size) {s with heap:=h'}:=fun its r' hz h' c' kp e=>
  ⟨.ref s.heap.objs.size,_,I.laid (t':=s.toks) kp (aA _) (show cj X.prog X.w _ h' _ (.lst ys) from ⟨hz,its,c',r',e⟩),rfl,q _ (I.av.fresh (aA _))⟩
 rcases hq with hq|hq
 .obtain⟨its,r',pl,hz⟩:=I.list hq;have hlen:=r'.length;obtain⟨o,ho,hc,n,hd⟩:=pl.isList;exact call_list_seq p (.inl rfl) ho hc hd (fun h' c' kp e=>fin its r' hz h' c' kp e) (by simp only[cF]<;>lia)
 .obtain⟨its,r',pl,hz⟩:=I.tuple hq;have hlen:=r'.length;obtain⟨o,ho,hc,n,hd⟩:=pl;exact call_list_seq p (.inr rfl) ho hc hd (fun h' c' kp e=>fin its r' hz h' c' kp e) (by simp only[cF]<;>lia)
theorem tN:js X (.type "tuple") (fun xs H Q=>∃p ys,xs=[.ref p]/\((bW X.K H p ys/\∀l,H l=none->Q (.ref l) (upd H l (.tup ys)))\/(cY X.K H p ys/\Q (.ref p) H))):=by
 intro pins s σ H xs us Q I r h;obtain⟨p,ys,rfl,h⟩:=h;obtain⟨u,rfl,rx⟩:=vals1 r;cases rx;rcases h with ⟨hq,q⟩|⟨hq,q⟩
 .obtain⟨its,r',pl,hz⟩:=I.list hq;have hlen:=r'.length;refine call_tuple_list pl.isList (fun h' kp=>?_) (by simp only[cF]<;>lia);have I1:Inv X pins σ H {s with heap:=h'}:=I.kept (t':=s.toks) kp;have I2:Inv X pins σ (upd H h'.objs.size (.tup ys)) {s with heap:=h'.push {cls:=.type "tuple",data:=.seq its.toArray}}:=
   I1.laid (t':=s.toks) (fun b o e=>bM _ e) (aA _) (show cj X.prog X.w _ _ _ (.tup ys) from ⟨hz,its,r',IsTup.new _ _⟩)
  exact⟨.ref h'.objs.size,_,I2,rfl,q _ (I1.av.fresh (aA _))⟩
 .obtain⟨its,r',pl,hz⟩:=I.tuple hq;exact call_tuple_same pl ⟨.ref p,H,I,rfl,q⟩
def Jy(K:W.Frag)(T:String)(x:V)(H:Hp):Prop:=match x with
 |.str _=>T= "str"
 |.int _=>T= "int"
 |.ref p=>(T= "list" /\∃xs,bW K H p xs)\/(T= "tuple" /\∃o,K.lookup p=some o/\o.cls=.type "tuple" /\o.dict=none)\/
   (T= "dict" /\((∃kvs,H p=some (.dK kvs))\/∃kvs,H p=some (.dT kvs)))\/(T= "set" /\∃S n,H p=some (.set S n))
 |_=>False
theorem BG{pins:aE}{σ:St}{H:Hp}{s:Shared}{T:String}{x:V}{v:Value}(I:Inv X pins σ H s)(r:RelV x v)(ty:Jy X.K T x H):
  s.TypeIs v T/\∀a,v=.ref a->∃ob,s.heap.get? a=some ob/\ob.dict=none:=by
 cases x with
 |str z=>
  obtain⟨t,rfl⟩:=r;cases (show T= "str" from ty);exact⟨typeIs_str s z t,fun _ e=>nomatch e⟩
 |int i=>
  obtain⟨t,rfl⟩:=r;cases (show T= "int" from ty);exact⟨typeIs_int s i t,fun _ e=>nomatch e⟩
 |ref p=>
  cases r;rcases ty with ⟨rfl,xs,hq⟩|⟨rfl,o,hk,hc,hd⟩|⟨rfl,hk⟩|⟨rfl,S,n,hk⟩
  .obtain⟨its,_,pl,_⟩:=I.list hq;refine⟨pl.isList.typeIs,fun a e=>?_⟩;cases e;obtain⟨o,n,e,c,hd,_⟩:=pl;exact⟨o,e,hd⟩
  .refine⟨⟨o,I.bP p o hk,hc⟩,fun a e=>?_⟩;cases e;exact⟨o,I.bP _ o hk,hd⟩
  .have z:∃o,s.heap.get? p=some o/\o.ExactDict:=by
    rcases hk with ⟨kvs,hk⟩|⟨kvs,hk⟩
    .obtain⟨_,_,_,_,o,_,_,e,ex,_⟩:=I.av p _ hk;exact⟨o,e,ex⟩
    .obtain⟨_,_,_,_,o,_,_,e,ex,_⟩:=I.av p _ hk;exact⟨o,e,ex⟩
   obtain⟨o,e,ex⟩:=z;refine⟨⟨o,e,ex.1⟩,fun a e2=>?_⟩;cases e2;exact⟨o,e,ex.2.1⟩
  .obtain⟨o,_,_,_,e,ex,_⟩:=I.av p _ hk;refine⟨⟨o,e,ex.1⟩,fun a e2=>?_⟩;cases e2;exact⟨o,e,ex.2.1⟩
 |_=>exact False.elim ty
noncomputable def Pt(K:W.Frag)(T:String)(r:V->List V->Hp->VK->Prop)(to:TE):TE:=fun σ H Q=>to σ H fun x H1=>Jy K T x H1/\r x [] H1 Q
noncomputable def Q0(K:W.Frag)(T:String)(r:V->List V->Hp->VK->Prop)(to:TE)(t:TA):TE:=fun σ H Q=>to σ H fun x H1=>Jy K T x H1/\t σ H1 fun xs H2=>r x xs H2 Q
variable {o e:Expr}{es:List Expr}{to:TE}{t:TA}{name:Str}{apos cpos:Pos}{T id:String}{r:V->List V->Hp->VK->Prop}
theorem AN(pa:PlainAttrs T)(slot:Slot T name id)(hty:typeOf (.builtin id)=pure (.type "method_descriptor"))(hm:Nb X id r)(ho:PE X o to)
  (hbase:attributeBase o name X.env (eval o X.env)=eval o X.env:=by rfl) (hline:(apos.endLine== cpos.line)=true:=by rfl):PE X (.Call (.Attribute o name apos) [] [] cpos) (Pt X.K T r to):=by
 intro pins s σ H Q I h;refine wpAny_Call_method0_late hbase hline (az (ho pins s σ H _ I h) fun v s1 Z=>Z.k2 fun x H1 I1 r1 Z=>Z.g fun ty q1=>?_);obtain⟨h1,h2⟩:=BG I1 r1 ty;exact⟨T,id,pa,slot,hty,h1,h2,CD rfl (PySem.evalArgs_none (hm pins s1 σ H1 x [] v [] Q I1 r1 .nil q1))⟩
theorem M0(pa:PlainAttrs T)(slot:Slot T name id)(hty:typeOf (.builtin id)=pure (.type "method_descriptor"))(hm:Nb X id r)(ho:PE X o to)(ha:PA X (e::es) t)
  (hbase:attributeBase o name X.env (eval o X.env)=eval o X.env:=by rfl)
  (hfew:((backTo cpos (starEach (e::es) X.env)).all (fun x=>!x.1)&&(backToKw cpos (keywordEach [] X.env)).all (fun x=>x.1.isSome)
   && decide ((e::es).length+([]:List Keyword).length+(if ([]:List Keyword).isEmpty then 0 else 1)<30))=true:=by rfl)
  (hline:(apos.endLine== cpos.line)=true:=by rfl) (hs:starEach (e::es) X.env=(false,eval e X.env)::starEach es X.env:=by rfl) (hplain:(backTo cpos (starEach es X.env)).any (·.1)=false:=by rfl):
  PE X (.Call (.Attribute o name apos) (e::es) [] cpos) (Q0 X.K T r to t):=by
 intro pins s σ H Q I h;refine wpAny_Call_method_late hbase hfew hline rfl (az (ho pins s σ H _ I h) fun v s1 Z=>Z.k2 fun x H1 I1 r1 Z=>Z.g fun ty q1=>?_);obtain⟨h1,h2⟩:=BG I1 r1 ty;refine⟨T,id,pa,slot,hty,h1,h2,?_⟩;have hA:=ha cpos pins s1 σ H1 _ I1 q1;rw[hs] at hA⊢;refine CD (by show (false || (backTo cpos (starEach es X.env)).any (·.1))=false;rw[hplain]<;>rfl) (Calls.evalArgs_plain ?_);exact az hA fun us s2 Z=>Z.k2 fun vs H2 I2 r2 q2=>hm pins s2 σ H2 x vs v us Q I2 r1 r2 q2
end
def IK(X:Cx)(id:String)(r:V->List V->Hp->VK->Prop):Prop:=
 ∀(pins:aE)(s:Shared)(σ:St)(H:Hp)(x:V)(xs:List V)(v:Value)(us:List Value)(Q:VK),Inv X pins σ H s->RelV x v->Vals xs us->r x xs H Q->
  wpAny (model X.prog X.w) X.A (call (.builtin id) (v::us)) (EP X pins σ Q) X.xe s
theorem Vals.one:∀{x:V}{us:List Value},Vals [x] us->∃u,us=[u]/\RelV x u
 |_,_,.cons r .nil=>⟨_,rfl,r⟩
theorem Vals.zero:∀{us:List Value},Vals [] us->us=[]
 |_,.nil=>rfl
theorem Vals.dropLast{xs:List V}{us:List Value}(h:Vals xs us):Vals xs.dropLast us.dropLast:=by
 induction h with
 |nil=>exact .nil
 |cons r t ih=>
  cases t with
  |nil=>exact .nil
  |cons q t'=>exact .cons r ih
theorem Vals.reverse{xs:List V}{us:List Value}(h:Vals xs us):Vals xs.reverse us.reverse:=by
 induction h with
 |nil=>exact .nil
 |cons r t ih=>rw[yY,yY];exact Vals.append ih (.cons r .nil)
theorem yZ{α:Type}(l:List α):l.eraseIdx (l.length-1)=l.dropLast:=by
 induction l with
 |nil=>rfl
 |cons a r ih=>
  cases r with
  |nil=>rfl
  |cons b r=>
   have e:(a::b::r).length-1=((b::r).length-1)+1:=by
    have h1:(a::b::r).length=r.length+2:=rfl;have h2:(b::r).length=r.length+1:=rfl
    lia
   rw[e,List.eraseIdx_cons_succ,ih]
   all_goals rfl
section
variable {X:Cx}{pins:aE}{σ:St}{H:Hp}{s:Shared}{l b:Addr}{xs ys zs:List V}
theorem Inv.DT{its its':List Value}{n:Nat}{f:Array Value->Array Value}{t':Nat}(I:Inv X pins σ H s)(hH:H l=some (.lst xs))
  (e:s.heap.get? l=some {cls:=.type "list",data:=.seq its.toArray n}) (hf:f its.toArray=its'.toArray) (hv:Vals ys its') (hz:ys.length<=sizeLine):
  Inv X pins σ (upd H l (.lst ys)) {s with heap:=s.heap.update l (Obj.mapSeq f),toks:=t'}:=by
 have q:=PySem.IsL.update e f;rw[hf] at q;refine I.write (x:=l) (e:=l) (by rw[hH];exact trivial) (.inl rfl) (fun b' u hb hu=>(mX s.heap (Obj.mapSeq f) (aX hb)).trans hu) ⟨_,q⟩ ?_;exact⟨hz,its',_,hv,q⟩
theorem Inv.Qo{its:List Value}{t':Nat}(I:Inv X pins σ H s)(hv:Vals ys its)(hz:ys.length<=sizeLine):
  Inv X pins σ (upd H s.heap.objs.size (.lst ys)) {s with heap:=s.heap.push {cls:=.type "list",data:=.seq its.toArray},toks:=t'}:=
 I.laid (fun _ _ q=>bM _ q) (aA _) ⟨hz,its,0,hv,fN _ rfl⟩
theorem Inv.fresh(I:Inv X pins σ H s):H s.heap.objs.size=none:=I.av.fresh (aA _)
theorem Inv.vo(I:Inv X pins σ H s)(hH:H l=some (.lst xs)):xs.length<=sizeLine/\∃(its:List Value) (n:Nat),Vals xs its/\xs.length=its.length/\s.heap.get? l=some {cls:=.type "list",data:=.seq its.toArray n}:=by obtain⟨z,its,n,r,e⟩:=I.av l _ hH;exact⟨z,its,n,r,r.length,e⟩
end
section
variable {X:Cx}
def FF:V->List V->Hp->VK->Prop:=fun x vs H Q=>∃l xs y,x=.ref l/\vs=[y]/\H l=some (.lst xs)/\xs.length<sizeLine/\Q .ah (upd H l (.lst (xs++[y])))
theorem tm:IK X "list.append" FF:=by
 intro pins s σ H x vs v us Q I rx rv h;obtain⟨l,xs,y,rfl,rfl,hH,hz,q⟩:=h;cases rx;obtain⟨u,rfl,ru⟩:=rv.one;obtain⟨z,its,n,r,hl,e⟩:=I.vo hH;refine call_meets F.slot_list_append ⟨_,e,rfl⟩ F.entry_list_append (F.args_list_append_2 _ _) (PySem.list_append l its.toArray n u (by rw[cF];lia)) ⟨e,?_⟩;refine⟨.ah,_,I.DT (its':=its++[u]) hH e (by simp) (r.append (.cons ru .nil)) ?_,rfl,q⟩;rw[kQ,List.length_singleton]
 lia
def O4:V->List V->Hp->VK->Prop:=fun x vs H Q=>∃l xs y,x=.ref l/\vs=[]/\H l=some (.lst xs)/\xs[xs.length-1]?=some y/\Q y (upd H l (.lst xs.dropLast))
theorem Kb:IK X "list.pop" O4:=by
 intro pins s σ H x vs v us Q I rx rv h;obtain⟨l,xs,y,rfl,rfl,hH,hy,q⟩:=h;cases rx;have hus:=rv.zero;subst hus;obtain⟨z,its,n,r,hl,e⟩:=I.vo hH;obtain⟨u,hu,ru⟩:=r.get hy;have hy':its.toArray[its.toArray.size-1]?=some u:=by show its.toArray[its.length-1]?=some u;rw[<-Array.getElem?_toList,<-hl];exact hu
 refine call_meets F.slot_list_pop ⟨_,e,rfl⟩ F.entry_list_pop (F.args_list_pop_1 _) (MeetsSeq.list_pop_last l its.toArray n u hy' (by rw[cF];lia)) ⟨e,?_⟩;refine⟨y,_,I.DT (its':=its.dropLast) hH e ?_ r.dropLast ?_,ru,q⟩
 .show its.toArray.eraseIdxIfInBounds (its.toArray.size-1)=its.dropLast.toArray;rw[cF,List.eraseIdxIfInBounds_toArray,yZ]
 .rw[List.length_dropLast]
  lia
def C5:V->List V->Hp->VK->Prop:=fun x vs H Q=>∃l xs,x=.ref l/\vs=[]/\H l=some (.lst xs)/\Q .ah (upd H l (.lst xs.reverse))
theorem za:IK X "list.reverse" C5:=by
 intro pins s σ H x vs v us Q I rx rv h;obtain⟨l,xs,rfl,rfl,hH,q⟩:=h;cases rx;have hus:=rv.zero;subst hus;obtain⟨z,its,n,r,hl,e⟩:=I.vo hH;refine call_meets F.slot_list_reverse ⟨_,e,rfl⟩ F.entry_list_reverse (F.args_list_reverse_1 _) (AutoSeq1.list_reverse_list_0 l its.toArray n (by rw[cF];lia)) ⟨e,?_⟩;refine⟨.ah,_,I.DT (its':=its.reverse) hH e (by simp) r.reverse ?_,rfl,q⟩;rw[List.length_reverse]
 lia
def JP:R2:=fun x y H Q=>∃l b xs zs,x=.ref l/\y=.ref b/\H l=some (.lst xs)/\H b=some (.lst zs)/\xs.length+zs.length<=sizeLine/\∀p,H p=none->Q (.ref p) (upd H p (.lst (xs++zs)))
theorem Jt:cX X (binaryOp .Add) JP:=by
 intro pins s σ H x y v u Q I rx ry h;obtain⟨l,b,xs,zs,rfl,rfl,hH,hB,hz,q⟩:=h;cases rx;cases ry;obtain⟨z,its,n,r,hl,e⟩:=I.vo hH;obtain⟨z2,its2,n2,r2,hl2,e2⟩:=I.vo hB;refine PySem.P.add_list e e2 ?_ (by rw[cF,cF];lia);have ea:its.toArray++its2.toArray=(its++its2).toArray:=by simp
 rw[ea];exact⟨.ref _,_,I.Qo (t':=s.toks) (r.append r2) (by rw[kQ];lia),rfl,q _ I.fresh⟩
end
section
variable {prog:Program}{w:World}{A:Around}{E:aO}{s:Shared}
set_option maxRecDepth 100000 in
end
section
variable {X:Cx}
end
section
variable {κ:Type} [DecidableEq κ]
end
section
variable {P:Program}{w:World}{H:Hp}{h:Heap}{a:Addr}
theorem kv{u:HO}(ok:dB P w H h)(e:Rd H a u):cj P w H h a u:=e.ok ok
end
section
variable {X:Cx}{pins:aE}{σ:St}{H:Hp}{s:Shared}{a:Addr}{y v:V}{u r:Value}{o:Option V}{A:Around}{E:aO}
theorem Inv.big(I:Inv X pins σ H s):sysModules<s.heap.objs.size:=by have h:mainGlobals<s.heap.objs.size:=(I.mod.glob.keeps I.bk).lt;exact Nat.lt_trans (by decide) h
end
section
variable {X:Cx}{pins:aE}{σ:St}{H:Hp}{s:Shared}{a:Addr}{kvs:List (Key×V)}{k:Key}{u:Value}{A:Around}{E:aO}
end
section
variable {X:Cx}{o i e value:Expr}{pos pos' tpos:Pos}{td ty tv:TE}
end
theorem Cz{P:Program}{w:World}{H:Hp}(h:Heap)(hb:sysModules<h.objs.size):cj P w H (h.push {cls:=.type "dict",data:=.dict #[]}) h.objs.size (.dK []):=
 ⟨bu _,jq.mpr (aX (cV hb)),[],.nil,Heap.DictOf.new h⟩
def Jx:TE:=fun _ H Q=>∀p,H p=none->Q (.ref p) (upd H p (.dK []))
section
variable {X:Cx}{pos:Pos}
theorem CU:PE X (.Dict [] [] pos) Jx:=fun pins s σ H Q I h=>
 wpAny_Dict_empty ⟨.ref s.heap.objs.size,_,I.laid (a:=s.heap.objs.size) (o:=.dK []) (t':=s.toks) (fun _ _ q=>bM _ q) (aA _) (Cz s.heap I.big),rfl,h _ (I.av.fresh (aA _))⟩
end
section
variable {X:Cx}{pins:aE}{σ:St}{H:Hp}{s:Shared}{a:Addr}{y d:V}{u r:Value}{o:Option V}{A:Around}{E:aO}
end
section
variable {X:Cx}{o e f:Expr}{apos cpos:Pos}{td ty tx:TE}
end
section
variable {X:Cx}{pins:aE}{σ:St}{H:Hp}{s:Shared}{a:Addr}{kvs:List (Key×V)}{A:Around}{E:aO}
end
section
variable {X:Cx}{pins:aE}{σ:St}{H:Hp}{s:Shared}{a:Addr}{y:V}{u:Value}{A:Around}{E:aO}
end
end L2
namespace Att
open PySem PySem.W PySem.Calls PyProof.Rows
theorem qz{P:Params}{h:Heap}:∀(ns:List Int)(vs:List Value),WellAll P h vs (ns.map WData.int)->IntsAre vs ns:=by
 intro ns
 induction ns with
 |nil=>
  intro vs w;rw[zJ] at w;cases w;exact .nil
 |cons n ns ih=>
  intro vs w;rw[gz] at w;cases w with
  |cons a b=>
   cases a;exact .cons _ _ (ih _ b)
theorem BZ{l:OpenLaw}{n:Nat}(hn:l.most=some n){P:Params}{h:Heap}{args:List WData}{vals:List Value}
  (hpre:l.row.toRowW.claim.pre args=true) (hwl:WellAll P h vals args):
  ∃a vs ns,vals=[Value.ref a]/\args=[WData.list (ns.map WData.int)]/\h.get? a=some {cls:=.type "list",data:=.seq vs.toArray}/\IntsAre vs ns/\ns.length<=n:=by
 have hsh:WShape.hasAll [] args [.list .int]=true:=(pre_splitW hpre).1;have hc:l.pre.holds [] {args:=args}=true:=(pre_splitW hpre).2;obtain⟨d,r,rfl,h1,h2⟩:=hasAllW_cons hsh;obtain rfl:=hasAllW_nil h2;obtain⟨xs,rfl,h3⟩:=hasW_list h1;obtain⟨ns,rfl⟩:=items_int h3;have hlen:ns.length<=n:=by
  unfold OpenLaw.pre at hc;have h4:(WTm.not (.lt (.lit (.int (n:Int))) (.len (.arg 0)))).holds [] {args:=[.list (ns.map .int)]}=true:=by have h4:=(holds_andW hc).1;rw[hn] at h4;exact h4
  have h5:=condW_of h4 (w_not (w_lt w_lit (w_len_list (w_arg rfl))));rw[iG] at h5;refine Nat.le_of_not_lt fun q=>?_;have q':(n:Int)<((ns.length:Nat):Int):=by lia
  first
   |(rw[bU q'] at h5;exact absurd h5 (by decide))
   |(simp at h5;lia)
 cases hwl with
 |cons w1 w2=>
  cases w2;cases w1 with
  |list ho hall=>exact⟨_,_,ns,rfl,rfl,ho,qz ns _ hall,hlen⟩
theorem Ay(l:OpenLaw)(args:List WData):l.row.toRowW.claim.post args (.bool true) args=true:=
 postW_of (r:=l.row.toRowW) (X:=(true== true))
  (show WShape.has [] (.bool true) .bool=true by first|rfl|decide|simp[WShape.has,WShape.arms,WShape.armsAll])
  (show (WTm.eq .res (.lit (.bool true))).value [] {args:=args,res:=some (.bool true),after:=args}=some (.bool (true== true)) from w_eq_bool (w_res rfl) w_lit) rfl
theorem xb{l:OpenLaw}{n:Nat}{q:Program}{loose:List Str}{XP:(Str->Option Value)->Heap->Prop}{YP:World->Heap->Prop}{d:DefRec}
  (hn:l.most=some n) (hdf:d.params.defaults=[])
  (call:∀(w:World)(aG s₁:Shared)(mg mb:Str->Option Value)(fa:Addr)(o:Obj)(pm cd doc:Value)(a:Addr)(vs:List Value)(ns:List Int),
   Ground q loose [] XP w aG mg mb s₁.heap->YP w s₁.heap->
   s₁.heap.get? fa=some o->o.data=.func (docDef d.name d.params d.body d.scope pm cd doc)->s₁.heap.CodeRec cd d.name->mg d.name=some (.ref fa)->
   s₁.heap.get? a=some {cls:=.type "list",data:=.seq vs.toArray}->IntsAre vs ns->ns.length<=n->s₁.gens=#[]->
   codeAny (model l.prog w) callerA (.call (.ref fa) ⟨[.ref a],[]⟩) (fun r s'=>r=.ok (.ret (.bool true))/\OldK s₁.heap s'.heap/\s'.os=s₁.os/\AllBare s'.gens) s₁):
  WalkO q loose XP YP l.row.toRowW d [] (fun f vs=>PySem.call f vs):=by
 intro w aG s₁ mg mb G Y fa o pm cd doc dV kV ho hd hcd hD hmg hg args vals as hpre hlay hrd hwl hlo;obtain rfl:dV=.none:=Dflts.none hD hdf;obtain rfl:kV=.none:=Dflts.noKw hD;obtain⟨a,vs,ns,rfl,rfl,hobj,hints,hlen⟩:=BZ hn hpre hwl;refine enter_call (oF (call w aG s₁ mg mb fa o pm cd doc a vs ns G Y ho (fd_plain hd) hcd hmg hobj hints hlen hg) fun r s' hq=>?_);obtain⟨rfl,h2,h3,h4⟩:=hq;exact⟨.inl ⟨.bool true,.bool true,[],rfl,fun _=>rfl,.bool true,Ay l _,fun _=>⟨List.Pairwise.nil,fun _ hm=>(nomatch hm)⟩⟩,h2,h3,h4⟩
section
variable {prog:Program}{w:World}{A:Around}{E:aO}{s:Shared}{K:Frag}
end
end Att
namespace L2
open PySem PySem.Spec PyProof.Rows
theorem tB:∀{vs:List Value}{ns:List Int},IntsAre vs ns->Vals (ns.map V.int) vs
 |_,_,.nil=>.nil
 |_,_,.cons n t h=>.cons ⟨t,rfl⟩ (tB h)
def cH(s:Stmt):Arguments:=match s with
 |.FunctionDef _ a _ _ _ _ _ _ _ _=>a
 |_=>{posonlyargs:=[],args:=[],vararg:=none,kwonlyargs:=[],kw_defaults:=[],kwarg:=none,defaults:=[]}
def bR(s:Stmt):List Stmt:=match s with
 |.FunctionDef _ _ b _ _ _ _ _ _ _=>b
 |_=>[]
def aq(s:Stmt):Scope:=match s with
 |.FunctionDef _ _ _ _ _ _ sc _ _ _=>sc
 |_=>{kind:=.function,names:=[],isGenerator:=false,isCoroutine:=false}
noncomputable abbrev E0:XK:=fun _ _ _=>False
structure Bv(K:W.Frag)(x qual:Str)(st:Stmt)(f:Addr)(fd:FuncData):Prop where
 ex:∃(oc:Value) (od:Option Addr) (kV doc pm:Value) (an:Option Addr) (cdv ct:Value) (osl:Array (Option Value)),
  fd=W.fnOf x qual (cH st) (bR st) (aq st) .none kV doc pm an cdv ct/\K.lookup f=some ⟨oc,od,.func fd,osl⟩/\W.codeIn K cdv qual=true
 kp:W.keepIn K (.ref f)=true
section
variable {P:Program}{w:World}{K:W.Frag}{mg:Str->Option Value}{base:Heap}
theorem rB{x qual:Str}{st:Stmt}{f:Addr}{oc:Value}{od an:Option Addr}{osl:Array (Option Value)}{kV doc pm cdv ct:Value}(l:K.lookup f=some ⟨oc,od,.func (W.fnOf x qual (cH st) (bR st) (aq st) .none kV doc pm an cdv ct),osl⟩)
  (c:W.codeIn K cdv qual=true) (k:W.keepIn K (.ref f)=true):Bv K x qual st f (W.fnOf x qual (cH st) (bR st) (aq st) .none kV doc pm an cdv ct):=⟨⟨oc,od,kV,doc,pm,an,cdv,ct,osl,rfl,l,c⟩,k⟩
end
section
variable {X:Cx}
end
def zp(H H':Hp):Prop:=∀b o,H b=some o->H' b=some o
theorem zp.trans{H H1 H2:Hp}(a:zp H H1)(b:zp H1 H2):zp H H2:=fun c o h=>b c o (a c o h)
section
variable {κ:Type} [DecidableEq κ]
end
end L2
namespace Tw
noncomputable abbrev S:=List Nat
set_option genInjectivity true in
inductive W where
 |ah|bl (b:Bool)|int (i:Int)|str (x:S)|tup (xs:List W)|ref (a:Nat)
 |lst (xs:List W)
set_option genInjectivity true in
inductive O where
 |lst (xs:List W)
 |aM (xs:List W)
 |fc (kvs:List (W×W))
 |ins (c:S) (fs:List (S×W))
 |aI (c:S) (fs:List (S×W))
 |fun (f:Nat) (ws:List W)
 |dead
noncomputable abbrev Hp:=List O
inductive R(α:Type) where
 |ok (a:α) (h:Hp)
 |aI (a:Nat) (h:Hp)
 |bad
namespace R
def bind{α β:Type}(m:R α)(k:α->Hp->R β):R β:=match m with
 |.ok a h=>k a h
 |.aI a h=>.aI a h
 |.bad=>.bad
@[simp] theorem aW{α β:Type}(a:α)(h:Hp)(k:α->Hp->R β):(R.ok a h).bind k=k a h:=rfl
@[simp] theorem O6{α β:Type}(a:Nat)(h:Hp)(k:α->Hp->R β):(R.aI a h).bind k=.aI a h:=rfl
@[simp] theorem Qm{α β:Type}(k:α->Hp->R β):(R.bad:R α).bind k=.bad:=rfl
def of{α:Type}(o:Option α)(h:Hp):R α:=match o with
 |some a=>.ok a h
 |none=>.bad
@[simp] theorem GJ{α:Type}(a:α)(h:Hp):R.of (some a) h=.ok a h:=rfl
@[simp] theorem of_none{α:Type}(h:Hp):R.of (none:Option α) h=.bad:=rfl
end R
def SZ:Nat:=2 ^ 24
mutual
noncomputable def bq:W->W->Bool
 |.ah,.ah=>true
 |.bl a,.bl b=>decide (a=b)
 |.int a,.int b=>decide (a=b)
 |.bl a,.int b=>decide ((if a then 1 else 0)=b)
 |.int a,.bl b=>decide (a=(if b then 1 else 0))
 |.str a,.str b=>decide (a=b)
 |.tup xs,.tup ys=>nZ xs ys
 |.lst xs,.lst ys=>nZ xs ys
 |_,_=>false
@[simp] noncomputable def nZ:List W->List W->Bool
 |[],[]=>true
 |x::xs,y::ys=>bq x y&&nZ xs ys
 |_,_=>false
end
@[simp] theorem Ll:bq .ah .ah=true:=rfl
@[simp] theorem ML(b2:Bool):bq .ah (.bl b2)=false:=rfl
@[simp] theorem Ls(i2:Int):bq .ah (.int i2)=false:=rfl
@[simp] theorem Le(x2:S):bq .ah (.str x2)=false:=rfl
@[simp] theorem Lo(t2:List W):bq .ah (.tup t2)=false:=rfl
@[simp] theorem Lr(l2:List W):bq .ah (.lst l2)=false:=rfl
@[simp] theorem Lw(b1:Bool):bq (.bl b1) .ah=false:=rfl
@[simp] theorem NA(b1:Bool)(b2:Bool):bq (.bl b1) (.bl b2)=decide (b1=b2):=rfl
@[simp] theorem Mg(b1:Bool)(i2:Int):bq (.bl b1) (.int i2)=decide ((if b1 then 1 else 0)=i2):=rfl
@[simp] theorem Mb(b1:Bool)(x2:S):bq (.bl b1) (.str x2)=false:=rfl
@[simp] theorem LK(b1:Bool)(t2:List W):bq (.bl b1) (.tup t2)=false:=rfl
@[simp] theorem My(b1:Bool)(l2:List W):bq (.bl b1) (.lst l2)=false:=rfl
@[simp] theorem Lf(i1:Int):bq (.int i1) .ah=false:=rfl
@[simp] theorem MI(i1:Int)(b2:Bool):bq (.int i1) (.bl b2)=decide (i1=(if b2 then 1 else 0)):=rfl
@[simp] theorem Li(i1:Int)(i2:Int):bq (.int i1) (.int i2)=decide (i1=i2):=rfl
@[simp] theorem Lp(i1:Int)(x2:S):bq (.int i1) (.str x2)=false:=rfl
@[simp] theorem Lk(i1:Int)(t2:List W):bq (.int i1) (.tup t2)=false:=rfl
@[simp] theorem La(i1:Int)(l2:List W):bq (.int i1) (.lst l2)=false:=rfl
@[simp] theorem Lb(x1:S):bq (.str x1) .ah=false:=rfl
@[simp] theorem Mh(x1:S)(b2:Bool):bq (.str x1) (.bl b2)=false:=rfl
@[simp] theorem Lq(x1:S)(i2:Int):bq (.str x1) (.int i2)=false:=rfl
@[simp] theorem wY(x1:S)(x2:S):bq (.str x1) (.str x2)=decide (x1=x2):=rfl
@[simp] theorem Lh(x1:S)(t2:List W):bq (.str x1) (.tup t2)=false:=rfl
@[simp] theorem Lc(x1:S)(l2:List W):bq (.str x1) (.lst l2)=false:=rfl
@[simp] theorem K8(t1:List W):bq (.tup t1) .ah=false:=rfl
@[simp] theorem LY(t1:List W)(b2:Bool):bq (.tup t1) (.bl b2)=false:=rfl
@[simp] theorem Lm(t1:List W)(i2:Int):bq (.tup t1) (.int i2)=false:=rfl
@[simp] theorem Ld(t1:List W)(x2:S):bq (.tup t1) (.str x2)=false:=rfl
@[simp] theorem w9(t1:List W)(t2:List W):bq (.tup t1) (.tup t2)=nZ t1 t2:=rfl
@[simp] theorem Lu(t1:List W)(l2:List W):bq (.tup t1) (.lst l2)=false:=rfl
@[simp] theorem Ln(l1:List W):bq (.lst l1) .ah=false:=rfl
@[simp] theorem L8(l1:List W)(b2:Bool):bq (.lst l1) (.bl b2)=false:=rfl
@[simp] theorem K9(l1:List W)(i2:Int):bq (.lst l1) (.int i2)=false:=rfl
@[simp] theorem Lg(l1:List W)(x2:S):bq (.lst l1) (.str x2)=false:=rfl
@[simp] theorem Lj(l1:List W)(t2:List W):bq (.lst l1) (.tup t2)=false:=rfl
@[simp] theorem w8(l1:List W)(l2:List W):bq (.lst l1) (.lst l2)=nZ l1 l2:=rfl
mutual
noncomputable def W.deep:W->Nat
 |.tup xs=>br xs+1
 |.lst xs=>br xs+1
 |_=>0
noncomputable def br:List W->Nat
 |[]=>0
 |x::xs=>max x.deep (br xs)
end
def wg(f:W->Option W):List W->Option (List W)
 |[]=>some []
 |x::xs=>match f x,wg f xs with
  |some d,some ds=>some (d::ds)
  |_,_=>none
def rd(h:Hp):Nat->W->Option W
 |0,w=>match w with
  |.ah=>some .ah
  |.bl b=>some (.bl b)
  |.int i=>some (.int i)
  |.str x=>some (.str x)
  |_=>none
 |n+1,w=>match w with
  |.ah=>some .ah
  |.bl b=>some (.bl b)
  |.int i=>some (.int i)
  |.str x=>some (.str x)
  |.tup xs=>(wg (rd h n) xs).map .tup
  |.ref a=>match h[a]? with
   |some (.lst xs)=>(wg (rd h n) xs).map .lst
   |some (.aM xs)=>(wg (rd h n) xs).map .lst
   |_=>none
  |.lst _=>none
noncomputable def gq(h:Hp)(n:Nat)(xs:List W):Option (List W):=wg (rd h n) xs
@[simp] theorem Gf(h:Hp)(n:Nat):gq h n []=some []:=rfl
@[simp] theorem u6(h:Hp)(n:Nat)(x:W)(xs:List W):gq h n (x::xs)=(match rd h n x,gq h n xs with
  |some d,some ds=>some (d::ds)
  |_,_=>none):=rfl
@[simp] theorem RS(h:Hp)(n:Nat):rd h n .ah=some .ah:=by cases n<;>rfl
@[simp] theorem R3(h:Hp)(n:Nat)(b:Bool):rd h n (.bl b)=some (.bl b):=by cases n<;>rfl
@[simp] theorem RK(h:Hp)(n:Nat)(b:Int):rd h n (.int b)=some (.int b):=by cases n<;>rfl
@[simp] theorem Q4(h:Hp)(n:Nat)(b:S):rd h n (.str b)=some (.str b):=by cases n<;>rfl
@[simp] theorem GW(h:Hp)(n:Nat)(xs:List W):rd h (n+1) (.tup xs)=(gq h n xs).map .tup:=rfl
@[simp] theorem G7(h:Hp)(n:Nat)(xs:List W):rd h n (.lst xs)=none:=by cases n<;>rfl
@[simp] theorem Bh(h:Hp)(n:Nat)(a:Nat):rd h (n+1) (.ref a)=(match h[a]? with
   |some (.lst xs)=>(gq h n xs).map .lst
   |some (.aM xs)=>(gq h n xs).map .lst
   |_=>none):=rfl
@[simp] noncomputable def isKey:W->Bool
 |.int _=>true
 |.str _=>true
 |_=>false
@[simp] noncomputable def Et:W->W->Bool
 |.int a,.int b=>a== b
 |.str a,.str b=>a== b
 |_,_=>false
@[simp] def Qe(k:W):List (W×W)->Option W
 |[]=>none
 |(j,v)::r=>if Et j k then some v else Qe k r
@[simp] def dput(k v:W):List (W×W)->List (W×W)
 |[]=>[(k,v)]
 |(j,u)::r=>if Et j k then (j,v)::r else (j,u)::dput k v r
def cJ(h:Hp):W->Option (List (W×W))
 |.ref a=>match h[a]? with
  |some (.fc kvs)=>some kvs
  |_=>none
 |_=>none
def dA(h:Hp)(x y:W):Option Bool:=match cJ h x,cJ h y with
 |some _,some _=>none
 |none,none=>match rd h 900 x,rd h 900 y with
  |some a,some b=>some (bq a b)
  |_,_=>none
 |_,_=>none
@[simp] theorem QH(h:Hp)(a b:Int):dA h (.int a) (.int b)=some (decide (a=b)):=by simp[dA,cJ,rd,bq]
@[simp] theorem QC(h:Hp)(a b:S):dA h (.str a) (.str b)=some (decide (a=b)):=by simp[dA,cJ,rd,bq]
inductive Op|add|sub|mul|fdiv|mod|pow
 deriving DecidableEq
inductive Cp|eq|ne|lt|le|gt|ge|isin|notin|notN
 deriving DecidableEq
inductive B|len|list|tuple|int
 deriving DecidableEq
inductive Mt|append|pop|rev
 deriving DecidableEq
set_option genInjectivity false
set_option genSizeOfSpec false
mutual
inductive E where
 |var (i:Nat)
 |cst (w:W)
 |tup (es:Es)
 |lst (es:Es)
 |fc (es:Es)
 |bin (op:Op) (a b:E)
 |cmp (op:Cp) (a b:E)
 |and (a b:E)
 |or (a b:E)
 |not (a:E)
 |ite (c a b:E)
 |idx (a b:E)
 |sl (a:E) (lo hi:Eo)
 |call (f:Nat) (es:Es)
 |blt (b:B) (a:E)
 |eT (m:Mt) (o:E) (es:Es)
 |comp (elt:E) (it:It) (c:Eo)
 |bad
 |fld (a:E) (x:S)
 |mk (c:S) (f:Nat) (es:Es)
 |kS (a:E) (ns ds cs:List S)
 |lX (i:Nat) (es:Es)
 |own (o:E) (c m:S) (f:Nat) (es:Es)
 |qM (a:E)
 |qL (k:E) (g:List (S×Int))
 |qN (k:E) (g:List (S×Int))
 |gW (k:E) (g:List (S×Int))
inductive Es where
 |nil
 |cons (e:E) (es:Es)
inductive Eo where
 |none
 |some (e:E)
inductive It where
 |seq (e:E)
 |ja (e:E)
 |rev (e:E)
 |sD (a b:E)
end
inductive Tg where
 |var (i:Nat)
 |two (i j:Nat)
inductive Hs where
 |ret (e:E)
 |set (i:Nat) (e:E)
 |Dp (c e:E)
abbrev Hd:=S×List S×Nat×List Hs
inductive Tb where
 |Cy (f:Nat) (es:Es)
inductive St where
 |expr (e:E)
 |ret (e:E)
 |set (i:Nat) (e:E)
 |put (o k e:E)
 |iff (c:E) (a b:List St)
 |for (t:Tg) (it:It) (b:List St)
 |bad
 |fput (o:E) (x:S) (e:E)
 |pA (c:E) (b:List St)
 |raise (c:S) (xs:List S) (es:Es)
 |yM (b:List Tb) (hs:List Hd)
 |og (i j:Nat) (e:E)
 |aug (i:Nat) (op:Op) (e:E)
 |nN (i j k:Nat) (e:E)
 |ki (j fw:Nat) (a b:E) (f:Nat) (ks:List Nat)
set_option genInjectivity true
set_option genSizeOfSpec true
noncomputable abbrev Env:=List (Option W)
@[simp] def truth(h:Hp):W->Option Bool
 |.bl b=>some b
 |_=>none
@[simp] def items(h:Hp):W->Option (List W)
 |.ref a=>match h[a]? with
  |some (.lst xs)=>some xs
  |some (.aM xs)=>some xs
  |_=>none
 |_=>none
@[simp] def Hi(h:Hp):W->Option (List W)
 |.tup xs=>some xs
 |w=>items h w
@[simp] def new(o:O)(h:Hp):R W:=.ok (.ref h.length) (h++[o])
noncomputable def f7(xs:List W)(h:Hp):R W:=if xs.length<=SZ then new (.lst xs) h else .bad
noncomputable def small(i:Int):Bool:=decide (-(2 ^ 64)<i)&&decide (i<2 ^ 64)
@[simp] def binI(op:Op)(i j:Int):Option Int:=match op with
 |.add=>some (i+j)
 |.sub=>some (i-j)
 |.mul=>if small i || small j then some (i * j) else none
 |.fdiv=>if 0<j/\j<1073741824 then some (i / j) else none
 |.mod=>if 0<j then some (i % j) else none
 |.pow=>if 0<=j/\j<=1000000/\i.natAbs<2 ^ 64 then some (i ^ j.toNat) else none
@[simp] def bin(op:Op)(x y:W)(h:Hp):R W:=match x,y with
 |.int i,.int j=>R.of ((binI op i j).map .int) h
 |.tup a,.tup b=>if op=.add/\a.length+b.length<=SZ then .ok (.tup (a++b)) h else .bad
 |.ref a,.ref b=>match h[a]?,h[b]? with
  |some (.lst xs),some (.lst ys)=>if op=.add/\xs.length+ys.length<=SZ then new (.lst (xs++ys)) h else .bad
  |_,_=>.bad
 |_,_=>.bad
def isIn(x y:W)(h:Hp):Option Bool:=match Hi h y with
 |some xs=>match rd h 60 x,gq h 60 xs with
  |some a,some ds=>some (ds.any fun z=>bq z a)
  |_,_=>none
 |none=>none
@[simp] def cmp(op:Cp)(x y:W)(h:Hp):Option Bool:=match op with
 |.eq=>dA h x y
 |.ne=>(dA h x y).map (!·)
 |.lt=>match x,y with | .int i,.int j=>some (decide (i<j))|_,_=>none
 |.le=>match x,y with | .int i,.int j=>some (decide (i<=j))|_,_=>none
 |.gt=>match x,y with | .int i,.int j=>some (decide (j<i))|_,_=>none
 |.ge=>match x,y with | .int i,.int j=>some (decide (j<=i))|_,_=>none
 |.isin=>isIn x y h
 |.notin=>(isIn x y h).map (!·)
 |.notN=>match y with | .ah=>some (match x with | .ah=>false|_=>true)|_=>none
noncomputable def ik(n:Nat)(i:Int):Option Nat:=if 0<=i then (if i<n then some i.toNat else none) else if -(n:Int)<=i then some (i+n).toNat else none
def dw{α:Type}(xs:List α)(i:Int):Option α:=(ik xs.length i).bind fun j=>xs[j]?
@[simp] def idx(x y:W)(h:Hp):R W:=match x,y with
 |.tup xs,.int i=>R.of (dw xs i) h
 |.ref a,y=>match h[a]?,y with
  |some (.lst xs),.int i=>R.of (dw xs i) h
  |some (.aM xs),.int i=>R.of (dw xs i) h
  |_,_=>.bad
 |_,_=>.bad
def bz(n d:Nat):Option Int->Nat
 |none=>d
 |some v=>if v<0 then (v+n).toNat else min v.toNat n
noncomputable def cut{α:Type}(xs:List α)(lo hi:Option Int):List α:=(xs.drop (bz xs.length 0 lo)).take (bz xs.length xs.length hi-bz xs.length 0 lo)
@[simp] noncomputable def hW:Option W->Option (Option Int)
 |none=>some none
 |some (.int i)=>some (some i)
 |_=>none
@[simp] def slice(x:W)(lo hi:Option W)(h:Hp):R W:=match hW lo,hW hi with
 |some l,some u=>match x with
  |.tup xs=>if bz xs.length 0 l=0/\bz xs.length xs.length u=xs.length then .bad else .ok (.tup (cut xs l u)) h
  |_=>.bad
 |_,_=>.bad
@[simp] def builtin(b:B)(x:W)(h:Hp):R W:=match b with
 |.len=>match x with
  |.tup xs=>.ok (.int xs.length) h
  |.ref a=>match h[a]? with
   |some (.lst xs)=>.ok (.int xs.length) h
   |some (.aM xs)=>.ok (.int xs.length) h
   |_=>.bad
  |_=>.bad
 |.list=>match x with
  |.tup xs=>new (.lst xs) h
  |.ref a=>match h[a]? with
   |some (.lst xs)=>new (.lst xs) h
   |some (.aM xs)=>new (.lst xs) h
   |_=>.bad
  |_=>.bad
 |.tuple=>match x with
  |.ref a=>match h[a]? with
   |some (.lst xs)=>.ok (.tup xs) h
   |_=>.bad
  |_=>.bad
 |.int=>match x with
  |.int i=>.ok (.int i) h
  |.bl b=>.ok (.int (if b then 1 else 0)) h
  |_=>.bad
@[simp] noncomputable def method(m:Mt)(o:W)(xs:List W)(h:Hp):R W:=match m,o,xs with
 |.append,.ref a,[x]=>match h[a]? with
  |some (.lst ys)=>if ys.length<SZ then .ok .ah (h.set a (.lst (ys++[x]))) else .bad
  |_=>.bad
 |.pop,.ref a,[]=>match h[a]? with
  |some (.lst ys)=>match ys.getLast? with
   |some y=>.ok y (h.set a (.lst ys.dropLast))
   |none=>.bad
  |_=>.bad
 |.rev,.ref a,[]=>match h[a]? with
  |some (.lst ys)=>.ok .ah (h.set a (.lst ys.reverse))
  |_=>.bad
 |_,_,_=>.bad
@[simp] def j6(m:Mt)(x:W)(h:Hp):Bool:=match m,x with
 |.append,.ref a=>match h[a]? with
  |some (.lst _)=>true
  |_=>false
 |.pop,.ref a=>match h[a]? with
  |some (.lst _)=>true
  |_=>false
 |.rev,.ref a=>match h[a]? with
  |some (.lst _)=>true
  |_=>false
 |_,_=>false
@[simp] def jO(o k v:W)(h:Hp):R Unit:=match o with
 |.ref a=>match h[a]?,k with
  |some (.lst xs),.int i=>match ik xs.length i with
   |some j=>.ok () (h.set a (.lst (xs.set j v)))
   |none=>.bad
  |_,_=>.bad
 |_=>.bad
@[simp] noncomputable def tX:List W->List (W×W)->Option (List (W×W))
 |[],acc=>some acc
 |k::v::r,acc=>if isKey k then tX r (dput k v acc) else none
 |[_],_=>none
def upTo(lo:Int):Nat->List W
 |0=>[]
 |n+1=>.int lo::upTo (lo+1) n
abbrev Or:=Nat->List W->Hp->R W
inductive Fl where
 |next (σ:Env)|ret (w:W)|brk (σ:Env)|cont (σ:Env)
inductive Src where
 |fix (xs:List W)
 |at (a:Nat) (n:Nat)
 |rv (a:Nat) (n:Nat)
def R.fA{α:Type}(m:R α):R α:=match m with
 |.aI _ _=>.bad
 |m=>m
@[simp] theorem R.om{α:Type}(a:α)(h:Hp):(R.ok a h).fA=.ok a h:=rfl
@[simp] theorem R.QK{α:Type}:(R.bad:R α).fA=.bad:=rfl
@[simp] theorem R.QD{α:Type}(a:Nat)(h:Hp):(R.aI a h:R α).fA=.bad:=rfl
def dS(h:Hp)(a:Nat):Option (List W):=match h[a]? with
 |some (.lst xs)=>some xs
 |some (.aM xs)=>some xs
 |_=>none
@[simp] noncomputable def fS(k:W->List W->Hp->R (List W)):List W->List W->Hp->R (List W)
 |[],acc,h=>.ok acc h
 |x::xs,acc,h=>(k x acc h).bind fun acc h=>fS k xs acc h
noncomputable def dD(a:Nat)(k:W->List W->Hp->R (List W)):Nat->Nat->List W->Hp->R (List W)
 |n,i,acc,h=>match dS h a with
  |none=>.bad
  |some ys=>match ys[i]? with
   |none=>.ok acc h
   |some x=>match n with
    |0=>.bad
    |n+1=>(k x acc h).bind fun acc h=>dD a k n (i+1) acc h
@[simp] def walk(s:Src)(k:W->List W->Hp->R (List W))(h:Hp):R (List W):=match s with
 |.fix xs=>fS k xs [] h
 |.at a n=>dD a k n 0 [] h
 |.rv _ _=>.bad
@[irreducible] noncomputable def cy(j:Int):Bool:=decide (-(2 ^ 62)<=j)&&decide (j<2 ^ 62)
@[simp] def src(h:Hp):W->Option Src
 |.tup xs=>some (.fix xs)
 |.ref a=>match h[a]? with
  |some (.lst xs)=>some (.at a xs.length)
  |some (.aM xs)=>some (.at a xs.length)
  |_=>none
 |_=>none
@[simp] def lD(h:Hp):Option W->Option Bool
 |none=>some true
 |some t=>truth h t
noncomputable def lO(c:Env->Hp->R (Option W))(elt:Env->Hp->R W)(σ:Env)(x:W)(acc:List W)(h:Hp):R (List W):=
 (c (σ++[some x]) h).fA.bind fun t h=>match lD h t with
  |none=>.bad
  |some true=>(elt (σ++[some x]) h).fA.bind fun y h=>.ok (acc++[y]) h
  |some false=>.ok acc h
@[simp] def field(w:W)(x:S)(h:Hp):Option W:=match w with
 |.ref a=>match h[a]? with
  |some (.ins _ fs)=>fs.lookup x
  |_=>none
 |_=>none
@[simp] def iR(w:W)(c m:S)(h:Hp):Bool:=match w with
 |.ref a=>match h[a]? with
  |some (.ins c' fs)=>decide (c'=c)&&(fs.lookup m).isNone
  |_=>false
 |_=>false
@[simp] def nM(w:W)(ds cs:List S)(h:Hp):Option Bool:=match w with
 |.ref a=>match h[a]? with
  |some (.aI c _)=>if ds.contains c then some (cs.contains c) else none
  |_=>none
 |_=>none
def mx(x:S)(v:W):List (S×W)->List (S×W)
 |[]=>[(x,v)]
 |(y,u)::r=>if y=x then (y,v)::r else (y,u)::mx x v r
@[simp] def putField(w:W)(x:S)(v:W)(h:Hp):R Unit:=match w with
 |.ref a=>match h[a]? with
  |some (.ins c fs)=>if fs.length<1000 then .ok () (h.set a (.ins c (mx x v fs))) else .bad
  |_=>.bad
 |_=>.bad
mutual
noncomputable def af(C:Or):E->Env->Hp->R W
 |.var i,σ,h=>match σ[i]? with
  |some (some w)=>.ok w h
  |_=>.bad
 |.cst w,_,h=>.ok w h
 |.tup es,σ,h=>(ck C es σ h).bind fun xs h=>.ok (.tup xs) h
 |.lst es,σ,h=>(ck C es σ h).bind fun xs h=>new (.lst xs) h
 |.fc es,σ,h=>(ck C es σ h).bind fun xs h=>match tX xs [] with
  |some kvs=>new (.fc kvs) h
  |none=>.bad
 |.bin op a b,σ,h=>(af C a σ h).bind fun x h=>(af C b σ h).bind fun y h=>bin op x y h
 |.cmp op a b,σ,h=>(af C a σ h).bind fun x h=>(af C b σ h).bind fun y h=>R.of ((cmp op x y h).map .bl) h
 |.and a b,σ,h=>(af C a σ h).bind fun x h=>match x with
  |.bl true=>af C b σ h
  |.bl false=>.ok (.bl false) h
  |_=>.bad
 |.or a b,σ,h=>(af C a σ h).bind fun x h=>match x with
  |.bl false=>af C b σ h
  |.bl true=>.ok (.bl true) h
  |_=>.bad
 |.not a,σ,h=>(af C a σ h).bind fun x h=>R.of ((truth h x).map fun b=>.bl (!b)) h
 |.ite c a b,σ,h=>(af C c σ h).bind fun x h=>match truth h x with
  |some true=>af C a σ h
  |some false=>af C b σ h
  |none=>.bad
 |.idx a b,σ,h=>(af C a σ h).bind fun x h=>(af C b σ h).bind fun y h=>idx x y h
 |.sl a lo hi,σ,h=>(af C a σ h).bind fun x h=>(fW C lo σ h).bind fun l h=>(fW C hi σ h).fA.bind fun u h=>slice x l u h
 |.call f es,σ,h=>(ck C es σ h).bind fun xs h=>C f xs h
 |.blt b a,σ,h=>(af C a σ h).bind fun x h=>builtin b x h
 |.eT m o es,σ,h=>(af C o σ h).bind fun x h=>if j6 m x h then (ck C es σ h).bind fun xs h=>method m x xs h else .bad
 |.comp elt it c,σ,h=>(dN C it σ h).bind fun s h=>(walk s (lO (fun σ h=>fW C c σ h) (fun σ h=>af C elt σ h) σ) h).bind f7
 |.bad,_,_=>.bad
 |.fld a x,σ,h=>(af C a σ h).bind fun w h=>R.of (field w x h) h
 |.mk c f es,σ,h=>(ck C es σ h).bind fun xs h=>(C (f+1000) (.ref h.length::xs) (h++[.ins c []])).bind fun r h'=>match r with
  |.ah=>.ok (.ref h.length) h'
  |_=>.bad
 |.kS a _ ds cs,σ,h=>(af C a σ h).bind fun x h=>R.of ((nM x ds cs h).map .bl) h
 |.lX i es,σ,h=>match σ[i]? with
  |some (some (.ref a))=>match h[a]? with
   |some (.fun f ws)=>(ck C es σ h).bind fun xs h=>C f (xs++ws) h
   |_=>.bad
  |_=>.bad
 |.own o c m f es,σ,h=>(af C o σ h).bind fun x h=>if iR x c m h then (ck C es σ h).bind fun xs h=>C f (x::xs) h else .bad
 |.qM a,σ,h=>(af C a σ h).bind fun x h=>match x with
  |.bl _=>.ok (.bl true) h
  |_=>.bad
 |.qL k g,σ,h=>(af C k σ h).bind fun x h=>match x with
  |.str s=>.ok (.bl (g.lookup s).isSome) h
  |_=>.bad
 |.qN k g,σ,h=>(af C k σ h).bind fun x h=>match x with
  |.str s=>R.of ((g.lookup s).map .int) h
  |_=>.bad
 |.gW k g,σ,h=>(af C k σ h).bind fun x h=>match x with
  |.str s=>.ok (.int ((g.lookup s).getD 0)) h
  |_=>.bad
noncomputable def ck(C:Or):Es->Env->Hp->R (List W)
 |.nil,_,h=>.ok [] h
 |.cons e es,σ,h=>(af C e σ h).bind fun x h=>(ck C es σ h).bind fun xs h=>.ok (x::xs) h
noncomputable def fW(C:Or):Eo->Env->Hp->R (Option W)
 |.none,_,h=>.ok none h
 |.some e,σ,h=>(af C e σ h).bind fun x h=>.ok (some x) h
noncomputable def dN(C:Or):It->Env->Hp->R Src
 |.seq e,σ,h=>(af C e σ h).bind fun x h=>R.of (src h x) h
 |.ja e,σ,h=>(af C e σ h).bind fun x h=>match x with
  |.int j=>if cy j then .ok (.fix (upTo 0 j.toNat)) h else .bad
  |_=>.bad
 |.rev e,σ,h=>(af C e σ h).bind fun x h=>match x with
  |.tup xs=>.ok (.fix xs.reverse) h
  |.ref a=>match h[a]? with
   |some (.lst xs)=>.ok (.rv a xs.length) h
   |_=>.bad
  |_=>.bad
 |.sD a b,σ,h=>(af C a σ h).bind fun x h=>(af C b σ h).bind fun y h=>match x,y with
  |.int i,.int j=>if cy i&&cy j then .ok (.fix (upTo i (j-i).toNat)) h else .bad
  |_,_=>.bad
end
@[simp] theorem xo(C:Or)(i:Nat)(σ:Env)(h:Hp):af C (.var i) σ h=(match σ[i]? with
  |some (some w)=>.ok w h
  |_=>.bad):=rfl
@[simp] theorem xF(C:Or)(w:W)(σ:Env)(h:Hp):af C (.cst w) σ h=(.ok w h):=rfl
@[simp] theorem QE(C:Or)(es:Es)(σ:Env)(h:Hp):af C (.tup es) σ h=((ck C es σ h).bind fun xs h=>.ok (.tup xs) h):=rfl
@[simp] theorem QB(C:Or)(es:Es)(σ:Env)(h:Hp):af C (.lst es) σ h=((ck C es σ h).bind fun xs h=>new (.lst xs) h):=rfl
@[simp] theorem GP(C:Or)(es:Es)(σ:Env)(h:Hp):af C (.fc es) σ h=((ck C es σ h).bind fun xs h=>match tX xs [] with
  |some kvs=>new (.fc kvs) h
  |none=>.bad):=rfl
@[simp] theorem F9(C:Or)(op:Op)(a:E)(b:E)(σ:Env)(h:Hp):af C (.bin op a b) σ h=((af C a σ h).bind fun x h=>(af C b σ h).bind fun y h=>bin op x y h):=rfl
@[simp] theorem GL(C:Or)(op:Cp)(a:E)(b:E)(σ:Env)(h:Hp):af C (.cmp op a b) σ h=((af C a σ h).bind fun x h=>(af C b σ h).bind fun y h=>R.of ((cmp op x y h).map .bl) h):=rfl
@[simp] theorem Fw(C:Or)(a:E)(b:E)(σ:Env)(h:Hp):af C (.and a b) σ h=((af C a σ h).bind fun x h=>match x with
  |.bl true=>af C b σ h
  |.bl false=>.ok (.bl false) h
  |_=>.bad):=rfl
@[simp] theorem KW(C:Or)(a:E)(b:E)(σ:Env)(h:Hp):af C (.or a b) σ h=((af C a σ h).bind fun x h=>match x with
  |.bl false=>af C b σ h
  |.bl true=>.ok (.bl true) h
  |_=>.bad):=rfl
@[simp] theorem GN(C:Or)(a:E)(σ:Env)(h:Hp):af C (.not a) σ h=((af C a σ h).bind fun x h=>R.of ((truth h x).map fun b=>.bl (!b)) h):=rfl
@[simp] theorem Gb(C:Or)(c:E)(a:E)(b:E)(σ:Env)(h:Hp):af C (.ite c a b) σ h=((af C c σ h).bind fun x h=>match truth h x with
  |some true=>af C a σ h
  |some false=>af C b σ h
  |none=>.bad):=rfl
@[simp] theorem QA(C:Or)(a:E)(b:E)(σ:Env)(h:Hp):af C (.idx a b) σ h=((af C a σ h).bind fun x h=>(af C b σ h).bind fun y h=>idx x y h):=rfl
@[simp] theorem Q9(C:Or)(a:E)(lo:Eo)(hi:Eo)(σ:Env)(h:Hp):af C (.sl a lo hi) σ h=((af C a σ h).bind fun x h=>(fW C lo σ h).bind fun l h=>(fW C hi σ h).fA.bind fun u h=>slice x l u h):=rfl
@[simp] theorem Qp(C:Or)(f:Nat)(es:Es)(σ:Env)(h:Hp):af C (.call f es) σ h=((ck C es σ h).bind fun xs h=>C f xs h):=rfl
@[simp] theorem FA(C:Or)(b:B)(a:E)(σ:Env)(h:Hp):af C (.blt b a) σ h=((af C a σ h).bind fun x h=>builtin b x h):=rfl
@[simp] theorem xH(C:Or)(m:Mt)(o:E)(es:Es)(σ:Env)(h:Hp):af C (.eT m o es) σ h=((af C o σ h).bind fun x h=>if j6 m x h then (ck C es σ h).bind fun xs h=>method m x xs h else .bad):=rfl
theorem mq(C:Or)(elt:E)(it:It)(c:Eo)(σ:Env)(h:Hp):af C (.comp elt it c) σ h=((dN C it σ h).bind fun s h=>(walk s (lO (fW C c) (af C elt) σ) h).bind f7):=rfl
@[simp] theorem sd(C:Or)(σ:Env)(h:Hp):af C .bad σ h=.bad:=rfl
@[simp] theorem Ga(C:Or)(a:E)(x:S)(σ:Env)(h:Hp):af C (.fld a x) σ h=((af C a σ h).bind fun w h=>R.of (field w x h) h):=rfl
@[simp] theorem Ii(C:Or)(c:S)(f:Nat)(es:Es)(σ:Env)(h:Hp):af C (.mk c f es) σ h=((ck C es σ h).bind fun xs h=>(C (f+1000) (.ref h.length::xs) (h++[.ins c []])).bind fun r h'=>match r with
  |.ah=>.ok (.ref h.length) h'
  |_=>.bad):=rfl
@[simp] theorem GO(C:Or)(a:E)(ns ds cs:List S)(σ:Env)(h:Hp):af C (.kS a ns ds cs) σ h=((af C a σ h).bind fun x h=>R.of ((nM x ds cs h).map .bl) h):=rfl
@[simp] theorem A1(C:Or)(i:Nat)(es:Es)(σ:Env)(h:Hp):af C (.lX i es) σ h=(match σ[i]? with
  |some (some (.ref a))=>match h[a]? with
   |some (.fun f ws)=>(ck C es σ h).bind fun xs h=>C f (xs++ws) h
   |_=>.bad
  |_=>.bad):=rfl
@[simp] theorem QG(C:Or)(o:E)(c m:S)(f:Nat)(es:Es)(σ:Env)(h:Hp):af C (.own o c m f es) σ h=((af C o σ h).bind fun x h=>if iR x c m h then (ck C es σ h).bind fun xs h=>C f (x::xs) h else .bad):=rfl
@[simp] theorem FI(C:Or)(a:E)(σ:Env)(h:Hp):af C (.qM a) σ h=((af C a σ h).bind fun x h=>match x with
  |.bl _=>.ok (.bl true) h
  |_=>.bad):=rfl
@[simp] theorem GS(C:Or)(k:E)(g:List (S×Int))(σ:Env)(h:Hp):af C (.qL k g) σ h=((af C k σ h).bind fun x h=>match x with
  |.str s=>.ok (.bl (g.lookup s).isSome) h
  |_=>.bad):=rfl
@[simp] theorem GU(C:Or)(k:E)(g:List (S×Int))(σ:Env)(h:Hp):af C (.qN k g) σ h=((af C k σ h).bind fun x h=>match x with
  |.str s=>R.of ((g.lookup s).map .int) h
  |_=>.bad):=rfl
@[simp] theorem GI(C:Or)(k:E)(g:List (S×Int))(σ:Env)(h:Hp):af C (.gW k g) σ h=((af C k σ h).bind fun x h=>match x with
  |.str s=>.ok (.int ((g.lookup s).getD 0)) h
  |_=>.bad):=rfl
@[simp] theorem uW(C:Or)(e:E)(σ:Env)(h:Hp):dN C (.rev e) σ h=((af C e σ h).bind fun x h=>match x with
  |.tup xs=>.ok (.fix xs.reverse) h
  |.ref a=>match h[a]? with
   |some (.lst xs)=>.ok (.rv a xs.length) h
   |_=>.bad
  |_=>.bad):=rfl
@[simp] theorem BR(C:Or)(a b:E)(σ:Env)(h:Hp):dN C (.sD a b) σ h=((af C a σ h).bind fun x h=>(af C b σ h).bind fun y h=>match x,y with
  |.int i,.int j=>if cy i&&cy j then .ok (.fix (upTo i (j-i).toNat)) h else .bad
  |_,_=>.bad):=rfl
@[simp] theorem nG(C:Or)(σ:Env)(h:Hp):fW C .none σ h=(.ok none h):=rfl
@[simp] theorem nX(C:Or)(e:E)(σ:Env)(h:Hp):fW C (.some e) σ h=((af C e σ h).bind fun x h=>.ok (some x) h):=rfl
@[simp] theorem uB(C:Or)(σ:Env)(h:Hp):ck C .nil σ h=.ok [] h:=rfl
@[simp] theorem kg(C:Or)(e:E)(es:Es)(σ:Env)(h:Hp):ck C (.cons e es) σ h=((af C e σ h).bind fun x h=>(ck C es σ h).bind fun xs h=>.ok (x::xs) h):=rfl
@[simp] theorem Pq(C:Or)(e:E)(σ:Env)(h:Hp):dN C (.seq e) σ h=((af C e σ h).bind fun x h=>R.of (src h x) h):=rfl
@[simp] theorem qg(C:Or)(e:E)(σ:Env)(h:Hp):dN C (.ja e) σ h=((af C e σ h).bind fun x h=>match x with
  |.int j=>if cy j then .ok (.fix (upTo 0 j.toNat)) h else .bad
  |_=>.bad):=rfl
@[simp] def qe(t:Tg)(x:W)(σ:Env):Option Env:=match t with
 |.var i=>some (σ.set i (some x))
 |.two i j=>match x with
  |.tup [u,v]=>some ((σ.set i (some u)).set j (some v))
  |_=>none
@[simp] noncomputable def turn(t:Tg)(k:Env->Hp->R Fl)(x:W)(σ:Env)(h:Hp)(go:Env->Hp->R Fl):R Fl:=match qe t x σ with
 |none=>.bad
 |some σ=>(k σ h).bind fun f h=>match f with
  |.next σ=>go σ h
  |.cont σ=>go σ h
  |.brk σ=>.ok (.next σ) h
  |.ret w=>.ok (.ret w) h
@[simp] def j9(t:Tg)(k:Env->Hp->R Fl):List W->Env->Hp->R Fl
 |[],σ,h=>.ok (.next σ) h
 |x::xs,σ,h=>turn t k x σ h (j9 t k xs)
noncomputable def fB(a:Nat)(t:Tg)(k:Env->Hp->R Fl):Nat->Nat->Env->Hp->R Fl
 |n,i,σ,h=>match dS h a with
  |none=>.bad
  |some ys=>match ys[i]? with
   |none=>.ok (.next σ) h
   |some x=>match n with
    |0=>.bad
    |n+1=>turn t k x σ h (fB a t k n (i+1))
noncomputable def fJ(a:Nat)(t:Tg)(k:Env->Hp->R Fl):Nat->Env->Hp->R Fl
 |0,σ,h=>.ok (.next σ) h
 |n+1,σ,h=>match dS h a with
  |none=>.bad
  |some ys=>match ys[n]? with
   |none=>.bad
   |some x=>turn t k x σ h (fJ a t k n)
noncomputable def fC(c:Env->Hp->R W)(b:Env->Hp->R Fl):Nat->Env->Hp->R Fl
 |0,_,_=>.bad
 |n+1,σ,h=>(c σ h).bind fun x h=>match truth h x with
  |some true=>(b σ h).bind fun f h=>match f with
   |.next σ=>fC c b n σ h
   |.cont σ=>fC c b n σ h
   |.brk σ=>.ok (.next σ) h
   |.ret w=>.ok (.ret w) h
  |some false=>.ok (.next σ) h
  |none=>.bad
@[irreducible] def FU:Nat:=2 ^ 2000
@[simp] def turns(s:Src)(t:Tg)(k:Env->Hp->R Fl)(σ:Env)(h:Hp):R Fl:=match s with
 |.fix xs=>j9 t k xs σ h
 |.at a n=>fB a t k n 0 σ h
 |.rv a n=>fJ a t k n σ h
@[simp] def K7(C:Or)(σ:Env)(h:Hp):Hs->R Fl
 |.ret e=>(af C e σ h).bind fun w h=>.ok (.ret w) h
 |.set i e=>(af C e σ h).bind fun w h=>.ok (.next (σ.set i (some w))) h
 |.Dp c e=>(af C c σ h).bind fun x h=>match truth h x with
  |some true=>(af C e σ h).bind fun w h=>.ok (.ret w) h
  |some false=>.ok (.next σ) h
  |none=>.bad
@[simp] def qm(C:Or):List Hs->Env->Hp->R Fl
 |[],σ,h=>.ok (.next σ) h
 |a::r,σ,h=>(K7 C σ h a).bind fun f h=>match f with
  |.next σ=>qm C r σ h
  |f=>.ok f h
@[simp] def lS(c:S):List Hd->Option (Nat×List Hs)
 |[]=>none
 |(_,cs,j,a)::r=>if cs.contains c then some (j,a) else lS c r
@[simp] def OL(j:Nat):Fl->Fl
 |.next σ=>.next (σ.set j none)
 |.brk σ=>.brk (σ.set j none)
 |.cont σ=>.cont (σ.set j none)
 |.ret w=>.ret w
noncomputable def wa(hs:List Hd)(C:Or)(σ:Env)(m:R Fl):R Fl:=match m with
 |.ok (.next _) h=>.ok (.next σ) h
 |.ok (.ret w) h=>.ok (.ret w) h
 |.ok _ _=>.bad
 |.aI a h=>match h[a]? with
  |some (.aI c _)=>match lS c hs with
   |some (j,act)=>(qm C act (σ.set j (some (.ref a))) h).fA.bind fun fl h=>.ok (OL j fl) h
   |none=>.bad
  |_=>.bad
 |.bad=>.bad
@[simp] def Ag(C:Or)(σ:Env)(h:Hp):Tb->R Fl
 |.Cy f es=>(ck C es σ h).fA.bind fun xs h=>(C f xs h).bind fun w h=>.ok (.ret w) h
@[simp] def kq(C:Or)(σ:Env):List Tb->Hp->R Fl
 |[],h=>.ok (.next σ) h
 |t::r,h=>(Ag C σ h t).bind fun f h=>match f with
  |.next _=>kq C σ r h
  |f=>.ok f h
def jz(σ:Env):List Nat->Option (List W)
 |[]=>some []
 |i::r=>match σ[i]?,jz σ r with
  |some (some w),some ws=>some (w::ws)
  |_,_=>none
def nV(i:Nat):R W->R Fl
 |.ok w h=>.ok (.ret w) (h.set i .dead)
 |.aI a h=>.aI a (h.set i .dead)
 |.bad=>.bad
noncomputable def o7(c:S)(xs:List S)(ws:List W)(h:Hp):R Fl:=if ws.length=xs.length then .aI h.length (h++[.aI c (xs.zip ws)]) else .bad
mutual
noncomputable def dC(C:Or):St->Env->Hp->R Fl
 |.expr e,σ,h=>(af C e σ h).bind fun _ h=>.ok (.next σ) h
 |.ret e,σ,h=>(af C e σ h).bind fun x h=>.ok (.ret x) h
 |.set i e,σ,h=>(af C e σ h).bind fun x h=>.ok (.next (σ.set i (some x))) h
 |.put o k e,σ,h=>(af C e σ h).bind fun v h=>(af C o σ h).bind fun x h=>(af C k σ h).bind fun y h=>(jO x y v h).bind fun _ h=>.ok (.next σ) h
 |.iff c a b,σ,h=>(af C c σ h).bind fun x h=>match truth h x with
  |some true=>aF C a σ h
  |some false=>aF C b σ h
  |none=>.bad
 |.for t it b,σ,h=>(dN C it σ h).bind fun s h=>turns s t (aF C b) σ h
 |.bad,_,_=>.bad
 |.fput o x e,σ,h=>(af C e σ h).bind fun v h=>(af C o σ h).bind fun w h=>(putField w x v h).bind fun _ h=>.ok (.next σ) h
 |.pA c b,σ,h=>fC (af C c) (aF C b) FU σ h
 |.raise c xs es,σ,h=>(ck C es σ h).bind fun ws h=>o7 c xs ws h
 |.yM b hs,σ,h=>wa hs C σ (kq C σ b h)
 |.og i j e,σ,h=>(af C e σ h).bind fun x h=>match x with
  |.tup [u,v]=>.ok (.next ((σ.set i (some u)).set j (some v))) h
  |_=>.bad
 |.aug i op e,σ,h=>match σ[i]? with
  |some (some (.int a))=>(af C e σ h).bind fun y h=>match y with
   |.int b=>R.of ((binI op a b).map fun c=>.next (σ.set i (some (.int c)))) h
   |_=>.bad
  |_=>.bad
 |.nN i j k e,σ,h=>(af C e σ h).bind fun x h=>match x with
  |.tup [u,v,w]=>.ok (.next (((σ.set i (some u)).set j (some v)).set k (some w))) h
  |_=>.bad
 |.ki j fw a b f ks,σ,h=>(af C a (σ.set j none) h).bind fun x h=>(af C b (σ.set j none) h).bind fun y h=>match jz (σ.set j none) ks with
  |some ws=>nV h.length (C fw [x,y,.ref h.length] (h++[.fun f ws]))
  |none=>.bad
noncomputable def aF(C:Or):List St->Env->Hp->R Fl
 |[],σ,h=>.ok (.next σ) h
 |s::r,σ,h=>(dC C s σ h).bind fun f h=>match f with
  |.next σ=>aF C r σ h
  |f=>.ok f h
end
@[simp] theorem DO(C:Or)(e:E)(σ:Env)(h:Hp):dC C (.expr e) σ h=((af C e σ h).bind fun _ h=>.ok (.next σ) h):=rfl
@[simp] theorem FO(C:Or)(e:E)(σ:Env)(h:Hp):dC C (.ret e) σ h=((af C e σ h).bind fun x h=>.ok (.ret x) h):=rfl
@[simp] theorem Gu(C:Or)(i:Nat)(e:E)(σ:Env)(h:Hp):dC C (.set i e) σ h=((af C e σ h).bind fun x h=>.ok (.next (σ.set i (some x))) h):=rfl
@[simp] theorem QJ(C:Or)(o:E)(k:E)(e:E)(σ:Env)(h:Hp):dC C (.put o k e) σ h=((af C e σ h).bind fun v h=>(af C o σ h).bind fun x h=>(af C k σ h).bind fun y h=>(jO x y v h).bind fun _ h=>.ok (.next σ) h):=rfl
@[simp] theorem oz(C:Or)(c:E)(a:List St)(b:List St)(σ:Env)(h:Hp):dC C (.iff c a b) σ h=((af C c σ h).bind fun x h=>match truth h x with
  |some true=>aF C a σ h
  |some false=>aF C b σ h
  |none=>.bad):=rfl
theorem yr(C:Or)(t:Tg)(it:It)(b:List St)(σ:Env)(h:Hp):dC C (.for t it b) σ h=((dN C it σ h).bind fun s h=>turns s t (aF C b) σ h):=rfl
@[simp] theorem QL(C:Or)(σ:Env)(h:Hp):dC C .bad σ h=.bad:=rfl
@[simp] theorem PM(C:Or)(o:E)(x:S)(e:E)(σ:Env)(h:Hp):dC C (.fput o x e) σ h=((af C e σ h).bind fun v h=>(af C o σ h).bind fun w h=>(putField w x v h).bind fun _ h=>.ok (.next σ) h):=rfl
theorem Fz(C:Or)(c:E)(b:List St)(σ:Env)(h:Hp):dC C (.pA c b) σ h=fC (af C c) (aF C b) FU σ h:=rfl
@[simp] theorem Dc(C:Or)(i j:Nat)(e:E)(σ:Env)(h:Hp):dC C (.og i j e) σ h=((af C e σ h).bind fun x h=>match x with
  |.tup [u,v]=>.ok (.next ((σ.set i (some u)).set j (some v))) h
  |_=>.bad):=rfl
@[simp] theorem FZ(C:Or)(i:Nat)(op:Op)(e:E)(σ:Env)(h:Hp):dC C (.aug i op e) σ h=(match σ[i]? with
  |some (some (.int a))=>(af C e σ h).bind fun y h=>match y with
   |.int b=>R.of ((binI op a b).map fun c=>.next (σ.set i (some (.int c)))) h
   |_=>.bad
  |_=>.bad):=rfl
@[simp] theorem DW(C:Or)(i j k:Nat)(e:E)(σ:Env)(h:Hp):dC C (.nN i j k e) σ h=((af C e σ h).bind fun x h=>match x with
  |.tup [u,v,w]=>.ok (.next (((σ.set i (some u)).set j (some v)).set k (some w))) h
  |_=>.bad):=rfl
theorem rX(C:Or)(j fw:Nat)(a b:E)(f:Nat)(ks:List Nat)(σ:Env)(h:Hp):dC C (.ki j fw a b f ks) σ h=((af C a (σ.set j none) h).bind fun x h=>(af C b (σ.set j none) h).bind fun y h=>match jz (σ.set j none) ks with
  |some ws=>nV h.length (C fw [x,y,.ref h.length] (h++[.fun f ws]))
  |none=>.bad):=rfl
@[simp] theorem DU(C:Or)(σ:Env)(h:Hp):aF C [] σ h=.ok (.next σ) h:=rfl
@[simp] theorem dF(C:Or)(s:St)(r:List St)(σ:Env)(h:Hp):aF C (s::r) σ h=((dC C s σ h).bind fun f h=>match f with
  |.next σ=>aF C r σ h
  |f=>.ok f h):=rfl
structure Fn where
 ps:Nat
 ns:Nat
 body:List St
def dZ(C:Or)(f:Fn)(xs:List W)(h:Hp):R W:=
 if xs.length=f.ps then (aF C f.body (xs.map some++List.replicate (f.ns-f.ps) none) h).bind fun fl h=>match fl with
  |.next _=>.ok .ah h
  |.ret w=>.ok w h
  |_=>.bad
 else .bad
def run(T:List Fn):Nat->Or
 |0,_,_,_=>.bad
 |k+1,f,xs,h=>match T[f]? with
  |some fn=>dZ (run T k) fn xs h
  |none=>run T k (f-1000) xs h
end Tw
namespace TwS
open PySem L2
def NF(x:Tw.S):Prop:=∀c∈x,c<0x110000
def TupAt(K:W.Frag)(H:L2.Hp)(a:Addr)(xs:List V):Prop:=
 H a=some (.tup xs)\/∃(o:Obj) (its:Array Value) (n:Nat),K.lookup a=some o/\o.cls=.type "tuple" /\o.data=.seq its n/\its.size<=sizeLine/\Vals xs its.toList
theorem TupAt.sq(t:TupAt K H a xs):cY K H a xs:=by
 rcases t with t|t
 .exact cY.of t
 .exact .inr t
mutual
inductive RW(K:W.Frag)(ι:Nat->Addr)(n:Nat)(H:L2.Hp):Tw.W->V->Prop
 |ah:RW K ι n H .ah .ah
 |bl (b:Bool):RW K ι n H (.bl b) (.bl b)
 |int (i:Int):RW K ι n H (.int i) (.int i)
 |str (x:Tw.S) (hx:NF x):RW K ι n H (.str x) (.str ⟨x.toArray⟩)
 |tup {a:Addr}{xs:List V}{ws:List Tw.W}:TupAt K H a xs->aL K ι n H ws xs->RW K ι n H (.tup ws) (.ref a)
 |ref {i:Nat}:i<n->RW K ι n H (.ref i) (.ref (ι i))
inductive aL(K:W.Frag)(ι:Nat->Addr)(n:Nat)(H:L2.Hp):List Tw.W->List V->Prop
 |nil:aL K ι n H [] []
 |cons {w:Tw.W}{v:V}{ws:List Tw.W}{vs:List V}:RW K ι n H w v->aL K ι n H ws vs->aL K ι n H (w::ws) (v::vs)
end
structure Keeps(ι:Nat->Addr)(n:Nat)(H:L2.Hp)(ι':Nat->Addr)(n':Nat)(H':L2.Hp):Prop where
 le:n<=n'
 same:∀i,i<n->ι' i=ι i
 tup:∀a xs,H a=some (.tup xs)->H' a=some (.tup xs)
theorem Keeps.zC{ι ι':Nat->Addr}(k:Keeps ι n H ι' n' H')(t:TupAt K H a xs):TupAt K H' a xs:=t.imp (k.tup a xs) id
section
variable {K:W.Frag}{ι ι':Nat->Addr}{n n':Nat}{H H':L2.Hp}
mutual
theorem RW.keep(k:Keeps ι n H ι' n' H'):∀{w:Tw.W}{v:V},RW K ι n H w v->RW K ι' n' H' w v
 |_,_,.ah=>.ah
 |_,_,.bl b=>.bl b
 |_,_,.int i=>.int i
 |_,_,.str x hx=>.str x hx
 |_,_,.tup e r=>.tup (k.zC e) (aL.keep k r)
 |_,_,.ref (i:=i) h=>by rw[<-k.same i h];exact .ref (bT h k.le)
theorem aL.keep(k:Keeps ι n H ι' n' H'):∀{ws:List Tw.W}{vs:List V},aL K ι n H ws vs->aL K ι' n' H' ws vs
 |_,_,.nil=>.nil
 |_,_,.cons a r=>.cons (RW.keep k a) (aL.keep k r)
end
theorem aL.length:∀{ws:List Tw.W}{vs:List V},aL K ι n H ws vs->ws.length=vs.length
 |_,_,.nil=>rfl
 |_,_,.cons _ r=>cR (·+ 1) r.length
theorem aL.get:∀{ws:List Tw.W}{vs:List V}{i:Nat}{w:Tw.W},aL K ι n H ws vs->ws[i]?=some w->∃v,vs[i]?=some v/\RW K ι n H w v
 |_,_,_,_,.nil,e=>by simp at e
 |_,_,0,_,.cons a _,e=>by simp at e;subst e;exact⟨_,rfl,a⟩
 |_,_,i+1,w,.cons _ r,e=>by
  obtain⟨v,h1,h2⟩:=aL.get (i:=i) (w:=w) r (by simpa using e);exact⟨v,by simpa using h1,h2⟩
theorem aL.append:∀{ws us:List Tw.W}{vs xs:List V},aL K ι n H ws vs->aL K ι n H us xs->aL K ι n H (ws++us) (vs++xs)
 |_,_,_,_,.nil,s=>s
 |_,_,_,_,.cons a r,s=>.cons a (aL.append r s)
theorem aL.take:∀{ws:List Tw.W}{vs:List V}(k:Nat),aL K ι n H ws vs->aL K ι n H (ws.take k) (vs.take k)
 |_,_,0,_=>.nil
 |_,_,_+1,.nil=>.nil
 |_,_,k+1,.cons a r=>.cons a (aL.take k r)
theorem aL.drop:∀{ws:List Tw.W}{vs:List V}(k:Nat),aL K ι n H ws vs->aL K ι n H (ws.drop k) (vs.drop k)
 |_,_,0,r=>r
 |_,_,_+1,.nil=>.nil
 |_,_,k+1,.cons _ r=>aL.drop k r
theorem aL.set(a:RW K ι n H w v):∀{ws:List Tw.W}{vs:List V}(i:Nat),aL K ι n H ws vs->aL K ι n H (ws.set i w) (vs.set i v)
 |_,_,_,.nil=>.nil
 |_,_,0,.cons _ r=>.cons a r
 |_,_,i+1,.cons b r=>.cons b (aL.set a i r)
end
inductive RD(K:W.Frag)(ι:Nat->Addr)(n:Nat)(H:L2.Hp):List (Tw.W×Tw.W)->List (Key×V)->Prop
 |nil:RD K ι n H [] []
 |cons {k w:Tw.W}{q:Key}{v:V}{kvs:List (Tw.W×Tw.W)}{xs:List (Key×V)}:q∉xs.map (·.1)->RW K ι n H k (kV q)->RW K ι n H w v->RD K ι n H kvs xs->RD K ι n H ((k,w)::kvs) ((q,v)::xs)
theorem RD.keep{ι ι':Nat->Addr}(k:Keeps ι n H ι' n' H'):∀{kvs:List (Tw.W×Tw.W)}{xs:List (Key×V)},RD K ι n H kvs xs->RD K ι' n' H' kvs xs
 |_,_,.nil=>.nil
 |_,_,.cons m e a r=>.cons m (e.keep k) (a.keep k) (RD.keep k r)
def sF(K:W.Frag)(H:L2.Hp)(a:Addr)(xs:List V):Prop:=
 (∃o,H a=some (.aM o (.lst xs)))\/
  ∃(o:Obj) (its:Array Value) (n:Nat),K.lookup a=some o/\o.cls=.type "list" /\o.dict=none/\o.data=.seq its n/\its.size<=sizeLine/\Vals xs its.toList
theorem sF.sq(s:sF K H a xs):bW K H a xs:=by
 rcases s with s|s
 .exact .inl (.inr s)
 .exact .inr s
inductive RF(K:W.Frag)(ι:Nat->Addr)(n:Nat)(H:L2.Hp):List (Tw.S×Tw.W)->List (Str×V)->Prop
 |nil:RF K ι n H [] []
 |cons {x:Tw.S}{w:Tw.W}{v:V}{fs:List (Tw.S×Tw.W)}{gs:List (Str×V)}:RW K ι n H w v->RF K ι n H fs gs->RF K ι n H ((x,w)::fs) ((⟨x.toArray⟩,v)::gs)
theorem RF.keep{ι ι':Nat->Addr}(k:Keeps ι n H ι' n' H'):∀{fs:List (Tw.S×Tw.W)}{gs:List (Str×V)},RF K ι n H fs gs->RF K ι' n' H' fs gs
 |_,_,.nil=>.nil
 |_,_,.cons a r=>.cons (a.keep k) (RF.keep k r)
theorem RF.length{ι:Nat->Addr}:∀{fs:List (Tw.S×Tw.W)}{gs:List (Str×V)},RF K ι n H fs gs->fs.length=gs.length
 |_,_,.nil=>rfl
 |_,_,.cons _ r=>cR (·+ 1) r.length
structure Zk where
 K:W.Frag
 mg:Str->Option Value
 ex:XK
 cl:eM
abbrev zx(X:Cx)(E:XK):Zk:=⟨X.K,X.mg,E,X.cl⟩
noncomputable def xU:List Str:=["definitions", "numbers", "part", "around"]
structure GoodC(K:W.Frag)(C:Addr):Prop where
 cls:pL K C
 no:∀f∈xU,jX K C f
noncomputable def mS(C:Addr)(dx:Option Addr)(e:Addr):HO:=.ext fun h=>∃o vs,h.get? e=some o/\o.cls=.ref C/\o.dict=dx/\o.data=.fields vs
def XD(H:L2.Hp)(gs:List (Str×V)):Option Addr->Prop
 |some d=>H d=some (.xd gs)
 |none=>gs=[]
theorem XD.keep(q:XD H gs dx)(s:∀b u,(∃gs,u=HO.xd gs)->H b=some u->H1 b=some u):XD H1 gs dx:=by
 cases dx with
 |none=>exact q
 |some d=>exact s _ _ ⟨_,rfl⟩ q
noncomputable def eJ:Tw.O->Bool
 |.aM _=>false
 |.aI _ _=>false
 |.fun _ _=>false
 |.dead=>false
 |_=>true
noncomputable def RO(K:Zk)(ι:Nat->Addr)(n:Nat)(H:L2.Hp)(a:Addr):Tw.O->Prop
 |.lst ws=>∃xs,H a=some (.lst xs)/\aL K.K ι n H ws xs
 |.aM ws=>∃xs,sF K.K H a xs/\aL K.K ι n H ws xs
 |.fc kvs=>∃xs,H a=some (.dK xs)/\RD K.K ι n H kvs xs
 |.ins c fs=>∃C dx gs,(K.mg ⟨c.toArray⟩=some (.ref C)/\GoodC K.K C)/\H a=some (.ins C dx gs)/\RF K.K ι n H fs gs
 |.aI c fs=>∃C dx gs,K.mg ⟨c.toArray⟩=some (.ref C)/\H a=some (mS C dx a)/\XD H gs dx/\RF K.K ι n H fs gs
 |.fun _ _=>True
 |.dead=>True
def dY(H:L2.Hp)(c:Addr)(q:Str):Prop:=∃oc vs t,H c=some (.aM oc (.own c))/\oc.data=.fields vs/\vs[1]?=some (.str q t)
def qH(H:L2.Hp)(t:jH):Prop:=∃ps,H t.P=some (.dQ ps)/\TriplesOk ps.toList/\∀pos cv,codeAmong pos ps.toList=some cv->∃c,cv=.ref c/\dY H c t.q
def uh(K:Zk)(ι:Nat->Addr)(n:Nat)(H:L2.Hp)(i:Nat)(f:Nat)(ws:List Tw.W):Prop:=∃c,K.cl.fs i=some c/\c.g=ι i/\c.f=f/\aL K.K ι n H ws c.vs/\dY H c.cd c.q
theorem dY.keep(x:dY H c q)(s:∀b o u,H b=some (.aM o u)->H1 b=some (.aM o u)):dY H1 c q:=
 let ⟨oc,vs,t,e,r⟩:=x;⟨oc,vs,t,s _ _ _ e,r⟩
theorem qH.keep(x:qH H t)(s:∀b o u,H b=some (.aM o u)->H1 b=some (.aM o u))(e1:∀ps,H t.P=some (.dQ ps)->H1 t.P=some (.dQ ps)):qH H1 t:=by obtain⟨ps,e,r⟩:=x;exact⟨ps,e1 _ e,r.1,fun pos cv q=>let ⟨c,r1,r2⟩:=r.2 pos cv q;⟨c,r1,r2.keep s⟩⟩
theorem uh.keep{ι ι':Nat->Addr}(x:uh K ι n H i f ws)(k:Keeps ι n H ι' n' H1)(hi:i<n)(s:∀b o u,H b=some (.aM o u)->H1 b=some (.aM o u)):uh K ι' n' H1 i f ws:=by obtain⟨c,e1,e2,e3,e4,e5⟩:=x;exact⟨c,e1,e2.trans (k.same i hi).symm,e3,e4.keep k,e5.keep s⟩
structure HR(K:Zk)(ι:Nat->Addr)(h:Tw.Hp)(H:L2.Hp):Prop where
 obj:∀(i:Nat)(o:Tw.O),h[i]?=some o->RO K ι h.length H (ι i) o
 inj:∀(i j:Nat)(o u:Tw.O),h[i]?=some o->h[j]?=some u->eJ o=true->eJ u=true->ι i=ι j->i=j
 tab:∀t∈K.cl.tb,qH H t
 fn:∀(i f:Nat)(ws:List Tw.W),h[i]?=some (.fun f ws)->uh K ι h.length H i f ws
structure Ext(ι:Nat->Addr)(h:Tw.Hp)(H:L2.Hp)(ι':Nat->Addr)(h':Tw.Hp)(H':L2.Hp):Prop where
 len:h.length<=h'.length
 same:∀i,i<h.length->ι' i=ι i
 fr:∀b u,H b=some u->(∀ps,u≠.dQ ps)->(∀(i:Nat)(o:Tw.O),h[i]?=some o->eJ o=true->ι i≠b)->H' b=some u
 new:∀i,h.length<=i->i<h'.length->H (ι' i)=none
 vz:∀b,H' b=none->H b=none
 fz:∀(i:Nat)(o u:Tw.O),h[i]?=some o->h'[i]?=some u->eJ u=eJ o
section
variable {K:Zk}{ι ι1 ι2:Nat->Addr}{h h1 h2:Tw.Hp}{H H1 H2:L2.Hp}
theorem dR(e:h[i]?=some o):i<h.length:=(fH.mp e).1
theorem Ext.refl(ι:Nat->Addr)(h:Tw.Hp)(H:L2.Hp):Ext ι h H ι h H:=
 ⟨aA _,fun _ _=>rfl,fun _ _ e _ _=>e,fun i a b=>absurd b (i6.mpr a),fun _ e=>e,fun i o u e f=>by rw[e] at f;cases f;rfl⟩
theorem Ext.trans(a:Ext ι h H ι1 h1 H1)(b:Ext ι1 h1 H1 ι2 h2 H2):Ext ι h H ι2 h2 H2 where
 len:=bG a.len b.len
 same:=fun i hi=>(b.same i (bT hi a.len)).trans (a.same i hi)
 fr:=fun c u e t n=>b.fr c u (a.fr c u e t n) t fun i o e1 m z=>by
  by_cases hi:i<h.length
  .obtain⟨o',eo⟩:∃o',h[i]?=some o':=⟨_,kH hi⟩;rw[a.same i hi] at z;exact n i o' eo (by rw[<-a.fz i o' o eo e1];exact m) z
  .have q:=a.new i (i6.mp hi) (dR e1);rw[z,e] at q;cases q
 new:=fun i h1' h2'=>by
  by_cases hi:i<h1.length
  .rw[b.same i hi];exact a.new i h1' hi
  .exact a.vz _ (b.new i (i6.mp hi) h2')
 vz:=fun c e=>a.vz c (b.vz c e)
 fz:=fun i o u e f=>by
  obtain⟨v,ev⟩:∃v,h1[i]?=some v:=⟨_,kH (bT (dR e) a.len)⟩;rw[b.fz i v u ev f,a.fz i o v e ev]
theorem HR.there(r:HR K ι h H)(e:h[i]?=some o)(m:eJ o=true):∃u,H (ι i)=some u/\(∀xs,u≠.tup xs)/\(∀o v,u≠.aM o v)/\(∀gs,u≠.xd gs)/\(∀φ,u≠.ext φ)/\∀ps,u≠.dQ ps:=by
 have q:=r.obj i o e;cases o with
 |lst ws=>obtain⟨xs,q,_⟩:=q;exact⟨_,q,(fun _ z=>nomatch z),(fun _ _ z=>nomatch z),(fun _ z=>nomatch z),(fun _ z=>nomatch z),fun _ z=>nomatch z⟩
 |aM ws=>cases m
 |fc kvs=>obtain⟨xs,q,_⟩:=q;exact⟨_,q,(fun _ z=>nomatch z),(fun _ _ z=>nomatch z),(fun _ z=>nomatch z),(fun _ z=>nomatch z),fun _ z=>nomatch z⟩
 |ins c fs=>obtain⟨C,dx,gs,_,q,_⟩:=q;exact⟨_,q,(fun _ z=>nomatch z),(fun _ _ z=>nomatch z),(fun _ z=>nomatch z),(fun _ z=>nomatch z),fun _ z=>nomatch z⟩
 |aI c fs=>cases m
 | «fun» f ws=>cases m
 |dead=>cases m
theorem Ext.keeps(r:HR K ι h H)(a:Ext ι h H ι1 h1 H1):Keeps ι h.length H ι1 h1.length H1:=
 ⟨a.len,a.same,fun b xs e=>a.fr b _ e (fun _ z=>nomatch z) fun i o eo m z=>by
  obtain⟨u,q,n,_⟩:=r.there eo m;rw[z,e] at q;cases q;exact n _ rfl⟩
theorem dG(hp:H p=none):∀b u,H b=some u->upd H p o b=some u:=fun b u e=>by
 rw[aD (eQ e hp)];exact e
theorem lp:∀b,upd H p o b=none->H b=none:=fun b e=>by
 by_cases z:b=p
 .subst z;rw[bI] at e;cases e
 .rw[aD z] at e;exact e
theorem sF.keep{K:W.Frag}{H H1:L2.Hp}{a:Addr}{xs:List V}(s:sF K H a xs)(k:∀u,H a=some u->H1 a=some u):sF K H1 a xs:=by
 rcases s with ⟨o,s⟩|s
 .exact .inl ⟨o,k _ s⟩
 .exact .inr s
theorem RO.keep(r:RO K ι n H a o)(k:Keeps ι n H ι1 n' H1)(s:∀b u,(b=a\/∃gs,u=HO.xd gs)->H b=some u->H1 b=some u):RO K ι1 n' H1 a o:=by
 cases o with
 |lst ws=>obtain⟨xs,q,z⟩:=r;exact⟨xs,s _ _ (.inl rfl) q,z.keep k⟩
 |aM ws=>obtain⟨xs,q,z⟩:=r;exact⟨xs,sF.keep q (fun u=>s _ u (.inl rfl)),z.keep k⟩
 |fc kvs=>obtain⟨xs,q,z⟩:=r;exact⟨xs,s _ _ (.inl rfl) q,z.keep k⟩
 |ins c fs=>obtain⟨C,dx,gs,q0,q,z⟩:=r;exact⟨C,dx,gs,q0,s _ _ (.inl rfl) q,z.keep k⟩
 |aI c fs=>obtain⟨C,dx,gs,q0,q,qd,z⟩:=r;exact⟨C,dx,gs,q0,s _ _ (.inl rfl) q,XD.keep qd fun b u hb=>s b u (.inr hb),z.keep k⟩
 | «fun» f ws=>trivial
 |dead=>trivial
theorem HR.grow(r:HR K ι h H)(hp:H p=none):HR K ι h (upd H p o)/\Ext ι h H ι h (upd H p o):=by have e:Ext ι h H ι h (upd H p o):=⟨aA _,fun _ _=>rfl,fun b u q _ _=>dG hp b u q,fun i a b=>absurd b (i6.mpr a),lp,fun i o u e f=>by rw[e] at f;cases f;rfl⟩;exact⟨⟨fun i u q=>(r.obj i u q).keep (e.keeps r) fun b v _ z=>dG hp b v z,r.inj,fun t ht=>(r.tab t ht).keep (fun b o u=>dG hp b _) fun ps=>dG hp _ _,fun i f ws q=>(r.fn i f ws q).keep (e.keeps r) (dR q) fun b o u=>dG hp b _⟩,e⟩
noncomputable def cM(ι:Nat->Addr)(n:Nat)(p:Addr):Nat->Addr:=fun i=>if i=n then p else ι i
theorem bC(h:i<n):cM ι n p i=ι i:=if_neg (cV h)
theorem bY:cM ι n p n=p:=if_pos rfl
theorem HR.J8(r:HR K ι h H)(hp:H p=none)(nf:∀f ws,u≠.fun f ws)(ro:∀ι' n' H',Keeps ι h.length H ι' n' H'->(∀b v,H b=some v->H' b=some v)->H' p=some o->RO K ι' n' H' p u):
  HR K (cM ι h.length p) (h++[u]) (upd H p o)/\Ext ι h H (cM ι h.length p) (h++[u]) (upd H p o):=by
 have hl:(h++[u]).length=h.length+1:=by simp
 have cases2:∀{i:Nat}{v:Tw.O},(h++[u])[i]?=some v->(i<h.length/\h[i]?=some v)\/(i=h.length/\v=u):=fun {i v} e=>by
  have hi:=dR e;by_cases z:i<h.length
  .rw[e9 z] at e;exact .inl ⟨z,e⟩
  .have z':i=h.length:=by lia
   subst z';simp at e;exact .inr ⟨rfl,e.symm⟩
 have e:Ext ι h H (cM ι h.length p) (h++[u]) (upd H p o):=by
  refine⟨by lia,fun i hi=>bC hi,fun b v q _ _=>dG hp b v q,fun i h1 h2=>?_,lp,fun i v w e f=>?_⟩
  .have:i=h.length:=by lia
   subst this;rw[bY];exact hp
  .rcases cases2 f with ⟨_,f⟩|⟨f,_⟩
   .rw[e] at f;cases f;rfl
   .have:=dR e;lia
 refine⟨⟨fun i v q=>?_,fun i j v w q1 q2 m1 m2 z=>?_,fun t ht=>(r.tab t ht).keep (fun b o u=>dG hp b _) fun ps=>dG hp _ _,fun i f ws q=>?_⟩,e⟩
 .rcases cases2 q with ⟨hi,q⟩|⟨rfl,rfl⟩
  .rw[bC hi];exact (r.obj i v q).keep (e.keeps r) fun b x _ z=>dG hp b x z
  .rw[bY];exact ro _ _ _ (e.keeps r) (fun b v q=>dG hp b v q) bI
 .rcases cases2 q1 with ⟨hi,p1⟩|⟨ei,ev⟩<;>rcases cases2 q2 with ⟨hj,p2⟩|⟨ej,ew⟩
  .rw[bC hi,bC hj] at z;exact r.inj i j v w p1 p2 m1 m2 z
  .rw[bC hi,ej,bY] at z;obtain⟨x,q,_,_⟩:=r.there p1 m1;rw[z,hp] at q;cases q
  .rw[ei,bY,bC hj] at z;obtain⟨x,q,_,_⟩:=r.there p2 m2;rw[<-z,hp] at q;cases q
  .rw[ei,ej]
 .rcases cases2 q with ⟨hi,q⟩|⟨_,q⟩
  .exact (r.fn i f ws q).keep (e.keeps r) hi fun b o u=>dG hp b _
  .exact absurd q.symm (nf f ws)
theorem HR.new(r:HR K ι h H)(hp:H p=none)(m:eJ u=true)(ro:∀ι' n' H',Keeps ι h.length H ι' n' H'->H' p=some o->RO K ι' n' H' p u):
  HR K (cM ι h.length p) (h++[u]) (upd H p o)/\Ext ι h H (cM ι h.length p) (h++[u]) (upd H p o):=r.J8 hp (fun f ws z=>by rw[z] at m;cases m) fun ι' n' H' k _ e=>ro ι' n' H' k e
theorem HR.put(r:HR K ι h H)(ei:h[i]?=some v)(mv:eJ v=true)(m:eJ u=true)(no:∀xs,o≠.tup xs)
  (ro:∀H',Keeps ι h.length H ι h.length H'->H' (ι i)=some o->RO K ι h.length H' (ι i) u):
  HR K ι (h.set i u) (upd H (ι i) o)/\Ext ι h H ι (h.set i u) (upd H (ι i) o):=by
 have hl:(h.set i u).length=h.length:=by simp
 obtain⟨x0,q0,n0,f0,d0,e0,t0⟩:=r.there ei mv;have sf:∀b o' u',H b=some (.aM o' u')->upd H (ι i) o b=some (.aM o' u'):=fun b o' u' e=>by
  rw[aD (fun z=>by rw[z,q0] at e;cases e;exact f0 _ _ rfl)];exact e
 have kp:Keeps ι h.length H ι h.length (upd H (ι i) o):=⟨aA _,fun _ _=>rfl,fun a xs e=>by
  rw[aD (fun z=>by rw[z,q0] at e;cases e;exact n0 _ rfl)];exact e⟩
 have look:∀{j:Nat}{w:Tw.O},(h.set i u)[j]?=some w->(j=i/\w=u)\/(j≠i/\h[j]?=some w):=fun {j w} e=>by
  by_cases z:j=i
  .subst z;rw[i5 (dR ei)] at e;cases e;exact .inl ⟨rfl,rfl⟩
  .rw[i7 (aX z)] at e;exact .inr ⟨z,e⟩
 have e:Ext ι h H ι (h.set i u) (upd H (ι i) o):=by
  refine⟨by lia,fun _ _=>rfl,fun b w q _ n=>?_,fun j a b=>absurd b (by rw[hl];exact i6.mpr a),lp,fun j w w' e f=>?_⟩
  .rw[aD (fun z=>n i v ei mv z.symm)];exact q
  .rcases look f with ⟨rfl,rfl⟩|⟨_,f⟩
   .rw[ei] at e;cases e;rw[m,mv]
   .rw[e] at f;cases f;rfl
 refine⟨⟨fun j w q=>?_,fun j k w w' q1 q2 m1 m2 z=>?_,fun t ht=>(r.tab t ht).keep sf fun ps e=>by rw[aD (fun z=>by rw[z,q0] at e;cases e;exact t0 _ rfl)];exact e,fun j f ws q=>?_⟩,e⟩
 .rw[hl];rcases look q with ⟨rfl,rfl⟩|⟨nj,q⟩
  .exact ro _ kp bI
  .by_cases Z:ι j=ι i
   .by_cases mw:eJ w=true
    .exact absurd (r.inj j i w v q ei mw mv Z) nj
    .cases w with
     |aM ws=>
      obtain⟨xs,sq,rr⟩:=r.obj j _ q;rcases sq with ⟨o',sq⟩|sq
      .rw[Z,q0] at sq;cases sq;exact absurd rfl (f0 _ _)
      .exact⟨xs,.inr sq,rr.keep kp⟩
     |aI c fs=>
      obtain⟨C,dx,gs,_,z,_⟩:=r.obj j _ q;rw[Z,q0] at z;cases z;exact absurd rfl (e0 _)
     | «fun» f ws=>trivial
     |dead=>trivial
     |_=>exact absurd rfl mw
   .exact (r.obj j w q).keep kp fun b y hb z=>by
     rw[aD]
     .exact z
     .rcases hb with rfl|⟨gs,rfl⟩
      .exact Z
      .intro y;rw[y,q0] at z;cases z;exact d0 _ rfl
 .have back:∀{j:Nat}{w:Tw.O},(h.set i u)[j]?=some w->eJ w=true->∃w',h[j]?=some w'/\eJ w'=true:=fun {j w} q mw=>by
   rcases look q with ⟨rfl,rfl⟩|⟨_,q⟩
   .exact⟨v,ei,mv⟩
   .exact⟨w,q,mw⟩
  obtain⟨a,qa,ma⟩:=back q1 m1;obtain⟨b,qb,mb⟩:=back q2 m2;exact r.inj j k a b qa qb ma mb z
 .rw[hl];rcases look q with ⟨_,q⟩|⟨_,q⟩
  .rw[<-q] at m;cases m
  .exact (r.fn j f ws q).keep kp (dR q) sf
end
end TwS
namespace TwS
open PySem L2 PyProof.Rows
theorem Br(o:Obj)(f:Array Value->Array Value):(o.mapFields f).dict=o.dict:=by obtain⟨c,d,dt,sl⟩:=o;cases dt<;>rfl
structure IB(fs:List Addr)(e T:Addr)(h h':Heap):Prop where
 keep:∀b o,h.get? b=some o->b≠e->b≠T->b∉fs->h'.get? b=some o
 slot:∀b o,h.get? b=some o->b≠e->b≠T->∃sl,h'.get? b=some {o with slots:=sl}
 err:∀o vs,h.get? e=some o->o.data=.fields vs->∃o' ws,h'.get? e=some o'/\o'.cls=o.cls/\o'.dict=o.dict/\o'.data=.fields ws
def Tb(h0 h:Heap)(H:L2.Hp)(e:Addr)(fl:Value):Prop:=
 ∃oe vs T oT ts,h.get? e=some oe/\oe.data=.fields vs/\vs[1]?=some (.ref T)/\T≠e/\h0.get? T=none/\H T=none/\h.get? T=some oT/\oT.data=.fields ts/\ts[3]?=some fl
structure Fly0(P:Program)(w:World)(fs:List Addr)(H:L2.Hp)(s:Shared)(e C:Addr)(dx:Option Addr)(H':L2.Hp)(s':Shared):Prop where
 os:s'.os=s.os
 bare:AllBare s'.gens
 un:Un fs [] H H' s.heap s'.heap
 av:dB P w H' s'.heap
 tr:H' e=some (mS C dx e)
 new:s.heap.get? e=none
structure fV(P:Program)(w:World)(fs:List Addr)(H:L2.Hp)(s:Shared)(e C:Addr)(dx:Option Addr)(fl:Value)(H':L2.Hp)(s':Shared):Prop extends Fly0 P w fs H s e C dx H' s' where
 tb:Tb s.heap s'.heap H' e fl
section
variable {P:Program}{w:World}{fs:List Addr}{H H':L2.Hp}{s s':Shared}{e C T:Addr}{dx:Option Addr}{h2:Heap}
theorem Fly0.chg(F:Fly0 P w fs H s e C dx H' s')(hf:∀b∈fs,H' b=none)(hT:s.heap.get? T=none)(hT':H' T=none)(c:IB fs e T s'.heap h2):Fly0 P w fs H s e C dx H' {s' with heap:=h2}:=by
 have ne:∀b o,s.heap.get? b=some o->b≠e/\b≠T:=fun b o q=>⟨(fun z=>by rw[z,F.new] at q;cases q),(fun z=>by rw[z,hT] at q;cases q)⟩;have nt:∀b o,H' b=some o->b≠T/\b∉fs:=fun b o q=>⟨(fun z=>by rw[z,hT'] at q;cases q),(fun z=>by rw[hf b z] at q;cases q)⟩;refine⟨F.os,F.bare,⟨fun b o q n hb hx=>?_,fun b o q n hb hx=>?_,F.un.free,fun b o q hx=>?_,F.un.gg,F.un.fI,F.un.fL⟩,fun a o q=>?_,F.tr,F.new⟩
 .exact c.keep b o (F.un.keep b o q n hb hx) (ne b o q).1 (ne b o q).2 hb
 .obtain⟨sl,q1⟩:=F.un.slot b o q n hb hx;obtain⟨sl',q2⟩:=c.slot b _ q1 (ne b o q).1 (ne b o q).2;exact⟨sl',q2⟩
 .obtain⟨o1,q1⟩:=F.un.there b o q hx;obtain⟨sl',q2⟩:=c.slot b _ q1 (ne b o q).1 (ne b o q).2;exact⟨_,q2⟩
 .by_cases z:a=e
  .subst z;have q':=q;rw[F.tr] at q';cases q';obtain⟨⟨o1,vs,q1,q2,q3,q4⟩,_,st⟩:=F.av a _ q;obtain⟨o2,ws,r1,r2,r3,r4⟩:=c.err o1 vs q1 q4;exact⟨⟨o2,ws,r1,r2.trans q2,r3.trans q3,r4⟩,⟨o2,r1⟩,st⟩
  .refine (F.av a o q).fG (fun b u hb r=>?_) (fun _ q=>q) fun _ _ q=>q;rcases hb with rfl|hb
   .exact c.keep b u r z (nt b o q).1 (nt b o q).2
   .refine c.keep b u r (fun y=>?_) (nt b _ hb).1 (nt b _ hb).2;rw[y,F.tr] at hb;cases hb
theorem Fly0.back(F:Fly0 P w fs H s e C dx H' s')(hT:s'.heap.objs.size<=T):s.heap.get? T=none/\H' T=none:=by
 refine⟨?_,F.av.fresh hT⟩;cases q:s.heap.get? T with
 |none=>rfl
 |some o=>
  obtain⟨o',q'⟩:=F.un.there T o q (by simp);exact absurd (bw q') (i6.mpr hT)
end
section
variable {M:Model}{A:Around}{E:aO}{s:Shared}{base:Heap}{env:Env}{outer:List Env}{L e:Addr}
theorem ux{Q:Unit->Shared->Prop}(hfr:A.frames=some (env::outer))(hl:s.heap.FunFrames base (env::outer))(hf:env.frame=some L)
  (he:s.heap.get? e=some oe) (hd:oe.data=.fields vs) (hsz:1<vs.size)
  (k:∀h' T oe' ws oT ts,s.heap.objs.size<=T->IB (a9 (env::outer)) e T s.heap h'->h'.get? e=some oe'->oe'.data=.fields ws->ws[1]?=some (.ref T)->T≠e->h'.get? T=some oT->oT.data=.fields ts->ts[3]?=some (rawInt L)->Q () {s with heap:=h'}):
  wpAny M A (do let a <-frameOf env;let pl <-entryPlaceOf L hn;let b <-EntryCells.newEntry head a .none (rawInt L) .none pl;setField (.ref e) 1 b) Q E s:=by
 have ne:e∉a9 (env::outer):=fun m=>by
  obtain⟨_,o,ho,nf⟩:=hl.mem m;rw[he] at ho;cases ho;exact nf vs hd
 refine ag (wpAny_frameOf_fun hfr hl hf fun h1 s1=>?_);have fin:∀(O:Obj)(ts:Array Value),O.data=.fields ts->ts[3]?=some (rawInt L)->wpAny M A (setField (.ref e) 1 (.ref h1.objs.size)) Q E {s with heap:=h1.push O}:=fun O ts hO h3=>by
  have he1:h1.get? e=some oe:=(s1.2.1 e ne).trans he;have he2:=bM (h:=h1) O he1;have nT:h1.objs.size≠e:=mK (bw he1);refine ot (s:={s with heap:=h1.push O}) he2 hd hsz ?_;have hd3:=p7 hd (·.setIfInBounds 1 (Value.ref h1.objs.size));have he3:=rY (Obj.mapFields (·.setIfInBounds 1 (Value.ref h1.objs.size))) he2 (wx hd3);have hT3:=(mX (h1.push O) (Obj.mapFields (·.setIfInBounds 1 (Value.ref h1.objs.size))) (aX nT)).trans (fN h1 (wx hO));refine k _ h1.objs.size _ _ O ts (z7 s1.1.symm) ⟨fun b o q n1 n2 n3=>?_,fun b o q n1 n2=>?_,fun o ws q qd=>?_⟩ he3 hd3 (by simp[hsz]) nT hT3 hO h3
  .rw[mX _ _ (aX n1)];exact bM _ ((s1.2.1 b n3).trans q)
  .obtain⟨sl,q1⟩:=s1.2.2 b o q;refine⟨sl,?_⟩;rw[mX _ _ (aX n1)];exact bM _ q1
  .rw[he] at q;cases q;exact⟨_,_,he3,Obj.cls_mapFields _ _,Br _ _,hd3⟩
 refine ag (wpAny_entryPlaceOf fun pl hpl=>?_);unfold EntryCells.newEntry;unfold newFields;refine ag (jn (s:={s with heap:=h1}) ?_ (hpl.sizeOk5 _ _ _ _ _));exact fin _ _ rfl (by first|(simp;done)|(rcases hpl with rfl|⟨_,_,_,_,_,_,_,rfl⟩<;>simp))
variable {P:Program}{w:World}{H H':L2.Hp}{s':Shared}{C:Addr}{dx:Option Addr}
theorem Fly0.note{Q:Unit->Shared->Prop}(F:Fly0 P w (a9 (env::outer)) H s e C dx H' s')(hfr:A.frames=some (env::outer))(hl:s'.heap.FunFrames base (env::outer))(hf:env.frame=some L)(hfree:∀b∈a9 (env::outer),H' b=none)
  (he:s'.heap.get? e=some oe) (hd:oe.data=.fields vs) (h1:vs[1]?=some .none)
  (k:∀s2,fV P w (a9 (env::outer)) H s e C dx (rawInt L) H' s2->Q () s2):wpAny M A (noteFrame (.ref e) env) Q E s':=by
 unfold noteFrame;simp only[hf];refine ag (gx he hd h1 ?_);rw[if_neg (by decide)];refine ux hfr hl hf he hd (E9.mp h1).1 fun h' T oe' ws oT ts hT c q1 q2 q3 q4 q5 q6 q7=>?_;obtain⟨b1,b2⟩:=F.back hT;exact k _ ⟨F.chg hfree b1 b2 c,oe',ws,T,oT,ts,q1,q2,q3,q4,b1,b2,q5,q6,q7⟩
theorem fV.note{Q:Unit->Shared->Prop}(F:fV P w (a9 (env::outer)) H s e C dx .none H' s')(hfr:A.frames=some (env::outer))(hl:s'.heap.FunFrames base (env::outer))(hf:env.frame=some L)(hfree:∀b∈a9 (env::outer),H' b=none)
  (k:∀s2,fV P w (a9 (env::outer)) H s e C dx (rawInt L) H' s2->Q () s2):wpAny M A (noteFrame (.ref e) env) Q E s':=by
 obtain⟨oe,vs,T,oT,ts,he,hd,h1,nT,n0,nH,hT,hdT,h3⟩:=F.tb;unfold noteFrame;simp only[hf];refine ag (gx he hd h1 ?_);rw[if_pos (show (Value.ref T != Value.none)=true from by simp)];refine ag (gx hT hdT h3 ?_);rw[if_neg (show ¬ ((Value.none== rawInt L)=true) from by simp[rawInt])];refine ag (ot hT hdT (E9.mp h3).1 ?_);have oth:∀b,b≠T->(s'.heap.update T (Obj.mapFields (·.setIfInBounds 3 Value.none))).get? b=s'.heap.get? b:=fun b hb=>mX _ _ (aX hb);have c1:IB (a9 (env::outer)) e T s'.heap (s'.heap.update T (Obj.mapFields (·.setIfInBounds 3 Value.none))):=
  ⟨fun b o q _ n2 _=>(oth b n2).trans q,fun b o q _ n2=>⟨o.slots,(oth b n2).trans q⟩,fun o ws q qd=>⟨o,ws,(oth e (aX nT)).trans q,rfl,rfl,qd⟩⟩
 have F1:=F.toFly0.chg hfree n0 nH c1;have hl1:(s'.heap.update T (Obj.mapFields (·.setIfInBounds 3 Value.none))).FunFrames base (env::outer):=hl.of_keeps fun b o hb nf=>⟨o,(oth b fun z=>by
  subst z;rw[hT] at hb;cases hb;exact nf ts hdT).trans hb,rfl⟩
 refine ux (s:={s' with heap:=s'.heap.update T (Obj.mapFields (·.setIfInBounds 3 Value.none))}) hfr hl1 hf ((oth e (aX nT)).trans he) hd (E9.mp h1).1 fun h' T' oe' ws oT' ts' hT' c q1 q2 q3 q4 q5 q6 q7=>?_;obtain⟨b1,b2⟩:=F1.back hT';exact k _ ⟨F1.chg hfree b1 b2 c,oe',ws,T',oT',ts',q1,q2,q3,q4,b1,b2,q5,q6,q7⟩
theorem fV.land{Q:Unit->Shared->Prop}(F:fV P w fs H s e C dx fl H' s')(hfree:∀b∈fs,H' b=none)(k:∀s2,fV P w fs H s e C dx .none H' s2->Q () s2):
  wpAny M A (setFlight (.ref e) none) Q E s':=by
 obtain⟨oe,vs,T,oT,ts,he,hd,h1,nT,n0,nH,hT,hdT,h3⟩:=F.tb;have z3:3<ts.size:=(E9.mp h3).1;unfold setFlight;refine ag (gx he hd h1 ?_);rw[if_pos (show (Value.ref T != Value.none)=true from by simp)];refine ot hT hdT z3 ?_;have oth:∀b,b≠T->(s'.heap.update T (Obj.mapFields (·.setIfInBounds 3 ((none:Option Addr).elim Value.none fun f=>rawInt f)))).get? b=s'.heap.get? b:=fun b hb=>mX _ _ (aX hb);refine k _ ⟨F.toFly0.chg hfree n0 nH ⟨fun b o q _ n2 _=>(oth b n2).trans q,fun b o q _ n2=>⟨o.slots,(oth b n2).trans q⟩,fun o ws q qd=>⟨o,ws,(oth e (aX nT)).trans q,rfl,rfl,qd⟩⟩,?_⟩;exact⟨oe,vs,T,_,_,(oth e (aX nT)).trans he,hd,h1,nT,n0,nH,rY _ hT (wx (p7 hdT _)),p7 hdT _,by simp[z3]⟩
theorem fV.leave{Q:Unit->Shared->Prop}(F:fV P w (a9 (env::outer)) H s e C dx .none H' s')(hfr:A.frames=some (env::outer))(hl:s'.heap.FunFrames base (env::outer))(hf:env.frame=some L)(hfree:∀b∈a9 (env::outer),H' b=none)
  (k:∀s2,fV P w (a9 (env::outer)) H s e C dx .none H' s2->Q () s2):wpAny M A (leaving env (.ref e)) Q E s':=by
 unfold leaving;exact ag (F.note hfr hl hf hfree fun s2 F2=>F2.land hfree k)
theorem Fly0.leave{Q:Unit->Shared->Prop}(F:Fly0 P w (a9 (env::outer)) H s e C dx H' s')(hfr:A.frames=some (env::outer))(hl:s'.heap.FunFrames base (env::outer))(hf:env.frame=some L)(hfree:∀b∈a9 (env::outer),H' b=none)
  (he:s'.heap.get? e=some oe) (hd:oe.data=.fields vs) (h1:vs[1]?=some .none)
  (k:∀s2,fV P w (a9 (env::outer)) H s e C dx .none H' s2->Q () s2):wpAny M A (leaving env (.ref e)) Q E s':=by
 unfold leaving;exact ag (F.note hfr hl hf hfree he hd h1 fun s2 F2=>F2.land hfree k)
end
noncomputable def bX(P:Program)(w:World):fj:=fun l H s E e s'=>∃ea C dx H',e=.ref ea/\fV P w (a9 l) H s ea C dx .none H' s'/\E e none H'
theorem bX.never:∀outer H s e s',¬ bX P w outer H s E0 e s':=fun _ _ _ _ _ ⟨_,_,_,_,_,_,z⟩=>z
abbrev oS(X:Cx)(E:XK):aO:=fun e s'=>wpAny (model X.prog X.w) X.A (leaving X.env e) (fun _ s2=>bX X.prog X.w X.outer X.jW X.aG E e s2) (fun e' s2=>bX X.prog X.w X.outer X.jW X.aG E e' s2) s'
section
variable {X:Cx}{pins:aE}{σ:L2.St}{H H':L2.Hp}{s s':Shared}{E:XK}{e C:Addr}{dx:Option Addr}{fl:Value}
theorem fV.up(I:Inv X pins σ H s)(hx:X.ex=[])(hs:X.stack=X.env::X.outer)(hfm:X.env.frame=some X.env.locals)(F:fV X.prog X.w (a9 X.stack) H s e C dx fl H' s'):
  fV X.prog X.w (a9 X.outer) X.jW X.aG e C dx fl H' s':=by
 have back:∀T,s.heap.get? T=none->X.aG.heap.get? T=none:=fun T q=>by
  cases z:X.aG.heap.get? T with
  |none=>rfl
  |some o=>
   obtain⟨o',z'⟩:=I.base.there T o z (by rw[hx];simp);rw[q] at z';cases z'
 have b0:Un (a9 X.outer) [] X.jW H X.aG.heap s.heap:=hx▸I.base;have sub:∀b,b∈a9 X.outer->b∈a9 X.stack:=fun b hb=>by
  rw[hs];show b∈(X.env::X.outer).filterMap (·.frame);rw[rU,hfm];exact iY _ hb
 have un2:=(b0.mono (fs':=a9 X.stack) (ex':=[]) sub fun _ z=>z).trans F.un;have ex:∀b o,X.aG.heap.get? b=some o->b∉a9 X.outer->b∉a9 X.stack:=fun b o q hb hm=>by
  rcases eZ.mp (I.j5 b hm) with z|z
  .exact absurd (bw q) (by rw[z];exact i6.mpr I.ok.above)
  .exact hb z
 obtain⟨oe,vs,T,oT,ts,he,hd,h1,nT,n0,r⟩:=F.tb;exact⟨⟨F.os.trans I.os,F.bare,⟨fun b o q n hb hx'=>un2.keep b o q n (ex b o q hb) hx',fun b o q n hb hx'=>un2.slot b o q n (sub b hb) hx',un2.free,un2.there,un2.gg,un2.fI,un2.fL⟩,F.av,F.tr,back _ F.new⟩,oe,vs,T,oT,ts,he,hd,h1,nT,back _ n0,r⟩
theorem Fly0.inv(I:Inv X pins σ H s)(F:Fly0 X.prog X.w (a9 X.stack) H s e C dx H' s'):Inv X pins σ H' s':=I.LD F.os F.un F.av F.bare (fun b z=>absurd z (by simp))
theorem EA(hx:X.ex=[])(hs:X.stack=X.env::X.outer)(hfm:X.env.frame=some X.env.locals)(hxe:X.xe=oS X E):Passes (bX X.prog X.w) X E:=fun pins σ H s e s' I ⟨ea,C,dx,H',ee,F,q⟩=>by
 subst ee;rw[hxe];have J:=F.toFly0.inv I;have fr:=J.iB;have st:=J.stack;have fm:=J.ok.frames;rw[hs] at fr st fm F;refine F.leave (base:=X.base) fm st hfm fr fun s2 F2=>?_;rw[<-hs] at F2;exact⟨ea,C,dx,H',rfl,F2.up I hx hs hfm,q⟩
theorem JK(hx:X.ex=[])(hs:X.stack=X.env::X.outer)(hfm:X.env.frame=some X.env.locals)(hxe:X.xe=oS X E)(I:Inv X pins σ H s)(F:Fly0 X.prog X.w (a9 X.stack) H s e C dx H' s')
  (he:s'.heap.get? e=some oe) (hd:oe.data=.fields vs) (h1:vs[1]?=some .none) (q:E (.ref e) none H'):X.xe (.ref e) s':=by
 rw[hxe];have J:=F.inv I;have fr:=J.iB;have st:=J.stack;have fm:=J.ok.frames;rw[hs] at fr st fm F;refine F.leave (base:=X.base) fm st hfm fr he hd h1 fun s2 F2=>?_;rw[<-hs] at F2;exact⟨e,C,dx,H',rfl,F2.up I hx hs hfm,q⟩
end
end TwS
namespace TwS
open PySem L2 PyProof.Rows Builtin Builtin.ObjectAttr
noncomputable def Aw:List Value:=[.type "ValueError",.type "Exception",.type "BaseException",.type "object"]
structure XC(K:W.Frag)(C:Addr):Prop where
 mro:∃(cd:ClassData) (os:List Addr),W.clsIn K C=some cd/\cd.mro=.ref C::(os.map Value.ref++Aw)/\cd.hasDict=true
 sa:W.findIn K (.ref C) "__setattr__" = some (some (.builtin "object.__setattr__"))
 ga:W.findIn K (.ref C) "__getattribute__" = some (some (.builtin "BaseException.__getattribute__"))
 gh:W.findIn K (.ref C) "__getattr__" = some none
theorem Gg(os:List Addr)(v:Value)(h:Aw.contains v=true):(os.map Value.ref++Aw).contains v=true:=by rw[List.contains_append,h,Bool.or_true]
theorem XC.sub{K:W.Frag}{C:Addr}(c:XC K C){v:Value}(h:Aw.contains v=true):W.mroIn K C v=some true:=by obtain⟨cd,os,e1,e2,_⟩:=c.mro;unfold W.mroIn;rw[e1,si,e2];show some ((Value.ref C::(os.map Value.ref++Aw)).contains v)=_;rw[List.contains_cons,Gg os v h,Bool.or_true]
section
variable {prog:Program}{w:World}{A:Around}{E:aO}{s:Shared}{K:W.Frag}{x C:Addr}{ox:Obj}{name:Str}{v:Value}
end
end TwS
namespace TwS
open PySem L2 PyProof.Rows
section
variable {X:Cx}{pins:aE}{σ:L2.St}{H H':L2.Hp}{s s':Shared}{x dx C:Addr}{A:Around}{E:aO}
end
end TwS
namespace TwS
open PySem L2
abbrev Rl(α β:Type):=W.Frag->(Nat->Addr)->Nat->L2.Hp->α->β->Prop
def ak(K:Zk){α β:Type}(R:Rl α β)(ι:Nat->Addr)(h:Tw.Hp)(H:L2.Hp)(m:Tw.R α)(Q:β->L2.Hp->Prop):Prop:=match m with
 |.ok a h'=>∀ι' H' b,Ext ι h H ι' h' H'->HR K ι' h' H'->R K.K ι' h'.length H' a b->Q b H'
 |.aI a h'=>∀ι' H',Ext ι h H ι' h' H'->HR K ι' h' H'->K.ex (.ref (ι' a)) none H'
 |.bad=>False
structure At(K:Zk)(ι:Nat->Addr)(h:Tw.Hp)(H:L2.Hp)(ρ:Tw.Env)(σ:L2.St):Prop where
 hr:HR K ι h H
 len:σ.length=ρ.length
 st:∀(i:Nat)(w:Tw.W),ρ[i]?=some (some w)->∃v,σ[i]?=some (some v)/\RW K.K ι h.length H w v
noncomputable def tG(K:Zk){α β:Type}(R:Rl α β)(d:Tw.Env->Tw.Hp->Tw.R α):L2.St->L2.Hp->(β->L2.Hp->Prop)->Prop:=
 fun σ H Q=>∃ρ h ι,At K ι h H ρ σ/\ak K R ι h H (d ρ h) Q
noncomputable abbrev RE:Rl Tw.W V:=fun K ι n H w v=>RW K ι n H w v
noncomputable abbrev RA(k:Nat):Rl (List Tw.W) (List V):=fun K ι n H w v=>aL K ι n H w v/\w.length=k
noncomputable abbrev RB:Rl Bool Bool:=fun _ _ _ _ a b=>a=b
abbrev tE(K:Zk)(d:Tw.Env->Tw.Hp->Tw.R Tw.W):TE:=tG K RE d
section
variable {K:Zk}{α β γ δ:Type}{R:Rl α β}{R':Rl γ δ}{ι ι1:Nat->Addr}{h h1:Tw.Hp}{H H1:L2.Hp}{ρ:Tw.Env}{σ:L2.St}{m:Tw.R α}
theorem ak.mono{Q Q':β->L2.Hp->Prop}(p:ak K R ι h H m Q)(f:∀b H',Q b H'->Q' b H'):ak K R ι h H m Q':=by
 cases m with
 |ok a h'=>exact fun ι' H' b e r q=>f _ _ (p ι' H' b e r q)
 |aI=>exact p
 |bad=>exact p
theorem ak.later{Q:β->L2.Hp->Prop}(p:ak K R ι h H m Q)(e:Ext ι h H ι1 h1 H1):ak K R ι1 h1 H1 m Q:=by
 cases m with
 |ok a h'=>exact fun ι' H' b e' r q=>p ι' H' b (e.trans e') r q
 |aI a h'=>exact fun ι' H' e' r=>p ι' H' (e.trans e') r
 |bad=>exact p
theorem At.later(a:At K ι h H ρ σ)(e:Ext ι h H ι1 h1 H1)(r:HR K ι1 h1 H1):At K ι1 h1 H1 ρ σ:=
 ⟨r,a.len,fun i w q=>let ⟨v,q1,q2⟩:=a.st i w q;⟨v,q1,q2.keep (e.keeps a.hr)⟩⟩
theorem step{k:α->Tw.Hp->Tw.R γ}{Q:δ->L2.Hp->Prop}(a:At K ι h H ρ σ)(p:ak K R' ι h H (m.bind k) Q):
  ak K R ι h H m (fun x H1=>∃w h1 ι1,At K ι1 h1 H1 ρ σ/\Ext ι h H ι1 h1 H1/\R K.K ι1 h1.length H1 w x/\ak K R' ι1 h1 H1 (k w h1) Q):=by
 cases m with
 |ok w h1=>exact fun ι' H' b e r q=>⟨w,h1,ι',a.later e r,e,q,ak.later p e⟩
 |aI a h'=>exact p
 |bad=>exact p
theorem ak.self{Q:β->L2.Hp->Prop}(p:ak K R ι h H (.ok a h) Q)(r:HR K ι h H)(q:R K.K ι h.length H a b):Q b H:=p ι H b (Ext.refl ι h H) r q
theorem ak.tup(p:ak K RE ι h H (.ok (.tup ws) h) Q)(r:HR K ι h H)(q:aL K.K ι h.length H ws xs):∀a,H a=none->Q (.ref a) (upd H a (.tup xs)):=fun a ha=>by
 obtain⟨r',e⟩:=r.grow (o:=.tup xs) ha;exact p ι _ _ e r' (.tup (.inl bI) (q.keep (e.keeps r)))
theorem ak.lst(p:ak K RE ι h H (Tw.new (.lst ws) h) Q)(r:HR K ι h H)(q:aL K.K ι h.length H ws xs):∀a,H a=none->Q (.ref a) (upd H a (.lst xs)):=fun a ha=>by
 obtain⟨r',e⟩:=r.new (u:=.lst ws) (o:=.lst xs) ha rfl fun ι' n' H' k e=>⟨xs,e,q.keep k⟩;refine p _ _ (.ref a) e r' ?_;have z:RW K.K (cM ι h.length a) (h++[Tw.O.lst ws]).length (upd H a (.lst xs)) (.ref h.length) (.ref (cM ι h.length a h.length)):=.ref (by simp);rw[bY] at z;exact z
theorem ak.fc(p:ak K RE ι h H (Tw.new (.fc kvs) h) Q)(r:HR K ι h H)(q:RD K.K ι h.length H kvs xs):∀a,H a=none->Q (.ref a) (upd H a (.dK xs)):=fun a ha=>by
 obtain⟨r',e⟩:=r.new (u:=.fc kvs) (o:=.dK xs) ha rfl fun ι' n' H' k e=>⟨xs,e,q.keep k⟩;refine p _ _ (.ref a) e r' ?_;have z:RW K.K (cM ι h.length a) (h++[Tw.O.fc kvs]).length (upd H a (.dK xs)) (.ref h.length) (.ref (cM ι h.length a h.length)):=.ref (by simp);rw[bY] at z;exact z
end
theorem PE.imp(p:PE X e t)(f:∀σ H Q,t' σ H Q->t σ H Q):PE X e t':=fun pins s σ H Q I q=>p pins s σ H Q I (f σ H Q q)
theorem PT.imp(p:PT X e t)(f:∀σ H Q,t' σ H Q->t σ H Q):PT X e t':=fun pins s σ H Q I q=>p pins s σ H Q I (f σ H Q q)
theorem PW.imp(p:PW X e t)(f:∀σ H Q,t' σ H Q->t σ H Q):PW X e t':=fun wh pins s σ H Q I q=>p wh pins s σ H Q I (f σ H Q q)
theorem PA.imp(p:PA X e t)(f:∀σ H Q,t' σ H Q->t σ H Q):PA X e t':=fun pos pins s σ H Q I q=>p pos pins s σ H Q I (f σ H Q q)
theorem PS.imp(p:PS X e t)(f:∀D σ H,t' D σ H->t D σ H):PS X e t':=fun pins s σ H D I q=>p pins s σ H D I (f D σ H q)
theorem dE.imp(p:dE X e t)(f:∀D σ H,t' D σ H->t D σ H):dE X e t':=fun pins s σ H D I q=>p pins s σ H D I (f D σ H q)
section
variable {K:Zk}{ι:Nat->Addr}{h:Tw.Hp}{H:L2.Hp}
theorem HR.lst(r:HR K ι h H)(e:h[i]?=some (.lst ws)):∃xs,H (ι i)=some (.lst xs)/\aL K.K ι h.length H ws xs:=r.obj i _ e
theorem HR.at(r:HR K ι h H)(e:Tw.dS h i=some ws):∃xs,bW K.K H (ι i) xs/\aL K.K ι h.length H ws xs:=by
 unfold Tw.dS at e;split at e
 .next q=>cases e;obtain⟨xs,q1,q2⟩:=r.obj i _ q;exact⟨xs,bW.of q1,q2⟩
 .next q=>cases e;obtain⟨xs,q1,q2⟩:=r.obj i _ q;exact⟨xs,q1.sq,q2⟩
 .cases e
end
theorem AW(n:Nat)(i:Int):Tw.ik n i=L2.ik n i:=rfl
theorem aL.dw{ι:Nat->Addr}(r:aL K ι n H ws xs)(e:Tw.dw ws i=some w):∃v,L2.dw xs i=some v/\RW K ι n H w v:=by
 unfold Tw.dw at e;unfold L2.dw;rw[<-r.length,<-AW];cases q:Tw.ik ws.length i with
 |none=>rw[q] at e;cases e
 |some j=>
  rw[q] at e;exact r.get e
theorem rA(n d:Nat)(o:Option Int):Tw.bz n d o=HT.bz n d o:=by
 cases o with
 |none=>rfl
 |some v=>first|rfl|(unfold Tw.bz HT.bz;split<;>first|rfl|lia|(simp;lia))
theorem aL.cut{ι:Nat->Addr}(r:aL K ι n H ws xs)(lo hi:Option Int):aL K ι n H (Tw.cut ws lo hi) (su xs lo hi):=by unfold Tw.cut su;rw[rA,rA,r.length];exact (r.drop _).take _
end TwS
namespace TwS
open PySem L2 PyProof.Rows
section
variable {X:Cx}{E:XK}{a b c:Expr}{pos:Pos}{da db dc:Tw.Env->Tw.Hp->Tw.R Tw.W}
theorem MH{i:Nat}{x:Str}(hN:X.N[i]?=some x)(hv:m8 X.env.scope x)(hd:(x== ("__debug__" : Str))=false)(hcd:(x== ("__classdict__" : Str))=false):
  PE X (.Name x pos) (tE (zx X E) fun ρ h=>match ρ[i]? with|some (some w)=>.ok w h|_=>.bad):=by
 refine PE.imp (nD hN hv hd hcd) fun σ H Q ⟨ρ,h,ι,at',p⟩=>?_;cases e:ρ[i]? with
 |none=>simp only[e] at p;exact p.elim
 |some o=>
  cases o with
  |none=>simp only[e] at p;exact p.elim
  |some w=>
   simp only[e] at p;obtain⟨v,q1,q2⟩:=at'.st i w e;exact⟨v,q1,p.self at'.hr q2⟩
theorem rD(hp:PE X a (tC v))(hr:∀ι n H,RW X.K ι n H w v):PE X a (tE (zx X E) fun _ h=>.ok w h):=
 PE.imp hp fun σ H Q ⟨ρ,h,ι,at',p⟩=>p.self at'.hr (hr _ _ _)
abbrev tA(K:Zk)(k:Nat)(d:Tw.Env->Tw.Hp->Tw.R (List Tw.W)):TA:=tG K (RA k) d
theorem MK:PA X [] (tA (zx X E) 0 fun _ h=>.ok [] h):=PA.imp cZ fun σ H Q ⟨ρ,h,ι,at',p⟩=>p.self at'.hr ⟨.nil,rfl⟩
theorem Kr{ds:Tw.Env->Tw.Hp->Tw.R (List Tw.W)}(ha:PE X a (tE (zx X E) da))(hs:PA X es (tA (zx X E) n ds))(hst:starEach (a::es) X.env=(false,eval a X.env)::starEach es X.env):
  PA X (a::es) (tA (zx X E) (n+1) fun ρ h=>(da ρ h).bind fun x h=>(ds ρ h).bind fun xs h=>.ok (x::xs) h):=by
 refine PA.imp (bD ha hs hst) fun σ H Q ⟨ρ,h,ι,at',p⟩=>?_;refine⟨ρ,h,ι,at',(step at' p).mono fun x H1 ⟨w,h1,ι1,at1,e1,r1,p1⟩=>⟨ρ,h1,ι1,at1,(step at1 p1).mono fun xs H2 ⟨ws,h2,ι2,at2,e2,r2,p2⟩=>?_⟩⟩;exact p2.self at2.hr ⟨.cons (r1.keep (e2.keeps at1.hr)) r2.1,by rw[fZ,r2.2]⟩
theorem oq:sizeLine=Tw.SZ:=by rw[gu];rfl
theorem LF{ds:Tw.Env->Tw.Hp->Tw.R (List Tw.W)}(hs:PA X es (tA (zx X E) n ds))(hl:n<=sizeLine):
  PE X (.Tuple es k pos) (tE (zx X E) fun ρ h=>(ds ρ h).bind fun xs h=>.ok (.tup xs) h):=by
 refine PE.imp (BI hs) fun σ H Q ⟨ρ,h,ι,at',p⟩=>?_;refine⟨ρ,h,ι,at',(step at' p).mono fun xs H1 ⟨ws,h1,ι1,at1,e1,r1,p1⟩=>⟨by rw[<-r1.1.length,r1.2];exact hl,p1.tup at1.hr r1.1⟩⟩
theorem L7{ds:Tw.Env->Tw.Hp->Tw.R (List Tw.W)}(hs:PA X es (tA (zx X E) n ds))(hl:n<=sizeLine):
  PE X (.List es pos) (tE (zx X E) fun ρ h=>(ds ρ h).bind fun xs h=>Tw.new (.lst xs) h):=by
 refine PE.imp (JS hs) fun σ H Q ⟨ρ,h,ι,at',p⟩=>?_;refine⟨ρ,h,ι,at',(step at' p).mono fun xs H1 ⟨ws,h1,ι1,at1,e1,r1,p1⟩=>⟨by rw[<-r1.1.length,r1.2];exact hl,p1.lst at1.hr r1.1⟩⟩
theorem two{op:Tw.W->Tw.W->Tw.Hp->Tw.R Tw.W}
  (hr:∀(ι:Nat->Addr)(h:Tw.Hp)(H:L2.Hp)(w u:Tw.W)(x y:V)(Q:VK),HR (zx X E) ι h H->RW X.K ι h.length H w x->RW X.K ι h.length H u y->ak (zx X E) RE ι h H (op w u h) Q->r x y H Q):
  ∀σ H Q,tE (zx X E) (fun ρ h=>(da ρ h).bind fun x h=>(db ρ h).bind fun y h=>op x y h) σ H Q->xN r (tE (zx X E) da) (tE (zx X E) db) σ H Q:=fun σ H Q ⟨ρ,h,ι,at',p⟩=>
 ⟨ρ,h,ι,at',(step at' p).mono fun x H1 ⟨w,h1,ι1,at1,e1,r1,p1⟩=>⟨ρ,h1,ι1,at1,(step at1 p1).mono fun y H2 ⟨u,h2,ι2,at2,e2,r2,p2⟩=>
  hr ι2 h2 H2 w u x y Q at2.hr (r1.keep (e2.keeps at1.hr)) r2 p2⟩⟩
noncomputable def AA(K:W.Frag):R2:=fun x y H Q=>∃a b ys,x=.ref a/\y=.ref b/\cY K H a []/\cY K H b ys/\Q (.ref b) H
theorem Dy{prog:Program}{w:World}{A:Around}{E:aO}{s:Shared}{t b:Addr}{ws:List Value}{Q:aO}(ht:IsTup s.heap t ([]:List Value).toArray)(hb:IsTup s.heap b ws.toArray)
  (h0:Q (.ref b) s):wpAny (model prog w) A (binaryOp .Add (.ref t) (.ref b)) Q E s:=by
 obtain⟨⟨cls,dd,data,sl⟩,ho,hc,n,hd⟩:=id ht;obtain⟨⟨cls2,dd2,data2,sl2⟩,ho2,hc2,n2,hd2⟩:=id hb;simp only at hc hd hc2 hd2;subst hc hd hc2 hd2;exact concat_meets ⟨_,ho,rfl⟩ ⟨_,ho2,rfl⟩ yL seq_tuple_add Au DF (CA _ _)
  (tuple_addW0 t b ([]:List Value).toArray ws.toArray n n2 dd dd2 sl sl2 (by simp)) ⟨ho,ho2,h0⟩
theorem D7:cX X (binaryOp .Add) (AA X.K):=by intro pins s σ H x y v u Q I rx ry h;obtain⟨a,b,ys,rfl,rfl,ha,hb,q⟩:=h;cases rx;cases ry;obtain⟨its,r1,p1,_⟩:=I.tuple ha;obtain⟨its2,r2,p2,_⟩:=I.tuple hb;cases r1;exact Dy p1 p2 ⟨.ref b,H,I,rfl,q⟩
def E3(K:W.Frag):R2:=fun x y H Q=>pv (fun i j=>.int (i+j)) x y H Q\/JP x y H Q\/Ew K x y H Q\/AA K x y H Q
theorem GC:cX X (binaryOp .Add) (E3 X.K):=JR.or (Jt.or (Gx.or D7))
theorem I8(ι:Nat->Addr)(h:Tw.Hp)(H:L2.Hp)(w u:Tw.W)(x y:V)(Q:VK)(r:HR (zx X E) ι h H)(rx:RW X.K ι h.length H w x)(ry:RW X.K ι h.length H u y)(p:ak (zx X E) RE ι h H (Tw.bin .add w u h) Q):E3 X.K x y H Q:=by
 cases rx with
 |int i=>
  cases ry with
  |int j=>exact .inl ⟨i,j,rfl,rfl,p.self r (.int _)⟩
  |_=>exact p.elim
 | @tup aa xs ws ea ra=>
  cases ry with
  | @tup ab ys us eb rb=>
   have p:ak (zx X E) RE ι h H (if Tw.Op.add=Tw.Op.add/\ws.length+us.length<=Tw.SZ then .ok (.tup (ws++us)) h else .bad) Q:=p;by_cases c:ws.length+us.length<=Tw.SZ
   .rw[if_pos ⟨rfl,c⟩] at p;by_cases z0:ws=[]
    .subst z0;cases ra;exact .inr (.inr (.inr ⟨aa,ab,ys,rfl,rfl,ea.sq,eb.sq,p.self r (.tup eb rb)⟩))
    refine .inr (.inr (.inl ⟨aa,ab,xs,ys,rfl,rfl,ea.sq,eb.sq,?_,?_,?_⟩))
    .intro z;subst z;cases ra;exact z0 rfl
    .rw[<-ra.length,<-rb.length,oq];exact c
    .refine⟨fun z=>?_,fun _=>p.tup r (ra.append rb)⟩;subst z;cases rb;rw[eX] at p;exact p.self r (.tup ea ra)
   .rw[if_neg (fun z=>c z.2)] at p;exact p.elim
  |_=>exact p.elim
 | @ref i hi=>
  cases ry with
  | @ref j hj=>
   have p:ak (zx X E) RE ι h H (match h[i]?,h[j]? with
    |some (.lst xs),some (.lst ys)=>if Tw.Op.add=Tw.Op.add/\xs.length+ys.length<=Tw.SZ then Tw.new (.lst (xs++ys)) h else .bad
    |_,_=>.bad) Q:=p
   cases ei:h[i]? with
   |none=>rw[ei] at p;exact p.elim
   |some oi=>
    cases ej:h[j]? with
    |none=>rw[ei,ej] at p;cases oi<;>exact p.elim
    |some oj=>
     rw[ei,ej] at p;cases oi with
     |lst ws=>
      cases oj with
      |lst us=>
       dsimp only at p;by_cases c:ws.length+us.length<=Tw.SZ
       .rw[if_pos ⟨rfl,c⟩] at p;obtain⟨xs,q1,q2⟩:=r.lst ei;obtain⟨ys,q3,q4⟩:=r.lst ej;refine .inr (.inl ⟨_,_,xs,ys,rfl,rfl,q1,q3,?_,?_⟩)
        .rw[<-q2.length,<-q4.length,oq];exact c
        .exact p.lst r (q2.append q4)
       .rw[if_neg (fun z=>c z.2)] at p;exact p.elim
      |_=>exact p.elim
     |_=>cases oj<;>exact p.elim
  |_=>exact p.elim
 |_=>cases ry<;>exact p.elim
theorem Mn(ha:PE X a (tE (zx X E) da))(hb:PE X b (tE (zx X E) db)):PE X (.BinOp a .Add b pos) (tE (zx X E) fun ρ h=>(da ρ h).bind fun x h=>(db ρ h).bind fun y h=>Tw.bin .add x y h):=
 PE.imp (oH GC ha hb) (two I8)
theorem kT{op:Tw.Op}{r:R2}(hop:op≠.add)(hi:∀(i j k:Int)(H:L2.Hp)(Q:VK),Tw.binI op i j=some k->Q (.int k) H->r (.int i) (.int j) H Q)
  (ι:Nat->Addr) (h:Tw.Hp) (H:L2.Hp) (w u:Tw.W) (x y:V) (Q:VK) (hr:HR (zx X E) ι h H) (rx:RW X.K ι h.length H w x) (ry:RW X.K ι h.length H u y) (p:ak (zx X E) RE ι h H (Tw.bin op w u h) Q):r x y H Q:=by
 cases rx with
 |int i=>
  cases ry with
  |int j=>
   have p:ak (zx X E) RE ι h H (Tw.R.of ((Tw.binI op i j).map .int) h) Q:=p;cases e:Tw.binI op i j with
   |none=>rw[e] at p;exact p.elim
   |some k=>rw[e] at p;exact hi i j k H Q e (ak.self (a:=Tw.W.int k) p hr (.int _))
  |_=>exact p.elim
 | @tup aa xs ws ea ra=>
  cases ry with
  | @tup ab ys us eb rb=>
   have p:ak (zx X E) RE ι h H (if op=Tw.Op.add/\ws.length+us.length<=Tw.SZ then .ok (.tup (ws++us)) h else .bad) Q:=p;rw[if_neg (fun z=>hop z.1)] at p;exact p.elim
  |_=>exact p.elim
 | @ref i hi=>
  cases ry with
  | @ref j hj=>
   have p:ak (zx X E) RE ι h H (match h[i]?,h[j]? with
    |some (.lst xs),some (.lst ys)=>if op=Tw.Op.add/\xs.length+ys.length<=Tw.SZ then Tw.new (.lst (xs++ys)) h else .bad
    |_,_=>.bad) Q:=p
   exfalso;split at p
   .rw[if_neg (fun z=>hop z.1)] at p;exact p
   .exact p
  |_=>exact p.elim
 |_=>cases ry<;>exact p.elim
theorem MZ(ha:PE X a (tE (zx X E) da))(hb:PE X b (tE (zx X E) db)):PE X (.BinOp a .Sub b pos) (tE (zx X E) fun ρ h=>(da ρ h).bind fun x h=>(db ρ h).bind fun y h=>Tw.bin .sub x y h):=
 PE.imp (oH Ia ha hb) (two (kT (by decide) fun i j k H Q e q=>by cases e;exact⟨i,j,rfl,rfl,q⟩))
theorem LC(ha:PE X a (tE (zx X E) da))(hb:PE X b (tE (zx X E) db)):PE X (.BinOp a .Mult b pos) (tE (zx X E) fun ρ h=>(da ρ h).bind fun x h=>(db ρ h).bind fun y h=>Tw.bin .mul x y h):=
 PE.imp (oH J7 ha hb) (two (kT (by decide) fun i j k H Q e q=>by
  have e:(if (Tw.small i || Tw.small j)=true then some (i * j) else none)=some k:=e;by_cases c:(Tw.small i || Tw.small j)=true
  .rw[if_pos c] at e;cases e;refine⟨i,j,rfl,rfl,?_,q⟩;simp only[Tw.small,wz,ao,ax] at c;exact c
  .rw[if_neg c] at e;cases e))
theorem HI(ha:PE X a (tE (zx X E) da))(hb:PE X b (tE (zx X E) db)):PE X (.BinOp a .FloorDiv b pos) (tE (zx X E) fun ρ h=>(da ρ h).bind fun x h=>(db ρ h).bind fun y h=>Tw.bin .fdiv x y h):=
 PE.imp (oH FP ha hb) (two (kT (by decide) fun i j k H Q e q=>by
  have e:(if 0<j/\j<1073741824 then some (i / j) else none)=some k:=e;by_cases c:0<j/\j<1073741824
  .rw[if_pos c] at e;cases e;exact⟨i,j,rfl,rfl,c,q⟩
  .rw[if_neg c] at e;cases e))
theorem Lz(ha:PE X a (tE (zx X E) da))(hb:PE X b (tE (zx X E) db)):PE X (.BinOp a .Mod b pos) (tE (zx X E) fun ρ h=>(da ρ h).bind fun x h=>(db ρ h).bind fun y h=>Tw.bin .mod x y h):=
 PE.imp (oH Hf ha hb) (two (kT (by decide) fun i j k H Q e q=>by
  have e:(if 0<j then some (i % j) else none)=some k:=e;by_cases c:0<j
  .rw[if_pos c] at e;cases e;exact⟨i,j,rfl,rfl,c,q⟩
  .rw[if_neg c] at e;cases e))
theorem L6(ha:PE X a (tE (zx X E) da))(hb:PE X b (tE (zx X E) db)):PE X (.BinOp a .Pow b pos) (tE (zx X E) fun ρ h=>(da ρ h).bind fun x h=>(db ρ h).bind fun y h=>Tw.bin .pow x y h):=
 PE.imp (oH HC ha hb) (two (kT (by decide) fun i j k H Q e q=>by
  have e:(if 0<=j/\j<=1000000/\i.natAbs<2 ^ 64 then some (i ^ j.toNat) else none)=some k:=e;by_cases c:0<=j/\j<=1000000/\i.natAbs<2 ^ 64
  .rw[if_pos c] at e;cases e;exact⟨i,j,rfl,rfl,c,q⟩
  .rw[if_neg c] at e;cases e))
end
mutual
noncomputable def toD:Tw.W->PyData
 |.ah=>.none
 |.bl b=>.bool b
 |.int i=>.int i
 |.str x=>.str ⟨x.toArray⟩
 |.tup xs=>.tuple (fF xs)
 |.lst xs=>.list (fF xs)
 |.ref _=>.none
noncomputable def fF:List Tw.W->List PyData
 |[]=>[]
 |x::xs=>toD x::fF xs
end
mutual
noncomputable def nr:Tw.W->Bool
 |.tup xs=>qA xs
 |.lst xs=>qA xs
 |.ref _=>false
 |_=>true
noncomputable def qA:List Tw.W->Bool
 |[]=>true
 |x::xs=>nr x&&qA xs
end
theorem De(a b:Tw.S):((⟨a.toArray⟩:Str)== ⟨b.toArray⟩)=decide (a=b):=by
 rw[B7];by_cases e:a=b
 .subst e;simp
 .rw[aY e];refine aY fun z=>e ?_;injection z with z;simpa using cR Array.toList z
mutual
theorem oP:∀(a b:Tw.W),nr a=true->nr b=true->Tw.bq a b=PyData.eqv (toD a) (toD b)
 |.ah,b,ha,hb=>by cases b<;>simp_all [nr,toD,PyData.eqv,Tw.bq.eq_def]
 |.bl x,b,ha,hb=>by cases b<;>simp_all [nr,toD,PyData.eqv,Tw.bq.eq_def,B7]
 |.int x,b,ha,hb=>by cases b<;>simp_all [nr,toD,PyData.eqv,Tw.bq.eq_def,B7]
 |.str x,b,ha,hb=>by
  cases b with
  |str y=>rw[Tw.wY,toD,toD,PyData.eqv,De]
  |_=>simp_all [nr,toD,PyData.eqv,Tw.bq.eq_def]
 |.ref x,b,ha,hb=>by simp[nr] at ha
 |.tup xs,b,ha,hb=>by
  cases b with
  |tup ys=>rw[Tw.w9,toD,toD,PyData.eqv];exact pV xs ys (by simpa [nr] using ha) (by simpa [nr] using hb)
  |_=>simp_all [nr,toD,PyData.eqv,Tw.bq.eq_def]
 |.lst xs,b,ha,hb=>by
  cases b with
  |lst ys=>rw[Tw.w8,toD,toD,PyData.eqv];exact pV xs ys (by simpa [nr] using ha) (by simpa [nr] using hb)
  |_=>simp_all [nr,toD,PyData.eqv,Tw.bq.eq_def]
theorem pV:∀(a b:List Tw.W),qA a=true->qA b=true->Tw.nZ a b=PyData.eqvAll (fF a) (fF b)
 |[],[],_,_=>by simp[fF,PyData.eqvAll]
 |[],_::_,_,_=>by simp[fF,PyData.eqvAll]
 |_::_,[],_,_=>by simp[fF,PyData.eqvAll]
 |x::xs,y::ys,ha,hb=>by
  simp only[qA,ao] at ha hb;simp only[Tw.nZ,fF,PyData.eqvAll,oP x y ha.1 hb.1,pV xs ys ha.2 hb.2]
end
theorem Dh(h:NF x):PySem.PyData.canLay0 (.str ⟨x.toArray⟩)=true:=by rw[PyData.canLay0];simp only[PyData.strOk];simp;exact h
section
variable {X:Cx}{E:XK}{pins:aE}{σ:L2.St}{s:Shared}{ι:Nat->Addr}{h:Tw.Hp}{H:L2.Hp}
structure Dat(s:Shared)(k:Nat)(d:Tw.W)(u:Value):Prop where
 ex:∃as,Reads s.heap u (toD d) as
 lay:(toD d).canLay0=true
 deep:(toD d).depth<=k
 nr:nr d=true
theorem vq(P:∀(w d:Tw.W)(v:V)(u:Value),Tw.rd h k w=some d->RW X.K ι h.length H w v->RelV v u->Dat s k d u):
  ∀(ws ds:List Tw.W)(vs:List V)(us:List Value),Tw.gq h k ws=some ds->aL X.K ι h.length H ws vs->Vals vs us->
   (∃as,ReadsAll s.heap us (fF ds) as)/\PyData.canLayAll0 (fF ds)=true/\PyData.depthAll (fF ds)<=k/\qA ds=true
 |[],ds,_,_,e,.nil,.nil=>by
  simp at e;subst e;exact⟨⟨[],.nil⟩,by simp[fF,PyData.canLayAll0],by simp[fF,PyData.depthAll],by simp[qA]⟩
 |w::ws,ds,_,_,e,.cons rw' rws,.cons rv rvs=>by
  rw[Tw.u6] at e;cases e1:Tw.rd h k w with
  |none=>rw[e1] at e;cases e
  |some d=>
   cases e2:Tw.gq h k ws with
   |none=>rw[e1,e2] at e;cases e
   |some ds'=>
    rw[e1,e2] at e;cases e;obtain⟨⟨as,h1⟩,h2,h3,h4⟩:=P w d _ _ e1 rw' rv;obtain⟨⟨bs,g1⟩,g2,g3,g4⟩:=vq P ws ds' _ _ e2 rws rvs;exact⟨⟨as++bs,by rw[fF];exact .cons h1 g1⟩,by simp[fF,PyData.canLayAll0,h2,g2],by simp only[fF,PyData.depthAll];lia,by simp[qA,h4,g4]⟩
theorem kv(I:Inv X pins σ H s)(r:HR (zx X E) ι h H):∀(k:Nat)(w d:Tw.W)(v:V)(u:Value),Tw.rd h k w=some d->RW X.K ι h.length H w v->RelV v u->Dat s k d u:=by
 have flat:∀(k:Nat)(w d:Tw.W)(v:V)(u:Value),Tw.rd h k w=some d->RW X.K ι h.length H w v->RelV v u->(∀ws,w≠.tup ws)->(∀a,w≠.ref a)->Dat s k d u:=by
  intro k w d v u e rw' rv n1 n2;cases rw' with
  |ah=>simp at e;subst e;cases rv;exact⟨⟨[],.none⟩,by simp[toD,PyData.canLay0],by simp[toD,PyData.depth],by simp[nr]⟩
  |bl b=>simp at e;subst e;cases rv;exact⟨⟨[],.bool b⟩,by simp[toD,PyData.canLay0],by simp[toD,PyData.depth],by simp[nr]⟩
  |int i=>simp at e;subst e;obtain⟨t,rfl⟩:=rv;exact⟨⟨[],.int i t⟩,by simp[toD,PyData.canLay0],by simp[toD,PyData.depth],by simp[nr]⟩
  |str x hx=>simp at e;subst e;obtain⟨t,rfl⟩:=rv;exact⟨⟨[],by rw[toD];exact .str _ t⟩,by rw[toD];exact Dh hx,by simp[toD,PyData.depth],by simp[nr]⟩
  |tup _ _=>exact absurd rfl (n1 _)
  |ref _=>exact absurd rfl (n2 _)
 intro k
 induction k with
 |zero=>
  intro w d v u e rw' rv;cases w with
  |tup ws=>cases (show (none:Option Tw.W)=some d from e)
  |ref a=>cases (show (none:Option Tw.W)=some d from e)
  |_=>exact flat _ _ _ _ _ e rw' rv (fun _ z=>nomatch z) (fun _ z=>nomatch z)
 |succ k ih=>
  intro w d v u e rw' rv;cases w with
  |tup ws=>
   rw[Tw.GW] at e;cases e2:Tw.gq h k ws with
   |none=>rw[e2] at e;cases e
   |some ds=>
    rw[e2] at e;cases e;cases rw' with
    | @tup a xs _ ea ra=>
     cases rv;obtain⟨its,r1,it,_⟩:=I.tuple (TupAt.sq ea);obtain⟨⟨as,g1⟩,g2,g3,g4⟩:=vq ih ws ds _ _ e2 ra r1;obtain⟨o,h1,h2,n,h3⟩:=it;exact⟨⟨as,by rw[toD];exact .tuple h1 h2 h3 (by simpa using g1)⟩,by rw[toD,PyData.canLay0];exact g2,by rw[toD,PyData.depth];lia,by rw[nr];exact g4⟩
  |ref i=>
   cases rw' with
   |ref hi=>
    cases rv;have e:(match h[i]? with
     |some (.lst xs)=>(Tw.gq h k xs).map Tw.W.lst
     |some (.aM xs)=>(Tw.gq h k xs).map Tw.W.lst
     |_=>none)=some d:=by rw[Tw.Bh] at e;exact e
    have fin:∀(ws:List Tw.W)(xs:List V),(Tw.gq h k ws).map Tw.W.lst=some d->bW X.K H (ι i) xs->aL X.K ι h.length H ws xs->Dat s (k+1) d (.ref (ι i)):=by
     intro ws xs e sq rws;cases e2:Tw.gq h k ws with
     |none=>rw[e2] at e;cases e
     |some ds=>
      rw[e2] at e;cases e;obtain⟨its,r1,⟨o,n,h1,h2,_,h3⟩,_⟩:=I.list sq;obtain⟨⟨as,g1⟩,g2,g3,g4⟩:=vq ih ws ds _ _ e2 rws r1;exact⟨⟨_,by rw[toD];exact .list h1 h2 h3 (by simpa using g1)⟩,by rw[toD,PyData.canLay0];exact g2,by rw[toD,PyData.depth];lia,by rw[nr];exact g4⟩
    cases ei:h[i]? with
    |none=>rw[ei] at e;cases e
    |some o=>
     rw[ei] at e;cases o with
     |lst ws=>obtain⟨xs,q1,q2⟩:=r.obj i _ ei;exact fin ws xs e (bW.of q1) q2
     |aM ws=>obtain⟨xs,q1,q2⟩:=r.obj i _ ei;exact fin ws xs e q1.sq q2
     |fc _=>cases e
     |ins _ _=>cases e
     |_=>cases e
  |lst _=>rw[Tw.G7] at e;cases e
  |_=>exact flat _ _ _ _ _ e rw' rv (fun _ z=>nomatch z) (fun _ z=>nomatch z)
end
section
variable {K:W.Frag}{ι:Nat->Addr}{n:Nat}{H:L2.Hp}
end
section
variable {X:Cx}{E:XK}{pins:aE}{σ:L2.St}{s:Shared}{ι:Nat->Addr}{h:Tw.Hp}{H:L2.Hp}{A:Around}
end
def zq(K:Zk)(neg:Bool):R2:=fun x y H Q=>∃(ι:Nat->Addr) (h:Tw.Hp) (w u:Tw.W) (b:Bool),HR K ι h H/\RW K.K ι h.length H w x/\RW K.K ι h.length H u y/\Tw.dA h w u=some b/\Q (.bl (if neg then !b else b)) H
section
variable {X:Cx}{E:XK}
theorem HD(hu:X.A.units+950<cLine):cX X (compareOp .Eq) (zq (zx X E) false):=by
 intro pins s σ H x y v u Q I rx ry ⟨ι,h,w,z,b,r,rw',rz,e,q⟩;unfold Tw.dA at e;cases e1:Tw.cJ h w with
 |none=>
  cases e2:Tw.cJ h z with
  |some _=>rw[e1,e2] at e;cases e
  |none=>
   rw[e1,e2] at e;cases e3:Tw.rd h 900 w with
   |none=>rw[e3] at e;cases e
   |some a=>
    cases e4:Tw.rd h 900 z with
    |none=>rw[e3,e4] at e;cases e
    |some c=>
     rw[e3,e4] at e;cases e;obtain⟨⟨as,h1⟩,h2,h3,h4⟩:=kv I r 900 w a x v e3 rw' rx;obtain⟨⟨bs,g1⟩,g2,g3,g4⟩:=kv I r 900 z c y u e4 rz ry;refine SeqAt.compareEq_reads h1 g1 h2 g2 (by have:=Nat.min_le_left (toD a).depth (toD c).depth;lia) ?_;rw[<-oP a c h4 g4];exact⟨.bl _,H,I,rfl,q⟩
 |some xs=>
  cases e2:Tw.cJ h z with
  |none=>rw[e1,e2] at e;cases e
  |some ys=>rw[e1,e2] at e;cases e
theorem Jm(hu:X.A.units+950<cLine):cX X (compareOp .NotEq) (zq (zx X E) true):=by
 intro pins s σ H x y v u Q I rx ry ⟨ι,h,w,z,b,r,rw',rz,e,q⟩;unfold Tw.dA at e;cases e1:Tw.cJ h w with
 |none=>
  cases e2:Tw.cJ h z with
  |some _=>rw[e1,e2] at e;cases e
  |none=>
   rw[e1,e2] at e;cases e3:Tw.rd h 900 w with
   |none=>rw[e3] at e;cases e
   |some a=>
    cases e4:Tw.rd h 900 z with
    |none=>rw[e3,e4] at e;cases e
    |some c=>
     rw[e3,e4] at e;cases e;obtain⟨⟨as,h1⟩,h2,h3,h4⟩:=kv I r 900 w a x v e3 rw' rx;obtain⟨⟨bs,g1⟩,g2,g3,g4⟩:=kv I r 900 z c y u e4 rz ry;refine SeqAt.compareNe_reads h1 g1 h2 g2 (by have:=Nat.min_le_left (toD a).depth (toD c).depth;lia) ?_;rw[<-oP a c h4 g4];exact⟨.bl _,H,I,rfl,q⟩
 |some xs=>
  cases e2:Tw.cJ h z with
  |none=>rw[e1,e2] at e;cases e
  |some ys=>rw[e1,e2] at e;cases e
end
noncomputable def dT(d:Tw.Env->Tw.Hp->Tw.R Tw.W):Tw.Env->Tw.Hp->Tw.R Bool:=fun ρ h=>(d ρ h).bind fun w h=>Tw.R.of (Tw.truth h w) h
abbrev tT(K:Zk)(d:Tw.Env->Tw.Hp->Tw.R Tw.W):TT:=tG K RB (dT d)
theorem bind_assoc{α β γ:Type}(m:Tw.R α)(k:α->Tw.Hp->Tw.R β)(l:β->Tw.Hp->Tw.R γ):(m.bind k).bind l=m.bind fun a h=>(k a h).bind l:=by cases m<;>rfl
section
variable {X:Cx}{E:XK}{a b c:Expr}{pos:Pos}{da db dc:Tw.Env->Tw.Hp->Tw.R Tw.W}
theorem Jw(ho:cX X (compareOp o) r)
  (hr:∀(ι:Nat->Addr)(h:Tw.Hp)(H:L2.Hp)(w u:Tw.W)(x y:V)(k:Bool)(Q:VK),HR (zx X E) ι h H->RW X.K ι h.length H w x->RW X.K ι h.length H u y->Tw.cmp op w u h=some k->Q (.bl k) H->r x y H Q)
  (ha:PE X a (tE (zx X E) da)) (hb:PE X b (tE (zx X E) db)) (hm:behindInMarks o b=false):
  PE X (.Compare a [o] [b] pos) (tE (zx X E) fun ρ h=>(da ρ h).bind fun x h=>(db ρ h).bind fun y h=>Tw.R.of ((Tw.cmp op x y h).map .bl) h)/\
  PT X (.Compare a [o] [b] pos) (tT (zx X E) fun ρ h=>(da ρ h).bind fun x h=>(db ρ h).bind fun y h=>Tw.R.of ((Tw.cmp op x y h).map .bl) h):=by
 constructor
 .refine PE.imp (yF ho ha hb hm) (two fun ι h H w u x y Q hR rx ry p=>?_);cases e:Tw.cmp op w u h with
  |none=>rw[e] at p;exact p.elim
  |some k=>rw[e] at p;exact hr ι h H w u x y k Q hR rx ry e (ak.self (a:=Tw.W.bl k) p hR (.bl k))
 .refine PT.imp (yd ho ha hb hm) fun σ H Q Z=>Z.k3 fun ρ h ι at' p=>?_;simp only[dT,bind_assoc] at p;refine⟨ρ,h,ι,at',(step at' p).mono fun x H1 Z=>Z.k4 fun w h1 ι1 at1 e1 r1 p1=>⟨ρ,h1,ι1,at1,(step at1 p1).mono fun y H2 Z=>Z.k4 fun u h2 ι2 at2 e2 r2 p2=>?_⟩⟩;cases e:Tw.cmp op w u h2 with
  |none=>rw[e] at p2;exact p2.elim
  |some k=>rw[e] at p2;exact hr ι2 h2 H2 w u x y k _ at2.hr (r1.keep (e2.keeps at1.hr)) r2 e ⟨k,rfl,ak.self (a:=k) p2 at2.hr rfl⟩
theorem PR(ι:Nat->Addr)(h:Tw.Hp)(H:L2.Hp)(w u:Tw.W)(x y:V)(k:Bool)(Q:VK)(r:HR (zx X E) ι h H)(rx:RW X.K ι h.length H w x)(ry:RW X.K ι h.length H u y)(e:Tw.cmp .eq w u h=some k)(q:Q (.bl k) H):zq (zx X E) false x y H Q:=
 ⟨ι,h,w,u,k,r,rx,ry,e,q⟩
theorem Qn(ι:Nat->Addr)(h:Tw.Hp)(H:L2.Hp)(w u:Tw.W)(x y:V)(k:Bool)(Q:VK)(r:HR (zx X E) ι h H)(rx:RW X.K ι h.length H w x)(ry:RW X.K ι h.length H u y)(e:Tw.cmp .ne w u h=some k)(q:Q (.bl k) H):zq (zx X E) true x y H Q:=by
 have e:(Tw.dA h w u).map (!·)=some k:=e;cases e2:Tw.dA h w u with
 |none=>rw[e2] at e;cases e
 |some b=>rw[e2] at e;cases e;exact⟨ι,h,w,u,b,r,rx,ry,e2,q⟩
theorem uj{f:Int->Int->Bool}(hf:∀w u h,Tw.cmp op w u h=match w,u with | .int i,.int j=>some (f i j)|_,_=>none)
  (ι:Nat->Addr) (h:Tw.Hp) (H:L2.Hp) (w u:Tw.W) (x y:V) (k:Bool) (Q:VK) (r:HR (zx X E) ι h H) (rx:RW X.K ι h.length H w x) (ry:RW X.K ι h.length H u y) (e:Tw.cmp op w u h=some k) (q:Q (.bl k) H):pv (fun i j=>.bl (f i j)) x y H Q:=by
 rw[hf] at e;cases rx with
 |int i=>
  cases ry with
  |int j=>cases e;exact⟨i,j,rfl,rfl,q⟩
  |_=>cases e
 |_=>cases ry<;>cases e
theorem HA(ι:Nat->Addr)(h:Tw.Hp)(H:L2.Hp)(w u:Tw.W)(x y:V)(k:Bool)(Q:VK)(r:HR (zx X E) ι h H)(rx:RW X.K ι h.length H w x)(ry:RW X.K ι h.length H u y)(e:Tw.cmp .notN w u h=some k)(q:Q (.bl k) H):
  y=.ah/\Q (.bl (!decide (x=.ah))) H:=by
 cases ry with
 |ah=>cases rx<;>(cases e;exact⟨rfl,q⟩)
 |_=>cases e
def sA(K:Zk)(neg:Bool):R2:=fun x y H Q=>∃ι h w ws p xs a ds,HR K ι h H/\RW K.K ι h.length H w x/\y=.ref p/\(bW K.K H p xs\/cY K.K H p xs)/\aL K.K ι h.length H ws xs/\Tw.rd h 60 w=some a/\Tw.gq h 60 ws=some ds/\
 Q (.bl (if neg then !(ds.any fun z=>Tw.bq z a) else ds.any fun z=>Tw.bq z a)) H
open Classical in
noncomputable def jd(s:Shared)(a:PyData)(y:Value):Bool:=decide (∃d as,Reads s.heap y d as/\PyData.eqv d a=true)
open Classical in
theorem Ci{a:PyData}(r:Reads s.heap y d as):jd s a y=PyData.eqv d a:=by
 unfold jd;cases e:PyData.eqv d a with
 |true=>exact bU ⟨d,as,r,e⟩
 |false=>exact aY fun⟨d',as',r',e'⟩=>(by obtain⟨rfl,_⟩:=PySem.Reads.unique r _ _ r';rw[e] at e';cases e')
theorem nz{a:Tw.W}{A:Around}(I:Inv X pins σ H s)(r:HR (zx X E) ι h H)(h1:Reads s.heap v (toD a) as)(h2:(toD a).canLay0=true)(h4:nr a=true)(hu:A.units+90<cLine):∀(ws ds:List Tw.W)(xs:List V)(us:List Value),Tw.gq h 60 ws=some ds->aL X.K ι h.length H ws xs->Vals xs us->
  (∀y∈us,SeqAt.EqAt A s y v (jd s (toD a) y))/\us.any (jd s (toD a))=ds.any fun z=>Tw.bq z a
 |[],ds,_,_,e,.nil,.nil=>by rw[Tw.Gf] at e;cases e;exact⟨fun y hy=>(nomatch hy),rfl⟩
 |w::ws,ds,_,_,e,.cons rw' rws,.cons rv rvs=>by
  rw[Tw.u6] at e;cases e1:Tw.rd h 60 w with
  |none=>rw[e1] at e;cases e
  |some d=>
   cases e2:Tw.gq h 60 ws with
   |none=>rw[e1,e2] at e;cases e
   |some ds'=>
    rw[e1,e2] at e;cases e;obtain⟨⟨bs,g1⟩,g2,g3,g4⟩:=kv I r 60 w d _ _ e1 rw' rv;obtain⟨z1,z2⟩:=nz I r h1 h2 h4 hu ws ds' _ _ e2 rws rvs;refine⟨fun y hy=>?_,?_⟩
    .rcases eZ.mp hy with rfl|hy
     .rw[Ci g1];exact SeqAt.eqAt_reads _ _ A s _ _ _ _ g1 h1 g2 h2 (by have:=Nat.min_le_left (toD d).depth (toD a).depth;lia)
     .exact z1 y hy
    .rw[List.any_cons,List.any_cons,z2,Ci g1,oP d a g4 h4]
theorem IQ(hu:X.A.units+100<cLine):cX X (compareOp .In) (sA (zx X E) false):=by
 .intro pins s σ H x y v u Q I rx ry ⟨ι,h,w,ws,p,xs,a,ds,r,rw',ey,sq,rws,e1,e2,q⟩;subst ey;cases ry;obtain⟨⟨as,h1⟩,h2,h3,h4⟩:=kv I r 60 w a x v e1 rw' rx;rcases sq with sq|sq
  .obtain⟨its,rv,pl,hz⟩:=I.list sq;obtain⟨z1,z2⟩:=nz (A:=X.A.in1) I r h1 h2 h4 (show X.A.units+1+90<cLine by lia) ws ds _ _ e2 rws rv;refine SeqAt.in_listAt (jd s (toD a)) pl.isList (fun w hw=>z1 w (by simpa using hw)) ⟨.bl _,H,I,rfl,?_⟩;rw[show its.toArray.any (jd s (toD a))=its.any (jd s (toD a)) by simp,z2];exact q
  .obtain⟨its,rv,pl,hz⟩:=I.tuple sq;obtain⟨z1,z2⟩:=nz (A:=X.A.in1) I r h1 h2 h4 (show X.A.units+1+90<cLine by lia) ws ds _ _ e2 rws rv;refine SeqAt.in_tupleAt (jd s (toD a)) pl (fun w hw=>z1 w (by simpa using hw)) ⟨.bl _,H,I,rfl,?_⟩;rw[show its.toArray.any (jd s (toD a))=its.any (jd s (toD a)) by simp,z2];exact q
theorem Bb(hu:X.A.units+100<cLine):cX X (compareOp .NotIn) (sA (zx X E) true):=by
 .intro pins s σ H x y v u Q I rx ry ⟨ι,h,w,ws,p,xs,a,ds,r,rw',ey,sq,rws,e1,e2,q⟩;subst ey;cases ry;obtain⟨⟨as,h1⟩,h2,h3,h4⟩:=kv I r 60 w a x v e1 rw' rx;rcases sq with sq|sq
  .obtain⟨its,rv,pl,hz⟩:=I.list sq;obtain⟨z1,z2⟩:=nz (A:=X.A.in1) I r h1 h2 h4 (show X.A.units+1+90<cLine by lia) ws ds _ _ e2 rws rv;refine SeqAt.notIn_listAt (jd s (toD a)) pl.isList (fun w hw=>z1 w (by simpa using hw)) ⟨.bl _,H,I,rfl,?_⟩;rw[show its.toArray.any (jd s (toD a))=its.any (jd s (toD a)) by simp,z2];exact q
  .obtain⟨its,rv,pl,hz⟩:=I.tuple sq;obtain⟨z1,z2⟩:=nz (A:=X.A.in1) I r h1 h2 h4 (show X.A.units+1+90<cLine by lia) ws ds _ _ e2 rws rv;refine SeqAt.notIn_tupleAt (jd s (toD a)) pl (fun w hw=>z1 w (by simpa using hw)) ⟨.bl _,H,I,rfl,?_⟩;rw[show its.toArray.any (jd s (toD a))=its.any (jd s (toD a)) by simp,z2];exact q
theorem in_of(neg:Bool)(ι:Nat->Addr)(h:Tw.Hp)(H:L2.Hp)(w u:Tw.W)(x y:V)(k:Bool)(Q:VK)(r:HR (zx X E) ι h H)(rx:RW X.K ι h.length H w x)(ry:RW X.K ι h.length H u y)(e:Tw.isIn w u h=some k)
  (q:Q (.bl (if neg then !k else k)) H):sA (zx X E) neg x y H Q:=by
 unfold Tw.isIn at e;cases e2:Tw.Hi h u with
  |none=>rw[e2] at e;cases e
  |some ws=>
   rw[e2] at e;dsimp only at e;have fin:∀(p:Addr)(xs:List V),y=.ref p->(bW X.K H p xs\/cY X.K H p xs)->aL X.K ι h.length H ws xs->sA (zx X E) neg x y H Q:=by
    intro p xs ey sq rr;cases e3:Tw.rd h 60 w with
    |none=>rw[e3] at e;cases e
    |some a=>
     cases e4:Tw.gq h 60 ws with
     |none=>rw[e3,e4] at e;cases e
     |some ds=>
      rw[e3,e4] at e;cases e;exact⟨ι,h,w,ws,p,xs,a,ds,r,rx,ey,sq,rr,e3,e4,q⟩
   cases ry with
   | @tup a xs us ea ra=>
    have e2:some us=some ws:=e2;cases e2;exact fin a xs rfl (.inr (TupAt.sq ea)) ra
   | @ref i hi=>
    have e2:(match h[i]? with|some (.lst xs)=>some xs|some (.aM xs)=>some xs|_=>none)=some ws:=e2;cases ei:h[i]? with
    |none=>rw[ei] at e2;cases e2
    |some o=>
     rw[ei] at e2;cases o with
     |lst us=>cases e2;obtain⟨xs,q1,q2⟩:=r.obj i _ ei;exact fin _ xs rfl (.inl (bW.of q1)) q2
     |aM us=>cases e2;obtain⟨xs,q1,q2⟩:=r.obj i _ ei;exact fin _ xs rfl (.inl q1.sq) q2
     |_=>cases e2
   |_=>cases e2
theorem O9(ι:Nat->Addr)(h:Tw.Hp)(H:L2.Hp)(w u:Tw.W)(x y:V)(k:Bool)(Q:VK)(r:HR (zx X E) ι h H)(rx:RW X.K ι h.length H w x)(ry:RW X.K ι h.length H u y)(e:Tw.cmp .isin w u h=some k)(q:Q (.bl k) H):sA (zx X E) false x y H Q:=
 in_of false ι h H w u x y k Q r rx ry e q
theorem FN(ι:Nat->Addr)(h:Tw.Hp)(H:L2.Hp)(w u:Tw.W)(x y:V)(k:Bool)(Q:VK)(r:HR (zx X E) ι h H)(rx:RW X.K ι h.length H w x)(ry:RW X.K ι h.length H u y)(e:Tw.cmp .notin w u h=some k)(q:Q (.bl k) H):sA (zx X E) true x y H Q:=by
 have e:(Tw.isIn w u h).map (!·)=some k:=e;cases e2:Tw.isIn w u h with
 |none=>rw[e2] at e;cases e
 |some b=>rw[e2] at e;cases e;exact in_of true ι h H w u x y b Q r rx ry e2 q
theorem Bt(ι:Nat->Addr)(h:Tw.Hp)(H:L2.Hp)(w:Tw.W)(x:V)(k:Bool)(r:HR (zx X E) ι h H)(rx:RW X.K ι h.length H w x)(e:Tw.truth h w=some k):Dt X.K x H k:=by
 cases rx with
 |bl b=>cases e;rfl
 |_=>cases e
end
end TwS
namespace TwS
open PySem L2 PyProof.Rows
section
variable {X:Cx}{E:XK}{a b c:Expr}{pos:Pos}{da db dc:Tw.Env->Tw.Hp->Tw.R Tw.W}
theorem FD(ha:PE X a (tE (zx X E) da))(he:∀whole,isTrue a X.env whole=(do let v <-whole;standAt a.pos;holding [v] (truthy v))):PT X a (tT (zx X E) da):=by
 refine PT.imp (DS ha he) fun σ H Q Z=>Z.k3 fun ρ h ι at' p=>⟨ρ,h,ι,at',(step at' p).mono fun x H1 Z=>Z.k4 fun w h1 ι1 at1 e1 r1 p1=>?_⟩;cases e:Tw.truth h1 w with
 |none=>rw[e] at p1;exact p1.elim
 |some k=>rw[e] at p1;exact⟨k,Bt ι1 h1 H1 w x k at1.hr r1 e,ak.self (a:=k) p1 at1.hr rfl⟩
theorem Mf(ha:PE X a (tE (zx X E) da))(ht:PT X a (tT (zx X E) da)):
  PE X (.UnaryOp .Not a pos) (tE (zx X E) fun ρ h=>(da ρ h).bind fun x h=>Tw.R.of ((Tw.truth h x).map fun b=>.bl (!b)) h)/\
  PT X (.UnaryOp .Not a pos) (tT (zx X E) fun ρ h=>(da ρ h).bind fun x h=>Tw.R.of ((Tw.truth h x).map fun b=>.bl (!b)) h):=by
 constructor
 .intro pins s σ H Q I ⟨ρ,h,ι,at',p⟩;refine UnaryOp_ (az (ha pins s σ H _ I ⟨ρ,h,ι,at',step at' p⟩) fun v s1 Z=>Z.k2 fun x H1 I1 rv Z=>Z.k4 fun w h1 ι1 at1 e1 r1 p1=>not_of ?_);cases e:Tw.truth h1 w with
  |none=>rw[e] at p1;exact p1.elim
  |some k=>
   rw[e] at p1;refine az (B8 pins s1 σ H1 x v (fun k' H'=>Q (.bl (!k')) H') I1 rv ⟨k,Bt ι1 h1 H1 w x k at1.hr r1 e,ak.self (a:=Tw.W.bl (!k)) p1 at1.hr (.bl _)⟩) fun k' s2 Z=>Z.k1 fun H2 I2 q=>⟨.bl (!k'),H2,I2,rfl,q⟩
 .refine PT.imp (JF ht) fun σ H Q Z=>Z.k3 fun ρ h ι at' p=>?_;refine⟨ρ,h,ι,at',?_⟩;simp only[dT,bind_assoc] at p⊢;cases e0:da ρ h with
  |bad=>rw[e0] at p;exact p.elim
  |aI=>rw[e0] at p;exact p
  |ok w h1=>
   rw[e0] at p;simp only[Tw.R.aW] at p⊢;cases e:Tw.truth h1 w with
   |none=>rw[e] at p;exact p.elim
   |some k=>
    rw[e] at p;intro ι' H' b e1 r1 q;cases q;exact p ι' H' (!k) e1 r1 rfl
noncomputable def Ad(da db:Tw.Env->Tw.Hp->Tw.R Tw.W):Tw.Env->Tw.Hp->Tw.R Tw.W:=fun ρ h=>(da ρ h).bind fun x h=>match x with
  |.bl true=>db ρ h
  |.bl false=>.ok (.bl false) h
  |_=>.bad
noncomputable def Fi(da db:Tw.Env->Tw.Hp->Tw.R Tw.W):Tw.Env->Tw.Hp->Tw.R Tw.W:=fun ρ h=>(da ρ h).bind fun x h=>match x with
  |.bl false=>db ρ h
  |.bl true=>.ok (.bl true) h
  |_=>.bad
theorem MM{rest:List Expr}(ha:PE X a (tE (zx X E) da))(hb:PE X (.BoolOp .And (b::rest) pos) (tE (zx X E) db)):PE X (.BoolOp .And (a::b::rest) pos) (tE (zx X E) (Ad da db)):=by
 refine PE.imp (IC ha hb) fun σ H Q Z=>Z.k3 fun ρ h ι at' p=>⟨ρ,h,ι,at',(step at' p).mono fun x H1 Z=>Z.k4 fun w h1 ι1 at1 e1 r1 p1=>?_⟩;cases r1 with
 |bl k=>
  refine⟨k,rfl,?_⟩;cases k with
  |true=>rw[if_pos rfl];exact⟨ρ,h1,ι1,at1,p1⟩
  |false=>rw[if_neg (by decide)];exact ak.self (a:=Tw.W.bl false) p1 at1.hr (.bl _)
 |_=>exact p1.elim
theorem OY{rest:List Expr}(ha:PE X a (tE (zx X E) da))(hb:PE X (.BoolOp .Or (b::rest) pos) (tE (zx X E) db)):PE X (.BoolOp .Or (a::b::rest) pos) (tE (zx X E) (Fi da db)):=by
 refine PE.imp (MQ ha hb) fun σ H Q Z=>Z.k3 fun ρ h ι at' p=>⟨ρ,h,ι,at',(step at' p).mono fun x H1 Z=>Z.k4 fun w h1 ι1 at1 e1 r1 p1=>?_⟩;cases r1 with
 |bl k=>
  refine⟨k,rfl,?_⟩;cases k with
  |true=>rw[if_pos rfl];exact ak.self (a:=Tw.W.bl true) p1 at1.hr (.bl _)
  |false=>rw[if_neg (by decide)];exact⟨ρ,h1,ι1,at1,p1⟩
 |_=>exact p1.elim
theorem w_and{rest:List Expr}(ha:PT X a (tT (zx X E) da))(hb:PW X (.BoolOp .And (b::rest) pos) (tT (zx X E) db)):PW X (.BoolOp .And (a::b::rest) pos) (tT (zx X E) (Ad da db)):=by
 refine PW.imp (GY ha hb) fun σ H Q Z=>Z.k3 fun ρ h ι at' p=>⟨ρ,h,ι,at',?_⟩;simp only[dT,Ad,bind_assoc] at p⊢;cases e0:da ρ h with
 |bad=>rw[e0] at p;exact p.elim
 |aI=>rw[e0] at p;exact p
 |ok w h1=>
  rw[e0] at p;simp only[Tw.R.aW] at p⊢;cases w with
  |bl k=>
   intro ι' H' k' e1 r1 q;cases q;cases k with
   |true=>rw[if_pos rfl];exact⟨ρ,h1,ι',at'.later e1 r1,ak.later p e1⟩
   |false=>rw[if_neg (by decide)];exact ak.self (a:=false) (ak.later p e1) r1 rfl
  |_=>exact p.elim
theorem w_or{rest:List Expr}(ha:PT X a (tT (zx X E) da))(hb:PW X (.BoolOp .Or (b::rest) pos) (tT (zx X E) db)):PW X (.BoolOp .Or (a::b::rest) pos) (tT (zx X E) (Fi da db)):=by
 refine PW.imp (Ly ha hb) fun σ H Q Z=>Z.k3 fun ρ h ι at' p=>⟨ρ,h,ι,at',?_⟩;simp only[dT,Fi,bind_assoc] at p⊢;cases e0:da ρ h with
 |bad=>rw[e0] at p;exact p.elim
 |aI=>rw[e0] at p;exact p
 |ok w h1=>
  rw[e0] at p;simp only[Tw.R.aW] at p⊢;cases w with
  |bl k=>
   intro ι' H' k' e1 r1 q;cases q;cases k with
   |true=>rw[if_pos rfl];exact ak.self (a:=true) (ak.later p e1) r1 rfl
   |false=>rw[if_neg (by decide)];exact⟨ρ,h1,ι',at'.later e1 r1,ak.later p e1⟩
  |_=>exact p.elim
theorem LO(hc:PT X c (tT (zx X E) dc))(ha:PE X a (tE (zx X E) da))(hb:PE X b (tE (zx X E) db)):PE X (.IfExp c a b pos) (tE (zx X E) fun ρ h=>(dc ρ h).bind fun x h=>match Tw.truth h x with
  |some true=>da ρ h
  |some false=>db ρ h
  |none=>.bad):=by
 refine PE.imp (DD hc ha hb) fun σ H Q Z=>Z.k3 fun ρ h ι at' p=>⟨ρ,h,ι,at',?_⟩;simp only[dT] at p⊢;cases e0:dc ρ h with
 |bad=>rw[e0] at p;exact p.elim
 |aI=>rw[e0] at p;exact p
 |ok w h1=>
  rw[e0] at p;simp only[Tw.R.aW] at p⊢;cases e:Tw.truth h1 w with
  |none=>rw[e] at p;exact p.elim
  |some k=>
   rw[e] at p;intro ι' H' k' e1 r1 q;cases q;cases k with
   |true=>rw[if_pos rfl];exact⟨ρ,h1,ι',at'.later e1 r1,ak.later p e1⟩
   |false=>rw[if_neg (by decide)];exact⟨ρ,h1,ι',at'.later e1 r1,ak.later p e1⟩
theorem Kx(ι:Nat->Addr)(h:Tw.Hp)(H:L2.Hp)(w u:Tw.W)(x y:V)(Q:VK)(r:HR (zx X E) ι h H)(rx:RW X.K ι h.length H w x)(ry:RW X.K ι h.length H u y)(p:ak (zx X E) RE ι h H (Tw.idx w u h) Q):Jv X.K x y H Q:=by
 have lst:∀(i:Nat)(hi:i<h.length)(ws:List Tw.W)(xs:List V),bW X.K H (ι i) xs->aL X.K ι h.length H ws xs->ak (zx X E) RE ι h H (match u with | .int k=>Tw.R.of (Tw.dw ws k) h|_=>.bad) Q->Jv X.K (.ref (ι i)) y H Q:=by
  intro i hi ws xs sq rr p;cases ry with
  |int k=>
   dsimp only at p;cases e:Tw.dw ws k with
   |none=>rw[e] at p;exact p.elim
   |some w'=>
    rw[e] at p;obtain⟨v,q1,q2⟩:=rr.dw e;exact .inl ⟨ι i,xs,k,v,rfl,rfl,sq,q1,ak.self (a:=w') p r q2⟩
  |_=>exact p.elim
 cases rx with
 | @tup a xs ws ea ra=>
  cases ry with
  |int k=>
   have p:ak (zx X E) RE ι h H (Tw.R.of (Tw.dw ws k) h) Q:=p;cases e:Tw.dw ws k with
   |none=>rw[e] at p;exact p.elim
   |some w'=>
    rw[e] at p;obtain⟨v,q1,q2⟩:=ra.dw e;exact .inr (.inl ⟨a,xs,k,v,rfl,rfl,TupAt.sq ea,q1,ak.self (a:=w') p r q2⟩)
  |_=>exact p.elim
 | @ref i hi=>
  cases ei:h[i]? with
  |none=>
   have:h.length<=i:=by
    rcases rN i h.length with z|z
    .rw[kH z] at ei;cases ei
    .exact z
   lia
  |some o=>
   cases o with
   |lst ws=>
    obtain⟨xs,q1,q2⟩:=r.obj i _ ei;refine lst i hi ws xs (bW.of q1) q2 ?_;simp only[Tw.idx,ei] at p;cases u<;>exact p
   |aM ws=>
    obtain⟨xs,q1,q2⟩:=r.obj i _ ei;refine lst i hi ws xs q1.sq q2 ?_;simp only[Tw.idx,ei] at p;cases u<;>exact p
   |ins _ _=>exfalso;cases ry<;>simp[Tw.idx,ei] at p<;>exact p
   |_=>exfalso;cases ry<;>simp[Tw.idx,ei] at p<;>exact p
 |_=>cases ry<;>exact p.elim
theorem Mj(hu:X.A.units+1<cLine)(ha:PE X a (tE (zx X E) da))(hb:PE X b (tE (zx X E) db))(hs:oX b):PE X (.Subscript a b pos) (tE (zx X E) fun ρ h=>(da ρ h).bind fun x h=>(db ρ h).bind fun y h=>Tw.idx x y h):=
 PE.imp (En Jp ha hb hs) (two Kx)
end
section
variable {X:Cx}{E:XK}{a b c:Expr}{pos:Pos}{da db dc:Tw.Env->Tw.Hp->Tw.R Tw.W}
abbrev AG(K:Zk)(d:Tw.Env->Tw.Hp->Tw.R (Option Tw.W)):TO:=fun σ H Q=>∃ρ h ι,At K ι h H ρ σ/\ak K (fun _ _ _ _ (a:Option Tw.W) (b:Option Tw.W)=>a=b) ι h H (d ρ h) fun o H1=>∃i,Tw.hW o=some i/\Q i H1
theorem Df:PO X none (AG (zx X E) fun _ h=>.ok none h):=fun pins s σ H Q I Z=>Z.k3 fun ρ h ι at' p=>by
 obtain⟨i,e,q⟩:=p.self at'.hr rfl;cases e;exact F8 pins s σ H Q I q
theorem Dl(ha:PE X a (tE (zx X E) da)):PO X (some a) (AG (zx X E) fun ρ h=>(da ρ h).bind fun x h=>.ok (some x) h):=fun pins s σ H Q I Z=>Z.k3 fun ρ h ι at' p=>by
 refine FG ha pins s σ H Q I ⟨ρ,h,ι,at',(step at' p).mono fun x H1 Z=>Z.k4 fun w h1 ι1 at1 e1 r1 p1=>?_⟩;obtain⟨i,e,q⟩:=ak.self (a:=some w) p1 at1.hr rfl;cases r1 with
 |int k=>cases e;exact⟨k,rfl,q⟩
 |_=>cases e
theorem CJ{ι:Nat->Addr}(r:HR (zx X E) ι h H)(rx:RW X.K ι h.length H w x)(el:Tw.hW l=some i)(eu:Tw.hW u=some j)
  (p:ak (zx X E) RE ι h H (Tw.slice w l u h) Q):Kt X.K x i j H Q:=by
 unfold Tw.slice at p;rw[el,eu] at p;dsimp only at p;cases rx with
 | @tup a xs ws ea ra=>
  dsimp only at p;by_cases c:Tw.bz ws.length 0 i=0/\Tw.bz ws.length ws.length j=ws.length
  .rw[if_pos c] at p;exact p.elim
  .rw[if_neg c] at p;refine⟨a,xs,rfl,TupAt.sq ea,?_,p.tup r (ra.cut i j)⟩;rw[<-ra.length,<-rA,<-rA];exact c
 |_=>exact p.elim
theorem Fu{lo hi:Option Expr}{p2:Pos}{dl du:Tw.Env->Tw.Hp->Tw.R (Option Tw.W)}(ha:PE X a (tE (zx X E) da))(hl:PO X lo (AG (zx X E) dl))(hu:PO X hi (AG (zx X E) du)):
  PE X (.Subscript a (.Slice lo hi none p2) pos) (tE (zx X E) fun ρ h=>(da ρ h).bind fun x h=>(dl ρ h).bind fun l h=>(du ρ h).fA.bind fun u h=>Tw.slice x l u h):=by
 refine PE.imp (C8 I0 ha hl hu) fun σ H Q Z=>Z.k3 fun ρ h ι at' p=>⟨ρ,h,ι,at',(step at' p).mono fun x H1 Z=>Z.k4 fun w h1 ι1 at1 e1 r1 p1=>?_⟩;refine⟨ρ,h1,ι1,at1,?_⟩;cases el:dl ρ h1 with
 |bad=>rw[el] at p1;exact p1.elim
 |aI=>rw[el] at p1;exact p1
 |ok l h2=>
  rw[el] at p1;simp only[Tw.R.aW] at p1;intro ι2 H2 l' e2 r2 q2;cases q2;cases eu:du ρ h2 with
  |bad=>rw[eu] at p1;exact p1.elim
  |aI=>rw[eu] at p1;exact p1.elim
  |ok u h3=>
   rw[eu] at p1;simp only[Tw.R.om,Tw.R.aW] at p1;have pl:∃i,Tw.hW l=some i:=by
    cases e:Tw.hW l with
    |some i=>exact⟨i,rfl⟩
    |none=>unfold Tw.slice at p1;rw[e] at p1;exact p1.elim
   have pu:∃i,Tw.hW u=some i:=by
    cases e:Tw.hW u with
    |some i=>exact⟨i,rfl⟩
    |none=>unfold Tw.slice at p1;rw[e] at p1;obtain⟨i,e'⟩:=pl;rw[e'] at p1;exact p1.elim
   obtain⟨i,ei⟩:=pl;obtain⟨j,ej⟩:=pu;refine⟨i,ei,ρ,h2,ι2,at1.later e2 r2,?_⟩;rw[eu];intro ι3 H3 u' e3 r3 q3;cases q3;have p3:=ak.later (ak.later p1 e2) e3;exact⟨j,ej,CJ r3 ((r1.keep (e2.keeps at1.hr)).keep (e3.keeps r2)) ei ej p3⟩
theorem tZ{r:List V->L2.Hp->VK->Prop}(hp:PE X (.Call (.Name x p) [a] [] pos) (Kz r (o9 (tE (zx X E) da) wq)))
  (hr:∀(ι:Nat->Addr)(h:Tw.Hp)(H:L2.Hp)(w:Tw.W)(x:V)(Q:VK),HR (zx X E) ι h H->RW X.K ι h.length H w x->ak (zx X E) RE ι h H (Tw.builtin o w h) Q->r [x] H Q):
  PE X (.Call (.Name x p) [a] [] pos) (tE (zx X E) fun ρ h=>(da ρ h).bind fun x h=>Tw.builtin o x h):=
 PE.imp hp fun σ H Q Z=>Z.k3 fun ρ h ι at' p=>⟨ρ,h,ι,at',(step at' p).mono fun x H1 Z=>Z.k4 fun w h1 ι1 at1 e1 r1 p1=>hr ι1 h1 H1 w x Q at1.hr r1 p1⟩
theorem Hj(ι:Nat->Addr)(h:Tw.Hp)(H:L2.Hp)(w:Tw.W)(x:V)(Q:VK)(r:HR (zx X E) ι h H)(rx:RW X.K ι h.length H w x)(p:ak (zx X E) RE ι h H (Tw.builtin .len w h) Q):∃p ys,[x]=[V.ref p]/\(bW X.K H p ys\/cY X.K H p ys)/\Q (.int ys.length) H:=by
 unfold Tw.builtin at p;dsimp only at p;cases rx with
 | @tup a xs ws ea ra=>exact⟨a,xs,rfl,.inr (TupAt.sq ea),by rw[<-ra.length];exact p.self r (.int _)⟩
 | @ref k hk=>
  dsimp only at p;cases ei:h[k]? with
  |none=>rw[ei] at p;exact p.elim
  |some o=>
   rw[ei] at p;cases o with
   |lst ws=>obtain⟨xs,q1,q2⟩:=r.obj k _ ei;exact⟨_,xs,rfl,.inl (bW.of q1),by rw[<-q2.length];exact p.self r (.int _)⟩
   |aM ws=>obtain⟨xs,q1,q2⟩:=r.obj k _ ei;exact⟨_,xs,rfl,.inl q1.sq,by rw[<-q2.length];exact p.self r (.int _)⟩
   |ins _ _=>exact p.elim
   |_=>exact p.elim
 |_=>exact p.elim
theorem Gs(ι:Nat->Addr)(h:Tw.Hp)(H:L2.Hp)(w:Tw.W)(x:V)(Q:VK)(r:HR (zx X E) ι h H)(rx:RW X.K ι h.length H w x)(p:ak (zx X E) RE ι h H (Tw.builtin .list w h) Q):∃p ys,[x]=[V.ref p]/\(bW X.K H p ys\/cY X.K H p ys)/\∀l,H l=none->Q (.ref l) (upd H l (.lst ys)):=by
 unfold Tw.builtin at p;dsimp only at p;cases rx with
 | @tup a xs ws ea ra=>exact⟨a,xs,rfl,.inr (TupAt.sq ea),p.lst r ra⟩
 | @ref k hk=>
  dsimp only at p;cases ei:h[k]? with
  |none=>rw[ei] at p;exact p.elim
  |some o=>
   rw[ei] at p;cases o with
   |lst ws=>obtain⟨xs,q1,q2⟩:=r.obj k _ ei;exact⟨_,xs,rfl,.inl (bW.of q1),p.lst r q2⟩
   |aM ws=>obtain⟨xs,q1,q2⟩:=r.obj k _ ei;exact⟨_,xs,rfl,.inl q1.sq,p.lst r q2⟩
   |ins _ _=>exact p.elim
   |_=>exact p.elim
 |_=>exact p.elim
theorem BL:js X (.type "tuple") (fun xs H Q=>∃p ys,xs=[.ref p]/\((bW X.K H p ys/\∀l,H l=none->Q (.ref l) (upd H l (.tup ys)))\/(cY X.K H p ys/\Q (.ref p) H))):=tN
theorem C1(ι:Nat->Addr)(h:Tw.Hp)(H:L2.Hp)(w:Tw.W)(x:V)(Q:VK)(r:HR (zx X E) ι h H)(rx:RW X.K ι h.length H w x)(p:ak (zx X E) RE ι h H (Tw.builtin .tuple w h) Q):
  ∃p ys,[x]=[V.ref p]/\((bW X.K H p ys/\∀l,H l=none->Q (.ref l) (upd H l (.tup ys)))\/(cY X.K H p ys/\Q (.ref p) H)):=by
 unfold Tw.builtin at p;dsimp only at p;cases rx with
 | @ref k hk=>
  dsimp only at p;cases ei:h[k]? with
  |none=>rw[ei] at p;exact p.elim
  |some o=>
   rw[ei] at p;cases o with
   |lst ws=>obtain⟨xs,q1,q2⟩:=r.obj k _ ei;exact⟨_,xs,rfl,.inl ⟨bW.of q1,p.tup r q2⟩⟩
   |_=>exact p.elim
 |_=>exact p.elim
theorem Dv:js X (.builtin "isinstance") (fun xs H Q=>∃x b,xs=[x,.ty "bool"]/\x=.bl b/\Q (.bl true) H):=by
 intro pins s σ H xs us Q I r ⟨x,b,ex,eb,q⟩;subst ex;obtain⟨u,w',rfl,ru,rw'⟩:=vals2 r;cases rw';have hk:W.kitOne X.K (.type "bool") (.type "bool")=some true:=by unfold W.kitOne;simp
 subst eb;exact Bi I ru (.bl b) (b:=true) hk fun tk=>⟨.bl true,H,I.tok tk,rfl,q⟩
theorem LR(hg:Gl X "isinstance")(hm:X.mg "isinstance" = none)(ha:PE X a (tE (zx X E) da))(hn:PE X (.Name n p2) (tC (.ty "bool")))
  (hst:starEach [a,.Name n p2] X.env=[(false,eval a X.env),(false,eval (.Name n p2) X.env)]):
  PE X (.Call (.Name "isinstance" p) [a,.Name n p2] [] pos) (tE (zx X E) fun ρ h=>(da ρ h).bind fun x h=>match x with
   |.bl _=>.ok (.bl true) h
   |_=>.bad):=by
 have ha2:PA X [a,.Name n p2] (o9 (tE (zx X E) da) (o9 (tC (.ty "bool")) wq)):=bD ha (bD hn cZ rfl) hst;refine PE.imp (mf Dv hg hm D5 ha2 (he:=hst)) fun σ H Q Z=>Z.k3 fun ρ h ι at' p=>⟨ρ,h,ι,at',(step at' p).mono fun x H1 Z=>Z.k4 fun w h1 ι1 at1 e1 r1 p1=>?_⟩;cases r1 with
 |bl b=>exact⟨_,b,rfl,rfl,ak.self (a:=Tw.W.bl true) p1 at1.hr (.bl _)⟩
 |_=>exact p1.elim
theorem HM(ι:Nat->Addr)(h:Tw.Hp)(H:L2.Hp)(w:Tw.W)(x:V)(Q:VK)(r:HR (zx X E) ι h H)(rx:RW X.K ι h.length H w x)(p:ak (zx X E) RE ι h H (Tw.builtin .int w h) Q):
  (∃i,[x]=[V.int i]/\Q (.int i) H)\/∃k,[x]=[V.bl k]/\Q (.int (if k then 1 else 0)) H:=by
 unfold Tw.builtin at p;dsimp only at p;cases rx with
 |int i=>exact .inl ⟨i,rfl,p.self r (.int _)⟩
 |bl b=>exact .inr ⟨b,rfl,p.self r (.int _)⟩
 |_=>exact p.elim
end
section
variable {X:Cx}{E:XK}{a b c o e f:Expr}{pos apos cpos:Pos}{da db dc d1 d2:Tw.Env->Tw.Hp->Tw.R Tw.W}
def cE(K:W.Frag)(mg:Str->Option Value)(cl:eM)(F:List Tw.W->Tw.Hp->Tw.R Tw.W):Sp:=fun vs H Q E=>∃ws h ι,HR ⟨K,mg,E,cl⟩ ι h H/\aL K ι h.length H ws vs/\ak ⟨K,mg,E,cl⟩ RE ι h H (F ws h) Q
theorem s_call{F:List Tw.W->Tw.Hp->Tw.R Tw.W}{ds:Tw.Env->Tw.Hp->Tw.R (List Tw.W)}
  (G:bF X.prog X.w X.K X.mg X.base CX k g fd ps (cE X.K X.mg X.cl F)) (hx:Passes CX X E) (hr:cq k X.A) (hg:Gl X x) (hm:X.mg x=some (.ref g)) (hk:W.keepIn X.K (.ref g)=true) (hb:Binds X.K fd ps [])
  (hs:PA X (e::es) (tA (zx X E) n ds)) (hd:(x== ("__debug__" : Str))=false) (hst:starEach (e::es) X.env=(false,eval e X.env)::starEach es X.env) (hpl:(backTo pos (starEach es X.env)).any (·.1)=false):
  PE X (.Call (.Name x p) (e::es) [] pos) (tE (zx X E) fun ρ h=>(ds ρ h).bind fun xs h=>F xs h):=by
 refine PE.imp (FJ (dvs:=[]) (ds:=[]) (E:=E) G hr hg hm hk hb .nil hx hs hd hst hpl) fun σ H Q Z=>Z.k3 fun ρ h ι at' p=>⟨ρ,h,ι,at',(step at' p).mono fun xs H1 Z=>Z.k4 fun ws h1 ι1 at1 e1 r1 p1=>?_⟩;rw[eX];exact⟨ws,h1,ι1,at1.hr,r1.1,p1⟩
structure Me(X:Cx)(o:Expr)(m:Str)(apos:Pos)(es:List Expr)(cpos:Pos):Prop where
 base:attributeBase o m X.env (eval o X.env)=eval o X.env
 Bc:((backTo cpos (starEach es X.env)).all (fun x=>!x.1)&&(backToKw cpos (keywordEach [] X.env)).all (fun x=>x.1.isSome)
  && decide (es.length+([]:List Keyword).length+(if ([]:List Keyword).isEmpty then 0 else 1)<30))=true
 line:(apos.endLine== cpos.line)=true
def JU(m:Tw.Mt)(da db:Tw.Env->Tw.Hp->Tw.R Tw.W):Tw.Env->Tw.Hp->Tw.R Tw.W:=fun ρ h=>(da ρ h).bind fun x h=>if Tw.j6 m x h then (db ρ h).bind fun y h=>Tw.method m x [y] h else .bad
theorem ak.ite{K:Zk}{α β:Type}{R:Rl α β}{ι:Nat->Addr}{h:Tw.Hp}{H:L2.Hp}{c:Bool}{m:Tw.R α}{Q:β->L2.Hp->Prop}(p:ak K R ι h H (if c=true then m else .bad) Q):c=true/\ak K R ι h H m Q:=by
 cases c with
 |true=>exact⟨rfl,by simpa using p⟩
 |false=>rw[if_neg (by decide)] at p;exact p.elim
theorem BA(e:Tw.j6 .append w h=true):∃i ws,w=.ref i/\h[i]?=some (.lst ws):=by
 cases w with
 |ref i=>
  have e:(match h[i]? with|some (.lst _)=>true|_=>false)=true:=e;cases ei:h[i]? with
  |none=>rw[ei] at e;cases e
  |some o=>
   rw[ei] at e;cases o with
   |lst ws=>exact⟨i,ws,rfl,ei⟩
   |_=>cases e
 |_=>cases e
theorem Cw(me:Me X o "append" apos [e] cpos)(hst:starEach [e] X.env=[(false,eval e X.env)])(ho:PE X o (tE (zx X E) da))(he:PE X e (tE (zx X E) db)):
  PE X (.Call (.Attribute o "append" apos) [e] [] cpos) (tE (zx X E) (JU .append da db)):=by
 refine PE.imp (M0 zo PySem.F.slot_list_append PySem.F.type_list_append tm ho (bD he cZ hst) me.base me.Bc me.line hst rfl) fun σ H Q Z=>Z.k3 fun ρ h ι at' p=>?_;refine⟨ρ,h,ι,at',(step at' p).mono fun x H1 Z=>Z.k4 fun w h1 ι1 at1 e1 r1 p1=>?_⟩;obtain⟨hc,p1⟩:=ak.ite p1;obtain⟨i,ws,rfl,ei⟩:=BA hc;cases r1 with
 |ref hi=>
  obtain⟨xs,q1,q2⟩:=at1.hr.lst ei;refine⟨.inl ⟨rfl,xs,bW.of q1⟩,ρ,h1,ι1,at1,(step at1 p1).mono fun y H2 Z=>Z.k4 fun u h2 ι2 at2 e2 r2 p2=>?_⟩;have p2:ak (zx X E) RE ι2 h2 H2 (match h2[i]? with
   |some (.lst ys)=>if ys.length<Tw.SZ then .ok .ah (h2.set i (.lst (ys++[u]))) else .bad
   |_=>.bad) Q:=p2
  have same:ι2 i=ι1 i:=e2.same i hi;cases ej:h2[i]? with
  |none=>rw[ej] at p2;exact p2.elim
  |some oj=>
   rw[ej] at p2;cases oj with
   |lst ys=>
    dsimp only at p2;by_cases c:ys.length<Tw.SZ
    .rw[if_pos c] at p2;obtain⟨zs,g1,g2⟩:=at2.hr.lst ej;refine⟨ι1 i,zs,y,rfl,rfl,by rw[<-same];exact g1,by rw[<-g2.length,oq];exact c,?_⟩;obtain⟨hr',ex⟩:=at2.hr.put (o:=.lst (zs++[y])) (u:=.lst (ys++[u])) ej rfl rfl (fun _ z=>nomatch z) fun H' k z=>⟨zs++[y],z,(g2.append (.cons r2 .nil)).keep k⟩;rw[<-same];exact p2 ι2 _ _ ex hr' .ah
    .rw[if_neg c] at p2;exact p2.elim
   |_=>exact p2.elim
theorem JC:PE X (.Dict [] [] pos) (tE (zx X E) fun _ h=>Tw.new (.fc []) h):=
 PE.imp CU fun σ H Q Z=>Z.k3 fun ρ h ι at' p=>p.fc at'.hr .nil
end
def bB(K:Zk)(ι:Nat->Addr)(h:Tw.Hp)(H:L2.Hp)(m:Tw.R Tw.Fl)(D:Ends):Prop:=match m with
 |.ok (.next ρ) h'=>∀ι' H' σ',Ext ι h H ι' h' H'->At K ι' h' H' ρ σ'->D.nx σ' H'
 |.ok (.brk ρ) h'=>∀ι' H' σ',Ext ι h H ι' h' H'->At K ι' h' H' ρ σ'->D.bk σ' H'
 |.ok (.cont ρ) h'=>∀ι' H' σ',Ext ι h H ι' h' H'->At K ι' h' H' ρ σ'->D.ct σ' H'
 |.ok (.ret w) h'=>∀ι' H' v,Ext ι h H ι' h' H'->HR K ι' h' H'->RW K.K ι' h'.length H' w v->D.rt v H'
 |.aI a h'=>∀ι' H',Ext ι h H ι' h' H'->HR K ι' h' H'->K.ex (.ref (ι' a)) none H'
 |.bad=>False
noncomputable def cN(K:Zk)(d:Tw.Env->Tw.Hp->Tw.R Tw.Fl):TS:=fun D σ H=>∃ρ h ι,At K ι h H ρ σ/\bB K ι h H (d ρ h) D
section
variable {K:Zk}{α β:Type}{R:Rl α β}{ι ι1:Nat->Addr}{h h1:Tw.Hp}{H H1:L2.Hp}{ρ:Tw.Env}{σ:L2.St}
theorem bB.later(p:bB K ι h H m D)(e:Ext ι h H ι1 h1 H1):bB K ι1 h1 H1 m D:=by
 cases m with
 |ok f h'=>cases f<;>exact fun ι' H' σ' e'=>p ι' H' σ' (e.trans e')
 |aI a h'=>exact fun ι' H' e' r=>p ι' H' (e.trans e') r
 |bad=>exact p
theorem eR{k:α->Tw.Hp->Tw.R Tw.Fl}(a:At K ι h H ρ σ)(p:bB K ι h H (m.bind k) D):
  ak K R ι h H m (fun x H1=>∃w h1 ι1,At K ι1 h1 H1 ρ σ/\Ext ι h H ι1 h1 H1/\R K.K ι1 h1.length H1 w x/\bB K ι1 h1 H1 (k w h1) D):=by
 cases m with
 |ok w h1=>exact fun ι' H' b e r q=>⟨w,h1,ι',a.later e r,e,q,bB.later p e⟩
 |aI=>exact p
 |bad=>exact p
theorem At.set(a:At K ι h H ρ σ)(r:RW K.K ι h.length H w v)(i:Nat):At K ι h H (ρ.set i (some w)) (σ.set i (some v)) where
 hr:=a.hr
 len:=by rw[wu,wu];exact a.len
 st:=fun j u e=>by
  by_cases z:i=j
  .subst z;have hi:i<ρ.length:=by
    have:=(fH.mp e).1;simpa using this
   rw[i5 hi] at e;cases e;exact⟨v,i5 (by rw[a.len];exact hi),r⟩
  .rw[i7 z] at e;obtain⟨v',h1,h2⟩:=a.st j u e;exact⟨v',by rw[i7 z];exact h1,h2⟩
theorem bB.next(p:bB K ι h H (.ok (.next ρ) h) D)(a:At K ι h H ρ σ):D.nx σ H:=p ι H σ (Ext.refl _ _ _) a
end
section
variable {X:Cx}{E:XK}{a b c e o:Expr}{pos pos':Pos}{da db dc:Tw.Env->Tw.Hp->Tw.R Tw.W}
theorem JH(ha:PE X a (tE (zx X E) da))(hs:swapsWith a none pos.line X.env=pure false):PS X (.Expr a pos) (cN (zx X E) fun ρ h=>(da ρ h).bind fun _ h=>.ok (.next ρ) h):=
 PS.imp (GG ha hs) fun D σ H Z=>Z.k3 fun ρ h ι at' p=>⟨ρ,h,ι,at',(eR at' p).mono fun x H1 Z=>Z.k4 fun w h1 ι1 at1 e1 r1 p1=>p1.next at1⟩
theorem y7(ha:PE X a (tE (zx X E) da)):PS X (.Return (some a) pos) (cN (zx X E) fun ρ h=>(da ρ h).bind fun x h=>.ok (.ret x) h):=
 PS.imp (JG ha) fun D σ H Z=>Z.k3 fun ρ h ι at' p=>⟨ρ,h,ι,at',(eR at' p).mono fun x H1 Z=>Z.k4 fun w h1 ι1 at1 e1 r1 p1=>p1 ι1 H1 x (Ext.refl _ _ _) at1.hr r1⟩
theorem EK(hN:X.N.Nodup)(hi:X.N[i]?=some x)(hx:Loc X.env.scope x)(ha:PE X a (tE (zx X E) da))(hs:swapsWith a (some (.Name x pos')) pos.line X.env=pure false)(hf:X.fn x=true\/X.env.scope.names.lookup x=some .local):
  PS X (.Assign [.Name x pos'] a pos) (cN (zx X E) fun ρ h=>(da ρ h).bind fun w h=>.ok (.next (ρ.set i (some w))) h):=
 PS.imp (Hw hN hi hx ha hs hf) fun D σ H Z=>Z.k3 fun ρ h ι at' p=>⟨ρ,h,ι,at',(eR at' p).mono fun y H1 Z=>Z.k4 fun w h1 ι1 at1 e1 r1 p1=>p1.next (at1.set r1 i)⟩
theorem J4{ta tb:Tw.Env->Tw.Hp->Tw.R Tw.Fl}(hc:PT X c (tT (zx X E) dc))(ha:dE X sa (cN (zx X E) ta))(hb:dE X sb (cN (zx X E) tb)):
  PS X (.If c sa sb pos) (cN (zx X E) fun ρ h=>(dc ρ h).bind fun x h=>match Tw.truth h x with
   |some true=>ta ρ h
   |some false=>tb ρ h
   |none=>.bad):=by
 refine PS.imp (LA hc ha hb) fun D σ H Z=>Z.k3 fun ρ h ι at' p=>⟨ρ,h,ι,at',?_⟩;simp only[dT];dsimp only at p;cases e0:dc ρ h with
 |bad=>rw[e0] at p;exact p.elim
 |aI=>rw[e0] at p;exact p
 |ok w h1=>
  simp only[e0,Tw.R.aW] at p⊢;cases e:Tw.truth h1 w with
  |none=>rw[e] at p;exact p.elim
  |some k=>
   rw[e] at p;intro ι' H' k' e1 r1 q;cases q;cases k with
   |true=>rw[if_pos rfl];exact⟨ρ,h1,ι',at'.later e1 r1,bB.later p e1⟩
   |false=>rw[if_neg (by decide)];exact⟨ρ,h1,ι',at'.later e1 r1,bB.later p e1⟩
theorem vN:dE X [] (cN (zx X E) fun ρ h=>.ok (.next ρ) h):=dE.imp Gv fun D σ H Z=>Z.k3 fun ρ h ι at' p=>p.next at'
theorem yJ{st:Stmt}{rest:List Stmt}{t u:Tw.Env->Tw.Hp->Tw.R Tw.Fl}(h1:PS X st (cN (zx X E) t))(h2:dE X rest (cN (zx X E) u)):
  dE X (st::rest) (cN (zx X E) fun ρ h=>(t ρ h).bind fun f h=>match f with
   |.next ρ=>u ρ h
   |f=>.ok f h):=by
 refine dE.imp (DL h1 h2) fun D σ H Z=>Z.k3 fun ρ h ι at' p=>⟨ρ,h,ι,at',?_⟩;dsimp only at p;cases e:t ρ h with
 |bad=>rw[e] at p;exact p.elim
 |aI=>rw[e] at p;exact p
 |ok f h1=>
  simp only[e,Tw.R.aW] at p;cases f with
  |next ρ1=>exact fun ι' H' σ' e1 a1=>⟨ρ1,h1,ι',a1,bB.later p e1⟩
  |ret w=>exact p
  |brk ρ1=>exact p
  |cont ρ1=>exact p
theorem II{ι:Nat->Addr}{h:Tw.Hp}{H:L2.Hp}{wo wk wv:Tw.W}{o k v:V}{ρ:Tw.Env}{σ:L2.St}{D:Ends}
  (a:At (zx X E) ι h H ρ σ) (ro:RW X.K ι h.length H wo o) (rk:RW X.K ι h.length H wk k) (rv:RW X.K ι h.length H wv v) (p:bB (zx X E) ι h H ((Tw.jO wo wk wv h).bind fun _ h=>.ok (.next ρ) h) D):
  E5 o k v H fun H'=>D.nx σ H':=by
 cases ro with
 | @ref i hi=>
  cases ei:h[i]? with
  |none=>simp only[Tw.jO,ei] at p;exact p.elim
  |some ob=>
   cases ob with
   |lst ws=>
    obtain⟨xs,q1,q2⟩:=a.hr.lst ei;cases rk with
    |int n=>
     simp only[Tw.jO,ei] at p;cases e2:Tw.ik ws.length n with
     |none=>rw[e2] at p;exact p.elim
     |some j=>
      rw[e2] at p;refine⟨_,xs,n,j,rfl,rfl,q1,by rw[<-q2.length,<-AW];exact e2,?_⟩;obtain⟨hr',ex⟩:=a.hr.put (o:=.lst (xs.set j v)) (u:=.lst (ws.set j wv)) ei rfl rfl (fun _ z=>nomatch z) fun H' kp z=>⟨xs.set j v,z,(q2.set rv j).keep kp⟩;exact p ι _ σ ex (a.later ex hr')
    |_=>simp only[Tw.jO,ei] at p;exact p.elim
   |aM ws=>simp only[Tw.jO,ei] at p;cases wk<;>exact p.elim
   |ins _ _=>simp only[Tw.jO,ei] at p;cases wk<;>exact p.elim
   |_=>simp only[Tw.jO,ei] at p;cases wk<;>exact p.elim
 |_=>exact p.elim
end
theorem At.zL{K:Zk}{ι:Nat->Addr}{h:Tw.Hp}{H:L2.Hp}{ρ:Tw.Env}{σ:L2.St}(a:At K ι h H ρ σ)(j:Nat)(x:Option V):At K ι h H (ρ.set j none) (σ.set j x) where
 hr:=a.hr
 len:=by rw[wu,wu];exact a.len
 st:=fun i u e=>by
  by_cases z:j=i
  .subst z;have hi:j<ρ.length:=by
    have:=(fH.mp e).1;simpa using this
   rw[i5 hi] at e;cases e
  .rw[i7 z] at e;obtain⟨v',h1,h2⟩:=a.st i u e;exact⟨v',by rw[i7 z];exact h1,h2⟩
section
variable {X:Cx}{E:XK}{a b c e o k:Expr}{pos pos':Pos}{da db dc dv:Tw.Env->Tw.Hp->Tw.R Tw.W}
theorem BX(v x y:Expr)(p:Pos)(l:Nat)(env:Env):swapsWithSole [.Subscript x y p] v l env=pure false:=by cases v<;>rfl
theorem yQ(v x y:Expr)(p:Pos)(env:Env):swappedStores [.Subscript x y p] v env=pure none:=by cases v<;>rfl
theorem MO(hu:X.A.units+1<cLine)(hv:PE X a (tE (zx X E) dv))(ho:PE X o (tE (zx X E) da))(hk:PE X k (tE (zx X E) db))
  (has:∀v,assign (.Subscript o k pos') X.env v=(do
   let ov <-holding [v] (eval o X.env)
   let iv <-holding [v,ov] (eval k X.env)
   standAt pos'
   holding [v,ov,iv] (setItem ov iv v)
   release [v,ov,iv] [])):
  PS X (.Assign [.Subscript o k pos'] a pos) (cN (zx X E) fun ρ h=>(dv ρ h).bind fun v h=>(da ρ h).bind fun x h=>(db ρ h).bind fun y h=>(Tw.jO x y v h).bind fun _ h=>.ok (.next ρ) h):=by
 refine PS.imp (uw hv (HB ho hk set_list has) (BX _ _ _ _ _ _) (yQ _ _ _ _ _)) fun D σ H Z=>Z.k3 fun ρ h ι at' p=>?_;refine⟨ρ,h,ι,at',(eR at' p).mono fun v H1 Z=>Z.k4 fun wv h1 ι1 at1 e1 r1 p1=>⟨ρ,h1,ι1,at1,(eR at1 p1).mono fun x H2 Z=>Z.k4 fun wo h2 ι2 at2 e2 r2 p2=>⟨ρ,h2,ι2,at2,(eR at2 p2).mono fun y H3 Z=>Z.k4 fun wk h3 ι3 at3 e3 r3 p3=>?_⟩⟩⟩;exact II at3 (r2.keep (e3.keeps at2.hr)) r3 ((r1.keep (e2.keeps at1.hr)).keep (e3.keeps at2.hr)) p3
theorem PI.or(h1:PI X tg iter w)(h2:PI X tg iter w'):PI X tg iter (fun σ H R=>w σ H R\/w' σ H R):=by
 intro pins s σ H R I q;rcases q with q|q
 .exact h1 pins s σ H R I q
 .exact h2 pins s σ H R I q
def yO(K:Zk)(t:Tw.Tg)(g:TG):Prop:=∀(ι:Nat->Addr)(h:Tw.Hp)(H:L2.Hp)(ρ ρ1:Tw.Env)(σ:L2.St)(w:Tw.W)(x:V)(Q:L2.St->L2.Hp->Prop),At K ι h H ρ σ->RW K.K ι h.length H w x->Tw.qe t w ρ=some ρ1->
 (∀σ1,At K ι h H ρ1 σ1->Q σ1 H)->g x σ H Q
theorem IP(K:Zk)(i:Nat):yO K (.var i) (gv i):=fun ι h H ρ ρ1 σ w x Q a r e q=>by
 cases e;exact q _ (a.set r i)
theorem A3(K:Zk)(i j:Nat):yO K (.two i j) (CO K.K 2 (oM (gv i) (oM (gv j) CQ))):=fun ι h H ρ ρ1 σ w x Q a r e q=>by
 cases r with
 | @tup ad xs ws ea ra=>
  cases ra with
  |nil=>cases e
  |cons r1 ra=>
   cases ra with
   |nil=>cases e
   |cons r2 ra=>
    cases ra with
    |nil=>
     cases e;exact⟨ad,_,rfl,TupAt.sq ea,rfl,_,_,rfl,_,_,rfl,rfl,q _ ((a.set r1 i).set r2 j)⟩
    |cons r3 ra=>cases e
 |_=>cases e
theorem tL{K:Zk}{ι:Nat->Addr}{h:Tw.Hp}{H:L2.Hp}{m:Tw.R Tw.Fl}{go:Tw.Env->Tw.Hp->Tw.R Tw.Fl}{D:Ends}{N:L2.St->L2.Hp->Prop}
  (p:bB K ι h H (m.bind fun f h=>match f with
   |.next σ=>go σ h
   |.cont σ=>go σ h
   |.brk σ=>.ok (.next σ) h
   |.ret w=>.ok (.ret w) h) D)
  (hN:∀ρ h1 ι1 H1 σ1,Ext ι h H ι1 h1 H1->At K ι1 h1 H1 ρ σ1->bB K ι1 h1 H1 (go ρ h1) D->N σ1 H1):bB K ι h H m {D with nx:=N,ct:=N,bk:=D.nx}:=by
 cases m with
 |bad=>exact p
 |aI=>exact p
 |ok f h1=>
  cases f with
  |next ρ=>exact fun ι' H' σ' e a=>hN ρ h1 ι' H' σ' e a (bB.later p e)
  |cont ρ=>exact fun ι' H' σ' e a=>hN ρ h1 ι' H' σ' e a (bB.later p e)
  |brk ρ=>exact p
  |ret w=>exact p
theorem yj{α:Type}{ws:List α}{i:Nat}{w:α}(e:ws[i]?=some w):ws.drop i=w::ws.drop (i+1):=by obtain⟨hi,e⟩:=fH.mp e;rw[List.drop_eq_getElem_cons hi,e]
end
section
variable {X:Cx}{E:XK}{pins:aE}{σ:L2.St}{H:L2.Hp}{s:Shared}{h':Heap}{fp:List Addr}
theorem oI(I:Inv X pins σ H s)(hf:∀b∈fp,fY X pins H b)(k:∀b o,b∉fp->s.heap.get? b=some o->h'.get? b=some o):Inv X pins σ H {s with heap:=h',toks:=t'}:=by
 have nf:∀b u,H b=some u->b∉fp:=fun b u e z=>by rw[(hf b z).1] at e;cases e
 have u:Un (a9 X.stack) fp H H s.heap h':=
  ⟨fun b o e _ _ h2=>k b o h2 e,fun b o e _ _ h2=>⟨o.slots,k b o h2 e⟩,fun _ _ _ n _=>n,fun b o e h2=>⟨o,k b o h2 e⟩,fun _ _ q=>q,fun _ _ _ q=>q,fun _ ps q=>⟨#[],by rw[q];simp⟩⟩
 have av:dB X.prog X.w H h':=fun b v e=>(I.av b v e).fG (fun c w hc q=>k c w (by
  rcases hc with z|z
  .rw[z];exact nf _ _ e
  .exact nf _ _ z) q) (fun _ q=>q) fun _ _ q=>q
 exact I.call (g':=s.gens) (d':=s.drawn) (t':=t') u av I.bare fun b hb=>⟨(hf b hb).2.2.2.1,(hf b hb).2.1,(hf b hb).2.2.2.2.1,(hf b hb).2.2.2.2.2⟩
end
def HF(K:W.Frag)(a:Addr)(n:Nat):It:=
 ⟨fun i H=>∃xs x,i<n/\bW K H a xs/\xs[n-1-i]?=some x,fun i H x H'=>H'=H/\∀xs,bW K H a xs->xs[n-1-i]?=some x,fun i _=>n<=i⟩
theorem D3{P:Program}{w:World}{K:W.Frag}{tg:Expr}(a it:Addr)(n:Nat):Turn P w K tg (HF K a n) [it] it (fun i h=>i<=n/\h.IsRevIter it a ((n:Int)-1-i)) where
 mem:=by simp
 obj:=fun i h Z c hc=>by
  have e:c=it:=by simpa using hc
  subst e;obtain⟨_,o,e,c,d⟩:=Z;exact⟨o,e,fun v q=>by rw[d] at q;cases q⟩
 keep:=fun i h h' Z k=>⟨Z.1,Z.2.at fun o e=>k it (by simp) o e⟩
 item:=by
  intro X hP hw hK hc i pins s σ H E I hf Z hg;subst hP hw hK;obtain⟨xs,x,hi,hq,hx⟩:=hg;obtain⟨us,rv,pl,hz⟩:=I.list hq;obtain⟨u,hu,ru⟩:=rv.get hx;obtain⟨_,hit⟩:=Z;have e1:(n:Int)-1-(i:Int)=((n-1-i:Nat):Int):=by lia
  rw[e1] at hit;refine wpAny_pyNext_rev_item hit pl.isList (x:=u) (by simpa using hu) fun h' hit' hs'=>⟨u,rfl,?_⟩;have e2:((n-1-i:Nat):Int)-1=(n:Int)-1-((i+1:Nat):Int):=by lia
  rw[e2] at hit';obtain⟨o,ho,hc',hd⟩:=id hit';refine qI (n:= "list_reverseiterator") ho hc' hd (by decide) ?_;have I':Inv X pins σ H {s with heap:=h',toks:=s.toks}:=oI I hf fun c o hc e=>hs'.extBut c o (fun z=>hc (by simp[z])) e;refine⟨x,H,I',ru,⟨rfl,fun xs' q=>?_⟩,⟨hi,hit'⟩,fun c hc=>(hf c hc).1⟩;rw[I.wG q hq];exact hx
 done:=by
  intro X hP hw hK hc i pins s σ H E I hf Z hg;subst hP hw hK;have hg:n<=i:=hg;obtain⟨hle,hit⟩:=Z;have e1:(n:Int)-1-(i:Int)= -1:=by lia
  rw[e1] at hit;refine wpAny_pyNext_rev_end (I.ok.hd hc) hit fun h' kh=>⟨rfl,?_⟩;exact oI (t':=s.toks) I hf fun c o hc e=>kh c o (fun z=>hc (by simp[z])) e
 self:=fun _ _ _ _ _ Z h=>wpAny_pyIter_revIter Z.2 h
section
variable {X:Cx}{a:Expr}{p pos:Pos}{tg:Expr}
theorem Di:bootBuiltins "reversed" = some (.type "reversed"):=by decide+kernel
end
theorem sP{α β:Type}{M:Model}{A:Around}{v:α}{Q:α->Shared->Prop}{E:aO}{s:Shared}{t:Sem β}{Q':β->Shared->Prop}{E':aO}(h:wpAny M A (pure v) Q E s)(k:Q v s->wpAny M A t Q' E' s):wpAny M A t Q' E' s:=
 fun Γ p hΓ=>k (h Γ p hΓ) Γ p hΓ
section
variable {prog:Program}{w:World}{A:Around}{s:Shared}{R:Result->Shared->Prop}{E:aO}
variable {I:Addr}
end
section
variable {prog:Program}{w:World}{A:Around}{s:Shared}{E:aO}{I:Addr}
end
section
variable {X:Cx}{pins:aE}{σ:L2.St}
end
section
variable {K:Zk}{ι ι1:Nat->Addr}{h h1:Tw.Hp}{H H1:L2.Hp}{ρ:Tw.Env}{σ:L2.St}{a:Addr}
def eK(ι:Nat->Addr)(h:Tw.Hp)(a:Addr):Prop:=∀(i:Nat)(o:Tw.O),h[i]?=some o->eJ o=true->ι i≠a
theorem eK.later(al:eK ι h a)(e:Ext ι h H ι1 h1 H1)(ha:H a≠none):eK ι1 h1 a:=fun i o ei m z=>by
 by_cases hi:i<h.length
 .obtain⟨o',eo⟩:∃o',h[i]?=some o':=⟨_,kH hi⟩;rw[e.same i hi] at z;exact al i o' eo (by rw[<-e.fz i o' o eo ei];exact m) z
 .exact ha (by rw[<-z];exact e.new i (i6.mp hi) (dR ei))
theorem HR.BP(r:HR K ι h H)(al:eK ι h a)(ha:H a=some u)(n1:∀xs,u≠.tup xs)(n2:∀o v,u≠.aM o v)(n3:∀gs,u≠.xd gs)(n4:∀φ,u≠.ext φ)(ht:(∀b o' u',H b=some (.aM o' u')->upd H a o b=some (.aM o' u'))->∀t∈K.cl.tb,qH (upd H a o) t):HR K ι h (upd H a o):=by
 have kp:Keeps ι h.length H ι h.length (upd H a o):=⟨aA _,fun _ _=>rfl,fun b xs e=>by
  rw[aD (fun z=>by rw[z,ha] at e;cases e;exact n1 _ rfl)];exact e⟩
 have sf:∀b o' u',H b=some (.aM o' u')->upd H a o b=some (.aM o' u'):=fun b o' u' e=>by
  rw[aD (fun z=>by rw[z,ha] at e;cases e;exact n2 _ _ rfl)];exact e
 refine⟨fun i v q=>?_,r.inj,ht sf,fun i f ws q=>(r.fn i f ws q).keep kp (dR q) sf⟩;by_cases m:eJ v=true
 .exact (r.obj i v q).keep kp fun w e hw z=>by
   rw[aD]
   .exact z
   .rcases hw with rfl|⟨gs,rfl⟩
    .exact al i v q m
    .intro y;rw[y,ha] at z;cases z;exact n3 _ rfl
 .cases v with
  |aM ws=>
   obtain⟨xs,sq,rr⟩:=r.obj i _ q;rcases sq with ⟨o',sq⟩|sq
   .refine⟨xs,.inl ⟨o',?_⟩,rr.keep kp⟩;rw[aD (fun z=>by rw[z,ha] at sq;cases sq;exact n2 _ _ rfl)];exact sq
   .exact⟨xs,.inr sq,rr.keep kp⟩
  |aI c fs=>
   obtain⟨C,dx,gs,q0,q1,q2,q3⟩:=r.obj i _ q;refine⟨C,dx,gs,q0,?_,?_,q3.keep kp⟩
   .rw[aD (fun z=>by rw[z,ha] at q1;cases q1;exact n4 _ rfl)];exact q1
   .exact XD.keep q2 fun b v ⟨_,hv⟩ q=>by
     subst hv;rw[aD (fun z=>by rw[z,ha] at q;cases q;exact n3 _ rfl)];exact q
  | «fun» f ws=>trivial
  |dead=>trivial
  |_=>exact absurd rfl m
theorem HR.other(r:HR K ι h H)(al:eK ι h a)(ha:H a=some u)(n1:∀xs,u≠.tup xs)(n2:∀o v,u≠.aM o v)(n3:∀gs,u≠.xd gs:=by intro _ z;cases z)(n4:∀φ,u≠.ext φ:=by intro _ z;cases z)(n5:∀ps,u≠.dQ ps:=by intro _ z;cases z):HR K ι h (upd H a o):=
 r.BP al ha n1 n2 n3 n4 fun sf t ht=>(r.tab t ht).keep sf fun ps e=>by rw[aD (fun z=>by rw[z,ha] at e;cases e;exact n5 _ rfl)];exact e
theorem Ext.other(e:Ext ι h H ι1 h1 H1)(ha:H a=none)(ha1:H1 a=some u):Ext ι h H ι1 h1 (upd H1 a o):=
 ⟨e.len,e.same,fun b v q t n=>by rw[aD (eQ q ha)];exact e.fr b v q t n,e.new,fun b q=>e.vz b (lp b q),e.fz⟩
theorem HR.adopt(r:HR K ι h H)(al:eK ι h a)(ha:H a=some o)(m:eJ u=true)(ro:∀ι' n',Keeps ι h.length H ι' n' H->RO K ι' n' H a u):HR K (cM ι h.length a) (h++[u]) H:=by
 have hl:(h++[u]).length=h.length+1:=by simp
 have kp:Keeps ι h.length H (cM ι h.length a) (h++[u]).length H:=⟨by lia,fun i hi=>bC hi,fun _ _ e=>e⟩;have two:∀{i:Nat}{v:Tw.O},(h++[u])[i]?=some v->(i<h.length/\h[i]?=some v)\/(i=h.length/\v=u):=fun {i v} e=>by
  have hi:=dR e;by_cases z:i<h.length
  .rw[e9 z] at e;exact .inl ⟨z,e⟩
  .have z':i=h.length:=by lia
   subst z';simp at e;exact .inr ⟨rfl,e.symm⟩
 refine⟨fun i v q=>?_,fun i j v w q1 q2 m1 m2 z=>?_,r.tab,fun i f ws q=>by
  rcases two q with ⟨hi,q⟩|⟨_,q⟩
  .exact (r.fn i f ws q).keep kp hi fun _ _ _ e=>e
  .rw[<-q] at m;cases m⟩
 .rcases two q with ⟨hi,q⟩|⟨rfl,rfl⟩
  .rw[bC hi];exact (r.obj i v q).keep kp fun _ _ _ e=>e
  .rw[bY];exact ro _ _ kp
 .rcases two q1 with ⟨hi,p1⟩|⟨ei,ev⟩<;>rcases two q2 with ⟨hj,p2⟩|⟨ej,ew⟩
  .rw[bC hi,bC hj] at z;exact r.inj i j v w p1 p2 m1 m2 z
  .rw[bC hi,ej,bY] at z;exact absurd z (al i v p1 m1)
  .rw[ei,bY,bC hj] at z;exact absurd z.symm (al j w p2 m2)
  .rw[ei,ej]
theorem Ext.adopt(e:Ext ι h H ι1 h1 H1)(ha:H a=none):Ext ι h H (cM ι1 h1.length a) (h1++[u]) H1:=by
 have hl:(h1++[u]).length=h1.length+1:=by simp
 refine⟨by have:=e.len;lia,fun i hi=>(bC (bT hi e.len)).trans (e.same i hi),e.fr,fun i g1 g2=>?_,e.vz,fun i o v q1 q2=>?_⟩
 .by_cases hi:i<h1.length
  .rw[bC hi];exact e.new i g1 hi
  .have:i=h1.length:=by lia
   subst this;rw[bY];exact ha
 .have hi:=bT (dR q1) e.len;rw[e9 hi] at q2;exact e.fz i o v q1 q2
end
end TwS
namespace TwS
open PySem L2 PyProof.Rows
open AutoSeq1 (wpAny_loadPart')
theorem sG:Manifest.owners.lookup (String.ofList ['d','e','s','r','e','v','e','r'].reverse)=some Manifest.sig_reversed:=by kernel_rfl
theorem tM:Slot "reversed" "__init__" "object.__init__" :=
 .of (owner:= "object") (n:= "__init__") (by rw[uc,ua];kernel_rfl) (by decide+kernel) (by decide+kernel) (by decide+kernel)
  (by first|exact .inl (by decide+kernel)|exact .inr (by decide+kernel)) (by rw[tW];kernel_rfl)
theorem eS:Slot "reversed" "__next__" "reversed.__next__" :=
 .of (owner:= "reversed") (n:= "__next__") (by rw[uc,ua];kernel_rfl) (by decide+kernel) (by decide+kernel) (by decide+kernel)
  (by first|exact .inl (by decide+kernel)|exact .inr (by decide+kernel)) (by rw[tW];kernel_rfl)
theorem k7:entryFor table "reversed.__next__" = some Builtin.«reversed.__next__» := entryFor_of_tree (by kernel_rfl)
theorem mD(a:Value):argsOk "reversed.__next__" ⟨[a],[]⟩:=by unfold argsOk;rw[signature?_of (id:= "reversed.__next__") (n:=['_','_','t','x','e','n','_','_']) (o:=['d','e','s','r','e','v','e','r']) (by kernel_rfl) sG];kernel_rfl
theorem mE:Slot "reversed" "__iter__" "reversed.__iter__" :=
 .of (owner:= "reversed") (n:= "__iter__") (by rw[uc,ua];kernel_rfl) (by decide+kernel) (by decide+kernel) (by decide+kernel)
  (by first|exact .inl (by decide+kernel)|exact .inr (by decide+kernel)) (by rw[tW];kernel_rfl)
theorem tP(a:Value):argsOk "reversed.__iter__" ⟨[a],[]⟩:=by unfold argsOk;rw[signature?_of (id:= "reversed.__iter__") (n:=['_','_','r','e','t','i','_','_']) (o:=['d','e','s','r','e','v','e','r']) (by kernel_rfl) sG];kernel_rfl
theorem rV:entryFor table "reversed.__iter__" = some Builtin.«dict_keyiterator.__iter__» :=
 entryFor_alias (id':= "dict_keyiterator.__iter__") (by kernel_rfl) (by first|rfl|decide+kernel|(unfold String.splitOn;simp+decide [String.splitOnAux])) (by decide+kernel) (by kernel_rfl)
theorem y6:TypeCalled "reversed" "reversed.__new__" "object.__init__" :=
 ⟨by decide+kernel,by decide+kernel,⟨_,_,F.mro_reversed⟩,F.made_reversed,by decide+kernel,F.sub_reversed_self,tM⟩
theorem vK:typeLookup (.type "tuple") "__reversed__" = pure none:=by rw[uc,ua];kernel_rfl
theorem sub_tuple_dict:isSubtype (.type "tuple") (.type "dict")=pure false:=by rw[tW];kernel_rfl
noncomputable def Ey(l:Addr)(i:Int):Obj:={cls:=.type "reversed",data:=.fields #[.ref l,rawInt i]}
def jY(h:Heap)(a l:Addr)(i:Int):Prop:=∃o,h.get? a=some o/\o.cls=.type "reversed" /\o.data=.fields #[.ref l,rawInt i]
section
variable {prog:Program}{w:World}{A:Around}{E:aO}{s:Shared}{l it:Addr}{xs:Array Value}
theorem jY.typeIs(x:jY s.heap a l i):s.TypeIs (.ref a) "reversed" := let ⟨o,ho,hc,_⟩:=x;⟨o,ho,hc⟩
theorem jY.at(x:jY h a l i)(e:∀o,h.get? a=some o->h'.get? a=some o):jY h' a l i:=let ⟨o,ho,r⟩:=x;⟨o,e _ ho,r⟩
theorem Cn(l:Addr)(xs:Array Value)(hz:xs.size<=sizeLine):
  Meets (Builtin.«reversed.__new__» ⟨[.type "reversed",.ref l],[]⟩) (fun _ R s=>IsTup s.heap l xs/\
   ∀tk,R (.ok (.ret (.ref s.heap.objs.size))) {s with heap:=s.heap.push (Ey l ((xs.size:Int)-1)),toks:=tk}):=
 .of_wp fun prog w A R s h=>by
  obtain⟨ht,h⟩:=h;unfold Builtin.«reversed.__new__»;refine ag (kx (newClass_reversed _) ?_)
  try dsimp only
  refine ag (kx (a:=()) (by first|rfl|kernel_rfl) ?_);refine ag (kx (a:=()) (by first|rfl|kernel_rfl) ?_)
  try dsimp only
  refine ag (wpAny_specialOf ht.typeIs vK ?_)
  try dsimp only
  refine ag ?_;show wpAny _ _ ((do
   if <-isInstance (.ref l) (.type "dict") then return false
   match <-specialOf (.ref l) "__getitem__" with
   |none=>return false
   |some (.builtin id)=>
    if ["tuple.__getitem__", "str.__getitem__", "bytes.__getitem__", "bytearray.__getitem__", "memoryview.__getitem__", "numpy.ndarray.__getitem__", "sqlite3.Row.__getitem__"].contains id then return true
    if id== "sqlite3.Blob.__getitem__" then return false
    unsupported "reversed.__new__:is-it-a-sequence"
   |some _=>return true):Sem Bool) _ _ _
  refine ag (wpAny_isInstance ht.typeIs sub_tuple_dict ?_);rw[if_neg (by decide)];refine ag (wpAny_specialOf ht.typeIs slot_tuple_getitem.lookup ?_)
  try dsimp only
  rw[if_pos (by decide+kernel)];refine aC ?_;rw[if_neg (by decide)];refine ag (len_tuple ht (by rw[gu] at hz;lia) ?_);refine ag (kx (a:=some (xs.size:Int)) rfl ?_)
  try dsimp only
  refine ag ?_;show wpAny _ _ (newObj (.type "reversed") (.fields [Value.ref l,rawInt ((xs.size:Int)-1)].toArray)) _ _ _;exact jn (aC ⟨_,rfl,h _⟩) (by size_fits)
theorem KH{Q:aO}(ht:IsTup s.heap l xs)(hz:xs.size<=sizeLine)
  (h:∀tk,Q (.ref s.heap.objs.size) {s with heap:=s.heap.push (Ey l ((xs.size:Int)-1)),toks:=tk}):wpAny (model prog w) A (call (.type "reversed") [.ref l]) Q E s:=
 callType_new y6 (by decide) (F.typeCall_reversed_1 _) (F.newCall_reversed_1 _) (fun obj=>F.args_object_init_2 obj _) F.entry_reversed_new (Cn l xs hz) ⟨ht,fun tk=>⟨⟨_,fN _ rfl,rfl⟩,h tk⟩⟩
theorem FH{i:Nat}{x:Value}{Q:Option Value->Shared->Prop}(hit:jY s.heap it l (i:Int))(ht:IsTup s.heap l xs)(hx:xs[i]?=some x)(hz:xs.size<=sizeLine)(hne:l≠it)
  (hQ:∀h' tk,jY h' it l ((i:Int)-1)->Heap.SameBut it s.heap h'->Q (some x) {s with heap:=h',toks:=tk}):wpAny (model prog w) A (pyNext (.ref it)) Q E s:=by
 obtain⟨o,ho,hc,hd⟩:=id hit;have hlt:i<xs.size:=by
  by_cases z:i<xs.size
  .exact z
  .rw[Array.getElem?_eq_none (by lia)] at hx;cases hx
 rw[gu] at hz;unfold pyNext;refine ag (qC (tS (name:=Str.ofString "__next__") hit.typeIs eS
  (qt eS hit.typeIs k7 ?_ (mD _))))
 unfold Builtin.«reversed.__next__»;refine ag (kx (a:=(Value.ref it,[])) rfl ?_)
 try dsimp only
 refine ag (gx ho hd (x:=.ref l) rfl ?_);refine ag (gx ho hd (x:=rawInt (i:Int)) rfl ?_);show wpAny _ _ (if (i:Int)<0 then _ else _) _ _ s;rw[if_neg (by lia)];refine ag (wpAny_specialOf ht.typeIs slot_tuple_getitem.lookup ?_);rw[if_neg (by simp)];refine ag (wpAny_mkInt ?_);refine ag (qC (getItem_tuple (s:={s with toks:=s.toks+1}) ht (by lia) (by lia) (j:=i) ?_ hx ?_))
 .unfold seqIndex?;first|(rw[if_neg (by lia),if_pos (by lia)];simp)|(simp;lia)
 .try dsimp only
  refine ag (gx ho hd (x:=rawInt (i:Int)) rfl ?_);show wpAny _ _ (setField (.ref it) 1 (rawInt ((i:Int)-1)) >>= _) _ _ _;refine ag (ot ho hd (by simp) ?_);refine aC ⟨x,rfl,aC (hQ _ _ ?_ (D0 ..))⟩;exact⟨_,rY _ ho (wx (p7 hd _)),(Obj.cls_mapFields ..).trans hc,by rw[p7 hd];simp⟩
theorem Ij{Q:Option Value->Shared->Prop}(hh:A.handled=none)(hit:jY s.heap it l (-1))
  (hQ:∀h',Heap.ExtBut it s.heap h'->Q none {s with heap:=h'}):wpAny (model prog w) A (pyNext (.ref it)) Q E s:=by
 obtain⟨o,ho,hc,hd⟩:=id hit;unfold pyNext;refine ag (qC (tS (name:=Str.ofString "__next__") hit.typeIs eS
  (qt eS hit.typeIs k7 ?_ (mD _))))
 unfold Builtin.«reversed.__next__»;refine ag (kx (a:=(Value.ref it,[])) rfl ?_)
 try dsimp only
 refine ag (gx ho hd (x:=.ref l) rfl ?_);refine ag (gx ho hd (x:=rawInt (-1)) rfl ?_);show wpAny _ _ (if (-1:Int)<0 then _ else _) _ _ s;rw[if_pos (by decide)];refine ag (wpAny_rule ?_);refine ag ?_;show wpAny _ _ ((do setField (.ref it) 1 (rawInt (-1));setField (.ref it) 0 .none):Sem Unit) _ _ _;refine ag (ot ho hd (by simp) ?_);have g1:=rY (Obj.mapFields fun x=>x.setIfInBounds 1 (rawInt (-1))) ho (wx (p7 hd _));refine ot g1 (p7 hd _) (by simp) ?_;have k1:Heap.ExtBut it s.heap ((s.heap.update it (Obj.mapFields fun x=>x.setIfInBounds 1 (rawInt (-1)))).update it (Obj.mapFields fun x=>x.setIfInBounds 0 .none)):=fun b o hb e=>
  (D0 ..).extBut b o hb ((D0 ..).extBut b o hb e)
 refine ag ?_;show wpAny _ _ (newExc (.type "StopIteration") [] >>= _) _ _ _;refine ag ?_;simp only[newExc,newTuple];refine ag (jn ?_ (by size_fits));refine ag (m:=firstArgMember _ _) (kx (a:=Value.none) (by first|rfl|(simp only[firstArgMember];rfl)) ?_);refine jn ?_ (by size_fits);simp only[raiseNew];refine ag (wpAny_handled ?_);first|rw[show A.in1.handled=none from hh]|rw[hh]
 refine ag (aC (wpAny_throw ?_));refine ag (wpAny_isInstance (T:= "StopIteration") (b:=true) ⟨_,fN _ rfl,rfl⟩ isSubtype_stop ?_);exact aC (hQ _ ((k1.push _).push _))
theorem yI{i:Int}{Q:aO}(hit:jY s.heap it l i)(h:Q (.ref it) s):wpAny (model prog w) A (pyIter (.ref it)) Q E s:=by refine wpAny_pyIter_slot hit.typeIs mE (qt mE hit.typeIs rV ?_ (tP _));show wpAny _ _ (ret (.ref it)) _ _ s;exact aC ⟨_,rfl, "reversed",_,hit.typeIs,eS.lookup,h⟩
end
def HX(K:W.Frag)(a:Addr)(n:Nat):It:=
 ⟨fun i H=>∃xs x,i<n/\cY K H a xs/\xs[n-1-i]?=some x,fun i H x H'=>H'=H/\∀xs,cY K H a xs->xs[n-1-i]?=some x,fun i _=>n<=i⟩
theorem FV{P:Program}{w:World}{K:W.Frag}{tg:Expr}(a it:Addr)(n:Nat)(ne:a≠it):Turn P w K tg (HX K a n) [it] it (fun i h=>i<=n/\jY h it a ((n:Int)-1-i)) where
 mem:=by simp
 obj:=fun i h Z c hc=>by
  have e:c=it:=by simpa using hc
  subst e;obtain⟨_,o,e,c,d⟩:=Z;exact⟨o,e,fun v q=>by rw[d] at q;cases q⟩
 keep:=fun i h h' Z k=>⟨Z.1,Z.2.at fun o e=>k it (by simp) o e⟩
 item:=by
  intro X hP hw hK hc i pins s σ H E I hf Z hg;subst hP hw hK;obtain⟨xs,x,hi,hq,hx⟩:=hg;obtain⟨us,rv,pl,hz⟩:=I.tuple hq;obtain⟨u,hu,ru⟩:=rv.get hx;obtain⟨_,hit⟩:=Z;have e1:(n:Int)-1-(i:Int)=((n-1-i:Nat):Int):=by lia
  rw[e1] at hit;refine FH hit pl (x:=u) (by simpa using hu) (by simpa [rv.length] using hz) ne fun h' tk hit' hs'=>⟨u,rfl,?_⟩;have e2:((n-1-i:Nat):Int)-1=(n:Int)-1-((i+1:Nat):Int):=by lia
  rw[e2] at hit';obtain⟨o,ho,hc',hd⟩:=id hit';refine qI (n:= "reversed") ho hc' hd (by decide) ?_;have I':Inv X pins σ H {s with heap:=h',toks:=tk}:=oI I hf fun c o hc e=>hs'.extBut c o (fun z=>hc (by simp[z])) e;refine⟨x,H,I',ru,⟨rfl,fun xs' q=>?_⟩,⟨hi,hit'⟩,fun c hc=>(hf c hc).1⟩;rw[I.sJ q hq];exact hx
 done:=by
  intro X hP hw hK hc i pins s σ H E I hf Z hg;subst hP hw hK;have hg:n<=i:=hg;obtain⟨hle,hit⟩:=Z;have e1:(n:Int)-1-(i:Int)= -1:=by lia
  rw[e1] at hit;refine Ij (I.ok.hd hc) hit fun h' kh=>⟨rfl,?_⟩;exact oI (t':=s.toks) I hf fun c o hc e=>kh c o (fun z=>hc (by simp[z])) e
 self:=fun _ _ _ _ _ Z h=>yI Z.2 h
section
variable {X:Cx}{a:Expr}{p pos:Pos}{tg:Expr}
theorem Mi{ta:TA}(hg:Gl X "reversed")(hm:X.mg "reversed" = none)(ha:PA X [a] ta)(hs:starEach [a] X.env=[(false,eval a X.env)]):
  PI X tg (.Call (.Name "reversed" p) [a] [] pos) (fun σ H R=>ta σ H fun vs H1=>∃c xs,vs=[.ref c]/\((bW X.K H1 c xs/\R (HF X.K c xs.length) H1)\/(cY X.K H1 c xs/\R (HX X.K c xs.length) H1))):=by
 intro pins s σ H R I h;refine Call_ (lF I hg hm Di (zD (az (ha pos pins s σ H _ I h) fun us s1 ⟨vs,H1,I1,r1,c,xs,e,q⟩=>?_) (by rw[hs];rfl) (by rfl)) (by decide) (by decide));subst e;obtain⟨u,rfl,ru⟩:=vals1 r1;cases ru;have fp:∀c',c'∈ [s1.heap.objs.size]->fY X pins H1 c':=fun c' hc'=>by
  have le:c'=s1.heap.objs.size:=by simpa using hc'
  subst le;exact I1.uS (aA _) (I1.av.fresh (aA _))
 rcases q with ⟨q1,q⟩|⟨q1,q⟩
 .obtain⟨as,rv,pl,hz⟩:=I1.list q1;refine call_reversed_list pl.isList ?_;have hit:Heap.IsRevIter (s1.heap.push (revObj c ((as.toArray.size:Int)-1))) s1.heap.objs.size c ((as.toArray.size:Int)-1):=⟨_,fN _ rfl,rfl,rfl⟩;refine wpAny_pyIter_revIter hit ?_;have I2:Inv X pins σ H1 {s1 with heap:=s1.heap.push (revObj c ((as.toArray.size:Int)-1)),toks:=s1.toks}:=I1.kept (t':=s1.toks) fun b o e=>bM _ e;have el:as.toArray.size=xs.length:=by rw[cF];exact rv.length.symm
  exact⟨_,_,_,_,H1,rfl,I2,D3 c _ xs.length,⟨bu _,by rw[show (xs.length:Int)-1-((0:Nat):Int)=(as.toArray.size:Int)-1 by rw[el];simp];exact hit⟩,fp,q⟩
 .obtain⟨as,rv,pl,hz⟩:=I1.tuple q1;have el:as.toArray.size=xs.length:=by rw[cF];exact rv.length.symm
  refine KH pl (by rw[el];exact hz) fun tk=>?_;have hit:jY (s1.heap.push (Ey c ((as.toArray.size:Int)-1))) s1.heap.objs.size c ((as.toArray.size:Int)-1):=⟨_,fN _ rfl,rfl,rfl⟩;refine yI hit ?_;have I2:Inv X pins σ H1 {s1 with heap:=s1.heap.push (Ey c ((as.toArray.size:Int)-1)),toks:=tk}:=I1.kept (t':=tk) fun b o e=>bM _ e;exact⟨_,_,_,_,H1,rfl,I2,FV c _ xs.length (cV pl.lt),⟨bu _,by rw[show (xs.length:Int)-1-((0:Nat):Int)=(as.toArray.size:Int)-1 by rw[el];simp];exact hit⟩,fp,q⟩
end
end TwS
namespace TwS
open PySem L2 PyProof.Rows
noncomputable def nextOf(src:Tw.Src)(i:Nat)(h:Tw.Hp):Option (Option Tw.W):=match src with
 |.fix ws=>some ws[i]?
 |.at a _=>(Tw.dS h a).map fun ys=>ys[i]?
 |.rv a n=>if i<n then (match Tw.dS h a with|none=>none|some ys=>(ys[n-1-i]?).map some) else some none
def fR(K:W.Frag)(J:It)(src:Tw.Src)(ι:Nat->Addr)(q:Nat)(H:L2.Hp):Prop:=
 (∃ad xs ws,J=G9 K ad/\src=.fix ws/\TupAt K H ad xs/\aL K ι q H ws xs)\/(∃lo n,J=AR lo n/\src=.fix (Tw.upTo lo n))\/(∃i n b,J=HL K b/\b=ι i/\src=.at i n/\i<q)\/
 (∃ad xs ws,J=HX K ad xs.length/\src=.fix ws.reverse/\TupAt K H ad xs/\aL K ι q H ws xs)\/∃i n b,J=HF K b n/\b=ι i/\src=.rv i n/\i<q
theorem fR.later{K:W.Frag}{J:It}{src:Tw.Src}{ι ι1:Nat->Addr}{q q1:Nat}{H H1:L2.Hp}(f:fR K J src ι q H)(k:Keeps ι q H ι1 q1 H1):fR K J src ι1 q1 H1:=by
 rcases f with ⟨ad,xs,ws,e1,e2,e3,r⟩|f|⟨i,n,b,e1,e2,e3,hi⟩|⟨ad,xs,ws,e1,e2,e3,r⟩|⟨i,n,b,e1,e2,e3,hi⟩
 .exact .inl ⟨ad,xs,ws,e1,e2,k.zC e3,r.keep k⟩
 .exact .inr (.inl f)
 .exact .inr (.inr (.inl ⟨i,n,b,e1,e2.trans (k.same i hi).symm,e3,bT hi k.le⟩))
 .exact .inr (.inr (.inr (.inl ⟨ad,xs,ws,e1,e2,k.zC e3,r.keep k⟩)))
 .exact .inr (.inr (.inr (.inr ⟨i,n,b,e1,e2.trans (k.same i hi).symm,e3,bT hi k.le⟩)))
theorem rK:∀(n:Nat)(lo:Int)(i:Nat),(Tw.upTo lo n)[i]?=if i<n then some (.int (lo+i)) else none
 |0,_,_=>by simp[Tw.upTo]
 |n+1,lo,0=>by simp[Tw.upTo]
 |n+1,lo,i+1=>by
  simp only[Tw.upTo,List.getElem?_cons_succ];rw[rK n (lo+1) i];by_cases h:i<n
  .rw[if_pos h,if_pos (by lia)]
   congr 2
   push_cast
   lia
  .rw[if_neg h,if_neg (by lia)]
def qp(ws:List Tw.W)(i:Nat):Nat:=ws.length-1-i
theorem jj{K:Zk}{J:It}{src:Tw.Src}{ι:Nat->Addr}{h:Tw.Hp}{H:L2.Hp}(r:HR K ι h H)(f:fR K.K J src ι h.length H)(i:Nat):
  nextOf src i h=none\/(J.stop i H/\nextOf src i h=some none)\/
   ∃w,nextOf src i h=some (some w)/\J.go i H/\∀x H',J.Em i H x H'->HR K ι h H'/\Ext ι h H ι h H'/\RW K.K ι h.length H' w x:=by
 have fG:∀{w x},RW K.K ι h.length H w x->HR K ι h H/\Ext ι h H ι h H/\RW K.K ι h.length H w x:=fun q=>⟨r,Ext.refl _ _ _,q⟩;rcases f with ⟨ad,xs,ws,rfl,rfl,e3,rr⟩|⟨lo,n,rfl,rfl⟩|⟨j,n,b,rfl,rfl,rfl,hi⟩|⟨ad,xs,ws,rfl,rfl,e3,rr⟩|⟨j,n,b,rfl,rfl,rfl,hi⟩
 .cases hw:ws[i]? with
  |none=>exact .inr (.inl ⟨⟨xs,e3.sq,by rw[<-rr.length];exact y9.mp hw⟩,by simp[nextOf,hw]⟩)
  |some w=>
   obtain⟨v,hv,rv⟩:=rr.get hw;refine .inr (.inr ⟨w,by simp[nextOf,hw],⟨xs,v,e3.sq,hv⟩,fun x H' ⟨eH,hx⟩=>?_⟩);have:=hx xs e3.sq;rw[hv] at this;cases this;subst eH;exact fG rv
 .by_cases hi:i<n
  .refine .inr (.inr ⟨.int (lo+i),by simp[nextOf,rK,hi],hi,fun x H' ⟨eH,hx⟩=>?_⟩);subst eH hx;exact fG (.int _)
  .exact .inr (.inl ⟨i6.mp hi,by simp[nextOf,rK,hi]⟩)
 .cases e:Tw.dS h j with
  |none=>exact .inl (by simp[nextOf,e])
  |some ws=>
   obtain⟨xs,sq,rr⟩:=r.at e;cases hw:ws[i]? with
   |none=>exact .inr (.inl ⟨⟨xs,sq,by rw[<-rr.length];exact y9.mp hw⟩,by simp[nextOf,e,hw]⟩)
   |some w=>
    obtain⟨v,hv,rv⟩:=rr.get hw;refine .inr (.inr ⟨w,by simp[nextOf,e,hw],⟨xs,v,sq,hv⟩,fun x H' ⟨eH,hx⟩=>?_⟩);have:=hx xs sq;rw[hv] at this;cases this;subst eH;exact fG rv
 .have hl:=rr.length;by_cases hin:i<xs.length
  .have hw0:qp ws i<ws.length:=by unfold qp;lia
   have hw:ws[qp ws i]?=some ws[qp ws i]:=kH hw0;obtain⟨v,hv,rv⟩:=rr.get hw;have en:qp ws i=xs.length-1-i:=by unfold qp;rw[hl]
   rw[en] at hv;refine .inr (.inr ⟨ws[qp ws i],?_,⟨xs,v,hin,e3.sq,hv⟩,fun x H' ⟨eH,hx⟩=>?_⟩)
   .show some ws.reverse[i]?=_;rw[List.getElem?_reverse (by lia)];exact cR some hw
   .have:=hx xs e3.sq;rw[hv] at this;cases this;subst eH;exact fG rv
  .exact .inr (.inl ⟨i6.mp hin,by show some ws.reverse[i]?=_;rw[uO (by simp;lia)]⟩)
 .by_cases hin:i<n
  .cases e:Tw.dS h j with
   |none=>exact .inl (by simp[nextOf,e,hin])
   |some ws=>
    obtain⟨xs,sq,rr⟩:=r.at e;cases hw:ws[n-1-i]? with
    |none=>exact .inl (by simp[nextOf,e,hin,hw])
    |some w=>
     obtain⟨v,hv,rv⟩:=rr.get hw;refine .inr (.inr ⟨w,by simp[nextOf,e,hin,hw],⟨xs,v,hin,sq,hv⟩,fun x H' ⟨eH,hx⟩=>?_⟩);have:=hx xs sq;rw[hv] at this;cases this;subst eH;exact fG rv
  .exact .inr (.inl ⟨i6.mp hin,by simp[nextOf,hin]⟩)
def cnt(src:Tw.Src)(i m:Nat):Prop:=match src with
 |.fix ws=>m=ws.length-i
 |.rv _ n=>m=n-i
 |_=>True
noncomputable def jR:Tw.Src->Nat
 |.fix ws=>ws.length
 |.at _ n=>n
 |.rv _ n=>n
theorem tq(src:Tw.Src):cnt src 0 (jR src):=by cases src<;>simp[cnt,jR]
theorem vW(h:cnt src i (m+1)):cnt src (i+1) m:=by cases src<;>simp only[cnt] at h⊢<;>first|trivial|lia
def wk(src:Tw.Src)(k:Tw.W->List Tw.W->Tw.Hp->Tw.R (List Tw.W))(i m:Nat)(acc:List Tw.W)(h:Tw.Hp):Tw.R (List Tw.W):=match src with
 |.fix ws=>Tw.fS k (ws.drop i) acc h
 |.at a _=>Tw.dD a k m i acc h
 |.rv _ _=>.bad
theorem Dm(src:Tw.Src)(k:Tw.W->List Tw.W->Tw.Hp->Tw.R (List Tw.W))(h:Tw.Hp):Tw.walk src k h=wk src k 0 (jR src) [] h:=by cases src<;>rfl
theorem FX{k:Tw.W->List Tw.W->Tw.Hp->Tw.R (List Tw.W)}(hm:cnt src i m):
  wk src k i m acc h=.bad\/(nextOf src i h=some none/\wk src k i m acc h=.ok acc h)\/∃w m',nextOf src i h=some (some w)/\m=m'+1/\wk src k i m acc h=(k w acc h).bind fun acc h=>wk src k (i+1) m' acc h:=by
 cases src with
 |fix ws=>
  have hm:m=ws.length-i:=hm;cases hw:ws[i]? with
  |none=>
   have hl:=y9.mp hw;refine .inr (.inl ⟨by simp[nextOf,hw],?_⟩);show Tw.fS k (ws.drop i) acc h=_;rw[List.drop_eq_nil_of_le hl];rfl
  |some w=>
   have hl:=(fH.mp hw).1;refine .inr (.inr ⟨w,ws.length-(i+1),by simp[nextOf,hw],by lia,?_⟩);show Tw.fS k (ws.drop i) acc h=_;rw[yj hw];rfl
 |rv a n=>exact .inl rfl
 | «at» a n=>
  cases e:Tw.dS h a with
  |none=>refine .inl ?_;show Tw.dD a k m i acc h=_;unfold Tw.dD;rw[e]
  |some ws=>
   cases hw:ws[i]? with
   |none=>refine .inr (.inl ⟨by simp[nextOf,e,hw],?_⟩);show Tw.dD a k m i acc h=_;unfold Tw.dD;simp only[e,hw]
   |some w=>
    cases m with
    |zero=>refine .inl ?_;show Tw.dD a k 0 i acc h=_;unfold Tw.dD;simp only[e,hw]
    |succ m=>
     refine .inr (.inr ⟨w,m,by simp[nextOf,e,hw],rfl,?_⟩);show Tw.dD a k (m+1) i acc h=_
     conv=>lhs;unfold Tw.dD
     simp only[e,hw];rfl
theorem FR{K:Zk}{J:It}{src:Tw.Src}{ι:Nat->Addr}{h:Tw.Hp}{H:L2.Hp}(r:HR K ι h H)(f:fR K.K J src ι h.length H)(k:Tw.W->List Tw.W->Tw.Hp->Tw.R (List Tw.W))(i m:Nat)(acc:List Tw.W)(hm:cnt src i m):
  wk src k i m acc h=.bad\/(J.stop i H/\wk src k i m acc h=.ok acc h)\/
   ∃w m',m=m'+1/\J.go i H/\(∀x H',J.Em i H x H'->HR K ι h H'/\Ext ι h H ι h H'/\RW K.K ι h.length H' w x)/\cnt src (i+1) m'/\wk src k i m acc h=(k w acc h).bind fun acc h=>wk src k (i+1) m' acc h:=by
 rcases FX (k:=k) (acc:=acc) (h:=h) hm with e|⟨e1,e2⟩|⟨w,m',e1,e2,e3⟩
 .exact .inl e
 .rcases jj r f i with q|⟨st,q⟩|⟨w,q,_⟩
  .rw[e1] at q;cases q
  .exact .inr (.inl ⟨st,e2⟩)
  .rw[e1] at q;cases q
 .rcases jj r f i with q|⟨st,q⟩|⟨w',q,go,hy⟩
  .rw[e1] at q;cases q
  .rw[e1] at q;cases q
  .rw[e1] at q;cases q;exact .inr (.inr ⟨w,m',e2,go,hy,vW (by rw[<-e2];exact hm),e3⟩)
noncomputable def cu(env:Env):List (Str×NameKind)->List (Str×Addr)->List (Str×Addr)
 |[],cs=>cs
 |(n,k)::r,cs=>cu env r (if k== .free then (n,(env.cells.lookup n).getD 0)::cs else cs)
theorem qv(h:∀y∈scope.names,y.2=.free->∃c,env.cells.lookup y.1=some c):closureFor scope env=pure (cu env scope.names []):=by
 have key:∀(names:List (Str×NameKind))(cs:List (Str×Addr)),(∀y∈names,y.2=.free->∃c,env.cells.lookup y.1=some c)->
   (forIn (m:=Sem) names cs fun x r=>match x with
    |(name,kind)=>if (kind== NameKind.free)=true then do let c <-cellOf env name;pure (ForInStep.yield ((name,c)::r)) else pure (ForInStep.yield r))=pure (cu env names cs):=by
  intro names
  induction names with
  |nil=>intro cs _;rfl
  |cons y r ih=>
   intro cs h;obtain⟨n,k⟩:=y;have ih:=fun cs=>ih cs fun z hz=>h z (iY _ hz);rw[List.forIn_cons];by_cases hk:k=.free
   .subst hk;obtain⟨c,hc⟩:=h (n,.free) n8 rfl;have e:cellOf env n=pure c:=by unfold cellOf;rw[hc]
    have t:cu env ((n,NameKind.free)::r) cs=cu env r ((n,c)::cs):=by rw[cu,hc];rfl
    rw[t,<-ih];dsimp only;rw[e];rfl
   .have hb:(k== NameKind.free)=false:=by simpa using hk
    have t:cu env ((n,k)::r) cs=cu env r cs:=by rw[cu,hb];rfl
    rw[t,<-ih];dsimp only;rw[hb];rfl
 unfold closureFor;have k2:=key scope.names [] h;exact (cR (fun m:Sem (List (Str×Addr))=>m >>= fun cs=>pure cs) k2).trans rfl
theorem tH:∀{names:List (Str×NameKind)}{cs:List (Str×Addr)}{y:Str}{c:Addr},(cu env names cs).lookup y=some c->
  cs.lookup y=some c\/((y,NameKind.free)∈names/\(env.cells.lookup y).getD 0=c)
 |[],cs,y,c,e=>.inl e
 |(n,k)::r,cs,y,c,e=>by
  rw[cu] at e;rcases tH e with e|⟨h1,h2⟩
  .by_cases hk:k=.free
   .subst hk;rw[if_pos (by rfl),di] at e;by_cases hy:(y== n)=true
    .rw[hy] at e;have:y=n:=by simpa using hy
     subst this;cases e;exact .inr ⟨n8,rfl⟩
    .rw[xV] at hy;rw[hy] at e;exact .inl e
   .rw[if_neg (by simpa using hk)] at e;exact .inl e
  .exact .inr ⟨iY _ h1,h2⟩
theorem p8:∀{names:List (Str×NameKind)}{cs:List (Str×Addr)}{y:Str},((y,NameKind.free)∈names\/∃c,cs.lookup y=some c)->∃c,(cu env names cs).lookup y=some c
 |[],cs,y,h=>by
  rcases h with h|h
  .cases h
  .exact h
 |(n,k)::r,cs,y,h=>by
  rw[cu];refine p8 ?_;rcases h with h|⟨c,h⟩
  .rcases eZ.mp h with h|h
   .cases h;refine .inr ⟨(env.cells.lookup n).getD 0,?_⟩;rw[if_pos (by rfl),di];simp
   .exact .inl h
  .refine .inr ?_;by_cases hk:(k== NameKind.free)=true
   .rw[if_pos hk,di];by_cases hy:(y== n)=true
    .rw[hy];exact⟨_,rfl⟩
    .rw[xV] at hy;rw[hy];exact⟨c,h⟩
   .rw[if_neg hk];exact⟨c,h⟩
noncomputable def cO(N:List Str)(x:List Str):List Str:=(N.map fun y=>if y∈x then ("" : Str) else y)++x
structure gj(N:List Str)(outer:Scope)(x:List Str)(sc:Scope):Prop where
 kind:sc.kind=.function
 R5:outer.kind=.function
 wm:∀y∈sc.names,y.2≠.cell
 locs:∀y∈sc.names,y.2=.local->sc.names.lookup y.1=some .local
 kS:∀y∈x,sc.names.lookup y=some .local
 only:∀y k,sc.names.lookup y=some k->k=.local->y∈N->y∈x
 free:∀y∈sc.names,y.2=.free->outer.names.lookup y.1=some .cell\/outer.names.lookup y.1=some .free
 HU:sc.names.lookup ("" : Str)=none
def bc(X:Cx)(scope:Scope)(C:Addr)(x:List Str)(s:Shared)(H:L2.Hp)(pins:aE)(fp:List Addr):Cx:=
 {X with N:=cO X.N x,aG:=s,jW:=H,env:=compEnvC scope (cu X.env scope.names []) C X.env,outer:=X.stack,stack:=X.stack,ex:=fp,fn:=fun _=>false,pn:=X.pn++pins,xe:=fun _ _=>False}
theorem lookup_mem{l:List (Str×NameKind)}{y:Str}{k:NameKind}(h:l.lookup y=some k):(y,k)∈l:=gX h
theorem ig{env:Env}{y:Str}{k:NameKind}:∀{names:List (Str×NameKind)},(names.map fun (n,k)=>if (k== NameKind.free&&env.scope.kind== .function&&env.kindOf n== some .cell) then (n,NameKind.cell) else (n,k)).lookup y=some k->
  ∃k',names.lookup y=some k'/\(k=k'\/(k=.cell/\k'=.free))
 |[],h=>by simp at h
 |(n,j)::r,h=>by
  rw[gz,di] at h;by_cases hc:(j== NameKind.free&&env.scope.kind== .function&&env.kindOf n== some .cell)=true
  .rw[if_pos hc] at h;by_cases hy:(y== n)=true
   .simp only[hy] at h;cases h;refine⟨j,by rw[di,hy],.inr ⟨rfl,?_⟩⟩;simp only[ao,gS] at hc;exact hc.1.1
   .rw[xV] at hy;simp only[hy] at h;obtain⟨k',h1,h2⟩:=ig h;exact⟨k',by rw[di,hy];exact h1,h2⟩
  .rw[if_neg hc] at h;by_cases hy:(y== n)=true
   .simp only[hy] at h;cases h;exact⟨_,by rw[di,hy],.inl rfl⟩
   .rw[xV] at hy;simp only[hy] at h;obtain⟨k',h1,h2⟩:=ig h;exact⟨k',by rw[di,hy];exact h1,h2⟩
section
variable {X:Cx}{E:XK}{pins:aE}{σ:L2.St}{H:L2.Hp}{s:Shared}{scope:Scope}{x:List Str}
theorem ya(I:Inv X pins σ H s)(cs:gj X.N X.env.scope x scope):∀y∈scope.names,y.2=.free->∃c,X.env.cells.lookup y.1=some c:=fun y hy hf=>by
 rcases cs.free y hy hf with h|h
 .exact I.ok.has y.1 (.inl h)
 .exact I.ok.has y.1 (.inr h)
theorem fM(I:Inv X pins σ H s)(cs:gj X.N X.env.scope x scope)(e:(cu X.env scope.names []).lookup y=some c):X.env.cells.lookup y=some c:=by
 rcases tH e with e|⟨h1,h2⟩
 .simp at e
 .obtain⟨c',hc⟩:=ya I cs _ h1 rfl;dsimp only at hc;rw[hc] at h2⊢;cases h2;rfl
theorem BB{h':Heap}{t':Nat}(I:Inv X pins σ H s)(cs:gj X.N X.env.scope x scope){fp:List Addr}(hf:∀b∈fp,fY X pins H b)(hlt:∀b∈fp,b<s.heap.objs.size)
  (ns:h'.Ns s.heap.objs.size fun _=>none) (kp:∀b o,s.heap.get? b=some o->h'.get? b=some o):
  Inv (bc X scope s.heap.objs.size x s H pins fp) [] (σ++List.replicate x.length none) H {s with heap:=h',toks:=t'} where
 ok:={
  mod:=I.ok.mod
  kind:=cs.kind
  glob:=I.ok.glob
  blt:=I.ok.blt
  above:=aA _
  inj:=fun y z c h1 h2=>I.ok.inj y z c (fM I cs h1) (fM I cs h2)
  has:=fun y hy=>by
   have hy:(relabel scope X.env).names.lookup y=some .cell\/(relabel scope X.env).names.lookup y=some .free:=hy;refine p8 (.inl ?_);have fr:∀k,(k=.cell\/k=.free)->(relabel scope X.env).names.lookup y=some k->(y,NameKind.free)∈scope.names:=fun k hk e=>by
    obtain⟨k',e',h⟩:=ig (env:=X.env) e;have m:=lookup_mem e';rcases h with h|⟨_,h⟩
    .subst h;rcases hk with hk|hk
     .exact absurd hk (cs.wm _ m)
     .rw[<-hk];exact m
    .rw[<-h];exact m
   rcases hy with hy|hy
   .exact fr _ (.inl rfl) hy
   .exact fr _ (.inr rfl) hy
  rG:=fun y c h=>nomatch h
  hd:=I.ok.hd
  frames:=I.ok.frames
  uU:=.inl rfl
  AI:=fun b hb=>⟨cV (hlt b hb),fun y c e=>(hf b hb).2.2.2.2.1 y c (fM I cs e)⟩
  bs:=I.bs
  lC:=bG I.ok.lC I.sz
  mP:=fun b o e z=>by
   rcases (hf b z).2.2.2.1 with w|w
   .exact I.ok.mP b o e w
   .exact absurd (bT (bw e) (bG I.ok.lC w)) (pX _)
  pU:=fun b hb z=>by
   rcases eZ.mp (I.j5 b z) with w|w
   .exact (hf b hb).2.1 w
   .exact (hf b hb).2.2.1 w
  fK:=I.stack
  nF:=I.iB}
 os:=rfl
 bare:=I.bare
 base:=Un.kept kp
 loc:=by
  refine⟨_,ns,fun i y v e1 e2 e3=>?_⟩;have hl:i<σ.length:=by
   rcases rN i σ.length with z|z
   .exact z
   .rw[lQ z,zd] at e2;split at e2<;>cases e2
  rw[e9 hl] at e2;have hN:i<X.N.length:=by rw[<-I.len];exact hl
  have e1:(cO X.N x)[i]?=some y:=e1;unfold cO at e1;rw[e9 (by simpa using hN),kO,kH hN] at e1;have e1:(if X.N[i]∈x then ("" : Str) else X.N[i])=y:=by simpa using e1
  have hv:∃k,(relabel scope X.env).names.lookup y=some k:=by
   rcases e3 with e3|e3|e3
   .exact⟨_,e3⟩
   .exact⟨_,e3⟩
   .exact⟨_,e3⟩
  obtain⟨k,hk⟩:=hv;obtain⟨k',hk',hkk⟩:=ig (env:=X.env) hk;by_cases hx:X.N[i]∈x
  .rw[if_pos hx] at e1;rw[<-e1,cs.HU] at hk';cases hk'
  .rw[if_neg hx] at e1;have yN:y∈X.N:=by rw[<-e1];exact vH _
   have hfree:k'=.free/\(k=.cell\/k=.free):=by
    have hne:k'≠.local:=fun z=>hx (by rw[e1];exact cs.only y k' hk' z yN);have hnc:k'≠.cell:=fun z=>cs.wm _ (lookup_mem hk') z;rcases e3 with e3|e3|e3
    .have e3:(relabel scope X.env).names.lookup y=some .local:=e3;rw[hk] at e3;cases e3;rcases hkk with z|⟨z,_⟩
     .exact absurd z.symm hne
     .cases z
    .have e3:(relabel scope X.env).names.lookup y=some .cell:=e3;rw[hk] at e3;cases e3;rcases hkk with z|⟨_,z⟩
     .exact absurd z.symm hnc
     .exact⟨z,.inl rfl⟩
    .have e3:(relabel scope X.env).names.lookup y=some .free:=e3;rw[hk] at e3;cases e3;rcases hkk with z|⟨z,_⟩
     .exact⟨z.symm,.inr rfl⟩
     .cases z
   have m:=lookup_mem hk';rw[hfree.1] at m;have lI:m8 X.env.scope y:=by
    rcases cs.free _ m rfl with z|z
    .exact .inr (.inl z)
    .exact .inr (.inr z)
   obtain⟨mm,hns,hl⟩:=I.loc;obtain⟨u,ru,lk⟩:=hl i y v (by rw[kH hN,e1]) e2 lI;refine⟨u,ru,.inr ⟨?_,?_⟩⟩
   .rcases hfree.2 with z|z
    .exact .inl (by rw[<-z];exact hk)
    .exact .inr (by rw[<-z];exact hk)
   .rcases lk with ⟨z,_⟩|⟨_,c,ec,hc⟩
    .exfalso;have z:X.env.scope.names.lookup y=some .local:=z;rcases cs.free _ m rfl with w|w
     .have w:X.env.scope.names.lookup y=some .cell:=w;rw[z] at w;cases w
     .have w:X.env.scope.names.lookup y=some .free:=w;rw[z] at w;cases w
    .obtain⟨c',ec'⟩:=p8 (env:=X.env) (names:=scope.names) (cs:=[]) (y:=y) (.inl m);have:=fM I cs ec';rw[ec] at this;cases this;refine⟨c,ec',?_⟩;obtain⟨o,ho,hd⟩:=hc;exact⟨o,kp _ _ ho,hd⟩
 cell:=fun y c e=>by
  obtain⟨v,o,ho,hd⟩:=I.cell y c (fM I cs e);exact⟨v,o,kp _ _ ho,hd⟩
 free:=I.av.fresh (aA _)
 eN:=fun y c e=>I.eN y c (fM I cs e)
 pin:=fun p hp=>by
  have hp:p∈(X.pn++pins)++[]:=hp;rw[eX] at hp;obtain⟨h1,h2,h3,h4,h5⟩:=I.pin p hp;refine⟨kp _ _ h1,h2,cV (bw h1),fun z=>?_,h5⟩;rcases eZ.mp (I.j5 p.1 z) with w|w
  .exact h3 w
  .exact h4 w
 av:=I.av.kept kp
 len:=by show (σ++List.replicate x.length none).length=(cO X.N x).length;unfold cO;simp[I.len]
end
abbrev tI(K:Zk)(d:Tw.Env->Tw.Hp->Tw.R Tw.Src):TI:=tG K (fun K ι n H src J=>fR K J src ι n H) d
section
variable {X:Cx}{E:XK}{a b:Expr}{pos:Pos}{da db:Tw.Env->Tw.Hp->Tw.R Tw.W}
theorem PI.imp(p:PI X tg iter w)(f:∀σ H R,w' σ H R->w σ H R):PI X tg iter w':=fun pins s σ H R I q=>p pins s σ H R I (f σ H R q)
theorem MB(ha:PE X a (tE (zx X E) da)):PI X tg a (tI (zx X E) fun ρ h=>(da ρ h).bind fun x h=>Tw.R.of (Tw.src h x) h):=by
 refine PI.imp (PI.or (Fy ha) (HP ha)) fun σ H R Z=>Z.k3 fun ρ h ι at' p=>?_;dsimp only at p;cases e0:da ρ h with
 |bad=>rw[e0] at p;exact p.elim
 |aI=>rw[e0] at p;refine .inr ⟨ρ,h,ι,at',?_⟩;rw[e0];exact p
 |ok w h1=>
  rw[e0] at p;simp only[Tw.R.aW] at p;cases w with
  |tup ws=>
   refine .inr ⟨ρ,h,ι,at',?_⟩;rw[e0];intro ι1 H1 x e1 r1 rx;cases rx with
   | @tup ad xs _ ea ra=>exact⟨ad,rfl,⟨xs,TupAt.sq ea⟩,p ι1 H1 _ e1 r1 (.inl ⟨ad,xs,ws,rfl,rfl,ea,ra⟩)⟩
  |ref i=>
   cases e2:Tw.dS h1 i with
   |none=>
    have:Tw.src h1 (.ref i)=none:=by
     unfold Tw.dS at e2;simp only[Tw.src];split at e2
     .cases e2
     .cases e2
     .rfl
    rw[this] at p;exact p.elim
   |some ws0=>
    have:Tw.src h1 (.ref i)=some (.at i ws0.length):=by
     unfold Tw.dS at e2;simp only[Tw.src];split at e2
     .cases e2;rfl
     .cases e2;rfl
     .cases e2
    rw[this] at p;refine .inl ⟨ρ,h,ι,at',?_⟩;rw[e0];intro ι1 H1 x e1 r1 rx;cases rx with
    |ref hi=>
     obtain⟨xs0,sq0,_⟩:=r1.at e2;exact⟨_,rfl,⟨xs0,sq0⟩,p ι1 H1 _ e1 r1 (.inr (.inr (.inl ⟨i,_,_,rfl,rfl,rfl,hi⟩)))⟩
  |_=>exact p.elim
theorem LX(hgl:Gl X "range")(hm:X.mg "range" = none)(ha:PE X a (tE (zx X E) da))(hst:starEach [a] X.env=[(false,eval a X.env)]):
  PI X tg (.Call (.Name "range" p1) [a] [] pos2) (tI (zx X E) fun ρ h=>(da ρ h).bind fun x h=>match x with
   |.int j=>if Tw.cy j then .ok (.fix (Tw.upTo 0 j.toNat)) h else .bad
   |_=>.bad):=by
 refine PI.imp (AE hgl hm (bD ha cZ hst) hst) fun σ H R Z=>Z.k3 fun ρ h ι at' p=>?_;refine⟨ρ,h,ι,at',(step at' p).mono fun x H1 Z=>Z.k4 fun w h1 ι1 at1 e1 r1 p1=>?_⟩;cases r1 with
 |int j=>
  dsimp only at p1;by_cases c:Tw.cy j=true
  .rw[if_pos c] at p1;simp only[Tw.cy,ao,ax] at c;exact⟨j,rfl,c.1,c.2,ak.self (a:=Tw.Src.fix (Tw.upTo 0 j.toNat)) p1 at1.hr (.inr (.inl ⟨0,j.toNat,rfl,rfl⟩))⟩
  .rw[if_neg c] at p1;exact p1.elim
 |_=>exact p1.elim
end
theorem Kh(hgl:Gl X "range")(hm:X.mg "range" = none)(ha:PE X a (tE (zx X E) da))(hb':PE X b (tE (zx X E) db))(hst:starEach [a,b] X.env=[(false,eval a X.env),(false,eval b X.env)])(hst2:starEach [b] X.env=[(false,eval b X.env)]):
  PI X tg (.Call (.Name "range" p1) [a,b] [] pos2) (tI (zx X E) fun ρ h=>(da ρ h).bind fun x h=>(db ρ h).bind fun y h=>match x,y with
   |.int i,.int j=>if Tw.cy i&&Tw.cy j then .ok (.fix (Tw.upTo i (j-i).toNat)) h else .bad
   |_,_=>.bad):=by
 refine PI.imp (BV hgl hm (bD ha (bD hb' cZ hst2) (by rw[hst,hst2])) hst hst2) fun σ H R Z=>Z.k3 fun ρ h ι at' p=>?_;refine⟨ρ,h,ι,at',(step at' p).mono fun x H1 Z=>Z.k4 fun w h1 ι1 at1 e1 r1 p1=>⟨ρ,h1,ι1,at1,(step at1 p1).mono fun y H2 Z=>Z.k4 fun u h2 ι2 at2 e2 r2 p2=>?_⟩⟩;cases r1 with
 |int i=>
  cases r2 with
  |int j=>
   dsimp only at p2;by_cases c:(Tw.cy i&&Tw.cy j)=true
   .rw[if_pos c] at p2;simp only[Tw.cy,ao,ax] at c;exact⟨i,j,rfl,⟨c.1.1,c.1.2,c.2.1,c.2.2⟩,ak.self (a:=Tw.Src.fix (Tw.upTo i (j-i).toNat)) p2 at2.hr (.inr (.inl ⟨i,_,rfl,rfl⟩))⟩
   .rw[if_neg c] at p2;exact p2.elim
  |_=>exact p2.elim
 |_=>cases u<;>exact p2.elim
theorem sR{k:Tw.W->List Tw.W->Tw.Hp->Tw.R (List Tw.W)}(hk:∀w acc h acc' h',k w acc h=.ok acc' h'->acc.length<=acc'.length):
  ∀(ws acc:List Tw.W)(h:Tw.Hp)(acc':List Tw.W)(h':Tw.Hp),Tw.fS k ws acc h=.ok acc' h'->acc.length<=acc'.length
 |[],acc,h,acc',h',e=>by cases e;exact aA _
 |w::ws,acc,h,acc',h',e=>by
  rw[Tw.fS] at e;cases e1:k w acc h with
  |bad=>rw[e1] at e;cases e
  |aI=>rw[e1] at e;cases e
  |ok acc1 h1=>
   rw[e1] at e;exact bG (hk _ _ _ _ _ e1) (sR hk ws acc1 h1 acc' h' e)
theorem Cf{k:Tw.W->List Tw.W->Tw.Hp->Tw.R (List Tw.W)}(hk:∀w acc h acc' h',k w acc h=.ok acc' h'->acc.length<=acc'.length):
  ∀(m i:Nat)(acc:List Tw.W)(h:Tw.Hp)(acc':List Tw.W)(h':Tw.Hp),Tw.dD a k m i acc h=.ok acc' h'->acc.length<=acc'.length:=by
 intro m
 induction m with
 |zero=>
  intro i acc h acc' h' e;unfold Tw.dD at e;split at e
  .cases e
  .split at e
   .cases e;exact aA _
   .cases e
 |succ m ih=>
  intro i acc h acc' h' e;unfold Tw.dD at e;split at e
  .cases e
  .split at e
   .cases e;exact aA _
   .next w _=>
    dsimp only at e;cases e1:k w acc h with
    |bad=>rw[e1] at e;cases e
    |aI=>rw[e1] at e;cases e
    |ok acc1 h1=>
     rw[e1] at e;exact bG (hk _ _ _ _ _ e1) (ih (i+1) acc1 h1 acc' h' e)
theorem Iq{k:Tw.W->List Tw.W->Tw.Hp->Tw.R (List Tw.W)}(hk:∀w acc h acc' h',k w acc h=.ok acc' h'->acc.length<=acc'.length)
  (e:wk src k i m acc h=.ok acc' h'):acc.length<=acc'.length:=by
 cases src with
 |fix ws=>exact sR hk _ _ _ _ _ e
 | «at» a n=>exact Cf hk _ _ _ _ _ _ e
 |rv a n=>cases e
noncomputable def cK(un:Tw.W->Option (List Tw.W))(c:Tw.Env->Tw.Hp->Tw.R (Option Tw.W))(elt:Tw.Env->Tw.Hp->Tw.R Tw.W)(σ:Tw.Env)(x:Tw.W)(acc:List Tw.W)(h:Tw.Hp):Tw.R (List Tw.W):=match un x with
 |none=>.bad
 |some ws=>(c (σ++ws.map some) h).fA.bind fun t h=>match Tw.lD h t with
  |none=>.bad
  |some true=>(elt (σ++ws.map some) h).fA.bind fun y h=>.ok (acc++[y]) h
  |some false=>.ok acc h
def JB(w:Tw.W):Option (List Tw.W):=some [w]
theorem AY{un:Tw.W->Option (List Tw.W)}{dc:Tw.Env->Tw.Hp->Tw.R (Option Tw.W)}{de:Tw.Env->Tw.Hp->Tw.R Tw.W}(w:Tw.W)(acc:List Tw.W)(h:Tw.Hp)(acc':List Tw.W)(h':Tw.Hp)(e:cK un dc de ρ w acc h=.ok acc' h'):acc.length<=acc'.length:=by
 unfold cK at e;cases e0:un w with
 |none=>rw[e0] at e;cases e
 |some ws=>
  rw[e0] at e;dsimp only at e;cases e1:dc (ρ++ws.map some) h with
  |bad=>rw[e1] at e;cases e
  |aI=>rw[e1] at e;cases e
  |ok t h1=>
   rw[e1] at e;simp only[Tw.R.om,Tw.R.aW] at e;split at e
   .cases e
   .cases e2:de (ρ++ws.map some) h1 with
    |bad=>rw[e2] at e;cases e
    |aI=>rw[e2] at e;cases e
    |ok y h2=>rw[e2] at e;cases e;simp
   .cases e;exact aA _
theorem sY{k:Tw.W->List Tw.W->Tw.Hp->Tw.R (List Tw.W)}(hk:∀w acc h a h',k w acc h≠.aI a h'):∀(ws acc:List Tw.W)(h:Tw.Hp)(a:Nat)(h':Tw.Hp),Tw.fS k ws acc h≠.aI a h'
 |[],acc,h,a,h',e=>by cases e
 |w::ws,acc,h,a,h',e=>by
  rw[Tw.fS] at e;cases e1:k w acc h with
  |bad=>rw[e1] at e;cases e
  |aI b g=>exact hk _ _ _ _ _ e1
  |ok acc1 h1=>rw[e1] at e;exact sY hk ws acc1 h1 a h' e
theorem B3{k:Tw.W->List Tw.W->Tw.Hp->Tw.R (List Tw.W)}(hk:∀w acc h a h',k w acc h≠.aI a h'):∀(m i:Nat)(acc:List Tw.W)(h:Tw.Hp)(b:Nat)(h':Tw.Hp),Tw.dD a k m i acc h≠.aI b h':=by
 intro m
 induction m with
 |zero=>
  intro i acc h b h' e;unfold Tw.dD at e;split at e
  .cases e
  .split at e<;>cases e
 |succ m ih=>
  intro i acc h b h' e;unfold Tw.dD at e;split at e
  .cases e
  .split at e
   .cases e
   .next w _=>
    dsimp only at e;cases e1:k w acc h with
    |bad=>rw[e1] at e;cases e
    |aI c g=>exact hk _ _ _ _ _ e1
    |ok acc1 h1=>rw[e1] at e;exact ih (i+1) acc1 h1 b h' e
theorem tu{un:Tw.W->Option (List Tw.W)}{dc:Tw.Env->Tw.Hp->Tw.R (Option Tw.W)}{de:Tw.Env->Tw.Hp->Tw.R Tw.W}(w:Tw.W)(acc:List Tw.W)(h:Tw.Hp)(a:Nat)(h':Tw.Hp):cK un dc de ρ w acc h≠.aI a h':=by
 intro e;unfold cK at e;split at e
 .cases e
 .next ws _=>
  cases e1:dc (ρ++ws.map some) h with
  |bad=>rw[e1] at e;cases e
  |aI=>rw[e1] at e;cases e
  |ok t h1=>
   rw[e1] at e;simp only[Tw.R.om,Tw.R.aW] at e;split at e
   .cases e
   .cases e2:de (ρ++ws.map some) h1<;>rw[e2] at e<;>cases e
   .cases e
theorem Jf{un:Tw.W->Option (List Tw.W)}{dc:Tw.Env->Tw.Hp->Tw.R (Option Tw.W)}{de:Tw.Env->Tw.Hp->Tw.R Tw.W}:wk src (cK un dc de ρ) i m acc h≠.aI a h':=by
 cases src with
 |fix ws=>exact sY tu _ _ _ _ _
 | «at» b n=>exact B3 tu _ _ _ _ _ _
 |rv b n=>exact fun e=>nomatch e
theorem At.MN{K:Zk}{ι:Nat->Addr}{h:Tw.Hp}{H:L2.Hp}{ρ:Tw.Env}{σ:L2.St}{ws:List Tw.W}{vs:List V}(a:At K ι h H ρ σ)(r:aL K.K ι h.length H ws vs):At K ι h H (ρ++ws.map some) (σ++vs.map some) where
 hr:=a.hr
 len:=by simp[a.len,r.length]
 st:=fun i u e=>by
  rcases rN i ρ.length with hi|hi
  .rw[e9 hi] at e;rw[e9 (by rw[a.len];exact hi)];exact a.st i u e
  .rw[lQ hi,kO] at e;rw[lQ (by rw[a.len];exact hi),a.len,kO];cases q:ws[i-ρ.length]? with
   |none=>rw[q] at e;cases e
   |some w=>
    rw[q] at e;cases e;obtain⟨v,hv,rv⟩:=r.get q;exact⟨v,by rw[hv];rfl,rv⟩
theorem HR.ex{K:W.Frag}{mg:Str->Option Value}{E E':XK}{ι:Nat->Addr}{h:Tw.Hp}{H:L2.Hp}(r:HR ⟨K,mg,E,cl⟩ ι h H):HR ⟨K,mg,E',cl⟩ ι h H:=⟨fun i o e=>by
 have q:=r.obj i o e;cases o<;>exact q,r.inj,r.tab,r.fn⟩
theorem At.ex{K:W.Frag}{mg:Str->Option Value}{E E':XK}{ι:Nat->Addr}{h:Tw.Hp}{H:L2.Hp}{ρ:Tw.Env}{σ:L2.St}(a:At ⟨K,mg,E,cl⟩ ι h H ρ σ):At ⟨K,mg,E',cl⟩ ι h H ρ σ:=⟨a.hr.ex,a.len,a.st⟩
def mZ(K:Zk)(n k:Nat)(g:TG)(un:Tw.W->Option (List Tw.W)):Prop:=∀(ι:Nat->Addr)(h:Tw.Hp)(H:L2.Hp)(σ os:L2.St)(w:Tw.W)(v:V)(ws:List Tw.W)(Q:L2.St->L2.Hp->Prop),
 σ.length=n->os.length=k->RW K.K ι h.length H w v->un w=some ws->(∀vs,aL K.K ι h.length H ws vs->vs.length=k->Q (σ++vs.map some) H)->g v (σ++os) H Q
theorem vn(K:Zk)(n:Nat):mZ K n 1 (gv n) JB:=fun ι h H σ os w v ws Q h1 h2 r e q=>by
 cases e
 match os,h2 with
 |[o],_=>
  show Q _ H;rw[<-h1,List.set_append_right _ _ (aA _)];simpa using q [v] (.cons r .nil) rfl
section
variable {X:Cx}{E:XK}{pins:aE}{σ σ':L2.St}{H Hc:L2.Hp}{s s1:Shared}{scope:Scope}{x:List Str}{fp:List Addr}
theorem sX(I:Inv X pins σ H s)(hf:∀b∈fp,fY X pins H b)(J:Inv (bc X scope s.heap.objs.size x s H pins fp) [] σ' Hc s1)(hs:Heap.SameBut s.heap.objs.size s1.heap h'):Inv X pins σ Hc {s1 with heap:=h'}:=by
 have ne:∀b o,s.heap.get? b=some o->b≠s.heap.objs.size:=fun b o e=>cV (bw e);have to':∀b o,b≠s.heap.objs.size->s1.heap.get? b=some o->h'.get? b=some o:=fun b o n e=>hs.extBut b o n e;have B:=J.base;have hC:Hc s.heap.objs.size=none:=J.free;have u:Un (a9 X.stack) fp H Hc s.heap h':=by
  refine⟨fun b o e n h1 h2=>to' b o (ne b o e) (B.keep b o e n h1 h2),fun b o e n h1 h2=>?_,B.free,fun b o e h2=>?_,B.gg,B.fI,B.fL⟩
  .obtain⟨sl,q⟩:=B.slot b o e n h1 h2;exact⟨sl,to' b _ (ne b o e) q⟩
  .obtain⟨o',q⟩:=B.there b o e h2;exact⟨o',to' b o' (ne b o e) q⟩
 have av:dB X.prog X.w Hc h':=fun b v e=>by
  refine (J.av b v e).fG (fun c w hc q=>to' c w ?_ q) (fun _ q=>q) fun _ _ q=>q;rcases hc with z|z
  .rw[z];intro z';rw[z',hC] at e;cases e
  .intro z';rw[z',hC] at z;cases z
 have os:s1.os=s.os:=J.os;obtain⟨hh,g,d,t,os'⟩:=s1;cases os;have fin:=L2.Inv.call (s:=s) (h':=h') (g':=g) (d':=d) (t':=t) (ch:=fp) I u av J.bare fun b hb=>⟨(hf b hb).2.2.2.1,(hf b hb).2.1,(hf b hb).2.2.2.2.1,(hf b hb).2.2.2.2.2⟩;exact fin
end
def rE(X:Cx)(scope:Scope)(x:List Str)(ifs:List Expr)(dc:Tw.Env->Tw.Hp->Tw.R (Option Tw.W)):Prop:=
 (ifs=[]/\∀ρ h,dc ρ h=.ok none h)\/∃c d,ifs=[c]/\(∀ρ h,dc ρ h=(d ρ h).bind fun w h=>.ok (some w) h)/\∀C s H pins fp,PT (bc X scope C x s H pins fp) c (tT (zx X E0) d)
section
variable {X:Cx}{E:XK}{elt iter tg:Expr}{x:List Str}{pos:Pos}{g:TG}{un:Tw.W->Option (List Tw.W)}{ifs:List Expr}{scope:Scope}{dit:Tw.Env->Tw.Hp->Tw.R Tw.Src}{dc:Tw.Env->Tw.Hp->Tw.R (Option Tw.W)}{de:Tw.Env->Tw.Hp->Tw.R Tw.W}
theorem E6(I:Inv X pins σ H3 s3)(cs:gj X.N X.env.scope x scope)(f3:∀b∈fp,fY X pins H3 b)(lt3:∀b∈fp,b<s3.heap.objs.size)(fz:∀b∈fp,Hc b=none):
  ∀b∈fp,fY (bc X scope s3.heap.objs.size x s3 H3 pins fp) [] Hc b:=fun b hb=>by
 obtain⟨_,f1,f2,_,f4,f5⟩:=f3 b hb;refine⟨fz b hb,cV (lt3 b hb),fun z=>?_,.inl hb,fun y c e=>f4 y c (fM I cs e),fun p hp=>?_⟩
 .rcases eZ.mp (I.j5 b z) with w|w
  .exact f1 w
  .exact f2 w
 .have hp:p∈(X.pn++pins)++[]:=hp;rw[eX] at hp;exact f5 p hp
theorem uD{K K':Zk}{α β γ δ:Type}{R:Rl α β}{R':Rl γ δ}{ι ι0:Nat->Addr}{h h0:Tw.Hp}{H H0:L2.Hp}{m:Tw.R α}{k:α->Tw.Hp->Tw.R γ}{Q:δ->L2.Hp->Prop}(p:ak K R' ι0 h0 H0 (m.fA.bind k) Q):
  ak K' R ι h H m (fun b H'=>∃a h' ι',m=.ok a h'/\Ext ι h H ι' h' H'/\HR K' ι' h' H'/\R K'.K ι' h'.length H' a b):=by
 cases m with
 |ok w h1=>exact fun ι' H' b e r q=>⟨w,h1,ι',rfl,e,r,q⟩
 |aI=>exact p.elim
 |bad=>exact p
theorem vy{K:Zk}{α β γ δ:Type}{R':Rl γ δ}{ι0:Nat->Addr}{h0:Tw.Hp}{H0:L2.Hp}{m:Tw.R α}{f:α->Tw.Hp->Tw.R β}{g:β->Tw.Hp->Tw.R γ}{Q:δ->L2.Hp->Prop}(p:ak K R' ι0 h0 H0 ((m.bind f).bind g) Q):ak K R' ι0 h0 H0 (m.bind fun a h=>(f a h).bind g) Q:=by cases m<;>exact p
theorem zH{R:Result->Shared->Prop}(I:Nat->Shared->Prop)
  (turn:∀n s,I n s->wpAny (model prog w) A (pyNext it) (fun r s1=>match r with
   |none=>R (.ok .next) s1
   |some v=>wpAny (model prog w) A (letOwnedTupleGo target it v) (fun _ sg=>wpAny (model prog w) A (assign target env v) (fun _ s2=>
     wpAny (model prog w) A (forIn ifs true fun c r=>if r=true then do let ok <-isTrue c env (eval c env);pure (ForInStep.yield ok) else pure (ForInStep.yield r)) (fun ok s3=>
      if ok=true then wpAny (model prog w) A (eval elt env) (fun x s4=>
       wpAny (model prog w) A (call (.builtin "list.append") [acc,x]) (fun _ s5=>∃m,m<n/\I m s5) (fun _ _=>False) s4) (fun _ _=>False) s3
      else ∃m,m<n/\I m s3) (fun _ _=>False) s2) (fun _ _=>False) sg) (fun _ _=>False) s1) (fun _ _=>False) s)
  (n:Nat) (h:I n s):codeAny (model prog w) A (.compLoop (.ListComp elt [⟨target,iter,ifs,0⟩] scope pos) 0 it acc env) R s:=by
 have no:∀{α:Type}{t:Sem α}{Q1:α->Shared->Prop}{E1:aO}{s0:Shared},wpAny (model prog w) A t Q1 (fun _ _=>False) s0->wpAny (model prog w) A t Q1 E1 s0:=fun h=>iK h (fun _ _ q=>q) fun _ _ f=>f.elim;refine codeAny_loop rfl I (fun n s hI=>?_) n h;show wpAny _ A ((compTurn (.ListComp elt [⟨target,iter,ifs,0⟩] scope pos) 0 it acc env).onRaise (fun x=>do noteFrame x env;theTreesLotGoes x)) _ _ s;refine wpAny_noted ?_;rw[compTurn_list];refine ag (qU (ag (az (no (turn n s hI)) fun r s1 h1=>?_)));cases r with
 |none=>exact aC h1
 |some v=>
  refine ag (az (no h1) fun _ sg hg=>ag (az (no hg) fun _ s2 h2=>ag (az (no h2) fun ok s3 h3=>?_)));cases ok with
  |false=>exact aC ⟨rfl,h3⟩
  |true=>exact ag (ag (az (no h3) fun x s4 h4=>ag (az (no h4) fun _ s5 h5=>aC (aC ⟨rfl,h5⟩))))
theorem Keeps.trans{ι ι1 ι2:Nat->Addr}(a:Keeps ι n H ι1 n1 H1)(b:Keeps ι1 n1 H1 ι2 n2 H2):Keeps ι n H ι2 n2 H2:=
 ⟨bG a.le b.le,fun i hi=>(b.same i (bT hi a.le)).trans (a.same i hi),fun c xs e=>b.tup c xs (a.tup c xs e)⟩
theorem Ap{pins:aE}{s3:Shared}{H2 H3:L2.Hp}{fp:List Addr}{σ:L2.St}{ρ:Tw.Env}{ι1:Nat->Addr}{h1:Tw.Hp}{D it:Addr}{tn:Nat->Heap->Prop}{J:It}{src:Tw.Src}{Q:VK}{h4:Heap}{t4:Nat}
  (hc:X.calm=true) (cs:gj X.N X.env.scope x scope) (hpg:∀C s H pins fp,PG (bc X scope C x s H pins fp) tg g) (hbd:mZ (zx X E) X.N.length x.length g un) (hel:∀C s H pins fp,PE (bc X scope C x s H pins fp) elt (tE (zx X E0) de)) (hts:rE X scope x ifs dc)
  (I3:Inv X pins σ H3 s3) (hD:H3 D=some (.lst [])) (fresh:H2 D=none) (x3:Ext ι1 h1 H2 ι1 h1 H3) (at3:At (zx X E) ι1 h1 H3 ρ σ) (ao:eK ι1 h1 D) (fd3:fR X.K J src ι1 h1.length H3)
  (p1:ak (zx X E) RE ι1 h1 H2 ((wk src (cK un dc de ρ) 0 (jR src) [] h1).bind Tw.f7) Q) (T:Turn X.prog X.w X.K tg J fp it tn) (st3:tn 0 s3.heap) (f3:∀b∈fp,fY X pins H3 b) (lt3:∀b∈fp,b<s3.heap.objs.size)
  (ns:h4.Ns s3.heap.objs.size fun _=>none) (kp:∀b o,s3.heap.get? b=some o->h4.get? b=some o)
  {RR:Result->Shared->Prop} (hR:∀s1 Hc σ',Inv (bc X scope s3.heap.objs.size x s3 H3 pins fp) [] σ' Hc s1->Q (.ref D) Hc->RR (.ok .next) s1):
  codeAny (model X.prog X.w) X.A (.compStart (.ListComp elt [⟨tg,iter,ifs,0⟩] scope pos) 0 (.ref it) (.ref D) (compEnvC scope (cu X.env scope.names []) s3.heap.objs.size X.env))
   RR {s3 with heap:=h4,toks:=t4}:=by
 have I4:Inv (bc X scope s3.heap.objs.size x s3 H3 pins fp) [] (σ++List.replicate x.length none) H3 {s3 with heap:=h4,toks:=t4}:=BB I3 cs f3 lt3 ns kp;have st4:tn 0 h4:=T.keep 0 _ _ st3 fun b _ o e=>kp b o e;have loop:codeAny (model X.prog X.w) X.A (.compLoop (.ListComp elt [⟨tg,iter,ifs,0⟩] scope pos) 0 (.ref it) (.ref D) (compEnvC scope (cu X.env scope.names []) s3.heap.objs.size X.env))
   RR {s3 with heap:=h4,toks:=t4}:=by
  refine zH (fun n s'=>∃i acc ys hh ι' Hc o,Inv (bc X scope s3.heap.objs.size x s3 H3 pins fp) [] (σ++o) Hc s'/\o.length=x.length/\tn i s'.heap/\(∀b∈fp,Hc b=none)/\Hc D=some (.lst ys)/\eK ι' hh D/\
   At (zx X E) ι' hh Hc ρ σ/\Ext ι1 h1 H2 ι' hh Hc/\aL X.K ι' hh.length Hc acc ys/\fR X.K J src ι' hh.length Hc/\cnt src i n/\
   ak (zx X E) RE ι1 h1 H2 ((wk src (cK un dc de ρ) i n acc hh).bind Tw.f7) Q) ?_ (jR src)
   ⟨0,[],[],h1,ι1,H3,_,I4,by simp,st4,fun b hb=>(f3 b hb).1,hD,ao,at3,x3,.nil,fd3,tq src,p1⟩
  rintro n s' ⟨i,acc,ys,hh,ι',Hc0,o,J1,lo,tn1,fz,hDc0,dW,at50,ex0,rr0,fd0,hm,pp⟩
  have fpo:=E6 (Hc:=Hc0) I3 cs f3 lt3 fz;rcases FR at50.hr fd0 (cK un dc de ρ) i n acc hm with bad|⟨stop,e⟩|⟨w,m,em,go,hy,hm',e⟩
  .rw[bad] at pp;exact pp.elim
  . -- the end
   refine az (T.done (bc X scope s3.heap.objs.size x s3 H3 pins fp) rfl rfl rfl hc i [] s' _ Hc0 _ J1 fpo tn1 stop) fun r s1 Z=>Z.g fun er J2=>?_;subst er;rw[e] at pp;refine hR s1 Hc0 _ J2 ?_;have pp:ak (zx X E) RE ι1 h1 H2 (if acc.length<=Tw.SZ then Tw.new (.lst acc) hh else .bad) Q:=pp;by_cases c:acc.length<=Tw.SZ
   .rw[if_pos c] at pp;have hr':=at50.hr.adopt (u:=.lst acc) dW hDc0 rfl fun ι'' n'' k=>⟨ys,hDc0,rr0.keep k⟩;have z:RW X.K (cM ι' hh.length D) (hh++[Tw.O.lst acc]).length Hc0 (.ref hh.length) (.ref (cM ι' hh.length D hh.length)):=.ref (by simp);rw[bY] at z;exact pp _ _ _ (ex0.adopt fresh) hr' z
   .rw[if_neg c] at pp;exact pp.elim
  . -- a turn
   subst em;refine az (T.item (bc X scope s3.heap.objs.size x s3 H3 pins fp) rfl rfl rfl hc i [] s' _ Hc0 _ J1 fpo tn1 go) fun r s1 Z=>Z.g fun u Z=>Z.g fun er hl=>?_;subst er;refine az hl fun _ s1 Z=>Z.g fun v Z=>Z.g fun Hc Z=>Z.g fun J2 Z=>Z.g fun rv Z=>Z.g fun yl Z=>Z.g fun tn2 fz2=>?_;obtain⟨ry,xy,rw'⟩:=hy v Hc yl;have ky:=xy.keeps at50.hr;have hDc:Hc D=some (.lst ys):=xy.fr D _ hDc0 (fun _ z=>nomatch z) dW;have al:eK ι' hh D:=dW;have at5:At (zx X E) ι' hh Hc ρ σ:=at50.later xy ry;have ex:=ex0.trans xy;have rr:=rr0.keep ky;have fd:=fd0.later ky;have fpo:=E6 (Hc:=Hc) I3 cs f3 lt3 fz2;have J3:=J2.pinned fpo (T.obj _ _ tn2);rw[e] at pp;have pp:=vy pp;have pp':=pp;obtain⟨ws,eu⟩:∃ws,un w=some ws:=by
    cases eu:un w with
    |none=>rw[show cK un dc de ρ w acc hh=.bad by unfold cK;rw[eu]] at pp';exact pp'.elim
    |some ws=>exact⟨ws,rfl⟩
   have q0:cK un dc de ρ w acc hh=((dc (ρ++ws.map some) hh).fA.bind fun t h=>match Tw.lD h t with
     |none=>.bad
     |some true=>(de (ρ++ws.map some) h).fA.bind fun y h=>.ok (acc++[y]) h
     |some false=>.ok acc h):=by
    unfold cK;rw[eu]<;>rfl
   rw[q0] at pp';refine iK (hpg _ _ _ _ _ _ s1 _ Hc v u (fun σ2 H2'=>∃vs,aL X.K ι' hh.length Hc ws vs/\vs.length=x.length/\σ2=σ++vs.map some/\H2'=Hc) J3 rv (hbd ι' hh Hc σ o w v ws _ I3.len lo rw' eu fun vs q1 q2=>⟨vs,q1,q2,rfl,rfl⟩)) (fun _ sa Z=>Z.g fun σ2 Z=>Z.g fun Ha Z=>Z.g fun Ja Z=>Z.g fun vs Z=>Z.g fun rws Z=>Z.g fun lvs Z=>Z.g fun e1 e2=>?_) fun _ _ f=>f.elim;subst e1 e2;have at6:At (zx X E) ι' hh Ha (ρ++ws.map some) (σ++vs.map some):=at5.MN rws;have back:∀{Hb:L2.Hp}{sb:Shared}{acc':List Tw.W}{ys':List V}{hb:Tw.Hp}{ι2:Nat->Addr},Inv (bc X scope s3.heap.objs.size x s3 H3 pins fp) ([]++j8 fp s1.heap) (σ++vs.map some) Hb sb->Hb D=some (.lst ys')->eK ι2 hb D->
     HR (zx X E) ι2 hb Hb->Ext ι1 h1 H2 ι2 hb Hb->Keeps ι' hh.length Ha ι2 hb.length Hb->aL X.K ι2 hb.length Hb acc' ys'->ak (zx X E) RE ι1 h1 H2 ((wk src (cK un dc de ρ) (i+1) m acc' hb).bind Tw.f7) Q->
     ∃k,k<m+1/\∃i acc ys hh ι' Hc o,Inv (bc X scope s3.heap.objs.size x s3 H3 pins fp) [] (σ++o) Hc sb/\o.length=x.length/\tn i sb.heap/\(∀b∈fp,Hc b=none)/\Hc D=some (.lst ys)/\eK ι' hh D/\
      At (zx X E) ι' hh Hc ρ σ/\Ext ι1 h1 H2 ι' hh Hc/\aL X.K ι' hh.length Hc acc ys/\fR X.K J src ι' hh.length Hc/\cnt src i k/\
      ak (zx X E) RE ι1 h1 H2 ((wk src (cK un dc de ρ) i k acc hh).bind Tw.f7) Q:=fun {Hb sb acc' ys' hb ι2} Jb hDb alb rb exb kb rrb pb=>by
    refine⟨m,vD _,i+1,acc',ys',hb,ι2,Hb,vs.map some,Jb.jQ,by rw[iG];exact lvs,T.keep _ _ _ tn2 fun b hb o e=>(Jb.pin (b,o) (fq _ (fq _ (gU hb e)))).1,fun b hb=>?_,hDb,alb,⟨rb,at5.len,fun j u q=>?_⟩,exb,rrb,fd.later kb,hm',pb⟩
    .obtain⟨o,e,d⟩:=T.obj _ _ tn2 b hb;exact (Jb.pin (b,o) (fq _ (fq _ (gU hb e)))).2.1
    .obtain⟨v',q1,q2⟩:=at5.st j u q;exact⟨v',q1,q2.keep kb⟩
   have elem:∀{Hb:L2.Hp}{sb:Shared}{hb:Tw.Hp}{ι2:Nat->Addr},Inv (bc X scope s3.heap.objs.size x s3 H3 pins fp) ([]++j8 fp s1.heap) (σ++vs.map some) Hb sb->Ext ι' hh Ha ι2 hb Hb->HR (zx X E) ι2 hb Hb->
     ak (zx X E) RE ι1 h1 H2 (((de (ρ++ws.map some) hb).fA.bind fun y h=>(.ok (acc++[y]) h:Tw.R (List Tw.W))).bind fun acc h=>(wk src (cK un dc de ρ) (i+1) m acc h).bind Tw.f7) Q->
     wpAny (model X.prog X.w) X.A (eval elt (compEnvC scope (cu X.env scope.names []) s3.heap.objs.size X.env)) (fun xq s₄=>
      wpAny (model X.prog X.w) X.A (call (.builtin "list.append") [.ref D,xq]) (fun _ s₅=>∃k,k<m+1/\∃i acc ys hh ι' Hc o,Inv (bc X scope s3.heap.objs.size x s3 H3 pins fp) [] (σ++o) Hc s₅/\o.length=x.length/\tn i s₅.heap/\(∀b∈fp,Hc b=none)/\Hc D=some (.lst ys)/\eK ι' hh D/\
      At (zx X E) ι' hh Hc ρ σ/\Ext ι1 h1 H2 ι' hh Hc/\aL X.K ι' hh.length Hc acc ys/\fR X.K J src ι' hh.length Hc/\cnt src i k/\
      ak (zx X E) RE ι1 h1 H2 ((wk src (cK un dc de ρ) i k acc hh).bind Tw.f7) Q) (fun _ _=>False) s₄) (fun _ _=>False) sb:=fun {Hb sb hb ι2} Jb eb rb pb=>by
    have atb:At (zx X E) ι2 hb Hb (ρ++ws.map some) (σ++vs.map some):=at6.later eb rb;have pb':=vy pb;refine az (hel _ _ _ _ _ _ sb _ Hb _ Jb ⟨_,hb,ι2,atb.ex,uD pb'⟩) fun xv s4 Z=>Z.g fun y Z=>Z.g fun Hd Z=>Z.g fun Jd Z=>Z.g fun ry Z=>Z.g fun yw Z=>Z.g fun hd Z=>Z.g fun ι3 Z=>Z.g fun ed Z=>Z.g fun exd Z=>Z.g fun rd rwd=>?_;have rd:HR (zx X E) ι3 hd Hd:=rd.ex;rw[ed] at pb';have pb':ak (zx X E) RE ι1 h1 H2 ((wk src (cK un dc de ρ) (i+1) m (acc++[yw]) hd).bind Tw.f7) Q:=pb';have e3:Ext ι' hh Ha ι3 hd Hd:=eb.trans exd;have hDd:Hd D=some (.lst ys):=e3.fr D _ hDc (fun _ z=>nomatch z) al;have ald:eK ι3 hd D:=al.later e3 (by rw[hDc];exact fun z=>nomatch z);have hlen:acc.length+1<=Tw.SZ:=by
     cases q:wk src (cK un dc de ρ) (i+1) m (acc++[yw]) hd with
     |bad=>rw[q] at pb';exact pb'.elim
     |aI=>exact absurd q Jf
     |ok acc' h'=>
      rw[q] at pb';have pb':ak (zx X E) RE ι1 h1 H2 (if acc'.length<=Tw.SZ then Tw.new (.lst acc') h' else .bad) Q:=pb';by_cases c:acc'.length<=Tw.SZ
      .have:=Iq AY q;rw[kQ,List.length_singleton] at this
       lia
      .rw[if_neg c] at pb';exact pb'.elim
    have kd:Keeps ι3 hd.length Hd ι3 hd.length (upd Hd D (.lst (ys++[y]))):=⟨aA _,fun _ _=>rfl,fun b xs e=>by
     rw[aD (fun z=>by rw[z,hDd] at e;cases e)];exact e⟩
    refine az (tm (X:=bc X scope s3.heap.objs.size x s3 H3 pins fp) _ s4 _ Hd (.ref D) [y] (.ref D) [xv] (fun _ Hn=>Hn=upd Hd D (.lst (ys++[y]))) Jd rfl (.cons ry .nil) ⟨D,ys,y,rfl,rfl,hDd,?_,rfl⟩) fun _ s5 Z=>Z.g fun _ Z=>Z.g fun Hn Z=>Z.g fun Jn Z=>Z.g fun _ eHn=>?_
    .rw[<-rr.length,oq];lia
    .subst eHn;have kk:Keeps ι' hh.length Ha ι3 hd.length (upd Hd D (.lst (ys++[y]))):=(e3.keeps at5.hr).trans kd;exact back Jn bI ald (rd.other ald hDd (fun _ z=>nomatch z) fun _ _ z=>nomatch z) ((ex.trans e3).other fresh hDd) kk ((rr.keep kk).append (.cons (rwd.keep kd) .nil)) pb'
   rcases hts with ⟨rfl,hd0⟩|⟨c,d,rfl,hd1,hpt⟩
   .refine wpAny_tests_nil ?_;rw[if_pos rfl];refine elem Ja (Ext.refl _ _ _) at5.hr ?_;rw[hd0] at pp';exact pp'
   .refine wpAny_tests_one ?_;rw[hd1] at pp';have pt:ak (zx X E) RE ι1 h1 H2 ((dT d (ρ++ws.map some) hh).fA.bind fun b h=>((match b with
      |true=>(de (ρ++ws.map some) h).fA.bind fun y h=>(.ok (acc++[y]) h:Tw.R (List Tw.W))
      |false=>.ok acc h).bind fun acc h=>(wk src (cK un dc de ρ) (i+1) m acc h).bind Tw.f7)) Q:=by
     cases q:d (ρ++ws.map some) hh with
     |bad=>rw[q] at pp';exact pp'.elim
     |aI=>rw[q] at pp';exact pp'.elim
     |ok u hu=>
      rw[q] at pp';simp only[dT,q,Tw.R.aW,Tw.R.om,Tw.lD] at pp'⊢;cases q2:Tw.truth hu u with
      |none=>rw[q2] at pp';exact pp'.elim
      |some b=>
       rw[q2] at pp';cases b<;>exact pp'
    refine az (hpt _ _ _ _ _ _ sa _ Ha _ Ja ⟨_,hh,ι',at6.ex,uD pt⟩) fun bb s4 Z=>Z.g fun Hd Z=>Z.g fun Jd Z=>Z.g fun b Z=>Z.g fun hd Z=>Z.g fun ι3 Z=>Z.g fun ed Z=>Z.g fun exd Z=>Z.g fun rd eb=>?_;have rd:HR (zx X E) ι3 hd Hd:=rd.ex;rw[ed] at pt;have eb:b=bb:=eb;subst eb;cases b with
    |true=>
     rw[if_pos rfl];exact elem Jd exd rd pt
    |false=>
     rw[if_neg (by decide)];exact back Jd (exd.fr D _ hDc (fun _ z=>nomatch z) al) (al.later exd (by rw[hDc];exact fun z=>nomatch z)) rd (ex.trans exd) (exd.keeps at5.hr) (rr.keep (exd.keeps at5.hr)) pt
 exact codeAny_compStart_list loop (T.self _ 0 _ _ _ st4 loop)
end
section
variable {X:Cx}{E:XK}{elt iter tg:Expr}{x:List Str}{pos:Pos}{g:TG}{un:Tw.W->Option (List Tw.W)}{ifs:List Expr}{scope:Scope}{dit:Tw.Env->Tw.Hp->Tw.R Tw.Src}{dc:Tw.Env->Tw.Hp->Tw.R (Option Tw.W)}{de:Tw.Env->Tw.Hp->Tw.R Tw.W}
def vk(un:Tw.W->Option (List Tw.W))(dit:Tw.Env->Tw.Hp->Tw.R Tw.Src)(dc:Tw.Env->Tw.Hp->Tw.R (Option Tw.W))(de:Tw.Env->Tw.Hp->Tw.R Tw.W):Tw.Env->Tw.Hp->Tw.R Tw.W:=
 fun ρ h=>(dit ρ h).bind fun s h=>(Tw.walk s (cK un dc de ρ) h).bind Tw.f7
theorem yz{use:Option (Value->Sem Unit)}{QQ:aO}(I:Inv X pins σ H s)
  (hc:X.calm=true) (cs:gj X.N X.env.scope x scope) (hpg:∀C s H pins fp,PG (bc X scope C x s H pins fp) tg g) (hbd:mZ (zx X E) X.N.length x.length g un) (hi:PI X tg iter (tI (zx X E) dit)) (hs:∀v,foldedSetIterable iter X.env v=pure v)
  (hel:∀C s H pins fp,PE (bc X scope C x s H pins fp) elt (tE (zx X E0) de)) (hts:rE X scope x ifs dc) (q:tE (zx X E) (vk un dit dc de) σ H Q)
  (hR:∀s3 H3 fp D,Inv X pins σ H3 s3->(∀b∈fp,fY X pins H3 b)->∀s1 Hc σ',Inv (bc X scope s3.heap.objs.size x s3 H3 pins fp) [] σ' Hc s1->Q (.ref D) Hc->compPost (model X.prog X.w) X.A X.xe use QQ (.ref D) s3.heap.objs.size (.ok .next) s1):
  wpAny (model X.prog X.w) X.A (comprehension (.ListComp elt [⟨tg,iter,ifs,0⟩] scope pos) scope X.env (firstIterPos [⟨tg,iter,ifs,0⟩] pos) (newList []) false (eval iter X.env) use) QQ X.xe s:=by
 obtain⟨ρ,h,ι,at',p⟩:=q;refine wpAny_comprehension_free rfl hs (qv (ya I cs)) cs.kind cs.locs (az (hi pins s σ H (fun J H'=>∃src h1 ι1,At (zx X E) ι1 h1 H' ρ σ/\Ext ι h H ι1 h1 H'/\fR X.K J src ι1 h1.length H'/\ak (zx X E) RE ι1 h1 H' ((Tw.walk src (cK un dc de ρ) h1).bind Tw.f7) Q) I ⟨ρ,h,ι,at',?_⟩) fun xv s1 h1=>az h1 fun it s2 h2=>?_)
 .exact step at' p
 .obtain⟨it',fp,tn,J,H2,rfl,I2,T,tn0,fpo,src,h1',ι1,at1,e1,fd,p1⟩:=h2;have hf:H2 s2.heap.objs.size=none:=I2.av.fresh (aA _);have I3:Inv X pins σ (upd H2 s2.heap.objs.size (.lst [])) {s2 with heap:=s2.heap.push {cls:=.type "list",data:=.seq #[]},toks:=s2.toks}:=
   I2.laid (fun b u e=>bM _ e) (aA _) ⟨bu _,[],0,.nil,fN _ rfl⟩
  have lt2:∀b∈fp,b<s2.heap.objs.size:=fun b hb=>by
   obtain⟨o,e,_⟩:=T.obj _ _ tn0 b hb;exact bw e
  have f3:∀b∈fp,fY X pins (upd H2 s2.heap.objs.size (.lst [])) b:=fun b hb=>by
   obtain⟨g0,g1⟩:=fpo b hb;exact⟨by rw[aD (cV (lt2 b hb))];exact g0,g1⟩
  refine jn (wpAny_newFunctionEnv cs.wm (by intro y hy;simp at hy) (fun h₁ hns₁ hsb₁=>?_) cs.kind);dsimp only at hns₁ hsb₁⊢;obtain⟨r3,x3⟩:=at1.hr.grow (o:=.lst []) hf;have al:eK ι1 h1' s2.heap.objs.size:=fun i o ei m z=>by
   obtain⟨u,q,_,_⟩:=at1.hr.there ei m;rw[z,hf] at q;cases q
  rw[Dm] at p1;have sz:(s2.heap.push {cls:=.type "list",data:=.seq ([]:List Value).toArray}).objs.size=s2.heap.objs.size+1:=rZ _ _;exact Ap (h4:=h₁) hc cs hpg hbd hel hts I3 bI hf x3 (at1.later x3 r3) al (fd.later (x3.keeps at1.hr)) p1 T (T.keep 0 _ _ tn0 fun b _ o e=>bM _ e) f3 (fun b hb=>by
    show b<(s2.heap.push _).objs.size;rw[sz];exact Nat.lt_succ_of_lt (lt2 b hb)) hns₁
   (fun b o e=>hsb₁.extBut b o (cV (bw e)) (bM _ e)) (hR _ _ fp _ I3 f3)
theorem JX(hc:X.calm=true)(cs:gj X.N X.env.scope x scope)(hpg:∀C s H pins fp,PG (bc X scope C x s H pins fp) tg g)(hbd:mZ (zx X E) X.N.length x.length g un)(hi:PI X tg iter (tI (zx X E) dit))(hs:∀v,foldedSetIterable iter X.env v=pure v)
  (hel:∀C s H pins fp,PE (bc X scope C x s H pins fp) elt (tE (zx X E0) de)) (hts:rE X scope x ifs dc):
  PE X (.ListComp elt [⟨tg,iter,ifs,0⟩] scope pos) (tE (zx X E) (vk un dit dc de)):=by
 intro pins s σ H Q I q;rw[eval_ListComp];refine yz (use:=none) I hc cs hpg hbd hi hs hel hts q fun s3 H3 fp D I3 f3 s1 Hc σ' J q=>?_;obtain⟨mm,hns2,_⟩:=J.loc;exact⟨mm,hns2,fun h' hs'=>⟨.ref D,Hc,sX I3 f3 J hs',rfl,q⟩⟩
theorem IJ(hc:X.calm=true)(cs:gj X.N X.env.scope x scope)(hpg:∀C s H pins fp,PG (bc X scope C x s H pins fp) tg g)(hbd:mZ (zx X E) X.N.length x.length g un)(hi:PI X tg iter (tI (zx X E) dit))(hs:∀v,foldedSetIterable iter X.env v=pure v)
  (hel:∀C s H pins fp,PE (bc X scope C x s H pins fp) elt (tE (zx X E0) de)) (hts:rE X scope x ifs dc) (hN:X.N.Nodup) (hy:X.N[i]?=some y) (hl:X.env.scope.names.lookup y=some .local)
  (hsw:swapsWith (.ListComp elt [⟨tg,iter,ifs,0⟩] scope pos) (some (.Name y py)) spos.line X.env=pure true):
  PS X (.Assign [.Name y py] (.ListComp elt [⟨tg,iter,ifs,0⟩] scope pos) spos) (cN (zx X E) fun ρ h=>(vk un dit dc de ρ h).bind fun w h=>.ok (.next (ρ.set i (some w))) h):=by
 intro pins s σ H D I ⟨ρ,h,ι,at',p⟩;rw[exec_Assign_Name_used _ _ _ _ hsw];refine ag (qU (ag ?_));show wpAny _ _ (do let _ <-comprehension (.ListComp elt [⟨tg,iter,ifs,0⟩] scope pos) scope X.env (firstIterPos [⟨tg,iter,ifs,0⟩] pos) (newList []) false (eval iter X.env) (some (assign (.Name y py) X.env))) _ _ s;refine ag (az (yz (use:=some (assign (.Name y py) X.env)) (QQ:=fun _ s'=>SP X pins D .next s') (Q:=fun v H1=>D.nx (σ.set i (some v)) H1) I hc cs hpg hbd hi hs hel hts ⟨ρ,h,ι,at',(eR at' p).mono fun v H1 Z=>Z.g6 fun w h1 ι1 at1 e1 r1 p1=>p1.next (at1.set r1 i)⟩ fun s3 H3 fp A I3 f3 s1 Hc σ' J q=>?_) fun _ s' hq=>aC (aC hq));have I1:Inv X pins σ Hc s1:=sX I3 f3 J (Heap.SameBut.refl _ _);have hC:fY X pins Hc s3.heap.objs.size:=I3.uS (aA _) J.free;obtain⟨mm,⟨o,es,ep,ho,hr⟩,_⟩:=J.loc;have I2:Inv X (pins++j8 [s3.heap.objs.size] s1.heap) σ Hc s1:=I1.pinned (fun b hb=>by
   rw[kJ] at hb;subst hb;exact hC) fun b hb=>by
  rw[kJ] at hb;subst hb;exact⟨o,ho,fun v z=>by rw[hr.1] at z;cases z⟩
 refine az ((rT (i:=i) (pos:=py) hN hy (.inl hl) (.inr hl):PG X (.Name y py) (gv i)) _ s1 σ Hc (.ref A) (.ref A) (fun σ2 H2=>σ2=σ.set i (some (.ref A))/\H2=Hc) I2 rfl ⟨rfl,rfl⟩) fun _ s2 Z=>Z.g4 fun σ2 H2 J2 e1 e2=>?_;subst e1 e2;have ho2:s2.heap.get? s3.heap.objs.size=some o:=(J2.pin (_,o) (fq _ (fq _ (gU (kJ.mpr rfl) ho)))).1;refine⟨mm,⟨o,es,ep,ho2,hr⟩,fun h' hs'=>?_⟩;have J3:=J2.jQ;have nm:∀{b:Addr},b∉ [s3.heap.objs.size]->b≠s3.heap.objs.size:=fun hb z=>hb (kJ.mpr z);have hf2:H2 s3.heap.objs.size=none:=hC.1;have u:Un (a9 X.stack) [s3.heap.objs.size] H2 H2 s2.heap h':=
  ⟨fun b o e _ _ h2=>hs'.extBut b o (nm h2) e,fun b o e _ _ h2=>⟨o.slots,hs'.extBut b o (nm h2) e⟩,fun b o _ n _=>n,fun b o e h2=>⟨o,hs'.extBut b o (nm h2) e⟩,fun _ _ q=>q,fun _ _ _ q=>q,fun _ ps q=>⟨#[],by rw[q];simp⟩⟩
 have av:dB X.prog X.w H2 h':=fun b v e=>by
  refine (J3.av b v e).fG (fun c w hc q=>hs'.extBut c w ?_ q) (fun _ q=>q) fun _ _ q=>q;rcases hc with z|z
  .rw[z];intro z';rw[z',hf2] at e;cases e
  .intro z';rw[z',hf2] at z;cases z
 have fin:=J3.call (h':=h') (g':=s2.gens) (d':=s2.drawn) (t':=s2.toks) (ch:=[s3.heap.objs.size]) u av J3.bare fun b hb=>by
  rw[kJ] at hb;subst hb;exact⟨hC.2.2.2.1,hC.2.1,hC.2.2.2.2.1,hC.2.2.2.2.2⟩
 exact⟨_,_,fin,q⟩
end
abbrev DE:=Tw.Env->Tw.Hp->Tw.R Tw.W
noncomputable def Bp:List (DE×DE)->Tw.Env->Tw.Hp->Tw.R (List Tw.W)
 |[],_,h=>.ok [] h
 |(dk,dv)::r,ρ,h=>(dk ρ h).bind fun x h=>(dv ρ h).bind fun y h=>(Bp r ρ h).bind fun xs h=>.ok (x::y::xs) h
section
variable {K:Zk}
end
def Qk(prs:List (DE×DE)):DE:=fun ρ h=>(Bp prs ρ h).bind fun xs h=>match Tw.tX xs [] with
 |some kvs=>Tw.new (.fc kvs) h
 |none=>.bad
def tk(src:Tw.Src)(t:Tw.Tg)(k:Tw.Env->Tw.Hp->Tw.R Tw.Fl)(i m:Nat)(ρ:Tw.Env)(h:Tw.Hp):Tw.R Tw.Fl:=match src with
 |.fix ws=>Tw.j9 t k (ws.drop i) ρ h
 |.at a _=>Tw.fB a t k m i ρ h
 |.rv a _=>Tw.fJ a t k m ρ h
theorem Ck(src:Tw.Src)(t:Tw.Tg)(k:Tw.Env->Tw.Hp->Tw.R Tw.Fl)(ρ:Tw.Env)(h:Tw.Hp):Tw.turns src t k ρ h=tk src t k 0 (jR src) ρ h:=by cases src<;>rfl
theorem Gk{k:Tw.Env->Tw.Hp->Tw.R Tw.Fl}(hm:cnt src i m):
  tk src t k i m ρ h=.bad\/(nextOf src i h=some none/\tk src t k i m ρ h=.ok (.next ρ) h)\/∃w m',nextOf src i h=some (some w)/\m=m'+1/\tk src t k i m ρ h=Tw.turn t k w ρ h fun ρ h=>tk src t k (i+1) m' ρ h:=by
 cases src with
 |fix ws=>
  have hm:m=ws.length-i:=hm;cases hw:ws[i]? with
  |none=>
   have hl:=y9.mp hw;refine .inr (.inl ⟨by simp[nextOf,hw],?_⟩);show Tw.j9 t k (ws.drop i) ρ h=_;rw[List.drop_eq_nil_of_le hl];rfl
  |some w=>
   have hl:=(fH.mp hw).1;refine .inr (.inr ⟨w,ws.length-(i+1),by simp[nextOf,hw],by lia,?_⟩);show Tw.j9 t k (ws.drop i) ρ h=_;rw[yj hw];rfl
 |rv a n=>
  have hm:m=n-i:=hm;cases m with
  |zero=>exact .inr (.inl ⟨by simp[nextOf];lia,rfl⟩)
  |succ m=>
   have hi:i<n:=by lia
   have em:n-1-i=m:=by lia
   cases e:Tw.dS h a with
   |none=>refine .inl ?_;show Tw.fJ a t k (m+1) ρ h=_;unfold Tw.fJ;rw[e]
   |some ws=>
    cases hw:ws[m]? with
    |none=>refine .inl ?_;show Tw.fJ a t k (m+1) ρ h=_;unfold Tw.fJ;simp only[e,hw]
    |some w=>
     refine .inr (.inr ⟨w,m,by simp[nextOf,e,hi,em,hw],rfl,?_⟩);show Tw.fJ a t k (m+1) ρ h=_
     conv=>lhs;unfold Tw.fJ
     simp only[e,hw];rfl
 | «at» a n=>
  cases e:Tw.dS h a with
  |none=>refine .inl ?_;show Tw.fB a t k m i ρ h=_;unfold Tw.fB;rw[e]
  |some ws=>
   cases hw:ws[i]? with
   |none=>refine .inr (.inl ⟨by simp[nextOf,e,hw],?_⟩);show Tw.fB a t k m i ρ h=_;unfold Tw.fB;simp only[e,hw]
   |some w=>
    cases m with
    |zero=>refine .inl ?_;show Tw.fB a t k 0 i ρ h=_;unfold Tw.fB;simp only[e,hw]
    |succ m=>
     refine .inr (.inr ⟨w,m,by simp[nextOf,e,hw],rfl,?_⟩);show Tw.fB a t k (m+1) i ρ h=_
     conv=>lhs;unfold Tw.fB
     simp only[e,hw];rfl
theorem BE{dit:Tw.Env->Tw.Hp->Tw.R Tw.Src}{tb:Tw.Env->Tw.Hp->Tw.R Tw.Fl}(hp:PassesOwn (model X.prog X.w) X.A X.env X.xe)(hc:X.calm=true)(hi:PI X tg iter (tI (zx X E) dit))(hg:PG X tg g)(ht:yO (zx X E) t g)
  (hb:dE X body (cN (zx X E) tb)) (hs:∀x,foldedSetIterable iter X.env x=pure x):
  PS X (.For tg iter body [] pos) (cN (zx X E) fun ρ h=>(dit ρ h).bind fun s h=>Tw.turns s t tb ρ h):=by
 refine PS.imp (HN hp hc hi hg hb hs) fun D σ H ⟨ρ,h,ι,at',p⟩=>⟨ρ,h,ι,at',(eR at' p).mono fun J H1 ⟨src,h1,ι1,at1,e1,fd,p1⟩=>?_⟩;rw[Ck] at p1;refine⟨fun i m σ' H'=>∃ρ h ι,At (zx X E) ι h H' ρ σ'/\fR X.K J src ι h.length H'/\cnt src i m/\bB (zx X E) ι h H' (tk src t tb i m ρ h) D,⟨jR src,ρ,h1,ι1,at1,fd,tq src,p1⟩,?_⟩
 rintro i m σ2 H2 ⟨ρ2,h2,ι2,at2,fd2,hm,p2⟩
 rcases Gk (t:=t) (k:=tb) (ρ:=ρ2) (h:=h2) hm with e|⟨e1,e⟩|⟨w,m',e1,rfl,e⟩
 .rw[e] at p2;exact p2.elim
 .rw[e] at p2;rcases jj at2.hr fd2 i with q|⟨st,q⟩|⟨w,q,_⟩
  .rw[e1] at q;cases q
  .exact .inl ⟨st,p2.next at2⟩
  .rw[e1] at q;cases q
 .rw[e,Tw.turn] at p2;rcases jj at2.hr fd2 i with q|⟨st,q⟩|⟨w',q,go,hy⟩
  .rw[e1] at q;cases q
  .rw[e1] at q;cases q
  .rw[e1] at q;cases q;refine .inr ⟨go,fun σ' H'=>∃ρ h ι,At (zx X E) ι h H' ρ σ'/\fR X.K J src ι h.length H'/\cnt src (i+1) m'/\bB (zx X E) ι h H' (tk src t tb (i+1) m' ρ h) D,fun σ' H' q=>⟨m',vD _,q⟩,fun x H' hx=>?_⟩;obtain⟨ry,xy,rv⟩:=hy x H' hx;have aty:=at2.later xy ry;cases es:Tw.qe t w ρ2 with
   |none=>rw[es] at p2;exact p2.elim
   |some ρ3=>
    rw[es] at p2;dsimp only at p2;exact ht ι2 h2 _ ρ2 ρ3 σ2 w x _ aty rv es fun σ3 at3=>⟨ρ3,h2,ι2,at3,tL (bB.later p2 xy) fun ρ4 h4 ι4 H4 σ4 e4 at4 p4=>⟨ρ4,h4,ι4,at4,fd2.later ((xy.trans e4).keeps at2.hr),vW hm,p4⟩⟩
section
variable {X:Cx}{E:XK}{a b:Expr}{p pos p1:Pos}{es:List Expr}{n:Nat}{da db:Tw.Env->Tw.Hp->Tw.R Tw.W}
theorem MS(hgl:Gl X "reversed")(hm:X.mg "reversed" = none)(ha:PE X a (tE (zx X E) da))(hst:starEach [a] X.env=[(false,eval a X.env)]):
  PI X tg (.Call (.Name "reversed" p) [a] [] pos) (tI (zx X E) fun ρ h=>(da ρ h).bind fun x h=>match x with
   |.tup xs=>.ok (.fix xs.reverse) h
   |.ref a=>match h[a]? with
    |some (.lst xs)=>.ok (.rv a xs.length) h
    |_=>.bad
   |_=>.bad):=by
 refine PI.imp (Mi hgl hm (bD ha cZ hst) hst) fun σ H R ⟨ρ,h,ι,at',p⟩=>?_;refine⟨ρ,h,ι,at',(step at' p).mono fun x H1 ⟨w,h1,ι1,at1,e1,r1,p1⟩=>?_⟩;cases r1 with
 | @tup ad xs ws ea ra=>
  exact⟨_,xs,rfl,.inr ⟨TupAt.sq ea,ak.self (a:=Tw.Src.fix ws.reverse) p1 at1.hr (.inr (.inr (.inr (.inl ⟨ad,xs,ws,rfl,rfl,ea,ra⟩))))⟩⟩
 | @ref i hi=>
  dsimp only at p1;cases ei:h1[i]? with
  |none=>rw[ei] at p1;exact p1.elim
  |some o=>
   rw[ei] at p1;cases o with
   |lst ws=>
    obtain⟨xs,q1,q2⟩:=at1.hr.lst ei;refine⟨_,xs,rfl,.inl ⟨bW.of q1,?_⟩⟩;rw[<-q2.length];exact ak.self (a:=Tw.Src.rv i ws.length) p1 at1.hr (.inr (.inr (.inr (.inr ⟨i,_,_,rfl,rfl,rfl,hi⟩))))
   |_=>exact p1.elim
 |_=>exact p1.elim
end
noncomputable def aw:Expr->Bool
 |.Name .. => true | .Constant .. => true | .Tuple .. => true | .List .. => true | .Dict .. => true | .BinOp .. => true | .Compare .. => true | .BoolOp .. => true
 |.UnaryOp .. => true | .IfExp .. => true | .Subscript .. => true | .Call .. => true | .Attribute .. => true | .ListComp .. => true
 |_=>false
noncomputable def nB:Expr->Bool
 |.ListComp .. => true
 |_=>false
noncomputable def lh:Expr->Bool
 |.Call (.Name _ _) [] [] _=>false
 |_=>true
noncomputable def ES:Expr->Bool
 |.UnaryOp .Not _ _=>false | .BoolOp .. => false | .IfExp .. => false | .Compare .. => false
 |_=>true
section
variable {a b:Expr}{es:List Expr}{env:Env}
theorem aR(h:aw a=true):starEach (a::es) env=(false,eval a env)::starEach es env:=by cases a<;>first|rfl|cases h
theorem uG(h:aw b=true):oX b:=by cases b<;>first|(intro _ _;rfl)|cases h
theorem wW(o:CmpOp)(h:aw b=true):behindInMarks o b=false:=by cases b<;>first|rfl|cases h
theorem hF(h:aw b=true):∀x,foldedSetIterable b env x=pure x:=by cases b<;>first|(intro _;rfl)|cases h
theorem iO(h:aw a=true)(hn:nB a=false):swapsWith a t l env=pure false:=by cases a<;>first|rfl|exact absurd (show false=true from h) j0|exact absurd (show false=true from hn) j0|exact absurd (show true=false from hn) (by decide)
theorem jy(h:aw a=true)(hn:lh a=true):attributeBase a m env (eval a env)=eval a env:=by
 cases a with
 |Call f as ks p=>
  cases f with
  |Name x q=>
   cases as with
   |nil=>
    cases ks with
    |nil=>cases hn
    |cons _ _=>rfl
   |cons _ _=>rfl
  |_=>rfl
 |_=>first|rfl|cases h
theorem Bw(h:aw a=true)(hn:ES a=true)(whole:Sem Value):isTrue a env whole=(do let v <-whole;standAt a.pos;holding [v] (truthy v)):=by
 cases a with
 |UnaryOp o x p=>
  cases o with
  |Not=>cases hn
  |_=>rfl
 |_=>first|rfl|exact absurd (show false=true from h) j0|exact absurd (show false=true from hn) j0|exact absurd (show true=false from hn) (by decide)
end
noncomputable abbrev Sc:=List (Str×NameKind)
def rS(sc:Sc)(x:Str):Bool:=match sc.lookup x with
 |some .local=>true|some .cell=>true|some .free=>true
 |_=>false
def eI(sc:Sc)(x:Str):Bool:=match sc.lookup x with
 |some .local=>true|some .cell=>true
 |_=>false
def Eb(sc:Sc)(x:Str):Bool:=match sc.lookup x with
 |some .cell=>true|some .free=>true
 |_=>false
def fk(sc:Sc)(x:Str):Bool:=match sc.lookup x with
 |some .globalImplicit=>true
 |_=>false
structure dI(sc:Sc)(N:List Str)(X:Cx):Prop where
 n:X.N=N
 kind:X.env.scope.kind=.function
 lI:∀x,rS sc x=true->m8 X.env.scope x
 gl:∀x,fk sc x=true->Gl X x
 cf:∀x,Eb sc x=true->X.env.scope.names.lookup x=some .cell\/X.env.scope.names.lookup x=some .free
theorem kR{scope:Scope}{env:Env}{y:Str}{k:NameKind}:∀{names:List (Str×NameKind)},names.lookup y=some k->
  (names.map fun (n,k)=>if (k== NameKind.free&&env.scope.kind== .function&&env.kindOf n== some .cell) then (n,NameKind.cell) else (n,k)).lookup y=some k\/
  (k=.free/\(names.map fun (n,k)=>if (k== NameKind.free&&env.scope.kind== .function&&env.kindOf n== some .cell) then (n,NameKind.cell) else (n,k)).lookup y=some .cell)
 |[],h=>by simp at h
 |(n,j)::r,h=>by
  rw[di] at h;by_cases hy:(y== n)=true
  .simp only[hy] at h;cases h;rw[gz];dsimp only;by_cases hc:(k== NameKind.free&&env.scope.kind== .function&&env.kindOf n== some .cell)=true
   .refine .inr ⟨?_,?_⟩
    .simp only[ao,gS] at hc;exact hc.1.1
    .rw[if_pos hc,di];simp only[hy]
   .refine .inl ?_;rw[if_neg hc,di];simp only[hy]
  .rw[xV] at hy;simp only[hy] at h;rw[gz];dsimp only;have ih:=kR (scope:=scope) (env:=env) h;by_cases hc:(j== NameKind.free&&env.scope.kind== .function&&env.kindOf n== some .cell)=true
   .rw[if_pos hc,di];simp only[hy];exact ih
   .rw[if_neg hc,di];simp only[hy];exact ih
theorem kf{scope:Scope}{env:Env}{y:Str}{k:NameKind}(h:scope.names.lookup y=some k):(relabel scope env).names.lookup y=some k\/(k=.free/\(relabel scope env).names.lookup y=some .cell):=
 kR (scope:=scope) h
theorem dI.comp(hk:scope.kind=.function):
  dI scope.names (cO X.N x) (bc X scope C x s H pins fp) where
 n:=rfl
 kind:=hk
 lI:=fun y hy=>by
  show m8 (relabel scope X.env) y;unfold rS at hy;cases e:scope.names.lookup y with
  |none=>rw[e] at hy;cases hy
  |some k=>
   rcases kf (env:=X.env) e with q|⟨_,q⟩
   .rw[e] at hy;cases k with
    | «local» => exact .inl q
    |cell=>exact .inr (.inl q)
    |free=>exact .inr (.inr q)
    |_=>cases hy
   .exact .inr (.inl q)
 gl:=fun y hy=>by
  show (relabel scope X.env).names.lookup y=some .globalImplicit;unfold fk at hy;cases e:scope.names.lookup y with
  |none=>rw[e] at hy;cases hy
  |some k=>
   rw[e] at hy;cases k with
   |globalImplicit=>
    rcases kf (env:=X.env) e with q|⟨q,_⟩
    .exact q
    .cases q
   |_=>cases hy
 cf:=fun y hy=>by
  show (relabel scope X.env).names.lookup y=some .cell\/(relabel scope X.env).names.lookup y=some .free;unfold Eb at hy;cases e:scope.names.lookup y with
  |none=>rw[e] at hy;cases hy
  |some k=>
   rw[e] at hy;rcases kf (env:=X.env) e with q|⟨_,q⟩
   .cases k with
    |cell=>exact .inl q
    |free=>exact .inr q
    |_=>cases hy
   .exact .inl q
noncomputable def yK(N:List Str)(sc:Sc)(x:List Str)(scope:Scope):Bool:=
 decide (scope.kind=.function)&&scope.names.all (fun y=>(match y.2 with
  |.cell=>false
  |.local=>(match scope.names.lookup y.1 with|some .local=>true|_=>false)&&(x.contains y.1 || !(N.contains y.1))
  |.free=>Eb sc y.1
  |_=>true)&&!(y.1== ("" : Str)))&&x.all (fun y=>match scope.names.lookup y with|some .local=>true|_=>false)
theorem B4(S:dI sc N X)(h:yK N sc x scope=true):gj X.N X.env.scope x scope:=by
 unfold yK at h;simp only[ao,ax,jP] at h;obtain⟨⟨h1,h2⟩,h3⟩:=h;have kS:∀y∈x,scope.names.lookup y=some .local:=fun y hy=>by
  have h3:=h3 y hy;cases e:scope.names.lookup y with
  |none=>rw[e] at h3;cases h3
  |some k=>rw[e] at h3;cases k<;>first|rfl|cases h3
 refine⟨h1,S.kind,fun y hy z=>?_,fun y hy z=>?_,kS,fun y k e z hN=>?_,fun y hy z=>?_,?_⟩
 .obtain⟨q,_⟩:=h2 y hy;rw[z] at q;cases q
 .obtain⟨q,_⟩:=h2 y hy;rw[z] at q;simp only[ao] at q;cases e:scope.names.lookup y.1 with
  |none=>rw[e] at q;cases q.1
  |some k=>rw[e] at q;cases k<;>first|rfl|cases q.1
 .subst z;obtain⟨q,_⟩:=h2 (y,.local) (gX e);simp only[ao,wz,gZ] at q;rcases q.2 with q|q
  .rw[yS] at q;simpa using q
  .rw[S.n] at hN;rw[yS] at q;exact absurd hN (by simpa using q)
 .obtain⟨q,_⟩:=h2 y hy;rw[z] at q;exact S.cf _ q
 .cases e:scope.names.lookup ("" : Str) with
  |none=>rfl
  |some k=>
   obtain⟨_,q⟩:=h2 ("",k) (gX e);simp at q
theorem str_inj{x y:Tw.S}:((⟨x.toArray⟩:Str)=⟨y.toArray⟩)↔x=y:=by
 constructor
 .intro h;have:=cR (fun s:Str=>s.cps.toList) h;simpa using this
 .intro h;rw[h]
section
variable {K:W.Frag}{ι:Nat->Addr}{n:Nat}{H:L2.Hp}
theorem str_beq(x y:Tw.S):((⟨x.toArray⟩:Str)== ⟨y.toArray⟩)=(x== y):=by
 by_cases h:x=y
 .subst h;simp
 .rw[jq.mpr h];exact jq.mpr fun z=>h (str_inj.mp z)
theorem RF.look:∀{fs:List (Tw.S×Tw.W)}{gs:List (Str×V)},RF K ι n H fs gs->(fs.lookup x=none/\gs.lookup ⟨x.toArray⟩=none)\/∃w v,fs.lookup x=some w/\gs.lookup ⟨x.toArray⟩=some v/\RW K ι n H w v
 |_,_,.nil=>.inl ⟨rfl,rfl⟩
 |_,_,.cons (x:=y) (w:=w) (v:=v) a r=>by
  rw[di,di,str_beq];cases e:x== y with
  |true=>exact .inr ⟨w,v,rfl,rfl,a⟩
  |false=>exact RF.look r
theorem RF.put(a:RW K ι n H w v):∀{fs:List (Tw.S×Tw.W)}{gs:List (Str×V)},RF K ι n H fs gs->RF K ι n H (Tw.mx x w fs) (eL ⟨x.toArray⟩ v gs)
 |_,_,.nil=>.cons a .nil
 |_,_,.cons (x:=y) b r=>by
  unfold Tw.mx L2.eL;by_cases e:y=x
  .subst e;rw[if_pos rfl,if_pos rfl];exact .cons a r
  .rw[if_neg e,if_neg (fun z=>e (str_inj.mp z))];exact .cons b (RF.put a r)
end
theorem gC:∀{ys:List Expr},ys.all aw=true->starEach ys env=ys.map fun y=>(false,eval y env)
 |[],_=>rfl
 |y::r,h=>by
  rw[jU,ao] at h;rw[aR h.1,gC h.2,gz]
section
variable {X:Cx}{E:XK}{a b c o e f:Expr}{pos apos cpos pos':Pos}{da db dc dv:Tw.Env->Tw.Hp->Tw.R Tw.W}
theorem HR.ins{K:Zk}{ι:Nat->Addr}{h:Tw.Hp}{H:L2.Hp}(r:HR K ι h H){i:Nat}{c:Tw.S}{fs:List (Tw.S×Tw.W)}(e:h[i]?=some (.ins c fs)):
  ∃C dx gs,(K.mg ⟨c.toArray⟩=some (.ref C)/\GoodC K.K C)/\H (ι i)=some (.ins C dx gs)/\RF K.K ι h.length H fs gs:=r.obj i _ e
theorem ME{x:Tw.S}(hx:(⟨x.toArray⟩:Str)∈xU)(hb:attributeBase a ⟨x.toArray⟩ X.env (eval a X.env)=eval a X.env)(ha:PE X a (tE (zx X E) da)):
  PE X (.Attribute a ⟨x.toArray⟩ pos) (tE (zx X E) fun ρ h=>(da ρ h).bind fun w h=>Tw.R.of (Tw.field w x h) h):=by
 refine PE.imp (JV ha hb) fun σ H Q Z=>Z.k3 fun ρ h ι at' p=>⟨ρ,h,ι,at',(step at' p).mono fun v H1 Z=>Z.k4 fun w h1 ι1 at1 e1 r1 p1=>?_⟩;cases r1 with
 | @ref i hi=>
  cases ei:h1[i]? with
  |none=>simp only[Tw.field,ei] at p1;exact p1.elim
  |some ob=>
   cases ob with
   |ins c fs=>
    simp only[Tw.field,ei] at p1;obtain⟨C,dx,gs,⟨_,gc⟩,q1,q2⟩:=at1.hr.ins ei;rcases q2.look (x:=x) with ⟨z,_⟩|⟨u,v,z1,z2,z3⟩
    .rw[z] at p1;exact p1.elim
    .rw[z1] at p1;exact⟨_,C,dx,gs,v,rfl,q1,gc.cls,gc.no _ hx,z2,ak.self (a:=u) p1 at1.hr z3⟩
   |_=>simp only[Tw.field,ei] at p1;exact p1.elim
 |_=>exact p1.elim
theorem KQ{x:Tw.S}(hx:(⟨x.toArray⟩:Str)∈xU)(hv:PE X b (tE (zx X E) dv))(ho:PE X o (tE (zx X E) da))(hs:swapsWith b (some (.Attribute o ⟨x.toArray⟩ pos')) pos.line X.env=pure false):
  PS X (.Assign [.Attribute o ⟨x.toArray⟩ pos'] b pos) (cN (zx X E) fun ρ h=>(dv ρ h).bind fun v h=>(da ρ h).bind fun w h=>(Tw.putField w x v h).bind fun _ h=>.ok (.next ρ) h):=by
 refine PS.imp (Ig ho hv hs) fun D σ H Z=>Z.k3 fun ρ h ι at' p=>⟨ρ,h,ι,at',(eR at' p).mono fun y H1 Z=>Z.k4 fun wy h1 ι1 at1 e1 r1 p1=>⟨ρ,h1,ι1,at1,(eR at1 p1).mono fun z H2 Z=>Z.k4 fun w h2 ι2 at2 e2 r2 p2=>?_⟩⟩;cases r2 with
 | @ref i hi=>
  cases ei:h2[i]? with
  |none=>simp only[Tw.putField,ei] at p2;exact p2.elim
  |some ob=>
   cases ob with
   |ins c fs=>
    simp only[Tw.putField,ei] at p2;obtain⟨C,dx,gs,⟨mc,gc⟩,q1,q2⟩:=at2.hr.ins ei;by_cases cc:fs.length<1000
    .rw[if_pos cc] at p2;refine⟨_,C,dx,gs,rfl,q1,gc.cls,gc.no _ hx,by rw[<-q2.length];exact cc,?_⟩;have ry:=r1.keep (e2.keeps at1.hr);obtain⟨hr',ex⟩:=at2.hr.put (o:=.ins C dx (eL ⟨x.toArray⟩ y gs)) (u:=.ins c (Tw.mx x wy fs)) ei rfl rfl (fun _ z=>nomatch z) fun H' kp z=>⟨C,dx,_,⟨mc,gc⟩,z,((q2.keep kp).put (ry.keep kp))⟩;exact p2 ι2 _ σ ex (at2.later ex hr')
    .rw[if_neg cc] at p2;exact p2.elim
   |_=>simp only[Tw.putField,ei] at p2;exact p2.elim
 |_=>exact p2.elim
theorem yx{F:List Tw.W->Tw.Hp->Tw.R Tw.W}(hm:X.mg ⟨cn.toArray⟩=some (.ref C))(gc:GoodC X.K C){ι1:Nat->Addr}(r:HR (zx X E) ι1 h1 H1)(rs:aL X.K ι1 h1.length H1 ws vs)
  (p:ak (zx X E) RE ι1 h1 H1 ((F (.ref h1.length::ws) (h1++[.ins cn []])).bind fun r h'=>match r with
   |.ah=>.ok (.ref h1.length) h'
   |_=>.bad) Q) (x dx:Addr) (hx:H1 x=none) (hdx:H1 dx=none) (ne:dx≠x):
  cE X.K X.mg X.cl F (.ref x::(vs++[])) (upd (upd H1 dx (.own x)) x (.ins C dx [])) (fun v H2=>v=.ah/\Q (.ref x) H2) E:=by
 obtain⟨r2,x2⟩:=r.grow (o:=.own x) hdx;have hx2:upd H1 dx (.own x) x=none:=by rw[aD ne.symm];exact hx
 obtain⟨r3,x3⟩:=r2.new (o:=.ins C dx []) (u:=.ins cn []) hx2 rfl fun ι' n' H' kp z=>⟨C,dx,[],⟨hm,gc⟩,z,.nil⟩;have x23:=x2.trans x3;have p':=ak.later p x23;refine⟨.ref h1.length::ws,_,_,r3,.cons ?_ (by rw[eX];exact rs.keep (x23.keeps r)),?_⟩
 .have z:RW X.K (cM ι1 h1.length x) (h1++[Tw.O.ins cn []]).length (upd (upd H1 dx (.own x)) x (.ins C dx [])) (.ref h1.length) (.ref (cM ι1 h1.length x h1.length)):=.ref (by simp);rw[bY] at z;exact z
 .cases e:F (.ref h1.length::ws) (h1++[.ins cn []]) with
  |bad=>rw[e] at p';exact p'.elim
  |aI a h'=>rw[e] at p';exact p'
  |ok u h2=>
   rw[e] at p';simp only[Tw.R.aW] at p';cases u with
   |ah=>
    intro ι4 H4 b e4 r4 rb;cases rb;refine⟨rfl,?_⟩;have hl:h1.length<(h1++[Tw.O.ins cn []]).length:=by simp
    have z:RW X.K ι4 h2.length H4 (.ref h1.length) (.ref (ι4 h1.length)):=.ref (bT hl e4.len);rw[e4.same _ hl,bY] at z;exact p' ι4 H4 _ e4 r4 z
   |_=>exact p'.elim
theorem Qb{F:List Tw.W->Tw.Hp->Tw.R Tw.W}{ds:Tw.Env->Tw.Hp->Tw.R (List Tw.W)}(M:Mk X.K C g)(gc:GoodC X.K C)
  (G:bF X.prog X.w X.K X.mg X.base CX k g fd ps (cE X.K X.mg X.cl F)) (hx:Passes CX X E) (hr:cq (k+1) X.A) (hg:Gl X ⟨cn.toArray⟩) (hm:X.mg ⟨cn.toArray⟩=some (.ref C)) (hb:Binds X.K fd ps [])
  (hs:PA X es (tA (zx X E) n ds)) (hd:((⟨cn.toArray⟩:Str)== ("__debug__" : Str))=false) (hpl:es.all aw=true):
  PE X (.Call (.Name ⟨cn.toArray⟩ p) es [] pos) (tE (zx X E) fun ρ h=>(ds ρ h).bind fun xs h=>(F (.ref h.length::xs) (h++[.ins cn []])).bind fun r h'=>match r with
   |.ah=>.ok (.ref h.length) h'
   |_=>.bad):=by
 cases es with
 |nil=>
  intro pins s σ H Q I ⟨ρ,h,ι,at',p⟩;have z:=hs ⟨0,0,0,0⟩ pins s σ H (fun vs H1=>∀x dx,H1 x=none->H1 dx=none->dx≠x->cE X.K X.mg X.cl F (.ref x::(vs++[])) (upd (upd H1 dx (.own x)) x (.ins C dx [])) (fun v H2=>v=.ah/\Q (.ref x) H2) E) I
   ⟨ρ,h,ι,at',(step at' p).mono fun xs H1 ⟨ws,h1,ι1,at1,e1,r1,p1⟩ x dx q1 q2 q3=>yx hm gc at1.hr r1.1 p1 x dx q1 q2 q3⟩
  refine kr (fQ I hg hm ?_ hd);refine W.callWith_K0 I.bP M.kp ?_;have z:wpAny (model X.prog X.w) X.A (pure []) _ _ s:=z;refine sP (v:=[]) z fun Z=>Z.k2 fun vs H1 I1 r1 q=>?_;cases r1;exact um (us:=[]) M G hr hb .nil hx I1 .nil q
 |cons e es=>
  refine PE.imp (FW (dvs:=[]) (ds:=[]) (E:=E) M G hr hg hm hb .nil hx hs hd (aR (by rw[jU,ao] at hpl;exact hpl.1)) ?_) fun σ H Q Z=>Z.k3 fun ρ h ι at' p=>⟨ρ,h,ι,at',(step at' p).mono fun xs H1 ⟨ws,h1,ι1,at1,e1,r1,p1⟩ x dx q1 q2 q3=>yx hm gc at1.hr r1.1 p1 x dx q1 q2 q3⟩;rw[gC (by rw[jU,ao] at hpl;exact hpl.2)];simp[backTo]
theorem AD(hb:attributeBase o m env (eval o env)=eval o env)
  (hf:methodCallForm (es.length+([]:List Keyword).length) (backTo pos (starEach es env)) (backToKw pos (keywordEach [] env))=true) (hl:(apos.endLine== pos.line)=true):
  eval (.Call (.Attribute o m apos) es [] pos) env=(do
   let ov <-eval o env
   standAt apos.atName
   let (f,first) <-holding [ov] (getMethod ov m (do return (<-importBound o env).getD true))
   callWith pos f first (backTo pos (starEach es env)) (backToKw pos (keywordEach [] env))):=by
 rw[arm_eval_Call,hb];unfold methodCall calleeOf methodCallPos;rw[hf,hl];rfl
theorem Lx{CX:fj}{k n:Nat}{C g:Addr}{fd:FuncData}{ps:List Str}{F:List Tw.W->Tw.Hp->Tw.R Tw.W}{cn m:Tw.S}{es:List Expr}{ds:Tw.Env->Tw.Hp->Tw.R (List Tw.W)}(hme:Meth X.K C ⟨m.toArray⟩ g)
  (G:bF X.prog X.w X.K X.mg X.base CX k g fd ps (cE X.K X.mg X.cl F)) (hx:Passes CX X E) (hr:cq k X.A) (hm:X.mg ⟨cn.toArray⟩=some (.ref C)) (gc:GoodC X.K C) (hb:Binds X.K fd ps [])
  (ho:PE X o (tE (zx X E) da)) (hs:PA X es (tA (zx X E) n ds)) (me:Me X o ⟨m.toArray⟩ apos es cpos) (hpl:es.all aw=true):
  PE X (.Call (.Attribute o ⟨m.toArray⟩ apos) es [] cpos) (tE (zx X E) fun ρ h=>(da ρ h).bind fun x h=>if Tw.iR x cn m h then (ds ρ h).bind fun xs h=>F (x::xs) h else .bad):=by
 have fin:∀σ H Q,tE (zx X E) (fun ρ h=>(da ρ h).bind fun x h=>if Tw.iR x cn m h then (ds ρ h).bind fun xs h=>F (x::xs) h else .bad) σ H Q->Fg C ⟨m.toArray⟩ (cE X.K X.mg X.cl F) [] E (tE (zx X E) da) (tA (zx X E) n ds) σ H Q:=fun σ H Q Z=>Z.k3 fun ρ h ι at' p=>by
  refine⟨ρ,h,ι,at',(step at' p).mono fun x H1 Z=>Z.k4 fun w h1 ι1 at1 e1 r1 p1=>?_⟩;obtain⟨c1,pp⟩:=ak.ite p1;clear p1;cases r1 with
  | @ref i hi=>
   cases ei:h1[i]? with
   |none=>simp[Tw.iR,ei] at c1
   |some ob=>
    cases ob with
    |ins c' fs=>
     simp only[Tw.iR,ei,ao,ax] at c1;obtain⟨rfl,c2⟩:=c1;obtain⟨C',dx,gs,⟨mc,gc'⟩,q1,q2⟩:=at1.hr.ins ei;have ec:C'=C:=by have mc:X.mg ⟨c'.toArray⟩=some (.ref C'):=mc;rw[hm] at mc;cases mc;rfl
     subst ec;refine⟨_,dx,gs,rfl,q1,?_,ρ,h1,ι1,at1,(step at1 pp).mono fun xs H2 Z=>Z.k4 fun ws h2 ι2 at2 e2 r2 p2=>?_⟩
     .rcases q2.look (x:=m) with ⟨_,z⟩|⟨u,v,z,_⟩
      .exact z
      .rw[z] at c2;cases c2
     .rw[eX];exact⟨_,h2,ι2,at2.hr,.cons ((RW.ref hi).keep (e2.keeps at1.hr)) r2.1,p2⟩
    |_=>simp[Tw.iR,ei] at c1
  |_=>cases c1
 have ht:=AD (apos:=apos) (pos:=cpos) me.base me.Bc me.line;cases es with
 |nil=>
  intro pins s σ H Q I h;have q:=fin σ H Q h;refine W.methodCall_KW (az (ho pins s σ H _ I q) fun u s1 Z=>Z.k2 fun x H1 I1 rx Z=>Z.g fun a Z=>Z.g fun dx Z=>Z.g fun fs Z=>Z.g fun ex Z=>Z.g fun ea Z=>Z.g fun l q=>?_) ht;subst ex;obtain rfl:u=Value.ref a:=rx;refine qX I1 ea gc.cls hme l ?_;have z:wpAny (model X.prog X.w) X.A (pure []) _ _ s1:=hs ⟨0,0,0,0⟩ pins s1 σ H1 _ I1 q;refine sP (v:=[]) z fun Z=>Z.k2 fun vs H2 I2 r2 q2=>?_;cases r2;exact W.callWith_K0 (first:=[.ref a]) I2.bP hme.kp (qV (us:=[.ref a]) (vs:=[.ref a]) G hr hb .nil hx I2 (.cons rfl .nil) q2)
 |cons e es=>
  refine PE.imp (Gp (dvs:=[]) (ds:=[]) (E:=E) ho gc.cls hme G hr hb .nil hx hs (aR (by rw[jU,ao] at hpl;exact hpl.1)) ?_ ht) fin;rw[gC (by rw[jU,ao] at hpl;exact hpl.2)];simp[backTo]
end
noncomputable abbrev ay{α:Type}{p:α->Bool}{x:Option α}(e:x.any p=true):∃a,x=some a/\p a=true:=W.any_some e
theorem bJ{α:Type}{l:List α}(h:l.isEmpty=true):l=[]:=Av.mp h
theorem qY{α:Type}{l:List α}(h:l.isEmpty=false):∃x r,l=x::r:=by
 cases l with
 |nil=>cases h
 |cons x r=>exact⟨x,r,rfl⟩
theorem dv{c:Prop}[Decidable c]{α:Type}{f:c->Option α}{r:α}(h:(if h:c then f h else none)=some r):∃hc,f hc=some r:=by
 by_cases hc:c
 .rw[dif_pos hc] at h;exact⟨hc,h⟩
 .rw[dif_neg hc] at h;cases h
noncomputable def ym(e:Expr)(h:e.ctorIdx=23):Option (Str):=Expr.Name.elim (motive_1:=fun _=>Option (Str)) e h fun x p=>some x
def aK(e:Expr):Option (Str):=if h:e.ctorIdx=23 then ym e h else none
theorem aH{e:Expr}{r:Str}(h:aK e=some r):∃p,e=.Name r p:=
 let ⟨c,h⟩:=dv h
 Expr.Name.elim (motive_1:=fun e=>∀c,ym e c=some r->∃p,e=.Name r p) e c (fun x p _ h=>by cases h;exact⟨p,rfl⟩) c h
noncomputable def wH(e:Expr)(h:e.ctorIdx=19):Option (Const):=Expr.Constant.elim (motive_1:=fun _=>Option (Const)) e h fun x k p=>some x
def k8(e:Expr):Option (Const):=if h:e.ctorIdx=19 then wH e h else none
theorem kN{e:Expr}{r:Const}(h:k8 e=some r):∃k p,e=.Constant r k p:=
 let ⟨c,h⟩:=dv h
 Expr.Constant.elim (motive_1:=fun e=>∀c,wH e c=some r->∃k p,e=.Constant r k p) e c (fun x k p _ h=>by cases h;exact⟨k,p,rfl⟩) c h
noncomputable def AV(e:Expr)(h:e.ctorIdx=25):Option (List Expr):=Expr.Tuple.elim (motive_1:=fun _=>Option (List Expr)) e h fun x k p=>some x
def l9(e:Expr):Option (List Expr):=if h:e.ctorIdx=25 then AV e h else none
theorem km{e:Expr}{r:List Expr}(h:l9 e=some r):∃k p,e=.Tuple r k p:=
 let ⟨c,h⟩:=dv h
 Expr.Tuple.elim (motive_1:=fun e=>∀c,AV e c=some r->∃k p,e=.Tuple r k p) e c (fun x k p _ h=>by cases h;exact⟨k,p,rfl⟩) c h
noncomputable def A7(e:Expr)(h:e.ctorIdx=24):Option (List Expr):=Expr.List.elim (motive_1:=fun _=>Option (List Expr)) e h fun x p=>some x
def EW(e:Expr):Option (List Expr):=if h:e.ctorIdx=24 then A7 e h else none
theorem A8{e:Expr}{r:List Expr}(h:EW e=some r):∃p,e=.List r p:=
 let ⟨c,h⟩:=dv h
 Expr.List.elim (motive_1:=fun e=>∀c,A7 e c=some r->∃p,e=.List r p) e c (fun x p _ h=>by cases h;exact⟨p,rfl⟩) c h
noncomputable def xO(e:Expr)(h:e.ctorIdx=6):Option (List (Option Expr)×List Expr):=Expr.Dict.elim (motive_1:=fun _=>Option (List (Option Expr)×List Expr)) e h fun ks vs p=>some (ks,vs)
def BF(e:Expr):Option (List (Option Expr)×List Expr):=if h:e.ctorIdx=6 then xO e h else none
theorem zK{e:Expr}{r:List (Option Expr)×List Expr}(h:BF e=some r):∃p,e=.Dict r.1 r.2 p:=
 let ⟨c,h⟩:=dv h
 Expr.Dict.elim (motive_1:=fun e=>∀c,xO e c=some r->∃p,e=.Dict r.1 r.2 p) e c (fun ks vs p _ h=>by cases h;exact⟨p,rfl⟩) c h
noncomputable def B9(e:Expr)(h:e.ctorIdx=2):Option (Expr×Operator×Expr):=Expr.BinOp.elim (motive_1:=fun _=>Option (Expr×Operator×Expr)) e h fun x o y p=>some (x,o,y)
def E4(e:Expr):Option (Expr×Operator×Expr):=if h:e.ctorIdx=2 then B9 e h else none
theorem Bk{e:Expr}{r:Expr×Operator×Expr}(h:E4 e=some r):∃p,e=.BinOp r.1 r.2.1 r.2.2 p:=
 let ⟨c,h⟩:=dv h
 Expr.BinOp.elim (motive_1:=fun e=>∀c,B9 e c=some r->∃p,e=.BinOp r.1 r.2.1 r.2.2 p) e c (fun x o y p _ h=>by cases h;exact⟨p,rfl⟩) c h
noncomputable def Bo(e:Expr)(h:e.ctorIdx=15):Option (Expr×List CmpOp×List Expr):=Expr.Compare.elim (motive_1:=fun _=>Option (Expr×List CmpOp×List Expr)) e h fun x os ys p=>some (x,os,ys)
def yW(e:Expr):Option (Expr×List CmpOp×List Expr):=if h:e.ctorIdx=15 then Bo e h else none
theorem sL{e:Expr}{r:Expr×List CmpOp×List Expr}(h:yW e=some r):∃p,e=.Compare r.1 r.2.1 r.2.2 p:=
 let ⟨c,h⟩:=dv h
 Expr.Compare.elim (motive_1:=fun e=>∀c,Bo e c=some r->∃p,e=.Compare r.1 r.2.1 r.2.2 p) e c (fun x os ys p _ h=>by cases h;exact⟨p,rfl⟩) c h
noncomputable def yu(e:Expr)(h:e.ctorIdx=0):Option (BoolOp×List Expr×Pos):=Expr.BoolOp.elim (motive_1:=fun _=>Option (BoolOp×List Expr×Pos)) e h fun o xs p=>some (o,xs,p)
def we(e:Expr):Option (BoolOp×List Expr×Pos):=if h:e.ctorIdx=0 then yu e h else none
theorem rh{e:Expr}{r:BoolOp×List Expr×Pos}(h:we e=some r):e=.BoolOp r.1 r.2.1 r.2.2:=
 let ⟨c,h⟩:=dv h
 Expr.BoolOp.elim (motive_1:=fun e=>∀c,yu e c=some r->e=.BoolOp r.1 r.2.1 r.2.2) e c (fun o xs p _ h=>by cases h;exact rfl) c h
noncomputable def EM(e:Expr)(h:e.ctorIdx=3):Option (UnaryOp×Expr):=Expr.UnaryOp.elim (motive_1:=fun _=>Option (UnaryOp×Expr)) e h fun o x p=>some (o,x)
def IS(e:Expr):Option (UnaryOp×Expr):=if h:e.ctorIdx=3 then EM e h else none
theorem DK{e:Expr}{r:UnaryOp×Expr}(h:IS e=some r):∃p,e=.UnaryOp r.1 r.2 p:=
 let ⟨c,h⟩:=dv h
 Expr.UnaryOp.elim (motive_1:=fun e=>∀c,EM e c=some r->∃p,e=.UnaryOp r.1 r.2 p) e c (fun o x p _ h=>by cases h;exact⟨p,rfl⟩) c h
noncomputable def ER(e:Expr)(h:e.ctorIdx=5):Option (Expr×Expr×Expr):=Expr.IfExp.elim (motive_1:=fun _=>Option (Expr×Expr×Expr)) e h fun z x y p=>some (z,x,y)
def JN(e:Expr):Option (Expr×Expr×Expr):=if h:e.ctorIdx=5 then ER e h else none
theorem DQ{e:Expr}{r:Expr×Expr×Expr}(h:JN e=some r):∃p,e=.IfExp r.1 r.2.1 r.2.2 p:=
 let ⟨c,h⟩:=dv h
 Expr.IfExp.elim (motive_1:=fun e=>∀c,ER e c=some r->∃p,e=.IfExp r.1 r.2.1 r.2.2 p) e c (fun z x y p _ h=>by cases h;exact⟨p,rfl⟩) c h
noncomputable def Az(e:Expr)(h:e.ctorIdx=21):Option (Expr×Expr):=Expr.Subscript.elim (motive_1:=fun _=>Option (Expr×Expr)) e h fun x y p=>some (x,y)
def oY(e:Expr):Option (Expr×Expr):=if h:e.ctorIdx=21 then Az e h else none
theorem kn{e:Expr}{r:Expr×Expr}(h:oY e=some r):∃p,e=.Subscript r.1 r.2 p:=
 let ⟨c,h⟩:=dv h
 Expr.Subscript.elim (motive_1:=fun e=>∀c,Az e c=some r->∃p,e=.Subscript r.1 r.2 p) e c (fun x y p _ h=>by cases h;exact⟨p,rfl⟩) c h
noncomputable def By(e:Expr)(h:e.ctorIdx=26):Option (Option Expr×Option Expr×Option Expr):=Expr.Slice.elim (motive_1:=fun _=>Option (Option Expr×Option Expr×Option Expr)) e h fun l u s p=>some (l,u,s)
def EX(e:Expr):Option (Option Expr×Option Expr×Option Expr):=if h:e.ctorIdx=26 then By e h else none
theorem BD{e:Expr}{r:Option Expr×Option Expr×Option Expr}(h:EX e=some r):∃p,e=.Slice r.1 r.2.1 r.2.2 p:=
 let ⟨c,h⟩:=dv h
 Expr.Slice.elim (motive_1:=fun e=>∀c,By e c=some r->∃p,e=.Slice r.1 r.2.1 r.2.2 p) e c (fun l u s p _ h=>by cases h;exact⟨p,rfl⟩) c h
noncomputable def yp(e:Expr)(h:e.ctorIdx=16):Option (Expr×List Expr×List Keyword×Pos):=Expr.Call.elim (motive_1:=fun _=>Option (Expr×List Expr×List Keyword×Pos)) e h fun f as ks p=>some (f,as,ks,p)
def vJ(e:Expr):Option (Expr×List Expr×List Keyword×Pos):=if h:e.ctorIdx=16 then yp e h else none
theorem qT{e:Expr}{r:Expr×List Expr×List Keyword×Pos}(h:vJ e=some r):e=.Call r.1 r.2.1 r.2.2.1 r.2.2.2:=
 let ⟨c,h⟩:=dv h
 Expr.Call.elim (motive_1:=fun e=>∀c,yp e c=some r->e=.Call r.1 r.2.1 r.2.2.1 r.2.2.2) e c (fun f as ks p _ h=>by cases h;exact rfl) c h
noncomputable def yf(e:Expr)(h:e.ctorIdx=20):Option (Expr×Str×Pos):=Expr.Attribute.elim (motive_1:=fun _=>Option (Expr×Str×Pos)) e h fun v x p=>some (v,x,p)
def m9(e:Expr):Option (Expr×Str×Pos):=if h:e.ctorIdx=20 then yf e h else none
theorem lT{e:Expr}{r:Expr×Str×Pos}(h:m9 e=some r):e=.Attribute r.1 r.2.1 r.2.2:=
 let ⟨c,h⟩:=dv h
 Expr.Attribute.elim (motive_1:=fun e=>∀c,yf e c=some r->e=.Attribute r.1 r.2.1 r.2.2) e c (fun v x p _ h=>by cases h;exact rfl) c h
noncomputable def xg(e:Expr)(h:e.ctorIdx=8):Option (Expr×List Comprehension×Scope×Pos):=Expr.ListComp.elim (motive_1:=fun _=>Option (Expr×List Comprehension×Scope×Pos)) e h fun y g scope p=>some (y,g,scope,p)
def uP(e:Expr):Option (Expr×List Comprehension×Scope×Pos):=if h:e.ctorIdx=8 then xg e h else none
theorem rm{e:Expr}{r:Expr×List Comprehension×Scope×Pos}(h:uP e=some r):e=.ListComp r.1 r.2.1 r.2.2.1 r.2.2.2:=
 let ⟨c,h⟩:=dv h
 Expr.ListComp.elim (motive_1:=fun e=>∀c,xg e c=some r->e=.ListComp r.1 r.2.1 r.2.2.1 r.2.2.2) e c (fun y g scope p _ h=>by cases h;exact rfl) c h
noncomputable def tV:BoolOp->Bool
 |.And=>true
 |.Or=>false
noncomputable def Fh:UnaryOp->Bool
 |.Not=>true
 |_=>false
theorem A0{o:UnaryOp}(h:Fh o=true):o=.Not:=by cases o<;>first|rfl|cases h
def gi{α:Type}:List α->Option α
 |[x]=>some x
 |_=>none
theorem dg{α:Type}{l:List α}{x:α}(h:gi l=some x):l=[x]:=by rcases l with _|⟨a,_|⟨b,r⟩⟩<;>first|(cases h;rfl)|cases h
def mR{α:Type}:List α->Option (α×α)
 |[x,y]=>some (x,y)
 |_=>none
theorem iA{α:Type}{l:List α}{r:α×α}(h:mR l=some r):l=[r.1,r.2]:=by rcases l with _|⟨a,_|⟨b,_|⟨c,q⟩⟩⟩<;>first|(cases h;rfl)|cases h
def mF{α:Type}:List α->Option (α×List α)
 |x::r=>some (x,r)
 |[]=>none
theorem dX{α:Type}{l:List α}{r:α×List α}(h:mF l=some r):l=r.1::r.2:=by cases l<;>first|(cases h;rfl)|cases h
def gy(e:Expr):Option (Str×List Expr):=(vJ e).bind fun r=>if r.2.2.1.isEmpty then (aK r.1).map fun x=>(x,r.2.1) else none
theorem cQ{e:Expr}{r:Str×List Expr}(h:gy e=some r):∃p q,e=.Call (.Name r.1 p) r.2 [] q:=by
 obtain⟨⟨f,as,ks,q⟩,e1,e2⟩:=kG.mp h;have z:=qT e1;dsimp only at e2 z;cases ks with
 |cons _ _=>cases e2
 |nil=>
  obtain⟨x,e3,rfl⟩:=sj.mp e2;obtain⟨p,rfl⟩:=aH e3;exact⟨p,q,z⟩
def y0(e:Expr):Option (Expr×Str×Pos×List Expr×Pos):=(vJ e).bind fun r=>if r.2.2.1.isEmpty then (m9 r.1).map fun a=>(a.1,a.2.1,a.2.2,r.2.1,r.2.2.2) else none
theorem p9{e:Expr}{r:Expr×Str×Pos×List Expr×Pos}(h:y0 e=some r):e=.Call (.Attribute r.1 r.2.1 r.2.2.1) r.2.2.2.1 [] r.2.2.2.2:=by
 obtain⟨⟨f,as,ks,q⟩,e1,e2⟩:=kG.mp h;have z:=qT e1;dsimp only at e2 z;cases ks with
 |cons _ _=>cases e2
 |nil=>
  obtain⟨a,e3,rfl⟩:=sj.mp e2;rw[lT e3] at z;exact z
noncomputable def zM(g:List Comprehension):Option (Expr×Expr×List Expr):=(gi g).bind fun c=>match c with
 |⟨t,it,ifs,n⟩=>if n=0 then some (t,it,ifs) else none
theorem tF{g:List Comprehension}{r:Expr×Expr×List Expr}(h:zM g=some r):g=[⟨r.1,r.2.1,r.2.2,0⟩]:=by
 obtain⟨⟨t,it,ifs,n⟩,e1,e2⟩:=kG.mp h;rw[dg e1];dsimp only at e2;by_cases c:n=0
 .rw[if_pos c] at e2;cases e2;rw[c]
 .rw[if_neg c] at e2;cases e2
noncomputable def Bg(e:Stmt)(h:e.ctorIdx=24):Option (Expr):=Stmt.Expr.elim (motive_2:=fun _=>Option (Expr)) e h fun x p=>some x
def El(e:Stmt):Option (Expr):=if h:e.ctorIdx=24 then Bg e h else none
theorem BM{e:Stmt}{r:Expr}(h:El e=some r):∃p,e=.Expr r p:=
 let ⟨c,h⟩:=dv h
 Stmt.Expr.elim (motive_2:=fun e=>∀c,Bg e c=some r->∃p,e=.Expr r p) e c (fun x p _ h=>by cases h;exact⟨p,rfl⟩) c h
noncomputable def E7(e:Stmt)(h:e.ctorIdx=3):Option (Option Expr):=Stmt.Return.elim (motive_2:=fun _=>Option (Option Expr)) e h fun x p=>some x
def nJ(e:Stmt):Option (Option Expr):=if h:e.ctorIdx=3 then E7 e h else none
theorem j2{e:Stmt}{r:Option Expr}(h:nJ e=some r):∃p,e=.Return r p:=
 let ⟨c,h⟩:=dv h
 Stmt.Return.elim (motive_2:=fun e=>∀c,E7 e c=some r->∃p,e=.Return r p) e c (fun x p _ h=>by cases h;exact⟨p,rfl⟩) c h
noncomputable def Fd(e:Stmt)(h:e.ctorIdx=5):Option (List Expr×Expr×Pos):=Stmt.Assign.elim (motive_2:=fun _=>Option (List Expr×Expr×Pos)) e h fun ts v p=>some (ts,v,p)
def Kc(e:Stmt):Option (List Expr×Expr×Pos):=if h:e.ctorIdx=5 then Fd e h else none
theorem C4{e:Stmt}{r:List Expr×Expr×Pos}(h:Kc e=some r):e=.Assign r.1 r.2.1 r.2.2:=
 let ⟨c,h⟩:=dv h
 Stmt.Assign.elim (motive_2:=fun e=>∀c,Fd e c=some r->e=.Assign r.1 r.2.1 r.2.2) e c (fun ts v p _ h=>by cases h;exact rfl) c h
noncomputable def JD(e:Stmt)(h:e.ctorIdx=12):Option (Expr×List Stmt×List Stmt):=Stmt.If.elim (motive_2:=fun _=>Option (Expr×List Stmt×List Stmt)) e h fun x ys zs p=>some (x,ys,zs)
def Kp(e:Stmt):Option (Expr×List Stmt×List Stmt):=if h:e.ctorIdx=12 then JD e h else none
theorem yA{e:Stmt}{r:Expr×List Stmt×List Stmt}(h:Kp e=some r):∃p,e=.If r.1 r.2.1 r.2.2 p:=
 let ⟨c,h⟩:=dv h
 Stmt.If.elim (motive_2:=fun e=>∀c,JD e c=some r->∃p,e=.If r.1 r.2.1 r.2.2 p) e c (fun x ys zs p _ h=>by cases h;exact⟨p,rfl⟩) c h
noncomputable def EO(e:Stmt)(h:e.ctorIdx=9):Option (Expr×Expr×List Stmt×List Stmt):=Stmt.For.elim (motive_2:=fun _=>Option (Expr×Expr×List Stmt×List Stmt)) e h fun t i ys zs p=>some (t,i,ys,zs)
def KG(e:Stmt):Option (Expr×Expr×List Stmt×List Stmt):=if h:e.ctorIdx=9 then EO e h else none
theorem Dd{e:Stmt}{r:Expr×Expr×List Stmt×List Stmt}(h:KG e=some r):∃p,e=.For r.1 r.2.1 r.2.2.1 r.2.2.2 p:=
 let ⟨c,h⟩:=dv h
 Stmt.For.elim (motive_2:=fun e=>∀c,EO e c=some r->∃p,e=.For r.1 r.2.1 r.2.2.1 r.2.2.2 p) e c (fun t i ys zs p _ h=>by cases h;exact⟨p,rfl⟩) c h
noncomputable def Ek(e:Stmt)(h:e.ctorIdx=7):Option (Expr×Operator×Expr):=Stmt.AugAssign.elim (motive_2:=fun _=>Option (Expr×Operator×Expr)) e h fun t o v p=>some (t,o,v)
def Kl(e:Stmt):Option (Expr×Operator×Expr):=if h:e.ctorIdx=7 then Ek e h else none
theorem Du{e:Stmt}{r:Expr×Operator×Expr}(h:Kl e=some r):∃p,e=.AugAssign r.1 r.2.1 r.2.2 p:=
 let ⟨c,h⟩:=dv h
 Stmt.AugAssign.elim (motive_2:=fun e=>∀c,Ek e c=some r->∃p,e=.AugAssign r.1 r.2.1 r.2.2 p) e c (fun t o v p _ h=>by cases h;exact⟨p,rfl⟩) c h
noncomputable def Fb(e:Stmt)(h:e.ctorIdx=11):Option (Expr×List Stmt×List Stmt):=Stmt.While.elim (motive_2:=fun _=>Option (Expr×List Stmt×List Stmt)) e h fun x ys zs p=>some (x,ys,zs)
def Ib(e:Stmt):Option (Expr×List Stmt×List Stmt):=if h:e.ctorIdx=11 then Fb e h else none
theorem Dk{e:Stmt}{r:Expr×List Stmt×List Stmt}(h:Ib e=some r):∃p,e=.While r.1 r.2.1 r.2.2 p:=
 let ⟨c,h⟩:=dv h
 Stmt.While.elim (motive_2:=fun e=>∀c,Fb e c=some r->∃p,e=.While r.1 r.2.1 r.2.2 p) e c (fun x ys zs p _ h=>by cases h;exact⟨p,rfl⟩) c h
noncomputable def xG(e:Stmt)(h:e.ctorIdx=16):Option (Option Expr×Option Expr):=Stmt.Raise.elim (motive_2:=fun _=>Option (Option Expr×Option Expr)) e h fun x c p=>some (x,c)
def BQ(e:Stmt):Option (Option Expr×Option Expr):=if h:e.ctorIdx=16 then xG e h else none
theorem zN{e:Stmt}{r:Option Expr×Option Expr}(h:BQ e=some r):∃p,e=.Raise r.1 r.2 p:=
 let ⟨c,h⟩:=dv h
 Stmt.Raise.elim (motive_2:=fun e=>∀c,xG e c=some r->∃p,e=.Raise r.1 r.2 p) e c (fun x c p _ h=>by cases h;exact⟨p,rfl⟩) c h
noncomputable def EL(e:Stmt)(h:e.ctorIdx=17):Option (List Stmt×List ExceptHandler×List Stmt×List Stmt):=Stmt.Try.elim (motive_2:=fun _=>Option (List Stmt×List ExceptHandler×List Stmt×List Stmt)) e h fun b hs o f p=>some (b,hs,o,f)
def J0(e:Stmt):Option (List Stmt×List ExceptHandler×List Stmt×List Stmt):=if h:e.ctorIdx=17 then EL e h else none
theorem CC{e:Stmt}{r:List Stmt×List ExceptHandler×List Stmt×List Stmt}(h:J0 e=some r):∃p,e=.Try r.1 r.2.1 r.2.2.1 r.2.2.2 p:=
 let ⟨c,h⟩:=dv h
 Stmt.Try.elim (motive_2:=fun e=>∀c,EL e c=some r->∃p,e=.Try r.1 r.2.1 r.2.2.1 r.2.2.2 p) e c (fun b hs o f p _ h=>by cases h;exact⟨p,rfl⟩) c h
noncomputable def okN(x:Str):Bool:=!(x== ("__debug__" : Str))&&!(x== ("__classdict__" : Str))
theorem okN.d(h:okN x=true):(x== ("__debug__" : Str))=false/\(x== ("__classdict__" : Str))=false:=by unfold okN at h;simpa using h
section
variable {X:Cx}
end
section
variable {P:Program}{w:World}{K:W.Frag}{mg:Str->Option Value}{base:Heap}
end
section
variable {prog:Program}{w:World}{A:Around}{R:Result->Shared->Prop}{E:aO}{h:Heap}{g:Array GenState}{d:Drawn}{t:Nat}{os:OsState}{M:Model}
variable {nm q:Str}{C N:Addr}{bs bm:List Value}{hdct:Bool}{sn:List Str}{sub:List Value}{ab:Bool}{col:Option Bool}{dd:Option Addr}{k0 k1 k2 k3 k5:Option Value}{Bn newId inN:String}{bmN:List Value}
structure lW(C:Addr)(bm:List Value)(Bn:String):Prop where
 b:(Value.ref C::bm).contains (.type Bn)=true
 e:(Value.ref C::bm).contains (.type "BaseException")=true
 a:(Value.ref C::bm).contains (.type "AttributeError")=false
 n:(Value.ref C::bm).contains (.type "NameError")=false
theorem GQ{rest:List Value}{Q:Unit->Shared->Prop}(F:ExcBaseFacts Bn newId inN bmN)(m:lW C bm Bn)(hC:h.get? C=some (excClassObj nm q C N bs bm hdct sn sub ab col dd k0 k1 k2 k3 k5 newId))(hq:Q () ⟨h,g,d,t,os⟩):
  wpAny M A (checkBuiltinCall newId ⟨.ref C::rest,[]⟩) Q E ⟨h,g,d,t,os⟩:=by
 have z:=F.noStar;have c:=m.b;simp only[checkBuiltinCall,F.newKind,F.newSplit,F.newRow];repeat (first|refine jC hC ?_|(refine rF hC ?_;rw[c])|refine wpAny_staticBase_exc hC ?_|refine wpAny_madeBy_exc hC ?_|simp only[bne_self_eq_false,pM,dq]|wp_step)
 exact hq
noncomputable abbrev uF(us:List Value):Obj:={cls:=.type "tuple",data:=.seq us.toArray}
noncomputable abbrev mW(C t:Addr):Obj:={cls:=.ref C,data:=.fields #[.ref t,.none,.none,.none,.bool false,.none]}
theorem Ml{rest:List Value}(F:ExcBaseFacts Bn newId inN bmN)(m:lW C bm Bn)(hC:h.get? C=some (excClassObj nm q C N bs bm hdct sn sub ab col dd k0 k1 k2 k3 k5 newId))
  (hq:R (.ok (.ret (.ref (h.objs.size+1)))) ⟨(h.push (uF rest)).push (mW C h.objs.size),g,d,t,os⟩) (hr:rest.length<=sizeLine):codeAny (model prog w) A (.builtin newId ⟨.ref C::rest,[]⟩) R ⟨h,g,d,t,os⟩:=by
 have z:=F.ends;have cb:=m.b;have ca:=m.a;have cn:=m.n;refine codeAny_builtinAt F.entry ?_;unfold Builtin.«BaseException.__new__»;refine PySem.wpAt_bind ?_;show PySem.wpAt _ _ _ (stack >>= _) _ _ _;refine PySem.wpAt_bind (PySem.wpAt_stack fun p below=>PySem.wpAt_of_wpAny ?_)
 wp_walk
 refine PySem.wpAt_of_wpAny ?_;rw[F.owner];repeat (first|with_reducible refine wpAny_madeHere_exc F.canon hC ?_|with_reducible refine jC hC ?_|(with_reducible refine rF hC ?_;first|rw[cb]|rw[ca]|rw[cn])|wp_step)
 show R _ _;rw[rZ];exact hq
theorem I9{e:Addr}{oe:Obj}{rest:List Value}{Q:Unit->Shared->Prop}(F:ExcBaseFacts Bn newId inN bmN)(m:lW C bm Bn)(hC:h.get? C=some (excClassObj nm q C N bs bm hdct sn sub ab col dd k0 k1 k2 k3 k5 newId))(he:h.get? e=some oe)(hcls:oe.cls=.ref C)(hq:Q () ⟨h,g,d,t,os⟩):
  wpAny M A (checkBuiltinCall inN ⟨.ref e::rest,[]⟩) Q E ⟨h,g,d,t,os⟩:=by
 have cb:=m.b;have z:=F.noStar;simp only[checkBuiltinCall,F.initKind,F.initSplit,F.initRow];repeat (first|(with_reducible refine jC he ?_;rw[hcls])|with_reducible refine jC hC ?_|(with_reducible refine rF hC ?_;rw[cb])|wp_step)
 refine wpAny_onRaise ?_;rw[show ∀(a b:String)(n:Nat),Bind.check ⟨.positional, "*",Bn,.self,[⟨"args",.varPos,false⟩]⟩ a b n (List.map (fun x=>x.fst) ({pos:=Value.ref e::rest}:Args).kw)=pure () from fun a b n=>check_star_args _ _ _ _ _ _];exact aC hq
theorem FL{K:W.Frag}{rest:List Value}{Q:Fin->Shared->Prop}(X:K.In h)(F:ExcBaseFacts Bn newId inN bmN)(m:lW C bm Bn)(hC:h.get? C=some (excClassObj nm q C N bs bm hdct sn sub ab col dd k0 k1 k2 k3 k5 newId))
  (hi:W.findIn K (.ref C) "__init__" = some (some (.builtin inN))) (hr:rest.length<=sizeLine)
  (hq:∀h',(∀b o,h.get? b=some o->h'.get? b=some o)->(∃t,h'.get? (h.objs.size+1)=some (mW C t))->Q (.done (.ret (.ref (h.objs.size+1)))) ⟨h',g,d,t,os⟩):
  wpAny (model prog w) A (Builtin.«type.__call__» ⟨.ref C::rest,[]⟩) Q E ⟨h,g,d,t,os⟩:=by
 repeat (first|with_reducible refine jC hC ?_|with_reducible refine wpAny_madeBy_exc hC ?_|wp_step)
 refine codeAny_call_builtin_code (Code.quiet_builtin _ F.quiet) (GQ F m hC ?_);refine Ml F m hC ?_ hr;show wpAny _ _ _ _ _ _;have kp:∀b o,h.get? b=some o->((h.push (uF rest)).push (mW C h.objs.size)).get? b=some o:=fun b o e=>bM _ (bM _ e);have hC1:=kp _ _ hC;have X1:K.In ((h.push (uF rest)).push (mW C h.objs.size)):=X.keeps kp;have he:((h.push (uF rest)).push (mW C h.objs.size)).get? (h.objs.size+1)=some (mW C h.objs.size):=by
  have:=fN (h.push (uF rest)) (o:=mW C h.objs.size) rfl
  rwa [rZ] at this
 have cC:(Value.ref C::bm).contains (.ref C)=true:=by simp
 unfold isInstance;repeat (first|with_reducible refine jC he ?_|(with_reducible refine rF hC1 ?_;rw[cC])|wp_step)
 show wpAny _ _ (typeLookup (.ref C) _) _ _ _;refine (tY X1 hi).at ?_;refine jB (ag (kx (F.init.bind _) ?_));refine ag (kB (codeAny_call_builtin F.init.plain F.initEntry (I9 F m hC1 he rfl ?_)))
 wp_walk
 refine hq _ (fun b o hb=>?_) ⟨h.objs.size+2,?_⟩
 .rw[mX _ _ (mK (Nat.lt_succ_of_lt (bw hb)))];exact bM _ (kp _ _ hb)
 .rw[rY _ (bM _ he) rfl];simp only[rZ];rfl
theorem FC{K:W.Frag}{rest:List Value}{Q:aO}(X:K.In h)(F:ExcBaseFacts Bn newId inN bmN)(m:lW C bm Bn)(hC:h.get? C=some (excClassObj nm q C N bs bm hdct sn sub ab col dd k0 k1 k2 k3 k5 newId))
  (hi:W.findIn K (.ref C) "__init__" = some (some (.builtin inN))) (hr:rest.length<=sizeLine)
  (hq:∀h',(∀b o,h.get? b=some o->h'.get? b=some o)->(∃t,h'.get? (h.objs.size+1)=some (mW C t))->Q (.ref (h.objs.size+1)) ⟨h',g,d,t,os⟩):
  wpAny (model prog w) A (call (.ref C) rest) Q E ⟨h,g,d,t,os⟩:=by
 have f1:=tc_lookup;have f2:=tc_bind (.ref C);have hT:(⟨h,g,d,t,os⟩:Shared).TypeIs (.ref C) "type" := ⟨_,hC,rfl⟩;refine kB (codeAny_of_tree ?_);show wpAny _ _ (callAny (.ref C) _) _ _ _;repeat (any_goals (first|assumption|with_reducible refine jC hC ?_|wp_step))
 refine⟨rfl,?_⟩;exact codeAny_call_builtin_at (Code.quiet_builtin _ (by decide+kernel)) entry_typeCall (wpAny_check_type_call_sub hC (FL X F m hC hi hr hq))
theorem ID{Q:Flow->Shared->Prop}(m:lW C bm Bn)(hh:A.handled=none)
  (h:wpAny M A x (fun v s1=>∃e oe vs,v=.ref e/\s1.heap.get? C=some (excClassObj nm q C N bs bm hdct sn sub ab col dd k0 k1 k2 k3 k5 newId)/\s1.heap.get? e=some oe/\oe.cls=.ref C/\oe.data=.fields vs/\vs[1]?=some .none/\E (.ref e) s1) E s):wpAny M A (raiseStmt env (some x) none) Q E s:=by
 have cB:=m.e;unfold raiseStmt;refine ag (iK h (fun v s1 z=>?_) fun _ _ x=>x);obtain⟨e,⟨oc,od,oda,osl⟩,vs,rfl,hC,he,hc,hd,h1,hE⟩:=z;simp only at hc hd;subst hc hd;obtain⟨hp,g,d,tk,os⟩:=s1;repeat (first|with_reducible refine jC he ?_|with_reducible refine jC hC ?_|(with_reducible refine rF hC ?_;rw[cB])|wp_step)
 rw[h1];refine aC ?_;rw[if_neg (by decide)];exact aC (wpAny_raiseNew_none hh hE)
end
structure AF(K:W.Frag)(C:Addr):Prop where
 obj:∃(nm q:Str) (N:Addr) (bs bm:List Value) (hdct:Bool) (sn:List Str) (sub:List Value) (ab:Bool) (col:Option Bool) (dd:Option Addr) (k0 k1 k2 k3 k5:Option Value),
  K.lookup C=some (excClassObj nm q C N bs bm hdct sn sub ab col dd k0 k1 k2 k3 k5 "ValueError.__new__")/\lW C bm "ValueError"
 init:W.findIn K (.ref C) "__init__" = some (some (.builtin "ValueError.__init__"))
 kp:W.keepIn K (.ref C)=true
section
variable {X:Cx}{pins:aE}{σ:L2.St}{H:L2.Hp}{s:Shared}{C f:Addr}{E:XK}
theorem Hr{Q:aO}(M:AF X.K C)(I:Inv X pins σ H s)(hz:us.length<=1000)
  (h:∀e s' oe ws,H e=none->Fly0 X.prog X.w (a9 X.stack) H s e C none (upd H e (mS C none e)) s'->s'.heap.get? e=some oe->oe.cls=.ref C->oe.data=.fields ws->ws[1]?=some .none->Q (.ref e) s'):
  wpAny (model X.prog X.w) X.A (call (.ref C) us) Q X.xe s:=by
 obtain⟨nm,q,N,bs,bm,hdct,sn,sub,ab,col,dd,k0,k1,k2,k3,k5,lk,mo⟩:=M.obj;obtain⟨hp,g,d,t,os⟩:=s;refine FC I.bP PySem.F.excBase_ValueError mo (I.bP _ _ lk) M.init (by rw[gu];lia) fun h' kp ⟨t',he⟩=>?_;have hf:H (hp.objs.size+1)=none:=I.av.fresh (rM _);have ok:cj X.prog X.w (upd H (hp.objs.size+1) (mS C none (hp.objs.size+1))) h' (hp.objs.size+1) (mS C none (hp.objs.size+1)):=⟨⟨_,_,he,rfl,rfl,rfl⟩,⟨_,he⟩,fun h1 h2 ⟨o,vs,a,b⟩ k=>⟨o,vs,k o a,b⟩⟩;have I2:Inv X pins σ (upd H (hp.objs.size+1) (mS C none (hp.objs.size+1))) ⟨h',g,d,t,os⟩:=I.laid (a:=hp.objs.size+1) (o:=mS C none (hp.objs.size+1)) (h':=h') (t':=t) kp (rM _) ok;exact h _ _ _ _ hf ⟨rfl,I2.bare,Un.laid kp (rM _) hf,I2.av,bI,Heap.get?_none_of_le (rM _)⟩ he rfl rfl rfl
def FQ(C:Addr)(E:XK)(t:TA):TS:=fun _ σ H=>t σ H fun vs H1=>vs.length<=1000/\∀e,H1 e=none->E (.ref e) none (upd H1 e (mS C none e))
theorem Bx(hx:X.ex=[])(hs:X.stack=X.env::X.outer)(hfm:X.env.frame=some X.env.locals)(hxe:X.xe=oS X E)
  (M:AF X.K C) (cal:X.calm=true) (hg:Gl X x) (hm:X.mg x=some (.ref C))
  (ha:PA X (e::es) t) (hdb:(x== ("__debug__" : Str))=false) (hst:starEach (e::es) X.env=(false,eval e X.env)::starEach es X.env) (hpl:(backTo cpos (starEach es X.env)).any (·.1)=false):
  PS X (.Raise (some (.Call (.Name x np) (e::es) [] cpos)) none pos) (FQ C E t):=by
 intro pins s σ H D I h;obtain⟨nm,q,N,bs,bm,hdct,sn,sub,ab,col,dd,k0,k1,k2,k3,k5,lk,mo⟩:=id M.obj;have key:wpAny (model X.prog X.w) X.A (eval (.Call (.Name x np) (e::es) [] cpos) X.env) (fun v s1=>∃e oe vs,v=.ref e/\s1.heap.get? C=some (excClassObj nm q C N bs bm hdct sn sub ab col dd k0 k1 k2 k3 k5 "ValueError.__new__")/\s1.heap.get? e=some oe/\oe.cls=.ref C/\oe.data=.fields vs/\vs[1]?=some .none/\X.xe (.ref e) s1) X.xe s:=by refine kr (fQ I hg hm ?_ hdb);refine oC (h₀:=X.base) I.ok.mod.q8 M.kp (az (ha cpos pins s σ H _ I h) fun us s1 ⟨vs,H1,I1,r,q1,q2⟩=>⟨I1.bP,?_⟩) hst hpl;refine Hr M I1 (by rw[List.nil_append,<-r.length];exact q1) fun ea s2 oe ws z1 F2 a1 a2 a3 a4=>⟨ea,oe,ws,rfl,?_,a1,a2,a3,a4,JK hx hs hfm hxe I1 F2 a1 a3 a4 (q2 ea z1)⟩;exact (F2.inv I1).bP _ _ lk
 rw[arm_exec_Raise];exact ag (qU (ID mo (I.ok.hd cal) (ag (iK key (fun v s1 z=>ag (qU (aC z))) fun _ _ z=>z))))
end
noncomputable abbrev hX(X:Cx)(v:Value):Cx:={X with A:=X.A.mark (some v),calm:=false,xe:=fun _ _=>False}
section
variable {X:Cx}{pins:aE}{σ:L2.St}{H:L2.Hp}{s:Shared}
theorem Inv.mark(I:Inv X pins σ H s)(v:Value):Inv (hX X v) pins σ H s:=
 ⟨⟨I.ok.mod,I.ok.kind,I.ok.glob,I.ok.blt,I.ok.above,I.ok.inj,I.ok.has,I.ok.rG,fun z=>(nomatch z),I.ok.frames,I.ok.uU,I.ok.AI,I.ok.bs,I.ok.lC,I.ok.mP,I.ok.pU,I.ok.fK,I.ok.nF⟩,I.os,I.bare,I.base,I.loc,I.cell,I.free,I.eN,I.pin,I.av,I.len⟩
theorem Inv.unmark(I:Inv (hX X v) pins σ H s)(hd:X.calm=true->X.A.handled=none):Inv X pins σ H s:=
 ⟨⟨I.ok.mod,I.ok.kind,I.ok.glob,I.ok.blt,I.ok.above,I.ok.inj,I.ok.has,I.ok.rG,hd,I.ok.frames,I.ok.uU,I.ok.AI,I.ok.bs,I.ok.lC,I.ok.mP,I.ok.pU,I.ok.fK,I.ok.nF⟩,I.os,I.bare,I.base,I.loc,I.cell,I.free,I.eN,I.pin,I.av,I.len⟩
theorem kA{E:aO}{Q:Unit->Shared->Prop}(I:Inv X pins σ H s)(hN:X.N.Nodup)(hj:X.N[j]?=some n)(hl:X.env.scope.names.lookup n=some .local)
  (h:∀s',Inv X pins (σ.set j none) H s'->Q () s'):wpAny M A (do bindName X.env n .none;unbindBehindTheSuite X.env n pos) Q E s:=by
 have hp:(X.env.scope.kind== .class || (X.env.scope.kind== .module&&X.env.locals != X.env.globals))=false:=by rw[I.ok.kind];rfl
 have hk:X.env.kindOf n=some .local:=hl;refine ag (wpAny_bindName (jK (v:=.ah) I hN hj (.inl hl) rfl (fun s1 I1=>?_) (.inr hl)));obtain⟨m,hn,lo⟩:=I1.loc;have jl:j<σ.length:=by rw[I.len];exact (fH.mp hj).1
 have hm:∃u,m n=some u:=by
  obtain⟨u,_,l⟩:=lo j n .ah hj (by rw[i5 jl]) (.inl hl);rcases l with ⟨_,z⟩|⟨z,_⟩
  .exact⟨u,z⟩
  .rw[hk] at z;rcases z with z|z<;>cases z
 obtain⟨u,hm⟩:=hm;unfold unbindBehindTheSuite;refine wpAny_onRaise ?_;unfold unbindName;refine ag (wpAny_point (ag ?_));unfold deleteName;simp only[hk,hp];rw[if_neg (by decide)];refine ag (wpAny_nsDel_keeps hn fun h2 v hn2 hs=>?_);rw[hm];simp only[Option.isSome_some,Bool.not_true,pM,dq,fg];refine aC (wpAny_point (h _ ?_));have above:=I1.ok.above;have ne:∀b o,X.aG.heap.get? b=some o->b≠X.env.locals:=fun b o e=>cV (bT (bw e) above);have m6:∀y c,X.env.cells.lookup y=some c->c≠X.env.locals:=fun y c e z=>by
  obtain⟨w',oc,hoc,hcd⟩:=I1.cell y c e;obtain⟨ol,es,ep,hol,hld,_⟩:=hn;rw[z,hol] at hoc;cases hoc;rw[hld] at hcd;cases hcd
 refine⟨I1.ok,I1.os,I1.bare,⟨fun b o e n hb hx=>(hs.2 b (ne b o e)).trans (I1.base.keep b o e n hb hx),fun b o e n hb hx=>?_,I1.base.free,fun b o e hx=>?_,I1.base.gg,I1.base.fI,I1.base.fL⟩,⟨_,hn2,fun i y v' e1 e2 e3=>?_⟩,fun y c e=>?_,I1.free,I1.eN,fun p hp=>?_,fun a o q=>?_,by simpa using I.len⟩
 .obtain⟨sl,q⟩:=I1.base.slot b o e n hb hx;exact⟨sl,(hs.2 b (ne b o e)).trans q⟩
 .obtain⟨o',q⟩:=I1.base.there b o e hx;exact⟨o',(hs.2 b (ne b o e)).trans q⟩
 .by_cases z:i=j
  .subst z;rw[i5 jl] at e2;cases e2
  .rw[i7 (aX z)] at e2;have ny:y≠n:=fun w=>z (by subst w;exact qf hN e1 hj);obtain⟨u',r',l⟩:=lo i y v' e1 (by rw[i7 (aX z)];exact e2) e3;refine⟨u',r',?_⟩;rcases l with ⟨k1,k2⟩|⟨k1,c,k2,k3⟩
   .exact .inl ⟨k1,by show (if y=n then v else m y)=some u';rw[if_neg ny];exact k2⟩
   .exact .inr ⟨k1,c,k2,k3.sameBut hs (m6 y c k2)⟩
 .obtain⟨w',z⟩:=I1.cell y c e;exact⟨w',z.sameBut hs (m6 y c e)⟩
 .obtain⟨e,n1,n2,n3,d⟩:=I1.pin p hp;exact⟨(hs.2 p.1 n2).trans e,n1,n2,n3,d⟩
 .have nt:∀b u,H b=some u->b≠X.env.locals:=fun b u e z=>by rw[z,I1.free] at e;cases e
  refine (I1.av a o q).fG (fun b u hb r=>(hs.2 b ?_).trans r) (fun _ q=>q) fun _ _ q=>q;rcases hb with rfl|hb
  .exact nt b o q
  .exact nt b _ hb
theorem FY{Q:Shared->Prop}(I:Inv X pins σ H s)(hs:X.stack=X.env::X.outer)(hfm:X.env.frame=some X.env.locals)(F:fV X.prog X.w (a9 X.stack) H s ea C dx .none H' s'){E:aO}(k:∀s3,fV X.prog X.w (a9 X.stack) H s ea C dx .none H' s3->Q s3):
  wpAny (model X.prog X.w) X.A (noteFrame (.ref ea) X.env) (fun _ s2=>wpAny (model X.prog X.w) X.A (setFlight (.ref ea) none) (fun _ s3=>Q s3) E s2) E s':=by
 have J:=F.toFly0.inv I;have fr:=J.iB;have st:=J.stack;have fm:=J.ok.frames;rw[hs] at fr st fm F;refine F.note (base:=X.base) fm st hfm fr fun s2 F2=>F2.land fr fun s3 F3=>k s3 ?_;rw[hs];exact F3
theorem fV.cls(F:fV X.prog X.w (a9 X.stack) H s ea C dx fl H' s'):W.Looks (model X.prog X.w) s'.heap (typeOf (.ref ea)) (.ref C):=by obtain⟨⟨o,ws,b1,b2,_⟩,_,_⟩:=F.av ea _ F.tr;exact b2▸(W.Looks.ld b1).andThen .now
section
variable {ea C Mx:Addr}{dx:Option Addr}{H':L2.Hp}{s':Shared}{x n:Str}{p hp:Pos}{j:Nat}{rest:List ExceptHandler}{Q:Flow->Shared->Prop}
theorem Gi(I:Inv X pins σ H s)(F:fV X.prog X.w (a9 X.stack) H s ea C dx .none H' s')(hg:Gl X x)(hm:X.mg x=some (.ref Mx))(hdb:(x== ("__debug__" : Str))=false)(hxm:W.exmOne X.K (.ref C) (.ref Mx)=some false)
  (k:wpAny (model X.prog X.w) X.A (handleBy (.ref ea) X.env rest) Q X.xe s'):wpAny (model X.prog X.w) X.A (handleBy (.ref ea) X.env (.ExceptHandler (some (.Name x p)) nm suite hp::rest)) Q X.xe s':=by
 have I3:=F.toFly0.inv I;refine wpAny_handleBy_cons (codeAny_handlers_test (fQ (X:=hX X (.ref ea)) (Inv.mark I3 _) hg hm ?_ hdb)) (by intro q;cases q);exact (W.exm_one I3.bP F.cls hxm).here k
theorem Hh(I:Inv X pins σ H s)(F:fV X.prog X.w (a9 X.stack) H s ea C dx .none H' s')
  (hg:Gl X x) (hm:X.mg x=some (.ref Mx)) (hdb:(x== ("__debug__" : Str))=false) (hxm:W.exmOne X.K (.ref C) (.ref Mx)=some true) (hN:X.N.Nodup) (hj:X.N[j]?=some n) (hl:X.env.scope.names.lookup n=some .local)
  (hb:∀v,dE (hX X v) (b₀::suite) t) (D:Ends) (ht:t D (σ.set j (some (.ref ea))) H') (hD:∀f s2,SP X pins D f s2->wpAny (model X.prog X.w) X.A (do bindName X.env n .none;unbindBehindTheSuite X.env n hp) (fun _ s3=>Q f s3) X.xe s2):
  wpAny (model X.prog X.w) X.A (handleBy (.ref ea) X.env (.ExceptHandler (some (.Name x p)) (some n) (b₀::suite) hp::rest)) Q X.xe s':=by
 have I3:=F.toFly0.inv I;have fr0:=I3.iB;refine wpAny_handleBy_cons (codeAny_handlers_test (fQ (X:=hX X (.ref ea)) (Inv.mark I3 _) hg hm ?_ hdb)) (by intro q;cases q);refine (W.exm_one I3.bP F.cls hxm).here ?_;refine codeAny_handlers_suite_as (F.land fr0 fun s4 F4=>?_);have I4:=F4.toFly0.inv I;refine jK (X:=hX X (.ref ea)) (v:=.ref ea) (Inv.mark I4 _) hN hj (.inl hl) rfl (fun s5 I5=>?_) (.inr hl);refine iK (hb _ pins s5 _ H' D I5 ht) (fun f s6 z=>hD f s6 ?_) fun _ _ z=>False.elim z;cases f with
 |next=>obtain⟨σ',H'',J,q⟩:=z;exact⟨σ',H'',Inv.unmark J I.ok.hd,q⟩
 |brk=>obtain⟨σ',H'',J,q⟩:=z;exact⟨σ',H'',Inv.unmark J I.ok.hd,q⟩
 |cont=>obtain⟨σ',H'',J,q⟩:=z;exact⟨σ',H'',Inv.unmark J I.ok.hd,q⟩
 |ret u=>obtain⟨v,σ',H'',J,r,q⟩:=z;exact⟨v,σ',H'',Inv.unmark J I.ok.hd,r,q⟩
end
end
section
variable {prog:Program}{w:World}{A:Around}{E:aO}{s:Shared}{a:Addr}{D:List (Str×Addr)}{k:Str}{tk:Tok}
end
section
variable {X:Cx}{E:XK}{a b c e y:Expr}{pos p1 p2:Pos}{da db dk:Tw.Env->Tw.Hp->Tw.R Tw.W}{t:Addr}{D:List (Str×Addr)}
theorem aL.rev{K:W.Frag}{ι:Nat->Addr}{n:Nat}{H:L2.Hp}:∀{ws:List Tw.W}{vs:List V},aL K ι n H ws vs->aL K ι n H ws.reverse vs.reverse
 |_,_,.nil=>.nil
 |_,_,.cons a r=>by
  rw[yY,yY];exact (aL.rev r).append (.cons a .nil)
theorem aL.dropLast{K:W.Frag}{ι:Nat->Addr}{n:Nat}{H:L2.Hp}{ws:List Tw.W}{vs:List V}(r:aL K ι n H ws vs):aL K ι n H ws.dropLast vs.dropLast:=by rw[List.dropLast_eq_take,List.dropLast_eq_take,r.length];exact r.take _
def yk(m:Tw.Mt)(da:Tw.Env->Tw.Hp->Tw.R Tw.W):Tw.Env->Tw.Hp->Tw.R Tw.W:=fun ρ h=>(da ρ h).bind fun x h=>if Tw.j6 m x h then Tw.method m x [] h else .bad
theorem yE(hm:m=.rev\/m=.pop)(e:Tw.j6 m w h=true):∃i ws,w=.ref i/\h[i]?=some (.lst ws):=by
 have e:Tw.j6 .append w h=true:=by rcases hm with rfl|rfl<;>cases w<;>exact e
 exact BA e
theorem M8(hb:attributeBase o "reverse" X.env (eval o X.env)=eval o X.env)(hl:(apos.endLine== cpos.line)=true)(ho:PE X o (tE (zx X E) da)):
  PE X (.Call (.Attribute o "reverse" apos) [] [] cpos) (tE (zx X E) (yk .rev da)):=by
 refine PE.imp (AN zo PySem.F.slot_list_reverse PySem.F.type_list_reverse za ho hb hl) fun σ H Q Z=>Z.k3 fun ρ h ι at' p=>?_;unfold yk at p;refine⟨ρ,h,ι,at',(step at' p).mono fun x H1 Z=>Z.k4 fun w h1 ι1 at1 e1 r1 p1=>?_⟩;obtain⟨c1,pp⟩:=ak.ite p1;clear p1;obtain⟨i,ws,rfl,ei⟩:=yE (.inl rfl) c1;cases r1;obtain⟨xs,q1,q2⟩:=at1.hr.lst ei;refine⟨.inl ⟨rfl,xs,bW.of q1⟩,_,xs,rfl,rfl,q1,?_⟩
 .simp only[Tw.method,ei] at pp;obtain⟨hr',ex⟩:=at1.hr.put (o:=.lst xs.reverse) (u:=.lst ws.reverse) ei rfl rfl (fun _ z=>nomatch z) fun H' kp z=>⟨_,z,(q2.rev).keep kp⟩;exact pp ι1 _ .ah ex hr' .ah
theorem s_pop(hb:attributeBase o "pop" X.env (eval o X.env)=eval o X.env)(hl:(apos.endLine== cpos.line)=true)(ho:PE X o (tE (zx X E) da)):
  PE X (.Call (.Attribute o "pop" apos) [] [] cpos) (tE (zx X E) (yk .pop da)):=by
 refine PE.imp (AN zo PySem.F.slot_list_pop PySem.F.type_list_pop Kb ho hb hl) fun σ H Q Z=>Z.k3 fun ρ h ι at' p=>?_;unfold yk at p;refine⟨ρ,h,ι,at',(step at' p).mono fun x H1 Z=>Z.k4 fun w h1 ι1 at1 e1 r1 p1=>?_⟩;obtain⟨c1,pp⟩:=ak.ite p1;clear p1;obtain⟨i,ws,rfl,ei⟩:=yE (.inr rfl) c1;cases r1;obtain⟨xs,q1,q2⟩:=at1.hr.lst ei;simp only[Tw.method,ei] at pp;cases eg:ws.getLast? with
 |none=>rw[eg] at pp;exact pp.elim
 |some y=>
  rw[eg] at pp;rw[List.getLast?_eq_getElem?] at eg;obtain⟨v,hv,rv⟩:=q2.get eg;rw[q2.length] at hv;refine⟨.inl ⟨rfl,xs,bW.of q1⟩,_,xs,v,rfl,rfl,q1,hv,?_⟩;obtain⟨hr',ex⟩:=at1.hr.put (o:=.lst xs.dropLast) (u:=.lst ws.dropLast) ei rfl rfl (fun _ z=>nomatch z) fun H' kp z=>⟨_,z,(q2.dropLast).keep kp⟩;exact pp ι1 _ v ex hr' (by have:=rv.keep (ex.keeps at1.hr);exact this)
end
section
variable {X:Cx}{E:XK}{a b c e:Expr}{pos pos' p1 p2 pos2:Pos}{da db dc:Tw.Env->Tw.Hp->Tw.R Tw.W}
noncomputable def isCall:Expr->Bool
 |.Call .. => true
 |_=>false
theorem BK(h:isCall a=true):swapsWithSole [.Tuple [x,y] k p] a l env=pure false:=by cases a<;>first|rfl|cases h
theorem xa(h:isCall a=true):swappedStores [.Tuple [x,y] k p] a env=pure none:=by cases a<;>first|rfl|cases h
theorem yP(h:isCall a=true):swapsWithSole [.Tuple [x,y,z] k p] a l env=pure false:=by cases a<;>first|rfl|cases h
theorem wb(h:isCall a=true):swappedStores [.Tuple [x,y,z] k p] a env=pure none:=by cases a<;>first|rfl|cases h
theorem Iy{x y z:Expr}{k0:Nat}{p:Pos}{i j k:Nat}(hg:PG X (.Tuple [x,y,z] k0 p) (CO X.K 3 (oM (gv i) (oM (gv j) (oM (gv k) CQ)))))(ha:PE X a (tE (zx X E) da))(hc:isCall a=true):
  PS X (.Assign [.Tuple [x,y,z] k0 p] a pos) (cN (zx X E) fun ρ h=>(da ρ h).bind fun x h=>match x with
   |.tup [u,v,w]=>.ok (.next (((ρ.set i (some u)).set j (some v)).set k (some w))) h
   |_=>.bad):=by
 refine PS.imp (uw ha hg (yP hc) (wb hc)) fun D σ H ⟨ρ,h,ι,at',p⟩=>⟨ρ,h,ι,at',(eR at' p).mono fun x H1 ⟨w,h1,ι1,at1,e1,r1,p1⟩=>?_⟩;split at p1
 .next u v w=>
  cases r1 with
  | @tup ad xs ws ea ra=>
   cases ra with
   |cons r1 ra=>
    cases ra with
    |cons r2 ra=>
     cases ra with
     |cons r3 ra=>
      cases ra;exact⟨ad,_,rfl,TupAt.sq ea,rfl,_,_,rfl,_,_,rfl,_,_,rfl,rfl,p1.next (((at1.set r1 i).set r2 j).set r3 k)⟩
 .exact p1.elim
theorem Kj(hg:PG X (.Tuple [x,y] k p) g)(ht:yO (zx X E) (.two i j) g)(ha:PE X a (tE (zx X E) da))(hc:isCall a=true):
  PS X (.Assign [.Tuple [x,y] k p] a pos) (cN (zx X E) fun ρ h=>(da ρ h).bind fun x h=>match x with
   |.tup [u,v]=>.ok (.next ((ρ.set i (some u)).set j (some v))) h
   |_=>.bad):=by
 refine PS.imp (uw ha hg (BK hc) (xa hc)) fun D σ H ⟨ρ,h,ι,at',p⟩=>⟨ρ,h,ι,at',(eR at' p).mono fun x H1 ⟨w,h1,ι1,at1,e1,r1,p1⟩=>?_⟩;split at p1
 .next u v=>exact ht ι1 h1 H1 ρ _ σ (.tup [u,v]) x _ at1 r1 rfl fun σ1 at2=>p1.next at2
 .exact p1.elim
theorem Ma{i:Nat}{x:Str}(hN:X.N.Nodup)(hi:X.N[i]?=some x)(hx:Loc X.env.scope x)(hf:X.fn x=true\/X.env.scope.names.lookup x=some .local)(ha:PE X a (tE (zx X E) da)):
  PS X (.AugAssign (.Name x pos') .Add a pos) (cN (zx X E) fun ρ h=>match ρ[i]? with
   |some (some (.int n))=>(da ρ h).bind fun y h=>match y with
    |.int b=>Tw.R.of ((Tw.binI .add n b).map fun c=>.next (ρ.set i (some (.int c)))) h
    |_=>.bad
   |_=>.bad):=by
 refine PS.imp (KO hN hi hx ha Ju hf) fun D σ H Z=>Z.k3 fun ρ h ι at' p=>?_;dsimp only at p;split at p
 .next n en=>
  obtain⟨v,hv,rv⟩:=at'.st i _ en;cases rv;refine⟨_,hv,ρ,h,ι,at',(eR at' p).mono fun y H1 Z=>Z.k4 fun w h1 ι1 at1 e1 r1 p1=>?_⟩;cases r1 with
  |int b=>exact⟨n,b,rfl,rfl,p1.next (at1.set (.int _) i)⟩
  |_=>exact p1.elim
 .exact p.elim
theorem Mm{tb:Tw.Env->Tw.Hp->Tw.R Tw.Fl}(hp:PassesOwn (model X.prog X.w) X.A X.env X.xe)(hc:PT X c (tT (zx X E) dc))(hb:dE X body (cN (zx X E) tb)):
  PS X (.While c body [] pos) (cN (zx X E) fun ρ h=>Tw.fC dc tb n ρ h):=by
 refine PS.imp (D9 hp hc hb) fun D σ H Z=>Z.k3 fun ρ h ι at' p=>?_;refine⟨fun m σ H=>∃ρ h ι,At (zx X E) ι h H ρ σ/\bB (zx X E) ι h H (Tw.fC dc tb m ρ h) D,⟨n,ρ,h,ι,at',p⟩,?_⟩
 rintro m σ2 H2 ⟨ρ2,h2,ι2,at2,p2⟩
 cases m with
 |zero=>exact p2.elim
 |succ m=>
  unfold Tw.fC at p2;refine⟨ρ2,h2,ι2,at2,?_⟩;simp only[dT];cases e0:dc ρ2 h2 with
  |bad=>rw[e0] at p2;exact p2.elim
  |aI=>rw[e0] at p2;exact p2
  |ok w h3=>
   simp only[e0,Tw.R.aW] at p2⊢;cases et:Tw.truth h3 w with
   |none=>rw[et] at p2;exact p2.elim
   |some k=>
    rw[et] at p2;intro ι3 H3 k' e3 r3 q;cases q;have at3:=at2.later e3 r3;cases k with
    |false=>rw[if_neg (by decide)];exact (bB.later p2 e3).next at3
    |true=>
     rw[if_pos rfl];refine⟨fun σ H=>∃ρ h ι,At (zx X E) ι h H ρ σ/\bB (zx X E) ι h H (Tw.fC dc tb m ρ h) D,fun σ' H' q=>⟨m,vD _,q⟩,ρ2,h3,ι3,at3,?_⟩;exact tL (go:=Tw.fC dc tb m) (bB.later p2 e3) fun ρ4 h4 ι4 H4 σ4 e4 at4 p4=>⟨ρ4,h4,ι4,at4,p4⟩
end
noncomputable abbrev kI(g:List (Tw.S×Int)):List (Str×KTD.Dat):=g.map fun p=>(⟨p.1.toArray⟩,.flat (.int p.2))
def lK(K:W.Frag)(a:Addr)(g:List (Tw.S×Int)):Prop:=∀h:Heap,K.In h->KTD.TextTab h a (kI g)
theorem kU(s:Tw.S):∀g:List (Tw.S×Int),KTD.datumAt (⟨s.toArray⟩:Str) (kI g)=(g.lookup s).map fun i=>KTD.Dat.flat (.int i)
 |[]=>rfl
 |(x,i)::g=>by
  show (if decide ((⟨s.toArray⟩:Str)=⟨x.toArray⟩)=true then some (KTD.Dat.flat (.int i)) else KTD.datumAt (⟨s.toArray⟩:Str) (kI g))=_;rw[kU s g,di];by_cases h:s=x
  .subst h;simp
  .rw[if_neg (by rw[ax,str_inj];exact h)];have:(s== x)=false:=by simpa using h
   rw[this]
theorem xM(s:Tw.S)(g:List (Tw.S×Int)):KTD.inKeys (⟨s.toArray⟩:Str) (kI g)=(g.lookup s).isSome:=by rw[<-KTD.isSome_datumAt,kU];cases g.lookup s<;>rfl
section
variable {X:Cx}{E:XK}{a b c e y:Expr}{pos p1 p2 apos cpos:Pos}{dk:Tw.Env->Tw.Hp->Tw.R Tw.W}{t:Addr}{g:List (Tw.S×Int)}{G:Str}
theorem lK.here{pins:aE}{σ:L2.St}{H:L2.Hp}{s:Shared}(T:lK X.K t g)(I:Inv X pins σ H s):KTD.Here s.heap s.heap t (kI g):=⟨T s.heap I.bP,fun _ _ e=>e⟩
theorem vR{h:Heap}{v:Value}{i:Int}(q:KTD.Dat.At h (.flat (.int i)) v):∃t,v=.int i t:=PyProof.V.Flat.int_inv q
theorem LQ(T:lK X.K t g):pR X (fun x y H Q=>∃s i,x=.ref t/\y=.str s/\KTD.datumAt s (kI g)=some (.flat (.int i))/\Q (.int i) H):=by
 intro value slice pins s σ H x y v u Q I rx ry ⟨z,i,ex,ey,hk,q⟩ hs;subst ex ey;cases rx;obtain⟨tk,rfl⟩:=(show ∃t,u=Value.str z t from ry);have T':=T.here I;refine tail_any (ops:=[.str z tk,.ref t]) T'.typeIs z8.lookup ?_ hs;unfold getItem
 try with_reducible refine jB ?_
 refine ag (wpAny_sequenceKey T'.typeIs (by decide) ?_);refine ag (tS (name:=Str.ofString "__getitem__") T'.typeIs z8 (qt z8 T'.typeIs entry_dict_getitem ?_ (args_dict_getitem _ _)));show wpAny _ _ (dictGet t (.str z tk) >>= _) _ _ s;refine ag (KTD.dictGet_text T' (fun d v hd hv=>?_) fun hn=>by rw[hk] at hn;cases hn);rw[hk] at hd;cases hd;obtain⟨t',rfl⟩:=vR hv;exact aC ⟨_,rfl,aC ⟨.int i,H,I.tok _,⟨t',rfl⟩,q⟩⟩
theorem Ee(T:lK X.K t g):cX X (compareOp .In) (fun x y H Q=>∃s,x=.str s/\y=.ref t/\Q (.bl (KTD.inKeys s (kI g))) H):=by intro pins s σ H x y v u Q I rx ry ⟨z,ex,ey,q⟩;subst ex ey;cases ry;obtain⟨tk,rfl⟩:=(show ∃t,v=Value.str z t from rx);exact KTD.in_text (T.here I) ⟨.bl _,H,I.tok _,rfl,q⟩
theorem Md(hg:Gl X G)(hm:X.mg G=some (.ref t))(hd:(G== ("__debug__" : Str))=false)(T:lK X.K t g)(hy:PE X y (tE (zx X E) dk)):
  PE X (.Compare y [.In] [.Name G p1] pos) (tE (zx X E) fun ρ h=>(dk ρ h).bind fun x h=>match x with
   |.str s=>.ok (.bl (g.lookup s).isSome) h
   |_=>.bad)/\PT X (.Compare y [.In] [.Name G p1] pos) (tT (zx X E) fun ρ h=>(dk ρ h).bind fun x h=>match x with
   |.str s=>.ok (.bl (g.lookup s).isSome) h
   |_=>.bad):=by
 have fin:∀σ H Q,tE (zx X E) (fun ρ h=>(dk ρ h).bind fun x h=>match x with
   |.str s=>.ok (.bl (g.lookup s).isSome) h
   |_=>.bad) σ H Q->xN (fun x y H Q=>∃s,x=.str s/\y=.ref t/\Q (.bl (KTD.inKeys s (kI g))) H) (tE (zx X E) dk) (tC (.ref t)) σ H Q:=fun σ H Q Z=>Z.k3 fun ρ h ι at' p=>by
  refine⟨ρ,h,ι,at',(step at' p).mono fun x H1 Z=>Z.k4 fun w h1 ι1 at1 e1 r1 p1=>?_⟩;cases r1 with
  |str z hz=>exact⟨_,rfl,rfl,by rw[xM];exact ak.self (a:=Tw.W.bl (g.lookup z).isSome) p1 at1.hr (.bl _)⟩
  |_=>exact p1.elim
 have hG:PE X (.Name G p1) (tC (.ref t)):=jG (v:=.ref t) hg hm rfl hd;refine⟨PE.imp (yF (Ee T) hy hG rfl) fin,?_⟩;refine PT.imp (yd (Ee T) hy hG rfl) fun σ H Q Z=>Z.k3 fun ρ h ι at' p=>?_;simp only[dT,bind_assoc] at p;refine⟨ρ,h,ι,at',(step at' p).mono fun x H1 Z=>Z.k4 fun w h1 ι1 at1 e1 r1 p1=>?_⟩;cases r1 with
 |str z hz=>exact⟨_,rfl,rfl,_,rfl,by rw[xM];exact ak.self (a:=(g.lookup z).isSome) p1 at1.hr rfl⟩
 |_=>exact p1.elim
theorem Mp(hg:Gl X G)(hm:X.mg G=some (.ref t))(hd:(G== ("__debug__" : Str))=false)(T:lK X.K t g)(hy:PE X y (tE (zx X E) dk))(hs:oX y):
  PE X (.Subscript (.Name G p1) y pos) (tE (zx X E) fun ρ h=>(dk ρ h).bind fun x h=>match x with
   |.str s=>Tw.R.of ((g.lookup s).map .int) h
   |_=>.bad):=by
 refine PE.imp (En (LQ T) (jG (v:=.ref t) hg hm rfl hd) hy hs) fun σ H Q Z=>Z.k3 fun ρ h ι at' p=>?_;refine⟨ρ,h,ι,at',(step at' p).mono fun x H1 Z=>Z.k4 fun w h1 ι1 at1 e1 r1 p1=>?_⟩;cases r1 with
 |str z hz=>
  dsimp only at p1;cases e:g.lookup z with
  |none=>rw[e] at p1;exact p1.elim
  |some i=>
   rw[e] at p1;exact⟨_,i,rfl,rfl,by rw[kU,e];rfl,ak.self (a:=Tw.W.int i) p1 at1.hr (.int _)⟩
 |_=>exact p1.elim
theorem MF{kk:Nat}{kp:Pos}(hg:Gl X G)(hm:X.mg G=some (.ref t))(hd:(G== ("__debug__" : Str))=false)(T:lK X.K t g)(me:Me X (.Name G p1) "get" apos [y,.Constant (.int 0) kk kp] cpos)(hst:backTo cpos (starEach [y,.Constant (.int 0) kk kp] X.env)=[(false,eval y X.env),(false,eval (.Constant (.int 0) kk kp) X.env)])(hy:PE X y (tE (zx X E) dk)):
  PE X (.Call (.Attribute (.Name G p1) "get" apos) [y,.Constant (.int 0) kk kp] [] cpos) (tE (zx X E) fun ρ h=>(dk ρ h).bind fun x h=>match x with
   |.str s=>.ok (.int ((g.lookup s).getD 0)) h
   |_=>.bad):=by
 intro pins s σ H Q I ⟨ρ,h,ι,at',p⟩;have hG:PE X (.Name G p1) (tC (.ref t)):=jG (v:=.ref t) hg hm rfl hd;refine wpAny_Call_method me.base me.Bc me.line PySem.F.plainAttrs_dict PySem.F.slot_dict_get PySem.F.type_dict_get (az (hG pins s σ H (fun v H1=>v=.ref t/\H1=H) I ⟨rfl,rfl⟩) fun u s1 ⟨x,H1,I1,rx,ex,eH⟩=>?_);subst ex eH;obtain rfl:u=Value.ref t:=rx;have T1:=T.here I1;refine⟨T1.typeIs,T1.noDict,?_⟩;rw[hst];refine CD rfl (Calls.evalArgs_plain (C6 (az (hy pins s1 σ H1 _ I1 ⟨ρ,h,ι,at',step at' p⟩) fun iv s2 ⟨y',H2,I2,ry,w,h2,ι2,at2,e2,r2,p2⟩=>
  C6 (az (Be (X:=X) (i:=0) (j:=kk) (pos:=kp) pins s2 σ H2 (fun v H3=>v=.int 0/\H3=H2) I2 ⟨rfl,rfl⟩) fun fv s3 ⟨z,H3,I3,rz,ez,eH⟩=>Calls.spliced_nil ?_))))
 subst ez eH;obtain⟨tz,rfl⟩:=(show ∃t,fv=Value.int 0 t from rz);cases r2 with
 |str x hx=>
  obtain⟨tk,rfl⟩:=(show ∃t,iv=Value.str ⟨x.toArray⟩ t from ry);have q:Q (.int ((g.lookup x).getD 0)) H3:=ak.self (a:=Tw.W.int ((g.lookup x).getD 0)) p2 at2.hr (.int _);refine call_meetsIn PySem.F.slot_dict_get (T.here I3).typeIs PySem.F.entry_dict_get (PySem.F.args_dict_get_3 _ _ _) (KTD.meets_get2 (h₀:=s3.heap) (D:=kI g)) ⟨T.here I3,fun d v hd hv=>?_,fun hn=>?_⟩
  .rw[kU] at hd;cases e:g.lookup x with
   |none=>rw[e] at hd;cases hd
   |some i=>
    rw[e] at hd q;cases hd;obtain⟨t',rfl⟩:=vR hv;exact⟨.int i,H3,I3.tok _,⟨t',rfl⟩,q⟩
  .rw[kU] at hn;cases e:g.lookup x with
   |none=>rw[e] at q;exact⟨.int 0,H3,I3.tok _,⟨tz,rfl⟩,q⟩
   |some i=>rw[e] at hn;cases hn
 |_=>exact p2.elim
end
def vm(K:W.Frag)(mg:Str->Option Value)(cl:eM)(c:m5)(F:List Tw.W->Tw.Hp->Tw.R Tw.W):Sp:=fun vs H Q E=>dY H c.cd c.q/\cE K mg cl F (vs++c.vs) H Q E
def Ex(X:Cx)(CX:fj)(C:Tw.Or)(c:m5):Prop:=∃k fd ps,bF X.prog X.w X.K X.mg X.base CX k c.g fd ps (vm X.K X.mg X.cl c (C c.f))/\cq k X.A/\Binds X.K fd ps []/\∃oc od sl,X.base.get? c.g=some ⟨oc,od,.func fd,sl⟩
theorem dY.later{K:Zk}{ι ι1:Nat->Addr}{h h1:Tw.Hp}(x:dY H c q)(r:HR K ι h H)(e:Ext ι h H ι1 h1 H1):dY H1 c q:=by obtain⟨oc,vs,t,e1,r1⟩:=x;refine⟨oc,vs,t,e.fr _ _ e1 (fun _ z=>nomatch z) fun i o ei m z=>?_,r1⟩;obtain⟨u,q,_,n,_⟩:=r.there ei m;rw[z,e1] at q;cases q;exact n _ _ rfl
section
variable {X:Cx}{E:XK}{CX:fj}{C:Tw.Or}{i:Nat}
theorem Gn{e:Expr}{es:List Expr}{ds:Tw.Env->Tw.Hp->Tw.R (List Tw.W)}(hi:X.N[i]?=some x)(hv:m8 X.env.scope x)(hd:(x== ("__debug__" : Str))=false)(hcd:(x== ("__classdict__" : Str))=false)
  (jb:∀i c,X.cl.fs i=some c->Ex X CX C c) (hx:Passes CX X E) (hs:PA X (e::es) (tA (zx X E) n ds)) (hpl:(e::es).all aw=true):
  PE X (.Call (.Name x p1) (e::es) [] pos) (tE (zx X E) fun ρ h=>match ρ[i]? with
   |some (some (Tw.W.ref a))=>match h[a]? with
    |some (.fun f ws)=>(ds ρ h).bind fun xs h=>C f (xs++ws) h
    |_=>.bad
   |_=>.bad):=by
 have hst:starEach (e::es) X.env=(false,eval e X.env)::starEach es X.env:=aR (by rw[jU,ao] at hpl;exact hpl.1);intro pins s σ H Q I ⟨ρ,h,ι,at',p⟩;dsimp only at p;cases er:ρ[i]? with
 |none=>rw[er] at p;exact p.elim
 |some ow=>
  cases ow with
  |none=>rw[er] at p;exact p.elim
  |some w=>
   cases w with
   |ref a=>
    rw[er] at p;dsimp only at p;cases ea:h[a]? with
    |none=>rw[ea] at p;exact p.elim
    |some o=>
     rw[ea] at p;cases o with
     | «fun» f ws=>
      dsimp only at p;obtain⟨v,sv,rv⟩:=at'.st i _ er;cases rv with
      |ref ha=>
       obtain⟨c,e1,e2,rfl,e4,e5⟩:=at'.hr.fn a f ws ea;obtain⟨k,fd,ps,G,hr,hb,oc,od,sl,eb⟩:=jb a c e1;rw[<-e2] at sv;refine Call_ (az (nD hi hv hd hcd pins s σ H (fun v H1=>v=.ref c.g/\H1=H) I ⟨_,sv,rfl,rfl⟩) fun fv s1 ⟨v,H1,I1,rv,ev,eH⟩=>?_);subst ev eH;cases rv;have at1:=at';refine W.callWith_F ⟨oc,od,fd,sl,I1.bk _ _ eb⟩ (az (hs pos pins s1 σ H1 _ I1 ⟨ρ,h,ι,at1,step at1 p⟩) fun us s2 ⟨vs,H2,I2,r2,xs,h2,ι2,at2,x2,rr,p2⟩=>⟨⟨oc,od,fd,sl,I2.bk _ _ eb⟩,?_⟩) hst ?_
       .refine qV (ds:=[]) (dvs:=[]) G hr hb .nil hx I2 r2 ?_;rw[eX];exact⟨e5.later at1.hr x2,xs++ws,h2,ι2,at2.hr,rr.1.append (e4.keep (x2.keeps at1.hr)),p2⟩
       .rw[gC (by rw[jU,ao] at hpl;exact hpl.2)];simp[backTo]
     |_=>exact p.elim
   |_=>rw[er] at p;exact p.elim
end
section
variable {X:Cx}{E:XK}{a b c:Expr}{pos p1 p2 pos2:Pos}{da db dc:Tw.Env->Tw.Hp->Tw.R Tw.W}
end
end TwS
namespace TwS
open PySem L2 PyProof.Rows Builtin Builtin.ObjectAttr
abbrev str(x:Tw.S):Str:=⟨x.toArray⟩
structure XT(K:W.Frag)(C:Addr):Prop where
 ha:W.findIn K (.ref C) "__class__" = some (some (.builtin "object.__class__"))
 hn:W.specialIn K (.builtin "object.__class__") "__get__" = some (some (.builtin "getset_descriptor.__get__"))
 ht:W.takesIn K (.builtin "object.__class__")=some true
section
variable {prog:Program}{w:World}{A:Around}{E:aO}{s:Shared}{K:W.Frag}{x C:Addr}{ox:Obj}
theorem Gq{Q:Option Value->Shared->Prop}(X:K.In s.heap)(I:W.InstAt s.heap x ox C od)(c:XC K C)(t:XT K C)(h:Q (some (.ref C)) {s with toks:=s.toks+1}):wpAny (model prog w) A (getAttr? (.ref x) "__class__") Q E s:=by
 obtain⟨cd,os,e1,e2,e3⟩:=c.mro;obtain⟨hh,g,d,tk,ost⟩:=s;have L0:=I.type (M:=model prog w);have L1:=tY (M:=model prog w) X c.ga;have L2:=tY (M:=model prog w) X c.gh;have hf:W.findObj K C od "__class__" = some (.bind (.builtin "getset_descriptor.__get__") (.builtin "object.__class__")):=by unfold W.findObj;rw[e1,si,t.ha,si];simp[t.hn,t.ht]
 have L3:=W.looks_find (M:=model prog w) X I hf;have LB:W.Looks (model prog w) hh (isInstance (.ref x) (.type "BaseException")) true:=L0.andThen (W.looks_mroIn X (c.sub (by decide)));have G:=PySem.F.excAttr_ValueError.ga;unfold getAttr? getAttrBy? getAttrBy;refine ag (wpAny_mkText (ag (qC (jB (ag (L0.at (ag (L1.at ?_))))))));show wpAny _ _ (getAttrByItsOwn _ _ _ _ _ _) _ _ _;unfold getAttrByItsOwn;refine ag (L2.at (ag (qC (jB ?_))));show wpAny _ _ (boundAndCalled _ _ _) _ _ _;unfold boundAndCalled;rw[G.bind];refine ag (aC (kB (codeAny_call_builtin G.plain PySem.F.entry_bexc_ga (@W.check_slot (model prog w) _ _ _ "BaseException.__getattribute__" "BaseException" "__getattribute__" (.ref x) [.str "__class__" tk] [] _ (by decide+kernel) (by decide+kernel) LB (PySem.F.args_bexc_ga _ _) ?_))));refine ag (aC (ag (aC (ag (L0.at (ag (L3.at ?_)))))));show wpAny _ _ (holding [_] (call _ [_,.ref x,.ref C]) >>= ret) _ _ _;refine ag (jB (kB (W.class_get (ox:=ox) (od:=od) X I (c.sub (by decide)) ?_)));refine aC ?_;show wpAny _ _ (handedOut (.ref C)) _ _ _;rw[W.handedOut_of rfl];exact aC (aC h)
theorem vf(c:XC K C)(t:XT K C):W.KitX K (.ref x) (.ref C) (fun h=>W.InstAt h x ox C od) where
 ty:=fun _ _ _ I=>I.type
 it:=fun _ _ X _=>by
  obtain⟨cd,os,e1,_⟩:=c.mro;unfold W.clsIn at e1;split at e1
  .rename_i c' d' cd' sl' ho;intro A' Q' E' s' k q;unfold isType loadHead;exact ag (wpAny_loadPart (k _ _ (X _ _ ho)) (aC q))
  .cases e1
 ne:=fun h tp dd its n sl X htp=>by
  obtain⟨cd,os,e1,_⟩:=c.mro;refine Bool.eq_false_iff.mpr fun q=>?_;have e:C=tp:=Value.ref.inj (gS.mp q);subst e;unfold W.clsIn at e1;split at e1
  .rename_i c' d' cd' sl' ho;have z:=(X _ _ ho).symm.trans htp;cases z
  .cases e1
 ca:=fun X I k=>Gq X I c t k
end
section
variable {X:Cx}{pins:aE}{σ:L2.St}{H:L2.Hp}{s:Shared}
theorem IV(I:Inv X pins σ H s)(he:H e=some (mS C dx e))(hd:XD H gs dx):∃o od,W.InstAt s.heap e o C od:=by
 obtain⟨⟨o,vs,a1,a2,a3,a4⟩,_,_⟩:=I.av e _ he;have nc:W.notCls o:=by unfold W.notCls;rw[a4]
 cases dx with
 |none=>exact⟨o,none,a1,a2,nc,by rw[a3];trivial⟩
 |some d=>
  obtain⟨mA,n1,r1⟩:=I.av d _ hd;obtain⟨od,ho,lk⟩:=sZ n1;exact⟨o,some od,a1,a2,nc,by rw[a3];exact ho⟩
theorem tw:∀{ds:List Addr}{us:List Value},Vals (ds.map V.ref) us->us=ds.map Value.ref
 |[],us,r=>by cases r;rfl
 |d::ds,us,r=>by
  cases r with
  |cons a r=>cases a;rw[tw r];rfl
def Rg(K:W.Frag):List V->L2.Hp->VK->Prop:=fun xs H Q=>∃e C dx gs y b,xs=[V.ref e,y]/\H e=some (mS C dx e)/\XD H gs dx/\XC K C/\XT K C/\
 ((∃D,y=V.ref D/\W.kitOne K (.ref C) (.ref D)=some b)\/(∃T,y=V.ty T/\W.kitOne K (.ref C) (.type T)=some b)\/∃(p:Addr) (ds:List Addr),y=V.ref p/\H p=some (.tup (ds.map V.ref))/\W.kitAny K (.ref C) (ds.map Value.ref)=some b)/\Q (.bl b) H
theorem uZ:js X (.builtin "isinstance") (Rg X.K):=by
 intro pins s σ H xs us Q I r ⟨e,C,dx,gs,y,b,ex,he,hd,c,t,k,q⟩;subst ex;obtain⟨u,w',rfl,ru,rw'⟩:=vals2 r;cases ru;obtain⟨o,od,J⟩:=IV I he hd;have fin:∀tk,EP X pins σ Q (Value.bool b) {s with toks:=tk}:=fun tk=>⟨.bl b,H,I.tok tk,rfl,q⟩;rcases k with ⟨D,rfl,k⟩|⟨T,rfl,k⟩|⟨p,ds,rfl,hp,k⟩
 .cases rw';exact fO (vf c t) I.bP J k (fun z=>nomatch z) fin
 .cases rw';exact fO (vf c t) I.bP J k (fun z=>nomatch z) fin
 .cases rw';obtain⟨z,vs,rv,⟨oc,od',oda,osl⟩,h1,h2,n,h3⟩:=I.av p _ hp;have ev:=tw rv;simp only at h2 h3;subst h2 h3 ev;exact W.kia_tup (vf c t) I.bP J h1 k (fun z=>nomatch z) fin
end
theorem Gm:bootBuiltins "ValueError" = some (.type "ValueError"):=by decide+kernel
noncomputable def EG:List V->TA
 |[]=>wq
 |v::r=>o9 (tC v) (EG r)
theorem AJ:∀(vs:List V){Q:List V->L2.Hp->Prop},Q vs H->EG vs σ H Q
 |[],Q,q=>q
 |v::vs,Q,q=>AJ (σ:=σ) vs (Q:=fun xs H2=>Q (v::xs) H2) q
theorem CF(h:n<=100):n<=sizeLine:=by rw[gu];lia
def Ho(e:Expr):Option (Str×Expr):=(gy e).bind fun r=>if r.1=("isinstance" : Str) then (mR r.2).bind fun q=>(aK q.1).map fun a=>(a,q.2) else none
theorem CW(h:Ho e=some r):∃p p2 pos,e=.Call (.Name "isinstance" p) [.Name r.1 p2,r.2] [] pos:=by
 obtain⟨⟨f,as⟩,e1,h⟩:=kG.mp h;dsimp only at h;by_cases c:f=("isinstance" : Str)
 .rw[if_pos c] at h;obtain⟨⟨x,y⟩,e2,h⟩:=kG.mp h;obtain⟨a,e3,rfl⟩:=sj.mp h;obtain⟨p,pos,z1⟩:=cQ e1;have z2:=iA e2;obtain⟨p2,z3⟩:=aH e3;dsimp only at z1 z2 z3⊢;exact⟨p,p2,pos,by rw[z1,z2,z3,c]⟩
 .rw[if_neg c] at h;cases h
noncomputable def qu:List Str->List Expr->Bool
 |[],es=>es.isEmpty
 |n::ns,es=>(mF es).any fun r=>decide (aK r.1=some n)&&qu ns r.2
end TwS
namespace TwS
open PySem L2 PyProof.Rows
section
variable {X:Cx}{E:XK}
theorem BU{i:Nat}{ds cs:List Tw.S}{y:Str}{ye:Expr}{v0:V}{p p2 pos:Pos}(hg:Gl X "isinstance")(hm:X.mg "isinstance" = none)(hj:X.N[i]?=some y)(vj:m8 X.env.scope y)(oj:okN y=true)(he:PE X ye (tC v0))(hst:starEach [ye] X.env=(false,eval ye X.env)::starEach [] X.env)
  (hk:∀d∈ds,∃C,X.mg (str d)=some (.ref C)/\XC X.K C/\XT X.K C/\((∃D,v0=V.ref D/\W.kitOne X.K (.ref C) (.ref D)=some (cs.contains d))\/∃T,v0=V.ty T/\W.kitOne X.K (.ref C) (.type T)=some (cs.contains d))):
  PE X (.Call (.Name "isinstance" p) [.Name y p2,ye] [] pos) (tE (zx X E) fun ρ h=>(match ρ[i]? with|some (some w)=>Tw.R.ok w h|_=>.bad).bind fun w h=>Tw.R.of ((Tw.nM w ds cs h).map .bl) h):=by
 refine PE.imp (mf uZ hg hm D5 (bD (nD (i:=i) hj vj (okN.d oj).1 (okN.d oj).2) (bD he cZ hst) rfl) (he:=rfl) (hpl:=by rw[hst];rfl)) fun σ H Q ⟨ρ,h,ι,at',p⟩=>?_;dsimp only at p;cases e:ρ[i]? with
 |none=>rw[e] at p;exact p.elim
 |some ow=>
  cases ow with
  |none=>rw[e] at p;exact p.elim
  |some w=>
   simp only[e,Tw.R.aW] at p;obtain⟨v,s1,rv⟩:=at'.st i w e;cases rv with
   | @ref a ha=>
    cases ea:h[a]? with
    |none=>simp only[Tw.nM,ea] at p;exact p.elim
    |some ob=>
     cases ob with
     |aI c fs=>
      simp only[Tw.nM,ea] at p;by_cases cd:ds.contains c=true
      .rw[if_pos cd] at p;obtain⟨C,m,xc,xt,k⟩:=hk c (CG.mp cd);obtain⟨C0,dx,gs,m0,t0,d0,rf⟩:=at'.hr.obj a _ ea;have em:C0=C:=by
        have m0:X.mg (str c)=some (.ref C0):=m0;rw[m] at m0;cases m0;rfl
       subst em;refine⟨_,s1,ι a,C0,dx,gs,v0,cs.contains c,rfl,t0,d0,xc,xt,?_,ak.self (a:=Tw.W.bl (cs.contains c)) p at'.hr (.bl _)⟩;rcases k with k|k
       .exact .inl k
       .exact .inr (.inl k)
      .rw[if_neg cd] at p;exact p.elim
     |_=>simp only[Tw.nM,ea] at p;exact p.elim
   |_=>exact p.elim
theorem HW{i:Nat}{ds cs:List Tw.S}{y:Str}{ye:Expr}{as:List Addr}{p p2 pos:Pos}(hg:Gl X "isinstance")(hm:X.mg "isinstance" = none)(hj:X.N[i]?=some y)(vj:m8 X.env.scope y)(oj:okN y=true)(he:PE X ye (JY (EG (as.map V.ref))))(hl:as.length<=100)(hst:starEach [ye] X.env=(false,eval ye X.env)::starEach [] X.env)
  (hk:∀d∈ds,∃C,X.mg (str d)=some (.ref C)/\XC X.K C/\XT X.K C/\W.kitAny X.K (.ref C) (as.map Value.ref)=some (cs.contains d)):
  PE X (.Call (.Name "isinstance" p) [.Name y p2,ye] [] pos) (tE (zx X E) fun ρ h=>(match ρ[i]? with|some (some w)=>Tw.R.ok w h|_=>.bad).bind fun w h=>Tw.R.of ((Tw.nM w ds cs h).map .bl) h):=by
 refine PE.imp (mf uZ hg hm D5 (bD (nD (i:=i) hj vj (okN.d oj).1 (okN.d oj).2) (bD he cZ hst) rfl) (he:=rfl) (hpl:=by rw[hst];rfl)) fun σ H Q ⟨ρ,h,ι,at',p⟩=>?_;dsimp only at p;cases e:ρ[i]? with
 |none=>rw[e] at p;exact p.elim
 |some ow=>
  cases ow with
  |none=>rw[e] at p;exact p.elim
  |some w=>
   simp only[e,Tw.R.aW] at p;obtain⟨v,s1,rv⟩:=at'.st i w e;cases rv with
   | @ref a ha=>
    cases ea:h[a]? with
    |none=>simp only[Tw.nM,ea] at p;exact p.elim
    |some ob=>
     cases ob with
     |aI c fs=>
      simp only[Tw.nM,ea] at p;by_cases cd:ds.contains c=true
      .rw[if_pos cd] at p;obtain⟨C,m,xc,xt,k⟩:=hk c (CG.mp cd);obtain⟨C0,dx,gs,m0,t0,d0,rf⟩:=at'.hr.obj a _ ea;have em:C0=C:=by
        have m0:X.mg (str c)=some (.ref C0):=m0;rw[m] at m0;cases m0;rfl
       subst em;replace p:ak (zx X E) RE ι h H (Tw.R.ok (Tw.W.bl (cs.contains c)) h) Q:=p;refine⟨_,s1,AJ _ ⟨CF (by simpa using hl),fun a4 z4=>?_⟩⟩;obtain⟨r4,e4⟩:=at'.hr.grow (o:=.tup (as.map V.ref)) z4;exact⟨ι a,C0,dx,gs,.ref a4,cs.contains c,rfl,dG (o:=.tup (as.map V.ref)) z4 _ _ t0,XD.keep d0 (fun b u _=>dG (o:=.tup (as.map V.ref)) z4 b u),xc,xt,.inr (.inr ⟨a4,as,rfl,bI,k⟩),p _ _ _ e4 r4 (.bl _)⟩
      .rw[if_neg cd] at p;exact p.elim
     |_=>simp only[Tw.nM,ea] at p;exact p.elim
   |_=>exact p.elim
theorem E2:∀(ns:List Tw.S)(as:List Addr)(es:List Expr),qu (ns.map str) es=true->(∀n∈ns,Gl X (str n)/\(str n== ("__debug__" : Str))=false)->(ns.map fun n=>X.mg (str n))=(as.map fun a=>some (Value.ref a))->PA X es (EG (as.map V.ref))
 |[],[],es,h,_,_=>by
  rw[zJ,qu] at h;rw[bJ h];exact cZ
 |[],_::_,_,_,_,e=>nomatch e
 |_::_,[],_,_,_,e=>nomatch e
 |n::ns,a::as,es,h,g,e=>by
  rw[gz,qu] at h;replace h:=ay h;obtain⟨⟨x,r⟩,e1,h⟩:=h;obtain rfl:=dX e1;simp only[ao,ax] at h;obtain⟨p3,z⟩:=aH h.1;dsimp only at z⊢;rw[z];simp only[gz,List.cons.injEq] at e;have gn:=g n (by simp);exact bD (jG gn.1 e.1 rfl gn.2) (E2 ns as r h.2 (fun m hm=>g m (by simp[hm])) e.2) rfl
end
inductive Fk where
 |fn (x:Str)
 |me (c m:Tw.S)
 |dP
 deriving DecidableEq
structure Cfg where
 fns:List Fk
 cons:List (Str×Tw.W):=[]
 nums:List (Str×List (Tw.S×Int)):=[]
 cT:List (Tw.S×List Tw.S):=[]
 hd:Bool:=false
 ij:List (Tw.S×List Tw.S):=[]
 nE:List (List Tw.S×List Tw.S):=[]
 ci:Nat->Stmt->Bool:=fun _ _=>false
 wk:Bool:=false
mutual
noncomputable def same:Tw.W->Tw.W->Bool
 |.ah,.ah=>true
 |.bl a,.bl b=>decide (a=b)
 |.int a,.int b=>decide (a=b)
 |.str a,.str b=>decide (a=b)
 |.tup xs,.tup ys=>oQ xs ys
 |_,_=>false
noncomputable def oQ:List Tw.W->List Tw.W->Bool
 |[],[]=>true
 |x::xs,y::ys=>same x y&&oQ xs ys
 |_,_=>false
end
mutual
theorem xP:∀(x y:Tw.W),same x y=true->x=y
 |.ah,y,h=>by cases y<;>first|rfl|(simp[same] at h)
 |.bl a,y,h=>by cases y<;>simp[same] at h;rw[h]
 |.int a,y,h=>by cases y<;>simp[same] at h;rw[h]
 |.str a,y,h=>by cases y<;>simp[same] at h;rw[h]
 |.tup xs,y,h=>by
  cases y with
  |tup ys=>rw[same] at h;rw[v7 xs ys h]
  |_=>simp[same] at h
 |.ref a,y,h=>by cases y<;>simp[same] at h
 |.lst a,y,h=>by cases y<;>simp[same] at h
theorem v7:∀(xs ys:List Tw.W),oQ xs ys=true->xs=ys
 |[],[],_=>rfl
 |[],_::_,h=>by simp[oQ] at h
 |_::_,[],h=>by simp[oQ] at h
 |x::xs,y::ys,h=>by
  rw[oQ,ao] at h;rw[xP x y h.1,v7 xs ys h.2]
end
def DP(cf:Cfg)(x:Str)(w:Tw.W):Bool:=match cf.cons.lookup x with
 |some u=>same u w
 |none=>false
def cS:Tw.S:=[95,95,105,110,105,116,95,95]
noncomputable def OG:Tw.Op->Operator
 |.add=>.Add | .sub=>.Sub | .mul=>.Mult | .fdiv=>.FloorDiv | .mod=>.Mod | .pow=>.Pow
noncomputable def EH:Tw.Cp->CmpOp
 |.eq=>.Eq | .ne=>.NotEq | .lt=>.Lt | .le=>.LtE | .gt=>.Gt | .ge=>.GtE | .isin=>.In | .notin=>.NotIn | .notN=>.IsNot
noncomputable def Jr:Tw.W->Const->Bool
 |.ah,.none=>true
 |.bl b,.bool c=>b== c
 |.int i,.int j=>decide (i=j)
 |.str x,.str y=>decide (y.cps.toList=x)&&x.all (fun c=>decide (c<0x110000))
 |_,_=>false
noncomputable def bN:Tw.B->Str
 |.len=> "len" | .list=> "list" | .tuple=> "tuple" | .int=> "int"
noncomputable def mN:Tw.Mt->Str
 |.append=> "append" | .pop=> "pop" | .rev=> "reverse"
noncomputable def Bc:Tw.Mt->Nat->Bool
 |.append,1=>true | .pop,0=>true | .rev,0=>true
 |_,_=>false
noncomputable def JT:Expr->Bool
 |.IfExp .. => false
 |_=>true
def dJ(e:Expr):Bool:=aw e&&JT e
def ir(x:Str):Bool:=!(x== ("__debug__" : Str))
theorem c8(h:ir x=true):(x== ("__debug__" : Str))=false:=by unfold ir at h;simpa using h
noncomputable def isNil:Tw.Es->Bool
 |.nil=>true
 |_=>false
def RY(e:Expr):Bool:=(k8 e).any fun c=>match c with | .int i=>decide (i=0)|_=>false
mutual
noncomputable def aB(cf:Cfg)(sc:Sc)(N:List Str):Tw.E->Expr->Bool
 |.var i,e=>(aK e).any fun x=>decide (N[i]?=some x)&&rS sc x&&ir x&&!(x== ("__classdict__" : Str))
 |.cst w,e=>(k8 e).any (fun c=>Jr w c) || (aK e).any fun x=>fk sc x&&ir x&&DP cf x w
 |.tup es,e=>(l9 e).any fun xs=>fe cf sc N es xs&&decide (xs.length<=1000)
 |.lst es,e=>(EW e).any fun xs=>fe cf sc N es xs&&decide (xs.length<=1000)
 |.fc es,e=>(BF e).any fun r=>r.1.isEmpty&&r.2.isEmpty&&isNil es
 |.bin op a b,e=>(E4 e).any fun r=>decide (r.2.1=OG op)&&aB cf sc N a r.1&&aB cf sc N b r.2.2
 |.cmp op a b,e=>(yW e).any fun r=>decide (r.2.1=[EH op])&&(gi r.2.2).any fun y=>aw y&&aB cf sc N a r.1&&aB cf sc N b y
 |.and a b,e=>(we e).any fun r=>tV r.1&&(mF r.2.1).any fun q=>(mF q.2).any fun s=>dJ q.1&&aB cf sc N a q.1&&(if s.2.isEmpty then dJ s.1&&aB cf sc N b s.1 else aB cf sc N b (.BoolOp .And (s.1::s.2) r.2.2))
 |.or a b,e=>(we e).any fun r=>!(tV r.1)&&(mF r.2.1).any fun q=>(mF q.2).any fun s=>dJ q.1&&aB cf sc N a q.1&&(if s.2.isEmpty then dJ s.1&&aB cf sc N b s.1 else aB cf sc N b (.BoolOp .Or (s.1::s.2) r.2.2))
 |.not a,e=>(IS e).any fun r=>Fh r.1&&dJ r.2&&aB cf sc N a r.2
 |.ite c a b,e=>(JN e).any fun r=>dJ r.1&&aB cf sc N c r.1&&aB cf sc N a r.2.1&&aB cf sc N b r.2.2
 |.idx a b,e=>(oY e).any fun r=>aw r.2&&aB cf sc N a r.1&&aB cf sc N b r.2
 |.sl a lo hi,e=>(oY e).any fun r=>(EX r.2).any fun s=>s.2.2.isNone&&aB cf sc N a r.1&&ze cf sc N lo s.1&&ze cf sc N hi s.2.1
 |.call f es,e=>(gy e).any fun r=>decide (cf.fns[f]?=some (.fn r.1))&&fk sc r.1&&ir r.1&&!(r.2.isEmpty)&&fe cf sc N es r.2
 |.blt b a,e=>!cf.hd&&(gy e).any fun r=>(gi r.2).any fun y=>decide (r.1=bN b)&&fk sc r.1&&aw y&&aB cf sc N a y
 |.eT m o es,e=>(y0 e).any fun r=>decide (r.2.1=mN m)&&Bc m r.2.2.2.1.length&&(r.2.2.1.endLine== r.2.2.2.2.line)&&aw r.1&&lh r.1&&aB cf sc N o r.1&&fe cf sc N es r.2.2.2.1
 |.comp el it c,e=>!cf.hd&&(uP e).any fun r=>(zM r.2.1).any fun g=>(aK g.1).any fun x=>yK N sc [x] r.2.2.1&&decide (cO N [x]).Nodup&&aw g.2.1&&zG cf sc N false it g.2.1&&aB cf r.2.2.1.names (cO N [x]) el r.1&&
   (match c with
    |.none=>g.2.2.isEmpty
    |.some d=>(gi g.2.2).any fun z=>dJ z&&aB cf r.2.2.1.names (cO N [x]) d z)
 |.bad,_=>true
 |.fld a x,e=>(m9 e).any fun r=>decide (r.2.1=⟨x.toArray⟩)&&xU.contains r.2.1&&aw r.1&&lh r.1&&aB cf sc N a r.1
 |.mk c f es,e=>(gy e).any fun r=>decide (r.1=⟨c.toArray⟩)&&decide (cf.fns[f]?=some (.me c cS))&&fk sc r.1&&ir r.1&&fe cf sc N es r.2
 |.kS a ns ds cs,e=>match a with
  |.var i=>(Ho e).any fun r=>decide (N[i]?=some r.1)&&rS sc r.1&&okN r.1&&fk sc "isinstance" && decide ((ns,cs)∈cf.nE)&&ds.all (fun d=>(cf.cT.lookup d).isSome)&&((aK r.2).any (fun x=>decide (ns.map str=[x])&&fk sc x&&ir x) || (l9 r.2).any fun es=>decide (2<=ns.length)&&decide (ns.length<=100)&&qu (ns.map str) es&&ns.all fun n=>fk sc (str n)&&ir (str n))
  |_=>false
 |.lX i es,e=>!cf.hd&&(gy e).any fun r=>decide (N[i]?=some r.1)&&rS sc r.1&&ir r.1&&!(r.1== ("__classdict__" : Str))&&!(r.2.isEmpty)&&fe cf sc N es r.2
 |.own o c m f es,e=>(y0 e).any fun r=>decide (r.2.1=⟨m.toArray⟩)&&decide (cf.fns[f]?=some (.me c m))&&decide (m≠cS)&&(r.2.2.1.endLine== r.2.2.2.2.line)&&decide (r.2.2.2.1.length<20)&&aw r.1&&lh r.1&&aB cf sc N o r.1&&fe cf sc N es r.2.2.2.1
 |.qM a,e=>(gy e).any fun r=>(mR r.2).any fun q=>decide (r.1=("isinstance" : Str))&&fk sc r.1&&aw q.1&&(aK q.2).any (fun x=>decide (x=("bool" : Str))&&fk sc x)&&aB cf sc N a q.1
 |.qL k g,e=>(yW e).any fun r=>decide (r.2.1=[.In])&&(gi r.2.2).any fun y=>(aK y).any fun x=>decide (cf.nums.lookup x=some g)&&fk sc x&&ir x&&aB cf sc N k r.1
 |.qN k g,e=>(oY e).any fun r=>(aK r.1).any fun x=>decide (cf.nums.lookup x=some g)&&fk sc x&&ir x&&aw r.2&&aB cf sc N k r.2
 |.gW k g,e=>(y0 e).any fun r=>decide (r.2.1=("get" : Str))&&(r.2.2.1.endLine== r.2.2.2.2.line)&&(aK r.1).any fun x=>decide (cf.nums.lookup x=some g)&&fk sc x&&ir x&&(mR r.2.2.2.1).any fun q=>RY q.2&&aw q.1&&aB cf sc N k q.1
noncomputable def fe(cf:Cfg)(sc:Sc)(N:List Str):Tw.Es->List Expr->Bool
 |.nil,xs=>xs.isEmpty
 |.cons e es,xs=>(mF xs).any fun r=>aw r.1&&aB cf sc N e r.1&&fe cf sc N es r.2
noncomputable def ze(cf:Cfg)(sc:Sc)(N:List Str):Tw.Eo->Option Expr->Bool
 |.none,o=>o.isNone
 |.some e,o=>o.any fun x=>aB cf sc N e x
noncomputable def zG(cf:Cfg)(sc:Sc)(N:List Str)(tp:Bool):Tw.It->Expr->Bool
 |.seq a,e=>aB cf sc N a e
 |.ja a,e=>(gy e).any fun r=>(gi r.2).any fun y=>decide (r.1=("range" : Str))&&fk sc r.1&&aw y&&aB cf sc N a y
 |.sD a b,e=>(gy e).any fun r=>(mR r.2).any fun q=>decide (r.1=("range" : Str))&&fk sc r.1&&aw q.1&&aw q.2&&aB cf sc N a q.1&&aB cf sc N b q.2
 |.rev a,e=>(gy e).any fun r=>(gi r.2).any fun y=>decide (r.1=("reversed" : Str))&&fk sc r.1&&aw y&&aB cf sc N a y
end
noncomputable def cg:List Str:=["len", "list", "tuple", "int", "bool", "isinstance", "range", "reversed"]
structure pY(K:W.Frag)(mg:Str->Option Value)(cf:Cfg):Prop where
 exc:∀c fs,cf.cT.lookup c=some fs->∃C,mg (str c)=some (.ref C)/\XC K C/\XT K C
 ij:∀n cs,(n,cs)∈cf.ij->∃D,mg (str n)=some (.ref D)/\∀c fs C,cf.cT.lookup c=some fs->mg (str c)=some (.ref C)->W.exmOne K (.ref C) (.ref D)=some (cs.contains c)
 nE:∀ns cs,(ns,cs)∈cf.nE->(∃n D,ns=[n]/\mg (str n)=some (.ref D)/\∀c fs C,cf.cT.lookup c=some fs->mg (str c)=some (.ref C)->W.kitOne K (.ref C) (.ref D)=some (cs.contains c))\/
  (ns.map str=[("ValueError" : Str)]/\mg "ValueError" = none/\∀c fs C,cf.cT.lookup c=some fs->mg (str c)=some (.ref C)->W.kitOne K (.ref C) (.type "ValueError")=some (cs.contains c))\/
  ∃as:List Addr,2<=ns.length/\(ns.map fun n=>mg (str n))=(as.map fun a=>some (Value.ref a))/\∀c fs C,cf.cT.lookup c=some fs->mg (str c)=some (.ref C)->W.kitAny K (.ref C) (as.map Value.ref)=some (cs.contains c)
structure ff(cf:Cfg)(C:Tw.Or)(CX:fj)(E:XK)(X:Cx):Prop where
 calm:cf.hd=false->X.calm=true
 units:X.A.units+950<cLine
 own:∀f x,cf.fns[f]?=some (.fn x)->∃k g fd ps,bF X.prog X.w X.K X.mg X.base CX k g fd ps (cE X.K X.mg X.cl (C f))/\cq k X.A/\X.mg x=some (.ref g)/\W.keepIn X.K (.ref g)=true/\Binds X.K fd ps []
 me:∀f c m,cf.fns[f]?=some (.me c m)->m≠cS->∃k g fd ps A,bF X.prog X.w X.K X.mg X.base CX k g fd ps (cE X.K X.mg X.cl (C f))/\cq k X.A/\X.mg ⟨c.toArray⟩=some (.ref A)/\GoodC X.K A/\Meth X.K A ⟨m.toArray⟩ g/\Binds X.K fd ps []
 mG:∀f c,cf.fns[f]?=some (.me c cS)->∃k g fd ps A,bF X.prog X.w X.K X.mg X.base CX k g fd ps (cE X.K X.mg X.cl (C (f+1000)))/\cq (k+1) X.A/\X.mg ⟨c.toArray⟩=some (.ref A)/\GoodC X.K A/\Mk X.K A g/\Binds X.K fd ps []
 num:∀x g,cf.nums.lookup x=some g->∃t,X.mg x=some (.ref t)/\lK X.K t g
 con:∀x w,cf.cons.lookup x=some w->∃v u,X.mg x=some u/\RelV v u/\∀ι n H,RW X.K ι n H w v
 blt:∀x∈cg,X.mg x=none
 xf:pY X.K X.mg cf
 pass:Passes CX X E
 never:∀outer H s e s',¬ CX outer H s E0 e s'
 jb:cf.hd=false->∀i c,X.cl.fs i=some c->Ex X CX C c
theorem ff.comp(r:ff cf C CX E X):ff cf C CX E0 (bc X scope c x s H pins fp):=
 ⟨r.calm,r.units,r.own,r.me,r.mG,r.num,r.con,r.blt,r.xf,fun _ _ _ _ _ _ _ h=>(r.never _ _ _ _ _ h).elim,r.never,r.jb⟩
theorem ff.Cd(r:ff cf C CX E X):ff cf C CX E0 X.Cd:=
 ⟨r.calm,r.units,r.own,r.me,r.mG,r.num,r.con,r.blt,r.xf,fun _ _ _ _ _ _ _ h=>(r.never _ _ _ _ _ h).elim,r.never,r.jb⟩
abbrev NJ(cf:Cfg):Cfg:={cf with fns:=[],hd:=true}
theorem ff.hd(r:ff cf C CX E X)(v:Value):ff (NJ cf) C CX E0 (hX X v):=
 ⟨fun z=>(nomatch z),r.units,fun f x e=>(by simp at e),fun f c m e=>(by simp at e),fun f c e=>(by simp at e),r.num,r.con,r.blt,⟨r.xf.exc,r.xf.ij,r.xf.nE⟩,fun _ _ _ _ _ _ _ h=>(r.never _ _ _ _ _ h).elim,r.never,fun z=>nomatch z⟩
section
variable {cf:Cfg}{C:Tw.Or}{CX:fj}{E:XK}
def SE(C:Tw.Or)(E:XK)(X:Cx)(t:Tw.E)(e:Expr):Prop:=PE X e (tE (zx X E) (Tw.af C t))/\(dJ e=true->PT X e (tT (zx X E) (Tw.af C t)))
theorem A9(h:dJ e=true):aw e=true:=by unfold dJ at h;rw[ao] at h;exact h.1
theorem SE.val(h:PE X e (tE (zx X E) (Tw.af C t)))(hv:ES e=true):SE C E X t e:=⟨h,fun hp=>FD h (Bw (A9 hp) hv)⟩
theorem Ky(h:Jr w c=true):SE C E X (.cst w) (.Constant c k p):=by
 refine SE.val ?_ rfl;rw[show Tw.af C (.cst w)=fun _ h=>.ok w h from by funext ρ h;rw[Tw.xF]];cases w with
 |ah=>cases c<;>first|exact rD JO fun _ _ _=>.ah|exact absurd (show false=true from h) j0
 |bl b=>
  cases c with
  |bool b'=>
   have h:(b== b')=true:=h;rw[gS] at h;subst h;exact rD MG fun _ _ _=>.bl _
  |_=>exact absurd (show false=true from h) j0
 |int i=>
  cases c with
  |int j=>
   have h:decide (i=j)=true:=h;rw[ax] at h;subst h;exact rD Be fun _ _ _=>.int _
  |_=>exact absurd (show false=true from h) j0
 |str x=>
  cases c with
  |str y=>
   have h:(decide (y.cps.toList=x)&&x.all (fun c=>decide (c<0x110000)))=true:=h;simp only[ao,ax,jP] at h;obtain⟨rfl,h2⟩:=h;obtain⟨y⟩:=y;exact rD Ax fun ι n H=>by
    have:=RW.str (K:=X.K) (ι:=ι) (n:=n) (H:=H) y.toList h2;simpa using this
  |_=>exact absurd (show false=true from h) j0
 |_=>exact absurd (show false=true from h) j0
theorem JW(R:ff cf C CX E X)(hg:Gl X x)(hd:(x== ("__debug__" : Str))=false)(h:DP cf x w=true):SE C E X (.cst w) (.Name x p):=by
 unfold DP at h;cases e:cf.cons.lookup x with
 |none=>rw[e] at h;exact absurd h j0
 |some u=>
  rw[e] at h;have e2:=xP u w h;subst e2;obtain⟨v,val,hm,rv,rw'⟩:=R.con x u e;refine SE.val ?_ rfl;rw[show Tw.af C (.cst u)=fun _ h=>.ok u h from by funext ρ h;rw[Tw.xF]];exact rD (jG hg hm rv hd) rw'
theorem PT.bool(h:PT X (.BoolOp op xs p) t):PW X (.BoolOp op xs p) t:=fun _=>h
theorem no{P:Prop}(h:false=true):P:=absurd h j0
theorem Je(R:ff cf C CX E X)(ha:SE C E X a x)(hb:SE C E X b y)(hp:aw y=true):SE C E X (.cmp op a b) (.Compare x [EH op] [y] p):=by
 have hu:X.A.units+1<cLine:=by have:=R.units;lia
 have key:∀{r:R2},cX X (compareOp (EH op)) r->(∀(ι:Nat->Addr)(h:Tw.Hp)(H:L2.Hp)(w u:Tw.W)(x y:V)(k:Bool)(Q:VK),HR (zx X E) ι h H->RW X.K ι h.length H w x->RW X.K ι h.length H u y->Tw.cmp op w u h=some k->Q (.bl k) H->r x y H Q)->SE C E X (.cmp op a b) (.Compare x [EH op] [y] p):=fun {r} ho hr=>by
  have z:=Jw (pos:=p) (op:=op) ho hr ha.1 hb.1 (wW _ hp);have e:Tw.af C (.cmp op a b)=fun ρ h=>(Tw.af C a ρ h).bind fun x h=>(Tw.af C b ρ h).bind fun y h=>Tw.R.of ((Tw.cmp op x y h).map .bl) h:=by funext ρ h;rw[Tw.GL]
  unfold SE;rw[e];exact⟨z.1,fun _=>z.2⟩
 cases op with
 |eq=>exact key (HD (E:=E) R.units) PR
 |ne=>exact key (Jm (E:=E) R.units) Qn
 |lt=>exact key LV (uj fun w u h=>by cases w<;>cases u<;>rfl)
 |le=>exact key LP (uj fun w u h=>by cases w<;>cases u<;>rfl)
 |gt=>exact key MU (uj (f:=fun i j=>decide (j<i)) fun w u h=>by cases w<;>cases u<;>rfl)
 |ge=>exact key LI (uj (f:=fun i j=>decide (j<=i)) fun w u h=>by cases w<;>cases u<;>rfl)
 |isin=>exact key (IQ (E:=E) (by have:=R.units;lia)) O9
 |notin=>exact key (Bb (E:=E) (by have:=R.units;lia)) FN
 |notN=>exact key Gh HA
theorem Jq(ha:SE C E X a x)(hb:SE C E X b y):SE C E X (.bin op a b) (.BinOp x (OG op) y p):=by
 refine SE.val ?_ rfl;rw[show Tw.af C (.bin op a b)=fun ρ h=>(Tw.af C a ρ h).bind fun x h=>(Tw.af C b ρ h).bind fun y h=>Tw.bin op x y h from by funext ρ h;rw[Tw.F9]];cases op with
 |add=>exact Mn ha.1 hb.1
 |sub=>exact MZ ha.1 hb.1
 |mul=>exact LC ha.1 hb.1
 |fdiv=>exact HI ha.1 hb.1
 |mod=>exact Lz ha.1 hb.1
 |pow=>exact L6 ha.1 hb.1
theorem BN(ha:SE C E X a x)(hx:dJ x=true)(hb:PE X (.BoolOp .And (y::r) p) (tE (zx X E) (Tw.af C b)))(hw:PW X (.BoolOp .And (y::r) p) (tT (zx X E) (Tw.af C b))):
  SE C E X (.and a b) (.BoolOp .And (x::y::r) p):=by
 have e:Tw.af C (.and a b)=Ad (Tw.af C a) (Tw.af C b):=by funext ρ h;rw[Tw.Fw];rfl
 unfold SE;rw[e];exact⟨MM ha.1 hb,fun _=>(w_and (ha.2 hx) hw).pt⟩
theorem EY(ha:SE C E X a x)(hx:dJ x=true)(hb:PE X (.BoolOp .Or (y::r) p) (tE (zx X E) (Tw.af C b)))(hw:PW X (.BoolOp .Or (y::r) p) (tT (zx X E) (Tw.af C b))):
  SE C E X (.or a b) (.BoolOp .Or (x::y::r) p):=by
 have e:Tw.af C (.or a b)=Fi (Tw.af C a) (Tw.af C b):=by funext ρ h;rw[Tw.KW];rfl
 unfold SE;rw[e];exact⟨OY ha.1 hb,fun _=>(w_or (ha.2 hx) hw).pt⟩
theorem KU(ha:SE C E X a x)(hx:dJ x=true):SE C E X (.not a) (.UnaryOp .Not x p):=by
 have e:Tw.af C (.not a)=fun ρ h=>(Tw.af C a ρ h).bind fun x h=>Tw.R.of ((Tw.truth h x).map fun b=>.bl (!b)) h:=by funext ρ h;rw[Tw.GN]
 unfold SE;rw[e];have z:=Mf (pos:=p) ha.1 (ha.2 hx);exact⟨z.1,fun _=>z.2⟩
theorem IE(R:ff cf C CX E X)(cal:X.calm=true)(hg:Gl X (bN b))(ha:SE C E X a y)(hy:aw y=true):SE C E X (.blt b a) (.Call (.Name (bN b) p) [y] [] pos):=by
 refine SE.val ?_ rfl;rw[show Tw.af C (.blt b a)=fun ρ h=>(Tw.af C a ρ h).bind fun x h=>Tw.builtin b x h from by funext ρ h;rw[Tw.FA]];have hst:starEach [y] X.env=(false,eval y X.env)::starEach [] X.env:=aR hy;cases b with
 |len=>exact tZ (mf uR hg (R.blt _ (by simp[cg,bN])) PySem.boot_len (bD ha.1 cZ hst) (by decide) (by decide) hst rfl) Hj
 |tuple=>exact tZ (nk BL hg (R.blt _ (by simp[cg,bN])) PyProof.Rows.boot_tuple (bD ha.1 cZ hst) (by decide) (by decide) hst rfl) C1
 |list=>exact tZ (nk u7 hg (R.blt _ (by simp[cg,bN])) PyProof.Rows.boot_list (bD ha.1 cZ hst) (by decide) (by decide) hst rfl) Gs
 |int=>exact tZ (nk AO hg (R.blt _ (by simp[cg,bN])) PyProof.Rows.boot_int (bD ha.1 cZ hst) (by decide) (by decide) hst rfl) HM
theorem zU(hv:aw v=true)(hn:lh v=true)(hl:(ap.endLine== cp.line)=true)(hst:starEach ys X.env=ys.map fun y=>(false,eval y X.env))(hy:ys.length<20):Me X v x ap ys cp:=by
 refine⟨jy hv hn,?_,hl⟩;rw[hst];simp only[backTo,List.map_map,ao];refine⟨⟨by simp,rfl⟩,?_⟩;rw[ax];show ys.length+0+0<30
 lia
end
section
variable {cf:Cfg}{C:Tw.Or}{CX:fj}{E:XK}
theorem xB(ha:SE C E X a x)(hx:dJ x=true)(op:BoolOp):PE X (.BoolOp op [x] p) (tE (zx X E) (Tw.af C a))/\PW X (.BoolOp op [x] p) (tT (zx X E) (Tw.af C a)):=by
 refine⟨Jc ha.1,?_⟩;cases op with
 |And=>exact Fp (ha.2 hx)
 |Or=>exact KA (ha.2 hx)
theorem Dq(N:List Str)(x:List Str)(i:Nat):(cO N x)[N.length+i]?=x[i]?:=by unfold cO;rw[lQ (by simp)];simp
theorem vB(hnd:(cO X.N [x]).Nodup)(cs:gj X.N X.env.scope [x] scope):∀C s H pins fp,PG (bc X scope C [x] s H pins fp) (.Name x px) (gv X.N.length):=fun C s H pins fp=>
 rT hnd (show (cO X.N [x])[X.N.length]?=some x by have:=Dq X.N [x] 0;simpa using this) (.inl (lookup_relabel_local (cs.kS x (by simp)))) (.inr (lookup_relabel_local (cs.kS x (by simp))))
theorem A4(h:tV o=true):o=.And:=by cases o<;>first|rfl|cases h
theorem Cu(h:tV o=false):o=.Or:=by cases o<;>first|rfl|cases h
theorem cn(h:fe cf sc N .nil ys=true):ys=[]:=by exact bJ h
theorem cc(h:fe cf sc N (.cons t ts) ys=true):∃y r,ys=y::r/\aw y=true/\aB cf sc N t y=true/\fe cf sc N ts r=true:=by replace h:=ay h;obtain⟨⟨x,r⟩,e1,h⟩:=h;simp only[ao] at h;exact⟨x,r,dX e1,h.1.1,h.1.2,h.2⟩
theorem P0(m:Tw.Mt)(o:Tw.E):Tw.af C (.eT m o .nil)=yk m (Tw.af C o):=by
 funext ρ h;rw[Tw.xH];unfold yk
 congr 1
theorem PL(m:Tw.Mt)(o e1:Tw.E):Tw.af C (.eT m o (.cons e1 .nil))=JU m (Tw.af C o) (Tw.af C e1):=by
 funext ρ h;rw[Tw.xH];unfold JU
 congr 1
 funext x h
 congr 1
 rw[Tw.kg];cases Tw.af C e1 ρ h with
 |ok a h=>simp
 |_=>rfl
theorem xl{sc:Sc}{N:List Str}{el:Tw.E}{it:Tw.It}{c:Tw.Eo}{e:Expr}(h:aB cf sc N (.comp el it c) e=true):(!cf.hd)=true/\((uP e).any fun r=>(zM r.2.1).any fun g=>(aK g.1).any fun x=>yK N sc [x] r.2.2.1&&decide (cO N [x]).Nodup&&aw g.2.1&&zG cf sc N false it g.2.1&&aB cf r.2.2.1.names (cO N [x]) el r.1&&
   (match c with
    |.none=>g.2.2.isEmpty
    |.some d=>(gi g.2.2).any fun z=>dJ z&&aB cf r.2.2.1.names (cO N [x]) d z))=true:=by
 cases c<;>exact xp.mp h
mutual
theorem aJ:∀(t:Tw.E){E:XK}{sc:Sc}{N:List Str}{X:Cx}{e:Expr},ff cf C CX E X->dI sc N X->aB cf sc N t e=true->SE C E X t e
 |.var i,E,sc,N,X,e,R,S,h=>by
  replace h:=ay h;obtain⟨x,e1,h⟩:=h;obtain⟨p,rfl⟩:=aH e1;simp only[ao,ax,gZ] at h;refine SE.val ?_ rfl;exact MH (by rw[S.n];exact h.1.1.1) (S.lI x h.1.1.2) (c8 h.1.2) h.2
 |.cst w,E,sc,N,X,e,R,S,h=>by
  replace h:=(wz _ _).mp h;rcases h with h|h
  .replace h:=ay h;obtain⟨c,e1,h⟩:=h;obtain⟨k,p,rfl⟩:=kN e1;exact Ky h
  .replace h:=ay h;obtain⟨x,e1,h⟩:=h;obtain⟨p,rfl⟩:=aH e1;simp only[ao] at h;exact JW R (S.gl _ h.1.1) (c8 h.1.2) h.2
 |.tup es,E,sc,N,X,e,R,S,h=>by
  replace h:=ay h;obtain⟨xs,e1,h⟩:=h;obtain⟨k,p,rfl⟩:=km e1;simp only[ao,ax] at h;obtain⟨_,z⟩:=ku es R S h.1;refine SE.val ?_ rfl;exact LF z (by rw[gu];lia)
 |.lst es,E,sc,N,X,e,R,S,h=>by
  replace h:=ay h;obtain⟨xs,e1,h⟩:=h;obtain⟨p,rfl⟩:=A8 e1;simp only[ao,ax] at h;obtain⟨_,z⟩:=ku es R S h.1;refine SE.val ?_ rfl;exact L7 z (by rw[gu];lia)
 |.fc es,E,sc,N,X,e,R,S,h=>by
  replace h:=ay h;obtain⟨⟨ks,vs⟩,e1,h⟩:=h;obtain⟨p,rfl⟩:=zK e1;simp only[ao] at h;obtain⟨⟨h1,h2⟩,h3⟩:=h;obtain rfl:=bJ (show ks.isEmpty=true from h1);obtain rfl:=bJ (show vs.isEmpty=true from h2);cases es with
  |cons _ _=>exact no h3
  |nil=>
   refine SE.val ?_ rfl;have e:Tw.af C (.fc .nil)=Qk []:=by funext ρ h;rw[Tw.GP,Tw.uB];rfl
   rw[e];exact JC
 |.bin op a b,E,sc,N,X,e,R,S,h=>by
  replace h:=ay h;obtain⟨⟨x,o,y⟩,e1,h⟩:=h;obtain⟨p,rfl⟩:=Bk e1;simp only[ao,ax] at h;obtain⟨⟨rfl,h1⟩,h2⟩:=h;exact Jq (aJ a R S h1) (aJ b R S h2)
 |.cmp op a b,E,sc,N,X,e,R,S,h=>by
  replace h:=ay h;obtain⟨⟨x,os,ys⟩,e1,h⟩:=h;obtain⟨p,rfl⟩:=sL e1;simp only[ao,ax] at h;obtain⟨rfl,h⟩:=h;replace h:=ay h;obtain⟨y,e2,h⟩:=h;obtain rfl:=dg e2;simp only[ao] at h;exact Je R (aJ a R S h.1.2) (aJ b R S h.2) h.1.1
 |.and a b,E,sc,N,X,e,R,S,h=>by
  replace h:=ay h;obtain⟨⟨o,xs,p⟩,e1,h⟩:=h;obtain rfl:=rh e1;simp only[ao] at h;obtain⟨h0,h⟩:=h;obtain rfl:=A4 h0;replace h:=ay h;obtain⟨⟨x,r⟩,e2,h⟩:=h;obtain rfl:=dX e2;replace h:=ay h;obtain⟨⟨y,r⟩,e3,h⟩:=h;obtain rfl:=dX e3;simp only[ao] at h;obtain⟨⟨h0,h1⟩,h2⟩:=h;cases c:r.isEmpty with
  |true=>
   obtain rfl:=bJ c;have h2:(dJ y&&aB cf sc N b y)=true:=h2;rw[ao] at h2;have z:=xB (p:=p) (aJ b R S h2.2) h2.1 .And;exact BN (aJ a R S h1) h0 z.1 z.2
  |false=>
   rw[c,if_neg (by decide)] at h2;have z:=aJ b R S h2;exact BN (aJ a R S h1) h0 z.1 (PT.bool (z.2 rfl))
 |.or a b,E,sc,N,X,e,R,S,h=>by
  replace h:=ay h;obtain⟨⟨o,xs,p⟩,e1,h⟩:=h;obtain rfl:=rh e1;simp only[ao,gZ] at h;obtain⟨h0,h⟩:=h;obtain rfl:=Cu h0;replace h:=ay h;obtain⟨⟨x,r⟩,e2,h⟩:=h;obtain rfl:=dX e2;replace h:=ay h;obtain⟨⟨y,r⟩,e3,h⟩:=h;obtain rfl:=dX e3;simp only[ao] at h;obtain⟨⟨h0,h1⟩,h2⟩:=h;cases c:r.isEmpty with
  |true=>
   obtain rfl:=bJ c;have h2:(dJ y&&aB cf sc N b y)=true:=h2;rw[ao] at h2;have z:=xB (p:=p) (aJ b R S h2.2) h2.1 .Or;exact EY (aJ a R S h1) h0 z.1 z.2
  |false=>
   rw[c,if_neg (by decide)] at h2;have z:=aJ b R S h2;exact EY (aJ a R S h1) h0 z.1 (PT.bool (z.2 rfl))
 |.not a,E,sc,N,X,e,R,S,h=>by
  replace h:=ay h;obtain⟨⟨o,x⟩,e1,h⟩:=h;obtain⟨p,rfl⟩:=DK e1;simp only[ao] at h;obtain⟨⟨h0,h1⟩,h2⟩:=h;obtain rfl:=A0 h0;exact KU (aJ a R S h2) h1
 |.ite c a b,E,sc,N,X,e,R,S,h=>by
  replace h:=ay h;obtain⟨⟨z,x,y⟩,e1,h⟩:=h;obtain⟨p,rfl⟩:=DQ e1;simp only[ao] at h;obtain⟨⟨⟨h0,h1⟩,h2⟩,h3⟩:=h;refine⟨?_,fun z=>?_⟩
  .rw[show Tw.af C (.ite c a b)=fun ρ h=>(Tw.af C c ρ h).bind fun x h=>match Tw.truth h x with
    |some true=>Tw.af C a ρ h
    |some false=>Tw.af C b ρ h
    |none=>.bad from by funext ρ h;rw[Tw.Gb]<;>rfl]
   exact LO ((aJ c R S h1).2 h0) (aJ a R S h2).1 (aJ b R S h3).1
  .simp[dJ,JT] at z
 |.idx a b,E,sc,N,X,e,R,S,h=>by
  replace h:=ay h;obtain⟨⟨x,y⟩,e1,h⟩:=h;obtain⟨p,rfl⟩:=kn e1;simp only[ao] at h;refine SE.val ?_ rfl;exact Mj (by have:=R.units;lia) (aJ a R S h.1.2).1 (aJ b R S h.2).1 (uG h.1.1)
 |.sl a lo hi,E,sc,N,X,e,R,S,h=>by
  replace h:=ay h;obtain⟨⟨x,y⟩,e1,h⟩:=h;obtain⟨p,rfl⟩:=kn e1;replace h:=ay h;obtain⟨⟨l,u,s⟩,e2,h⟩:=h;obtain⟨p2,rfl⟩:=BD e2;simp only[ao,sx] at h;obtain⟨⟨⟨rfl,h1⟩,h2⟩,h3⟩:=h;refine SE.val ?_ rfl;exact Fu (aJ a R S h1).1 (Eh lo R S h2) (Eh hi R S h3)
 |.call f es,E,sc,N,X,e,R,S,h=>by
  replace h:=ay h;obtain⟨⟨x,as⟩,e1,h⟩:=h;obtain⟨p,pos,rfl⟩:=cQ e1;simp only[ao,ax,gZ] at h;obtain⟨⟨⟨⟨h0,h1⟩,h2⟩,hn⟩,h3⟩:=h;obtain⟨y,ys,rfl⟩:=qY hn;obtain⟨hp,z⟩:=ku es R S h3;obtain⟨k,g,fd,ps,G,hr,hm,hk,hb⟩:=R.own f x h0;refine SE.val ?_ rfl;have hp':aw y=true/\ys.all aw=true:=by rw[jU,ao] at hp;exact hp
  refine s_call G R.pass hr (S.gl x h1) hm hk hb z (c8 h2) (aR hp'.1) ?_;rw[gC hp'.2];simp[backTo]
 |.blt b a,E,sc,N,X,e,R,S,h=>by
  replace h:=xp.mp h;obtain⟨hd,h⟩:=h;have cal:=R.calm (by simpa using hd);replace h:=ay h;obtain⟨⟨x,as⟩,e1,h⟩:=h;obtain⟨p,pos,rfl⟩:=cQ e1;replace h:=ay h;obtain⟨y,e2,h⟩:=h;obtain rfl:=dg e2;simp only[ao,ax] at h;obtain⟨⟨⟨rfl,h2⟩,h3⟩,h4⟩:=h;exact IE R cal (S.gl _ h2) (aJ a R S h4) h3
 |.eT m o es,E,sc,N,X,e,R,S,h=>by
  replace h:=ay h;obtain⟨⟨v,x,ap,ys,cp⟩,e1,h⟩:=h;obtain rfl:=p9 e1;simp only[ao,ax] at h;obtain⟨⟨⟨⟨⟨⟨rfl,h1⟩,h2⟩,h3⟩,h4⟩,h5⟩,h6⟩:=h;have ho:=(aJ o R S h5).1;have hu:X.A.units+1<cLine:=by have:=R.units;lia
  refine SE.val ?_ rfl;cases es with
  |nil=>
   obtain rfl:=cn h6;rw[P0];cases m with
   |rev=>exact M8 (jy h3 h4) h2 ho
   |pop=>exact s_pop (jy h3 h4) h2 ho
   |_=>exact no h1
  |cons t1 es=>
   obtain⟨y,r,rfl,p1,q1,q2⟩:=cc h6;cases es with
   |nil=>
    obtain rfl:=cn q2;have hst:starEach [y] X.env=[(false,eval y X.env)]:=aR p1;have he:=(aJ t1 R S q1).1;have me:Me X v (mN m) ap [y] cp:=zU h3 h4 h2 (by rw[hst];rfl) (by simp);rw[PL];cases m with
    |append=>exact Cw me hst ho he
    |_=>exact no h1
   |cons t2 es=>
    obtain⟨y2,r,rfl,p2,q4,q3⟩:=cc q2;cases m<;>exact no h1
 |.comp el it c,E,sc,N,X,e,R,S,h=>by
  replace h:=xl h;obtain⟨hd,h⟩:=h;have cal:=R.calm (by simpa using hd);replace h:=ay h;obtain⟨⟨y,gs,scope,pos⟩,e1,h⟩:=h;obtain rfl:=rm e1;replace h:=ay h;obtain⟨⟨tg,iter,ifs⟩,e2,h⟩:=h;obtain rfl:=tF e2;replace h:=ay h;obtain⟨x,e3,h⟩:=h;obtain⟨px,rfl⟩:=aH e3;simp only[ao,ax] at h;obtain⟨⟨⟨⟨⟨h0,h1⟩,h2⟩,h3⟩,h4⟩,h5⟩:=h;have cs:=B4 S h0;have hk:scope.kind=.function:=cs.kind;have hnd:(cO X.N [x]).Nodup:=by rw[S.n];exact h1
  have sees:∀{Cc:Addr}{s:Shared}{H:L2.Hp}{pins:aE}{fp:List Addr},dI scope.names (cO N [x]) (bc X scope Cc [x] s H pins fp):=fun {Cc s H pins fp}=>by
   have z:=dI.comp (X:=X) (scope:=scope) (C:=Cc) (x:=[x]) (s:=s) (H:=H) (pins:=pins) (fp:=fp) hk;rw[S.n] at z;exact z
  refine SE.val ?_ rfl;have hev:Tw.af C (.comp el it c)=vk JB (Tw.dN C it) (Tw.fW C c) (Tw.af C el):=by funext ρ h;rw[Tw.mq];rfl
  rw[hev];refine JX cal cs (vB hnd cs) (vn _ _) (zk it R S h3 (fun z=>nomatch z)) (hF h2) (fun Cc s H pins fp=>(aJ el R.comp sees h4).1) ?_;cases c with
  |none=>
   obtain rfl:=bJ (show ifs.isEmpty=true from h5);exact .inl ⟨rfl,fun ρ h=>by rw[Tw.nG]⟩
  |some d=>
   replace h5:=ay h5;obtain⟨z,e4,h5⟩:=h5;obtain rfl:=dg (show gi ifs=some z from e4);rw[ao] at h5;exact .inr ⟨z,Tw.af C d,rfl,fun ρ h=>by rw[Tw.nX],fun Cc s H pins fp=>(aJ d R.comp sees h5.2).2 h5.1⟩
 |.bad,E,sc,N,X,e,R,S,h=>by
  refine⟨?_,fun _=>?_⟩
  .rw[show Tw.af C .bad=fun _ _=>.bad from by funext ρ h;rw[Tw.sd]];exact fun pins s σ H Q I ⟨ρ,h,ι,at',p⟩=>p.elim
  .rw[show Tw.af C .bad=fun _ _=>.bad from by funext ρ h;rw[Tw.sd]];exact fun pins s σ H Q I ⟨ρ,h,ι,at',p⟩=>p.elim
 |.fld a x,E,sc,N,X,e,R,S,h=>by
  replace h:=ay h;obtain⟨⟨v,y,p⟩,e1,h⟩:=h;obtain rfl:=lT e1;simp only[ao,ax] at h;obtain⟨⟨⟨⟨rfl,h1⟩,h2⟩,h3⟩,h4⟩:=h;refine SE.val ?_ rfl;exact ME (by rw[yS] at h1;simpa using h1) (jy h2 h3) (aJ a R S h4).1
 |.mk c f es,E,sc,N,X,e,R,S,h=>by
  replace h:=ay h;obtain⟨⟨x,ys⟩,e1,h⟩:=h;obtain⟨p,pos,rfl⟩:=cQ e1;simp only[ao,ax] at h;obtain⟨⟨⟨⟨rfl,h0⟩,h1⟩,h2⟩,h3⟩:=h;obtain⟨hp,z⟩:=ku es R S h3;obtain⟨k,g,fd,ps,A,G,hr,hm,gc,hmk,hb⟩:=R.mG f c h0;refine SE.val ?_ rfl;rw[show Tw.af C (.mk c f es)=fun ρ h=>(Tw.ck C es ρ h).bind fun xs h=>(C (f+1000) (.ref h.length::xs) (h++[.ins c []])).bind fun r h'=>match r with
   |.ah=>.ok (.ref h.length) h'
   |_=>.bad from by funext ρ h;rw[Tw.Ii]<;>rfl]
  exact Qb hmk gc G R.pass hr (S.gl _ h1) hm hb z (c8 h2) hp
 |.kS a ns ds cs,E,sc,N,X,e,R,S,h=>by
  cases a with
  |var i=>
   replace h:=ay h;obtain⟨⟨y,ye⟩,e1,h⟩:=h;obtain⟨p,p2,pos,rfl⟩:=CW e1;rw[ao] at h;obtain⟨h,h7⟩:=h;simp only[ao,ax] at h;obtain⟨⟨⟨⟨⟨h1,h2⟩,h3⟩,h4⟩,h5⟩,h6⟩:=h;refine SE.val ?_ rfl;rw[show Tw.af C (.kS (.var i) ns ds cs)=fun ρ h=>(match ρ[i]? with|some (some w)=>Tw.R.ok w h|_=>.bad).bind fun w h=>Tw.R.of ((Tw.nM w ds cs h).map .bl) h from by funext ρ h;rw[Tw.GO,Tw.xo]<;>rfl];have hi:X.N[i]?=some y:=by rw[S.n];exact h1
   have hd:∀d∈ds,∃fs,cf.cT.lookup d=some fs:=fun d hd=>CT.mp (jP.mp h6 d hd);have mi:X.mg "isinstance" = none:=R.blt _ (by simp[cg]);replace h7:=(wz _ _).mp h7;rcases h7 with h7|h7
   .replace h7:=ay h7;obtain⟨x,e2,h7⟩:=h7;obtain⟨px,rfl⟩:=aH (show aK ye=some x from e2);simp only[ao,ax] at h7;obtain⟨⟨h8,h9⟩,h10⟩:=h7;have hI:=R.xf.nE ns cs h5;rcases hI with ⟨n,D,rfl,m,k⟩|⟨en,m,k⟩|⟨as,l2,_⟩
    .obtain rfl:str n=x:=by simpa using h8
     refine BU (v0:=.ref D) (S.gl _ h4) mi hi (S.lI _ h2) h3 (jG (S.gl _ h9) m rfl (c8 h10)) rfl fun d hd'=>?_;obtain⟨fs,ef⟩:=hd d hd';obtain⟨Cx,m1,xc,xt⟩:=R.xf.exc d fs ef;exact⟨Cx,m1,xc,xt,.inl ⟨D,rfl,k d fs Cx ef m1⟩⟩
    .obtain rfl:x= "ValueError" := by rw[en] at h8;exact (List.cons.inj h8).1.symm
     refine BU (v0:=.ty "ValueError") (S.gl _ h4) mi hi (S.lI _ h2) h3 (xm (S.gl _ h9) m Gm rfl (by decide) (by decide)) rfl fun d hd'=>?_;obtain⟨fs,ef⟩:=hd d hd';obtain⟨Cx,m1,xc,xt⟩:=R.xf.exc d fs ef;exact⟨Cx,m1,xc,xt,.inr ⟨_,rfl,k d fs Cx ef m1⟩⟩
    .have:=cR List.length h8;simp at this;lia
   .replace h7:=ay h7;obtain⟨es,e2,h7⟩:=h7;obtain⟨kt,pt,rfl⟩:=km (show l9 ye=some es from e2);simp only[ao,ax,jP] at h7;obtain⟨⟨⟨h8,h9⟩,h10⟩,h11⟩:=h7;have hI:=R.xf.nE ns cs h5;rcases hI with ⟨n,D,rfl,_⟩|⟨en,_⟩|⟨as,_,ea,k⟩
    .simp at h8
    .have:=cR List.length en;simp at this;lia
    .refine HW (as:=as) (S.gl _ h4) mi hi (S.lI _ h2) h3 (BI (E2 ns as es h10 (fun n hn=>⟨S.gl _ (h11 n hn).1,c8 (h11 n hn).2⟩) ea)) (by have:=cR List.length ea;simp at this;lia) rfl fun d hd'=>?_;obtain⟨fs,ef⟩:=hd d hd';obtain⟨Cx,m1,xc,xt⟩:=R.xf.exc d fs ef;exact⟨Cx,m1,xc,xt,k d fs Cx ef m1⟩
  |_=>exact no h
 |.lX i es,E,sc,N,X,e,R,S,h=>by
  replace h:=xp.mp h;obtain⟨hd,h⟩:=h;replace h:=ay h;obtain⟨⟨x,as⟩,e1,h⟩:=h;obtain⟨p,pos,rfl⟩:=cQ e1;simp only[ao,ax,gZ] at h;obtain⟨⟨⟨⟨⟨h0,h1⟩,h2⟩,h3⟩,hn⟩,h4⟩:=h;obtain⟨y,ys,rfl⟩:=qY hn;obtain⟨hp,z⟩:=ku es R S h4;refine SE.val ?_ rfl;exact Gn (by rw[S.n];exact h0) (S.lI _ h1) (c8 h2) h3 (R.jb (by simpa using hd)) R.pass z hp
 |.own o c m f es,E,sc,N,X,e,R,S,h=>by
  replace h:=ay h;obtain⟨⟨v,x,ap,ys,cp⟩,e1,h⟩:=h;obtain rfl:=p9 e1;simp only[ao,ax] at h;obtain⟨⟨⟨⟨⟨⟨⟨⟨rfl,h0⟩,h1⟩,h2⟩,h3⟩,h4⟩,h5⟩,h6⟩,h7⟩:=h;obtain⟨hp,z⟩:=ku es R S h7;obtain⟨k,g,fd,ps,A,G,hr,hm,gc,hme,hb⟩:=R.me f c m h0 h1;refine SE.val ?_ rfl;exact Lx hme G R.pass hr hm gc hb (aJ o R S h6).1 z (zU h4 h5 h2 (gC hp) h3) hp
 |.qM a,E,sc,N,X,e,R,S,h=>by
  replace h:=ay h;obtain⟨⟨x,as⟩,e1,h⟩:=h;obtain⟨p,pos,rfl⟩:=cQ e1;replace h:=ay h;obtain⟨⟨y1,y2⟩,e2,h⟩:=h;obtain rfl:=iA e2;simp only[ao,ax] at h;obtain⟨⟨⟨⟨rfl,h1⟩,h2⟩,h3⟩,h4⟩:=h;replace h3:=ay h3;obtain⟨z,e3,h3⟩:=h3;obtain⟨pz,rfl⟩:=aH (show aK y2=some z from e3);rw[ao] at h3;obtain rfl:z= "bool" := zz h3.1;refine SE.val ?_ rfl;rw[show Tw.af C (.qM a)=fun ρ h=>(Tw.af C a ρ h).bind fun x h=>match x with
   |.bl _=>.ok (.bl true) h
   |_=>.bad from by funext ρ h;rw[Tw.FI]<;>rfl]
  exact LR (S.gl _ h1) (R.blt _ (by simp[cg])) (aJ a R S h4).1 (xm (S.gl _ h3.2) (R.blt _ (by simp[cg])) PyProof.Rows.boot_bool rfl (by decide) (by decide)) (by rw[aR h2];rfl)
 |.qL k g,E,sc,N,X,e,R,S,h=>by
  replace h:=ay h;obtain⟨⟨y,os,ys⟩,e1,h⟩:=h;obtain⟨pos,rfl⟩:=sL e1;simp only[ao,ax] at h;obtain⟨rfl,h⟩:=h;replace h:=ay h;obtain⟨z,e2,h⟩:=h;obtain rfl:=dg e2;replace h:=ay h;obtain⟨x,e3,h⟩:=h;obtain⟨p,rfl⟩:=aH e3;simp only[ao,ax] at h;obtain⟨⟨⟨h0,h1⟩,h2⟩,h3⟩:=h;obtain⟨t,hm,T⟩:=R.num x g h0;have z:=Md (p1:=p) (pos:=pos) (S.gl x h1) hm (c8 h2) T (aJ k R S h3).1;have hev:Tw.af C (.qL k g)=fun ρ h=>(Tw.af C k ρ h).bind fun x h=>match x with
   |.str s=>.ok (.bl (g.lookup s).isSome) h
   |_=>.bad:=by funext ρ h;rw[Tw.GS]<;>rfl
  unfold SE;rw[hev];exact⟨z.1,fun _=>z.2⟩
 |.qN k g,E,sc,N,X,e,R,S,h=>by
  replace h:=ay h;obtain⟨⟨x,y⟩,e1,h⟩:=h;obtain⟨p,rfl⟩:=kn e1;replace h:=ay h;obtain⟨G,e3,h⟩:=h;obtain⟨pG,rfl⟩:=aH (show aK x=some G from e3);simp only[ao,ax] at h;obtain⟨⟨⟨⟨h0,h1⟩,h2⟩,h3⟩,h4⟩:=h;obtain⟨t,hm,T⟩:=R.num G g h0;refine SE.val ?_ rfl;rw[show Tw.af C (.qN k g)=fun ρ h=>(Tw.af C k ρ h).bind fun x h=>match x with
   |.str s=>Tw.R.of ((g.lookup s).map .int) h
   |_=>.bad from by funext ρ h;rw[Tw.GU]<;>rfl]
  exact Mp (S.gl G h1) hm (c8 h2) T (aJ k R S h4).1 (uG h3)
 |.gW k g,E,sc,N,X,e,R,S,h=>by
  replace h:=ay h;obtain⟨⟨v,x,ap,ys,cp⟩,e1,h⟩:=h;obtain rfl:=p9 e1;simp only[ao,ax] at h;obtain⟨⟨rfl,hl⟩,h⟩:=h;replace h:=ay h;obtain⟨G,e3,h⟩:=h;obtain⟨pG,rfl⟩:=aH (show aK v=some G from e3);simp only[ao,ax] at h;obtain⟨⟨⟨h0,h1⟩,h2⟩,h⟩:=h;replace h:=ay h;obtain⟨⟨y1,y2⟩,e4,h⟩:=h;obtain rfl:=iA e4;simp only[ao] at h;obtain⟨⟨hz,h3⟩,h4⟩:=h;replace hz:=ay hz;obtain⟨cz,e5,hz⟩:=hz;obtain⟨kk,kp,rfl⟩:=kN (show k8 y2=some cz from e5);cases cz with
  |int i=>
   obtain rfl:i=0:=zz hz;obtain⟨t,hm,T⟩:=R.num G g h0;refine SE.val ?_ rfl;rw[show Tw.af C (.gW k g)=fun ρ h=>(Tw.af C k ρ h).bind fun x h=>match x with
    |.str s=>.ok (.int ((g.lookup s).getD 0)) h
    |_=>.bad from by funext ρ h;rw[Tw.GI]<;>rfl]
   have hst:starEach [y1,.Constant (.int 0) kk kp] X.env=[(false,eval y1 X.env),(false,eval (.Constant (.int 0) kk kp) X.env)]:=aR h3;exact MF (S.gl G h1) hm (c8 h2) T (zU rfl rfl hl hst (by simp)) (by rw[hst];rfl) (aJ k R S h4).1
  |_=>exact no hz
theorem ku:∀(ts:Tw.Es){E:XK}{sc:Sc}{N:List Str}{X:Cx}{es:List Expr},ff cf C CX E X->dI sc N X->fe cf sc N ts es=true->es.all aw=true/\PA X es (tA (zx X E) es.length (Tw.ck C ts))
 |.nil,E,sc,N,X,es,R,S,h=>by
  obtain rfl:=bJ h;refine⟨rfl,?_⟩;rw[show Tw.ck C .nil=fun _ h=>.ok [] h from by funext ρ h;rw[Tw.uB]];exact MK
 |.cons t ts,E,sc,N,X,es,R,S,h=>by
  replace h:=ay h;obtain⟨⟨x,r⟩,e1,h⟩:=h;obtain rfl:=dX e1;simp only[ao] at h;obtain⟨⟨h0,h1⟩,h2⟩:=h;obtain⟨z1,z2⟩:=ku ts R S h2;refine⟨by rw[jU,h0,z1];rfl,?_⟩;exact Kr (aJ t R S h1).1 z2 (aR h0)
theorem Eh:∀(t:Tw.Eo){E:XK}{sc:Sc}{N:List Str}{X:Cx}{o:Option Expr},ff cf C CX E X->dI sc N X->ze cf sc N t o=true->PO X o (AG (zx X E) (Tw.fW C t))
 |.none,E,sc,N,X,o,R,S,h=>by
  obtain rfl:=sx.mp h;rw[show Tw.fW C .none=fun _ h=>.ok none h from by funext ρ h;rw[Tw.nG]];exact Df
 |.some t,E,sc,N,X,o,R,S,h=>by
  replace h:=ay h;obtain⟨x,rfl,h⟩:=h;exact Dl (aJ t R S h).1
theorem zk:∀(t:Tw.It){E:XK}{sc:Sc}{N:List Str}{X:Cx}{tp:Bool}{tg e:Expr},ff cf C CX E X->dI sc N X->zG cf sc N tp t e=true->(tp=true->∃es n p,tg=.Tuple es n p)->PI X tg e (tI (zx X E) (Tw.dN C t))
 |.seq a,E,sc,N,X,tp,tg,e,R,S,h,ht=>by
  exact MB (aJ a R S h).1
 |.ja a,E,sc,N,X,tp,tg,e,R,S,h,ht=>by
  replace h:=ay h;obtain⟨⟨x,as⟩,e1,h⟩:=h;obtain⟨p,pos,rfl⟩:=cQ e1;replace h:=ay h;obtain⟨y,e2,h⟩:=h;obtain rfl:=dg e2;simp only[ao,ax] at h;obtain⟨⟨⟨rfl,h1⟩,h2⟩,h3⟩:=h;rw[show Tw.dN C (.ja a)=fun ρ h=>(Tw.af C a ρ h).bind fun x h=>match x with
   |.int j=>if Tw.cy j then .ok (.fix (Tw.upTo 0 j.toNat)) h else .bad
   |_=>.bad from by funext ρ h;rw[Tw.qg]<;>rfl]
  exact LX (S.gl _ h1) (R.blt _ (by simp[cg])) (aJ a R S h3).1 (aR h2)
 |.sD a b,E,sc,N,X,tp,tg,e,R,S,h,ht=>by
  replace h:=ay h;obtain⟨⟨x,as⟩,e1,h⟩:=h;obtain⟨p,pos,rfl⟩:=cQ e1;replace h:=ay h;obtain⟨⟨y,y2⟩,e2,h⟩:=h;obtain rfl:=iA e2;simp only[ao,ax] at h;obtain⟨⟨⟨⟨⟨rfl,h1⟩,h2⟩,h3⟩,h4⟩,h5⟩:=h;rw[show Tw.dN C (.sD a b)=fun ρ h=>(Tw.af C a ρ h).bind fun x h=>(Tw.af C b ρ h).bind fun y h=>match x,y with
   |.int i,.int j=>if Tw.cy i&&Tw.cy j then .ok (.fix (Tw.upTo i (j-i).toNat)) h else .bad
   |_,_=>.bad from by funext ρ h;rw[Tw.BR]<;>rfl]
  exact Kh (S.gl _ h1) (R.blt _ (by simp[cg])) (aJ a R S h4).1 (aJ b R S h5).1 (by rw[aR h2,aR h3];rfl) (aR h3)
 |.rev a,E,sc,N,X,tp,tg,e,R,S,h,ht=>by
  replace h:=ay h;obtain⟨⟨x,as⟩,e1,h⟩:=h;obtain⟨p,pos,rfl⟩:=cQ e1;replace h:=ay h;obtain⟨y,e2,h⟩:=h;obtain rfl:=dg e2;simp only[ao,ax] at h;obtain⟨⟨⟨rfl,h1⟩,h2⟩,h3⟩:=h;rw[show Tw.dN C (.rev a)=fun ρ h=>(Tw.af C a ρ h).bind fun x h=>match x with
   |.tup xs=>.ok (.fix xs.reverse) h
   |.ref a=>match h[a]? with
    |some (.lst xs)=>.ok (.rv a xs.length) h
    |_=>.bad
   |_=>.bad from by funext ρ h;rw[Tw.uW]<;>rfl]
  exact MS (S.gl _ h1) (R.blt _ (by simp[cg])) (aJ a R S h3).1 (aR h2)
end
end
def LJ(X:Cx)(c:Tw.S)(fs:List Tw.S):Prop:=∃C,X.mg (str c)=some (.ref C)/\fs=[]/\AF X.K C
section
variable {X:Cx}{E:XK}
theorem CM(hx:X.ex=[])(hs:X.stack=X.env::X.outer)(hfm:X.env.frame=some X.env.locals)(hxe:X.xe=oS X E)(cal:X.calm=true)(hm:X.mg (str c)=some (.ref C))(M:AF X.K C)(hg:Gl X (str c))(hdb:(str c== ("__debug__" : Str))=false):
  PS X (.Raise (some (.Call (.Name (str c) np) [.Constant (.str y) k p] [] cpos)) none pos) (cN (zx X E) fun _ h=>Tw.o7 c [] [] h):=by
 refine PS.imp (Bx (t:=o9 (tC (.str y)) wq) hx hs hfm hxe M cal hg hm (bD Ax cZ rfl) hdb rfl rfl) fun D σ H ⟨ρ,h,ι,at',p⟩=>⟨by simp,fun ea z1=>?_⟩;obtain⟨r3,e3⟩:=at'.hr.J8 (u:=.aI c []) (o:=mS C none ea) z1 (fun _ _ z=>nomatch z) fun ι' n' H' kp fr eq=>⟨C,none,[],hm,eq,rfl,.nil⟩;have:=p _ _ e3 r3;rw[bY] at this;exact this
end
def qk(s:Stmt):Option (Expr×Expr):=(Kc s).bind fun r=>(gi r.1).map fun t=>(t,r.2.1)
theorem iH(h:qk s=some r):∃p,s=.Assign [r.1] r.2 p:=by obtain⟨⟨ts,v,p⟩,e1,h⟩:=kG.mp h;obtain⟨t,e2,rfl⟩:=sj.mp h;have z1:=C4 e1;have z2:=dg e2;dsimp only at z1 z2⊢;exact⟨p,by rw[z1,z2]⟩
def Ej(cf:Cfg)(sc:Sc)(N:List Str)(t:Tw.Tb)(s:Stmt):Bool:=match t with
 |.Cy f es=>(nJ s).any fun r=>r.any fun e=>(gy e).any fun q=>decide (cf.fns[f]?=some (.fn q.1))&&fk sc q.1&&ir q.1&&!(q.2.isEmpty)&&fe cf sc N es q.2
noncomputable def lq(cf:Cfg)(sc:Sc)(N:List Str):List Tw.Tb->List Stmt->Bool
 |[],ss=>ss.isEmpty
 |t::ts,ss=>(mF ss).any fun r=>Ej cf sc N t r.1&&lq cf sc N ts r.2
def EC(cf:Cfg)(sc:Sc)(N:List Str)(t:Tw.Hs)(s:Stmt):Bool:=match t with
 |.ret e=>(nJ s).any fun r=>r.any fun x=>aB cf sc N e x
 |.set i e=>(qk s).any fun r=>(aK r.1).any fun y=>decide (N[i]?=some y)&&decide (sc.lookup y=some .local)&&aw r.2&&!(nB r.2)&&aB cf sc N e r.2
 |.Dp c e=>(Kp s).any fun r=>dJ r.1&&aB cf sc N c r.1&&r.2.2.isEmpty&&(gi r.2.1).any fun t=>(nJ t).any fun r=>r.any fun x=>aB cf sc N e x
noncomputable def oU(cf:Cfg)(sc:Sc)(N:List Str):List Tw.Hs->List Stmt->Bool
 |[],ss=>ss.isEmpty
 |t::ts,ss=>(mF ss).any fun r=>EC cf sc N t r.1&&oU cf sc N ts r.2
noncomputable def C3:ExceptHandler->Option (Str×Str×List Stmt)
 |.ExceptHandler (some t) (some n) b _=>(aK t).map fun x=>(x,n,b)
 |_=>none
theorem DY(h:C3 l=some r):∃p q,l=.ExceptHandler (some (.Name r.1 p)) (some r.2.1) r.2.2 q:=by
 obtain⟨t,n,b,q⟩:=l;cases t with
 |none=>cases h
 |some t=>
  cases n with
  |none=>cases h
  |some n=>
   obtain⟨x,e1,rfl⟩:=sj.mp h;obtain⟨p,rfl⟩:=aH e1;exact⟨p,q,rfl⟩
noncomputable def lV(cf:Cfg)(sc:Sc)(N:List Str):List Tw.Hd->List ExceptHandler->Bool
 |[],l=>l.isEmpty
 |t::ts,l=>(mF l).any fun r=>(C3 r.1).any fun h=>decide (h.1=str t.1)&&decide ((t.1,t.2.1)∈cf.ij)&&t.2.1.all (fun c=>(cf.cT.lookup c).isSome)&&fk sc h.1&&ir h.1&&decide (N[t.2.2.1]?=some h.2.1)&&decide (sc.lookup h.2.1=some .local)&&!(t.2.2.2.isEmpty)&&oU (NJ cf) sc N t.2.2.2 h.2.2&&lV cf sc N ts r.2
section
variable {cf:Cfg}{C:Tw.Or}{CX:fj}{E:XK}{sc:Sc}{N:List Str}{X:Cx}
theorem MW(R:ff cf C CX E X)(S:dI sc N X)(same:X.env.scope.names=sc)(nd:N.Nodup)(h:EC cf sc N t s=true):PS X s (cN (zx X E) fun ρ h=>Tw.K7 C ρ h t):=by
 cases t with
 |ret e=>
  replace h:=ay h;obtain⟨o,e1,h⟩:=h;obtain⟨p,rfl⟩:=j2 e1;replace h:=ay h;obtain⟨x,rfl,h⟩:=h;exact y7 (aJ e R S h).1
 |Dp c e=>
  replace h:=ay h;obtain⟨⟨x,ys,zs⟩,e1,h⟩:=h;obtain⟨p,rfl⟩:=yA e1;simp only[ao] at h;obtain⟨⟨⟨h1,h2⟩,h3⟩,h⟩:=h;obtain rfl:=bJ (show zs.isEmpty=true from h3);replace h:=ay h;obtain⟨t,e2,h⟩:=h;obtain rfl:=dg (show gi ys=some t from e2);replace h:=ay h;obtain⟨o,e3,h⟩:=h;obtain⟨p2,rfl⟩:=j2 e3;replace h:=ay h;obtain⟨y,rfl,h⟩:=h;exact J4 ((aJ c R S h2).2 h1) (Fv (y7 (aJ e R S h).1)) vN
 |set i e=>
  replace h:=ay h;obtain⟨⟨t,v⟩,e1,h⟩:=h;obtain⟨p,rfl⟩:=iH e1;replace h:=ay h;obtain⟨y,e2,h⟩:=h;obtain⟨py,rfl⟩:=aH (show aK t=some y from e2);simp only[ao,ax,gZ] at h;obtain⟨⟨⟨⟨h1,h2⟩,h3⟩,h4⟩,h5⟩:=h;have hl:X.env.scope.names.lookup y=some .local:=by rw[same];exact h2
  exact EK (by rw[S.n];exact nd) (by rw[S.n];exact h1) (.inl hl) (aJ e R S h5).1 (iO h3 h4) (.inr hl)
theorem Ep(R:ff cf C CX E X)(S:dI sc N X)(same:X.env.scope.names=sc)(nd:N.Nodup):∀(ts:List Tw.Hs){ss:List Stmt},oU cf sc N ts ss=true->dE X ss (cN (zx X E) (Tw.qm C ts))
 |[],ss,h=>by
  rw[oU] at h;obtain rfl:=bJ h;exact vN
 |t::ts,ss,h=>by
  rw[oU] at h;replace h:=ay h;obtain⟨⟨s,r⟩,e1,h⟩:=h;obtain rfl:=dX e1;rw[ao] at h;exact yJ (MW R S same nd h.1) (Ep R S same nd ts h.2)
abbrev XB(X:Cx)(pins:aE)(σ:L2.St)(EE:XK):aO:=fun ex s'=>∃H1 s1,Inv X pins σ H1 s1/\bX X.prog X.w X.stack H1 s1 EE ex s'
variable {pins:aE}{σ:L2.St}{H:L2.Hp}{s:Shared}{EE:XK}
theorem LM(R:ff cf C (bX X.prog X.w) E X)(S:dI sc N X){f:Nat}{es:Tw.Es}{e:Expr}(hc:((gy e).any fun q=>decide (cf.fns[f]?=some (.fn q.1))&&fk sc q.1&&ir q.1&&!(q.2.isEmpty)&&fe cf sc N es q.2)=true)(I:Inv X pins σ H s)
  (h:tE ⟨X.K,X.mg,EE,X.cl⟩ (fun ρ h=>(Tw.ck C es ρ h).fA.bind fun xs h=>C f xs h) σ H Q):
  wpAny (model X.prog X.w) X.A (eval e X.env) (EP X pins σ Q) (XB X pins σ EE) s:=by
 replace hc:=ay hc;obtain⟨⟨x,as⟩,e1,hc⟩:=hc;obtain⟨p,cp,rfl⟩:=cQ e1;simp only[ao,ax,gZ] at hc;obtain⟨⟨⟨⟨h0,h1⟩,h2⟩,hn⟩,h3⟩:=hc;obtain⟨y,ys,rfl⟩:=qY hn;have S0:dI sc N X.Cd:=⟨S.n,S.kind,S.lI,S.gl,S.cf⟩;obtain⟨hp,z⟩:=ku es R.Cd S0 h3;obtain⟨k,g,fd,ps,G,hr,hm,hk,hb⟩:=R.own f x h0;rw[jU,ao] at hp;obtain⟨ρ,h,ι,at',p⟩:=h;dsimp only at p;refine kr (fQ I (S.gl x h1) hm ?_ (c8 h2));refine oC (h₀:=X.base) I.ok.mod.q8 hk (iK (z cp pins s σ H (fun vs H1=>∃ws h1 ι1,HR ⟨X.K,X.mg,EE,X.cl⟩ ι1 h1 H1/\aL X.K ι1 h1.length H1 ws vs/\ak ⟨X.K,X.mg,EE,X.cl⟩ RE ι1 h1 H1 (C f ws h1) Q) (I.lZ _) ⟨ρ,h,ι,at'.ex,?_⟩)
  (fun us s1 ⟨vs,H1,I1,r1,ws,h1,ι1,r2,rr,p1⟩=>⟨I1.q9.bP,?_⟩) fun _ _ z=>False.elim z) (aR hp.1) (by rw[gC hp.2];simp[backTo])
 .cases e0:Tw.ck C es ρ h with
  |bad=>rw[e0] at p;exact p.elim
  |aI=>rw[e0] at p;exact p.elim
  |ok ws h1=>
   simp only[e0,Tw.R.om,Tw.R.aW] at p;exact fun ι1 H1 vs x1 r1 q1=>⟨ws,h1,ι1,HR.ex (E':=EE) r1,q1.1,ak.later p x1⟩
 .have I2:=I1.q9;have hsp:cE X.K X.mg X.cl (C f) vs H1 Q EE:=⟨ws,h1,ι1,r2,rr,p1⟩;have hlen:(us++[]).length=ps.length:=by
   rw[eX,<-r1.length];exact G.len _ _ _ _ hsp
  have hbs:=hb s1 us I2.bP hlen;rw[eX] at hbs;refine kB (oF (G.run X.A X.stack s1 H1 ⟨us,[]⟩ us _ Q EE hr I2.Ct hbs r1 hsp) fun r s' hq=>?_);cases r with
  |error e=>exact⟨H1,s1,I2,hq⟩
  |ok fl=>
   cases fl with
   |ret u=>exact I2.after hq
   |next=>exact False.elim hq
   |brk=>exact False.elim hq
   |cont=>exact False.elim hq
def lP(K:Zk)(ι:Nat->Addr)(h:Tw.Hp)(H:L2.Hp)(ρ:Tw.Env)(σ:L2.St)(m:Tw.R Tw.Fl)(nx:L2.Hp->Prop)(rt:VK):Prop:=match m with
 |.ok (.next _) h'=>∀ι' H',Ext ι h H ι' h' H'->At K ι' h' H' ρ σ->nx H'
 |.ok (.ret w) h'=>∀ι' H' v,Ext ι h H ι' h' H'->HR K ι' h' H'->RW K.K ι' h'.length H' w v->rt v H'
 |.aI a h'=>∀ι' H',Ext ι h H ι' h' H'->HR K ι' h' H'->K.ex (.ref (ι' a)) none H'
 |_=>False
def ND(X:Cx)(pins:aE)(σ:L2.St)(nx:L2.Hp->Prop)(rt:VK)(f:Flow)(s':Shared):Prop:=match f with
 |.next=>∃H',Inv X pins σ H' s'/\nx H'
 |.ret u=>∃v H',Inv X pins σ H' s'/\RelV v u/\rt v H'
 |_=>False
theorem lP.later{K:Zk}{ι ι1:Nat->Addr}{h h1:Tw.Hp}{H H1:L2.Hp}{ρ:Tw.Env}{σ:L2.St}{m:Tw.R Tw.Fl}{nx:L2.Hp->Prop}{rt:VK}(p:lP K ι h H ρ σ m nx rt)(e:Ext ι h H ι1 h1 H1):lP K ι1 h1 H1 ρ σ m nx rt:=by
 cases m with
 |ok f h'=>
  cases f with
  |next _=>exact fun ι' H' e'=>p ι' H' (e.trans e')
  |ret w=>exact fun ι' H' v e'=>p ι' H' v (e.trans e')
  |_=>exact p
 |aI a h'=>exact fun ι' H' e' r=>p ι' H' (e.trans e') r
 |bad=>exact p
variable {ρ:Tw.Env}{h:Tw.Hp}{ι:Nat->Addr}{nx:L2.Hp->Prop}{rt:VK}
theorem LL(R:ff cf C (bX X.prog X.w) E X)(S:dI sc N X){t:Tw.Tb}{st:Stmt}(hc:Ej cf sc N t st=true)(I:Inv X pins σ H s)(at':At ⟨X.K,X.mg,EE,X.cl⟩ ι h H ρ σ)(p:lP ⟨X.K,X.mg,EE,X.cl⟩ ι h H ρ σ (Tw.Ag C ρ h t) nx rt):
  wpAny (model X.prog X.w) X.A (exec st X.env) (ND X pins σ nx rt) (XB X pins σ EE) s:=by
 have S0:dI sc N X.Cd:=⟨S.n,S.kind,S.lI,S.gl,S.cf⟩;cases t with
 |Cy f es=>
  replace hc:=ay hc;obtain⟨o,e1,hc⟩:=hc;obtain⟨rp,rfl⟩:=j2 e1;replace hc:=ay hc;obtain⟨x,rfl,hc⟩:=hc;dsimp only[Tw.Ag] at p;refine zt (az (LM R S hc I (Q:=rt) ⟨ρ,h,ι,at',?_⟩) fun v s1 ⟨x,H1,I1,r1,q1⟩=>⟨x,H1,I1,r1,q1⟩);dsimp only;rw[<-bind_assoc] at p;cases e0:((Tw.ck C es ρ h).fA.bind fun xs h=>C f xs h) with
  |bad=>rw[e0] at p;exact p.elim
  |aI a h1=>rw[e0] at p;exact p
  |ok w h1=>rw[e0] at p;exact p
theorem BJ(R:ff cf C (bX X.prog X.w) E X)(S:dI sc N X):∀(ts:List Tw.Tb){ss:List Stmt}{H:L2.Hp}{s:Shared}{h:Tw.Hp}{ι:Nat->Addr},lq cf sc N ts ss=true->Inv X pins σ H s->At ⟨X.K,X.mg,EE,X.cl⟩ ι h H ρ σ->lP ⟨X.K,X.mg,EE,X.cl⟩ ι h H ρ σ (Tw.kq C ρ ts h) nx rt->
  wpAny (model X.prog X.w) X.A (execs ss X.env) (ND X pins σ nx rt) (XB X pins σ EE) s
 |[],ss,H,s,h,ι,hc,I,at',p=>by
  rw[lq] at hc;obtain rfl:=bJ hc;exact oR ⟨H,I,p ι H (Ext.refl _ _ _) at'⟩
 |t::ts,ss,H,s,h,ι,hc,I,at',p=>by
  rw[lq] at hc;replace hc:=ay hc;obtain⟨⟨s0,r⟩,e1,hc⟩:=hc;obtain rfl:=dX e1;rw[ao] at hc;rw[Tw.kq] at p;refine qO (az (LL (nx:=fun H'=>∃h1 ι',At ⟨X.K,X.mg,EE,X.cl⟩ ι' h1 H' ρ σ/\lP ⟨X.K,X.mg,EE,X.cl⟩ ι' h1 H' ρ σ (Tw.kq C ρ ts h1) nx rt) (rt:=rt) R S hc.1 I at' ?_) fun f s1 z=>?_)
  .cases e0:Tw.Ag C ρ h t with
   |bad=>rw[e0] at p;exact p.elim
   |aI a h1=>rw[e0] at p;exact p
   |ok f h1=>
    rw[e0] at p;cases f with
    |next ρ'=>exact fun ι' H' e a=>⟨h1,ι',a,lP.later p e⟩
    |ret w=>exact p
    |brk _=>exact p.elim
    |cont _=>exact p.elim
  .cases f with
   |next=>obtain⟨H',I',h1,ι',a,q⟩:=z;exact BJ R S ts hc.2 I' a q
   |ret u=>exact z
   |brk=>exact z.elim
   |cont=>exact z.elim
theorem yo:∀{hs:List Tw.Hd}{l:List ExceptHandler},lV cf sc N hs l=true->Tw.lS c hs=some r->∃fs,cf.cT.lookup c=some fs
 |[],_,_,e=>nomatch e
 |(n,cs,j,act)::hs,l,h,e=>by
  rw[lV] at h;replace h:=ay h;obtain⟨⟨x,r'⟩,e1,h⟩:=h;replace h:=ay h;obtain⟨y,e2,h⟩:=h;simp only[ao,ax,jP] at h;rw[Tw.lS] at e;by_cases hc:cs.contains c=true
  .exact CT.mp (h.1.1.1.1.1.1.1.2 c (CG.mp hc))
  .rw[if_neg hc] at e;exact yo h.2 e
theorem xT(R:ff cf C CX E X)(S:dI sc N X)(same:X.env.scope.names=sc)(nd:N.Nodup){ι3:Nat->Addr}(I:Inv X pins σ H s)(F:fV X.prog X.w (a9 X.stack) H s ea Ce dx .none H' s')(ef:cf.cT.lookup c=some fs)(hm:X.mg (str c)=some (.ref Ce))
  (ia:ι3 a=ea) (al:a<h3.length) (at3:At (zx X E) ι3 h3 H' ρ σ) (p:bB (zx X E) ι3 h3 H' ((Tw.qm C act (ρ.set j (some (.ref a))) h3).fA.bind fun fl h=>.ok (Tw.OL j fl) h) D):
  ∀{hs:List Tw.Hd}{l:List ExceptHandler},lV cf sc N hs l=true->Tw.lS c hs=some (j,act)->wpAny (model X.prog X.w) X.A (handleBy (.ref ea) X.env l) (SP X pins D) X.xe s'
 |[],_,_,e=>nomatch e
 |(n,cs,j',act')::hs,l,h,e=>by
  rw[lV] at h;replace h:=ay h;obtain⟨⟨x,r'⟩,e1,h⟩:=h;obtain rfl:=dX e1;replace h:=ay h;obtain⟨⟨y,hn,suite⟩,e2,h⟩:=h;obtain⟨py,ph,rfl⟩:=DY (show C3 x=some (y,hn,suite) from e2);simp only[ao,ax,gZ] at h;obtain⟨⟨⟨⟨⟨⟨⟨⟨⟨rfl,h2⟩,h3'⟩,h4⟩,h5⟩,h6⟩,h7⟩,h8⟩,h9⟩,h10⟩:=h;obtain⟨Mx,mm,ex⟩:=R.xf.ij n cs h2;have exm:=ex c fs Ce ef hm;rw[Tw.lS] at e;by_cases hc:cs.contains c=true
  .rw[if_pos hc] at e;cases e;rw[hc] at exm;have hN:X.N.Nodup:=by rw[S.n];exact nd
   have hj:X.N[j]?=some hn:=by rw[S.n];exact h6
   have hl:X.env.scope.names.lookup hn=some .local:=by rw[same];exact h7
   have jl:j<σ.length:=by rw[I.len];exact (fH.mp hj).1
   have hsu:∀v,dE (hX X v) suite (cN (zx (hX X v) E0) (Tw.qm C act)):=fun v=>Ep (R.hd v) ⟨S.n,S.kind,S.lI,S.gl,S.cf⟩ same nd act h9;cases suite with
   |nil=>
    obtain⟨b,bs,rfl⟩:=qY h8;rw[oU] at h9;exact no h9
   |cons b₀ bs=>
    refine Hh (t:=cN ⟨X.K,X.mg,E0,X.cl⟩ (Tw.qm C act)) I F (S.gl _ h4) mm (c8 h5) exm hN hj hl hsu {nx:=fun σ2 H2=>D.nx (σ2.set j none) H2,rt:=D.rt,bk:=fun σ2 H2=>D.bk (σ2.set j none) H2,ct:=fun σ2 H2=>D.ct (σ2.set j none) H2} ⟨ρ.set j (some (.ref a)),h3,ι3,?_,?_⟩ fun f s3 z=>?_
    .have:=(at3.ex (E':=E0)).set (w:=.ref a) (v:=.ref (ι3 a)) (.ref al) j;rw[ia] at this;exact this
    .cases e0:Tw.qm C act (ρ.set j (some (.ref a))) h3 with
     |bad=>rw[e0] at p;exact p.elim
     |aI=>rw[e0] at p;exact p.elim
     |ok fl h4=>
      rw[e0] at p;cases fl with
      |next ρ'=>exact fun ι' H'' σ' ex a=>p ι' H'' (σ'.set j none) ex (At.zL a.ex j none)
      |brk ρ'=>exact fun ι' H'' σ' ex a=>p ι' H'' (σ'.set j none) ex (At.zL a.ex j none)
      |cont ρ'=>exact fun ι' H'' σ' ex a=>p ι' H'' (σ'.set j none) ex (At.zL a.ex j none)
      |ret w=>exact fun ι' H'' v ex r rw=>p ι' H'' v ex r.ex rw
    .cases f with
     |next=>obtain⟨σ',H'',K1,q⟩:=z;exact kA K1 hN hj hl fun s4 K2=>⟨_,H'',K2,q⟩
     |brk=>obtain⟨σ',H'',K1,q⟩:=z;exact kA K1 hN hj hl fun s4 K2=>⟨_,H'',K2,q⟩
     |cont=>obtain⟨σ',H'',K1,q⟩:=z;exact kA K1 hN hj hl fun s4 K2=>⟨_,H'',K2,q⟩
     |ret u=>obtain⟨v,σ',H'',K1,r,q⟩:=z;exact kA K1 hN hj hl fun s4 K2=>⟨v,_,H'',K2,r,q⟩
  .rw[if_neg hc] at e;rw[xV] at hc;rw[hc] at exm;exact Gi I F (S.gl _ h4) mm (c8 h5) exm (xT R S same nd I F ef hm ia al at3 p h10 e)
theorem Hz(R:ff cf C (bX X.prog X.w) E X)(S:dI sc N X)(same:X.env.scope.names=sc)(nd:N.Nodup)(hs:X.stack=X.env::X.outer)(hfm:X.env.frame=some X.env.locals)(hb:lq cf sc N b bd=true)(hh:lV cf sc N ij l=true)(ne:l≠ []):
  PS X (.Try bd l [] [] pos) (cN (zx X E) fun ρ h=>Tw.wa ij C ρ (Tw.kq C ρ b h)):=by
 intro pins s σ H D I ⟨ρ,h,ι,at',p⟩;dsimp only at p;obtain⟨l0,lr,rfl⟩:∃l0 lr,l=l0::lr:=by
  cases l with
  |nil=>exact absurd rfl ne
  |cons x r=>exact⟨x,r,rfl⟩
 let EE:XK:=fun v _ H'=>∃a h3 ι3,Tw.kq C ρ b h=.aI a h3/\v=.ref (ι3 a)/\Ext ι h H ι3 h3 H'/\HR (zx X E) ι3 h3 H'
 refine wpAny_Try_except (iK (BJ (EE:=EE) (nx:=fun H'=>D.nx σ H') (rt:=D.rt) R S b hb I at'.ex ?_) (fun f s1 z=>?_) fun ex s2 z=>?_)
 .cases e0:Tw.kq C ρ b h with
  |bad=>rw[e0] at p;exact p.elim
  |aI a h3=>exact fun ι' H' ex r=>⟨a,h3,ι',e0,rfl,ex,HR.ex (E':=E) r⟩
  |ok f h1=>
   rw[e0] at p;cases f with
   |next ρ'=>exact fun ι' H' ex a=>p ι' H' σ ex a.ex
   |ret w=>exact fun ι' H' v ex r rw=>p ι' H' v ex (HR.ex (E':=E) r) rw
   |brk _=>exact p.elim
   |cont _=>exact p.elim
 .cases f with
  |next=>obtain⟨H',I',q⟩:=z;exact oR ⟨σ,H',I',q⟩
  |ret u=>obtain⟨v,H',I',r,q⟩:=z;exact⟨v,σ,H',I',r,q⟩
  |brk=>exact z.elim
  |cont=>exact z.elim
 .obtain⟨H1,s1,J,ea,Ce,dx,H',rfl,Fl,a,h3,ι3,eF,ev,ex3,r3⟩:=z;rw[eF] at p;simp only[Tw.wa] at p;cases ea':h3[a]? with
  |none=>rw[ea'] at p;exact p.elim
  |some ob=>
   rw[ea'] at p;cases ob with
   |aI c gs=>
    dsimp only at p;cases ep:Tw.lS c ij with
    |none=>rw[ep] at p;exact p.elim
    |some r=>
     obtain⟨j,act⟩:=r;rw[ep] at p;dsimp only at p;obtain⟨fs,ef⟩:=yo hh ep;obtain⟨C0,dx0,gs',m0,t0,d0,rf⟩:=r3.obj a _ ea';have ev:ι3 a=ea:=(Value.ref.inj ev).symm;have ei:Ce=C0:=by obtain⟨⟨o1,v1,b1,b2,b3,_⟩,_,_⟩:=Fl.av _ _ Fl.tr;obtain⟨⟨o2,v2,c1,c2,c3,_⟩,_,_⟩:=Fl.av _ _ t0;rw[ev,b1] at c1;cases c1;rw[b2] at c2;cases c2;rfl
     subst ei;exact FY J hs hfm Fl fun s3 F3=>xT R S same nd J F3 ef m0 ev (dR ea') (at'.later ex3 r3) (bB.later p ex3) hh ep
   |_=>exact p.elim
end
noncomputable def eA(a:Arguments)(ns:List Str):Bool:=a.posonlyargs.isEmpty&&a.vararg.isNone&&a.kwonlyargs.isEmpty&&a.kw_defaults.isEmpty&&a.kwarg.isNone&&a.defaults.isEmpty&&decide (a.args.map (·.arg)=ns)&&a.args.all (fun x=>x.annotation.isNone)
theorem zX{a:Arguments}(h:eA a ns=true):a.defaults=[]/\a.kw_defaults=[]/\∀env,annTrees a none env=[]:=by
 obtain⟨po,ar,va,ko,kd,kw,df⟩:=a;simp only[eA,ao,ax,Av,sx,jP] at h;obtain⟨⟨⟨⟨⟨⟨⟨h1,h2⟩,h3⟩,h4⟩,h5⟩,h6⟩,h7⟩,h8⟩:=h;subst h1 h2 h3 h4 h5 h6;refine⟨rfl,rfl,fun env=>?_⟩;have key:∀l:List Arg,(∀x∈l,x.annotation=none)->annotationsOf l env=[]:=by
  intro l
  induction l with
  |nil=>intro _;rfl
  |cons x r ih=>
   intro hx;obtain⟨n,an,p⟩:=x;obtain rfl:an=none:=hx _ (.head _);exact ih fun y hy=>hx y (.tail _ hy)
 show annotationsOf (ar++[]++[]++[]++[]) env++[]=[];simp only[eX];exact key ar h8
noncomputable def eV(b:Bool):List Str:=["part", "bound",if b then "kinds" else "within"]
theorem Ez{name qual:Str}{a:Arguments}{body:List Stmt}{scope:Scope}{cl:List (Str×Addr)}{doc pm cdv ct:Value}(b:Bool)(h:eA a (eV b)=true):
  ∀us:List Value,us.length=(eV b).length->bindArgs (W.fnX name qual a body scope cl .none .none doc pm none cdv ct) ⟨us,[]⟩=pure ((eV b).zip us):=by
 obtain⟨po,ar,va,ko,kd,kw,df⟩:=a;simp only[eA,ao,ax,Av,sx,jP] at h;obtain⟨⟨⟨⟨⟨⟨⟨h1,h2⟩,h3⟩,h4⟩,h5⟩,h6⟩,h7⟩,h8⟩:=h;subst h1 h2 h3 h4 h5 h6;intro us hl
 match us,hl with
 |[x,y,z],_=>
  match ar,h7 with
  |[⟨n1,a1,p1⟩,⟨n2,a2,p2⟩,⟨n3,a3,p3⟩],h7=>
   have h7: [n1,n2,n3]=eV b:=h7;unfold eV at h7⊢;cases h7;cases b<;>rfl
structure CV(X:Cx)(nm:Str):Prop where
 ex:∃c P,X.env.code=.ref c/\(∀h:Heap,X.K.In h->W.CodeHd h c P)/\⟨P,X.env.qual++nm⟩∈X.cl.tb/\(∀t∈X.cl.tb,t.P=P->t.q=X.env.qual++nm)
 bm:∃bm ob,X.mg "__builtins__" = some (.ref bm)/\bm≠builtinsNs/\bm≠mainGlobals/\X.K.lookup bm=some ob/\ob.cls=.type "module" /\ob.dict=some builtinsNs/\ob.data=.plain
theorem qw{pos p:Pos}{c cv:Value}:∀(l:List Value),TriplesOk l->codeAmong pos (l++[rawInt p.line,rawInt p.col,c])=some cv->codeAmong pos l=some cv\/cv=c
 |[],_,e=>by
  have e:(if ((p.line:Int)== (pos.line:Int)&&(p.col:Int)== (pos.col:Int))=true then some c else none)=some cv:=e;split at e
  .cases e;exact .inr rfl
  .cases e
 |.int a t:: .int b u::x::r,h,e=>by
  have e:(if (a== (pos.line:Int)&&b== (pos.col:Int))=true then some x else codeAmong pos (r++[rawInt p.line,rawInt p.col,c]))=some cv:=e;show (if (a== (pos.line:Int)&&b== (pos.col:Int))=true then some x else codeAmong pos r)=some cv\/_;split at e
  .next hc=>rw[if_pos hc];exact .inl e
  .next hc=>rw[if_neg hc];exact qw r h e
theorem nU{p:Pos}{c:Value}:∀(l:List Value),TriplesOk l->TriplesOk (l++[rawInt p.line,rawInt p.col,c])
 |[],_=>trivial
 |.int a t:: .int b u::x::r,h=>nU r h
section
variable {X:Cx}{E:XK}{pins:aE}{σ:L2.St}{H:L2.Hp}{s:Shared}{ι:Nat->Addr}{h:Tw.Hp}{j:Nat}
theorem Hq{nm:Str}{params:Arguments}{body:List Stmt}{scope:Scope}{pos:Pos}{clos:List (Str×Addr)}(I:Inv X pins σ H s)(r:HR (zx X E) ι h H)(Wa:CV X nm)(hp:eA params ns=true)(hN:X.N.Nodup)(hj:X.N[j]?=some nm)(hl:X.env.scope.names.lookup nm=some .local)
  (hcl:closureFor scope X.env=pure clos) {Q:Flow->Shared->Prop}
  (fi:∀g cd doc ctv H' s',Inv X (pins++[(g,W.fnMade nm (X.env.qual++nm) params body scope clos doc ((X.mg "__name__").getD .none) cd ctv)]) (σ.set j (some (.ref g))) H' s'->Ext ι h H ι h H'->HR (zx X E) ι h H'->dY H' cd (X.env.qual++nm)->Q .next s'):
  wpAny (model X.prog X.w) X.A (exec (.FunctionDef nm params body [] none [] scope none nm pos) X.env) Q X.xe s:=by
 obtain⟨hd,hk,ha⟩:=zX hp;refine W.nestDef_K hd hk (ha _) ?_;have hq:qualnameIn X.env nm nm=X.env.qual++nm:=by unfold qualnameIn;have:X.env.kindOf nm=some .local:=hl;rw[this];rfl
 rw[hq];obtain⟨c,P,ec,hC,hm,hu⟩:=Wa.ex;obtain⟨ps,eP,ht,hcs⟩:=r.tab _ hm;obtain⟨bm,ob,b1,b2,b3,b4,b5,b6,b7⟩:=Wa.bm;have hP:s.heap.get? P=some (W.tabObj ps):=I.av P _ eP;have hns:=I.mod.glob.keeps I.bk;have hgP:mainGlobals≠P:=fun z=>by
  obtain⟨o,es,ep,e,hd,_⟩:=hns;rw[z,hP] at e;cases e;cases hd
 have hbP:bm≠P:=fun z=>by
  have e:=I.bP _ _ b4;rw[z,hP] at e;cases e;cases b5
 have hB:s.heap.BuiltinsAt X.mg P:=⟨bm,ob,b1,b2,b3,hbP,I.bP _ _ b4,b5,b6,b7⟩;have fin:∀(g cd:Addr)(doc ctv:Value)(H':L2.Hp)(s1:Shared),Inv X pins σ H' s1->s1.heap.get? g=some (W.fnMade nm (X.env.qual++nm) params body scope clos doc ((X.mg "__name__").getD .none) cd ctv)->H' g=none->s.heap.objs.size<=g->Ext ι h H ι h H'->HR (zx X E) ι h H'->dY H' cd (X.env.qual++nm)->
   wpAny (model X.prog X.w) X.A (storeName X.env nm (.ref g)) (fun _ s''=>Q .next s'') X.xe s1:=by
  intro g cd doc ctv H' s1 I1 eg hg hs e1 r1 hc1;have I2:Inv X (pins++[(g,W.fnMade nm (X.env.qual++nm) params body scope clos doc ((X.mg "__name__").getD .none) cd ctv)]) σ H' s1:=I1.o5 fun p hp=>by
   rcases sm.mp hp with hp|hp
   .exact I1.pin p (fq _ hp)
   .obtain rfl:=kJ.mp hp;exact⟨eg,hg,mK (bT I.lt hs),I.HQ hs,fun v z=>nomatch z⟩
  exact sH (v:=.ref g) I2 hN hj (.inl hl) rfl (fun s' I3 _=>fi g cd doc ctv H' s' I3 e1 r1 hc1) (.inr hl)
 cases hf:codeAmong pos ps.toList with
 |some cv=>
  obtain⟨cd,rfl,hcd⟩:=hcs pos cv hf;refine W.makeFunction_hit (mg:=X.mg) hcl I.ok.glob hns ec (hC _ I.bP) hP ht hf hB fun ctv doc h' tk hk hsz=>?_;have hH:H h'.objs.size=none:=I.av.fresh hsz;refine fin h'.objs.size cd doc ctv H _ (I.kept (t':=tk) fun b o e=>bM _ (hk b o e)) (fN _ rfl) hH hsz (Ext.refl _ _ _) r hcd
 |none=>
  refine W.makeFunction_K (mg:=X.mg) hcl I.ok.glob hns ec (hC _ I.bP) hP ht hf hgP hB fun c' ctv doc h' tk hx hge hlt hrec htb=>?_;obtain⟨c2,oc,vs,t,e2,hoc,hd,hv⟩:=hrec;cases e2;have hc':H c'=none:=I.av.fresh hge;have hPl:P<s.heap.objs.size:=bw hP;have neP:P≠c':=cV (bT hPl hge);obtain⟨r1,x1⟩:=r.grow (o:=.aM oc (.own c')) hc';have eP1:upd H c' (.aM oc (.own c')) P=some (.dQ ps):=by rw[aD neP];exact eP
  have al:eK ι h P:=fun i o ei m z=>by
   obtain⟨u,q,_,_,_,_,n⟩:=r1.there ei m;rw[z,eP1] at q;cases q;exact n _ rfl
  have nt:∀b u,upd H c' (.aM oc (.own c')) b=some u->(∀ps,u≠.dQ ps)->b≠P:=fun b u e n z=>by
   rw[z,eP1] at e;cases e;exact n _ rfl
  have r2:HR (zx X E) ι h (upd (upd H c' (.aM oc (.own c'))) P (.dQ (ps++ #[rawInt pos.line,rawInt pos.col,.ref c']))):=
   r1.BP al eP1 (fun _ z=>nomatch z) (fun _ _ z=>nomatch z) (fun _ z=>nomatch z) (fun _ z=>nomatch z) fun sf t' ht'=>by
    by_cases hz:t'.P=P
    .refine⟨_,by rw[hz];exact bI,by simpa using nU ps.toList ht,fun pos' cv e=>?_⟩;rw[hu t' ht' hz];rcases qw (p:=pos) (c:=.ref c') ps.toList ht (by simpa using e) with e|e
     .obtain⟨c3,z1,z2⟩:=hcs pos' cv e;exact⟨c3,z1,(z2.keep fun b o u=>dG hc' b _).keep sf⟩
     .exact⟨c',e,oc,vs,t,sf _ _ _ bI,hd,hv⟩
    .exact (r1.tab t' ht').keep sf fun ps e=>by rw[aD hz];exact e
  have x2:Ext ι h (upd H c' (.aM oc (.own c'))) ι h (upd (upd H c' (.aM oc (.own c'))) P (.dQ (ps++ #[rawInt pos.line,rawInt pos.col,.ref c']))):=
   ⟨aA _,fun _ _=>rfl,fun b u e n _=>by rw[aD (nt b u e n)];exact e,fun i a b=>absurd b (i6.mpr a),lp,fun i o u e f=>by rw[e] at f;cases f;rfl⟩
  have hsz:s.heap.objs.size<=h'.objs.size:=bG hge (Ae hlt);have kh:∀b o,b≠P->s.heap.get? b=some o->(h'.push (W.fnMade nm (X.env.qual++nm) params body scope clos doc ((X.mg "__name__").getD .none) c' ctv)).get? b=some o:=fun b o hb e=>bM _ (hx b o hb e);have H2ne:∀b,b≠P->b≠c'->upd (upd H c' (.aM oc (.own c'))) P (.dQ (ps++ #[rawInt pos.line,rawInt pos.col,.ref c'])) b=H b:=fun b h1 h2=>by rw[aD h1,aD h2]
  have old:∀b o,s.heap.get? b=some o->b≠c':=fun b o e=>cV (bT (bw e) hge);have hnP:∀b,H b=none->b≠P:=fun b n z=>by rw[z,eP] at n;cases n
  have hsP:∀b u,H b=some u->(∀ps,u≠.dQ ps)->b≠P:=fun b u e n z=>by rw[z,eP] at e;cases e;exact n _ rfl
  have hsc:∀b u,H b=some u->b≠c':=fun b u e z=>by rw[z,hc'] at e;cases e
  have un:Un (a9 X.stack) [] H (upd (upd H c' (.aM oc (.own c'))) P (.dQ (ps++ #[rawInt pos.line,rawInt pos.col,.ref c']))) s.heap (h'.push (W.fnMade nm (X.env.qual++nm) params body scope clos doc ((X.mg "__name__").getD .none) c' ctv)):=by
   refine⟨fun b o e n _ _=>kh b o (hnP b n) e,fun b o e n _ _=>⟨o.slots,kh b o (hnP b n) e⟩,fun b o e n _=>by rw[H2ne b (hnP b n) (old b o e)];exact n,fun b o e _=>?_,fun b xs e=>by rw[H2ne b (hsP b _ e fun _ z=>nomatch z) (hsc b _ e)];exact e,
    fun b o u e=>by rw[H2ne b (hsP b _ e fun _ z=>nomatch z) (hsc b _ e)];exact e,fun b qs e=>?_⟩
   .by_cases hb:b=P
    .subst hb;exact⟨_,bM _ htb⟩
    .exact⟨o,kh b o hb e⟩
   .by_cases hb:b=P
    .subst hb;rw[eP] at e;cases e;exact⟨_,bI⟩
    .exact⟨#[],by rw[H2ne b hb (hsc b _ e),e];simp⟩
  have av:dB X.prog X.w (upd (upd H c' (.aM oc (.own c'))) P (.dQ (ps++ #[rawInt pos.line,rawInt pos.col,.ref c']))) (h'.push (W.fnMade nm (X.env.qual++nm) params body scope clos doc ((X.mg "__name__").getD .none) c' ctv)):=fun b u e=>by
   by_cases hb:b=P
   .subst hb;rw[bI] at e;cases e;exact bM _ htb
   .by_cases hb2:b=c'
    .subst hb2;rw[aD hb,bI] at e;cases e;exact⟨bM _ hoc,_,bM _ hoc⟩
    .rw[H2ne b hb hb2] at e;refine (I.av b u e).fG (fun a v ha q=>kh a v ?_ q) (fun a q=>?_) fun a xs q=>?_
     .rcases ha with rfl|ha
      .exact hb
      .exact hsP a _ ha fun _ z=>nomatch z
     .rw[H2ne a (hsP a _ q fun _ z=>nomatch z) (hsc a _ q)];exact q
     .rw[H2ne a (hsP a _ q fun _ z=>nomatch z) (hsc a _ q)];exact q
  have hg:H h'.objs.size=none:=I.av.fresh hsz;refine fin h'.objs.size c' doc ctv _ _ (I.call (t':=tk) (ch:=[]) un av I.bare (fun b z=>absurd z (by simp))) (fN _ rfl) ?_ hsz (x1.trans x2) r2 ⟨oc,vs,t,?_,hd,hv⟩
  .rw[H2ne _ (mK (bT hPl hsz)) (mK hlt)];exact hg
  .rw[aD (aX neP)];exact bI
end
noncomputable def bZ(names:List (Str×NameKind)):List Str:=(names.filter fun y=>y.2== .free).map (·.1)
theorem mj{env:Env}:∀(names:List (Str×NameKind))(cs:List (Str×Addr)),cu env names cs=((bZ names).map fun n=>(n,(env.cells.lookup n).getD 0)).reverse++cs
 |[],cs=>rfl
 |(n,k)::r,cs=>by
  rw[cu,mj r];unfold bZ;cases hk:(k== NameKind.free) with
  |true=>simp[hk]
  |false=>simp[hk]
def Kept(base:Heap)(names:List (Str×NameKind))(clos:List (Str×Addr))(vs:List V):Prop:=
 (clos=[]/\vs=[]/\bZ names=[])\/∃y a u v,clos=[(y,a)]/\vs=[v]/\base.IsCell a (some u)/\RelV v u/\bZ names=[y]
def uq(base:Heap)(st:Stmt)(c:m5):Prop:=∃b doc pm ctv clos,eA (cH st) (eV b)=true/\base.get? c.g=some (W.fnMade "answer" c.q (cH st) (bR st) (aq st) clos doc pm c.cd ctv)/\Kept base (aq st).names clos c.vs
def CB(ci:Nat->Stmt->Bool)(base:Heap)(cl:eM):Prop:=∀i c,cl.fs i=some c->∃st,ci c.f st=true/\uq base st c
theorem uq.keep{st:Stmt}(x:uq base st c)(k:∀b o,base.get? b=some o->base'.get? b=some o):uq base' st c:=by
 obtain⟨b,doc,pm,ctv,clos,h1,h2,h3⟩:=x;refine⟨b,doc,pm,ctv,clos,h1,k _ _ h2,h3.imp id ?_⟩
 rintro ⟨y,a,u,v,e1,e2,⟨o,eo,ed⟩,r⟩
 exact⟨y,a,u,v,e1,e2,⟨o,k _ _ eo,ed⟩,r⟩
section
variable {X:Cx}{E:XK}{pins:aE}{σ:L2.St}{H:L2.Hp}{s:Shared}
def iQ(X:Cx)(H:L2.Hp)(s:Shared):Heap:=W.hideAll s.heap (xu s.heap H++a9 X.stack)
theorem nK(e:s.heap.get? b=some o)(n:H b=none)(hf:b∉a9 X.stack):(iQ X H s).get? b=some o:=W.hideAll_get _ e fun hm=>by
 rcases sm.mp hm with hm|hm
 .have q:(H b).isSome=true:=(r9.mp hm).2;rw[n] at q;simp at q
 .exact hf hm
theorem DN(e:(iQ X H s).get? b=some o):s.heap.get? b=some o/\H b=none:=by
 have e':s.heap.get? b=some o:=W.of_hideAll _ e;refine⟨e',?_⟩;cases q:H b with
 |none=>rfl
 |some x=>
  have hm:b∈xu s.heap H++a9 X.stack:=zV _ (r9.mpr ⟨List.mem_range.mpr (bw e'),by simp[q]⟩);have z:(iQ X H s).get? b=none:=zF _ hm;rw[z] at e;cases e
theorem uA(I:Inv X pins σ H s):∀b o,X.base.get? b=some o->(iQ X H s).get? b=some o:=fun b o e=>by
 obtain⟨e1,e2⟩:=I.bs b o e;refine nK e1 e2 fun hb=>?_;have:=(I.stack.mem hb).1;rw[e] at this;cases this
theorem O7(I:Inv X pins σ H s):ml X.prog X.w X.K X.mg (iQ X H s) X.A X.stack s H:=by
 have k:=uA I;have m:=I.mod;refine⟨I.ok.frames,⟨m.q8.keeps k,m.glob.keeps k,let ⟨mb,h1,h2⟩:=m.blt;⟨mb,h1.keeps k,h2⟩,m.nolimit.keeps k⟩,fun b o e=>DN e,z7 (W.hideAll_size _ _),?_,I.iB,I.av,I.bare⟩;have key:∀l:List Env,(∀b∈a9 l,b∈a9 X.stack)->s.heap.FunFrames X.base l->s.heap.FunFrames (iQ X H s) l:=by
  intro l
  induction l with
  |nil=>intro _ _;trivial
  |cons env rest ih=>
   intro hs ⟨h1,⟨L,o,hf,hn,ho,hd⟩,hr⟩;have hL:L∈a9 (env::rest):=by unfold a9;rw[rU,hf];exact .head _
   refine⟨h1,⟨L,o,hf,zF _ (fq _ (hs L hL)),ho,hd⟩,ih (fun b hb=>hs b ?_) hr⟩;unfold a9 at hb⊢;rw[rU,hf];exact .tail _ hb
 exact key X.stack (fun _ h=>h) I.stack
end
noncomputable def qR(cl:eM)(n:Nat)(c:m5):eM:=⟨fun i=>if i=n then some c else cl.fs i,cl.tb⟩
section
variable {K:W.Frag}{mg:Str->Option Value}{E:XK}{cl:eM}{ι ι':Nat->Addr}{h h':Tw.Hp}{H H':L2.Hp}{c:m5}
theorem HR.jb(r:HR ⟨K,mg,E,cl⟩ ι h H)(rw':aL K ι h.length H ws c.vs)(hc:dY H c.cd c.q):HR ⟨K,mg,E,qR cl h.length c⟩ (cM ι h.length c.g) (h++[.fun c.f ws]) H:=by
 have hl:(h++[Tw.O.fun c.f ws]).length=h.length+1:=by simp
 have kp:Keeps ι h.length H (cM ι h.length c.g) (h++[Tw.O.fun c.f ws]).length H:=⟨by lia,fun i hi=>bC hi,fun _ _ e=>e⟩;have two:∀{i:Nat}{v:Tw.O},(h++[Tw.O.fun c.f ws])[i]?=some v->(i<h.length/\h[i]?=some v)\/(i=h.length/\v=.fun c.f ws):=fun {i v} e=>by
  have hi:=dR e;by_cases z:i<h.length
  .rw[e9 z] at e;exact .inl ⟨z,e⟩
  .have z':i=h.length:=by lia
   subst z';simp at e;exact .inr ⟨rfl,e.symm⟩
 refine⟨fun i v q=>?_,fun i j v w q1 q2 m1 m2 z=>?_,r.tab,fun i f us q=>?_⟩
 .rcases two q with ⟨hi,q⟩|⟨rfl,rfl⟩
  .rw[bC hi];have z:=(r.obj i v q).keep kp fun _ _ _ e=>e;cases v<;>exact z
  .trivial
 .rcases two q1 with ⟨hi,p1⟩|⟨_,rfl⟩
  .rcases two q2 with ⟨hj,p2⟩|⟨_,rfl⟩
   .rw[bC hi,bC hj] at z;exact r.inj i j v w p1 p2 m1 m2 z
   .cases m2
  .cases m1
 .rcases two q with ⟨hi,q⟩|⟨rfl,e⟩
  .obtain⟨c',e1,e2,e3,e4,e5⟩:=(r.fn i f us q).keep kp hi fun _ _ _ e=>e;refine⟨c',?_,e2,e3,e4,e5⟩;show (if i=h.length then some c else cl.fs i)=some c';rw[if_neg (cV hi)];exact e1
  .cases e;exact⟨c,if_pos rfl,bY.symm,rfl,rw'.keep kp,hc⟩
theorem HR.kill(r:HR ⟨K,mg,E,qR cl n c⟩ ι h H):HR ⟨K,mg,E,cl⟩ ι (h.set n .dead) H:=by
 have hl:(h.set n Tw.O.dead).length=h.length:=by simp
 have look:∀{j:Nat}{w:Tw.O},(h.set n Tw.O.dead)[j]?=some w->w=.dead\/(j≠n/\h[j]?=some w):=fun {j w} e=>by
  by_cases z:j=n
  .subst z;have:=dR e;rw[i5 (by lia)] at e;cases e;exact .inl rfl
  .rw[i7 (aX z)] at e;exact .inr ⟨z,e⟩
 refine⟨fun i v q=>?_,fun i j v w q1 q2 m1 m2 z=>?_,r.tab,fun i f us q=>?_⟩
 .rw[hl];rcases look q with rfl|⟨_,q⟩
  .trivial
  .have z:=r.obj i v q;cases v<;>exact z
 .rcases look q1 with rfl|⟨_,q1⟩
  .cases m1
  .rcases look q2 with rfl|⟨_,q2⟩
   .cases m2
   .exact r.inj i j v w q1 q2 m1 m2 z
 .rw[hl];rcases look q with e|⟨ne,q⟩
  .cases e
  .obtain⟨c',e1,e2⟩:=r.fn i f us q;refine⟨c',?_,e2⟩;have e1:(if i=n then some c else cl.fs i)=some c':=e1;rw[if_neg ne] at e1;exact e1
theorem Ext.kill(x:Ext (cM ι h.length g) (h++[.fun f ws]) H ι' h' H')(hg:H g=none):Ext ι h H ι' (h'.set h.length .dead) H':=by
 have hl:(h++[Tw.O.fun f ws]).length=h.length+1:=by simp
 have hl':(h'.set h.length Tw.O.dead).length=h'.length:=by simp
 have hle:=x.len;rw[hl] at hle;refine⟨by lia,fun i hi=>(x.same i (by lia)).trans (bC hi),fun b u e t n=>x.fr b u e t fun i o ei m z=>?_,fun i a b=>?_,x.vz,fun i o u e f=>?_⟩
 .have hi:=dR ei;by_cases q:i<h.length
  .rw[e9 q] at ei;rw[bC q] at z;exact n i o ei m z
  .have z':i=h.length:=by lia
   subst z';simp at ei;subst ei;cases m
 .by_cases q:i=h.length
  .subst q;rw[x.same _ (by lia),bY];exact hg
  .exact x.new i (by lia) (by lia)
 .have hi:=dR e;rw[i7 (by lia)] at f;exact x.fz i o u (by rw[e9 hi];exact e) f
end
section
variable {X:Cx}{E:XK}{CX:fj}{C:Tw.Or}{ci:Nat->Stmt->Bool}{j fw f k:Nat}{a b:Tw.E}{ks:List Nat}
theorem Iv{params:Arguments}{body:List Stmt}{scope:Scope}{pos p1 p2 cp rp:Pos}{ea eb:Expr}{x:Str}{gw:Addr}{fdw:FuncData}{psw:List Str}{b0:Bool}
  (Wa:CV X "answer") (hfn:∀x,X.fn x=true) (hN:X.N.Nodup) (hj:X.N[j]?=some "answer") (hl:X.env.scope.names.lookup ("answer" : Str)=some .local)
  (cb:CB ci X.base X.cl) (hci:ci f (.FunctionDef "answer" params body [] none [] scope none "answer" pos)=true) (hp:eA params (eV b0)=true)
  (hfree:(bZ scope.names=[]/\ks=[])\/∃y i,bZ scope.names=[y]/\ks=[i]/\X.N[i]?=some y/\X.env.scope.names.lookup y=some .cell)
  (own:∀base cl,cl.tb=X.cl.tb->CB ci base cl->bF X.prog X.w X.K X.mg base CX k gw fdw psw (cE X.K X.mg cl (C fw)))
  (hr:cq k X.A) (hg:Gl X x) (hm:X.mg x=some (.ref gw)) (hk:W.keepIn X.K (.ref gw)=true) (hb:Binds X.K fdw psw []) (hd:(x== ("__debug__" : Str))=false)
  (hx:Passes CX X E) (ha:PE X ea (tE (zx X E) (Tw.af C a))) (hbb:PE X eb (tE (zx X E) (Tw.af C b))) (pa:aw ea=true) (pb:aw eb=true):
  dE X [.FunctionDef "answer" params body [] none [] scope none "answer" pos,.Return (some (.Call (.Name x p1) [ea,eb,.Name "answer" p2] [] cp)) rp] (cN (zx X E) (Tw.dC C (.ki j fw a b f ks))):=by
 intro pins s σ H D I ⟨ρ,h,ι,at',p⟩;rw[Tw.rX] at p;have hcl:closureFor scope X.env=pure (cu X.env scope.names []):=qv fun z hz hf=>by
  have hm:z.1∈bZ scope.names:=nQ.mpr ⟨z,r9.mpr ⟨hz,by rw[hf];rfl⟩,rfl⟩;rcases hfree with ⟨e,_⟩|⟨y,i,e,_,_,hy⟩
  .rw[e] at hm;cases hm
  .rw[e] at hm;obtain rfl:=kJ.mp hm;exact I.ok.has _ (.inl hy)
 refine qO (Hq I at'.hr Wa hp hN hj hl hcl fun g cd doc ctv H1 s1 I1 x1 r1 hc1=>?_);have at1:At (zx X E) ι h H1 (ρ.set j none) (σ.set j (some (.ref g))):=(at'.later x1 r1).zL j _;have p:=bB.later p x1;have st3:starEach [ea,eb,.Name "answer" p2] X.env=(false,eval ea X.env)::starEach [eb,.Name "answer" p2] X.env:=aR pa;have st2:starEach [eb,.Name "answer" p2] X.env=(false,eval eb X.env)::starEach [.Name "answer" p2] X.env:=aR pb;have hjl:j<σ.length:=by rw[I.len];exact (fH.mp hj).1
 have sv:(σ.set j (some (V.ref g)))[j]?=some (some (V.ref g)):=by rw[i5 hjl]
 refine qO (zt (az (?_:wpAny (model X.prog X.w) X.A _ (EP X (pins++[(g,W.fnMade "answer" (X.env.qual++ "answer") params body scope (cu X.env scope.names []) doc ((X.mg "__name__").getD .none) cd ctv)]) (σ.set j (some (.ref g))) D.rt) X.xe s1) fun v s5 ⟨x,H5,I5,r5,q5⟩=>⟨x,_,H5,I5.o5 fun p hp=>I5.pin p (fq _ (zV _ hp)),r5,q5⟩));refine kr (fQ I1 hg hm ?_ hd);have PAx:=bD ha (bD hbb (bD (nD (pos:=p2) hj (.inl hl)) cZ (aR rfl)) st2) st3;refine oC (h₀:=X.base) I1.ok.mod.q8 hk (az (PAx cp _ s1 _ H1 (fun vs H4=>∃v1 v2 w1 w2 h3 ι3,vs=[v1,v2,.ref g]/\At (zx X E) ι3 h3 H4 (ρ.set j none) (σ.set j (some (.ref g)))/\Ext ι h H1 ι3 h3 H4/\RW X.K ι3 h3.length H4 w1 v1/\RW X.K ι3 h3.length H4 w2 v2/\
  bB (zx X E) ι3 h3 H4 (match Tw.jz (ρ.set j none) ks with
   |some ws=>Tw.nV h3.length (C fw [w1,w2,.ref h3.length] (h3++[.fun f ws]))
   |none=>.bad) D) I1 ?_) fun us s2 ⟨vs,H4,I2,r2,q⟩=>⟨I2.bP,?_⟩) st3 (by rw[st2];rfl)
 .refine⟨_,h,ι,at1,(eR at1 p).mono fun v1 H2 ⟨w1,h2,ι2,at2,e2,rw2,p2⟩=>⟨_,h2,ι2,at2,(eR at2 p2).mono fun v2 H3 ⟨w2,h3,ι3,at3,e3,rw3,p3⟩=>⟨_,sv,?_⟩⟩⟩;exact⟨v1,v2,w1,w2,h3,ι3,rfl,at3,e2.trans e3,RW.keep (e3.keeps at2.hr) rw2,rw3,p3⟩
 .obtain⟨v1,v2,w1,w2,h3,ι3,rfl,at3,x3,rw1,rw2,p3⟩:=q;have hc3:dY H4 cd (X.env.qual++ "answer"):=hc1.later r1 x3;obtain⟨eg,hgn,hgl,hgf,_⟩:=I2.pin (g,_) (fq _ (fq _ (.head _)));dsimp only at eg hgn hgl hgf;have Ai:∀{a:Addr},a≠X.env.locals->a∉X.fs->a∉a9 X.stack:=fun h1 h2 hb=>(eZ.mp (I2.j5 _ hb)).elim h1 h2;cases ek:Tw.jz (ρ.set j none) ks with
  |none=>rw[ek] at p3;exact p3.elim
  |some ws=>
   rw[ek] at p3;dsimp only at p3;have kept:∃vs,aL X.K ι3 h3.length H4 ws vs/\Kept (iQ X H4 s2) scope.names (cu X.env scope.names []) vs:=by
    rcases hfree with ⟨e,rfl⟩|⟨y,i,e,rfl,hi,hy⟩
    .cases ek;exact⟨[],.nil,.inl ⟨by rw[mj,e];rfl,rfl,e⟩⟩
    .rw[Tw.jz] at ek;cases ew:(ρ.set j none)[i]? with
     |none=>rw[ew] at ek;cases ek
     |some ow=>
      cases ow with
      |none=>rw[ew] at ek;cases ek
      |some w=>
       rw[ew] at ek;cases ek;obtain⟨v,s3,rv⟩:=at3.st i w ew;obtain⟨m,hn,hlo⟩:=I2.loc;obtain⟨u,ru,lk⟩:=hlo i y v hi s3 (.inr (.inl hy));rcases lk with ⟨hk',_⟩|⟨_,c,hc,o,ho,hod⟩
       .have:X.env.scope.names.lookup y=some .local:=hk';rw[hy] at this;cases this
       .refine⟨[v],.cons rv .nil,.inr ⟨y,c,u,v,?_,rfl,⟨o,nK ho (I2.eN y c hc) (Ai (I2.m6 y c hc) fun hb=>?_),hod⟩,ru,e⟩⟩
        .rw[mj,e];show [(y,(X.env.cells.lookup y).getD 0)]=_;rw[hc];rfl
        .obtain⟨_,o',ho',_⟩:=I2.ok.fK.mem hb;exact absurd (bT (bw ho') (I2.ok.rG y c (hfn y) hc)) (pX _)
   obtain⟨kvs,rk,kk⟩:=kept;have eg':(iQ X H4 s2).get? g=some _:=nK eg hgn (Ai hgl hgf);have CB':CB ci (iQ X H4 s2) (qR X.cl h3.length ⟨g,f,kvs,cd,X.env.qual++ "answer"⟩):=fun i c e=>by
    have e:(if i=h3.length then some (⟨g,f,kvs,cd,X.env.qual++ "answer"⟩:m5) else X.cl.fs i)=some c:=e;by_cases hz:i=h3.length
    .rw[if_pos hz] at e;cases e;exact⟨_,hci,b0,doc,_,ctv,_,hp,eg',kk⟩
    .rw[if_neg hz] at e;obtain⟨st,z1,z2⟩:=cb i c e;exact⟨st,z1,z2.keep (uA I2)⟩
   have F:=own (iQ X H4 s2) (qR X.cl h3.length ⟨g,f,kvs,cd,X.env.qual++ "answer"⟩) rfl CB';have kp:Keeps ι3 h3.length H4 (cM ι3 h3.length g) (h3++[Tw.O.fun f ws]).length H4:=⟨by simp,fun i hi=>bC hi,fun _ _ e=>e⟩;have rg:RW X.K (cM ι3 h3.length g) (h3++[Tw.O.fun f ws]).length H4 (.ref h3.length) (.ref g):=by have z:RW X.K (cM ι3 h3.length g) (h3++[Tw.O.fun f ws]).length H4 (.ref h3.length) (.ref (cM ι3 h3.length g h3.length)):=.ref (by simp);rw[bY] at z;exact z
   have hsp:cE X.K X.mg (qR X.cl h3.length ⟨g,f,kvs,cd,X.env.qual++ "answer"⟩) (C fw) [v1,v2,.ref g] H4 D.rt E:=by
    refine⟨[w1,w2,.ref h3.length],h3++[.fun f ws],cM ι3 h3.length g,HR.jb (c:=⟨g,f,kvs,cd,X.env.qual++ "answer"⟩) at3.hr rk hc3,.cons (rw1.keep kp) (.cons (rw2.keep kp) (.cons rg .nil)),?_⟩;cases er:C fw [w1,w2,.ref h3.length] (h3++[.fun f ws]) with
    |bad=>rw[er] at p3;exact p3.elim
    |aI a' h4=>rw[er] at p3;exact fun ι' H' xx rr=>p3 ι' H' (xx.kill hgn) rr.kill
    |ok w h4=>rw[er] at p3;exact fun ι' H' v xx rr q=>p3 ι' H' v (xx.kill hgn) rr.kill (by simpa using q)
   have hlen:(us++[]).length=psw.length:=by rw[eX,<-r2.length];exact F.len _ _ _ _ hsp
   have hbs:=hb s2 us I2.bP hlen;rw[eX] at hbs;refine kB (oF (F.run X.A X.stack s2 H4 ⟨us,[]⟩ us _ D.rt E hr (O7 I2) hbs r2 hsp) fun r s' hq=>?_);cases r with
   |error e=>exact hx _ _ H4 s2 e s' I2 hq
   |ok fl=>
    cases fl with
    |ret u=>exact I2.after hq
    |next=>exact False.elim hq
    |brk=>exact False.elim hq
    |cont=>exact False.elim hq
end
def uX(e:Expr):Option (Str×Str):=(l9 e).bind fun ts=>(mR ts).bind fun q=>(aK q.1).bind fun x=>(aK q.2).map fun y=>(x,y)
theorem vT(h:uX e=some r):∃p1 p2 k p,e=.Tuple [.Name r.1 p1,.Name r.2 p2] k p:=by obtain⟨ts,e1,h⟩:=kG.mp h;obtain⟨⟨a,b⟩,e2,h⟩:=kG.mp h;obtain⟨x,e3,h⟩:=kG.mp h;obtain⟨y,e4,rfl⟩:=sj.mp h;obtain⟨k,p,z1⟩:=km e1;have z2:=iA e2;obtain⟨p1,z3⟩:=aH e3;obtain⟨p2,z4⟩:=aH e4;dsimp only at z1 z2 z3 z4⊢;exact⟨p1,p2,k,p,by rw[z1,z2,z3,z4]⟩
def Rz(sc:Sc)(N:List Str)(t:Tw.Tg)(tg:Expr):Bool:=match t with
 |.var i=>(aK tg).any fun x=>decide (N[i]?=some x)&&eI sc x
 |.two i j=>(uX tg).any fun r=>decide (N[i]?=some r.1)&&eI sc r.1&&decide (N[j]?=some r.2)&&eI sc r.2
noncomputable def Qj:Const->Bool
 |.str _=>true
 |_=>false
noncomputable def OR:Tw.Es->Bool
 |.nil=>true
 |_=>false
def isTup(e:Expr):Bool:=decide (e.ctorIdx=25)
noncomputable def Fj(e:Stmt)(h:e.ctorIdx=0):Option (Str×Arguments×List Stmt×Scope×Pos):=Stmt.FunctionDef.elim (motive_2:=fun _=>Option (Str×Arguments×List Stmt×Scope×Pos)) e h fun n a b d r t sc ts bi p=>if d.isEmpty&&r.isNone&&t.isEmpty&&ts.isNone&&decide (bi=n) then some (n,a,b,sc,p) else none
def Am(e:Stmt):Option (Str×Arguments×List Stmt×Scope×Pos):=if h:e.ctorIdx=0 then Fj e h else none
theorem D4{e:Stmt}{r:Str×Arguments×List Stmt×Scope×Pos}(h:Am e=some r):e=.FunctionDef r.1 r.2.1 r.2.2.1 [] none [] r.2.2.2.1 none r.1 r.2.2.2.2:=
 let ⟨c,h⟩:=dv h
 Stmt.FunctionDef.elim (motive_2:=fun e=>∀c,Fj e c=some r->e=.FunctionDef r.1 r.2.1 r.2.2.1 [] none [] r.2.2.2.1 none r.1 r.2.2.2.2) e c (fun n a b d r' t sc ts bi p _ h=>by
  have h:(if (d.isEmpty&&r'.isNone&&t.isEmpty&&ts.isNone&&decide (bi=n))=true then some (n,a,b,sc,p) else none)=some r:=h;by_cases q:(d.isEmpty&&r'.isNone&&t.isEmpty&&ts.isNone&&decide (bi=n))=true
  .rw[if_pos q] at h;cases h;simp only[ao,ax,Av,sx] at q;obtain⟨⟨⟨⟨rfl,rfl⟩,rfl⟩,rfl⟩,rfl⟩:=q;rfl
  .rw[if_neg q] at h;cases h) c h
def z9{α:Type}:List α->Option (α×α×α)
 |[a,b,c]=>some (a,b,c)
 |_=>none
theorem vV{α:Type}{l:List α}{r:α×α×α}(h:z9 l=some r):l=[r.1,r.2.1,r.2.2]:=by
 match l,h with
 |[a,b,c],h=>cases h;rfl
def zi(sc:Sc)(N:List Str):List Nat->List Str->Bool
 |[],[]=>true
 |[i],[y]=>decide (N[i]?=some y)&&decide (sc.lookup y=some .cell)
 |_,_=>false
def Ea(cf:Cfg)(sc:Sc)(N:List Str)(t:Tw.St)(ss:List Stmt):Bool:=match t with
 |.ki j fw a b f ks=>cf.wk&&(mR ss).any fun q=>cf.ci f q.1&&(Am q.1).any fun d=>decide (d.1=("answer" : Str))&&(eA d.2.1 (eV true) || eA d.2.1 (eV false))&&decide (N[j]?=some ("answer" : Str))&&decide (sc.lookup ("answer" : Str)=some .local)&&
   zi sc N ks (bZ d.2.2.2.1.names)&&(nJ q.2).any fun o=>o.any fun e=>(gy e).any fun r=>decide (cf.fns[fw]?=some (.fn r.1))&&fk sc r.1&&ir r.1&&(z9 r.2).any fun z=>aw z.1&&aw z.2.1&&(aK z.2.2).any (fun x=>decide (x=("answer" : Str)))&&aB cf sc N a z.1&&aB cf sc N b z.2.1
 |_=>false
mutual
noncomputable def Dw(cf:Cfg)(sc:Sc)(N:List Str):Tw.St->Stmt->Bool
 |.expr e,s=>(El s).any fun x=>aw x&&!(nB x)&&aB cf sc N e x
 |.ret e,s=>(nJ s).any fun o=>o.any fun x=>aB cf sc N e x
 |.set i e,s=>(qk s).any fun r=>(aK r.1).any fun y=>decide (N[i]?=some y)&&eI sc y&&aw r.2&&aB cf sc N e r.2
 |.put o k e,s=>(qk s).any fun r=>(oY r.1).any fun q=>aw q.2&&aB cf sc N o q.1&&aB cf sc N k q.2&&aB cf sc N e r.2
 |.iff c a b,s=>(Kp s).any fun r=>dJ r.1&&aB cf sc N c r.1&&ju cf sc N a r.2.1&&ju cf sc N b r.2.2
 |.for t it b,s=>(KG s).any fun r=>r.2.2.2.isEmpty&&aw r.2.1&&zG cf sc N (isTup r.1) it r.2.1&&ju cf sc N b r.2.2.1&&Rz sc N t r.1
 |.bad,_=>true
 |.fput o x e,s=>(qk s).any fun r=>(m9 r.1).any fun q=>decide (q.2.1=⟨x.toArray⟩)&&xU.contains q.2.1&&aw r.2&&!(nB r.2)&&aB cf sc N o q.1&&aB cf sc N e r.2
 |.pA c b,s=>(Ib s).any fun r=>r.2.2.isEmpty&&dJ r.1&&aB cf sc N c r.1&&ju cf sc N b r.2.1
 |.raise c xs es,s=>(BQ s).any fun r=>r.2.isNone&&r.1.any fun e=>(gy e).any fun q=>!(q.2.isEmpty)&&decide (q.1=str c)&&decide (cf.cT.lookup c=some xs)&&fk sc q.1&&ir q.1&&(xs.isEmpty&&OR es&&(gi q.2).any fun y=>(k8 y).any Qj)
 |.yM b hs,s=>(J0 s).any fun r=>r.2.2.1.isEmpty&&r.2.2.2.isEmpty&&!(r.2.1.isEmpty)&&lq cf sc N b r.1&&lV cf sc N hs r.2.1
 |.og i j e,s=>(qk s).any fun r=>(uX r.1).any fun q=>decide (N[i]?=some q.1)&&eI sc q.1&&decide (N[j]?=some q.2)&&eI sc q.2&&isCall r.2&&aB cf sc N e r.2
 |.aug i op e,s=>(Kl s).any fun r=>(aK r.1).any fun x=>decide (op=.add)&&decide (r.2.1=.Add)&&decide (N[i]?=some x)&&eI sc x&&aB cf sc N e r.2.2
 |.nN i j k e,s=>(qk s).any fun r=>(l9 r.1).any fun ts=>(z9 ts).any fun q=>(aK q.1).any fun x=>(aK q.2.1).any fun y=>(aK q.2.2).any fun z=>decide (N[i]?=some x)&&eI sc x&&decide (N[j]?=some y)&&eI sc y&&decide (N[k]?=some z)&&eI sc z&&isCall r.2&&aB cf sc N e r.2
 |.ki _ _ _ _ _ _,_=>false
noncomputable def ju(cf:Cfg)(sc:Sc)(N:List Str):List Tw.St->List Stmt->Bool
 |[],ss=>ss.isEmpty
 |t::ts,ss=>((mF ss).any fun r=>Dw cf sc N t r.1&&ju cf sc N ts r.2) || (ts.isEmpty&&Ea cf sc N t ss)
end
structure Nm(cf:Cfg)(C:Tw.Or)(CX:fj)(X:Cx):Prop where
 at_:CV X "answer"
 fn:∀x,X.fn x=true
 cb:CB cf.ci X.base X.cl
 own:∀f x,cf.fns[f]?=some (.fn x)->∃k g fd ps,(∀base cl,cl.tb=X.cl.tb->CB cf.ci base cl->bF X.prog X.w X.K X.mg base CX k g fd ps (cE X.K X.mg cl (C f)))/\cq k X.A/\X.mg x=some (.ref g)/\W.keepIn X.K (.ref g)=true/\Binds X.K fd ps []
structure kL(cf:Cfg)(C:Tw.Or)(CX:fj)(E:XK)(sc:Sc)(N:List Str)(X:Cx):Prop where
 dz:ff cf C CX E X
 sees:dI sc N X
 same:X.env.scope.names=sc
 nd:N.Nodup
 fn:∀x,eI sc x=true->X.fn x=true\/X.env.scope.names.lookup x=some .local
 pass:PassesOwn (model X.prog X.w) X.A X.env X.xe
 block:X.env.blockKind=.function
 ex:X.ex=[]
 st:X.stack=X.env::X.outer
 fm:X.env.frame=some X.env.locals
 xe:X.xe=oS X E
 cx:CX=bX X.prog X.w
 err:∀c fs,cf.cT.lookup c=some fs->LJ X c fs
 hd:cf.hd=false
 wk:cf.wk=true->Nm cf C CX X
section
variable {cf:Cfg}{C:Tw.Or}{CX:fj}{E:XK}{sc:Sc}{N:List Str}{X:Cx}
theorem kL.loc(R:kL cf C CX E sc N X)(h:eI sc x=true):Loc X.env.scope x:=by
 unfold eI at h;rw[<-R.same] at h;cases e:X.env.scope.names.lookup x with
 |none=>rw[e] at h;exact no h
 |some k=>
  rw[e] at h;cases k with
  | «local» => exact .inl e
  |cell=>exact .inr e
  |_=>exact no h
theorem kL.gW(R:kL cf C CX E sc N X)(h1:N[i]?=some x)(h2:eI sc x=true):PG X (.Name x p) (gv i):=
 rT (by rw[R.sees.n];exact R.nd) (by rw[R.sees.n];exact h1) (R.loc h2) (R.fn x h2)
theorem zr(hk:aw k=true)(v:Value):assign (.Subscript o k pos') env v=(do
   let ov <-holding [v] (eval o env)
   let iv <-holding [v,ov] (eval k env)
   standAt pos'
   holding [v,ov,iv] (setItem ov iv v)
   release [v,ov,iv] []):=by
 cases k<;>first|rfl|exact absurd (show false=true from hk) j0
theorem IZ(R:kL cf C CX E sc N X)(h1:N[i]?=some y)(h2:eI sc y=true)(h3:aw x=true)(h4:aB cf sc N e x=true):
  PS X (.Assign [.Name y py] x p) (cN (zx X E) fun ρ h=>(Tw.af C e ρ h).bind fun w h=>.ok (.next (ρ.set i (some w))) h):=by
 have plain:swapsWith x (some (.Name y py)) p.line X.env=pure false->PS X (.Assign [.Name y py] x p) (cN (zx X E) fun ρ h=>(Tw.af C e ρ h).bind fun w h=>.ok (.next (ρ.set i (some w))) h):=fun hs=>
  EK (by rw[R.sees.n];exact R.nd) (by rw[R.sees.n];exact h1) (R.loc h2) (aJ e R.dz R.sees h4).1 hs (R.fn y h2)
 by_cases hc:nB x=true
 .cases x with
  |ListComp elt gens scope pos=>
   have hsw:swapsWith (.ListComp elt gens scope pos) (some (.Name y py)) p.line X.env=pure (X.env.blockKind== .function&&X.env.kindOf y== some .local&&py.line== pos.line&&!(scope.names.any fun (n,k)=>n== y&&(k== .local || k== .cell))):=rfl;cases hb:(X.env.blockKind== .function&&X.env.kindOf y== some .local&&py.line== pos.line&&!(scope.names.any fun (n,k)=>n== y&&(k== .local || k== .cell))) with
   |false=>rw[hb] at hsw;exact plain hsw
   |true=>
    rw[hb] at hsw;have hl:X.env.scope.names.lookup y=some .local:=by simp only[ao,gS] at hb;exact hb.1.1.2
    cases e with
    |comp el it c=>
     replace h4:=xl h4;replace h4:=h4.2
     .replace h4:=ay h4;obtain⟨⟨yy,gs,scope,pos⟩,e1,h4⟩:=h4;cases rm e1;replace h4:=ay h4;obtain⟨⟨tg,iter,ifs⟩,e2,h4⟩:=h4;obtain rfl:=tF e2;replace h4:=ay h4;obtain⟨xx,e3,h4⟩:=h4;obtain⟨px,rfl⟩:=aH e3;simp only[ao,ax] at h4;obtain⟨⟨⟨⟨⟨h0,h1'⟩,h2'⟩,h3'⟩,h4⟩,h5⟩:=h4;have S:=R.sees;have cs:=B4 S h0;have hk:scope.kind=.function:=cs.kind;have hnd:(cO X.N [xx]).Nodup:=by rw[S.n];exact h1'
      have sees:∀{Cc:Addr}{s:Shared}{H:L2.Hp}{pins:aE}{fp:List Addr},dI scope.names (cO N [xx]) (bc X scope Cc [xx] s H pins fp):=fun {Cc s H pins fp}=>by
       have z:=dI.comp (X:=X) (scope:=scope) (C:=Cc) (x:=[xx]) (s:=s) (H:=H) (pins:=pins) (fp:=fp) hk;rw[S.n] at z;exact z
      have hev:Tw.af C (.comp el it c)=vk JB (Tw.dN C it) (Tw.fW C c) (Tw.af C el):=by funext ρ h;rw[Tw.mq];rfl
      rw[hev];refine IJ (R.dz.calm R.hd) cs (vB hnd cs) (vn _ _) (zk it R.dz S h3' (fun z=>nomatch z)) (hF h2') (fun Cc s H pins fp=>(aJ el R.dz.comp sees h4).1) ?_ (by rw[S.n];exact R.nd) (by rw[S.n];exact h1) hl hsw;cases c with
      |none=>
       obtain rfl:=bJ (show ifs.isEmpty=true from h5);exact .inl ⟨rfl,fun ρ h=>by rw[Tw.nG]⟩
      |some d=>
       replace h5:=ay h5;obtain⟨z,e4,h5⟩:=h5;obtain rfl:=dg (show gi ifs=some z from e4);rw[ao] at h5;exact .inr ⟨z,Tw.af C d,rfl,fun ρ h=>by rw[Tw.nX],fun Cc s H pins fp=>(aJ d R.dz.comp sees h5.2).2 h5.1⟩
    |bad=>
     refine fun pins s σ H D I ⟨ρ,h,ι,at',p⟩=>?_;simp only[Tw.sd] at p;exact p.elim
    |kS a ns ds cs=>cases a<;>exact no h4
    |_=>first|exact no h4|exact no (xp.mp h4).2
  |_=>exact no hc
 .exact plain (iO h3 (by simpa using hc))
theorem Gr(R:kL cf C CX E sc N X){t:Tw.St}{ss:List Stmt}(h:Ea cf sc N t ss=true):dE X ss (cN (zx X E) (Tw.aF C [t])):=by
 cases t with
 |ki j fw a b f ks=>
  replace h:(cf.wk&&(mR ss).any fun q=>cf.ci f q.1&&(Am q.1).any fun d=>decide (d.1=("answer" : Str))&&(eA d.2.1 (eV true) || eA d.2.1 (eV false))&&decide (N[j]?=some ("answer" : Str))&&decide (sc.lookup ("answer" : Str)=some .local)&&
   zi sc N ks (bZ d.2.2.2.1.names)&&(nJ q.2).any fun o=>o.any fun e=>(gy e).any fun r=>decide (cf.fns[fw]?=some (.fn r.1))&&fk sc r.1&&ir r.1&&(z9 r.2).any fun z=>aw z.1&&aw z.2.1&&(aK z.2.2).any (fun x=>decide (x=("answer" : Str)))&&aB cf sc N a z.1&&aB cf sc N b z.2.1)=true:=h
  rw[ao] at h;obtain⟨hw,h⟩:=h;replace h:=ay h;obtain⟨⟨s1,s2⟩,e1,h⟩:=h;obtain rfl:=iA e1;rw[ao] at h;obtain⟨hci,h⟩:=h;replace h:=ay h;obtain⟨⟨nm,params,body,scope,pos⟩,e2,h⟩:=h;obtain rfl:=D4 (show Am s1=some _ from e2);simp only[ao,ax,wz] at h;obtain⟨⟨⟨⟨⟨rfl,hp⟩,hj⟩,hl⟩,hk⟩,h⟩:=h;replace h:=ay h;obtain⟨o,e3,h⟩:=h;obtain⟨rp,rfl⟩:=j2 (show nJ s2=some o from e3);replace h:=ay h;obtain⟨e,rfl,h⟩:=h;replace h:=ay h;obtain⟨⟨x,as⟩,e4,h⟩:=h;obtain⟨p1,cp,rfl⟩:=cQ e4;simp only[ao,ax] at h;obtain⟨⟨⟨h0,h1⟩,h2⟩,h⟩:=h;replace h:=ay h;obtain⟨⟨ea,eb,en⟩,e5,h⟩:=h;obtain rfl:=vV e5;simp only[ao] at h;obtain⟨⟨⟨⟨h3,h4⟩,h5⟩,h6⟩,h7⟩:=h;replace h5:=ay h5;obtain⟨x5,e6,h5⟩:=h5;obtain⟨p2,rfl⟩:=aH (show aK en=some x5 from e6);obtain rfl:x5= "answer" := zz h5;have Wa:=R.wk hw;obtain⟨k,g,fd,ps,G,hr,hm,hkp,hb⟩:=Wa.own fw x h0;have hfree:(bZ scope.names=[]/\ks=[])\/∃y i,bZ scope.names=[y]/\ks=[i]/\X.N[i]?=some y/\X.env.scope.names.lookup y=some .cell:=by
   match ks,hq:bZ scope.names,(show zi sc N ks (bZ scope.names)=true from hk) with
   |[],[],_=>exact .inl ⟨rfl,rfl⟩
   |[i],[y],hk=>
    have hk:(decide (N[i]?=some y)&&decide (sc.lookup y=some .cell))=true:=hk;simp only[ao,ax] at hk;exact .inr ⟨y,i,rfl,rfl,by rw[R.sees.n];exact hk.1,by rw[R.same];exact hk.2⟩
   |[],_::_,hk=>exact no hk
   |[_],[],hk=>exact no hk
   |[_],_::_::_,hk=>exact no hk
   |_::_::_,_,hk=>exact no hk
  have key:∀b0,eA params (eV b0)=true->dE X _ (cN (zx X E) (Tw.dC C (.ki j fw a b f ks))):=fun b0 hp=>
   Iv (b0:=b0) (p1:=p1) (p2:=p2) (cp:=cp) (rp:=rp) Wa.at_ Wa.fn (by rw[R.sees.n];exact R.nd) (by rw[R.sees.n];exact hj) (by rw[R.same];exact hl) Wa.cb hci hp hfree G hr (R.sees.gl _ h1) hm hkp hb (c8 h2) R.dz.pass (aJ a R.dz R.sees h6).1 (aJ b R.dz R.sees h7).1 h3 h4
  have e:Tw.aF C [.ki j fw a b f ks]=Tw.dC C (.ki j fw a b f ks):=by
   funext ρ h;rw[Tw.dF,Tw.rX];cases Tw.af C a (ρ.set j none) h with
   |bad=>rfl
   |aI=>rfl
   |ok x h1=>
    simp only[Tw.R.aW];cases Tw.af C b (ρ.set j none) h1 with
    |bad=>rfl
    |aI=>rfl
    |ok y h2=>
     simp only[Tw.R.aW];cases Tw.jz (ρ.set j none) ks with
     |none=>rfl
     |some ws=>
      dsimp only;cases C fw [x,y,.ref h2.length] (h2++[.fun f ws])<;>rfl
  rw[e];exact hp.elim (key true) (key false)
 |_=>exact no h
mutual
theorem PN(R:kL cf C CX E sc N X):∀(t:Tw.St){s:Stmt},Dw cf sc N t s=true->PS X s (cN (zx X E) (Tw.dC C t))
 |.expr e,s,h=>by
  replace h:=ay h;obtain⟨x,e1,h⟩:=h;obtain⟨p,rfl⟩:=BM e1;simp only[ao,gZ] at h;exact JH (aJ e R.dz R.sees h.2).1 (iO h.1.1 h.1.2)
 |.ret e,s,h=>by
  replace h:=ay h;obtain⟨o,e1,h⟩:=h;obtain⟨p,rfl⟩:=j2 e1;replace h:=ay h;obtain⟨x,rfl,h⟩:=h;exact y7 (aJ e R.dz R.sees h).1
 |.set i e,s,h=>by
  replace h:=ay h;obtain⟨⟨t,v⟩,e1,h⟩:=h;obtain⟨p,rfl⟩:=iH e1;replace h:=ay h;obtain⟨y,e2,h⟩:=h;obtain⟨py,rfl⟩:=aH (show aK t=some y from e2);simp only[ao,ax] at h;exact IZ R h.1.1.1 h.1.1.2 h.1.2 h.2
 |.put o k e,s,h=>by
  replace h:=ay h;obtain⟨⟨t,v⟩,e1,h⟩:=h;obtain⟨p,rfl⟩:=iH e1;replace h:=ay h;obtain⟨⟨x,y⟩,e2,h⟩:=h;obtain⟨p2,rfl⟩:=kn (show oY t=some (x,y) from e2);simp only[ao] at h;exact MO (by have:=R.dz.units;lia) (aJ e R.dz R.sees h.2).1 (aJ o R.dz R.sees h.1.1.2).1 (aJ k R.dz R.sees h.1.2).1 (zr h.1.1.1)
 |.iff c a b,s,h=>by
  replace h:=ay h;obtain⟨⟨x,ys,zs⟩,e1,h⟩:=h;obtain⟨p,rfl⟩:=yA e1;simp only[ao] at h;rw[show Tw.dC C (.iff c a b)=fun ρ h=>(Tw.af C c ρ h).bind fun x h=>match Tw.truth h x with
   |some true=>Tw.aF C a ρ h
   |some false=>Tw.aF C b ρ h
   |none=>.bad from by funext ρ h;rw[Tw.oz]<;>rfl]
  exact J4 ((aJ c R.dz R.sees h.1.1.2).2 h.1.1.1) (kC R a h.1.2) (kC R b h.2)
 |.for t it b,s,h=>by
  replace h:=ay h;obtain⟨⟨tg,iter,ys,zs⟩,e1,h⟩:=h;obtain⟨p,rfl⟩:=Dd e1;simp only[ao] at h;obtain⟨⟨⟨⟨hz,h0⟩,h1⟩,h2⟩,h3⟩:=h;obtain rfl:=bJ (show zs.isEmpty=true from hz);cases t with
  |var i=>
   replace h3:=ay h3;obtain⟨x,e2,h3⟩:=h3;obtain⟨px,rfl⟩:=aH (show aK tg=some x from e2);simp only[ao,ax] at h3;exact BE R.pass (R.dz.calm R.hd) (zk it R.dz R.sees h1 (fun z=>nomatch z)) (R.gW h3.1 h3.2) (IP _ _) (kC R b h2) (hF h0)
  |two i j=>
   replace h3:=ay h3;obtain⟨⟨x,y⟩,e2,h3⟩:=h3;obtain⟨p1,p2,kt,pt,rfl⟩:=vT (show uX tg=some (x,y) from e2);simp only[ao,ax] at h3;exact BE R.pass (R.dz.calm R.hd) (zk it R.dz R.sees h1 (fun _=>⟨_,_,_,rfl⟩)) (wR (R.dz.calm R.hd) (gH (R.gW h3.1.1.1 h3.1.1.2) (gH (R.gW h3.1.2 h3.2) rJ))) (A3 _ _ _) (kC R b h2) (hF h0)
 |.bad,s,h=>by
  exact fun pins s σ H D I ⟨ρ,h,ι,at',p⟩=>p.elim
 |.fput o x e,s,h=>by
  replace h:=ay h;obtain⟨⟨t,z⟩,e1,h⟩:=h;obtain⟨p,rfl⟩:=iH e1;replace h:=ay h;obtain⟨⟨v,y,p2⟩,e2,h⟩:=h;obtain rfl:=lT (show m9 t=some (v,y,p2) from e2);simp only[ao,ax,gZ] at h;obtain⟨⟨⟨⟨⟨rfl,h1⟩,h2⟩,h3⟩,h4⟩,h5⟩:=h;exact KQ (by rw[yS] at h1;simpa using h1) (aJ e R.dz R.sees h5).1 (aJ o R.dz R.sees h4).1 (iO h2 h3)
 |.pA c b,s,h=>by
  replace h:=ay h;obtain⟨⟨x,ys,zs⟩,e1,h⟩:=h;obtain⟨p,rfl⟩:=Dk e1;simp only[ao] at h;obtain⟨⟨⟨hz,h0⟩,h1⟩,h2⟩:=h;obtain rfl:=bJ (show zs.isEmpty=true from hz);exact Mm R.pass ((aJ c R.dz R.sees h1).2 h0) (kC R b h2)
 |.raise c xs es,s,h=>by
  replace h:=ay h;obtain⟨⟨o,cs⟩,e1,h⟩:=h;obtain⟨p,rfl⟩:=zN e1;rw[ao] at h;obtain⟨hn,h⟩:=h;obtain rfl:=sx.mp (show cs.isNone=true from hn);replace h:=ay h;obtain⟨e,z,h⟩:=h;obtain rfl:o=some e:=z;replace h:=ay h;obtain⟨⟨x,ys⟩,e3,h⟩:=h;obtain⟨np,cp,rfl⟩:=cQ e3;simp only[ao,ax,gZ] at h;obtain⟨⟨⟨⟨⟨hy,rfl⟩,h1⟩,h2⟩,h3⟩,h4⟩:=h;obtain⟨⟨xe,h4⟩,h5⟩:=h4;obtain rfl:=bJ xe;cases es with
  |cons _ _=>exact no h4
  |nil=>
   replace h5:=ay h5;obtain⟨y,e5,h5⟩:=h5;obtain rfl:=dg (show gi ys=some y from e5);replace h5:=ay h5;obtain⟨k,e6,h5⟩:=h5;obtain⟨kk,kp,rfl⟩:=kN e6;cases k with
   |str z=>
    obtain⟨Ce,hm,_,M⟩:=R.err c [] h1;show PS X _ (cN (zx X E) fun _ h=>Tw.o7 c [] [] h);exact CM R.ex R.st R.fm R.xe (R.dz.calm R.hd) hm M (R.sees.gl _ h2) (c8 h3)
   |_=>exact no h5
 |.yM b hs,s,h=>by
  replace h:=ay h;obtain⟨⟨bd,l,oe,fb⟩,e1,h⟩:=h;obtain⟨p,rfl⟩:=CC e1;simp only[ao,gZ] at h;obtain⟨⟨⟨⟨w1,w2⟩,w3⟩,h1⟩,h2⟩:=h;obtain rfl:=bJ (show oe.isEmpty=true from w1);obtain rfl:=bJ (show fb.isEmpty=true from w2);have cx:=R.cx;subst cx;exact Hz R.dz R.sees R.same R.nd R.st R.fm h1 h2 (fun z=>by rw[show l=[] from z] at w3;cases w3)
 |.og i j e,s,h=>by
  replace h:=ay h;obtain⟨⟨t,v⟩,e1,h⟩:=h;obtain⟨p,rfl⟩:=iH e1;replace h:=ay h;obtain⟨⟨x,y⟩,e2,h⟩:=h;obtain⟨p1,p2,kt,pt,rfl⟩:=vT (show uX t=some (x,y) from e2);simp only[ao,ax] at h;obtain⟨⟨⟨⟨⟨h1,h2⟩,h3⟩,h4⟩,h5⟩,h6⟩:=h;rw[show Tw.dC C (.og i j e)=fun ρ h=>(Tw.af C e ρ h).bind fun x h=>match x with
   |.tup [u,v]=>.ok (.next ((ρ.set i (some u)).set j (some v))) h
   |_=>.bad from by funext ρ h;rw[Tw.Dc]<;>rfl]
  exact Kj (wR (R.dz.calm R.hd) (gH (R.gW h1 h2) (gH (R.gW h3 h4) rJ))) (A3 _ _ _) (aJ e R.dz R.sees h6).1 h5
 |.aug i op e,s,h=>by
  replace h:=ay h;obtain⟨⟨t,o,z⟩,e1,h⟩:=h;obtain⟨p,rfl⟩:=Du e1;replace h:=ay h;obtain⟨x,e2,h⟩:=h;obtain⟨p2,rfl⟩:=aH (show aK t=some x from e2);simp only[ao,ax] at h;obtain⟨⟨⟨⟨rfl,rfl⟩,h1⟩,h2⟩,h3⟩:=h;rw[show Tw.dC C (.aug i .add e)=fun ρ h=>match ρ[i]? with
   |some (some (.int n))=>(Tw.af C e ρ h).bind fun y h=>match y with
    |.int b=>Tw.R.of ((Tw.binI .add n b).map fun c=>.next (ρ.set i (some (.int c)))) h
    |_=>.bad
   |_=>.bad from by funext ρ h;rw[Tw.FZ]<;>rfl]
  exact Ma (by rw[R.sees.n];exact R.nd) (by rw[R.sees.n];exact h1) (R.loc h2) (R.fn _ h2) (aJ e R.dz R.sees h3).1
 |.nN i j k e,s,h=>by
  replace h:=ay h;obtain⟨⟨t,v⟩,e1,h⟩:=h;obtain⟨p,rfl⟩:=iH e1;replace h:=ay h;obtain⟨ts,e2,h⟩:=h;obtain⟨kt,pt,rfl⟩:=km (show l9 t=some ts from e2);replace h:=ay h;obtain⟨⟨n1,n2,n3⟩,e3,h⟩:=h;obtain rfl:=vV e3;replace h:=ay h;obtain⟨x,e4,h⟩:=h;obtain⟨px,rfl⟩:=aH (show aK n1=some x from e4);replace h:=ay h;obtain⟨y,e5,h⟩:=h;obtain⟨py,rfl⟩:=aH (show aK n2=some y from e5);replace h:=ay h;obtain⟨z,e6,h⟩:=h;obtain⟨pz,rfl⟩:=aH (show aK n3=some z from e6);simp only[ao,ax] at h;obtain⟨⟨⟨⟨⟨⟨⟨h1,h2⟩,h3⟩,h4⟩,h5⟩,h6⟩,h7⟩,h8⟩:=h;rw[show Tw.dC C (.nN i j k e)=fun ρ h=>(Tw.af C e ρ h).bind fun x h=>match x with
   |.tup [u,v,w]=>.ok (.next (((ρ.set i (some u)).set j (some v)).set k (some w))) h
   |_=>.bad from by funext ρ h;rw[Tw.DW]<;>rfl]
  exact Iy (wR (R.dz.calm R.hd) (gH (R.gW h1 h2) (gH (R.gW h3 h4) (gH (R.gW h5 h6) rJ)))) (aJ e R.dz R.sees h8).1 h7
 |.ki j fw a b f ks,s,h=>by
  exact no h
theorem kC(R:kL cf C CX E sc N X):∀(ts:List Tw.St){ss:List Stmt},ju cf sc N ts ss=true->dE X ss (cN (zx X E) (Tw.aF C ts))
 |[],ss,h=>by
  obtain rfl:=bJ h;exact vN
 |t::ts,ss,h=>by
  replace h:((mF ss).any fun r=>Dw cf sc N t r.1&&ju cf sc N ts r.2)=true\/(ts.isEmpty&&Ea cf sc N t ss)=true:=Bool.or_eq_true_iff.mp h;rcases h with h|h
  rotate_left
  .rw[ao] at h;obtain rfl:=bJ h.1;exact Gr R h.2
  replace h:=ay h;obtain⟨⟨s,r⟩,e1,h⟩:=h;obtain rfl:=dX e1;simp only[ao] at h;rw[show Tw.aF C (t::ts)=fun ρ h=>(Tw.dC C t ρ h).bind fun f h=>match f with
   |.next ρ=>Tw.aF C ts ρ h
   |f=>.ok f h from by funext ρ h;rw[Tw.dF]<;>rfl]
  exact yJ (PN R t h.1) (kC R ts h.2)
end
end
structure bg where
 key:Fk
 name:Str
 qual:Str
 st:Stmt
 N:List Str
 ps:List Str
 wk:Bool:=false
def uy(cf:Cfg)(d:bg)(fn:Tw.Fn):Bool:=
 decide ((aq d.st).kind=.function)&&!(aq d.st).isCoroutine&&!(aq d.st).isGenerator&&decide d.N.Nodup&&decide (d.N.take d.ps.length=d.ps)&&
 d.ps.all (eI (aq d.st).names)&&(aq d.st).names.all (fun y=>decide (y.2≠.free))&&decide (fn.ps=d.ps.length)&&decide (fn.ns=d.N.length)&&ju {cf with wk:=d.wk} (aq d.st).names d.N fn.body (bR d.st)
def zg(cf:Cfg)(st:Stmt)(N:List Str)(b:Bool)(fn:Tw.Fn):Bool:=
 decide ((aq st).kind=.function)&&!(aq st).isCoroutine&&!(aq st).isGenerator&&decide N.Nodup&&decide (N.take 3=eV b)&&(eV b).all (fun x=>decide ((aq st).names.lookup x=some .local))&&
 (aq st).names.all (fun y=>decide (y.2≠.cell))&&decide ((N.drop 3).take (bZ (aq st).names).length=bZ (aq st).names)&&(bZ (aq st).names).all (fun y=>decide ((aq st).names.lookup y=some .free))&&
 decide (fn.ps=3+(bZ (aq st).names).length)&&decide (fn.ns=N.length)&&eA (cH st) (eV b)&&ju {cf with wk:=false,ci:=fun _ _=>false} (aq st).names N fn.body (bR st)
def zl(cf:Cfg)(dP:List (Nat×List Str×Bool×Tw.Fn))(f:Nat)(st:Stmt):Bool:=match dP.lookup f with
 |some (N,b,fn)=>zg cf st N b fn
 |none=>false
noncomputable def iP(K:W.Frag)(mg:Str->Option Value)(g:Addr):Fk->Prop
 |.fn x=>mg x=some (.ref g)
 |.me c m=>∃A,mg ⟨c.toArray⟩=some (.ref A)/\GoodC K A/\(m=cS->Mk K A g)/\(m≠cS->Meth K A ⟨m.toArray⟩ g)
 |.dP=>False
def Rw(K:W.Frag)(mg:Str->Option Value)(tb:List jH)(q:Str)(fd:FuncData):Prop:=
 (∃c P,fd.code=.ref c/\(∀h:Heap,K.In h->W.CodeHd h c P)/\⟨P,q++ ".<locals>." ++ "answer"⟩∈tb/\(∀t∈tb,t.P=P->t.q=q++ ".<locals>." ++ "answer"))/\
 ∃bm ob,mg "__builtins__" = some (.ref bm)/\bm≠builtinsNs/\bm≠mainGlobals/\K.lookup bm=some ob/\ob.cls=.type "module" /\ob.dict=some builtinsNs/\ob.data=.plain
structure iN(K:W.Frag)(mg:Str->Option Value)(tb:List jH)(d:bg)(g:Addr)(fd:FuncData):Prop where
 F:Bv K d.name d.qual d.st g fd
 m:iP K mg g d.key
 b:∀us:List Value,us.length=d.ps.length->bindArgs fd ⟨us,[]⟩=pure (d.ps.zip us)
 w:d.wk=true->Rw K mg tb d.qual fd
def kE(K:W.Frag)(mg:Str->Option Value)(x:Str)(w:Tw.W):Prop:=∃v u,mg x=some u/\RelV v u/\∀ι n H,RW K ι n H w v
def lN(K:W.Frag)(mg:Str->Option Value)(x:Str)(g:List (Tw.S×Int)):Prop:=∃t,mg x=some (.ref t)/\lK K t g
structure oW(K:W.Frag)(mg:Str->Option Value)(c:Tw.S)(fs:List Tw.S):Prop where
 ex:∃C,mg (str c)=some (.ref C)/\fs=[]/\AF K C
section
variable {P:Program}{w:World}{K:W.Frag}{mg:Str->Option Value}{base:Heap}{cf:Cfg}{C:Tw.Or}
theorem Bv.Rq{x qual:Str}{st:Stmt}{f:Addr}{fd:FuncData}{N ps:List Str}{k:Nat}{sp:Sp}{cl:eM}(F:Bv K x qual st f fd)(S:oE N ps (aq st))(len:∀vs H Q E,sp vs H Q E->vs.length=ps.length)
  (hb:∀(A:Around)(outer:List Env)(s:Shared)(H:L2.Hp)(vs:List V)(Q:VK)(E:XK),cq k (A.deeper (envOfC qual (aq st) s.heap.objs.size f fd.code))->sp vs H Q E->
   ∃t,dE (rL (bX P w) P w K mg base N qual (aq st) f fd.code A outer s H E cl) (bR st) t/\t {nx:=fun _ H'=>Q .ah H',rt:=Q} (start N vs) H):bF P w K mg base (bX P w) (k+1) f fd ps sp:=by
 obtain⟨oc,od,kV,doc,pm,an,cdv,ct,osl,rfl,lk,hcd⟩:=F.ex;exact MY lk hcd S len fun A outer s H vs Q E hr hsp=>hb A outer s H vs Q E hr hsp
theorem uK{K:Zk}{ι:Nat->Addr}{h:Tw.Hp}{H:L2.Hp}{ws:List Tw.W}{vs:List V}{N:List Str}(r:HR K ι h H)(rw':aL K.K ι h.length H ws vs)(hl:vs.length<=N.length):
  At K ι h H (ws.map some++List.replicate (N.length-ws.length) none) (start N vs):=by
 refine⟨r,?_,fun i w e=>?_⟩
 .unfold L2.start;simp only[kQ,iG,Dz,rw'.length]
 .have hi:i<ws.length:=by
   by_cases hi:i<ws.length
   .exact hi
   .rw[lQ (by simpa using hi),zd] at e;split at e<;>cases e
  rw[e9 (by simpa using hi),kO] at e;cases e1:ws[i]? with
  |none=>rw[e1] at e;cases e
  |some u=>
   rw[e1] at e;cases e;obtain⟨v,g1,g2⟩:=rw'.get e1;refine⟨v,?_,g2⟩;unfold L2.start;rw[e9 (by rw[iG,<-rw'.length];exact hi),kO,g1];rfl
theorem B5{X:Cx}{E:XK}{sc:Scope}{N:List Str}(hP:X.prog=P)(hw:X.w=w)(hN:X.N=N)(hs:X.env.scope=sc)(h1:sc.kind=.function)(h4:N.Nodup)(hc:X.calm=true)(hu:X.A.units+950<cLine)
  (ex:X.ex=[]) (st:X.stack=X.env::X.outer) (fm:X.env.frame=some X.env.locals) (xe:X.xe=oS X E) (ps:Passes (bX P w) X E) (po:PassesOwn (model X.prog X.w) X.A X.env X.xe)
  (hr:cq k X.A) (hb:∀x∈cg,X.mg x=none) (num:∀x g,cf.nums.lookup x=some g->lN X.K X.mg x g)
  (mG:∀f c,cf.fns[f]?=some (.me c cS)->∃j g fd ps,k=j+1/\bF P w X.K X.mg X.base (bX P w) j g fd ps (cE X.K X.mg X.cl (C (f+1000)))/\iP X.K X.mg g (.me c cS)/\Binds X.K fd ps [])
  (own:∀f kk,cf.fns[f]?=some kk->kk≠.dP->∃g fd ps,bF P w X.K X.mg X.base (bX P w) k g fd ps (cE X.K X.mg X.cl (C f))/\iP X.K X.mg g kk/\W.keepIn X.K (.ref g)=true/\Binds X.K fd ps [])
  (jb:∀i c,X.cl.fs i=some c->∃fd ps,bF P w X.K X.mg X.base (bX P w) k c.g fd ps (vm X.K X.mg X.cl c (C c.f))/\Binds X.K fd ps []/\∃oc od sl,X.base.get? c.g=some ⟨oc,od,.func fd,sl⟩)
   (con:∀x w,cf.cons.lookup x=some w->kE X.K X.mg x w) (err:∀c fs,cf.cT.lookup c=some fs->oW X.K X.mg c fs) (xf:pY X.K X.mg cf) (hdf:cf.hd=false) (hk2:2<=k)
  (fn:∀x,eI sc.names x=true->X.fn x=true\/X.env.scope.names.lookup x=some .local) (wk:cf.wk=true->Nm cf C (bX P w) X):kL cf C (bX P w) E sc.names N X:=by
 subst hP hw;refine⟨⟨fun _=>hc,hu,fun f x e=>?_,fun f c m e ne=>?_,fun f c e=>?_,num,con,hb,xf,ps,bX.never,fun _ i c e=>?_⟩,⟨hN,by rw[hs];exact h1,fun x hx=>?_,fun x hx=>?_,fun x hx=>?_⟩,by rw[hs],h4,fn,po,?_,ex,st,fm,xe,rfl,fun c fs e=>?_,hdf,wk⟩
 .obtain⟨g',fd',ps',z1,z2,z3,z4⟩:=own f (.fn x) e (fun z=>nomatch z);exact⟨k,g',fd',ps',z1,hr,z2,z3,z4⟩
 .obtain⟨g',fd',ps',z1,⟨A',y1,y2,_,y4⟩,z3,z4⟩:=own f (.me c m) e (fun z=>nomatch z);exact⟨k,g',fd',ps',A',z1,hr,y1,y2,y4 ne,z4⟩
 .obtain⟨j,g',fd',ps',ek,z1,⟨A',y1,y2,y3,_⟩,z4⟩:=mG f c e;exact⟨j,g',fd',ps',A',z1,by rw[<-ek];exact hr,y1,y2,y3 rfl,z4⟩
 .obtain⟨fd',ps',z1,z2,z3⟩:=jb i c e;exact⟨k,fd',ps',z1,hr,z2,z3⟩
 .show m8 X.env.scope x;rw[hs];unfold rS at hx;cases e:sc.names.lookup x with
  |none=>rw[e] at hx;exact no hx
  |some k=>
   rw[e] at hx;cases k with
   | «local» => exact .inl e
   |cell=>exact .inr (.inl e)
   |free=>exact .inr (.inr e)
   |_=>exact no hx
 .show X.env.scope.names.lookup x=some .globalImplicit;rw[hs];unfold fk at hx;cases e:sc.names.lookup x with
  |none=>rw[e] at hx;exact no hx
  |some k=>
   rw[e] at hx;cases k with
   |globalImplicit=>rfl
   |_=>exact no hx
 .show X.env.scope.names.lookup x=some .cell\/X.env.scope.names.lookup x=some .free;rw[hs];unfold Eb at hx;cases e:sc.names.lookup x with
  |none=>rw[e] at hx;exact no hx
  |some k=>
   rw[e] at hx;cases k with
   |cell=>exact .inl rfl
   |free=>exact .inr rfl
   |_=>exact no hx
 .unfold Env.blockKind;rw[hs,h1];exact ite_self _
 .exact (err c fs e).ex
theorem HY{α:Type}{l:List α}{i:Nat}{x:α}(e:l[i]?=some x):i<l.length:=(fH.mp e).1
theorem kD{K:W.Frag}{ι:Nat->Addr}{h:Tw.Hp}{H:L2.Hp}{cl:eM}{E:XK}{fn:Tw.Fn}{ws:List Tw.W}(p:ak ⟨K,mg,E,cl⟩ RE ι h H (Tw.dZ C fn ws h) Q):
  ws.length=fn.ps/\bB ⟨K,mg,E,cl⟩ ι h H (Tw.aF C fn.body (ws.map some++List.replicate (fn.ns-fn.ps) none) h) {nx:=fun _ H'=>Q .ah H',rt:=Q}:=by
 unfold Tw.dZ at p;by_cases c:ws.length=fn.ps
 .rw[if_pos c] at p;refine⟨c,?_⟩;cases e:Tw.aF C fn.body (ws.map some++List.replicate (fn.ns-fn.ps) none) h with
  |bad=>rw[e] at p;exact p.elim
  |aI=>rw[e] at p;exact p
  |ok fl h'=>
   rw[e] at p;cases fl with
   |next ρ=>exact fun ι' H' σ' ex a=>p ι' H' .ah ex a.hr .ah
   |ret u=>exact p
   |brk ρ=>exact p.elim
   |cont ρ=>exact p.elim
 .rw[if_neg c] at p;exact p.elim
theorem MX{tb:List jH}{cl:eM}(htb:cl.tb=tb)(D:iN K mg tb d g fd)(h:uy cf d fn=true)(hb:∀x∈cg,mg x=none)(cb:CB cf.ci base cl)
  (own:∀f kk,cf.fns[f]?=some kk->kk≠.dP->∃g fd ps,(∀base cl,cl.tb=tb->CB cf.ci base cl->bF P w K mg base (bX P w) k g fd ps (cE K mg cl (C f)))/\iP K mg g kk/\W.keepIn K (.ref g)=true/\Binds K fd ps [])
  (jb:∀i c,cl.fs i=some c->∃fd ps,bF P w K mg base (bX P w) k c.g fd ps (vm K mg cl c (C c.f))/\Binds K fd ps []/\∃oc od sl,base.get? c.g=some ⟨oc,od,.func fd,sl⟩)
   (con:∀x w,cf.cons.lookup x=some w->kE K mg x w) (num:∀x g,cf.nums.lookup x=some g->lN K mg x g) (mG:∀f c,cf.fns[f]?=some (.me c cS)->∃j g fd ps,k=j+1/\bF P w K mg base (bX P w) j g fd ps (cE K mg cl (C (f+1000)))/\iP K mg g (.me c cS)/\Binds K fd ps []) (err:∀c fs,cf.cT.lookup c=some fs->oW K mg c fs) (xf:pY K mg cf) (hdf:cf.hd=false) (hk2:2<=k):
  bF P w K mg base (bX P w) (k+1) g fd d.ps (cE K mg cl (Tw.dZ C fn)):=by
 unfold uy at h;simp only[ao,ax,gZ,jP] at h;obtain⟨⟨⟨⟨⟨⟨⟨⟨⟨h1,h2⟩,h3⟩,h4⟩,h5⟩,h6⟩,h7⟩,h8⟩,h9⟩,h10⟩:=h;have S:oE d.N d.ps (aq d.st):=⟨h1,h2,h3,h4,h5,fun x hx=>by
  have z:=h6 x hx;unfold eI at z;cases e:(aq d.st).names.lookup x with
  |none=>rw[e] at z;exact no z
  |some k=>
   rw[e] at z;cases k with
   | «local» => exact .inl rfl
   |cell=>exact .inr rfl
   |_=>exact no z,h7⟩
 have hpl:d.ps.length<=d.N.length:=by have:=cR List.length h5;rw[nO] at this;lia
 have len:∀vs H Q E,cE K mg cl (Tw.dZ C fn) vs H Q E->vs.length=d.ps.length:=fun vs H Q E ⟨ws,h,ι,hr,rr,p⟩=>by
  rw[<-rr.length,(kD p).1,h8]
 refine Bv.Rq (cl:=cl) D.F S len fun A outer s H vs Q E hr hsp=>⟨cN ⟨K,mg,E,cl⟩ (Tw.aF C fn.body),?_,?_⟩
 .refine kC (cf:={cf with wk:=d.wk}) (B5 (k:=k) (N:=d.N) rfl rfl rfl rfl h1 h4 rfl (by have:=hr.un;show (A.deeper (envOfC d.qual (aq d.st) s.heap.objs.size g fd.code)).units+950<cLine;lia) rfl rfl rfl rfl (EA rfl rfl rfl rfl) PassesOwn.leaving hr hb num mG (fun f kk e ne=>?_) jb con err ⟨xf.exc,xf.ij,xf.nE⟩ hdf hk2 (fun _ _=>.inl rfl) fun hw=>?_) fn.body h10
  .obtain⟨g',fd',ps',z1,z2⟩:=own f kk e ne;exact⟨g',fd',ps',z1 base cl htb cb,z2⟩
  .obtain⟨⟨c,P',w1,w2,w3,w4⟩,w5⟩:=D.w hw;refine⟨⟨⟨c,P',w1,w2,by rw[<-htb] at w3;exact w3,by rw[<-htb] at w4;exact w4⟩,w5⟩,fun _=>rfl,cb,fun f x e=>?_⟩;obtain⟨g',fd',ps',z1,z2,z3,z4⟩:=own f (.fn x) e (fun z=>nomatch z);exact⟨k,g',fd',ps',fun b' cl' e'=>z1 b' cl' (e'.trans htb),hr,z2,z3,z4⟩
 .obtain⟨ws,h,ι,hr',rr,p⟩:=hsp;obtain⟨c,p⟩:=kD p;refine⟨_,h,ι,uK (K:=⟨K,mg,E,cl⟩) (N:=d.N) hr' rr (by rw[<-rr.length,c,h8];exact hpl),?_⟩;rw[show d.N.length-ws.length=fn.ns-fn.ps by rw[h9,c]];exact p
noncomputable def xY(CX:fj)(P:Program)(w:World)(K:W.Frag)(mg:Str->Option Value)(base:Heap)(N:List Str)(qual:Str)(scope:Scope)(f:Addr)(cd:Value)(clos:List (Str×Addr))(A:Around)(outer:List Env)(s:Shared)(H:L2.Hp)(E:XK)(cl:eM):Cx where
 prog:=P
 w:=w
 K:=K
 mg:=mg
 base:=base
 A:=A.deeper (W.envX qual scope s.heap.objs.size f cd clos)
 N:=N
 aG:=s
 jW:=H
 env:=W.envX qual scope s.heap.objs.size f cd clos
 outer:=outer
 stack:=W.envX qual scope s.heap.objs.size f cd clos::outer
 ex:=[]
 calm:=true
 fn:=fun _=>false
 pn:=[]
 xe:=fun e s'=>wpAny (model P w) (A.deeper (W.envX qual scope s.heap.objs.size f cd clos)) (leaving (W.envX qual scope s.heap.objs.size f cd clos) e) (fun _ s''=>CX outer H s E e s'') (fun e' s''=>CX outer H s E e' s'') s'
 cl:=cl
theorem D6{names:List (Str×NameKind)}(h:names.lookup y=some .free):y∈bZ names:=
 nQ.mpr ⟨(y,.free),r9.mpr ⟨gX h,rfl⟩,rfl⟩
theorem Af{CX:fj}{N:List Str}{qual:Str}{scope:Scope}{f:Addr}{cd:Value}{clos:List (Str×Addr)}{A:Around}{outer:List Env}{s:Shared}{H:L2.Hp}{E:XK}{us:List Value}{vs kvs:List V}{cl:eM}{b:Bool}{h₀:Heap}{tk:Nat}
  (h1:scope.kind=.function) (h5:N.take 3=eV b) (h6:∀x∈eV b,scope.names.lookup x=some .local) (h7:∀y∈scope.names,y.2≠.cell) (h8:(N.drop 3).take (bZ scope.names).length=bZ scope.names) (h9:∀y∈bZ scope.names,scope.names.lookup y=some .free)
  (hd:A.handled=none) (e0:ml P w K mg base A outer s H) (hl:vs.length=3) (r:Vals vs us) (kk:Kept base scope.names clos kvs) (hns:h₀.Ns s.heap.objs.size (fun x=>((eV b).zip us).reverse.lookup x)) (hk:∀b o,s.heap.get? b=some o->h₀.get? b=some o):
  Inv (xY CX P w K mg base N qual scope f cd clos A outer s H E cl) [] (start N (vs++kvs)) H {s with heap:=h₀,toks:=tk}:=by
 have noA:∀b:Addr,b∉(xY CX P w K mg base N qual scope f cd clos A outer s H E cl).ex:=fun b z=>absurd (show b∈([]:List Addr) from z) (by simp);have one:∀{x:Str}{c:Addr},clos.lookup x=some c->∃y a u v,clos=[(y,a)]/\kvs=[v]/\x=y/\c=a/\base.IsCell a (some u)/\RelV v u/\bZ scope.names=[y]:=fun {x c} e=>by
  rcases kk with ⟨rfl,_,_⟩|⟨y,a,u,v,rfl,rfl,hc,rv,hf⟩
  .cases e
  .rw[di] at e;cases hb:x== y with
   |true=>rw[hb] at e;cases e;exact⟨y,_,u,v,rfl,rfl,eq_of_beq hb,rfl,hc,rv,hf⟩
   |false=>rw[hb] at e;cases e
 have kl:kvs.length=(bZ scope.names).length:=by rcases kk with ⟨_,rfl,e⟩|⟨y,a,u,v,_,rfl,_,_,e⟩<;>rw[e]<;>rfl
 have hNl:3+kvs.length<=N.length:=by
  have z:=cR List.length h8;rw[nO,zW] at z;have z3:=cR List.length h5;rw[nO] at z3;have:(eV b).length=3:=rfl
  lia
 refine⟨⟨e0.mod,h1,rfl,rfl,aA _,fun y z c e1 e2=>?_,fun y hy=>?_,fun y c hf _=>absurd (show false=true from hf) j0,fun _=>hd,Around.frames_deeper e0.frames,.inr ⟨rfl,rfl⟩,fun b z=>absurd z (noA b),e0.bs,e0.lC,fun b _ _=>noA b,fun b z=>absurd z (noA b),e0.fK,e0.nF⟩,
  rfl,e0.bare,Un.kept hk,⟨_,hns,fun i y v e1 e2 e3=>?_⟩,fun y c e=>?_,e0.av.fresh (aA _),fun y c e=>?_,fun p hp=>absurd (show p∈([]:aE) from hp) (by simp),e0.av.kept hk,?_⟩
 .obtain⟨y1,a1,_,_,q1,_,rfl,_⟩:=one (show clos.lookup y=some c from e1);obtain⟨y2,a2,_,_,q2,_,rfl,_⟩:=one (show clos.lookup z=some c from e2);rw[q1] at q2;cases q2;rfl
 .have hy:scope.names.lookup y=some .cell\/scope.names.lookup y=some .free:=hy;rcases hy with hy|hy
  .exact absurd rfl (h7 _ (gX hy))
  .have hm:=D6 hy;rcases kk with ⟨_,_,e⟩|⟨y',a,u,v,e1,_,_,_,e⟩
   .rw[e] at hm;cases hm
   .rw[e] at hm;obtain rfl:=kJ.mp hm;exact⟨a,by show clos.lookup y=some a;rw[e1];simp⟩
 .unfold L2.start at e2;have hi:i<(vs++kvs).length:=by
   by_cases hi:i<(vs++kvs).length
   .exact hi
   .rw[lQ (by simpa using hi),zd] at e2;split at e2<;>cases e2
  rw[e9 (by simpa using hi),kO] at e2;have ha:(vs++kvs)[i]?=some v:=by
   cases e:(vs++kvs)[i]? with
   |none=>rw[e] at e2;cases e2
   |some a=>rw[e] at e2;cases e2;rfl
  have e1:N[i]?=some y:=e1;by_cases hi3:i<3
  .rw[e9 (by lia)] at ha;obtain⟨u,hu,rv⟩:=r.get ha;have hp:(eV b)[i]?=some y:=by rw[<-h5,DV hi3];exact e1
   refine⟨u,rv,.inl ⟨h6 y (vc hp),?_⟩⟩;have hu3:us.length=3:=by rw[<-r.length];exact hl
   match us,hu3 with
   |[u1,u2,u3],_=>
    match i,hi3 with
    |0,_=>cases hu;cases hp;cases b<;>rfl
    |1,_=>cases hu;cases hp;cases b<;>rfl
    |2,_=>cases hu;cases hp;cases b<;>rfl
  .rw[lQ (by lia)] at ha;have hj:i-vs.length=i-3:=by rw[hl]
   rw[hj] at ha;rcases kk with ⟨_,rfl,_⟩|⟨y',a,u,v',e4,rfl,⟨o,ho,hod⟩,rv,e5⟩
   .cases ha
   .have h0:i-3=0:=by
     have:=HY ha;simp at this;lia
    rw[h0] at ha;cases ha;have hy:y=y':=by
     have z:((N.drop 3).take 1)[0]?=some y':=by have q:=h8;rw[e5] at q;rw[show (1:Nat)=([y']:List Str).length from rfl,q];rfl
     rw[DV (by decide),List.getElem?_drop] at z;have:3+0=i:=by lia
     rw[this,e1] at z;cases z;rfl
    subst hy;refine⟨u,rv,.inr ⟨.inr (h9 y (by rw[e5];exact .head _)),a,?_,o,hk _ _ (e0.bs a o ho).1,hod⟩⟩;show clos.lookup y=some a;rw[e4];simp
 .obtain⟨y1,a1,u,_,_,_,_,rfl,⟨o,ho,hod⟩,_⟩:=one (show clos.lookup y=some c from e);exact⟨_,o,hk _ _ (e0.bs _ o ho).1,hod⟩
 .obtain⟨y1,a1,u,_,_,_,_,rfl,⟨o,ho,hod⟩,_⟩:=one (show clos.lookup y=some c from e);exact (e0.bs _ o ho).2
 .unfold L2.start;show _=N.length;rw[kQ,iG,Dz,kQ,hl]
  lia
theorem Ih{cl:eM}{c:m5}{st:Stmt}{b:Bool}(B:uq base st c)(h:zg cf st N b fn=true)(hb:∀x∈cg,mg x=none)
  (own:∀f kk,cf.fns[f]?=some kk->kk≠.dP->∃g fd ps,bF P w K mg base (bX P w) k g fd ps (cE K mg cl (C f))/\iP K mg g kk/\W.keepIn K (.ref g)=true/\Binds K fd ps [])
  (jb:∀i c,cl.fs i=some c->∃fd ps,bF P w K mg base (bX P w) k c.g fd ps (vm K mg cl c (C c.f))/\Binds K fd ps []/\∃oc od sl,base.get? c.g=some ⟨oc,od,.func fd,sl⟩)
   (con:∀x w,cf.cons.lookup x=some w->kE K mg x w) (num:∀x g,cf.nums.lookup x=some g->lN K mg x g) (mG:∀f c,cf.fns[f]?=some (.me c cS)->∃j g fd ps,k=j+1/\bF P w K mg base (bX P w) j g fd ps (cE K mg cl (C (f+1000)))/\iP K mg g (.me c cS)/\Binds K fd ps []) (err:∀c fs,cf.cT.lookup c=some fs->oW K mg c fs) (xf:pY K mg cf) (hdf:cf.hd=false) (hk2:2<=k):
  ∃fd ps,bF P w K mg base (bX P w) (k+1) c.g fd ps (vm K mg cl c (Tw.dZ C fn))/\Binds K fd ps []/\∃oc od sl,base.get? c.g=some ⟨oc,od,.func fd,sl⟩:=by
 unfold zg at h;simp only[ao,ax,gZ,jP] at h;obtain⟨⟨⟨⟨⟨⟨⟨⟨⟨⟨⟨⟨h1,h2⟩,h3⟩,h4⟩,h5⟩,h6⟩,h7⟩,h8⟩,h9⟩,h10⟩,h11⟩,h12⟩,h13⟩:=h;obtain⟨_,doc,pm,ctv,clos,_,eg,kk⟩:=B;have kl:c.vs.length=(bZ (aq st).names).length:=by rcases kk with ⟨_,e1,e⟩|⟨y,a,u,v,_,e1,_,_,e⟩<;>rw[e,e1]<;>rfl
 have p3:(eV b).length=3:=rfl;have hNl:fn.ps<=N.length:=by
  have z:=cR List.length h8;rw[nO,zW] at z;have z3:=cR List.length h5;rw[nO] at z3
  lia
 have len:∀vs H Q E,vm K mg cl c (Tw.dZ C fn) vs H Q E->vs.length=(eV b).length:=fun vs H Q E ⟨_,ws,h,ι,hr,rr,p⟩=>by
  have z:=rr.length;rw[(kD p).1,h10,kQ] at z
  lia
 refine⟨_,eV b,⟨len,fun A outer s H args us vs Q E hr e0 hbd r hsp=>?_⟩,.all (Ez b h12),_,_,_,eg⟩;have lim:s.heap.NoLimit:=e0.mod.nolimit.keeps fun b o e=>(e0.bs b o e).1;have hl:=len _ _ _ _ hsp;obtain⟨⟨oc,cvs,ct,hcd,hcdd,hcv⟩,ws,h,ι,hr',rr,p⟩:=hsp;obtain⟨hcg,_⟩:=e0.av _ _ hcd;refine codeAny_call_def hr.depth (e0.bs _ _ eg).1 rfl lim ⟨_,oc,cvs,ct,rfl,hcg,hcdd,hcv⟩ rfl hbd h7 (fun y hy=>h6 _ (Aq hy).1) (fun h₀ hns hk₀=>?_) h2 h3 h1;have I:Inv (xY (bX P w) P w K mg base N c.q (aq st) c.g (.ref c.cd) clos A outer s H E cl) [] (start N (vs++c.vs)) H {s with heap:=h₀,toks:=s.toks+((eV b).zip us).length}:=Af h1 h5 h6 h7 h8 h9 hr.hd e0 hl r kk hns hk₀;have R:kL {cf with wk:=false,ci:=fun _ _=>false} C (bX P w) E (aq st).names N (xY (bX P w) P w K mg base N c.q (aq st) c.g (.ref c.cd) clos A outer s H E cl):=by
  have hr2:cq k (xY (bX P w) P w K mg base N c.q (aq st) c.g (.ref c.cd) clos A outer s H E cl).A:=hr.deeper _;refine B5 (k:=k) (N:=N) rfl rfl rfl rfl h1 h4 rfl (by have:=hr2.un;lia) rfl rfl rfl rfl (EA rfl rfl rfl rfl) PassesOwn.leaving hr2 hb num mG own jb con err ⟨xf.exc,xf.ij,xf.nE⟩ hdf hk2 (fun x hx=>.inr ?_) fun z=>nomatch z;unfold eI at hx;show (aq st).names.lookup x=some .local;cases e:(aq st).names.lookup x with
  |none=>rw[e] at hx;exact no hx
  |some k=>
   rw[e] at hx;cases k with
   | «local» => rfl
   |cell=>exact absurd rfl (h7 _ (gX e))
   |_=>exact no hx
 obtain⟨c1,p⟩:=kD p;have at0:At ⟨K,mg,E,cl⟩ ι h H (ws.map some++List.replicate (fn.ns-fn.ps) none) (start N (vs++c.vs)):=by have z:=uK (K:=⟨K,mg,E,cl⟩) (N:=N) hr' rr (by rw[<-rr.length,c1];exact hNl);rw[show N.length-ws.length=fn.ns-fn.ps by rw[h11,c1]] at z;exact z
 refine iK (kC R fn.body h13 [] _ (start N (vs++c.vs)) H {nx:=fun _ H'=>Q .ah H',rt:=Q} I ⟨_,h,ι,at0,p⟩) (fun fl s' hs=>?_) fun e s' hs=>hs;have fin:∀{σ':L2.St}{H':L2.Hp}{v:V}{u:Value},Inv (xY (bX P w) P w K mg base N c.q (aq st) c.g (.ref c.cd) clos A outer s H E cl) [] σ' H' s'->RelV v u->Q v H'->CE outer P w H s Q u s':=
  fun {σ' H' v u} J rv q=>⟨v,H',J.os,J.bare,J.base,J.av,rv,q⟩
 cases fl with
 |ret u=>
  obtain⟨v,σ',H',J,rv,q⟩:=hs;exact fin J rv q
 |next=>
  obtain⟨σ',H',J,q⟩:=hs;exact fin (v:=V.ah) (u:=Value.none) J rfl q
 |brk=>
  obtain⟨_,_,_,q⟩:=hs;exact False.elim q
 |cont=>
  obtain⟨_,_,_,q⟩:=hs;exact False.elim q
def ka(cf:Cfg):List bg->List Tw.Fn->Bool
 |[],[]=>true
 |d::ds,f::fs=>(d.key== .dP || uy cf d f)&&ka cf ds fs
 |_,_=>false
theorem tD:∀{ds:List bg}{fs:List Tw.Fn},ka cf ds fs=true->∀{i:Nat}{d:bg},ds[i]?=some d->∃f,fs[i]?=some f/\(d.key== .dP || uy cf d f)=true
 |[],[],_,i,d,e=>by simp at e
 |[],_::_,h,_,_,_=>by exact no h
 |_::_,[],h,_,_,_=>by exact no h
 |a::ds,f::fs,h,0,d,e=>by
  rw[ka,ao] at h;simp at e;subst e;exact⟨f,rfl,h.1⟩
 |a::ds,f::fs,h,i+1,d,e=>by
  rw[ka,ao] at h;obtain⟨f',z1,z2⟩:=tD h.2 (i:=i) (d:=d) (by simpa using e);exact⟨f',by simpa using z1,z2⟩
theorem F0{dP:List (Nat×List Str×Bool×Tw.Fn)}{tb:List jH}(hTl:T.length<=1000)(hN:∀x g,cf.nums.lookup x=some g->lN K mg x g)(hcf:cf.hd=false)(hci:cf.ci=zl cf dP)(hfn:cf.fns=Ds.map (·.key))(h:ka cf Ds T=true)(hI:∀f N b fn,dP.lookup f=some (N,b,fn)->T[f]?=some fn)
  (hD:∀d∈Ds,d.key≠.dP->∃g fd,iN K mg tb d g fd) (hb:∀x∈cg,mg x=none)
   (hC:∀x w,cf.cons.lookup x=some w->kE K mg x w) (hE:∀c fs,cf.cT.lookup c=some fs->oW K mg c fs) (hX:pY K mg cf):
  ∀(k:Nat)(base:Heap)(cl:eM),cl.tb=tb->CB cf.ci base cl->(∀(i:Nat)(d:bg),Ds[i]?=some d->∀g fd,iN K mg tb d g fd->bF P w K mg base (bX P w) (k+4) g fd d.ps (cE K mg cl (Tw.run T k i))/\bF P w K mg base (bX P w) (k+3) g fd d.ps (cE K mg cl (Tw.run T k (i+1000))))/\
   ∀i c,cl.fs i=some c->∃fd ps,bF P w K mg base (bX P w) (k+4) c.g fd ps (vm K mg cl c (Tw.run T k c.f))/\Binds K fd ps []/\∃oc od sl,base.get? c.g=some ⟨oc,od,.func fd,sl⟩:=by
 have inn_of:∀{d:bg}{g:Addr}{fd:FuncData},iN K mg tb d g fd->d.key≠.dP:=fun D z=>by
  have:=D.m;rw[z] at this;exact this
 intro k
 induction k with
 |zero=>
  intro base cl htb cb;have bad:∀i vs H Q E,¬ cE K mg cl (Tw.run T 0 i) vs H Q E:=fun i vs H Q E ⟨ws,h,ι,hr,rr,p⟩=>p.elim;refine⟨fun i d e g fd D=>⟨⟨fun vs H Q E q=>(bad i vs H Q E q).elim,fun A outer s H args us vs Q E _ _ _ _ q=>(bad i vs H Q E q).elim⟩,⟨fun vs H Q E q=>(bad (i+1000) vs H Q E q).elim,fun A outer s H args us vs Q E _ _ _ _ q=>(bad (i+1000) vs H Q E q).elim⟩⟩,fun i c e=>?_⟩;obtain⟨st,h1,b,doc,pm,ctv,clos,hp,eg,_⟩:=cb i c e;exact⟨_,eV b,⟨fun vs H Q E q=>(bad _ _ _ _ _ q.2).elim,fun A outer s H args us vs Q E _ _ _ _ q=>(bad _ _ _ _ _ q.2).elim⟩,.all (Ez b hp),_,_,_,eg⟩
 |succ k ih=>
  intro base cl htb cb;have er:∀{i:Nat}{f:Tw.Fn},T[i]?=some f->Tw.run T (k+1) i=Tw.dZ (Tw.run T k) f:=fun {i f} z1=>by
   funext xs hh;show (match T[i]? with|some fn=>Tw.dZ (Tw.run T k) fn xs hh|none=>Tw.run T k (i-1000) xs hh)=_;rw[z1]
  have own:∀f kk,cf.fns[f]?=some kk->kk≠.dP->∃g fd ps,(∀base cl,cl.tb=tb->CB cf.ci base cl->bF P w K mg base (bX P w) (k+4) g fd ps (cE K mg cl (Tw.run T k f)))/\iP K mg g kk/\W.keepIn K (.ref g)=true/\Binds K fd ps []:=fun j x ex ne=>by
   rw[hfn,kO] at ex;cases ed:Ds[j]? with
   |none=>rw[ed] at ex;cases ex
   |some d'=>
    rw[ed] at ex;cases ex;obtain⟨g',fd',D'⟩:=hD d' (vc ed) ne;exact⟨g',fd',d'.ps,fun b' cl' h1 h2=>((ih b' cl' h1 h2).1 j d' ed g' fd' D').1,D'.m,D'.F.kp,.all D'.b⟩
  have own0:∀f kk,cf.fns[f]?=some kk->kk≠.dP->∃g fd ps,bF P w K mg base (bX P w) (k+4) g fd ps (cE K mg cl (Tw.run T k f))/\iP K mg g kk/\W.keepIn K (.ref g)=true/\Binds K fd ps []:=fun j x ex ne=>
   let ⟨g,fd,ps,z1,z2⟩:=own j x ex ne;⟨g,fd,ps,z1 base cl htb cb,z2⟩
  have mG:∀f c,cf.fns[f]?=some (.me c cS)->∃j g fd ps,k+4=j+1/\bF P w K mg base (bX P w) j g fd ps (cE K mg cl (Tw.run T k (f+1000)))/\iP K mg g (.me c cS)/\Binds K fd ps []:=fun j c ex=>by
   rw[hfn,kO] at ex;cases ed:Ds[j]? with
   |none=>rw[ed] at ex;cases ex
   |some d'=>
    rw[ed] at ex;have ek:d'.key=.me c cS:=j1 ex;obtain⟨g',fd',D'⟩:=hD d' (vc ed) (by rw[ek];exact fun z=>nomatch z);exact⟨k+3,g',fd',d'.ps,rfl,((ih base cl htb cb).1 j d' ed g' fd' D').2,by rw[<-ek];exact D'.m,.all D'.b⟩
  have jb:=(ih base cl htb cb).2;have er2:∀i,Tw.run T (k+1) (i+1000)=Tw.run T k i:=fun i=>by
   funext xs hh;show (match T[i+1000]? with|some fn=>Tw.dZ (Tw.run T k) fn xs hh|none=>Tw.run T k (i+1000-1000) xs hh)=_;rw[uO (by lia),zj]
  refine⟨fun i d e g fd D=>⟨?_,by rw[er2];exact ((ih base cl htb cb).1 i d e g fd D).1⟩,fun i c e=>?_⟩
  .rw[show k+1+4=(k+4)+1 by lia];obtain⟨f,z1,z2⟩:=tD h e;rw[er z1];have z2:uy cf d f=true:=by
    rcases Bool.or_eq_true_iff.mp z2 with z|z
    .exact absurd (eq_of_beq z) (inn_of D)
    .exact z
   exact MX htb D z2 hb cb own jb hC hN mG hE hX hcf (by lia)
  .rw[show k+1+4=(k+4)+1 by lia];obtain⟨st,h1,B⟩:=cb i c e;rw[hci] at h1;unfold zl at h1;cases el:dP.lookup c.f with
   |none=>rw[el] at h1;exact no h1
   |some r=>
    obtain⟨N,b,fn⟩:=r;rw[el] at h1;rw[er (hI _ _ _ _ el)];exact Ih B h1 hb own0 jb hC hN mG hE hX hcf (by lia)
end
end TwS
namespace TwS
open PySem PySem.W PyProof.Rows
noncomputable def o6(bt:String->Option Builtin)(p:Program)(w:World)(low:Nat)(nt:Option Value):Nat->SharedT->Thread->Option SharedT
 |0,_,_=>none
 |n+1,s,t=>match through t with
  |true=>some s
  |false=>match stepOk low nt t with
   |false=>none
   |true=>match stepT (denote bt) p w s t with
    |some (s',t')=>o6 bt p w low nt n s' t'
    |none=>none
theorem yU{bt:String->Option Builtin}:∀{n:Nat}{s r:SharedT}{t:Thread},o6 bt p w low nt n s t=some r->topRun bt p w low nt n s.abs t=some r.abs:=by
 intro n
 induction n with
 |zero=>intro s r t h;cases h
 |succ n ih=>
  intro s r t h;rw[o6] at h;rw[topRun];cases a:through t with
  |true=>rw[a] at h;cases h;rfl
  |false=>
   rw[a] at h;cases b:stepOk low nt t with
   |false=>rw[b] at h;cases h
   |true=>
    rw[b] at h;cases c:stepT (denote bt) p w s t with
    |none=>rw[c] at h;cases h
    |some q=>
     obtain⟨s',t'⟩:=q;rw[c] at h;rw[stepT_spec c];exact ih h
noncomputable def grow:List Obj->BT->Nat->Option (BT×Nat)
 |[],t,n=>some (t,n)
 |o::l,t,n=>match ((t.ins n o).get n).isSome with
  |true=>grow l (t.ins n o) (n+1)
  |false=>none
theorem uN:∀{l:List Obj}{t t':BT}{n n':Nat}{xs:List Obj},(absHeap t n life).objs.toList=xs->grow l t n=some (t',n')->absHeap t' n' life=⟨(xs++l).toArray,life⟩
 |[],t,t',n,n',xs,e,h=>by
  cases h;subst e;show Heap.mk _ _=Heap.mk _ _;simp[absHeap]
 |o::l,t,t',n,n',xs,e,h=>by
  rw[grow] at h;cases c:((t.ins n o).get n).isSome with
  |false=>rw[c] at h;cases h
  |true=>
   rw[c] at h;have z:=uN (life:=life) (xs:=xs++[o]) (by rw[absHeap_ins (life:=life) c];exact (Array.toList_push (xs:=(absHeap t n life).objs) (x:=o)).trans (by rw[e])) h;rw[z,List.append_assoc];rfl
def oG{α:Type}(p:Program)(N:Nat)(F:Shared->α)(w:World):Option α:=(fencedOpening treeTable p w N).bind fun aG=>match aG.heap.isNs mainGlobals&&aG.gens.size== 0 with
 |false=>none
 |true=>(grow aG.heap.objs.toList .nil 0).bind fun T=>(o6 treeTable p w aG.heap.objs.size (aG.heap.nsMap mainGlobals "__annotations__") N ⟨T.1,T.2,aG.heap.life,aG.gens,aG.drawn,aG.toks,aG.os⟩ (topStub p)).bind fun s₁=>
  match staticsOk (importedModules p.main.body) aG.heap s₁.abs.heap&&namesBound p s₁.abs.heap&&gensDone s₁.abs&&laidKept aG.heap s₁.abs.heap with
   |true=>some (F s₁.abs)
   |false=>none
theorem ou{α:Type}{p:Program}{N:Nat}{F:Shared->α}{w:World}{r:α}(h:oG p N F w=some r):(openEnds treeTable p w N).map F=some r:=by
 unfold oG at h;unfold openEnds;cases a:fencedOpening treeTable p w N with
 |none=>rw[a] at h;cases h
 |some aG=>
  rw[a] at h;simp only[si] at h⊢;unfold topFrom;cases b:(aG.heap.isNs mainGlobals&&aG.gens.size== 0) with
  |false=>rw[b] at h;cases h
  |true=>
   rw[b] at h;dsimp only at h⊢;cases c:grow aG.heap.objs.toList .nil 0 with
   |none=>rw[c] at h;cases h
   |some T=>
    rw[c] at h;simp only[si] at h;obtain⟨s₁,e1,e2⟩:=kG.mp h;have z:=uN (life:=aG.heap.life) (xs:=[]) (by rfl) c;have e3:=yU e1;have ea:(⟨T.1,T.2,aG.heap.life,aG.gens,aG.drawn,aG.toks,aG.os⟩:SharedT).abs=aG:=by show Shared.mk _ _ _ _ _=_;rw[z];simp
    rw[ea] at e3;rw[e3];simp only[si];cases d:(staticsOk (importedModules p.main.body) aG.heap s₁.abs.heap&&namesBound p s₁.abs.heap&&gensDone s₁.abs&&laidKept aG.heap s₁.abs.heap) with
    |false=>rw[d] at e2;cases e2
    |true=>rw[d] at e2;cases e2;rfl
end TwS
namespace TwS
open PySem L2 PyProof.Rows
theorem a8{K:W.Frag}{tb:List jH}{h:Heap}{mg:Str->Option Value}{x:Str}{st:Stmt}{N ps:List Str}{f:Addr}{od an:Option Addr}{sl:Array (Option Value)}{oc kV dc pm cd ct:Value}(X:K.In h)(G:h.Ns mainGlobals mg)(l:K.lookup f=some ⟨oc,od,.func (W.fnOf x x (cH st) (bR st) (aq st) .none kV dc pm an cd ct),sl⟩)(b:∀(kV doc pm:Value)(an:Option Addr)(cdv ct:Value)(us:List Value),us.length=ps.length->bindArgs (W.fnOf x x (cH st) (bR st) (aq st) .none kV doc pm an cdv ct) ⟨us,[]⟩=pure (ps.zip us))(a:W.nsIn K mainGlobals x=some (some (.ref f)):=by kernel_rfl)(c:W.codeIn K cd x=true:=by kernel_rfl)(k:W.keepIn K (.ref f)=true:=by kernel_rfl):
  ∃g fd,iN K mg tb ⟨.fn x,x,x,st,N,ps,false⟩ g fd:=
 have F:=rB (st:=st) l c k
 ⟨f,_,F,jv X G a,fun us hl=>b _ _ _ _ _ _ us hl,fun z=>nomatch z⟩
theorem RQ{P:List Value->Prop}(h:P []):∀us:List Value,us.length=0->P us:=fun us hl=>by cases us with|nil=>exact h|cons _ _=>cases hl
theorem gP{P:List Value->Prop}(h:∀a0,P [a0]):∀us:List Value,us.length=1->P us:=fun us hl=>by cases us with|nil=>cases hl|cons a r=>exact RQ (P:=fun r=>P (a::r)) (h a) r (Ao hl)
theorem lj{P:List Value->Prop}(h:∀a0 a1,P [a0,a1]):∀us:List Value,us.length=2->P us:=fun us hl=>by cases us with|nil=>cases hl|cons a r=>exact gP (P:=fun r=>P (a::r)) (fun b0=>h a b0) r (Ao hl)
theorem mH{P:List Value->Prop}(h:∀a0 a1 a2,P [a0,a1,a2]):∀us:List Value,us.length=3->P us:=fun us hl=>by cases us with|nil=>cases hl|cons a r=>exact lj (P:=fun r=>P (a::r)) (fun b0 b1=>h a b0 b1) r (Ao hl)
theorem NR{P:List Value->Prop}(h:∀a0 a1 a2 a3,P [a0,a1,a2,a3]):∀us:List Value,us.length=4->P us:=fun us hl=>by cases us with|nil=>cases hl|cons a r=>exact mH (P:=fun r=>P (a::r)) (fun b0 b1 b2=>h a b0 b1 b2) r (Ao hl)
theorem vh{β:Type}{P:Str->β->Prop}:∀x g,([]:List (Str×β)).lookup x=some g->P x g:=fun _ _ e=>nomatch e
theorem eB{β:Type}{P:Str->β->Prop}{y:Str}{b:β}{r:List (Str×β)}(h:P y b)(k:∀x g,r.lookup x=some g->P x g):∀x g,((y,b)::r).lookup x=some g->P x g:=by
 intro x g e;rw[di] at e;cases c:x== y with
 |true=>rw[c] at e;cases e;rw[show x=y by simpa using c];exact h
 |false=>rw[c] at e;exact k x g e
def clsAt(s:Stmt)(j:Nat):Stmt:=match s with
 |.ClassDef _ _ _ b _ _ _ _ _ _ _=>b.getD j (.Pass ⟨0,0,0,0⟩)
 |s=>s
theorem xn{K:W.Frag}{C:Addr}(g1:W.plainGet K C Str.empty=true:=by kernel_rfl)(g2:W.hasDictIn K C=true:=by kernel_rfl)(g3:W.plainOver K C=true:=by kernel_rfl)(g4:W.findIn K (.ref C) "__setattr__" = some (some (.builtin "object.__setattr__")):=by kernel_rfl)(a4:W.findIn K (.ref C) "definitions" = some none:=by kernel_rfl)(a5:W.findIn K (.ref C) "numbers" = some none:=by kernel_rfl)(a6:W.findIn K (.ref C) "part" = some none:=by kernel_rfl)(a7:W.findIn K (.ref C) "around" = some none:=by kernel_rfl):GoodC K C:=by refine⟨⟨g1,g2,g3,g4⟩,?_⟩;unfold xU;simp only[uv];exact⟨a4,a5,a6,a7,fun _ h=>nomatch h⟩
theorem xS{K:W.Frag}{tb:List jH}{h:Heap}{mg:Str->Option Value}{cn:Tw.S}{qual:Str}{st:Stmt}{N ps:List Str}{C f:Addr}{od an:Option Addr}{sl:Array (Option Value)}{oc kV dc pm cd ct:Value}(X:K.In h)(G:h.Ns mainGlobals mg)(l:K.lookup f=some ⟨oc,od,.func (W.fnOf "__init__" qual (cH st) (bR st) (aq st) .none kV dc pm an cd ct),sl⟩)(g:GoodC K C)(b:∀(kV doc pm:Value)(an:Option Addr)(cdv ct:Value)(us:List Value),us.length=ps.length->bindArgs (W.fnOf "__init__" qual (cH st) (bR st) (aq st) .none kV doc pm an cdv ct) ⟨us,[]⟩=pure (ps.zip us))(a:W.nsIn K mainGlobals ⟨cn.toArray⟩=some (some (.ref C)):=by kernel_rfl)(m2:W.findIn K (.ref C) "__init__" = some (some (.ref f)):=by kernel_rfl)(c:W.codeIn K cd qual=true:=by kernel_rfl)(k:W.keepIn K (.ref f)=true:=by kernel_rfl)(m1:W.makesIn K C=true:=by kernel_rfl)(m3:W.isFn K (.ref f)=true:=by kernel_rfl)(m4:W.keepIn K (.ref C)=true:=by kernel_rfl):
  ∃g fd,iN K mg tb ⟨.me cn cS, "__init__",qual,st,N,ps,false⟩ g fd:=
 have F:=rB (st:=st) l c k
 ⟨f,_,F,⟨C,jv X G a,g,fun _=>⟨m1,m2,m3,m4⟩,fun z=>absurd rfl z⟩,fun us hl=>b _ _ _ _ _ _ us hl,fun z=>nomatch z⟩
theorem oB{K:W.Frag}{tb:List jH}{h:Heap}{mg:Str->Option Value}{cn mn:Tw.S}{name qual:Str}{st:Stmt}{N ps:List Str}{C f:Addr}{od an:Option Addr}{sl:Array (Option Value)}{oc kV dc pm cd ct:Value}(X:K.In h)(G:h.Ns mainGlobals mg)(l:K.lookup f=some ⟨oc,od,.func (W.fnOf name qual (cH st) (bR st) (aq st) .none kV dc pm an cd ct),sl⟩)(g:GoodC K C)(b:∀(kV doc pm:Value)(an:Option Addr)(cdv ct:Value)(us:List Value),us.length=ps.length->bindArgs (W.fnOf name qual (cH st) (bR st) (aq st) .none kV doc pm an cdv ct) ⟨us,[]⟩=pure (ps.zip us))(a:W.nsIn K mainGlobals ⟨cn.toArray⟩=some (some (.ref C)):=by kernel_rfl)(m2:W.findIn K (.ref C) ⟨mn.toArray⟩=some (some (.ref f)):=by kernel_rfl)(c:W.codeIn K cd qual=true:=by kernel_rfl)(k:W.keepIn K (.ref f)=true:=by kernel_rfl)(m3:W.isFn K (.ref f)=true:=by kernel_rfl)(ni:mn≠cS:=by decide):
  ∃g fd,iN K mg tb ⟨.me cn mn,name,qual,st,N,ps,false⟩ g fd:=
 have F:=rB (st:=st) l c k
 ⟨f,_,F,⟨C,jv X G a,g,fun z=>absurd z ni,fun _=>⟨m2,m3,k⟩⟩,fun us hl=>b _ _ _ _ _ _ us hl,fun z=>nomatch z⟩
theorem qy{K:W.Frag}{h:Heap}{mg:Str->Option Value}{x:Str}{t:Addr}{od:Option Addr}{z:Tw.S}{tk:Tok}{n:Nat}{sl:Array (Option Value)}(X:K.In h)(G:h.Ns mainGlobals mg)
  (a:W.nsIn K mainGlobals x=some (some (.ref t))) (lk:K.lookup t=some ⟨.type "tuple",od,.seq #[.str ⟨z.toArray⟩ tk] n,sl⟩) (hz:z.all (fun c=>decide (c<0x110000))=true):kE K mg x (.tup [.str z]):=by
 refine⟨.ref t,.ref t,jv X G a,rfl,fun ι n' H=>.tup (xs:=[.str ⟨z.toArray⟩]) (.inr ⟨_,_,n,lk,rfl,rfl,by show 1<=sizeLine;rw[gu];decide,.cons ⟨tk,rfl⟩ .nil⟩) (.cons (.str z ?_) .nil)⟩;intro c hc;have:=(jP.mp hz) c hc;simpa using this
noncomputable def Aj:List DictEntry->List (Tw.S×Int)->Bool
 |[],[]=>true
 |e::es,(s,i)::g=>(match e.key,e.val with
  |.str x _,.int j _=>decide (x=⟨s.toArray⟩)&&decide (j=i)
  |_,_=>false)&&Aj es g
 |_,_=>false
theorem sW{h:Heap}:∀{es:List DictEntry}{g:List (Tw.S×Int)},Aj es g=true->KTD.Rows (KTD.Dat.At h) es (kI g)
 |[],[],_=>.nil
 |[],_::_,r=>no r
 |_::_,[],r=>no r
 |e::es,(s,i)::g,r=>by
  rw[Aj,ao] at r;obtain⟨r1,r2⟩:=r;split at r1
  .next x tx j tj e1 e2=>
   simp only[ao,ax] at r1;obtain⟨rfl,rfl⟩:=r1;exact .cons e1 (by rw[e2];exact fun _=>.int _ _) (sW r2)
  .exact no r1
theorem Jg{K:W.Frag}{h:Heap}{mg:Str->Option Value}{x:Str}{t:Addr}{od:Option Addr}{es:Array DictEntry}{ep:Nat}{sl:Array (Option Value)}{g:List (Tw.S×Int)}(X:K.In h)(G:h.Ns mainGlobals mg)
  (a:W.nsIn K mainGlobals x=some (some (.ref t))) (lk:K.lookup t=some ⟨.type "dict",od,.dict es ep,sl⟩) (ex:(⟨.type "dict",od,.dict es ep,sl⟩:Obj).ExactDict) (hs:(t== sysModules)=false) (r:Aj es.toList g=true):lN K mg x g:=
 ⟨t,jv X G a,fun h' X'=>⟨hs,_,es,ep,X' _ _ lk,ex,rfl,sW r⟩⟩
theorem xk:∀zs:List (Tw.S×Nat),Vals (zs.map fun z=>V.str ⟨z.1.toArray⟩) (zs.map fun z=>Value.str ⟨z.1.toArray⟩ z.2)
 |[]=>.nil
 |z::zs=>.cons ⟨z.2,rfl⟩ (xk zs)
theorem Cg{K:W.Frag}{ι:Nat->Addr}{n:Nat}{H:Hp}:∀zs:List (Tw.S×Nat),zs.all (fun z=>z.1.all fun c=>decide (c<0x110000))=true->aL K ι n H (zs.map fun z=>.str z.1) (zs.map fun z=>V.str ⟨z.1.toArray⟩)
 |[],_=>.nil
 |z::zs,h=>by
  rw[jU,ao] at h;refine .cons (.str z.1 ?_) (Cg zs h.2);intro c hc;have:=(jP.mp h.1) c hc;simpa using this
theorem r0{K:W.Frag}{h:Heap}{mg:Str->Option Value}{x:Str}{t:Addr}{od:Option Addr}{zs:List (Tw.S×Nat)}{n:Nat}{sl:Array (Option Value)}(X:K.In h)(G:h.Ns mainGlobals mg)
  (a:W.nsIn K mainGlobals x=some (some (.ref t))) (lk:K.lookup t=some ⟨.type "tuple",od,.seq (zs.map fun z=>Value.str ⟨z.1.toArray⟩ z.2).toArray n,sl⟩) (hl:zs.length<=100) (hz:zs.all (fun z=>z.1.all fun c=>decide (c<0x110000))=true):kE K mg x (.tup (zs.map fun z=>.str z.1)):=by
 refine⟨.ref t,.ref t,jv X G a,rfl,fun ι n' H=>.tup (xs:=zs.map fun z=>V.str ⟨z.1.toArray⟩) (.inr ⟨_,_,n,lk,rfl,rfl,?_,?_⟩) (Cg zs hz)⟩
 .rw[gu];simp;lia
 .simpa using xk zs
theorem JA{K:W.Frag}{h:Heap}{mg:Str->Option Value}(X:K.In h)(G:h.Ns mainGlobals mg)(z0:W.nsIn K mainGlobals "len" = some none:=by kernel_rfl)(z1:W.nsIn K mainGlobals "list" = some none:=by kernel_rfl)(y1:W.nsIn K mainGlobals "tuple" = some none:=by kernel_rfl)(z2:W.nsIn K mainGlobals "int" = some none:=by kernel_rfl)(y2:W.nsIn K mainGlobals "bool" = some none:=by kernel_rfl)(z3:W.nsIn K mainGlobals "isinstance" = some none:=by kernel_rfl)(z4:W.nsIn K mainGlobals "range" = some none:=by kernel_rfl)(z5:W.nsIn K mainGlobals "reversed" = some none:=by kernel_rfl):∀x∈cg,mg x=none:=by unfold cg;simp only[uv];exact⟨kz X G z0,kz X G z1,kz X G y1,kz X G z2,kz X G y2,kz X G z3,kz X G z4,kz X G z5,fun _ h=>nomatch h⟩
theorem xX{α β:Type}{P:α->β->Prop}:∀x y,(x,y)∈([]:List (α×β))->P x y:=fun _ _ e=>nomatch e
theorem mem_cons{α β:Type}{P:α->β->Prop}{a:α}{b:β}{r:List (α×β)}(h:P a b)(k:∀x y,(x,y)∈r->P x y):∀x y,(x,y)∈(a,b)::r->P x y:=fun x y e=>by
 rcases eZ.mp e with e|e
 .cases e;exact h
 .exact k x y e
theorem vL{β:Type}{s:Tw.S}{f:β}:∀{g:List (Tw.S×β)},g.lookup s=some f->(s,f)∈g
 |[],e=>by simp at e
 |(a,b)::g,e=>by
  rw[di] at e;cases c:s== a with
  |true=>
   rw[c] at e;cases e;have:s=a:=by simpa using c
   subst this;exact n8
  |false=>rw[c] at e;exact iY _ (vL e)
theorem each{K:W.Frag}{h:Heap}{mg:Str->Option Value}{cT:List (Tw.S×List Tw.S)}{es:List (Tw.S×Addr)}(X:K.In h)(G:h.Ns mainGlobals mg)(ee:cT.map (·.1)=es.map (·.1))(en:(es.map fun p=>W.nsIn K mainGlobals (str p.1))=es.map fun p=>some (some (Value.ref p.2)))
  {P:Addr->Option Bool}{cs:List Tw.S} (k:(es.map fun p=>P p.2)=es.map fun p=>some (cs.contains p.1)):∀c fs C,cT.lookup c=some fs->mg (str c)=some (.ref C)->P C=some (cs.contains c):=by
 intro c fs C e m;have hc:c∈es.map (·.1):=by rw[<-ee];exact nQ.mpr ⟨(c,fs),vL e,rfl⟩
 obtain⟨⟨c',A⟩,hm,rfl⟩:=nQ.mp hc;have:=jv X G (List.map_inj_left.mp en _ hm);rw[m] at this;cases this;exact List.map_inj_left.mp k _ hm
theorem uo{P:Tw.S->List Tw.S->Prop}:∀c fs,([]:List (Tw.S×List Tw.S)).lookup c=some fs->P c fs:=fun _ _ e=>nomatch e
theorem Nw{P:Tw.S->List Tw.S->Prop}(h:P y b)(k:∀c fs,r.lookup c=some fs->P c fs):∀c fs,((y,b)::r).lookup c=some fs->P c fs:=by
 intro x g e;rw[di] at e;cases c:x== y with
 |true=>rw[c] at e;cases e;rw[show x=y by simpa using c];exact h
 |false=>rw[c] at e;exact k x g e
theorem vv{K:W.Frag}{ι:Nat->Addr}{n:Nat}{H:L2.Hp}:∀ns:List Int,aL K ι n H (ns.map Tw.W.int) (ns.map V.int)
 |[]=>.nil
 |i::r=>.cons (.int i) (vv r)
theorem EJ{K:W.Frag}{tb:List jH}{h:Heap}{mg:Str->Option Value}{x:Str}{st:Stmt}{N ps:List Str}{f c P bm:Addr}{od an od':Option Addr}{sl sl' sl2:Array (Option Value)}{oc kV dc pm ct:Value}{vs:Array Value}{file:Str}{tf tg tt:Tok}{flags tx:Int}{inF:Bool}(X:K.In h)(G:h.Ns mainGlobals mg)
  (a:W.nsIn K mainGlobals x=some (some (.ref f))) (l:K.lookup f=some ⟨oc,od,.func (W.fnOf x x (cH st) (bR st) (aq st) .none kV dc pm an (.ref c) ct),sl⟩) (cc:W.codeIn K (.ref c) x=true) (k:W.keepIn K (.ref f)=true)
  (b:∀(kV doc pm:Value)(an:Option Addr)(cdv ct:Value)(us:List Value),us.length=ps.length->bindArgs (W.fnOf x x (cH st) (bR st) (aq st) .none kV doc pm an cdv ct) ⟨us,[]⟩=pure (ps.zip us))
  (lc:K.lookup c=some ⟨.type "code",od',.fields vs,sl'⟩) (v1:vs[11]?=some (.ref P)) (v2:vs.getD 18 .none=.str file tf) (v3:vs.getD 7 .none=.int flags tg) (v4:vs.getD 9 .none=.bool inF) (v5:vs.getD 10 .none=.int tx tt) (ne:c≠P)
  (m:⟨P,x++ ".<locals>." ++ "answer"⟩∈tb) (u:∀t∈tb,t.P=P->t.q=x++ ".<locals>." ++ "answer") (lb:W.nsIn K mainGlobals "__builtins__" = some (some (.ref bm))) (n1:bm≠builtinsNs) (n2:bm≠mainGlobals) (lm:K.lookup bm=some ⟨.type "module",some builtinsNs,.plain,sl2⟩):
  ∃g fd,iN K mg tb ⟨.fn x,x,x,st,N,ps,true⟩ g fd:=
 have F:=rB (st:=st) l cc k
 ⟨f,_,F,jv X G a,fun us hl=>b _ _ _ _ _ _ us hl,fun _=>⟨⟨c,P,rfl,fun h' X'=>⟨_,vs,file,tf,flags,tg,inF,tx,tt,X' _ _ lc,rfl,rfl,v1,by rw[Array.getD_eq_getD_getElem?,v1];rfl,v2,v3,v4,v5,ne⟩,m,u⟩,bm,_,jv X G lb,n1,n2,lm,rfl,rfl,rfl⟩⟩
def zQ(tb:List jH)(H:L2.Hp):Prop:=(∀b,H b=none\/(∃o xs,H b=some (.aM o (.lst xs)))\/∃ps,H b=some (.dQ ps))/\∀t∈tb,H t.P=some (.dQ #[])
theorem BO{P:Program}{w:World}{K:W.Frag}{mg mb:Str->Option Value}{CX:fj}{k:Nat}{fa a:Addr}{fd:FuncData}{x:Str}{sp:Sp}{s₁:Shared}{vs:List Value}{ns:List Int}{tb:List jH}
  (KX:K.In s₁.heap) (hns:s₁.heap.Ns mainGlobals mg) (hb:s₁.heap.Ns builtinsNs mb) (hbb:∀x:Str,x≠ "__name__" ->mb x=bootBuiltins x) (hlim:s₁.heap.NoLimit) (hg:s₁.gens=#[])
  (ha:s₁.heap.get? a=some {cls:=.type "list",data:=.seq vs.toArray}) (hi:IntsAre vs ns) (hl:ns.length<=sizeLine) (hr:cq k callerA)
  (ht:∀t∈tb,s₁.heap.get? t.P=some (W.tabObj #[])) (hct:∀t∈tb,isCodeTable s₁.heap t.P) (hKt:∀t∈tb,K.lookup t.P=none)
  (F:∀base:Heap,K.In base->base.Ns mainGlobals mg->bF P w K mg base CX k fa fd [x] sp) (hbind:∀(s:Shared)(u:Value),BindsTo s fd ⟨[u],[]⟩ [(x,u)])
  (hsp:∀H:L2.Hp,zQ tb H->bW K H a (ns.map V.int)->sp [.ref a] H (fun v _=>v=.bl true) fun _ _ _=>False)
  (hCX:∀H e s',CX [] H s₁ (fun _ _ _=>False) e s'->False):
  codeAny (model P w) callerA (.call (.ref fa) ⟨[.ref a],[]⟩) (fun r s'=>r=.ok (.ret (.bool true))/\OldK s₁.heap s'.heap/\s'.os=s₁.os/\AllBare s'.gens) s₁:=by
 have rv:=tB hi;have lenV:=hi.length;have core:∀H:L2.Hp,zQ tb H->bW K H a (ns.map V.int)->dB P w H s₁.heap->(∀b,H b≠none->b=a\/∃t∈tb,b=t.P)->(H a≠none->K.lookup a=none)->
   codeAny (model P w) callerA (.call (.ref fa) ⟨[.ref a],[]⟩) (fun r s'=>r=.ok (.ret (.bool true))/\OldK s₁.heap s'.heap/\s'.os=s₁.os/\AllBare s'.gens) s₁:=by
  intro H hO hS av hA hK;have base_of:∀{b:Addr}{o:Obj},s₁.heap.get? b=some o->H b=none->(mh s₁.heap H).get? b=some o:=fun e n=>DH e n;have noA:∀{b:Addr}{o:Obj}{es:Array DictEntry}{ep:Nat},s₁.heap.get? b=some o->o.data=.dict es ep->H b=none:=fun {b o es ep} e d=>by
   cases q:H b with
   |none=>rfl
   |some u=>
    rcases hA b (by rw[q];simp) with e'|⟨t,htm,e'⟩
    .subst e';rw[ha] at e;cases e;have d':Data.seq vs.toArray _=Data.dict es ep:=d;cases d'
    .subst e';rw[ht t htm] at e;cases e;have d':Data.fields _=Data.dict es ep:=d;cases d'
  have nsK:∀{b:Addr}{m:Str->Option Value},s₁.heap.Ns b m->(mh s₁.heap H).Ns b m:=fun {b m} ⟨o,es,ep,e,d,r⟩=>⟨o,es,ep,base_of e (noA e d),d,r⟩;have hKb:K.In (mh s₁.heap H):=fun b o e=>base_of (KX b o e) (by
   cases q:H b with
   |none=>rfl
   |some u=>
    rcases hA b (by rw[q];simp) with e'|⟨t,htm,e'⟩
    .subst e';rw[hK (by rw[q];simp)] at e;cases e
    .subst e';rw[hKt t htm] at e;cases e)
  have hM:Mod K mg (mh s₁.heap H):=⟨hKb,nsK hns,⟨mb,nsK hb,hbb⟩,let ⟨mc,h1,h2⟩:=hlim;⟨mc,nsK h1,h2⟩⟩;have e0:ml P w K mg (mh s₁.heap H) callerA [] s₁ H:=⟨rfl,hM,fun b o e=>FT e,z7 (AX _ _),trivial,fun b hb=>absurd (show b∈([]:List Addr) from hb) (by simp),av,.of_eq hg⟩;refine oF ((F _ hKb (nsK hns)).run callerA [] s₁ H ⟨[.ref a],[]⟩ [.ref a] [.ref a] _ _ hr e0 (hbind s₁ (.ref a)) (.cons rfl .nil) (hsp H hO hS)) fun r s' h=>?_;cases r with
  |error e=>exact (hCX H e s' h).elim
  |ok fl=>
   cases fl with
   |next=>exact False.elim h
   |brk=>exact False.elim h
   |cont=>exact False.elim h
   |ret u=>
    obtain⟨v,H',os,bare,un,hok',r',q⟩:=h;have q':v=.bl true:=q;subst q';obtain rfl:u=Value.bool true:=r';refine⟨rfl,⟨fun b o e=>?_,fun b o e=>un.there b o e (by simp)⟩,os,bare⟩;cases q:H b with
    |none=>exact .inl (un.keep b o e q (by intro z;exact absurd (show b∈([]:List Addr) from z) (by simp)) (by simp))
    |some u=>
     rcases hO.1 b with z|⟨ob,xs,z⟩|⟨ps,z⟩
     .rw[q] at z;cases z
     .have z2:=un.fI b ob _ z;obtain⟨e1,_⟩:=av b _ z;obtain⟨e2,_⟩:=hok' b _ z2;rw[e] at e1;cases e1;exact .inl e2
     .rcases hA b (by rw[q];simp) with e'|⟨t,htm,e'⟩
      .subst e';have e1:s₁.heap.get? b=some _:=av b _ z;rw[ha] at e1;cases e1
      .subst e';obtain⟨more,z2⟩:=un.fL _ ps z;have e2:s'.heap.get? t.P=some _:=hok' _ _ z2;have e1:=ht t htm;rw[e] at e1;cases e1;have e3:s₁.heap.get? t.P=some _:=av _ _ z;rw[e] at e3;cases e3;exact .inr (.inl ⟨hct t htm,rfl,#[],more,rfl,e2⟩)
 have aP:∀t∈tb,t.P≠a:=fun t htm z=>by
  have e:=ht t htm;rw[z,ha] at e;cases e
 have tabH:∀(A:Addr->Option HO)(b:Addr),(∃t∈tb,b=t.P)->(if tb.any (fun t=>t.P== b)=true then some (HO.dQ #[]) else A b)=some (.dQ #[]):=fun A b ⟨t,h1,h2⟩=>if_pos (List.any_eq_true.mpr ⟨t,h1,by simp[h2]⟩);have tabN:∀(A:Addr->Option HO)(b:Addr),¬ (∃t∈tb,b=t.P)->(if tb.any (fun t=>t.P== b)=true then some (HO.dQ #[]) else A b)=A b:=fun A b h=>if_neg fun z=>h (by obtain⟨t,h1,h2⟩:=List.any_eq_true.mp z;exact⟨t,h1,(gS.mp h2).symm⟩)
 have naT:¬ ∃t∈tb,a=t.P:=fun⟨t,h1,h2⟩=>aP t h1 h2.symm;cases hk:K.lookup a with
 |some o=>
  have e:=KX a o hk;rw[ha] at e;cases e;refine core (fun b=>if tb.any (fun t=>t.P== b)=true then some (HO.dQ #[]) else none) ⟨fun b=>?_,fun t h=>tabH (fun _=>none) _ ⟨t,h,rfl⟩⟩ (.inr ⟨_,vs.toArray,_,hk,rfl,rfl,rfl,by rw[cF,lenV];exact hl,by simpa using rv⟩) (fun b u z=>?_) (fun b z=>?_) fun z=>absurd (tabN (fun _=>none) a naT) z
  .by_cases c:∃t∈tb,b=t.P
   .exact .inr (.inr ⟨_,tabH (fun _=>none) b c⟩)
   .exact .inl (tabN (fun _=>none) b c)
  .by_cases c:∃t∈tb,b=t.P
   .have z':=(tabH (fun _=>none) b c).symm.trans z;cases z';obtain⟨t,h1,rfl⟩:=c;exact ht t h1
   .have z':=(tabN (fun _=>none) b c).symm.trans z;cases z'
  .by_cases c:∃t∈tb,b=t.P
   .exact .inr c
   .exact absurd (tabN (fun _=>none) b c) z
 |none=>
  obtain⟨A,An,Aa⟩:∃A:Addr->Option HO,(∀b,b≠a->A b=none)/\A a=some (.aM {cls:=.type "list",data:=.seq vs.toArray} (.lst (ns.map V.int))):=⟨fun b=>if b=a then some (.aM {cls:=.type "list",data:=.seq vs.toArray} (.lst (ns.map V.int))) else none,fun b h=>if_neg h,if_pos rfl⟩;refine core (fun b=>if tb.any (fun t=>t.P== b)=true then some (HO.dQ #[]) else A b) ⟨fun b=>?_,fun t h=>tabH A _ ⟨t,h,rfl⟩⟩ (.inl (.inr ⟨{cls:=.type "list",data:=.seq vs.toArray},(tabN A a naT).trans Aa⟩)) (fun b u z=>?_) (fun b z=>?_) fun _=>hk
  .by_cases c:∃t∈tb,b=t.P
   .exact .inr (.inr ⟨_,tabH A b c⟩)
   .by_cases hb:b=a
    .subst hb;exact .inr (.inl ⟨_,_,(tabN A b c).trans Aa⟩)
    .exact .inl ((tabN A b c).trans (An b hb))
  .by_cases c:∃t∈tb,b=t.P
   .have z':=(tabH A b c).symm.trans z;cases z';obtain⟨t,h1,rfl⟩:=c;exact ht t h1
   .have z:=(tabN A b c).symm.trans z;by_cases hb:b=a
    .subst hb;have z':=Aa.symm.trans z;cases z';exact⟨ha,by rw[iG];exact hl,vs,_,rv,ha⟩
    .have z':=(An b hb).symm.trans z;cases z'
  .by_cases c:∃t∈tb,b=t.P
   .exact .inr c
   .by_cases hb:b=a
    .exact .inl hb
    .exact absurd ((tabN A b c).trans (An b hb)) z
theorem CN{T:List Tw.Fn}{Ds:List bg}{cf:Cfg}{dP:List (Nat×List Str×Bool×Tw.Fn)}{tb:List jH}{i k:Nat}{st:Stmt}{N:List Str}{l:W.OpenLaw}{q:Program}{loose:List Str}{XP:(Str->Option Value)->Heap->Prop}{YP:World->Heap->Prop}{d:DefRec}{K KF:Params->W.Frag}{x:Str}
  (hTl:T.length<=1000) (hcf:cf.hd=false) (hci:cf.ci=zl cf dP) (hfn:cf.fns=Ds.map (·.key)) (hc:ka cf Ds T=true) (hI:∀f N b fn,dP.lookup f=some (N,b,fn)->T[f]?=some fn) (hi:Ds[i]?=some ⟨.fn "law", "law", "law",st,N,[x],false⟩) (hn:l.most=some 63) (hdf:d.params.defaults=[])
  (hY:∀(w:World)(h:Heap),YP w h->(KF w.params).In h) (hKF:∀p,KF p=K p++tb.map fun t=>(t.P,W.tabObj #[])) (hKt:∀p,∀t∈tb,(K p).lookup t.P=none) (hKc:∀p,∀t∈tb,∃c od sl vs,(K p).lookup c=some ⟨.type "code",od,.fields vs,sl⟩/\vs[11]?=some (.ref t.P)) (hd:d.name= "law")
  (F:∀(w:World)(mg:Str->Option Value)(h:Heap),(K w.params).In h->h.Ns mainGlobals mg->(∀d∈Ds,d.key≠.dP->∃g fd,iN (K w.params) mg tb d g fd)/\(∀x∈cg,mg x=none)/\(∀x w',cf.cons.lookup x=some w'->kE (K w.params) mg x w')/\(∀x g,cf.nums.lookup x=some g->lN (K w.params) mg x g)/\(∀c fs,cf.cT.lookup c=some fs->oW (K w.params) mg c fs)/\pY (K w.params) mg cf)
  (hr:cq (k+4) callerA) (law:∀ns:List Int,ns.length<=63->∃h',Tw.run T k i [.ref 0] [.aM (ns.map .int)]=.ok (.bl true) h'):
  W.WalkO q loose XP YP l.row.toRowW d [] (fun f vs=>PySem.call f vs):=by
 refine Att.xb hn hdf fun w aG s₁ mg mb fa o pm cd doc a vs ns G Y ho hd' hcd hmg hobj hints hlen hg=>?_;have KF1:=hY w _ Y;rw[hKF] at KF1;have KX:(K w.params).In s₁.heap:=fun b o e=>KF1 b o (by rw[List.lookup_append,e];rfl);have mapL:∀(tb:List jH) t,t∈tb->(tb.map fun t=>(t.P,W.tabObj #[])).lookup t.P=some (W.tabObj #[]):=by
  intro tb
  induction tb with
  |nil=>intro t h;cases h
  |cons u r ih=>
   intro t h;rw[gz,di];cases q:t.P== u.P with
   |true=>rfl
   |false=>
    rcases eZ.mp h with rfl|h
    .simp at q
    .exact ih t h
 have ht:∀t∈tb,s₁.heap.get? t.P=some (W.tabObj #[]):=fun t h=>KF1 _ _ (by rw[List.lookup_append,hKt _ t h];exact mapL tb t h);have hct:∀t∈tb,isCodeTable s₁.heap t.P:=fun t h=>by
  obtain⟨c,od,sl,vs,e1,e2⟩:=hKc w.params t h;exact⟨c,_,vs,KX _ _ e1,rfl,rfl,e2⟩
 obtain⟨hD,hb,hC,hN,hE,hX⟩:=F w mg _ KX G.T.g;obtain⟨g,fd,D⟩:=hD _ (vc hi) (fun z=>nomatch z);rw[hd] at hmg;have dm:mg "law" = some (.ref g):=D.m;have e:Value.ref fa=Value.ref g:=j1 (hmg.symm.trans dm);cases e;have cb0:∀base,CB cf.ci base ⟨fun _=>none,tb⟩:=fun base i c e=>nomatch e;refine BO (CX:=bX l.prog w) (k:=k+4) (x:=x) (tb:=tb) (sp:=fun vs H Q E=>∃a:Addr,vs=[.ref a]/\sF (K w.params) H a (ns.map V.int)/\zQ tb H/\∀H',Q (.bl true) H') KX G.T.g G.T.b G.T.builtins G.T.nolimit hg hobj hints (bG hlen (by decide)) hr ht hct (hKt w.params)
  (fun base _ _=>((F0 hTl hN hcf hci hfn hc hI hD hb hC hE hX k base ⟨fun _=>none,tb⟩ rfl (cb0 base)).1 i _ hi _ fd D).1.imp fun vs H Q E ⟨a,ev,sq,hO,q⟩=>?_) (fun s u=>.of_eq (D.b [u] rfl)) (fun H hO hS=>⟨a,rfl,?_,hO,fun _=>rfl⟩) fun H e s' z=>bX.never _ _ _ _ _ z
 .subst ev;obtain⟨h',e⟩:=law ns hlen;refine⟨[.ref 0],[.aM (ns.map .int)],fun _=>a,⟨fun j o ej=>?_,fun j j' o u ej ej' m=>?_,fun t h=>⟨#[],hO.2 t h,trivial,fun _ _ z=>nomatch z⟩,fun j f us ej=>?_⟩,.cons (.ref (by simp)) .nil,?_⟩
  .cases j with
   |zero=>simp at ej;subst ej;exact⟨_,sq,vv ns⟩
   |succ j=>simp at ej
  .cases j with
   |zero=>simp at ej;subst ej;cases m
   |succ j=>simp at ej
  .cases j with
   |zero=>simp at ej
   |succ j=>simp at ej
  .rw[e];intro ι' H' b _ _ r;cases r;exact q H'
 .rcases hS with (h|h)|h
  .rcases hO.1 a with z|⟨o,xs,z⟩|⟨ps,z⟩
   .rw[h] at z;cases z
   .rw[h] at z;cases z
   .rw[h] at z;cases z
  .exact .inl h
  .exact .inr h
end TwS
namespace K05
inductive T1 where|left|right|bA
inductive T2 where|call|both|more|sum|less|bx
inductive T3 where|fold|bh
set_option genInjectivity true in
inductive Co(K:Type) where
 |num (i:Int)|yes|no|var (i:Nat)|ah (k:K)|like (k:K)
 |fn (k:K) (c:Co K)
 |n1 (t:T1) (a:Co K)
 |n2 (t:T2) (a b:Co K)
 |n3 (t:T3) (a b c:Co K)
 |en (a u:Co K)
variable {K:Type}
noncomputable def Co.depth:Co K->Nat
 |.fn _ c=>c.depth+1
 |.n1 _ a=>a.depth+1
 |.n2 _ a b=>max a.depth b.depth+1
 |.n3 _ a b c=>max a.depth (max b.depth c.depth)+1
 |_=>0
def Co.into(v:Co K):Nat->Co K->Co K
 |n,.var i=>if i=n then v else .var i
 |n,.fn k c=>.fn k (Co.into v (n+1) c)
 |n,.n1 t a=>.n1 t (Co.into v n a)
 |n,.n2 t a b=>.n2 t (Co.into v n a) (Co.into v n b)
 |n,.n3 t a b c=>.n3 t (Co.into v n a) (Co.into v n b) (Co.into v n c)
 |_,c=>c
def up(m:Nat):Nat:=if m=0 then 0 else m+1
noncomputable def Co.vd:Nat->Co K->Nat
 |n,.var i=>if i=n then 1 else 0
 |n,.fn _ c=>up (c.vd (n+1))
 |n,.n1 _ a=>up (a.vd n)
 |n,.n2 _ a b=>max (up (a.vd n)) (up (b.vd n))
 |n,.n3 _ a b c=>max (up (a.vd n)) (max (up (b.vd n)) (up (c.vd n)))
 |_,_=>0
def Co.closed(c:Co K):Prop:=∀n,c.vd n=0
def Co.nm(P:Nat):Co K->Prop
 |.fn _ c=>c.vd 0<=P+1/\c.nm P
 |.n1 _ a=>a.nm P
 |.n2 _ a b=>a.nm P/\b.nm P
 |.n3 _ a b c=>a.nm P/\b.nm P/\c.nm P
 |_=>True
def Bd(w x' x v:Nat):Prop:=(v=0/\x'=x)\/(0<v/\x'+1<=max (x+1) (v+w))
theorem Bd.node{w x' x v:Nat}(h:Bd w x' x v):Bd w (x'+1) (x+1) (up v):=by unfold Bd up at *;split<;>lia
theorem Bd.two{w a' a va b' b vb:Nat}(h:Bd w a' a va)(g:Bd w b' b vb):Bd w (max a' b') (max a b) (max va vb):=by
 rcases h with ⟨h1,h2⟩|⟨h1,h2⟩<;>rcases g with ⟨g1,g2⟩|⟨g1,g2⟩
 .subst h1 h2 g1 g2;exact .inl ⟨rfl,rfl⟩
 .subst h1 h2;exact .inr ⟨by rw[Nat.zero_max];exact g1,by rw[Nat.zero_max];lia⟩
 .subst g1 g2;exact .inr ⟨by rw[Nat.max_zero];exact h1,by rw[Nat.max_zero];lia⟩
 .exact .inr ⟨bT h1 (mQ _ _),by
   have e1:va+w<=max va vb+w:=Nat.add_le_add_right (mQ _ _) w;have e2:vb+w<=max va vb+w:=Nat.add_le_add_right (lY _ _) w;generalize max va vb+w=u at *;generalize va+w=u1 at *;generalize vb+w=u2 at *
   lia⟩
theorem ur(a b:Nat):up (max a b)=max (up a) (up b):=by unfold up;split<;>split<;>split<;>lia
theorem gK(v:Co K):∀(c:Co K)(n:Nat),Bd v.depth (Co.into v n c).depth c.depth (c.vd n)
 |.num _,n=>.inl ⟨rfl,rfl⟩
 |.yes,n=>.inl ⟨rfl,rfl⟩
 |.no,n=>.inl ⟨rfl,rfl⟩
 |.ah _,n=>.inl ⟨rfl,rfl⟩
 |.like _,n=>.inl ⟨rfl,rfl⟩
 |.en _ _,n=>.inl ⟨rfl,rfl⟩
 |.var i,n=>by
  simp only[Co.vd,Co.into];by_cases e:i=n
  .rw[if_pos e,if_pos e];exact .inr ⟨Nat.one_pos,by rw[Nat.add_comm];exact lY _ _⟩
  .rw[if_neg e,if_neg e];exact .inl ⟨rfl,rfl⟩
 |.fn k c,n=>(gK v c (n+1)).node
 |.n1 t a,n=>(gK v a n).node
 |.n2 t a b,n=>by
  have:=((gK v a n).two (gK v b n)).node;rw[ur] at this;exact this
 |.n3 t a b c,n=>by
  have:=((gK v a n).two ((gK v b n).two (gK v c n))).node;rw[ur,ur] at this;exact this
theorem gJ{v:Co K}(hv:v.closed):∀(c:Co K)(n m:Nat),m≠n->(Co.into v n c).vd m=c.vd m
 |.num _,_,_,_=>rfl
 |.yes,_,_,_=>rfl
 |.no,_,_,_=>rfl
 |.ah _,_,_,_=>rfl
 |.like _,_,_,_=>rfl
 |.en _ _,_,_,_=>rfl
 |.var i,n,m,h=>by
  simp only[Co.into];by_cases e:i=n
  .rw[if_pos e,hv m];simp only[Co.vd];rw[if_neg (by lia)]
  .rw[if_neg e]
 |.fn k c,n,m,h=>by simp only[Co.into,Co.vd,gJ hv c (n+1) (m+1) (by lia)]
 |.n1 t a,n,m,h=>by simp only[Co.into,Co.vd,gJ hv a n m h]
 |.n2 t a b,n,m,h=>by simp only[Co.into,Co.vd,gJ hv a n m h,gJ hv b n m h]
 |.n3 t a b c,n,m,h=>by simp only[Co.into,Co.vd,gJ hv a n m h,gJ hv b n m h,gJ hv c n m h]
theorem gR{v:Co K}{P:Nat}(hv:v.closed)(nv:v.nm P):∀(c:Co K)(n:Nat),c.nm P->(Co.into v n c).nm P
 |.num _,_,_=>trivial
 |.yes,_,_=>trivial
 |.no,_,_=>trivial
 |.ah _,_,_=>trivial
 |.like _,_,_=>trivial
 |.en _ _,_,_=>trivial
 |.var i,n,_=>by
  simp only[Co.into];by_cases e:i=n
  .rw[if_pos e];exact nv
  .rw[if_neg e];trivial
 |.fn k c,n,h=>⟨by rw[gJ hv c (n+1) 0 (by lia)];exact h.1,gR hv nv c (n+1) h.2⟩
 |.n1 t a,n,h=>gR hv nv a n h
 |.n2 t a b,n,h=>⟨gR hv nv a n h.1,gR hv nv b n h.2⟩
 |.n3 t a b c,n,h=>⟨gR hv nv a n h.1,gR hv nv b n h.2.1,gR hv nv c n h.2.2⟩
theorem zP{k:K}{b v:Co K}{P:Nat}(hp:1<=P)(h:b.vd 0<=P+1):(Co.into v 0 b).depth+1<=(Co.n2 .call (.fn k b) v).depth+P:=by
 have z:=gK v b 0;unfold Bd at z;simp only[Co.depth]
 lia
theorem y8{a r s w:Co K}:(Co.n2 .call (.n2 .call w a) (.n3 .fold r s w)).depth<=(Co.n3 .fold (.n2 .more a r) s w).depth+1:=by simp only[Co.depth];lia
end K05
namespace Tw
theorem aQ{h:Hp}{a:Nat}{o:O}(x:List O)(e:h[a]?=some o):(h++x)[a]?=some o:=by
 have:a<h.length:=by
  rcases rN a h.length with q|q
  .exact q
  .rw[uO q] at e;cases e
 rw[e9 this];exact e
theorem k9{h:Hp}{a:Nat}{o:O}(e:h[a]?=some o):a<h.length:=by
 rcases rN a h.length with q|q
 .exact q
 .rw[uO q] at e;cases e
@[simp] theorem bp(h:Hp)(o:O):(h++[o])[h.length]?=some o:=by simp
theorem bH{h:Hp}{a b:Nat}{o u:O}(n:a≠b)(e:h[b]?=some u):(h.set a o)[b]?=some u:=by rw[i7 n];exact e
theorem iZ{h:Hp}{a:Nat}{o u:O}(e:h[a]?=some u):(h.set a o)[a]?=some o:=by rw[i5 (k9 e)]
structure Ext(p:Nat)(h h':Hp):Prop where
 len:h.length<=h'.length
 keep:∀q o,h[q]?=some o->q≠p->h'[q]?=some o
theorem Ext.refl(p:Nat)(h:Hp):Ext p h h:=⟨aA _,fun _ _ e _=>e⟩
theorem Ext.trans{p:Nat}{h h1 h2:Hp}(a:Ext p h h1)(b:Ext p h1 h2):Ext p h h2:=
 ⟨bG a.len b.len,fun q o e n=>b.keep q o (a.keep q o e n) n⟩
theorem Ext.app(p:Nat)(h:Hp)(x:List O):Ext p h (h++x):=⟨by simp,fun _ _ e _=>aQ x e⟩
theorem Ext.set(p:Nat)(h:Hp)(o:O):Ext p h (h.set p o):=⟨by simp,fun _ _ e n=>bH (aX n) e⟩
section
variable {C:Or}{σ σ':Env}{h h' h2:Hp}{s:St}{r a b:List St}{c:E}{w:W}{i:Nat}{z:R Fl}
theorem o8(e:dC C s σ h=.ok (.next σ') h')(k:aF C r σ' h'=z):aF C (s::r) σ h=z:=by rw[dF,e];exact k
theorem lG(e:af C c σ h=.ok w h')(k:aF C r (σ.set i (some w)) h'=z):aF C (.set i c::r) σ h=z:=by rw[dF,Gu,e];exact k
theorem gN(e:af C c σ h=.ok w h'):aF C (.ret c::r) σ h=.ok (.ret w) h':=by rw[dF,FO,e];rfl
theorem qJ(e:af C c σ h=.ok (.bl false) h')(k:aF C r σ h'=z):aF C (.iff c a []::r) σ h=z:=by rw[dF,oz,e];show (aF C [] σ h').bind _=_;rw[DU];exact k
theorem vI(e:af C c σ h=.ok (.bl true) h')(k:aF C a σ h'=.ok (.ret w) h2):aF C (.iff c a b::r) σ h=.ok (.ret w) h2:=by rw[dF,oz,e];show (aF C a σ h').bind _=_;rw[k];rfl
theorem Mc{h3:Hp}(e:af C c σ h=.ok (.bl true) h')(k1:aF C a σ h'=.ok (.next σ') h3)(k:aF C r σ' h3=z):aF C (.iff c a b::r) σ h=z:=by rw[dF,oz,e];show (aF C a σ h').bind _=_;rw[k1];exact k
theorem ui{f:Fn}{xs:List W}(σ:Env)(l:xs.length=f.ps)(eσ:xs.map some++List.replicate (f.ns-f.ps) none=σ)(e:aF C f.body σ h=.ok (.ret w) h'):dZ C f xs h=.ok w h':=by unfold dZ;rw[if_pos l,eσ,e];rfl
theorem rn{f:Fn}{xs:List W}(l:xs.length=f.ps)(e:aF C f.body (xs.map some++List.replicate (f.ns-f.ps) none) h=.ok (.ret w) h'):dZ C f xs h=.ok w h':=by unfold dZ;rw[if_pos l,e];rfl
end
theorem ve(h:Hp)(n:Nat):∀ns:List Int,gq h n (ns.map W.int)=some (ns.map W.int)
 |[]=>rfl
 |x::r=>by simp[ve h n r]
theorem wj(h:Hp)(n:Nat):∀ns:List S,gq h n (ns.map W.str)=some (ns.map W.str)
 |[]=>rfl
 |x::r=>by simp[wj h n r]
structure Gen(p:Nat)(h:Hp):Prop where
 ex:∃(a c:Int) (l:Nat) (ns:List Int),h[p]?=some (.lst [.int a,.ref l,.int c])/\h[l]?=some (.lst (ns.map W.int))/\l<p
theorem Gen.ext{p:Nat}{h:Hp}(g:Gen p h)(x:List O):Gen p (h++x):=by obtain⟨a,c,l,ns,e1,e2,e3⟩:=g.ex;exact⟨a,c,l,ns,aQ x e1,aQ x e2,e3⟩
noncomputable def vZ:Fn:=⟨2,3,[
 .set 2 (.ite (.cmp .ne (.idx (.var 0) (.cst (.int 1))) (.lst .nil)) (.idx (.idx (.var 0) (.cst (.int 1))) (.bin .mod (.idx (.var 0) (.cst (.int 2))) (.blt .len (.idx (.var 0) (.cst (.int 1)))))) (.cst (.int 0))),
 .put (.var 0) (.cst (.int 0)) (.bin .mod (.bin .add (.bin .add (.bin .mul (.idx (.var 0) (.cst (.int 0))) (.cst (.int 48271))) (.bin .mul (.var 2) (.cst (.int 69621)))) (.cst (.int 11))) (.cst (.int 2147483647))),
 .put (.var 0) (.cst (.int 2)) (.bin .add (.idx (.var 0) (.cst (.int 2))) (.cst (.int 1))),
 .ret (.bin .mod (.bin .fdiv (.idx (.var 0) (.cst (.int 0))) (.cst (.int 7))) (.var 1))]⟩
theorem jF{α:Type}(xs:List α)(i:Nat)(h:i<xs.length):dw xs (i:Int)=some xs[i]:=by
 have e1:(0:Int)<=(i:Int):=by lia
 have e2:(i:Int)<(xs.length:Int):=by lia
 simp[dw,ik,e1,e2,kH h]
theorem xw{α:Type}(xs:List α)(c:Int)(h:0<xs.length):∃x,x∈xs/\dw xs (c % (xs.length:Int))=some x:=by
 have e1:0<=c % (xs.length:Int):=Int.emod_nonneg _ (by lia);have e2:c % (xs.length:Int)<(xs.length:Int):=Int.emod_lt_of_pos _ (by lia);have e3:(c % (xs.length:Int)).toNat<xs.length:=by lia
 refine⟨xs[(c % (xs.length:Int)).toNat],vH _,?_⟩;have:=jF xs _ e3;rw[show (((c % (xs.length:Int)).toNat:Nat):Int)=c % (xs.length:Int) by lia] at this;exact this
@[simp] theorem R1{α:Type}(x:α)(xs:List α):dw (x::xs) 0=some x:=by
 have:((0:Nat):Int)<((xs.length:Int)+1):=by lia
 simp[dw,ik]
@[simp] theorem R4{α:Type}(x y:α)(xs:List α):dw (x::y::xs) 1=some y:=by have:=jF (x::y::xs) 1 (by simp);simpa using this
@[simp] theorem R6{α:Type}(x y z:α)(xs:List α):dw (x::y::z::xs) 2=some z:=by have:=jF (x::y::z::xs) 2 (by simp);simpa using this
@[simp] theorem Qz:ik 3 0=some 0:=rfl
@[simp] theorem QI:ik 3 2=some 2:=rfl
@[simp] theorem OW:small 48271=true:=by decide
@[simp] theorem P9:small 69621=true:=by decide
theorem GB{C:Or}{p:Nat}{h:Hp}(g:Gen p h){m:Int}(hm:0<m):
  ∃v h',dZ C vZ [.ref p,.int m] h=.ok (.int v) h'/\0<=v/\v<m/\Ext p h h'/\Gen p h':=by
 obtain⟨a,c,l,ns,e1,e2,e3⟩:=g.ex;have f1:=aQ [O.lst []] e1;have f2:=aQ [O.lst []] e2;have key:∃x:Int,af C (.ite (.cmp .ne (.idx (.var 0) (.cst (.int 1))) (.lst .nil)) (.idx (.idx (.var 0) (.cst (.int 1))) (.bin .mod (.idx (.var 0) (.cst (.int 2))) (.blt .len (.idx (.var 0) (.cst (.int 1)))))) (.cst (.int 0)))
   [some (.ref p),some (.int m),none] h=.ok (.int x) (h++[O.lst []]):=by
  cases ns with
  |nil=>
   refine⟨0,?_⟩;simp[e1,f2,dA,cJ]
  |cons n r=>
   obtain⟨x,hx,ex⟩:=xw ((n::r).map W.int) c (by simp);obtain⟨y,_,rfl⟩:=nQ.mp hx;refine⟨y,?_⟩;have pos:(0:Int)<(r.length:Int)+1:=by lia
   have t:=ve (h++[O.lst []]) 899 r;simp only[gz] at e2 f2 ex;simp only[fZ,iG] at ex;push_cast at ex;simp[e1,f1,f2,t,pos,ex,dA,cJ]
 obtain⟨x,ex⟩:=key;have g1:=iZ (o:=O.lst [.int ((a * 48271+x * 69621+11) % 2147483647),.ref l,.int c]) f1;have g2:=iZ (o:=O.lst [.int ((a * 48271+x * 69621+11) % 2147483647),.ref l,.int (c+1)]) g1;have g3:=bH (o:=O.lst [.int ((a * 48271+x * 69621+11) % 2147483647),.ref l,.int c]) (mK e3) f2;have g4:=bH (o:=O.lst [.int ((a * 48271+x * 69621+11) % 2147483647),.ref l,.int (c+1)]) (mK e3) g3;refine⟨(((a * 48271+x * 69621+11) % 2147483647) / 7) % m,(((h++[O.lst []]).set p (.lst [.int ((a * 48271+x * 69621+11) % 2147483647),.ref l,.int c]))).set p (.lst [.int ((a * 48271+x * 69621+11) % 2147483647),.ref l,.int (c+1)]),?_,Int.emod_nonneg _ (by lia),Int.emod_lt_of_pos _ hm,?_,?_⟩
 .exact ui [some (.ref p),some (.int m),none] rfl rfl (lG ex (o8 (σ':=[some (.ref p),some (.int m),some (.int x)]) (h':=(h++[O.lst []]).set p (.lst [.int ((a * 48271+x * 69621+11) % 2147483647),.ref l,.int c])) (by simp[f1]) (o8 (σ':=[some (.ref p),some (.int m),some (.int x)]) (by simp[g1, -List.set_set];rfl) (gN (by simp[g2,hm, -List.set_set])))))
 .exact ((Ext.app p h _).trans (Ext.set p _ _)).trans (Ext.set p _ _)
 .exact⟨_,_,_,_,g2,g4,e3⟩
set_option genInjectivity true in
inductive Kd where
 |num|tru|row (k:Kd)|pair (a b:Kd)|work (a b:Kd)|any (x:S)|gap (n:Int)
 deriving DecidableEq
abbrev gM:S:=[110,117,109,98,101,114]
abbrev lB:S:=[116,114,117,116,104]
abbrev Py:S:=[114,111,119]
abbrev ud:S:=[112,97,105,114]
abbrev ue:S:=[119,111,114,107]
abbrev Pc:S:=[97,110,121]
abbrev PX:S:=[103,97,112]
noncomputable def Kd.ae:Kd->W
 |.num=>.tup [.str gM]
 |.tru=>.tup [.str lB]
 |.row k=>.tup [.str Py,k.ae]
 |.pair a b=>.tup [.str ud,a.ae,b.ae]
 |.work a b=>.tup [.str ue,a.ae,b.ae]
 |.any x=>.tup [.str Pc,.str x]
 |.gap n=>.tup [.str PX,.int n]
noncomputable def Kd.depth:Kd->Nat
 |.row k=>k.depth+1
 |.pair a b=>max a.depth b.depth+1
 |.work a b=>max a.depth b.depth+1
 |_=>0
def Kd.over(l:List S):Kd->Prop
 |.row k=>k.over l
 |.pair a b=>a.over l/\b.over l
 |.work a b=>a.over l/\b.over l
 |.any x=>x∈l
 |.gap _=>False
 |_=>True
theorem Kd.rd(h:Hp):∀(k:Kd)(n:Nat),k.depth+1<=n->Tw.rd h n k.ae=some k.ae
 |.num,n+1,_=>by simp[Kd.ae]
 |.tru,n+1,_=>by simp[Kd.ae]
 |.any x,n+1,_=>by simp[Kd.ae]
 |.gap x,n+1,_=>by simp[Kd.ae]
 |.row k,n+1,e=>by
  have:=Kd.rd h k n (by simp[Kd.depth] at e;lia);simp[Kd.ae,this]
 |.pair a b,n+1,e=>by
  have h1:=Kd.rd h a n (by simp[Kd.depth] at e;lia);have h2:=Kd.rd h b n (by simp[Kd.depth] at e;lia);simp[Kd.ae,h1,h2]
 |.work a b,n+1,e=>by
  have h1:=Kd.rd h a n (by simp[Kd.depth] at e;lia);have h2:=Kd.rd h b n (by simp[Kd.depth] at e;lia);simp[Kd.ae,h1,h2]
theorem Kd.bq:∀a b:Kd,Tw.bq a.ae b.ae=decide (a=b):=by
 intro a
 induction a with
 |num=>intro b;cases b<;>simp[Kd.ae]
 |tru=>intro b;cases b<;>simp[Kd.ae]
 |any x=>intro b;cases b<;>simp[Kd.ae,B7]
 |gap x=>intro b;cases b<;>simp[Kd.ae,B7]
 |row k ih=>intro b;cases b<;>simp[Kd.ae,ih]
 |pair a b iha ihb=>intro c;cases c<;>simp[Kd.ae,iha,ihb]
 |work a b iha ihb=>intro c;cases c<;>simp[Kd.ae,iha,ihb]
theorem Kd.cJ(h:Hp)(k:Kd):Tw.cJ h k.ae=none:=by cases k<;>simp[Kd.ae,Tw.cJ]
theorem Kd.dA(h:Hp)(a b:Kd)(ha:a.depth<=890)(hb:b.depth<=890):Tw.dA h a.ae b.ae=some (decide (a=b)):=by simp[Tw.dA,Kd.cJ,Kd.rd h a 900 (by lia),Kd.rd h b 900 (by lia),Kd.bq]
theorem run_eq{T:List Fn}{f:Nat}{fn:Fn}(e:T[f]?=some fn)(k:Nat)(xs:List W)(h:Hp):run T (k+1) f xs h=dZ (run T k) fn xs h:=by simp[run,e]
def eU(nx self:Nat):Fn:=⟨3,5,[
 .set 3 (.call nx (.cons (.var 0) (.cons (.cst (.int 8)) .nil))),
 .iff (.and (.cmp .ne (.var 2) (.lst .nil)) (.cmp .eq (.var 3) (.cst (.int 7)))) [.ret (.tup (.cons (.cst (.str [97,110,121])) (.cons (.idx (.var 2) (.call nx (.cons (.var 0) (.cons (.blt .len (.var 2)) .nil)))) .nil)))] [],
 .iff (.or (.cmp .eq (.var 1) (.cst (.int 0))) (.cmp .lt (.var 3) (.cst (.int 3)))) [.ret (.idx (.lst (.cons (.tup (.cons (.cst (.str [110,117,109,98,101,114])) .nil)) (.cons (.tup (.cons (.cst (.str [116,114,117,116,104])) .nil)) .nil))) (.call nx (.cons (.var 0) (.cons (.cst (.int 2)) .nil))))] [],
 .set 4 (.call self (.cons (.var 0) (.cons (.bin .sub (.var 1) (.cst (.int 1))) (.cons (.var 2) .nil)))),
 .iff (.cmp .lt (.var 3) (.cst (.int 5))) [.ret (.tup (.cons (.cst (.str [114,111,119])) (.cons (.var 4) .nil)))] [],
 .ret (.tup (.cons (.idx (.lst (.cons (.cst (.str [112,97,105,114])) (.cons (.cst (.str [119,111,114,107])) .nil))) (.bin .fdiv (.call nx (.cons (.var 0) (.cons (.cst (.int 3)) .nil))) (.cst (.int 2)))) (.cons (.var 4) (.cons (.call self (.cons (.var 0) (.cons (.bin .sub (.var 1) (.cst (.int 1))) (.cons (.var 2) .nil)))) .nil))))]⟩
theorem qD{α:Type}(xs:List α)(i:Int)(h0:0<=i)(h:i<(xs.length:Int)):∃x,x∈xs/\dw xs i=some x:=by
 have e3:i.toNat<xs.length:=by lia
 refine⟨xs[i.toNat],vH _,?_⟩;have:=jF xs _ e3;rw[show ((i.toNat:Nat):Int)=i by lia] at this;exact this
theorem ne_nil{h:Hp}{q:Nat}{names:List S}(e:h[q]?=some (.lst (names.map W.str))):
  dA (h++[O.lst []]) (.ref q) (.ref h.length)=some (decide (names=[])):=by
 have e2:=aQ [O.lst []] e;cases names with
 |nil=>simp[dA,cJ,e2]
 |cons x r=>
  have t:=wj (h++[O.lst []]) 899 r;simp only[gz] at e2;simp[dA,cJ,e2,t]
structure CK(p:Nat)(names:List S)(d:Nat)(h:Hp)(r:R W)(kd:Kd)(h':Hp):Prop where
 eq:r=.ok kd.ae h'
 deep:kd.depth<=d
 over:kd.over names
 ext:Ext p h h'
 gen:Gen p h'
abbrev KZ(C:Or)(nx p:Nat):Prop:=∀(m:Int)(h:Hp),Gen p h->0<m->∃v h',C nx [.ref p,.int m] h=.ok (.int v) h'/\0<=v/\v<m/\Ext p h h'/\Gen p h'
theorem tK{C:Or}{nx self p q:Nat}{names:List S}(mB:KZ C nx p)(hq:q≠p)(d:Nat)
  (ih:0<d->∀h,Gen p h->h[q]?=some (.lst (names.map W.str))->∃kd h',CK p names (d-1) h (C self [.ref p,.int ((d:Int)-1),.ref q] h) kd h')
  (h:Hp) (g:Gen p h) (eq:h[q]?=some (.lst (names.map W.str))):∃kd h',CK p names d h (dZ C (eU nx self) [.ref p,.int d,.ref q] h) kd h':=by
 obtain⟨w,h1,r1,a1,b1,x1,g1⟩:=mB 8 h g (by decide);have eq1:=x1.keep _ _ eq hq;have n1:=ne_nil eq1;have eq2:=aQ [O.lst []] eq1;have g2:=g1.ext [O.lst []];have x2:=x1.trans (Ext.app p h1 [O.lst []]);have far:∀(h:Hp),Gen p h->p≠h.length:=fun h g=>by
  obtain⟨_,_,_,_,e,_⟩:=g.ex;exact fun z=>absurd (k9 e) (by rw[<-z];lia)
 have cA:∀b:Bool,decide (names=[])=!b->af C (.and (.cmp .ne (.var 2) (.lst .nil)) (.cmp .eq (.var 3) (.cst (.int 7)))) [some (.ref p),some (.int d),some (.ref q),some (.int w),none] h1=.ok (.bl (b&&decide (w=7))) (h1++[O.lst []]):=by intro b hb;rw[hb] at n1;cases b<;>simp[n1]
 have e1:af C (.call nx (.cons (.var 0) (.cons (.cst (.int 8)) .nil))) [some (.ref p),some (.int d),some (.ref q),none,none] h=.ok (.int w) h1:=by simp[r1]
 have st:∀{z:R Fl},aF C ((eU nx self).body.drop 1) [some (.ref p),some (.int d),some (.ref q),some (.int w),none] h1=z->aF C (eU nx self).body ([W.ref p,.int d,.ref q].map some++List.replicate ((eU nx self).ns-(eU nx self).ps) none) h=z:=fun k=>lG e1 k;by_cases c1:names≠ []/\w=7
 .obtain⟨c1,rfl⟩:=c1;obtain⟨v,h3,r3,a3,b3,x3,g3⟩:=mB names.length (h1++[O.lst []]) g2 (by
   have:=List.length_pos_iff.mpr c1;lia)
  obtain⟨x,hx,ex⟩:=qD (names.map W.str) v a3 (by simpa using b3);obtain⟨y,hy,rfl⟩:=nQ.mp hx;have eq3:=x3.keep _ _ eq2 hq;refine⟨.any y,h3,rn rfl (st (vI (cA true (by simp[c1])) (gN ?_))),bu _,hy,x2.trans x3,g3⟩;simp[eq2,r3,eq3,ex,Kd.ae]
 .have no1:∀{z:R Fl},aF C ((eU nx self).body.drop 2) [some (.ref p),some (.int d),some (.ref q),some (.int w),none] (h1++[O.lst []])=z->aF C ((eU nx self).body.drop 1) [some (.ref p),some (.int d),some (.ref q),some (.int w),none] h1=z:=fun k=>by
   by_cases hn:names=[]
   .exact qJ (cA false (by simp[hn])) k
   .have:¬ w=7:=fun z=>c1 ⟨hn,z⟩;have cc:=cA true (by simp[hn]);rw[aY this] at cc;exact qJ cc k
  have cB:af C (.or (.cmp .eq (.var 1) (.cst (.int 0))) (.cmp .lt (.var 3) (.cst (.int 3)))) [some (.ref p),some (.int d),some (.ref q),some (.int w),none] (h1++[O.lst []])=.ok (.bl (decide (d=0\/w<3))) (h1++[O.lst []]):=by by_cases hd:d=0<;>by_cases hw:w<3<;>simp[hd,hw]
  by_cases c2:d=0\/w<3
  .rw[bU c2] at cB;obtain⟨v,h3,r3,a3,b3,x3,g3⟩:=mB 2 ((h1++[O.lst []])++[.lst [.tup [.str gM],.tup [.str lB]]]) (g2.ext _) (by decide);have el:=x3.keep _ _ (bp (h1++[O.lst []]) (.lst [.tup [.str gM],.tup [.str lB]])) (aX (far _ g2));have x4:=(x2.trans (Ext.app p _ [.lst [.tup [.str gM],.tup [.str lB]]])).trans x3;have hv:v=0\/v=1:=by lia
   refine⟨if v=0 then .num else .tru,h3,rn rfl (st (no1 (vI cB (gN ?_)))),?_,?_,x4,g3⟩
   .generalize h1++[O.lst []]=hh at *;rcases hv with rfl|rfl
    .simp[r3,el,Kd.ae]
    .simp[r3,el,Kd.ae]
   .rcases hv with rfl|rfl<;>simp[Kd.depth]
   .rcases hv with rfl|rfl<;>simp[Kd.over]
  .rw[aY c2] at cB;have hd:0<d:=by lia
   obtain⟨k1,h3,i1⟩:=ih hd (h1++[O.lst []]) g2 eq2;have eq3:=i1.ext.keep _ _ eq2 hq;have e4:af C (.call self (.cons (.var 0) (.cons (.bin .sub (.var 1) (.cst (.int 1))) (.cons (.var 2) .nil)))) [some (.ref p),some (.int d),some (.ref q),some (.int w),none] (h1++[O.lst []])=.ok k1.ae h3:=by have t1:=i1.eq;simp[t1]
   have st2:∀{z:R Fl},aF C ((eU nx self).body.drop 4) [some (.ref p),some (.int d),some (.ref q),some (.int w),some k1.ae] h3=z->aF C (eU nx self).body ([W.ref p,.int d,.ref q].map some++List.replicate ((eU nx self).ns-(eU nx self).ps) none) h=z:=fun k=>st (no1 (qJ cB (lG e4 k)));have cC:af C (.cmp .lt (.var 3) (.cst (.int 5))) [some (.ref p),some (.int d),some (.ref q),some (.int w),some k1.ae] h3=.ok (.bl (decide (w<5))) h3:=by simp
   by_cases c3:w<5
   .rw[bU c3] at cC;refine⟨.row k1,h3,rn rfl (st2 (vI cC (gN ?_))),?_,i1.over,x2.trans i1.ext,i1.gen⟩
    .simp[Kd.ae]
    .have:=i1.deep;simp[Kd.depth];lia
   .rw[aY c3] at cC;obtain⟨v,h5,r5,a5,b5,x5,g5⟩:=mB 3 (h3++[.lst [.str ud,.str ue]]) (i1.gen.ext _) (by decide);have el:=x5.keep _ _ (bp h3 (.lst [.str ud,.str ue])) (aX (far _ i1.gen));have eq5:=x5.keep _ _ (aQ [O.lst [.str ud,.str ue]] eq3) hq;obtain⟨k2,h6,i2⟩:=ih hd h5 g5 eq5;have hv:v / 2=0\/v / 2=1:=by lia
    refine⟨if v / 2=0 then .pair k1 k2 else .work k1 k2,h6,rn rfl (st2 (qJ cC (gN ?_))),?_,?_,(((x2.trans i1.ext).trans (Ext.app p _ _)).trans x5).trans i2.ext,i2.gen⟩
    .have t2:=i2.eq;rcases hv with hv|hv
     .simp[t2,r5,el,hv,Kd.ae]
     .simp[t2,r5,el,hv,Kd.ae]
    .have:=i1.deep;have:=i2.deep;rcases hv with hv|hv<;>simp[Kd.depth,hv]<;>lia
    .rcases hv with hv|hv<;>simp[Kd.over,hv]<;>exact⟨i1.over,i2.over⟩
theorem rR{T:List Fn}{nx:Nat}(hn:T[nx]?=some vZ)(k p:Nat):KZ (run T (k+1)) nx p:=fun m h g hm=>by
 rw[run_eq hn];exact GB g hm
theorem xJ{T:List Fn}{nx self p q:Nat}{names:List S}(hn:T[nx]?=some vZ)(hs:T[self]?=some (eU nx self))(hq:q≠p):
  ∀(d k:Nat)(h:Hp),Gen p h->h[q]?=some (.lst (names.map W.str))->∃kd h',CK p names d h (run T (d+k+2) self [.ref p,.int d,.ref q] h) kd h'
 |0,k,h,g,e=>by
  rw[show 0+k+2=(k+1)+1 by lia,run_eq hs];exact tK (rR hn k p) hq 0 (fun z=>absurd z (by lia)) h g e
 |d+1,k,h,g,e=>by
  rw[show d+1+k+2=(d+k+2)+1 by lia,run_eq hs];refine tK (rR hn (d+k+1) p) hq (d+1) (fun _ h g e=>?_) h g e;have:=xJ hn hs hq d k h g e;simpa using this
end Tw
namespace K05
open Tw
noncomputable abbrev C:=Co Kd
abbrev lk(k:Kd):Kd:=.work k (.work k .tru)
inductive Ty:List Kd->C->Kd->Prop
 |num {Γ i}:Ty Γ (.num i) .num
 |yes {Γ}:Ty Γ .yes .tru
 |no {Γ}:Ty Γ .no .tru
 |var {Γ i k}:Γ[i]?=some k->Ty Γ (.var i) k
 |ah {Γ k}:Ty Γ (.ah k) (.row k)
 |jk {Γ}:Ty Γ (.like .num) (lk .num)
 |jm {Γ}:Ty Γ (.like .tru) (lk .tru)
 |fn {Γ k c t}:Ty (k::Γ) c t->Ty Γ (.fn k c) (.work k t)
 |left {Γ a x y}:Ty Γ a (.pair x y)->Ty Γ (.n1 .left a) x
 |right {Γ a x y}:Ty Γ a (.pair x y)->Ty Γ (.n1 .right a) y
 |bA {Γ a x}:Ty Γ a (lk x)->Ty Γ (.n1 .bA a) (lk (.row x))
 |call {Γ a b x y}:Ty Γ a (.work x y)->Ty Γ b x->Ty Γ (.n2 .call a b) y
 |both {Γ a b x y}:Ty Γ a x->Ty Γ b y->Ty Γ (.n2 .both a b) (.pair x y)
 |more {Γ a b x}:Ty Γ a x->Ty Γ b (.row x)->Ty Γ (.n2 .more a b) (.row x)
 |sum {Γ a b}:Ty Γ a .num->Ty Γ b .num->Ty Γ (.n2 .sum a b) .num
 |less {Γ a b}:Ty Γ a .num->Ty Γ b .num->Ty Γ (.n2 .less a b) .tru
 |bx {Γ a b x y}:Ty Γ a (lk x)->Ty Γ b (lk y)->Ty Γ (.n2 .bx a b) (lk (.pair x y))
 |fold {Γ a b c x y}:Ty Γ a (.row x)->Ty Γ b y->Ty Γ c (.work x (.work y y))->Ty Γ (.n3 .fold a b c) y
 |bh {Γ a b c x}:Ty Γ a .tru->Ty Γ b x->Ty Γ c x->Ty Γ (.n3 .bh a b c) x
theorem Ty.weak{Γ:List Kd}{c:C}{t:Kd}(h:Ty Γ c t):∀(Δ:List Kd),Ty (Γ++Δ) c t:=by
 induction h with
 |num=>exact fun _=>.num
 |yes=>exact fun _=>.yes
 |no=>exact fun _=>.no
 |var e=>exact fun Δ=>.var (by rw[e9 (fH.mp e).1];exact e)
 |ah=>exact fun _=>.ah
 |jk=>exact fun _=>.jk
 |jm=>exact fun _=>.jm
 |fn _ ih=>exact fun Δ=>.fn (ih Δ)
 |left _ ih=>exact fun Δ=>.left (ih Δ)
 |right _ ih=>exact fun Δ=>.right (ih Δ)
 |bA _ ih=>exact fun Δ=>.bA (ih Δ)
 |call _ _ i j=>exact fun Δ=>.call (i Δ) (j Δ)
 |both _ _ i j=>exact fun Δ=>.both (i Δ) (j Δ)
 |more _ _ i j=>exact fun Δ=>.more (i Δ) (j Δ)
 |sum _ _ i j=>exact fun Δ=>.sum (i Δ) (j Δ)
 |less _ _ i j=>exact fun Δ=>.less (i Δ) (j Δ)
 |bx _ _ i j=>exact fun Δ=>.bx (i Δ) (j Δ)
 |fold _ _ _ i j k=>exact fun Δ=>.fold (i Δ) (j Δ) (k Δ)
 |bh _ _ _ i j k=>exact fun Δ=>.bh (i Δ) (j Δ) (k Δ)
theorem Ty.vd{Γ:List Kd}{c:C}{t:Kd}(h:Ty Γ c t):∀n,Γ.length<=n->c.vd n=0:=by
 induction h with
 |var e=>intro n hn;have:=(fH.mp e).1;simp only[Co.vd];rw[if_neg (by lia)]
 |fn _ ih=>intro n hn;simp only[Co.vd,ih (n+1) (by simpa using hn)];rfl
 |left _ ih=>intro n hn;simp only[Co.vd,ih n hn];rfl
 |right _ ih=>intro n hn;simp only[Co.vd,ih n hn];rfl
 |bA _ ih=>intro n hn;simp only[Co.vd,ih n hn];rfl
 |call _ _ i j=>intro n hn;simp only[Co.vd,i n hn,j n hn];rfl
 |both _ _ i j=>intro n hn;simp only[Co.vd,i n hn,j n hn];rfl
 |more _ _ i j=>intro n hn;simp only[Co.vd,i n hn,j n hn];rfl
 |sum _ _ i j=>intro n hn;simp only[Co.vd,i n hn,j n hn];rfl
 |less _ _ i j=>intro n hn;simp only[Co.vd,i n hn,j n hn];rfl
 |bx _ _ i j=>intro n hn;simp only[Co.vd,i n hn,j n hn];rfl
 |fold _ _ _ i j k=>intro n hn;simp only[Co.vd,i n hn,j n hn,k n hn];rfl
 |bh _ _ _ i j k=>intro n hn;simp only[Co.vd,i n hn,j n hn,k n hn];rfl
 |_=>intro n hn;rfl
theorem Ty.closed{c:C}{t:Kd}(h:Ty [] c t):c.closed:=fun n=>h.vd n (bu _)
theorem Ty.into{v:C}{k:Kd}(hv:Ty [] v k){Γ:List Kd}{c:C}{t:Kd}(h:Ty Γ c t):∀(Δ:List Kd),Γ=Δ++[k]->Ty Δ (Co.into v Δ.length c) t:=by
 induction h with
 |num=>exact fun _ _=>.num
 |yes=>exact fun _ _=>.yes
 |no=>exact fun _ _=>.no
 | @var Γ i k' e=>
  intro Δ z;subst z;simp only[Co.into];by_cases q:i=Δ.length
  .rw[if_pos q];rw[q,lQ (aA _)] at e;simp at e;subst e;exact hv.weak Δ
  .rw[if_neg q];have:=(fH.mp e).1;simp at this;rw[e9 (by lia)] at e;exact .var e
 |ah=>exact fun _ _=>.ah
 |jk=>exact fun _ _=>.jk
 |jm=>exact fun _ _=>.jm
 | @fn Γ k' c t _ ih=>exact fun Δ z=>.fn (ih (k'::Δ) (by rw[z];rfl))
 |left _ ih=>exact fun Δ z=>.left (ih Δ z)
 |right _ ih=>exact fun Δ z=>.right (ih Δ z)
 |bA _ ih=>exact fun Δ z=>.bA (ih Δ z)
 |call _ _ i j=>exact fun Δ z=>.call (i Δ z) (j Δ z)
 |both _ _ i j=>exact fun Δ z=>.both (i Δ z) (j Δ z)
 |more _ _ i j=>exact fun Δ z=>.more (i Δ z) (j Δ z)
 |sum _ _ i j=>exact fun Δ z=>.sum (i Δ z) (j Δ z)
 |less _ _ i j=>exact fun Δ z=>.less (i Δ z) (j Δ z)
 |bx _ _ i j=>exact fun Δ z=>.bx (i Δ z) (j Δ z)
 |fold _ _ _ i j k=>exact fun Δ z=>.fold (i Δ z) (j Δ z) (k Δ z)
 |bh _ _ _ i j k=>exact fun Δ z=>.bh (i Δ z) (j Δ z) (k Δ z)
noncomputable def bare:C->C
 |.en a _=>a
 |c=>c
noncomputable def dj:C->Bool
 |.like _=>true
 |.n1 .bA _=>true
 |.n2 .bx _ _=>true
 |_=>false
abbrev bL(c:C):Bool:=dj (bare c)
noncomputable def Co.ended:C->Bool
 |.num _=>true
 |.yes=>true
 |.no=>true
 |.ah _=>true
 |.like _=>true
 |.fn _ _=>true
 |.en _ _=>true
 |.n1 .bA a=>Co.ended a
 |.n2 .both a b=>Co.ended a&&Co.ended b
 |.n2 .more a b=>Co.ended a&&Co.ended b
 |.n2 .bx a b=>Co.ended a&&Co.ended b
 |.n2 .call a b=>bL a&&Co.ended a&&Co.ended b
 |_=>false
theorem bQ{c:C}(h:Ty [] c .num)(e:Co.ended c=true):∃i,c=.num i:=by
 cases h with
 |num=>exact⟨_,rfl⟩
 |var e=>simp at e
 |call h1 h2=>
  simp only[Co.ended,ao] at e;cases h1<;>first|(simp[bL,bare,dj] at e;done)|skip
 |_=>simp[Co.ended] at e
theorem jE{c:C}(h:Ty [] c .tru)(e:Co.ended c=true):c=.yes\/c=.no:=by
 cases h with
 |yes=>exact .inl rfl
 |no=>exact .inr rfl
 |var e=>simp at e
 |call h1 h2=>
  simp only[Co.ended,ao] at e;cases h1<;>first|(simp[bL,bare,dj] at e;done)|skip
 |_=>simp[Co.ended] at e
theorem cP{c:C}{x y:Kd}(h:Ty [] c (.pair x y))(e:Co.ended c=true):∃a b,c=.n2 .both a b/\Co.ended a=true/\Co.ended b=true/\Ty [] a x/\Ty [] b y:=by
 cases h with
 |both h1 h2=>simp only[Co.ended,ao] at e;exact⟨_,_,rfl,e.1,e.2,h1,h2⟩
 |var e=>simp at e
 |call h1 h2=>
  simp only[Co.ended,ao] at e;cases h1<;>first|(simp[bL,bare,dj] at e;done)|skip
 |_=>simp[Co.ended] at e
theorem gL{c:C}{x:Kd}(h:Ty [] c (.row x))(e:Co.ended c=true):c=.ah x\/∃a b,c=.n2 .more a b/\Co.ended a=true/\Co.ended b=true/\Ty [] a x/\Ty [] b (.row x):=by
 cases h with
 |ah=>exact .inl rfl
 |more h1 h2=>simp only[Co.ended,ao] at e;exact .inr ⟨_,_,rfl,e.1,e.2,h1,h2⟩
 |var e=>simp at e
 |call h1 h2=>
  simp only[Co.ended,ao] at e;cases h1<;>first|(simp[bL,bare,dj] at e;done)|skip
 |_=>simp[Co.ended] at e
theorem l5{c:C}{x y:Kd}(h:Ty [] c (.work x y))(e:Co.ended c=true):(∃b,c=.fn x b/\Ty [x] b y)\/(bL c=true/\y=.work x .tru)\/∃l v,c=.n2 .call l v/\bL l=true/\Co.ended l=true/\Co.ended v=true/\Ty [] l (lk x)/\Ty [] v x/\y=.tru:=by
 cases h with
 |fn h1=>exact .inl ⟨_,rfl,h1⟩
 |jk=>exact .inr (.inl ⟨rfl,rfl⟩)
 |jm=>exact .inr (.inl ⟨rfl,rfl⟩)
 |bA _=>exact .inr (.inl ⟨rfl,rfl⟩)
 |bx _ _=>exact .inr (.inl ⟨rfl,rfl⟩)
 |var e=>simp at e
 | @call _ a b x' _ h1 h2=>
  simp only[Co.ended,ao] at e;have l:∃z,Kd.work x' (.work x y)=lk z:=by cases h1<;>first|(simp[bL,bare,dj] at e;done)|exact⟨_,rfl⟩
  obtain⟨z,l⟩:=l;cases l;exact .inr (.inr ⟨_,_,rfl,e.1.1,e.1.2,e.2,h1,h2,rfl⟩)
 |_=>simp[Co.ended] at e
noncomputable def Ei:C->C->Bool
 |.num i,.num j=>decide (i=j)
 |.yes,.yes=>true
 |.no,.no=>true
 |_,_=>false
def ask(l x y:C):C:=.n2 .call (.n2 .call l x) y
def compared(l x y:C):C:=match l with
 |.like _=>if Ei x y then .yes else .no
 |.n1 .bA l1=>match x,y with
  |.n2 .more x1 x2,.n2 .more y1 y2=>.n3 .bh (ask l1 x1 y1) (ask (.n1 .bA l1) x2 y2) .no
  |.ah _,.ah _=>.yes
  |_,_=>.no
 |.n2 .bx l1 l2=>match x,y with
  |.n2 .both x1 x2,.n2 .both y1 y2=>.n3 .bh (ask l1 x1 y1) (ask l2 x2 y2) .no
  |_,_=>.no
 |_=>.no
noncomputable def pT:T1->C->C
 |.left,.n2 .both a _=>a
 |.right,.n2 .both _ b=>b
 |t,a=>.n1 t a
noncomputable def gE:T2->C->C->C
 |.call,.fn _ c,v=>Co.into v 0 c
 |.call,.n2 .call l x,y=>compared l x y
 |.sum,.num i,.num j=>.num (i+j)
 |.less,.num i,.num j=>if i<j then .yes else .no
 |t,a,b=>.n2 t a b
noncomputable def vG:C->C->C->C
 |.n2 .more x r,s,w=>.n2 .call (.n2 .call w x) (.n3 .fold r s w)
 |_,s,_=>s
noncomputable def Co.au:C->C
 |.n1 t a=>if Co.ended a then pT t a else .n1 t (Co.au a)
 |.n2 t a b=>if Co.ended a then (if Co.ended b then gE t a b else .n2 t a (Co.au b)) else .n2 t (Co.au a) b
 |.n3 .fold a b c=>if Co.ended a then (if Co.ended b then (if Co.ended c then vG a b c else .n3 .fold a b (Co.au c)) else .n3 .fold a (Co.au b) c) else .n3 .fold (Co.au a) b c
 |.n3 .bh a b c=>if Co.ended a then (match a with | .yes=>b|_=>c) else .n3 .bh (Co.au a) b c
 |c=>c
def Sk(P:Nat)(c:C)(t:Kd):Prop:=Ty [] c t/\c.nm P
theorem qP{l1 l x1 x y1 y:Nat}(h1:l1<=l)(h2:x1<=x)(h3:y1<=y):max (max l1 x1+1) y1+1<=max (max l x+1) y+1:=
 zf (Nat.max_le.mpr ⟨bG (zf (Nat.max_le.mpr ⟨bG h1 (mQ _ _),bG h2 (lY _ _)⟩)) (mQ _ _),bG h3 (lY _ _)⟩)
theorem Bm{A B D:Nat}(a:A<=D)(b:B<=D):max A (max B 0)+1<=D+1:=zf (Nat.max_le.mpr ⟨a,Nat.max_le.mpr ⟨b,bu _⟩⟩)
theorem vO(a b:Nat):a<=max a b+1:=Nat.le_succ_of_le (mQ _ _)
theorem wM(a b:Nat):b<=max a b+1:=Nat.le_succ_of_le (lY _ _)
theorem wU{P:Nat}{l x y:C}{k:Kd}(hl:Sk P l (lk k))(il:bL l=true)(el:Co.ended l=true)(hx:Sk P x k)(ex:Co.ended x=true)(hy:Sk P y k)(ey:Co.ended y=true):Sk P (compared l x y) .tru/\(compared l x y).depth<=(ask l x y).depth+1:=by
 obtain⟨tl,nl⟩:=hl;obtain⟨tx,nx⟩:=hx;obtain⟨ty,ny⟩:=hy;have yn:∀b:Bool,Sk P (if b=true then .yes else .no) .tru/\(if b=true then (.yes:C) else .no).depth<=(ask l x y).depth+1:=fun b=>by cases b<;>exact⟨⟨by constructor,trivial⟩,bu _⟩
 cases tl with
 |jk=>exact yn _
 |jm=>exact yn _
 |bA h1=>
  rcases gL tx ex with rfl|⟨x1,x2,rfl,e1,e2,t1,t2⟩<;>rcases gL ty ey with rfl|⟨y1,y2,rfl,f1,f2,u1,u2⟩
  .exact yn true
  .exact yn false
  .exact yn false
  .refine⟨⟨.bh (.call (.call h1 t1) u1) (.call (.call (.bA h1) t2) u2) .no,⟨⟨nl,nx.1⟩,ny.1⟩,⟨⟨nl,nx.2⟩,ny.2⟩,trivial⟩,?_⟩;exact Bm (qP (rM _) (vO _ _) (vO _ _)) (qP (aA _) (wM _ _) (wM _ _))
 |bx h1 h2=>
  obtain⟨x1,x2,rfl,e1,e2,t1,t2⟩:=cP tx ex;obtain⟨y1,y2,rfl,f1,f2,u1,u2⟩:=cP ty ey;refine⟨⟨.bh (.call (.call h1 t1) u1) (.call (.call h2 t2) u2) .no,⟨⟨nl.1,nx.1⟩,ny.1⟩,⟨⟨nl.2,nx.2⟩,ny.2⟩,trivial⟩,?_⟩;exact Bm (qP (vO _ _) (vO _ _) (vO _ _)) (qP (wM _ _) (wM _ _) (wM _ _))
 |var e=>simp at e
 |fn _=>simp[bL,bare,dj] at il
 |left _=>simp[bL,bare,dj] at il
 |right _=>simp[bL,bare,dj] at il
 |call _ _=>simp[bL,bare,dj] at il
 |fold _ _ _=>simp[bL,bare,dj] at il
 |bh _ _ _=>simp[bL,bare,dj] at il
theorem g1{x y P:Nat}(h:x+1<=y+P):x+1+1<=y+1+P:=by lia
theorem gl{x y z P:Nat}(hp:2<=P)(h:x+1<=y+P):max x z+1+1<=max y z+1+P:=by lia
theorem gr{x y z P:Nat}(hp:2<=P)(h:x+1<=y+P):max z x+1+1<=max z y+1+P:=by lia
theorem gm{x y z w P:Nat}(hp:2<=P)(h:x+1<=y+P):max z (max x w)+1+1<=max z (max y w)+1+P:=by lia
theorem ge{x y z w P:Nat}(hp:2<=P)(h:x+1<=y+P):max z (max w x)+1+1<=max z (max w y)+1+P:=by lia
theorem bE{P:Nat}(hp:2<=P):∀(c:C)(t:Kd),Sk P c t->Co.ended c=false->Sk P (Co.au c) t/\(Co.au c).depth+1<=c.depth+P
 |.num _,_,_,e=>by simp[Co.ended] at e
 |.yes,_,_,e=>by simp[Co.ended] at e
 |.no,_,_,e=>by simp[Co.ended] at e
 |.ah _,_,_,e=>by simp[Co.ended] at e
 |.like _,_,_,e=>by simp[Co.ended] at e
 |.fn _ _,_,_,e=>by simp[Co.ended] at e
 |.en _ _,_,_,e=>by simp[Co.ended] at e
 |.var _,_,⟨h,_⟩,_=>by cases h with|var z=>simp at z
 |.n1 tg a,t,⟨h,n⟩,e=>by
  simp only[Co.au];by_cases ea:Co.ended a=true
  .rw[if_pos ea];cases h with
   |left h1=>
    obtain⟨x1,x2,rfl,e1,e2,t1,t2⟩:=cP h1 ea;exact⟨⟨t1,n.1⟩,by simp only[pT,Co.depth];lia⟩
   |right h1=>
    obtain⟨x1,x2,rfl,e1,e2,t1,t2⟩:=cP h1 ea;exact⟨⟨t2,n.2⟩,by simp only[pT,Co.depth];lia⟩
   |bA h1=>simp[Co.ended,ea] at e
  .rw[if_neg ea];have ea':Co.ended a=false:=by simpa using ea
   cases h with
   |left h1=>obtain⟨s,d⟩:=bE hp a _ ⟨h1,n⟩ ea';exact⟨⟨.left s.1,s.2⟩,g1 d⟩
   |right h1=>obtain⟨s,d⟩:=bE hp a _ ⟨h1,n⟩ ea';exact⟨⟨.right s.1,s.2⟩,g1 d⟩
   |bA h1=>obtain⟨s,d⟩:=bE hp a _ ⟨h1,n⟩ ea';exact⟨⟨.bA s.1,s.2⟩,g1 d⟩
 |.n2 tg a b,t,⟨h,n⟩,e=>by
  simp only[Co.au];by_cases ea:Co.ended a=true
  .rw[if_pos ea];by_cases eb:Co.ended b=true
   .rw[if_pos eb];cases h with
    |call h1 h2=>
     rcases l5 h1 ea with ⟨b',rfl,h3⟩|⟨il,_⟩|⟨l,v,rfl,il,el,ev,tl,tv,rfl⟩
     .have z:=Ty.into h2 h3 [] rfl;refine⟨⟨z,gR h2.closed n.2 _ 0 n.1.2⟩,?_⟩;have:=zP (k:=by assumption) (b:=b') (v:=b) (P:=P) (by lia) n.1.1;simpa [gE] using this
     .simp[Co.ended,il,ea,eb] at e
     .obtain⟨s,d⟩:=wU (P:=P) ⟨tl,n.1.1⟩ il el ⟨tv,n.1.2⟩ ev ⟨h2,n.2⟩ eb;exact⟨s,by simp only[gE];simp only[ask] at d;lia⟩
    |both _ _=>simp[Co.ended,ea,eb] at e
    |more _ _=>simp[Co.ended,ea,eb] at e
    |bx _ _=>simp[Co.ended,ea,eb] at e
    |sum h1 h2=>
     obtain⟨i,rfl⟩:=bQ h1 ea;obtain⟨j,rfl⟩:=bQ h2 eb;exact⟨⟨.num,trivial⟩,by simp only[gE,Co.depth];lia⟩
    |less h1 h2=>
     obtain⟨i,rfl⟩:=bQ h1 ea;obtain⟨j,rfl⟩:=bQ h2 eb;simp only[gE];by_cases q:i<j
     .rw[if_pos q];exact⟨⟨.yes,trivial⟩,by simp only[Co.depth];lia⟩
     .rw[if_neg q];exact⟨⟨.no,trivial⟩,by simp only[Co.depth];lia⟩
   .rw[if_neg eb];have eb':Co.ended b=false:=by simpa using eb
    cases h with
    |call h1 h2=>obtain⟨s,d⟩:=bE hp b _ ⟨h2,n.2⟩ eb';exact⟨⟨.call h1 s.1,n.1,s.2⟩,gr hp d⟩
    |both h1 h2=>obtain⟨s,d⟩:=bE hp b _ ⟨h2,n.2⟩ eb';exact⟨⟨.both h1 s.1,n.1,s.2⟩,gr hp d⟩
    |more h1 h2=>obtain⟨s,d⟩:=bE hp b _ ⟨h2,n.2⟩ eb';exact⟨⟨.more h1 s.1,n.1,s.2⟩,gr hp d⟩
    |sum h1 h2=>obtain⟨s,d⟩:=bE hp b _ ⟨h2,n.2⟩ eb';exact⟨⟨.sum h1 s.1,n.1,s.2⟩,gr hp d⟩
    |less h1 h2=>obtain⟨s,d⟩:=bE hp b _ ⟨h2,n.2⟩ eb';exact⟨⟨.less h1 s.1,n.1,s.2⟩,gr hp d⟩
    |bx h1 h2=>obtain⟨s,d⟩:=bE hp b _ ⟨h2,n.2⟩ eb';exact⟨⟨.bx h1 s.1,n.1,s.2⟩,gr hp d⟩
  .rw[if_neg ea];have ea':Co.ended a=false:=by simpa using ea
   cases h with
   |call h1 h2=>obtain⟨s,d⟩:=bE hp a _ ⟨h1,n.1⟩ ea';exact⟨⟨.call s.1 h2,s.2,n.2⟩,gl hp d⟩
   |both h1 h2=>obtain⟨s,d⟩:=bE hp a _ ⟨h1,n.1⟩ ea';exact⟨⟨.both s.1 h2,s.2,n.2⟩,gl hp d⟩
   |more h1 h2=>obtain⟨s,d⟩:=bE hp a _ ⟨h1,n.1⟩ ea';exact⟨⟨.more s.1 h2,s.2,n.2⟩,gl hp d⟩
   |sum h1 h2=>obtain⟨s,d⟩:=bE hp a _ ⟨h1,n.1⟩ ea';exact⟨⟨.sum s.1 h2,s.2,n.2⟩,gl hp d⟩
   |less h1 h2=>obtain⟨s,d⟩:=bE hp a _ ⟨h1,n.1⟩ ea';exact⟨⟨.less s.1 h2,s.2,n.2⟩,gl hp d⟩
   |bx h1 h2=>obtain⟨s,d⟩:=bE hp a _ ⟨h1,n.1⟩ ea';exact⟨⟨.bx s.1 h2,s.2,n.2⟩,gl hp d⟩
 |.n3 .fold a b c,t,⟨h,n⟩,e=>by
  simp only[Co.au];cases h with
  |fold h1 h2 h3=>
   by_cases ea:Co.ended a=true
   .rw[if_pos ea];by_cases eb:Co.ended b=true
    .rw[if_pos eb];by_cases ec:Co.ended c=true
     .rw[if_pos ec];rcases gL h1 ea with rfl|⟨x1,x2,rfl,e1,e2,t1,t2⟩
      .exact⟨⟨h2,n.2.1⟩,by simp only[vG,Co.depth];lia⟩
      .exact⟨⟨.call (.call h3 t1) (.fold t2 h2 h3),⟨n.2.2,n.1.1⟩,n.1.2,n.2.1,n.2.2⟩,bG (zf y8) (by lia)⟩
     .rw[if_neg ec];obtain⟨s,d⟩:=bE hp c _ ⟨h3,n.2.2⟩ (by simpa using ec);exact⟨⟨.fold h1 h2 s.1,n.1,n.2.1,s.2⟩,ge hp d⟩
    .rw[if_neg eb];obtain⟨s,d⟩:=bE hp b _ ⟨h2,n.2.1⟩ (by simpa using eb);exact⟨⟨.fold h1 s.1 h3,n.1,s.2,n.2.2⟩,gm hp d⟩
   .rw[if_neg ea];obtain⟨s,d⟩:=bE hp a _ ⟨h1,n.1⟩ (by simpa using ea);exact⟨⟨.fold s.1 h2 h3,s.2,n.2⟩,gl hp d⟩
 |.n3 .bh a b c,t,⟨h,n⟩,e=>by
  simp only[Co.au];cases h with
  |bh h1 h2 h3=>
   by_cases ea:Co.ended a=true
   .rw[if_pos ea];rcases jE h1 ea with rfl|rfl
    .exact⟨⟨h2,n.2.1⟩,by simp only[Co.depth];lia⟩
    .exact⟨⟨h3,n.2.2⟩,by simp only[Co.depth];lia⟩
   .rw[if_neg ea];obtain⟨s,d⟩:=bE hp a _ ⟨h1,n.1⟩ (by simpa using ea);exact⟨⟨.bh s.1 h2 h3,s.2,n.2⟩,gl hp d⟩
noncomputable def Co.steps:Nat->C->C
 |0,c=>c
 |n+1,c=>if Co.ended c then c else Co.steps n (Co.au c)
theorem vA{P:Nat}(hp:2<=P):∀(n:Nat)(c:C)(t:Kd),Sk P c t->Sk P (Co.steps n c) t/\(Co.steps n c).depth<=c.depth+n * (P-1)
 |0,c,t,h=>⟨h,by simp[Co.steps]⟩
 |n+1,c,t,h=>by
  simp only[Co.steps];by_cases e:Co.ended c=true
  .rw[if_pos e];exact⟨h,Nat.le_add_right _ _⟩
  .rw[if_neg e];obtain⟨s,d⟩:=bE hp c t h (by simpa using e);obtain⟨s2,d2⟩:=vA hp n (Co.au c) t s;refine⟨s2,?_⟩;have:(n+1) * (P-1)=n * (P-1)+(P-1):=by rw[Nat.add_mul,Nat.one_mul]
   lia
noncomputable def wt:Kd->Nat
 |.row a=>wt a+2
 |.pair a b=>max (wt a) (wt b)+1
 |.work a b=>max (wt a) (wt b)+1
 |_=>0
theorem iS:∀k:Kd,wt k<=2 * k.depth
 |.num=>bu _
 |.tru=>bu _
 |.any _=>bu _
 |.gap _=>bu _
 |.row a=>by have:=iS a;simp only[wt,Kd.depth];lia
 |.pair a b=>by have:=iS a;have:=iS b;simp only[wt,Kd.depth];lia
 |.work a b=>by have:=iS a;have:=iS b;simp only[wt,Kd.depth];lia
def md(d:Nat)(k:Kd):Nat:=if d=0 then wt k else max 2 (wt k)+3 * d
section
variable {d:Nat}{k o a b:Kd}
theorem xA(h:wt o<=2):md d (.work o k)+1<=md (d+1) k/\md d o+1<=md (d+1) k:=by simp only[md,wt];by_cases e:d=0<;>simp only[e,fg,dq,Nat.succ_ne_zero]<;>(try rw[if_neg (by lia)])<;>lia
theorem gQ:md d k+1<=md (d+1) k/\md d .tru+1<=md (d+1) k/\md d .num+1<=md (d+1) k:=by simp only[md,wt];by_cases e:d=0<;>simp only[e,fg,dq]<;>(try rw[if_neg (by lia)])<;>lia
theorem xD(h:wt o<=2):md d (.row o)+1<=md (d+1) k/\md d (.work o (.work k k))+1<=md (d+1) k:=by simp only[md,wt];by_cases e:d=0<;>simp only[e,fg,dq]<;>(try rw[if_neg (by lia)])<;>lia
theorem oJ(h:wt o<=2):md d (.pair k o)+1<=md (d+1) k/\md d (.pair o k)+1<=md (d+1) k:=by simp only[md,wt];by_cases e:d=0<;>simp only[e,fg,dq]<;>(try rw[if_neg (by lia)])<;>lia
theorem xj:md (d-1) a+1<=md d (.pair a b)/\md (d-1) b+1<=md d (.pair a b):=by
 simp only[md,wt];rcases d with _|_|d
 .simp;lia
 .simp;lia
 .simp only[zj,Cq,Nat.one_ne_zero,and_false,dq];lia
theorem qE:md (d-1) a+2<=md d (.row a):=by
 simp only[md,wt];rcases d with _|_|d
 .simp
 .simp<;>lia
 .simp only[zj,Cq,Nat.one_ne_zero,and_false,dq];lia
theorem xQ:md (d-1) b+1<=md d (.work a b):=by
 simp only[md,wt];rcases d with _|_|d
 .simp;lia
 .simp;lia
 .simp only[zj,Cq,Nat.one_ne_zero,and_false,dq];lia
end
theorem LU{d:Nat}{a b:Kd}(h:md d (.work a b)+4<=16+d)(hd:d<=4)(t:d=4->max (wt a) (wt b)<=2):md (d-1) b<=11:=by simp only[md,wt] at h⊢;rcases d with _|_|_|_|_|d<;>simp at h t⊢<;>lia
noncomputable def fT:Kd->C
 |.row a=>.n1 .bA (fT a)
 |.pair a b=>.n2 .bx (fT a) (fT b)
 |k=>.like k
noncomputable def iV:Kd->Prop
 |.num=>True
 |.tru=>True
 |.row a=>iV a
 |.pair a b=>iV a/\iV b
 |_=>False
theorem gB:∀(k:Kd),iV k->∀Γ,Ty Γ (fT k) (lk k)/\(fT k).depth<=wt k/\∀P,(fT k).nm P
 |.num,_,Γ=>⟨.jk,bu _,fun _=>trivial⟩
 |.tru,_,Γ=>⟨.jm,bu _,fun _=>trivial⟩
 |.row a,h,Γ=>by
  obtain⟨h1,h2,h3⟩:=gB a h Γ;exact⟨.bA h1,by simp only[fT,Co.depth,wt];lia,fun P=>h3 P⟩
 |.pair a b,h,Γ=>by
  obtain⟨h1,h2,h3⟩:=gB a h.1 Γ;obtain⟨g1,g2,g3⟩:=gB b h.2 Γ;exact⟨.bx h1 g1,by simp only[fT,Co.depth,wt];lia,fun P=>⟨h3 P,g3 P⟩⟩
inductive Dr:Nat->List Kd->Kd->C->Prop
 |var {d Γ K i}:Γ[i]?=some K->Dr d Γ K (.var i)
 |call {d Γ K o a b}:wt o<=2->Dr d Γ (.work o K) a->Dr d Γ o b->Dr (d+1) Γ K (.n2 .call a b)
 |bh {d Γ K a b c}:Dr d Γ .tru a->Dr d Γ K b->Dr d Γ K c->Dr (d+1) Γ K (.n3 .bh a b c)
 |fold {d Γ K o a b c}:wt o<=2->Dr d Γ (.row o) a->Dr d Γ K b->Dr d Γ (.work o (.work K K)) c->Dr (d+1) Γ K (.n3 .fold a b c)
 |left {d Γ K o a}:wt o<=2->Dr d Γ (.pair K o) a->Dr (d+1) Γ K (.n1 .left a)
 |right {d Γ K o a}:wt o<=2->Dr d Γ (.pair o K) a->Dr (d+1) Γ K (.n1 .right a)
 |sum {d Γ a b}:Dr d Γ .num a->Dr d Γ .num b->Dr (d+1) Γ .num (.n2 .sum a b)
 |num {d Γ i}:Dr d Γ .num (.num i)
 |less {d Γ a b}:Dr d Γ .num a->Dr d Γ .num b->Dr (d+1) Γ .tru (.n2 .less a b)
 |yes {d Γ}:Dr d Γ .tru .yes
 |no {d Γ}:Dr d Γ .tru .no
 |both {d Γ x y a b}:Dr (d-1) Γ x a->Dr (d-1) Γ y b->Dr d Γ (.pair x y) (.n2 .both a b)
 |u0 {d Γ x}:Dr d Γ (.row x) (.ah x)
 |wD {d Γ x a}:Dr (d-1) Γ x a->Dr d Γ (.row x) (.n2 .more a (.ah x))
 |vY {d Γ x a b}:Dr (d-1) Γ x a->Dr (d-1) Γ x b->Dr d Γ (.row x) (.n2 .more b (.n2 .more a (.ah x)))
 |like {d Γ x}:iV x->Dr d Γ (lk x) (fT x)
 |fn {d Γ x y c}:Dr (d-1) (x::Γ) y c->Dr d Γ (.work x y) (.fn x c)
theorem Mq(d:Nat)(k:Kd):wt k<=md d k:=by
 unfold md;by_cases e:d=0
 .rw[if_pos e];exact aA _
 .rw[if_neg e];lia
theorem Dr.ok{d:Nat}{Γ:List Kd}{K:Kd}{c:C}(h:Dr d Γ K c):Ty Γ c K/\c.depth<=md d K:=by
 induction h with
 |var e=>exact⟨.var e,bu _⟩
 | @call d Γ K o a b ho _ _ i j=>exact⟨.call i.1 j.1,by have:=xA (d:=d) (k:=K) ho;have:=i.2;have:=j.2;simp only[Co.depth];lia⟩
 | @bh d Γ K a b c _ _ _ i j k=>exact⟨.bh i.1 j.1 k.1,by have:=gQ (d:=d) (k:=K);have:=i.2;have:=j.2;have:=k.2;simp only[Co.depth];lia⟩
 | @fold d Γ K o a b c ho _ _ _ i j k=>exact⟨.fold i.1 j.1 k.1,by have:=xD (d:=d) (k:=K) ho;have:=gQ (d:=d) (k:=K);have:=i.2;have:=j.2;have:=k.2;simp only[Co.depth];lia⟩
 | @left d Γ K o a ho _ i=>exact⟨.left i.1,by have:=oJ (d:=d) (k:=K) ho;have:=i.2;simp only[Co.depth];lia⟩
 | @right d Γ K o a ho _ i=>exact⟨.right i.1,by have:=oJ (d:=d) (k:=K) ho;have:=i.2;simp only[Co.depth];lia⟩
 | @sum d Γ a b _ _ i j=>exact⟨.sum i.1 j.1,by have:=gQ (d:=d) (k:=.num);have:=i.2;have:=j.2;simp only[Co.depth];lia⟩
 |num=>exact⟨.num,bu _⟩
 | @less d Γ a b _ _ i j=>exact⟨.less i.1 j.1,by have:=gQ (d:=d) (k:=.tru);have:=i.2;have:=j.2;simp only[Co.depth];lia⟩
 |yes=>exact⟨.yes,bu _⟩
 |no=>exact⟨.no,bu _⟩
 | @both d Γ x y a b _ _ i j=>exact⟨.both i.1 j.1,by have:=xj (d:=d) (a:=x) (b:=y);have:=i.2;have:=j.2;simp only[Co.depth];lia⟩
 |u0=>exact⟨.ah,bu _⟩
 | @wD d Γ x a _ i=>exact⟨.more i.1 .ah,by have:=qE (d:=d) (a:=x);have:=i.2;simp only[Co.depth];lia⟩
 | @vY d Γ x a b _ _ i j=>exact⟨.more j.1 (.more i.1 .ah),by have:=qE (d:=d) (a:=x);have:=i.2;have:=j.2;simp only[Co.depth];lia⟩
 | @like d Γ x hx=>exact⟨(gB x hx Γ).1,by have:=(gB x hx Γ).2.1;have:=Mq d (lk x);simp only[wt] at this;lia⟩
 | @fn d Γ x y c _ i=>exact⟨.fn i.1,by have:=xQ (d:=d) (a:=x) (b:=y);have:=i.2;simp only[Co.depth];lia⟩
theorem kF:∀(c:C)(n:Nat),c.vd n<=c.depth+1
 |.num _,_=>bu _
 |.yes,_=>bu _
 |.no,_=>bu _
 |.ah _,_=>bu _
 |.like _,_=>bu _
 |.en _ _,_=>bu _
 |.var i,n=>by simp only[Co.vd,Co.depth];split<;>lia
 |.fn _ c,n=>by have:=kF c (n+1);simp only[Co.vd,Co.depth,up];split<;>lia
 |.n1 _ a,n=>by have:=kF a n;simp only[Co.vd,Co.depth,up];split<;>lia
 |.n2 _ a b,n=>by have:=kF a n;have:=kF b n;simp only[Co.vd,Co.depth,up];split<;>split<;>lia
 |.n3 _ a b c,n=>by have:=kF a n;have:=kF b n;have:=kF c n;simp only[Co.vd,Co.depth,up];split<;>split<;>split<;>lia
theorem Dr.names{D m P:Nat}(body:∀{d:Nat}{a b:Kd},md d (.work a b)+m<=D+d->d<=m->(d=m->max (wt a) (wt b)<=2)->md (d-1) b<=P){d:Nat}{Γ:List Kd}{K:Kd}{c:C}(h:Dr d Γ K c):md d K+m<=D+d->d<=m->(d=m->0<m/\∀a b,K=.work a b->max (wt a) (wt b)<=2)->c.nm P:=by
 have lt:∀{d:Nat}{K:Kd},d+1<=m->(d=m->0<m/\∀a b,K=.work a b->max (wt a) (wt b)<=2):=fun h e=>by lia
 have pr:∀{d:Nat}{K K':Kd},d<=m->(d=m->0<m/\∀a b,K=.work a b->max (wt a) (wt b)<=2)->(d-1=m->0<m/\∀a b,K'=.work a b->max (wt a) (wt b)<=2):=fun {d K K'} h p e=>by
  have e2:d=m:=by lia
  have:=(p e2).1
  lia
 induction h with
 |var e=>exact fun _ _ _=>trivial
 | @call d Γ K o a b ho _ _ i j=>
  intro h1 h2 _;have:=xA (d:=d) (k:=K) ho;exact⟨i (by lia) (by lia) (lt h2),j (by lia) (by lia) (lt h2)⟩
 | @bh d Γ K a b c _ _ _ i j k=>
  intro h1 h2 _;have:=gQ (d:=d) (k:=K);exact⟨i (by lia) (by lia) (lt h2),j (by lia) (by lia) (lt h2),k (by lia) (by lia) (lt h2)⟩
 | @fold d Γ K o a b c ho _ _ _ i j k=>
  intro h1 h2 _;have:=xD (d:=d) (k:=K) ho;have:=gQ (d:=d) (k:=K);exact⟨i (by lia) (by lia) (lt h2),j (by lia) (by lia) (lt h2),k (by lia) (by lia) (lt h2)⟩
 | @left d Γ K o a ho _ i=>
  intro h1 h2 _;have:=oJ (d:=d) (k:=K) ho;exact i (by lia) (by lia) (lt h2)
 | @right d Γ K o a ho _ i=>
  intro h1 h2 _;have:=oJ (d:=d) (k:=K) ho;exact i (by lia) (by lia) (lt h2)
 | @sum d Γ a b _ _ i j=>
  intro h1 h2 _;have:=gQ (d:=d) (k:=.num);exact⟨i (by lia) (by lia) (lt h2),j (by lia) (by lia) (lt h2)⟩
 |num=>exact fun _ _ _=>trivial
 | @less d Γ a b _ _ i j=>
  intro h1 h2 _;have:=gQ (d:=d) (k:=.tru);exact⟨i (by lia) (by lia) (lt h2),j (by lia) (by lia) (lt h2)⟩
 |yes=>exact fun _ _ _=>trivial
 |no=>exact fun _ _ _=>trivial
 | @both d Γ x y a b _ _ i j=>
  intro h1 h2 h3;have:=xj (d:=d) (a:=x) (b:=y);exact⟨i (by lia) (by lia) (pr h2 h3),j (by lia) (by lia) (pr h2 h3)⟩
 |u0=>exact fun _ _ _=>trivial
 | @wD d Γ x a _ i=>
  intro h1 h2 h3;have:=qE (d:=d) (a:=x);exact⟨i (by lia) (by lia) (pr h2 h3),trivial⟩
 | @vY d Γ x a b _ _ i j=>
  intro h1 h2 h3;have:=qE (d:=d) (a:=x);exact⟨j (by lia) (by lia) (pr h2 h3),i (by lia) (by lia) (pr h2 h3),trivial⟩
 | @like d Γ x hx=>exact fun _ _ _=>(gB x hx Γ).2.2 P
 | @fn d Γ x y c hc i=>
  intro h1 h2 h3;have:=xQ (d:=d) (a:=x) (b:=y);have q:=body h1 h2 fun e=>(h3 e).2 x y rfl;have dc:=hc.ok.2;have vl:=kF c 0;exact⟨by lia,i (by lia) (by lia) (pr h2 h3)⟩
theorem HV{K:Kd}{c:C}(hk:K.depth<=2)(h:Dr 4 [] K c)(n:Nat):Sk 11 (Co.steps n c) K/\(Co.steps n c).depth<=16+n * 10:=by
 have w:=iS K;have d0:md 4 K<=16:=by simp only[md];rw[if_neg (by decide)];lia
 have nm:=h.names (D:=16) (m:=4) (P:=11) LU (by lia) (aA _) fun _=>⟨by decide,fun a b e=>by
  subst e;simp only[Kd.depth] at hk;have:=iS a;have:=iS b
  lia⟩
 obtain⟨s,dd⟩:=vA (P:=11) (by decide) n c K ⟨h.ok.1,nm⟩;exact⟨s,by have:=h.ok.2;lia⟩
end K05
namespace Tw
theorem Gen.gT{p:Nat}{h:Hp}(g:Gen p h):p≠h.length:=by obtain⟨_,_,_,_,e,_⟩:=g.ex;exact fun z=>absurd (k9 e) (by rw[<-z];lia)
structure aj(h h':Hp):Prop where
 len:h.length<=h'.length
 keep:∀(q:Nat)(o:O),h[q]?=some o->h'[q]?=some o
theorem aj.refl(h:Hp):aj h h:=⟨aA _,fun _ _ e=>e⟩
theorem aj.trans{h h1 h2:Hp}(a:aj h h1)(b:aj h1 h2):aj h h2:=⟨bG a.len b.len,fun q o e=>b.keep q o (a.keep q o e)⟩
theorem aj.app(h:Hp)(x:List O):aj h (h++x):=⟨by simp,fun _ _ e=>aQ x e⟩
theorem aj.gen{p:Nat}{h h':Hp}(g:Gen p h)(x:aj h h'):Gen p h':=by obtain⟨a,c,l,ns,e1,e2,e3⟩:=g.ex;exact⟨a,c,l,ns,x.keep _ _ e1,x.keep _ _ e2,e3⟩
theorem aj.ext{h h':Hp}(g:aj h h')(p:Nat):Ext p h h':=⟨g.len,fun q o e _=>g.keep q o e⟩
mutual
noncomputable def W.pure:W->Bool
 |.tup xs=>b8 xs
 |.ref _=>false
 |.lst _=>false
 |_=>true
noncomputable def b8:List W->Bool
 |[]=>true
 |x::xs=>x.pure&&b8 xs
end
mutual
theorem xr(h:Hp):∀(w:W)(n:Nat),w.pure=true->w.deep<=n->rd h n w=some w
 |.ah,n,_,_=>by simp
 |.bl _,n,_,_=>by simp
 |.int _,n,_,_=>by simp
 |.str _,n,_,_=>by simp
 |.ref _,n,p,_=>by simp[W.pure] at p
 |.lst _,n,p,_=>by simp[W.pure] at p
 |.tup xs,0,_,d=>by simp[W.deep] at d
 |.tup xs,n+1,p,d=>by
  simp only[W.pure] at p;simp only[W.deep] at d;simp[qr h xs n p (by lia)]
theorem qr(h:Hp):∀(xs:List W)(n:Nat),b8 xs=true->br xs<=n->gq h n xs=some xs
 |[],n,_,_=>by simp
 |x::xs,n,p,d=>by
  simp only[b8,ao] at p;simp only[br] at d;simp[xr h x n p.1 (by lia),qr h xs n p.2 (by lia)]
end
mutual
theorem wO:∀(w:W),w.pure=true->bq w w=true
 |.ah,_=>by simp
 |.bl _,_=>by simp
 |.int _,_=>by simp
 |.str _,_=>by simp
 |.ref _,p=>by simp[W.pure] at p
 |.lst _,p=>by simp[W.pure] at p
 |.tup xs,p=>by
  simp only[W.pure] at p;simp[sV xs p]
theorem sV:∀(xs:List W),b8 xs=true->nZ xs xs=true
 |[],_=>by simp
 |x::xs,p=>by
  simp only[b8,ao] at p;simp[wO x p.1,sV xs p.2]
end
theorem eO:∀k:Kd,k.ae.pure=true
 |.num=>rfl
 |.tru=>rfl
 |.any _=>rfl
 |.gap _=>rfl
 |.row k=>by simp[Kd.ae,W.pure,b8,eO k]
 |.pair a b=>by simp[Kd.ae,W.pure,b8,eO a,eO b]
 |.work a b=>by simp[Kd.ae,W.pure,b8,eO a,eO b]
theorem eG:∀k:Kd,k.ae.deep<=k.depth+1
 |.num=>by simp[Kd.ae,W.deep,br]
 |.tru=>by simp[Kd.ae,W.deep,br]
 |.any _=>by simp[Kd.ae,W.deep,br]
 |.gap _=>by simp[Kd.ae,W.deep,br]
 |.row k=>by have:=eG k;simp[Kd.ae,W.deep,br,Kd.depth];lia
 |.pair a b=>by have:=eG a;have:=eG b;simp[Kd.ae,W.deep,br,Kd.depth];lia
 |.work a b=>by have:=eG a;have:=eG b;simp[Kd.ae,W.deep,br,Kd.depth];lia
theorem oZ{h:Hp}{a:Nat}{ws:List W}(e:h[a]?=some (.lst ws))(p:b8 ws=true)(d:br ws<=899):
  dA (h++[O.lst []]) (.ref a) (.ref h.length)=some ws.isEmpty:=by
 have e2:=aQ [O.lst []] e;simp only[dA,cJ,e2,bp,Bh,qr _ ws 899 p d];cases ws<;>simp
theorem map_pure:∀l:List Kd,b8 (l.map Kd.ae)=true
 |[]=>rfl
 |k::r=>by simp[b8,eO k,map_pure r]
theorem uH(n:Nat):∀l:List Kd,(∀k∈l,k.depth<=n)->br (l.map Kd.ae)<=n+1
 |[],_=>by simp[br]
 |k::r,h=>by
  have h1:=eG k;have h2:=h k n8;have h3:=uH n r fun x hx=>h x (iY _ hx);simp only[gz,br];lia
end Tw
namespace K05
open Tw
noncomputable abbrev dO:List (S×Int):=[([99,97,108,108],2),([98,111,116,104],2),([108,101,102,116],1),([114,105,103,104,116],1),([109,111,114,101],2),([102,111,108,100],3),([105,102],1),([115,117,109],2),([108,101,115,115],2),([108,105,107,101,112,97,105,114],2),([108,105,107,101,114,111,119],1)]
abbrev lR:Nat:=0
abbrev dh:Nat:=1
abbrev gA:Nat:=2
abbrev oV:Nat:=3
abbrev qc:Nat:=4
abbrev hV:Nat:=5
abbrev p5:Nat:=6
abbrev fD:Nat:=7
abbrev jt:Nat:=8
abbrev gf:Nat:=9
abbrev nW:Nat:=10
abbrev jD:Nat:=11
abbrev bf:Nat:=12
abbrev iC:Nat:=13
abbrev mO:Nat:=14
abbrev k6:Nat:=15
abbrev fo:Nat:=16
abbrev ly:Nat:=17
abbrev lz:Nat:=18
abbrev jg:Nat:=19
abbrev dH:Nat:=20
abbrev pZ:Nat:=21
abbrev gp:Nat:=22
abbrev eE:Nat:=23
abbrev gF:Nat:=24
abbrev dU:Nat:=25
abbrev fX:Nat:=26
abbrev e8:Nat:=27
abbrev eY:Nat:=28
abbrev f6:Nat:=29
abbrev n9:Nat:=30
abbrev mU:Nat:=31
abbrev aN:Nat:=32
abbrev jo:Nat:=33
abbrev fy:Nat:=34
abbrev fU:Nat:=35
abbrev c9:Nat:=36
abbrev jN:Nat:=37
abbrev aS:Nat:=38
abbrev cD:Nat:=39
abbrev gG:Nat:=40
abbrev j3:Nat:=41
abbrev iM:Nat:=42
abbrev vx:Nat:=43
abbrev jr:Nat:=44
abbrev tU:Nat:=45
noncomputable def qS:Fn:=⟨1,1,[
 .iff (.cmp .eq (.idx (.var 0) (.cst (.int 0))) (.cst (.str [102,117,110]))) [.ret (.sl (.var 0) (.some (.cst (.int 2))) .none)] [],
 .iff (.cmp .isin (.idx (.var 0) (.cst (.int 0))) (.cst (.tup [(.str [99,97,108,108]),(.str [98,111,116,104]),(.str [108,101,102,116]),(.str [114,105,103,104,116]),(.str [109,111,114,101]),(.str [102,111,108,100]),(.str [105,102]),(.str [115,117,109]),(.str [108,101,115,115]),(.str [108,105,107,101,112,97,105,114]),(.str [108,105,107,101,114,111,119])]))) [.ret (.sl (.var 0) (.some (.cst (.int 1))) .none)] [],
 .ret (.tup .nil)]⟩
noncomputable def ng:Fn:=⟨2,2,[
 .iff (.cmp .eq (.idx (.var 0) (.cst (.int 0))) (.cst (.str [102,117,110]))) [.ret (.tup (.cons (.cst (.str [102,117,110])) (.cons (.idx (.var 0) (.cst (.int 1))) (.cons (.idx (.var 1) (.cst (.int 0))) .nil))))] [],
 .iff (.cmp .isin (.idx (.var 0) (.cst (.int 0))) (.cst (.tup [(.str [99,97,108,108]),(.str [98,111,116,104]),(.str [108,101,102,116]),(.str [114,105,103,104,116]),(.str [109,111,114,101]),(.str [102,111,108,100]),(.str [105,102]),(.str [115,117,109]),(.str [108,101,115,115]),(.str [108,105,107,101,112,97,105,114]),(.str [108,105,107,101,114,111,119])]))) [.ret (.bin .add (.tup (.cons (.idx (.var 0) (.cst (.int 0))) .nil)) (.blt .tuple (.var 1)))] [],
 .ret (.var 0)]⟩
noncomputable def pJ:E:=(.cmp .gt (.blt .len (.var 4)) (.cst (.int 0)))
noncomputable def kP:List St:=[.expr (.eT .append (.var 4) (.cons (.tup (.cons (.var 10) (.cons (.var 9) (.cons (.cst (.bl false)) .nil)))) .nil))]
def pE:List St:=[.nN 5 6 7 (.eT .pop (.var 4) .nil),.set 8 (.call lR (.cons (.var 5) .nil)),.iff (.var 7) [.expr (.eT .append (.var 3) (.cons (.lX 2 (.cons (.var 5) (.cons (.var 6) (.cons (.call oV (.cons (.var 3) (.cons (.blt .len (.var 8)) .nil))) .nil)))) .nil))] [.expr (.eT .append (.var 4) (.cons (.tup (.cons (.var 5) (.cons (.var 6) (.cons (.cst (.bl true)) .nil)))) .nil)),.set 9 (.ite (.cmp .eq (.idx (.var 5) (.cst (.int 0))) (.cst (.str [102,117,110]))) (.bin .add (.var 6) (.lst (.cons (.idx (.var 5) (.cst (.int 1))) .nil))) (.var 6)),.for (.var 10) (.rev (.var 8)) kP]]
def wQ:Fn:=⟨3,11,[
 .set 3 (.lst .nil),
 .set 4 (.lst (.cons (.tup (.cons (.var 0) (.cons (.blt .list (.var 1)) (.cons (.cst (.bl false)) .nil)))) .nil)),
 .pA pJ pE,
 .ret (.eT .pop (.var 3) .nil)]⟩
noncomputable def hJ:E:=(.cmp .lt (.blt .len (.var 2)) (.var 1))
noncomputable def lM:List St:=[.expr (.eT .append (.var 2) (.cons (.eT .pop (.var 0) .nil) .nil))]
def rW:Fn:=⟨2,3,[
 .set 2 (.lst .nil),
 .pA hJ lM,
 .expr (.eT .rev (.var 2) .nil),
 .ret (.var 2)]⟩
noncomputable def wL:Fn:=⟨2,4,[
 .set 2 (.call p5 (.cons (.var 1) .nil)),
 .ki 3 gA (.var 0) (.lst .nil) hV [2]]⟩
noncomputable def gY:Fn:=⟨4,4,[
 .iff (.and (.cmp .eq (.idx (.var 0) (.cst (.int 0))) (.cst (.str [118,97,114]))) (.cmp .eq (.idx (.var 0) (.cst (.int 1))) (.blt .len (.var 1)))) [.ret (.var 3)] [],
 .ret (.call dh (.cons (.var 0) (.cons (.var 2) .nil)))]⟩
noncomputable def uJ:Fn:=⟨1,1,[
 .ret (.ite (.cmp .eq (.idx (.var 0) (.cst (.int 0))) (.cst (.str [101,110,100]))) (.var 0) (.tup (.cons (.cst (.str [101,110,100])) (.cons (.var 0) (.cons (.call jt (.cons (.var 0) .nil)) .nil)))))]⟩
noncomputable def Bf:Fn:=⟨1,1,[
 .ret (.ite (.cmp .eq (.idx (.var 0) (.cst (.int 0))) (.cst (.str [101,110,100]))) (.idx (.var 0) (.cst (.int 1))) (.var 0))]⟩
noncomputable def qF:Fn:=⟨1,2,[
 .ki 1 gA (.var 0) (.lst .nil) gf []]⟩
noncomputable def f9:Fn:=⟨3,3,[
 .ret (.ite (.cmp .eq (.idx (.var 0) (.cst (.int 0))) (.cst (.str [101,110,100]))) (.idx (.var 0) (.cst (.int 2))) (.call dh (.cons (.var 0) (.cons (.var 2) .nil))))]⟩
noncomputable def sE:Fn:=⟨2,4,[
 .set 2 (.idx (.var 1) (.cst (.int 0))),
 .iff (.cmp .eq (.var 2) (.cst (.str [99,97,108,108]))) [.ret (.call iC (.cons (.idx (.var 1) (.cst (.int 1))) (.cons (.idx (.var 1) (.cst (.int 2))) .nil)))] [],
 .iff (.cmp .isin (.var 2) (.tup (.cons (.cst (.str [108,101,102,116])) (.cons (.cst (.str [114,105,103,104,116])) .nil)))) [.set 3 (.ite (.cmp .eq (.var 2) (.cst (.str [108,101,102,116]))) (.cst (.int 1)) (.cst (.int 2))),.ret (.idx (.call bf (.cons (.idx (.var 1) (.cst (.int 1))) (.cons (.cst (.str [98,111,116,104])) .nil))) (.var 3))] [],
 .iff (.cmp .eq (.var 2) (.cst (.str [105,102]))) [.ret (.call mO (.cons (.var 1) .nil))] [],
 .iff (.cmp .eq (.var 2) (.cst (.str [102,111,108,100]))) [.ret (.call k6 (.cons (.idx (.var 1) (.cst (.int 1))) (.cons (.idx (.var 1) (.cst (.int 2))) (.cons (.idx (.var 1) (.cst (.int 3))) .nil))))] [],
 .iff (.cmp .eq (.var 2) (.cst (.str [115,117,109]))) [.ret (.tup (.cons (.cst (.str [110,117,109,98,101,114])) (.cons (.bin .add (.idx (.call bf (.cons (.idx (.var 1) (.cst (.int 1))) (.cons (.cst (.str [110,117,109,98,101,114])) .nil))) (.cst (.int 1))) (.idx (.call bf (.cons (.idx (.var 1) (.cst (.int 2))) (.cons (.cst (.str [110,117,109,98,101,114])) .nil))) (.cst (.int 1)))) .nil)))] [],
 .iff (.cmp .eq (.var 2) (.cst (.str [108,101,115,115]))) [.ret (.call jD (.cons (.cmp .lt (.idx (.call bf (.cons (.idx (.var 1) (.cst (.int 1))) (.cons (.cst (.str [110,117,109,98,101,114])) .nil))) (.cst (.int 1))) (.idx (.call bf (.cons (.idx (.var 1) (.cst (.int 2))) (.cons (.cst (.str [110,117,109,98,101,114])) .nil))) (.cst (.int 1)))) .nil))] [],
 .bad,
 .bad]⟩
noncomputable def yq:Fn:=⟨1,1,[
 .ret (.ite (.var 0) (.cst (.tup [(.str [121,101,115])])) (.cst (.tup [(.str [110,111])])))]⟩
noncomputable def my:Fn:=⟨2,2,[
 .iff (.cmp .ne (.idx (.call fD (.cons (.var 0) .nil)) (.cst (.int 0))) (.var 1)) [.bad] [],
 .ret (.call fD (.cons (.var 0) .nil))]⟩
noncomputable def lu:Fn:=⟨2,3,[
 .set 2 (.call fD (.cons (.var 0) .nil)),
 .iff (.cmp .eq (.idx (.var 2) (.cst (.int 0))) (.cst (.str [102,117,110]))) [.ret (.call qc (.cons (.idx (.var 2) (.cst (.int 2))) (.cons (.var 1) .nil)))] [],
 .iff (.cmp .eq (.idx (.var 2) (.cst (.int 0))) (.cst (.str [99,97,108,108]))) [.ret (.call fo (.cons (.call fD (.cons (.idx (.var 2) (.cst (.int 1))) .nil)) (.cons (.call fD (.cons (.idx (.var 2) (.cst (.int 2))) .nil)) (.cons (.call fD (.cons (.var 1) .nil)) .nil))))] [],
 .bad]⟩
noncomputable def mV:Fn:=⟨1,2,[
 .set 1 (.idx (.call fD (.cons (.idx (.var 0) (.cst (.int 1))) .nil)) (.cst (.int 0))),
 .iff (.cmp .eq (.var 1) (.cst (.str [121,101,115]))) [.ret (.idx (.var 0) (.cst (.int 2)))] [],
 .iff (.cmp .eq (.var 1) (.cst (.str [110,111]))) [.ret (.idx (.var 0) (.cst (.int 3)))] [],
 .bad]⟩
noncomputable def ll:Fn:=⟨3,4,[
 .iff (.cmp .eq (.idx (.call fD (.cons (.var 0) .nil)) (.cst (.int 0))) (.cst (.str [110,111,110,101]))) [.ret (.var 1)] [],
 .set 3 (.call bf (.cons (.var 0) (.cons (.cst (.str [109,111,114,101])) .nil))),
 .ret (.tup (.cons (.cst (.str [99,97,108,108])) (.cons (.tup (.cons (.cst (.str [99,97,108,108])) (.cons (.var 2) (.cons (.idx (.var 3) (.cst (.int 1))) .nil)))) (.cons (.tup (.cons (.cst (.str [102,111,108,100])) (.cons (.idx (.var 3) (.cst (.int 2))) (.cons (.var 1) (.cons (.var 2) .nil))))) .nil))))]⟩
noncomputable def iW:Fn:=⟨3,4,[
 .iff (.cmp .eq (.idx (.var 0) (.cst (.int 0))) (.cst (.str [108,105,107,101]))) [.ret (.call lz (.cons (.idx (.var 0) (.cst (.int 1))) (.cons (.var 1) (.cons (.var 2) .nil))))] [],
 .iff (.cmp .eq (.idx (.var 0) (.cst (.int 0))) (.cst (.str [108,105,107,101,114,111,119]))) [.ret (.call jg (.cons (.var 0) (.cons (.var 1) (.cons (.var 2) .nil))))] [],
 .set 3 (.call ly (.cons (.idx (.var 0) (.cst (.int 1))) (.cons (.idx (.call bf (.cons (.var 1) (.cons (.cst (.str [98,111,116,104])) .nil))) (.cst (.int 1))) (.cons (.idx (.call bf (.cons (.var 2) (.cons (.cst (.str [98,111,116,104])) .nil))) (.cst (.int 1))) .nil)))),
 .ret (.tup (.cons (.cst (.str [105,102])) (.cons (.var 3) (.cons (.call ly (.cons (.idx (.var 0) (.cst (.int 2))) (.cons (.idx (.var 1) (.cst (.int 2))) (.cons (.idx (.var 2) (.cst (.int 2))) .nil)))) (.cons (.cst (.tup [(.str [110,111])])) .nil)))))]⟩
noncomputable def xW:Fn:=⟨3,3,[
 .ret (.tup (.cons (.cst (.str [99,97,108,108])) (.cons (.tup (.cons (.cst (.str [99,97,108,108])) (.cons (.var 0) (.cons (.var 1) .nil)))) (.cons (.var 2) .nil))))]⟩
noncomputable def lA:Fn:=⟨3,3,[
 .iff (.cmp .eq (.idx (.var 0) (.cst (.int 0))) (.cst (.str [110,117,109,98,101,114]))) [.ret (.call jD (.cons (.cmp .eq (.idx (.call bf (.cons (.var 1) (.cons (.cst (.str [110,117,109,98,101,114])) .nil))) (.cst (.int 1))) (.idx (.call bf (.cons (.var 2) (.cons (.cst (.str [110,117,109,98,101,114])) .nil))) (.cst (.int 1)))) .nil))] [],
 .iff (.or (.cmp .notin (.idx (.var 1) (.cst (.int 0))) (.tup (.cons (.cst (.str [121,101,115])) (.cons (.cst (.str [110,111])) .nil)))) (.cmp .notin (.idx (.var 2) (.cst (.int 0))) (.tup (.cons (.cst (.str [121,101,115])) (.cons (.cst (.str [110,111])) .nil))))) [.bad] [],
 .ret (.call jD (.cons (.cmp .eq (.idx (.var 1) (.cst (.int 0))) (.idx (.var 2) (.cst (.int 0)))) .nil))]⟩
noncomputable def jc:Fn:=⟨3,3,[
 .iff (.or (.cmp .notin (.idx (.var 1) (.cst (.int 0))) (.tup (.cons (.cst (.str [110,111,110,101])) (.cons (.cst (.str [109,111,114,101])) .nil)))) (.cmp .notin (.idx (.var 2) (.cst (.int 0))) (.tup (.cons (.cst (.str [110,111,110,101])) (.cons (.cst (.str [109,111,114,101])) .nil))))) [.bad] [],
 .iff (.or (.cmp .eq (.idx (.var 1) (.cst (.int 0))) (.cst (.str [110,111,110,101]))) (.cmp .eq (.idx (.var 2) (.cst (.int 0))) (.cst (.str [110,111,110,101])))) [.ret (.call jD (.cons (.cmp .eq (.idx (.var 1) (.cst (.int 0))) (.idx (.var 2) (.cst (.int 0)))) .nil))] [],
 .ret (.tup (.cons (.cst (.str [105,102])) (.cons (.call ly (.cons (.idx (.var 0) (.cst (.int 1))) (.cons (.idx (.var 1) (.cst (.int 1))) (.cons (.idx (.var 2) (.cst (.int 1))) .nil)))) (.cons (.call ly (.cons (.var 0) (.cons (.idx (.var 1) (.cst (.int 2))) (.cons (.idx (.var 2) (.cst (.int 2))) .nil)))) (.cons (.cst (.tup [(.str [110,111])])) .nil)))))]⟩
noncomputable def kj:Fn:=⟨1,1,[
 .iff (.cmp .eq (.idx (.var 0) (.cst (.int 0))) (.cst (.str [99,97,108,108]))) [.ret (.cmp .isin (.idx (.call fD (.cons (.idx (.var 0) (.cst (.int 1))) .nil)) (.cst (.int 0))) (.cst (.tup [(.str [108,105,107,101]),(.str [108,105,107,101,112,97,105,114]),(.str [108,105,107,101,114,111,119])])))] [],
 .iff (.cmp .eq (.idx (.var 0) (.cst (.int 0))) (.cst (.str [108,105,107,101]))) [.ret (.cmp .isin (.idx (.var 0) (.cst (.int 1))) (.tup (.cons (.cst (.tup [(.str [110,117,109,98,101,114])])) (.cons (.cst (.tup [(.str [116,114,117,116,104])])) .nil))))] [],
 .ret (.cmp .isin (.idx (.var 0) (.cst (.int 0))) (.cst (.tup [(.str [110,117,109,98,101,114]),(.str [121,101,115]),(.str [110,111]),(.str [110,111,110,101]),(.str [102,117,110]),(.str [98,111,116,104]),(.str [109,111,114,101]),(.str [108,105,107,101,112,97,105,114]),(.str [108,105,107,101,114,111,119]),(.str [101,110,100])])))]⟩
noncomputable def pN:E:=(.cmp .gt (.blt .len (.var 1)) (.cst (.int 0)))
noncomputable def pI:List St:=[.expr (.eT .append (.var 1) (.cons (.idx (.var 2) (.bin .add (.var 3) (.cst (.int 1)))) .nil))]
def pP:List St:=[.set 2 (.eT .pop (.var 1) .nil),.iff (.not (.call dH (.cons (.var 2) .nil))) [.ret (.cst (.bl false))] [],.for (.var 3) (.ja (.gW (.idx (.var 2) (.cst (.int 0))) dO)) pI]
def uL:Fn:=⟨1,4,[
 .set 1 (.lst (.cons (.var 0) .nil)),
 .pA pN pP,
 .ret (.cst (.bl true))]⟩
noncomputable def pB:Fn:=⟨3,3,[
 .ret (.bin .add (.bin .add (.sl (.var 0) .none (.some (.var 1))) (.tup (.cons (.var 2) .nil))) (.sl (.var 0) (.some (.bin .add (.var 1) (.cst (.int 1)))) .none))]⟩
noncomputable def jL:Fn:=⟨2,2,[
 .fput (.var 0) [112,97,114,116] (.var 1),
 .fput (.var 0) [97,114,111,117,110,100] (.lst .nil),
 .expr (.own (.var 0) [82,101,99,107,111,110,105,110,103] [115,101,101,107] gF .nil)]⟩
noncomputable def iq:E:=(.and (.call dH (.cons (.fld (.var 0) [112,97,114,116]) .nil)) (.cmp .gt (.blt .len (.fld (.var 0) [97,114,111,117,110,100])) (.cst (.int 0))))
noncomputable def iw:List St:=[.expr (.own (.var 0) [82,101,99,107,111,110,105,110,103] [108,101,97,118,101] fX .nil)]
def jV:Fn:=⟨1,1,[
 .expr (.own (.var 0) [82,101,99,107,111,110,105,110,103] [101,110,116,101,114] dU .nil),
 .pA iq iw]⟩
def hZ:E:=(.qL (.idx (.fld (.var 0) [112,97,114,116]) (.cst (.int 0))) dO)
noncomputable def hU:List St:=[.expr (.eT .append (.fld (.var 0) [97,114,111,117,110,100]) (.cons (.tup (.cons (.fld (.var 0) [112,97,114,116]) (.cons (.cst (.int 1)) .nil))) .nil)),.fput (.var 0) [112,97,114,116] (.idx (.fld (.var 0) [112,97,114,116]) (.cst (.int 1)))]
def jf:Fn:=⟨1,1,[
 .pA hZ hU]⟩
def jh:Fn:=⟨1,3,[
 .og 1 2 (.eT .pop (.fld (.var 0) [97,114,111,117,110,100]) .nil),
 .set 1 (.call gp (.cons (.var 1) (.cons (.var 2) (.cons (.fld (.var 0) [112,97,114,116]) .nil)))),
 .iff (.cmp .lt (.var 2) (.qN (.idx (.var 1) (.cst (.int 0))) dO)) [.expr (.eT .append (.fld (.var 0) [97,114,111,117,110,100]) (.cons (.tup (.cons (.var 1) (.cons (.bin .add (.var 2) (.cst (.int 1))) .nil))) .nil)),.fput (.var 0) [112,97,114,116] (.idx (.var 1) (.bin .add (.var 2) (.cst (.int 1)))),.expr (.own (.var 0) [82,101,99,107,111,110,105,110,103] [101,110,116,101,114] dU .nil)] [.fput (.var 0) [112,97,114,116] (.var 1)]]⟩
noncomputable def ip:Fn:=⟨1,1,[
 .ret (.and (.cmp .eq (.blt .len (.fld (.var 0) [97,114,111,117,110,100])) (.cst (.int 0))) (.call dH (.cons (.fld (.var 0) [112,97,114,116]) .nil)))]⟩
noncomputable def iu:Fn:=⟨2,2,[
 .fput (.var 0) [112,97,114,116] (.call nW (.cons (.var 1) (.cons (.fld (.var 0) [112,97,114,116]) .nil)))]⟩
noncomputable def cU:List St:=[.set 1 (.call gp (.cons (.var 2) (.cons (.var 3) (.cons (.var 1) .nil))))]
def i9:Fn:=⟨1,4,[
 .set 1 (.fld (.var 0) [112,97,114,116]),
 .for (.two 2 3) (.rev (.fld (.var 0) [97,114,111,117,110,100])) cU,
 .ret (.call jt (.cons (.var 1) .nil))]⟩
noncomputable def BW:Fn:=⟨2,3,[
 .set 2 (.mk [82,101,99,107,111,110,105,110,103] eE (.cons (.var 1) .nil)),
 .iff (.own (.var 2) [82,101,99,107,111,110,105,110,103] [105,115,95,100,111,110,101] e8 .nil) [.ret (.cst .ah)] [],
 .expr (.own (.var 2) [82,101,99,107,111,110,105,110,103] [97,100,118,97,110,99,101] eY (.cons (.var 0) .nil)),
 .ret (.own (.var 2) [82,101,99,107,111,110,105,110,103] [119,104,111,108,101] f6 .nil)]⟩
noncomputable def mT:Fn:=⟨1,1,[
 .fput (.var 0) [100,101,102,105,110,105,116,105,111,110,115] (.lst .nil),
 .fput (.var 0) [110,117,109,98,101,114,115] (.fc .nil)]⟩
noncomputable def uz:Fn:=⟨2,3,[
 .set 2 (.ite (.cmp .ne (.idx (.var 0) (.cst (.int 1))) (.lst .nil)) (.idx (.idx (.var 0) (.cst (.int 1))) (.bin .mod (.idx (.var 0) (.cst (.int 2))) (.blt .len (.idx (.var 0) (.cst (.int 1)))))) (.cst (.int 0))),
 .put (.var 0) (.cst (.int 0)) (.bin .mod (.bin .add (.bin .add (.bin .mul (.idx (.var 0) (.cst (.int 0))) (.cst (.int 48271))) (.bin .mul (.var 2) (.cst (.int 69621)))) (.cst (.int 11))) (.cst (.int 2147483647))),
 .put (.var 0) (.cst (.int 2)) (.bin .add (.idx (.var 0) (.cst (.int 2))) (.cst (.int 1))),
 .ret (.bin .mod (.bin .fdiv (.idx (.var 0) (.cst (.int 0))) (.cst (.int 7))) (.var 1))]⟩
noncomputable def rC:Fn:=⟨1,2,[
 .set 1 (.lst (.cons (.bin .sub (.call aN (.cons (.var 0) (.cons (.cst (.int 14)) .nil))) (.cst (.int 5))) (.cons (.bin .sub (.call aN (.cons (.var 0) (.cons (.cst (.int 2000)) .nil))) (.cst (.int 1000))) (.cons (.call aN (.cons (.var 0) (.cons (.cst (.int 4)) .nil))) .nil)))),
 .iff (.cmp .ne (.idx (.var 0) (.cst (.int 1))) (.lst .nil)) [.expr (.eT .append (.var 1) (.cons (.bin .sub (.bin .mod (.idx (.idx (.var 0) (.cst (.int 1))) (.bin .mod (.idx (.var 0) (.cst (.int 2))) (.blt .len (.idx (.var 0) (.cst (.int 1)))))) (.bin .pow (.cst (.int 10)) (.cst (.int 59)))) (.bin .pow (.cst (.int 10)) (.cst (.int 30)))) .nil))] [],
 .ret (.idx (.var 1) (.call aN (.cons (.var 0) (.cons (.blt .len (.var 1)) .nil))))]⟩
noncomputable def uu:Fn:=⟨3,5,[
 .set 3 (.call aN (.cons (.var 0) (.cons (.cst (.int 8)) .nil))),
 .iff (.and (.cmp .ne (.var 2) (.lst .nil)) (.cmp .eq (.var 3) (.cst (.int 7)))) [.ret (.tup (.cons (.cst (.str [97,110,121])) (.cons (.idx (.var 2) (.call aN (.cons (.var 0) (.cons (.blt .len (.var 2)) .nil)))) .nil)))] [],
 .iff (.or (.cmp .eq (.var 1) (.cst (.int 0))) (.cmp .lt (.var 3) (.cst (.int 3)))) [.ret (.idx (.lst (.cons (.tup (.cons (.cst (.str [110,117,109,98,101,114])) .nil)) (.cons (.tup (.cons (.cst (.str [116,114,117,116,104])) .nil)) .nil))) (.call aN (.cons (.var 0) (.cons (.cst (.int 2)) .nil))))] [],
 .set 4 (.call fy (.cons (.var 0) (.cons (.bin .sub (.var 1) (.cst (.int 1))) (.cons (.var 2) .nil)))),
 .iff (.cmp .lt (.var 3) (.cst (.int 5))) [.ret (.tup (.cons (.cst (.str [114,111,119])) (.cons (.var 4) .nil)))] [],
 .ret (.tup (.cons (.idx (.lst (.cons (.cst (.str [112,97,105,114])) (.cons (.cst (.str [119,111,114,107])) .nil))) (.bin .fdiv (.call aN (.cons (.var 0) (.cons (.cst (.int 3)) .nil))) (.cst (.int 2)))) (.cons (.var 4) (.cons (.call fy (.cons (.var 0) (.cons (.bin .sub (.var 1) (.cst (.int 1))) (.cons (.var 2) .nil)))) .nil))))]⟩
noncomputable def tO:E:=(.var 1)
noncomputable def tQ:E:=(.not (.call fU (.cons (.var 1) .nil)))
def rq:Fn:=⟨1,1,[
 .iff (.cmp .isin (.idx (.var 0) (.cst (.int 0))) (.tup (.cons (.cst (.str [119,111,114,107])) (.cons (.cst (.str [97,110,121])) .nil)))) [.ret (.cst (.bl false))] [],
 .ret (.cmp .eq (.comp tO (.seq (.sl (.var 0) (.some (.cst (.int 1))) .none)) (.some tQ)) (.lst .nil))]⟩
noncomputable def nP:Fn:=⟨2,2,[
 .iff (.cmp .eq (.idx (.var 1) (.cst (.int 0))) (.cst (.str [114,111,119]))) [.ret (.tup (.cons (.cst (.str [108,105,107,101,114,111,119])) (.cons (.call c9 (.cons (.var 0) (.cons (.idx (.var 1) (.cst (.int 1))) .nil))) .nil)))] [],
 .iff (.cmp .eq (.idx (.var 1) (.cst (.int 0))) (.cst (.str [112,97,105,114]))) [.ret (.tup (.cons (.cst (.str [108,105,107,101,112,97,105,114])) (.cons (.call c9 (.cons (.var 0) (.cons (.idx (.var 1) (.cst (.int 1))) .nil))) (.cons (.call c9 (.cons (.var 0) (.cons (.idx (.var 1) (.cst (.int 2))) .nil))) .nil))))] [],
 .ret (.tup (.cons (.cst (.str [108,105,107,101])) (.cons (.var 1) .nil)))]⟩
noncomputable def wV:List St:=[.set 5 (.tup (.cons (.cst (.str [109,111,114,101])) (.cons (.call aS (.cons (.var 0) (.cons (.var 1) (.cons (.idx (.var 2) (.cst (.int 1))) (.cons (.bin .sub (.var 3) (.cst (.int 1))) .nil))))) (.cons (.var 5) .nil))))]
def pS:Fn:=⟨4,7,[
 .iff (.cmp .eq (.idx (.var 2) (.cst (.int 0))) (.cst (.str [110,117,109,98,101,114]))) [.iff (.and (.cmp .gt (.var 3) (.cst (.int 0))) (.cmp .eq (.call aN (.cons (.var 0) (.cons (.cst (.int 2)) .nil))) (.cst (.int 0)))) [.ret (.tup (.cons (.cst (.str [115,117,109])) (.cons (.call aS (.cons (.var 0) (.cons (.var 1) (.cons (.var 2) (.cons (.bin .sub (.var 3) (.cst (.int 1))) .nil))))) (.cons (.call aS (.cons (.var 0) (.cons (.var 1) (.cons (.var 2) (.cons (.bin .sub (.var 3) (.cst (.int 1))) .nil))))) .nil))))] [],.ret (.tup (.cons (.cst (.str [110,117,109,98,101,114])) (.cons (.call jo (.cons (.var 0) .nil)) .nil)))] [],
 .iff (.cmp .eq (.idx (.var 2) (.cst (.int 0))) (.cst (.str [116,114,117,116,104]))) [.iff (.and (.cmp .gt (.var 3) (.cst (.int 0))) (.cmp .eq (.call aN (.cons (.var 0) (.cons (.cst (.int 2)) .nil))) (.cst (.int 0)))) [.set 4 (.tup (.cons (.cst (.str [110,117,109,98,101,114])) .nil)),.ret (.tup (.cons (.cst (.str [108,101,115,115])) (.cons (.call aS (.cons (.var 0) (.cons (.var 1) (.cons (.var 4) (.cons (.bin .sub (.var 3) (.cst (.int 1))) .nil))))) (.cons (.call aS (.cons (.var 0) (.cons (.var 1) (.cons (.var 4) (.cons (.bin .sub (.var 3) (.cst (.int 1))) .nil))))) .nil))))] [],.ret (.idx (.lst (.cons (.tup (.cons (.cst (.str [121,101,115])) .nil)) (.cons (.tup (.cons (.cst (.str [110,111])) .nil)) .nil))) (.call aN (.cons (.var 0) (.cons (.cst (.int 2)) .nil))))] [],
 .iff (.cmp .eq (.idx (.var 2) (.cst (.int 0))) (.cst (.str [112,97,105,114]))) [.ret (.tup (.cons (.cst (.str [98,111,116,104])) (.cons (.call aS (.cons (.var 0) (.cons (.var 1) (.cons (.idx (.var 2) (.cst (.int 1))) (.cons (.bin .sub (.var 3) (.cst (.int 1))) .nil))))) (.cons (.call aS (.cons (.var 0) (.cons (.var 1) (.cons (.idx (.var 2) (.cst (.int 2))) (.cons (.bin .sub (.var 3) (.cst (.int 1))) .nil))))) .nil))))] [],
 .iff (.cmp .eq (.idx (.var 2) (.cst (.int 0))) (.cst (.str [114,111,119]))) [.set 5 (.tup (.cons (.cst (.str [110,111,110,101])) (.cons (.idx (.var 2) (.cst (.int 1))) .nil))),.for (.var 6) (.ja (.call aN (.cons (.var 0) (.cons (.cst (.int 3)) .nil)))) wV,.ret (.var 5)] [],
 .iff (.and (.cmp .eq (.idx (.var 2) (.cst (.int 2))) (.tup (.cons (.cst (.str [119,111,114,107])) (.cons (.idx (.var 2) (.cst (.int 1))) (.cons (.tup (.cons (.cst (.str [116,114,117,116,104])) .nil)) .nil))))) (.and (.call fU (.cons (.idx (.var 2) (.cst (.int 1))) .nil)) (.cmp .eq (.call aN (.cons (.var 0) (.cons (.cst (.int 2)) .nil))) (.cst (.int 0))))) [.ret (.call c9 (.cons (.var 0) (.cons (.idx (.var 2) (.cst (.int 1))) .nil)))] [],
 .ret (.tup (.cons (.cst (.str [102,117,110])) (.cons (.idx (.var 2) (.cst (.int 1))) (.cons (.call aS (.cons (.var 0) (.cons (.bin .add (.var 1) (.lst (.cons (.idx (.var 2) (.cst (.int 1))) .nil))) (.cons (.idx (.var 2) (.cst (.int 2))) (.cons (.bin .sub (.var 3) (.cst (.int 1))) .nil))))) .nil))))]⟩
noncomputable def pC:E:=(.var 10)
noncomputable def pK:E:=(.cmp .eq (.idx (.var 1) (.bin .sub (.bin .sub (.blt .len (.var 1)) (.cst (.int 1))) (.var 10))) (.var 2))
def qi:Fn:=⟨4,10,[
 .set 4 (.call aN (.cons (.var 0) (.cons (.cst (.int 9)) .nil))),
 .set 5 (.comp pC (.ja (.blt .len (.var 1))) (.some pK)),
 .iff (.and (.cmp .ne (.var 5) (.lst .nil)) (.or (.cmp .lt (.var 4) (.cst (.int 3))) (.cmp .lt (.var 3) (.cst (.int 0))))) [.ret (.tup (.cons (.cst (.str [118,97,114])) (.cons (.idx (.var 5) (.call aN (.cons (.var 0) (.cons (.blt .len (.var 5)) .nil)))) .nil)))] [],
 .set 6 (.call fy (.cons (.var 0) (.cons (.cst (.int 1)) (.cons (.lst .nil) .nil)))),
 .iff (.or (.cmp .le (.var 3) (.cst (.int 0))) (.cmp .gt (.var 4) (.cst (.int 7)))) [.ret (.call jN (.cons (.var 0) (.cons (.var 1) (.cons (.var 2) (.cons (.var 3) .nil)))))] [],
 .iff (.cmp .eq (.var 4) (.cst (.int 3))) [.set 7 (.call aS (.cons (.var 0) (.cons (.var 1) (.cons (.tup (.cons (.cst (.str [119,111,114,107])) (.cons (.var 6) (.cons (.var 2) .nil)))) (.cons (.bin .sub (.var 3) (.cst (.int 1))) .nil))))),.ret (.tup (.cons (.cst (.str [99,97,108,108])) (.cons (.var 7) (.cons (.call aS (.cons (.var 0) (.cons (.var 1) (.cons (.var 6) (.cons (.bin .sub (.var 3) (.cst (.int 1))) .nil))))) .nil))))] [],
 .iff (.cmp .eq (.var 4) (.cst (.int 4))) [.set 7 (.call aS (.cons (.var 0) (.cons (.var 1) (.cons (.tup (.cons (.cst (.str [116,114,117,116,104])) .nil)) (.cons (.bin .sub (.var 3) (.cst (.int 1))) .nil))))),.ret (.tup (.cons (.cst (.str [105,102])) (.cons (.var 7) (.cons (.call aS (.cons (.var 0) (.cons (.var 1) (.cons (.var 2) (.cons (.bin .sub (.var 3) (.cst (.int 1))) .nil))))) (.cons (.call aS (.cons (.var 0) (.cons (.var 1) (.cons (.var 2) (.cons (.bin .sub (.var 3) (.cst (.int 1))) .nil))))) .nil)))))] [],
 .iff (.cmp .eq (.var 4) (.cst (.int 5))) [.set 8 (.call aS (.cons (.var 0) (.cons (.var 1) (.cons (.tup (.cons (.cst (.str [114,111,119])) (.cons (.var 6) .nil))) (.cons (.bin .sub (.var 3) (.cst (.int 1))) .nil))))),.set 9 (.call aS (.cons (.var 0) (.cons (.var 1) (.cons (.var 2) (.cons (.bin .sub (.var 3) (.cst (.int 1))) .nil))))),.ret (.tup (.cons (.cst (.str [102,111,108,100])) (.cons (.var 8) (.cons (.var 9) (.cons (.call aS (.cons (.var 0) (.cons (.var 1) (.cons (.tup (.cons (.cst (.str [119,111,114,107])) (.cons (.var 6) (.cons (.tup (.cons (.cst (.str [119,111,114,107])) (.cons (.var 2) (.cons (.var 2) .nil)))) .nil)))) (.cons (.bin .sub (.var 3) (.cst (.int 1))) .nil))))) .nil)))))] [],
 .iff (.cmp .eq (.var 4) (.cst (.int 6))) [.ret (.tup (.cons (.cst (.str [108,101,102,116])) (.cons (.call aS (.cons (.var 0) (.cons (.var 1) (.cons (.tup (.cons (.cst (.str [112,97,105,114])) (.cons (.var 2) (.cons (.var 6) .nil)))) (.cons (.bin .sub (.var 3) (.cst (.int 1))) .nil))))) .nil)))] [],
 .iff (.cmp .eq (.var 4) (.cst (.int 7))) [.ret (.tup (.cons (.cst (.str [114,105,103,104,116])) (.cons (.call aS (.cons (.var 0) (.cons (.var 1) (.cons (.tup (.cons (.cst (.str [112,97,105,114])) (.cons (.var 6) (.cons (.var 2) .nil)))) (.cons (.bin .sub (.var 3) (.cst (.int 1))) .nil))))) .nil)))] [],
 .ret (.call jN (.cons (.var 0) (.cons (.var 1) (.cons (.var 2) (.cons (.var 3) .nil)))))]⟩
noncomputable def vQ:E:=(.var 2)
noncomputable def vP:E:=(.not (.call cD (.cons (.var 2) .nil)))
def sT:Fn:=⟨1,2,[
 .iff (.cmp .isin (.idx (.var 0) (.cst (.int 0))) (.tup (.cons (.cst (.str [110,117,109,98,101,114])) (.cons (.cst (.str [121,101,115])) (.cons (.cst (.str [110,111])) (.cons (.cst (.str [110,111,110,101])) (.cons (.cst (.str [108,105,107,101])) (.cons (.cst (.str [102,117,110])) .nil)))))))) [.ret (.cst (.bl true))] [],
 .iff (.cmp .isin (.idx (.var 0) (.cst (.int 0))) (.tup (.cons (.cst (.str [98,111,116,104])) (.cons (.cst (.str [109,111,114,101])) (.cons (.cst (.str [108,105,107,101,112,97,105,114])) (.cons (.cst (.str [108,105,107,101,114,111,119])) .nil)))))) [.ret (.cmp .eq (.comp vQ (.seq (.sl (.var 0) (.some (.cst (.int 1))) .none)) (.some vP)) (.lst .nil))] [],
 .set 1 (.and (.cmp .eq (.idx (.var 0) (.cst (.int 0))) (.cst (.str [99,97,108,108]))) (.cmp .isin (.idx (.idx (.var 0) (.cst (.int 1))) (.cst (.int 0))) (.tup (.cons (.cst (.str [108,105,107,101])) (.cons (.cst (.str [108,105,107,101,112,97,105,114])) (.cons (.cst (.str [108,105,107,101,114,111,119])) .nil)))))),
 .ret (.and (.var 1) (.and (.call cD (.cons (.idx (.var 0) (.cst (.int 1))) .nil)) (.call cD (.cons (.idx (.var 0) (.cst (.int 2))) .nil))))]⟩
noncomputable def wX:E:=(.call gG (.cons (.var 3) (.cons (.var 1) (.cons (.var 2) .nil))))
def wA:Fn:=⟨3,3,[
 .iff (.cmp .eq (.idx (.var 0) (.cst (.int 0))) (.cst (.str [118,97,114]))) [.ret (.ite (.cmp .eq (.idx (.var 0) (.cst (.int 1))) (.var 1)) (.var 2) (.var 0))] [],
 .iff (.cmp .eq (.idx (.var 0) (.cst (.int 0))) (.cst (.str [102,117,110]))) [.ret (.tup (.cons (.cst (.str [102,117,110])) (.cons (.idx (.var 0) (.cst (.int 1))) (.cons (.call gG (.cons (.idx (.var 0) (.cst (.int 2))) (.cons (.bin .add (.var 1) (.cst (.int 1))) (.cons (.var 2) .nil)))) .nil))))] [],
 .iff (.cmp .isin (.idx (.var 0) (.cst (.int 0))) (.tup (.cons (.cst (.str [110,117,109,98,101,114])) (.cons (.cst (.str [121,101,115])) (.cons (.cst (.str [110,111])) (.cons (.cst (.str [100,101,102])) (.cons (.cst (.str [110,111,110,101])) (.cons (.cst (.str [108,105,107,101])) .nil)))))))) [.ret (.var 0)] [],
 .ret (.bin .add (.tup (.cons (.idx (.var 0) (.cst (.int 0))) .nil)) (.blt .tuple (.comp wX (.seq (.sl (.var 0) (.some (.cst (.int 1))) .none)) .none)))]⟩
noncomputable def nA:Fn:=⟨3,6,[
 .set 3 (.tup (.cons (.cst (.str [110,111])) .nil)),
 .iff (.cmp .eq (.idx (.var 0) (.cst (.int 0))) (.cst (.str [108,105,107,101]))) [.ret (.idx (.lst (.cons (.var 3) (.cons (.tup (.cons (.cst (.str [121,101,115])) .nil)) .nil))) (.blt .int (.cmp .eq (.var 1) (.var 2))))] [],
 .iff (.and (.cmp .eq (.idx (.var 0) (.cst (.int 0))) (.cst (.str [108,105,107,101,114,111,119]))) (.or (.cmp .eq (.idx (.var 1) (.cst (.int 0))) (.cst (.str [110,111,110,101]))) (.cmp .eq (.idx (.var 2) (.cst (.int 0))) (.cst (.str [110,111,110,101]))))) [.ret (.idx (.lst (.cons (.var 3) (.cons (.tup (.cons (.cst (.str [121,101,115])) .nil)) .nil))) (.blt .int (.cmp .eq (.idx (.var 1) (.cst (.int 0))) (.idx (.var 2) (.cst (.int 0))))))] [],
 .set 4 (.ite (.cmp .eq (.idx (.var 0) (.cst (.int 0))) (.cst (.str [108,105,107,101,112,97,105,114]))) (.idx (.var 0) (.cst (.int 2))) (.var 0)),
 .set 5 (.tup (.cons (.cst (.str [99,97,108,108])) (.cons (.tup (.cons (.cst (.str [99,97,108,108])) (.cons (.idx (.var 0) (.cst (.int 1))) (.cons (.idx (.var 1) (.cst (.int 1))) .nil)))) (.cons (.idx (.var 2) (.cst (.int 1))) .nil)))),
 .ret (.tup (.cons (.cst (.str [105,102])) (.cons (.var 5) (.cons (.tup (.cons (.cst (.str [99,97,108,108])) (.cons (.tup (.cons (.cst (.str [99,97,108,108])) (.cons (.var 4) (.cons (.idx (.var 1) (.cst (.int 2))) .nil)))) (.cons (.idx (.var 2) (.cst (.int 2))) .nil)))) (.cons (.var 3) .nil)))))]⟩
noncomputable def kY:List St:=[.iff (.not (.call cD (.cons (.idx (.var 0) (.var 2)) .nil))) [.ret (.bin .add (.bin .add (.sl (.var 0) .none (.some (.var 2))) (.tup (.cons (.call iM (.cons (.idx (.var 0) (.var 2)) .nil)) .nil))) (.sl (.var 0) (.some (.bin .add (.var 2) (.cst (.int 1)))) .none))] []]
def kK:Fn:=⟨1,4,[
 .set 1 (.ite (.cmp .eq (.idx (.var 0) (.cst (.int 0))) (.cst (.str [105,102]))) (.cst (.int 1)) (.bin .sub (.blt .len (.var 0)) (.cst (.int 1)))),
 .for (.var 2) (.sD (.cst (.int 1)) (.bin .add (.var 1) (.cst (.int 1)))) kY,
 .set 3 (.idx (.var 0) (.cst (.int 0))),
 .iff (.and (.cmp .eq (.var 3) (.cst (.str [99,97,108,108]))) (.cmp .eq (.idx (.idx (.var 0) (.cst (.int 1))) (.cst (.int 0))) (.cst (.str [102,117,110])))) [.ret (.call gG (.cons (.idx (.idx (.var 0) (.cst (.int 1))) (.cst (.int 2))) (.cons (.cst (.int 0)) (.cons (.idx (.var 0) (.cst (.int 2))) .nil))))] [],
 .iff (.cmp .eq (.var 3) (.cst (.str [99,97,108,108]))) [.ret (.call j3 (.cons (.idx (.idx (.var 0) (.cst (.int 1))) (.cst (.int 1))) (.cons (.idx (.idx (.var 0) (.cst (.int 1))) (.cst (.int 2))) (.cons (.idx (.var 0) (.cst (.int 2))) .nil))))] [],
 .iff (.cmp .isin (.var 3) (.tup (.cons (.cst (.str [108,101,102,116])) (.cons (.cst (.str [114,105,103,104,116])) .nil)))) [.ret (.idx (.idx (.var 0) (.cst (.int 1))) (.bin .add (.cst (.int 1)) (.blt .int (.cmp .eq (.var 3) (.cst (.str [114,105,103,104,116]))))))] [],
 .iff (.cmp .eq (.var 3) (.cst (.str [105,102]))) [.ret (.ite (.cmp .eq (.idx (.var 0) (.cst (.int 1))) (.tup (.cons (.cst (.str [121,101,115])) .nil))) (.idx (.var 0) (.cst (.int 2))) (.idx (.var 0) (.cst (.int 3))))] [],
 .iff (.and (.cmp .eq (.var 3) (.cst (.str [102,111,108,100]))) (.cmp .eq (.idx (.idx (.var 0) (.cst (.int 1))) (.cst (.int 0))) (.cst (.str [110,111,110,101])))) [.ret (.idx (.var 0) (.cst (.int 2)))] [],
 .iff (.cmp .eq (.var 3) (.cst (.str [102,111,108,100]))) [.ret (.tup (.cons (.cst (.str [99,97,108,108])) (.cons (.tup (.cons (.cst (.str [99,97,108,108])) (.cons (.idx (.var 0) (.cst (.int 3))) (.cons (.idx (.idx (.var 0) (.cst (.int 1))) (.cst (.int 1))) .nil)))) (.cons (.tup (.cons (.cst (.str [102,111,108,100])) (.cons (.idx (.idx (.var 0) (.cst (.int 1))) (.cst (.int 2))) (.cons (.idx (.var 0) (.cst (.int 2))) (.cons (.idx (.var 0) (.cst (.int 3))) .nil))))) .nil))))] [],
 .iff (.cmp .eq (.var 3) (.cst (.str [115,117,109]))) [.ret (.tup (.cons (.cst (.str [110,117,109,98,101,114])) (.cons (.bin .add (.idx (.idx (.var 0) (.cst (.int 1))) (.cst (.int 1))) (.idx (.idx (.var 0) (.cst (.int 2))) (.cst (.int 1)))) .nil)))] [],
 .ret (.idx (.lst (.cons (.tup (.cons (.cst (.str [110,111])) .nil)) (.cons (.tup (.cons (.cst (.str [121,101,115])) .nil)) .nil))) (.blt .int (.cmp .lt (.idx (.idx (.var 0) (.cst (.int 1))) (.cst (.int 1))) (.idx (.idx (.var 0) (.cst (.int 2))) (.cst (.int 1))))))]⟩
noncomputable def vM:Fn:=⟨2,2,[
 .ret (.and (.qM (.var 0)) (.cmp .eq (.var 0) (.var 1)))]⟩
noncomputable def mC:List St:=[.set 4 (.call cD (.cons (.var 1) .nil)),.iff (.or (.not (.call vx (.cons (.call pZ (.cons (.var 1) .nil)) (.cons (.var 4) .nil)))) (.and (.var 4) (.cmp .notN (.call n9 (.cons (.var 0) (.cons (.var 1) .nil))) (.cst .ah)))) [.ret (.cst (.bl false))] [],.iff (.var 4) [.ret (.cst (.bl true))] [],.set 5 (.call iM (.cons (.var 1) .nil)),.iff (.or (.cmp .ne (.call n9 (.cons (.var 0) (.cons (.var 1) .nil))) (.var 5)) (.cmp .ne (.call n9 (.cons (.var 0) (.cons (.var 1) .nil))) (.var 5))) [.ret (.cst (.bl false))] [],.set 1 (.var 5)]
def qK:Fn:=⟨3,6,[
 .for (.var 3) (.ja (.var 2)) mC,
 .ret (.cst (.bl true))]⟩
noncomputable def ug:Fn:=⟨1,6,[
 .set 1 (.lst (.cons (.cst (.int 19)) (.cons (.blt .list (.var 0)) (.cons (.cst (.int 0)) .nil)))),
 .set 2 (.mk [83,104,101,108,102] mU .nil),
 .iff (.not (.call jr (.cons (.var 2) (.cons (.call aS (.cons (.var 1) (.cons (.lst .nil) (.cons (.call fy (.cons (.var 1) (.cons (.cst (.int 2)) (.cons (.lst .nil) .nil)))) (.cons (.cst (.int 4)) .nil))))) (.cons (.cst (.int 60)) .nil))))) [.ret (.cst (.bl false))] [],
 .set 3 (.call fy (.cons (.var 1) (.cons (.cst (.int 3)) (.cons (.lst .nil) .nil)))),
 .iff (.not (.call fU (.cons (.var 3) .nil))) [.set 3 (.tup (.cons (.cst (.str [114,111,119])) (.cons (.tup (.cons (.cst (.str [112,97,105,114])) (.cons (.tup (.cons (.cst (.str [110,117,109,98,101,114])) .nil)) (.cons (.tup (.cons (.cst (.str [116,114,117,116,104])) .nil)) .nil)))) .nil)))] [],
 .set 4 (.call aS (.cons (.var 1) (.cons (.lst .nil) (.cons (.var 3) (.cons (.cst (.int 0)) .nil))))),
 .set 5 (.idx (.lst (.cons (.var 4) (.cons (.call aS (.cons (.var 1) (.cons (.lst .nil) (.cons (.var 3) (.cons (.cst (.int 0)) .nil))))) .nil))) (.call aN (.cons (.var 1) (.cons (.cst (.int 2)) .nil)))),
 .ret (.call jr (.cons (.var 2) (.cons (.tup (.cons (.cst (.str [99,97,108,108])) (.cons (.tup (.cons (.cst (.str [99,97,108,108])) (.cons (.call c9 (.cons (.var 1) (.cons (.var 3) .nil))) (.cons (.var 4) .nil)))) (.cons (.var 5) .nil)))) (.cons (.cst (.int 60)) .nil))))]⟩
def T:List Fn:=[qS,ng,wQ,rW,wL,gY,uJ,Bf,qF,f9,sE,yq,my,lu,mV,ll,iW,xW,lA,jc,kj,uL,pB,jL,jV,jf,jh,ip,iu,i9,BW,mT,uz,rC,uu,rq,nP,pS,qi,sT,wA,nA,kK,vM,qK,ug]
theorem MC:T[lR]?=some qS:=rfl
theorem nY:T[dh]?=some ng:=rfl
theorem DR:T[gA]?=some wQ:=rfl
theorem QF:T[oV]?=some rW:=rfl
theorem D8:T[qc]?=some wL:=rfl
theorem rj:T[hV]?=some gY:=rfl
theorem CZ:T[p5]?=some uJ:=rfl
theorem RI:T[fD]?=some Bf:=rfl
theorem Al:T[jt]?=some qF:=rfl
theorem pk:T[gf]?=some f9:=rfl
theorem BY:T[nW]?=some sE:=rfl
theorem QM:T[jD]?=some yq:=rfl
theorem tR:T[bf]?=some my:=rfl
theorem se:T[iC]?=some lu:=rfl
theorem n6:T[mO]?=some mV:=rfl
theorem lH:T[k6]?=some ll:=rfl
theorem mY:T[fo]?=some iW:=rfl
theorem QN:T[ly]?=some xW:=rfl
theorem sr:T[lz]?=some lA:=rfl
theorem Cj:T[jg]?=some jc:=rfl
theorem qW:T[dH]?=some kj:=rfl
theorem DX:T[pZ]?=some uL:=rfl
theorem Lv:T[gp]?=some pB:=rfl
theorem pW:T[eE]?=some jL:=rfl
theorem qo:T[gF]?=some jV:=rfl
theorem pd:T[dU]?=some jf:=rfl
theorem pf:T[fX]?=some jh:=rfl
theorem mJ:T[e8]?=some ip:=rfl
theorem mI:T[eY]?=some iu:=rfl
theorem pj:T[f6]?=some i9:=rfl
theorem JL:T[n9]?=some BW:=rfl
theorem J9:T[mU]?=some mT:=rfl
theorem OO:T[aN]?=some uz:=rfl
theorem Ak:T[jo]?=some rC:=rfl
theorem Pb:T[fy]?=some uu:=rfl
theorem jx:T[fU]?=some rq:=rfl
theorem nu:T[c9]?=some nP:=rfl
theorem j7:T[jN]?=some pS:=rfl
theorem Dx:T[aS]?=some qi:=rfl
theorem mL:T[cD]?=some sT:=rfl
theorem jT:T[gG]?=some wA:=rfl
theorem cL:T[j3]?=some nA:=rfl
theorem iI:T[iM]?=some kK:=rfl
theorem PZ:T[vx]?=some vM:=rfl
theorem zZ:T[jr]?=some qK:=rfl
theorem Mv:T[tU]?=some ug:=rfl
end K05
namespace Tw
def Po{α:Type}(r:R α)(Q:α->Hp->Prop)(X:Nat->Hp->Prop):Prop:=match r with
 |.ok a h=>Q a h
 |.aI a h=>X a h
 |.bad=>False
section
variable {α β:Type}{r m:R α}{k:α->Hp->R β}{Q Q':α->Hp->Prop}{X X':Nat->Hp->Prop}{a:α}{h:Hp}
theorem Po.bind{Q:β->Hp->Prop}(p:Po m (fun a h=>Po (k a h) Q X) X):Po (m.bind k) Q X:=by cases m<;>exact p
theorem Po.mono(p:Po r Q X)(q:∀a h,Q a h->Q' a h)(x:∀a h,X a h->X' a h):Po r Q' X':=by
 cases r with
 |ok a h=>exact q a h p
 |aI a h=>exact x a h p
 |bad=>exact p
theorem Po.ok(e:r=.ok a h)(q:Q a h):Po r Q X:=by rw[e];exact q
theorem Po.of{o:Option α}(e:o=some a)(q:Q a h):Po (R.of o h) Q X:=by rw[e];exact q
end
abbrev Wq:=W->Hp->Prop
abbrev Xq:=Nat->Hp->Prop
abbrev Nq:=Env->Hp->Prop
inductive wC(op:Cp)(x y:W)(h:Hp)(Q:Wq):Prop
 |of (t:Bool) (e:cmp op x y h=some t) (q:Q (.bl t) h):wC op x y h Q
theorem wC.eqs{a b:S}{h:Hp}{Q:Wq}(q:Q (.bl (decide (a=b))) h):wC .eq (.str a) (.str b) h Q:=.of _ (by simp) q
theorem wC.Rm{a b:S}{h:Hp}{Q:Wq}(q:Q (.bl (!decide (a=b))) h):wC .ne (.str a) (.str b) h Q:=.of _ (by simp) q
def wB(op:Op)(x y:W)(h:Hp)(Q:Wq)(X:Xq):Prop:=match op,x,y with
 |.add,.int i,.int j=>Q (.int (i+j)) h
 |.sub,.int i,.int j=>Q (.int (i-j)) h
 |.add,.tup a,.tup b=>a.length+b.length<=SZ/\Q (.tup (a++b)) h
 |op,x,y=>Po (bin op x y h) Q X
theorem MJ{op:Op}{x y:W}{h:Hp}{Q:Wq}{X:Xq}(p:wB op x y h Q X):Po (bin op x y h) Q X:=by
 unfold wB at p;split at p
 .exact p
 .exact p
 .exact Po.ok (by simp[p.1]) p.2
 .exact p
mutual
noncomputable def wE(C:Or):E->Env->Hp->Wq->Xq->Prop
 |.var i,σ,h,Q,X=>match σ[i]? with
  |some (some w)=>Q w h
  |_=>False
 |.cst w,σ,h,Q,X=>Q w h
 |.tup es,σ,h,Q,X=>wEs C es σ h (fun ws h=>Q (.tup ws) h) X
 |.lst es,σ,h,Q,X=>wEs C es σ h (fun ws h=>Q (.ref h.length) (h++[.lst ws])) X
 |.bin op a b,σ,h,Q,X=>wE C a σ h (fun x h=>wE C b σ h (fun y h=>wB op x y h Q X) X) X
 |.cmp op a b,σ,h,Q,X=>wE C a σ h (fun x h=>wE C b σ h (fun y h=>wC op x y h Q) X) X
 |.idx a b,σ,h,Q,X=>wE C a σ h (fun x h=>wE C b σ h (fun y h=>Po (idx x y h) Q X) X) X
 |.call f es,σ,h,Q,X=>wEs C es σ h (fun ws h=>Po (C f ws h) Q X) X
 |.own o c m f es,σ,h,Q,X=>wE C o σ h (fun x h=>iR x c m h=true/\wEs C es σ h (fun ws h=>Po (C f (x::ws) h) Q X) X) X
 |.fld a x,σ,h,Q,X=>wE C a σ h (fun w h=>Po (R.of (field w x h) h) Q X) X
 |.blt b a,σ,h,Q,X=>wE C a σ h (fun x h=>Po (builtin b x h) Q X) X
 |.eT m o es,σ,h,Q,X=>wE C o σ h (fun x h=>j6 m x h=true/\wEs C es σ h (fun ws h=>Po (method m x ws h) Q X) X) X
 |.and a b,σ,h,Q,X=>wE C a σ h (fun x h=>match x with
  |.bl true=>wE C b σ h Q X
  |.bl false=>Q (.bl false) h
  |_=>False) X
 |.or a b,σ,h,Q,X=>wE C a σ h (fun x h=>match x with
  |.bl false=>wE C b σ h Q X
  |.bl true=>Q (.bl true) h
  |_=>False) X
 |.not a,σ,h,Q,X=>wE C a σ h (fun x h=>Po (R.of ((truth h x).map fun b=>.bl (!b)) h) Q X) X
 |.ite c a b,σ,h,Q,X=>wE C c σ h (fun x h=>match truth h x with
  |some true=>wE C a σ h Q X
  |some false=>wE C b σ h Q X
  |none=>False) X
 |.mk c f es,σ,h,Q,X=>wEs C es σ h (fun ws h=>Po (C (f+1000) (.ref h.length::ws) (h++[.ins c []])) (fun r h'=>match r with
  |.ah=>Q (.ref h.length) h'
  |_=>False) X) X
 |.qM a,σ,h,Q,X=>wE C a σ h (fun x h=>match x with
  |.bl _=>Q (.bl true) h
  |_=>False) X
 |.qL k g,σ,h,Q,X=>wE C k σ h (fun x h=>match x with
  |.str s=>Q (.bl (g.lookup s).isSome) h
  |_=>False) X
 |.qN k g,σ,h,Q,X=>wE C k σ h (fun x h=>match x with
  |.str s=>Po (R.of ((g.lookup s).map .int) h) Q X
  |_=>False) X
 |.gW k g,σ,h,Q,X=>wE C k σ h (fun x h=>match x with
  |.str s=>Q (.int ((g.lookup s).getD 0)) h
  |_=>False) X
 |e,σ,h,Q,X=>Po (af C e σ h) Q X
noncomputable def wEs(C:Or):Es->Env->Hp->(List W->Hp->Prop)->Xq->Prop
 |.nil,σ,h,Q,X=>Q [] h
 |.cons e es,σ,h,Q,X=>wE C e σ h (fun w h=>wEs C es σ h (fun ws h=>Q (w::ws) h) X) X
end
mutual
theorem aU(C:Or):∀(e:E)(σ:Env)(h:Hp)(Q:Wq)(X:Xq),wE C e σ h Q X->Po (af C e σ h) Q X
 |.var i,σ,h,Q,X,p=>by
  replace p:(match σ[i]? with|some (some w)=>Q w h|_=>False):=p;rw[xo];split at p
  .next w e=>(try rw[e]);exact p
  .exact p.elim
 |.cst w,σ,h,Q,X,p=>p
 |.tup es,σ,h,Q,X,p=>Po.bind (iU C es σ h _ X p)
 |.lst es,σ,h,Q,X,p=>Po.bind (iU C es σ h _ X p)
 |.bin op a b,σ,h,Q,X,p=>Po.bind ((aU C a σ h _ X p).mono (fun x h p=>Po.bind ((aU C b σ h _ X p).mono (fun y h p=>MJ p) fun _ _ z=>z)) fun _ _ z=>z)
 |.cmp op a b,σ,h,Q,X,p=>Po.bind ((aU C a σ h _ X p).mono (fun x h p=>Po.bind ((aU C b σ h _ X p).mono (fun y h p=>by
   cases p with
   |of t e q=>exact Po.of (by rw[e];rfl) q) fun _ _ z=>z)) fun _ _ z=>z)
 |.idx a b,σ,h,Q,X,p=>Po.bind ((aU C a σ h _ X p).mono (fun x h p=>Po.bind (aU C b σ h _ X p)) fun _ _ z=>z)
 |.call f es,σ,h,Q,X,p=>Po.bind (iU C es σ h _ X p)
 |.own o c m f es,σ,h,Q,X,p=>Po.bind ((aU C o σ h _ X p).mono (fun x h p=>by rw[if_pos p.1];exact Po.bind (iU C es σ h _ X p.2)) fun _ _ z=>z)
 |.fld a x,σ,h,Q,X,p=>Po.bind (aU C a σ h _ X p)
 |.blt b a,σ,h,Q,X,p=>Po.bind (aU C a σ h _ X p)
 |.eT m o es,σ,h,Q,X,p=>Po.bind ((aU C o σ h _ X p).mono (fun x h p=>by rw[if_pos p.1];exact Po.bind (iU C es σ h _ X p.2)) fun _ _ z=>z)
 |.and a b,σ,h,Q,X,p=>Po.bind ((aU C a σ h _ X p).mono (fun x h p=>by
   split at p
   .exact aU C b σ h Q X p
   .exact p
   .exact p.elim) fun _ _ z=>z)
 |.or a b,σ,h,Q,X,p=>Po.bind ((aU C a σ h _ X p).mono (fun x h p=>by
   split at p
   .exact aU C b σ h Q X p
   .exact p
   .exact p.elim) fun _ _ z=>z)
 |.not a,σ,h,Q,X,p=>Po.bind (aU C a σ h _ X p)
 |.ite c a b,σ,h,Q,X,p=>Po.bind ((aU C c σ h _ X p).mono (fun x h p=>by
   split at p
   .next e=>(try rw[e]);exact aU C a σ h Q X p
   .next e=>(try rw[e]);exact aU C b σ h Q X p
   .exact p.elim) fun _ _ z=>z)
 |.mk c f es,σ,h,Q,X,p=>Po.bind ((iU C es σ h _ X p).mono (fun ws h p=>Po.bind (p.mono (fun r h' p=>by
   split at p
   .exact p
   .exact p.elim) fun _ _ z=>z)) fun _ _ z=>z)
 |.qM k,σ,h,Q,X,p=>Po.bind ((aU C k σ h _ X p).mono (fun x h p=>by
   split at p
   .exact p
   .exact p.elim) fun _ _ z=>z)
 |.qL k g,σ,h,Q,X,p=>Po.bind ((aU C k σ h _ X p).mono (fun x h p=>by
   split at p
   .exact p
   .exact p.elim) fun _ _ z=>z)
 |.qN k g,σ,h,Q,X,p=>Po.bind ((aU C k σ h _ X p).mono (fun x h p=>by
   split at p
   .exact p
   .exact p.elim) fun _ _ z=>z)
 |.gW k g,σ,h,Q,X,p=>Po.bind ((aU C k σ h _ X p).mono (fun x h p=>by
   split at p
   .exact p
   .exact p.elim) fun _ _ z=>z)
 |.fc _,_,_,_,_,p=>p
 |.sl _ _ _,_,_,_,_,p=>p
 |.comp _ _ _,_,_,_,_,p=>p
 |.bad,_,_,_,_,p=>p
 |.kS _ _ _ _,_,_,_,_,p=>p
 |.lX _ _,_,_,_,_,p=>p
theorem iU(C:Or):∀(es:Es)(σ:Env)(h:Hp)(Q:List W->Hp->Prop)(X:Xq),wEs C es σ h Q X->Po (ck C es σ h) Q X
 |.nil,σ,h,Q,X,p=>p
 |.cons e es,σ,h,Q,X,p=>Po.bind ((aU C e σ h _ X p).mono (fun x h p=>Po.bind (iU C es σ h _ X p)) fun _ _ z=>z)
end
def wF(N:Nq)(Q:Wq)(f:Fl)(h:Hp):Prop:=match f with
 |.next σ=>N σ h
 |.ret w=>Q w h
 |_=>False
mutual
noncomputable def wS(C:Or):St->Env->Hp->Nq->Wq->Xq->Prop
 |.expr e,σ,h,N,Q,X=>wE C e σ h (fun _ h=>N σ h) X
 |.ret e,σ,h,N,Q,X=>wE C e σ h Q X
 |.set i e,σ,h,N,Q,X=>wE C e σ h (fun w h=>N (σ.set i (some w)) h) X
 |.og i j e,σ,h,N,Q,X=>wE C e σ h (fun w h=>match w with
  |.tup [u,v]=>N ((σ.set i (some u)).set j (some v)) h
  |_=>False) X
 |.nN i j k e,σ,h,N,Q,X=>wE C e σ h (fun w h=>match w with
  |.tup [u,v,w]=>N (((σ.set i (some u)).set j (some v)).set k (some w)) h
  |_=>False) X
 |.iff c a b,σ,h,N,Q,X=>wE C c σ h (fun x h=>match truth h x with
  |some true=>wSs C a σ h N Q X
  |some false=>wSs C b σ h N Q X
  |none=>False) X
 |.put o k e,σ,h,N,Q,X=>wE C e σ h (fun v h=>wE C o σ h (fun x h=>wE C k σ h (fun y h=>Po (jO x y v h) (fun _ h=>N σ h) X) X) X) X
 |.fput o x e,σ,h,N,Q,X=>wE C e σ h (fun v h=>wE C o σ h (fun w h=>Po (putField w x v h) (fun _ h=>N σ h) X) X) X
 |.raise c xs es,σ,h,N,Q,X=>wEs C es σ h (fun ws h=>ws.length=xs.length/\X h.length (h++[.aI c (xs.zip ws)])) X
 |s,σ,h,N,Q,X=>Po (dC C s σ h) (wF N Q) X
noncomputable def wSs(C:Or):List St->Env->Hp->Nq->Wq->Xq->Prop
 |[],σ,h,N,Q,X=>N σ h
 |s::r,σ,h,N,Q,X=>wS C s σ h (fun σ h=>wSs C r σ h N Q X) Q X
end
mutual
theorem LH(C:Or):∀(s:St)(σ:Env)(h:Hp)(N:Nq)(Q:Wq)(X:Xq),wS C s σ h N Q X->Po (dC C s σ h) (wF N Q) X
 |.expr e,σ,h,N,Q,X,p=>Po.bind (aU C e σ h _ X p)
 |.ret e,σ,h,N,Q,X,p=>Po.bind (aU C e σ h _ X p)
 |.set i e,σ,h,N,Q,X,p=>Po.bind (aU C e σ h _ X p)
 |.og i j e,σ,h,N,Q,X,p=>Po.bind ((aU C e σ h _ X p).mono (fun x h p=>by
   split at p
   .exact p
   .exact p.elim) fun _ _ z=>z)
 |.nN i j k e,σ,h,N,Q,X,p=>Po.bind ((aU C e σ h _ X p).mono (fun x h p=>by
   split at p
   .exact p
   .exact p.elim) fun _ _ z=>z)
 |.iff c a b,σ,h,N,Q,X,p=>Po.bind ((aU C c σ h _ X p).mono (fun x h p=>by
   split at p
   .next e=>(try rw[e]);exact kW C a σ h N Q X p
   .next e=>(try rw[e]);exact kW C b σ h N Q X p
   .exact p.elim) fun _ _ z=>z)
 |.put o k e,σ,h,N,Q,X,p=>Po.bind ((aU C e σ h _ X p).mono (fun v h p=>Po.bind ((aU C o σ h _ X p).mono (fun x h p=>Po.bind ((aU C k σ h _ X p).mono (fun y h p=>Po.bind p) fun _ _ z=>z)) fun _ _ z=>z)) fun _ _ z=>z)
 |.fput o x e,σ,h,N,Q,X,p=>Po.bind ((aU C e σ h _ X p).mono (fun v h p=>Po.bind ((aU C o σ h _ X p).mono (fun w h p=>Po.bind p) fun _ _ z=>z)) fun _ _ z=>z)
 |.raise c xs es,σ,h,N,Q,X,p=>Po.bind ((iU C es σ h _ X p).mono (fun ws h p=>by unfold o7;rw[if_pos p.1];exact p.2) fun _ _ z=>z)
 |.for _ _ _,_,_,_,_,_,p=>p
 |.bad,_,_,_,_,_,p=>p
 |.aug _ _ _,_,_,_,_,_,p=>p
 |.pA _ _,_,_,_,_,_,p=>p
 |.yM _ _,_,_,_,_,_,p=>p
 |.ki _ _ _ _ _ _,_,_,_,_,_,p=>p
theorem kW(C:Or):∀(ss:List St)(σ:Env)(h:Hp)(N:Nq)(Q:Wq)(X:Xq),wSs C ss σ h N Q X->Po (aF C ss σ h) (wF N Q) X
 |[],σ,h,N,Q,X,p=>p
 |s::r,σ,h,N,Q,X,p=>Po.bind ((LH C s σ h _ Q X p).mono (fun f h p=>by
   cases f with
   |next σ=>exact kW C r σ h N Q X p
   |ret w=>exact p
   |_=>exact p.elim) fun _ _ z=>z)
end
theorem wp_run{T:List Fn}{f k:Nat}{fn:Fn}{xs:List W}{h:Hp}{Q:Wq}{X:Xq}(e:T[f]?=some fn)(l:xs.length=fn.ps)(p:wSs (run T k) fn.body (xs.map some++List.replicate (fn.ns-fn.ps) none) h (fun _ h=>Q .ah h) Q X):Po (run T (k+1) f xs h) Q X:=by show Po (match T[f]? with|some fn=>dZ (run T k) fn xs h|none=>run T k (f-1000) xs h) Q X;rw[e];show Po (if xs.length=fn.ps then _ else _) Q X;rw[if_pos l];refine Po.bind ((kW _ _ _ _ _ _ _ p).mono (fun f h p=>?_) fun _ _ z=>z);cases f<;>exact p
noncomputable def wT(K:Env->Hp->Nq->Wq->Xq->Prop)(t:Tg):List W->Env->Hp->Nq->Wq->Xq->Prop
 |[],σ,h,N,Q,X=>N σ h
 |x::xs,σ,h,N,Q,X=>match qe t x σ with
  |some σ1=>K σ1 h (fun σ h=>wT K t xs σ h N Q X) Q X
  |none=>False
theorem Er{C:Or}{b:List St}{t:Tg}:∀(xs:List W)(σ:Env)(h:Hp)(N:Nq)(Q:Wq)(X:Xq),wT (wSs C b) t xs σ h N Q X->Po (j9 t (aF C b) xs σ h) (wF N Q) X
 |[],σ,h,N,Q,X,p=>p
 |x::xs,σ,h,N,Q,X,p=>by
  replace p:(match qe t x σ with|some σ1=>wSs C b σ1 h (fun σ h=>wT (wSs C b) t xs σ h N Q X) Q X|none=>False):=p;rw[j9,turn];cases e:qe t x σ with
  |none=>rw[e] at p;exact p.elim
  |some σ1=>
   rw[e] at p;refine Po.bind ((kW C b σ1 h _ Q X p).mono (fun f h p=>?_) fun _ _ z=>z);cases f with
   |next σ=>exact Er xs σ h N Q X p
   |ret w=>exact p
   |_=>exact p.elim
theorem iT{C:Or}{b:List St}{t:Tg}{it:It}{σ:Env}{h h1:Hp}{N:Nq}{Q:Wq}{X:Xq}{xs:List W}(e:dN C it σ h=.ok (.fix xs) h1)(p:wT (wSs C b) t xs σ h1 N Q X):Po (dC C (.for t it b) σ h) (wF N Q) X:=by rw[yr,e];exact Er xs σ h1 N Q X p
theorem Po.eq{α:Type}{r:R α}{a:α}{h:Hp}(p:Po r (fun w h'=>w=a/\h'=h) fun _ _=>False):r=.ok a h:=by
 cases r with
 |ok w h'=>obtain⟨rfl,rfl⟩:=p;rfl
 |aI=>exact p.elim
 |bad=>exact p.elim
noncomputable def wK(C:Or)(elt:E)(σ:Env):List W->List W->Hp->(List W->Hp->Prop)->Xq->Prop
 |[],acc,h,Q,X=>Q acc h
 |x::xs,acc,h,Q,X=>wE C elt (σ++[some x]) h (fun y h=>wK C elt σ xs (acc++[y]) h Q X) fun _ _=>False
theorem E8{C:Or}{elt:E}{σ:Env}:∀(xs acc:List W)(h:Hp)(Q:List W->Hp->Prop)(X:Xq),wK C elt σ xs acc h Q X->Po (fS (lO (fW C .none) (af C elt) σ) xs acc h) Q X
 |[],acc,h,Q,X,p=>p
 |x::xs,acc,h,Q,X,p=>by
  refine Po.bind ?_;show Po ((af C elt (σ++[some x]) h).fA.bind fun y h=>.ok (acc++[y]) h) _ _;have q:=(aU C elt _ h _ _ p).mono (fun y h p=>E8 xs (acc++[y]) h Q X p) fun _ _ z=>z;cases e:af C elt (σ++[some x]) h with
  |ok y h1=>rw[e] at q;exact q
  |aI _ _=>rw[e] at q;exact q.elim
  |bad=>rw[e] at q;exact q.elim
theorem rQ{C:Or}{elt:E}{it:It}{σ:Env}{h h1:Hp}{Q:Wq}{X:Xq}{xs:List W}(e:dN C it σ h=.ok (.fix xs) h1)(p:wK C elt σ xs [] h1 (fun ys h=>ys.length<=SZ/\Q (.ref h.length) (h++[.lst ys])) X):Po (af C (.comp elt it .none) σ h) Q X:=by rw[mq,e];show Po ((fS (lO (fW C .none) (af C elt) σ) xs [] h1).bind f7) Q X;refine Po.bind ((E8 xs [] h1 _ X p).mono (fun ys h p=>?_) fun _ _ z=>z);unfold f7;rw[if_pos p.1];exact p.2
theorem F7{op:Op}{x y:W}{h:Hp}{Q Q':Wq}{X:Xq}(p:wB op x y h Q X)(m:∀w h,Q w h->Q' w h):wB op x y h Q' X:=by
 unfold wB at p⊢;split at p
 .exact m _ _ p
 .exact m _ _ p
 .exact⟨p.1,m _ _ p.2⟩
 .exact Po.mono p m fun _ _ z=>z
theorem wC.mono{op:Cp}{x y:W}{h:Hp}{Q Q':Wq}(p:wC op x y h Q)(m:∀w h,Q w h->Q' w h):wC op x y h Q':=by
 cases p with
 |of t e q=>exact .of t e (m _ _ q)
mutual
theorem bj(C:Or):∀(e:E)(σ:Env)(h:Hp)(Q Q':Wq)(X:Xq),wE C e σ h Q X->(∀w h,Q w h->Q' w h)->wE C e σ h Q' X
 |.var i,σ,h,Q,Q',X,p,m=>by
  show (match σ[i]? with|some (some w)=>Q' w h|_=>False);replace p:(match σ[i]? with|some (some w)=>Q w h|_=>False):=p;split at p
  .exact m _ _ p
  .exact p.elim
 |.cst w,σ,h,Q,Q',X,p,m=>m _ _ p
 |.tup es,σ,h,Q,Q',X,p,m=>gD C es σ h _ _ X p fun _ _ z=>m _ _ z
 |.lst es,σ,h,Q,Q',X,p,m=>gD C es σ h _ _ X p fun _ _ z=>m _ _ z
 |.bin op a b,σ,h,Q,Q',X,p,m=>bj C a σ h _ _ X p fun x h p=>bj C b σ h _ _ X p fun y h p=>F7 p m
 |.cmp op a b,σ,h,Q,Q',X,p,m=>bj C a σ h _ _ X p fun x h p=>bj C b σ h _ _ X p fun y h p=>wC.mono p m
 |.idx a b,σ,h,Q,Q',X,p,m=>bj C a σ h _ _ X p fun x h p=>bj C b σ h _ _ X p fun y h p=>Po.mono p m fun _ _ z=>z
 |.call f es,σ,h,Q,Q',X,p,m=>gD C es σ h _ _ X p fun _ _ p=>Po.mono p m fun _ _ z=>z
 |.own o c mm f es,σ,h,Q,Q',X,p,m=>bj C o σ h _ _ X p fun x h p=>⟨p.1,gD C es σ h _ _ X p.2 fun _ _ p=>Po.mono p m fun _ _ z=>z⟩
 |.fld a x,σ,h,Q,Q',X,p,m=>bj C a σ h _ _ X p fun x h p=>Po.mono p m fun _ _ z=>z
 |.blt b a,σ,h,Q,Q',X,p,m=>bj C a σ h _ _ X p fun x h p=>Po.mono p m fun _ _ z=>z
 |.eT mm o es,σ,h,Q,Q',X,p,m=>bj C o σ h _ _ X p fun x h p=>⟨p.1,gD C es σ h _ _ X p.2 fun _ _ p=>Po.mono p m fun _ _ z=>z⟩
 |.and a b,σ,h,Q,Q',X,p,m=>bj C a σ h _ _ X p fun x h p=>by
   split at p
   .exact bj C b σ h _ _ X p m
   .exact m _ _ p
   .exact p.elim
 |.or a b,σ,h,Q,Q',X,p,m=>bj C a σ h _ _ X p fun x h p=>by
   split at p
   .exact bj C b σ h _ _ X p m
   .exact m _ _ p
   .exact p.elim
 |.not a,σ,h,Q,Q',X,p,m=>bj C a σ h _ _ X p fun x h p=>Po.mono p m fun _ _ z=>z
 |.ite c a b,σ,h,Q,Q',X,p,m=>bj C c σ h _ _ X p fun x h p=>by
   split at p
   .exact bj C a σ h _ _ X p m
   .exact bj C b σ h _ _ X p m
   .exact p.elim
 |.mk c f es,σ,h,Q,Q',X,p,m=>gD C es σ h _ _ X p fun _ _ p=>Po.mono p (fun r h' p=>by
   split at p
   .exact m _ _ p
   .exact p.elim) fun _ _ z=>z
 |.qM k,σ,h,Q,Q',X,p,m=>bj C k σ h _ _ X p fun x h p=>by
   split at p
   .exact m _ _ p
   .exact p.elim
 |.qL k g,σ,h,Q,Q',X,p,m=>bj C k σ h _ _ X p fun x h p=>by
   split at p
   .exact m _ _ p
   .exact p.elim
 |.qN k g,σ,h,Q,Q',X,p,m=>bj C k σ h _ _ X p fun x h p=>by
   split at p
   .exact Po.mono p m fun _ _ z=>z
   .exact p.elim
 |.gW k g,σ,h,Q,Q',X,p,m=>bj C k σ h _ _ X p fun x h p=>by
   split at p
   .exact m _ _ p
   .exact p.elim
 |.fc _,_,_,_,_,_,p,m=>Po.mono p m fun _ _ z=>z
 |.sl _ _ _,_,_,_,_,_,p,m=>Po.mono p m fun _ _ z=>z
 |.comp _ _ _,_,_,_,_,_,p,m=>Po.mono p m fun _ _ z=>z
 |.bad,_,_,_,_,_,p,m=>Po.mono p m fun _ _ z=>z
 |.kS _ _ _ _,_,_,_,_,_,p,m=>Po.mono p m fun _ _ z=>z
 |.lX _ _,_,_,_,_,_,p,m=>Po.mono p m fun _ _ z=>z
theorem gD(C:Or):∀(es:Es)(σ:Env)(h:Hp)(Q Q':List W->Hp->Prop)(X:Xq),wEs C es σ h Q X->(∀w h,Q w h->Q' w h)->wEs C es σ h Q' X
 |.nil,σ,h,Q,Q',X,p,m=>m _ _ p
 |.cons e es,σ,h,Q,Q',X,p,m=>bj C e σ h _ _ X p fun x h p=>gD C es σ h _ _ X p fun _ _ z=>m _ _ z
end
end Tw
namespace K05
open Tw
abbrev JI:S:=[121,101,115]
abbrev NV:S:=[110,111]
abbrev DZ:S:=[118,97,114]
abbrev EF:S:=[110,111,110,101]
abbrev Ff:S:=[108,105,107,101]
abbrev Ac:S:=[102,117,110]
abbrev uQ:S:=[101,110,100]
noncomputable def T1.s:T1->S
 |.left=>[108,101,102,116]
 |.right=>[114,105,103,104,116]
 |.bA=>[108,105,107,101,114,111,119]
noncomputable def T2.s:T2->S
 |.call=>[99,97,108,108]
 |.both=>[98,111,116,104]
 |.more=>[109,111,114,101]
 |.sum=>[115,117,109]
 |.less=>[108,101,115,115]
 |.bx=>[108,105,107,101,112,97,105,114]
noncomputable def T3.s:T3->S
 |.fold=>[102,111,108,100]
 |.bh=>[105,102]
noncomputable def Co.ae:C->W
 |.num i=>.tup [.str gM,.int i]
 |.yes=>.tup [.str JI]
 |.no=>.tup [.str NV]
 |.var i=>.tup [.str DZ,.int i]
 |.ah k=>.tup [.str EF,k.ae]
 |.like k=>.tup [.str Ff,k.ae]
 |.fn k c=>.tup [.str Ac,k.ae,Co.ae c]
 |.n1 t a=>.tup [.str t.s,Co.ae a]
 |.n2 t a b=>.tup [.str t.s,Co.ae a,Co.ae b]
 |.n3 t a b c=>.tup [.str t.s,Co.ae a,Co.ae b,Co.ae c]
 |.en a u=>.tup [.str uQ,Co.ae a,Co.ae u]
noncomputable def parts:C->List C
 |.fn _ c=>[c]
 |.n1 _ a=>[a]
 |.n2 _ a b=>[a,b]
 |.n3 _ a b c=>[a,b,c]
 |_=>[]
noncomputable def iJ:C->List C->C
 |.fn k _,[c]=>.fn k c
 |.n1 t _,[a]=>.n1 t a
 |.n2 t _ _,[a,b]=>.n2 t a b
 |.n3 t _ _ _,[a,b,c]=>.n3 t a b c
 |c,_=>c
noncomputable def cW:C->Nat
 |.n1 _ _=>1
 |.n2 _ _ _=>2
 |.n3 .fold _ _ _=>3
 |.n3 .bh _ _ _=>1
 |_=>0
noncomputable def hd:C->S
 |.num _=>gM
 |.yes=>JI
 |.no=>NV
 |.var _=>DZ
 |.ah _=>EF
 |.like _=>Ff
 |.fn _ _=>Ac
 |.n1 t _=>t.s
 |.n2 t _ _=>t.s
 |.n3 t _ _ _=>t.s
 |.en _ _=>uQ
theorem pq(k:Nat)(c:C)(h:Hp):run T (k+1) lR [Co.ae c] h=.ok (.tup ((parts c).map Co.ae)) h:=by rcases c with _|_|_|_|_|_|_|⟨_|_|_,_⟩|⟨_|_|_|_|_|_,_,_⟩|⟨_|_,_,_,_⟩|_<;>kernel_rfl
theorem eW(k:Nat)(c:C)(h:Hp):run T (k+1) fD [Co.ae c] h=.ok (Co.ae (bare c)) h:=by rcases c with _|_|_|_|_|_|_|⟨_|_|_,_⟩|⟨_|_|_|_|_|_,_,_⟩|⟨_|_,_,_,_⟩|_<;>kernel_rfl
theorem Eg:FU=2 ^ 2000:=by unfold FU;rfl
theorem EZ{n:Nat}(h:n<=2000):n<FU:=by rw[Eg];exact bT Nat.lt_two_pow_self (zO (by decide) h)
theorem qG{Φ:Or}{σ:Env}{h:Hp}{i:Nat}{v:W}(e:σ[i]?=some (some v)):af Φ (.var i) σ h=.ok v h:=by simp[e]
structure ai(a l:Nat)(h h':Hp):Prop where
 len:h.length<=h'.length
 keep:∀(q:Nat)(o:O),q≠a->q≠l->h[q]?=some o->h'[q]?=some o
theorem ai.refl(a l:Nat)(h:Hp):ai a l h h:=⟨aA _,fun _ _ _ _ e=>e⟩
theorem ai.trans{a l:Nat}{h h1 h2:Hp}(x:ai a l h h1)(y:ai a l h1 h2):ai a l h h2:=⟨bG x.len y.len,fun q o n m e=>y.keep q o n m (x.keep q o n m e)⟩
theorem ai.of{a l:Nat}{h h1:Hp}(x:aj h h1):ai a l h h1:=⟨x.len,fun q o _ _ e=>x.keep q o e⟩
theorem ai.set{a l p:Nat}(o:O)(h:Hp)(hp:p=a\/p=l):ai a l h (h.set p o):=
 ⟨by simp,fun q u n m e=>bH (by rcases hp with rfl|rfl;exact aX n;exact aX m) e⟩
theorem aT{h:Hp}{a:Nat}{o:O}(e:h[a]?=some o):a<h.length:=by
 rcases rN a h.length with q|q
 .exact q
 .rw[uO q] at e;cases e
theorem bK{h:Hp}{a:Nat}{o u:O}(e:h[a]?=some o):(h.set a u)[a]?=some u:=by rw[i5 (aT e)]
section
variable {C:Or}{h h1 h2 h':Hp}{q k i b d s0 p:Nat}{w s cn:S}{f v u:W}{A:List W}{σ:Env}{o:Bool}{c:E}{es:Es}
theorem Gw{y:W}(e:σ[i]?=some (some (.ref q)))(f:h[q]?=some (.lst (A++[y]))):af C (.eT .pop (.var i) .nil) σ h=.ok y (h.set q (.lst A)):=by simp[e,f]
theorem FE{y:W}{x:E}{acc acc':List W}(e:σ[i]?=some (some (.ref p)))(ep:h[p]?=some (.lst acc))(ex:af C x σ h=.ok y h1)(ep1:h1[p]?=some (.lst acc'))(hz:acc'.length<SZ):af C (.eT .append (.var i) (.cons x .nil)) σ h=.ok .ah (h1.set p (.lst (acc'++[y]))):=by simp[e,ep,ex,ep1,hz]
theorem Fx{x:E}{y:W}{r:List St}{z:R Fl}(e:af C x σ h=.ok y h1)(k:aF C r σ h1=z):aF C (.expr x::r) σ h=z:=by rw[dF,DO,e];exact k
theorem xK{n:Nat}(hn:n<=3)(hqp:q≠p):∀(rs acc:List W)(h:Hp)(m:Nat),h[q]?=some (.lst (A++rs.reverse))->h[p]?=some (.lst acc)->acc.length+rs.length=n->
  ∃h',fC (af C hJ) (aF C lM) (m+rs.length+1) [some (.ref q),some (.int n),some (.ref p)] h=.ok (.next [some (.ref q),some (.int n),some (.ref p)]) h'/\h'[q]?=some (.lst A)/\h'[p]?=some (.lst (acc++rs))/\ai q p h h'
 |[],acc,h,m,eq,ep,hl=>by
  refine⟨h,?_,by simpa using eq,by simpa using ep,ai.refl _ _ _⟩;have:¬ ((acc.length:Int)<n):=by simp at hl;lia
  simp[fC,hJ,ep,this]
 |y::rs,acc,h,m,eq,ep,hl=>by
  simp only[fZ] at hl;have hlt:((acc.length:Int)<n):=by lia
  have hz:acc.length<SZ:=by simp[SZ];lia
  have e1:(h.set q (.lst (A++rs.reverse)))[p]?=some (.lst acc):=bH hqp ep;have e2:((h.set q (.lst (A++rs.reverse))).set p (.lst (acc++[y])))[q]?=some (.lst (A++rs.reverse)):=bH (aX hqp) (bK eq);have e3:((h.set q (.lst (A++rs.reverse))).set p (.lst (acc++[y])))[p]?=some (.lst (acc++[y])):=bK e1;obtain⟨h',t1,t2,t3,t4⟩:=xK hn hqp rs (acc++[y]) _ m e2 e3 (by simp;lia);refine⟨h',?_,t2,by simpa using t3,(ai.set _ h (.inl rfl)).trans ((ai.set _ _ (.inr rfl)).trans t4)⟩;rw[show m+(y::rs).length+1=(m+rs.length+1)+1 by simp;lia];have c1:af C hJ [some (.ref q),some (.int n),some (.ref p)] h=.ok (.bl true) h:=by simp[hJ,ep,hlt]
  have b1:aF C lM [some (.ref q),some (.int n),some (.ref p)] h=.ok (.next [some (.ref q),some (.int n),some (.ref p)]) ((h.set q (.lst (A++rs.reverse))).set p (.lst (acc++[y]))):=
   Fx (FE rfl ep (Gw rfl (by rw[eq];simp)) e1 hz) rfl
  rw[fC,c1,R.aW];simp only[truth,b1,R.aW];exact t1
theorem CH{ks:List W}(hk:ks.length<=3)(eq:h[q]?=some (.lst (A++ks))):∃h',dZ C rW [.ref q,.int ks.length] h=.ok (.ref h.length) h'/\h'[q]?=some (.lst A)/\h'[h.length]?=some (.lst ks)/\ai q h.length h h':=by
 have hq:=aT eq;obtain⟨h1,t1,t2,t3,t4⟩:=xK (C:=C) (A:=A) (n:=ks.length) (q:=q) (p:=h.length) hk (by lia) ks.reverse [] (h++[.lst []]) (FU-ks.reverse.length-1) (by rw[List.reverse_reverse];exact aQ _ eq) (by simp) (by simp);rw[show FU-ks.reverse.length-1+ks.reverse.length+1=FU by have:ks.reverse.length<FU:=EZ (by simp;lia);lia] at t1;have e5:(h1.set h.length (.lst ks))[q]?=some (.lst A):=bH (by lia) t2;refine⟨h1.set h.length (.lst ks),?_,e5,bK t3,((ai.of (aj.app h [O.lst []])).trans t4).trans (ai.set _ _ (.inr rfl))⟩;refine ui [some (.ref q),some (.int ks.length),none] rfl rfl (lG (w:=.ref h.length) (h':=h++[.lst []]) (by kernel_rfl) (o8 (σ':=[some (.ref q),some (.int ks.length),some (.ref h.length)]) (h':=h1) ?_ (o8 (σ':=[some (.ref q),some (.int ks.length),some (.ref h.length)]) (h':=h1.set h.length (.lst ks)) ?_ (gN (qG rfl)))))
 .rw[Fz];exact t1
 .simp only[List.nil_append] at t3;simp[t3]
end
theorem gk{Φ:Or}{c:E}{b:List St}{n:Nat}{σ:Env}{h:Hp}{N:Nq}{Q:Wq}{X:Xq} (p:wE Φ c σ h (fun x h=>match truth h x with
  |some true=>wSs Φ b σ h (fun σ h=>Po (fC (af Φ c) (aF Φ b) n σ h) (wF N Q) X) Q X
  |some false=>N σ h
  |none=>False) X):Po (fC (af Φ c) (aF Φ b) (n+1) σ h) (wF N Q) X:=by
 rw[fC];refine Po.bind ((aU Φ c σ h _ X p).mono (fun x h p=>?_) fun _ _ z=>z);split at p
 .next e=>
  (try rw[e])
  refine Po.bind ((kW _ _ _ _ _ _ _ p).mono (fun f h p=>?_) fun _ _ z=>z);cases f with
  |next σ=>exact p
  |ret w=>exact p
  |brk σ=>exact p.elim
  |cont σ=>exact p.elim
 .next e=>(try rw[e]);exact p
 .exact p.elim
section
variable {h:Hp}{l q:Nat}{L:List W}{y x:W}{Q:Wq}{X:Xq}{P:Prop}
theorem kX(e:h[l]?=some (.lst (L++[y])))(q:Q y (h.set l (.lst L))):j6 .pop (.ref l) h=true/\Po (method .pop (.ref l) [] h) Q X:=
 ⟨by simp[e],Po.ok (by simp[e]) q⟩
theorem jA(e:h[l]?=some (.lst L)):j6 .append (.ref l) h=true:=by simp[e]
theorem jJ(e:h[l]?=some (.lst L))(n:L.length<SZ)(q:Q .ah (h.set l (.lst (L++[x])))):Po (method .append (.ref l) [x] h) Q X:=
 Po.ok (by simp[e,n]) q
theorem eh(e:h[l]?=some (.lst L))(q:Q (.int L.length) h):Po (builtin .len (.ref l) h) Q X:=Po.ok (by simp[e]) q
theorem GF(e:h[l]?=some (.lst L))(q:Q (.ref h.length) (h++[.lst L])):Po (builtin .list (.ref l) h) Q X:=Po.ok (by simp[e]) q
end
def inner(bd:List Kd):C->List Kd
 |.fn k _=>bd++[k]
 |_=>bd
noncomputable abbrev fE(b:Nat)(x:C)(r:Bool):W:=.tup [Co.ae x,.ref b,.bl r]
noncomputable abbrev sw(c0 b0:W)(fa a l:Nat)(t5 t6 t7 t8 t9 t10:Option W):Env:=[some c0,some b0,some (.ref fa),some (.ref a),some (.ref l),t5,t6,t7,t8,t9,t10]
abbrev wN(Φ:Or)(m:Nat)(σ:Env)(h:Hp):R Fl:=fC (af Φ pJ) (aF Φ pE) m σ h
theorem KI(c:C):(∃k b,c=.fn k b)\/(hd c≠Ac/\∀bd,inner bd c=bd):=by rcases c with _|_|_|_|_|_|_|⟨_|_|_,_⟩|⟨_|_|_|_|_|_,_,_⟩|⟨_|_,_,_,_⟩|_<;>first|exact .inl ⟨_,_,rfl⟩|exact .inr ⟨by simp[hd,T1.s,T2.s,T3.s],fun _=>rfl⟩
theorem pD(c:C)(h:Hp):idx (Co.ae c) (.int 0) h=.ok (.str (hd c)) h:=by cases c<;>rfl
theorem uk(c:C):(parts c).length<=3:=by cases c<;>simp[parts]
theorem ai.less{a l n:Nat}{h h':Hp}(g:ai a n h h')(hn:h.length<=n)(ha:a<h.length):ai a l h h':=
 ⟨g.len,fun q o x _ e=>g.keep q o x (by have:=aT e;lia) e⟩
section
variable {m n:Nat}{h:Hp}{b fa a l:Nat}{c0 b0:W}{L A:List W}{bd:List Kd}{t5 t6 t7 t8 t9 t10:Option W}{N:Nq}{Q:Wq}{X:Xq}
theorem yc{Φ:Or}{b':Nat}:∀(xs:List C)(L:List W)(h:Hp)(t10:Option W),h[l]?=some (.lst L)->L.length+xs.length<=SZ->
  (∀h' u,ai l l h h'->h'[l]?=some (.lst (L++xs.map fun x=>fE b' x false))->N (sw c0 b0 fa a l t5 t6 t7 t8 (some (.ref b')) u) h')->
  wT (wSs Φ kP) (.var 10) (xs.map Co.ae) (sw c0 b0 fa a l t5 t6 t7 t8 (some (.ref b')) t10) h N Q X
 |[],L,h,t10,el,hn,k=>k h t10 (ai.refl _ _ _) (by simpa using el)
 |x::xs,L,h,t10,el,hn,k=>by
  simp only[fZ] at hn;refine dW (jA el) (jJ el (by lia) ?_);refine yc xs (L++[fE b' x false]) _ _ (bK el) (by simp;lia) fun h' u g e=>k h' u ((ai.set _ h (.inl rfl)).trans g) (by simpa using e)
theorem j4(c:C)(el:h[l]?=some (.lst (L++[fE b c false])))(eb:h[b]?=some (.lst (bd.map Kd.ae)))(hL:L.length+4<SZ)(hb:bd.length<1000)(ba:b≠a/\b≠l)(hla:l<h.length/\a<h.length)
  (k:∀h' b' u9 u10,ai l l h h'->h'[l]?=some (.lst (L++[fE b c true]++(parts c).reverse.map fun x=>fE b' x false))->h'[b']?=some (.lst ((inner bd c).map Kd.ae))->b'≠a/\b'≠l->
   Po (wN (run T (m+2)) n (sw c0 b0 fa a l (some (Co.ae c)) (some (.ref b)) (some (.bl false)) (some (.tup ((parts c).map Co.ae))) u9 u10) h') (wF N Q) X):
  Po (wN (run T (m+2)) (n+1) (sw c0 b0 fa a l t5 t6 t7 t8 t9 t10) h) (wF N Q) X:=by
 refine gk ?_;refine eh el ?_;refine wC.of true (by simp) ?_;refine kX el ?_;refine Po.ok (pq (m+1) c _) ?_;have e1:(h.set l (.lst L))[l]?=some (.lst L):=bK el;refine dW (jA e1) (jJ e1 (by lia) ?_);have e2:=bK (u:=.lst (L++[fE b c true])) e1;have g2:ai l l h ((h.set l (.lst L)).set l (.lst (L++[fE b c true]))):=(ai.set _ _ (.inl rfl)).trans (ai.set _ _ (.inl rfl));have eb2:=g2.keep _ _ ba.2 ba.2 eb;have ln:=g2.len;generalize (h.set l (.lst L)).set l (.lst (L++[fE b c true]))=h2 at e2 g2 eb2 ln⊢;refine Po.ok (pD c h2) ?_;refine wC.eqs ?_;have fin:∀(h3:Hp)(b':Nat),aj h2 h3->h3[b']?=some (.lst ((inner bd c).map Kd.ae))->b'≠a/\b'≠l->wSs (run T (m+2)) [.for (.var 10) (.rev (.var 8)) kP] (sw c0 b0 fa a l (some (Co.ae c)) (some (.ref b)) (some (.bl false)) (some (.tup ((parts c).map Co.ae))) (some (.ref b')) t10) h3 (fun σ h=>Po (wN (run T (m+2)) n σ h) (wF N Q) X) Q X:=by intro h3 b' g3 e3 n3;refine iT (xs:=(parts c).reverse.map Co.ae) (h1:=h3) (by simp) ?_;have:=uk c;refine yc (parts c).reverse _ h3 t10 (g3.keep _ _ e2) (by simp;lia) fun h' u g e=>?_;exact k h' b' (some (.ref b')) u (g2.trans ((ai.of g3).trans g)) e (g.keep _ _ n3.2 n3.2 e3) n3
 rcases KI c with ⟨kd,bo,rfl⟩|⟨ne,ie⟩
 .have e4:=aQ [O.lst [kd.ae]] eb2;refine Po.ok (a:=.ref (h2.length+1)) (h:=h2++[.lst [kd.ae]]++[.lst ((bd++[kd]).map Kd.ae)]) ?_ (fin _ _ ((aj.app _ _).trans (aj.app _ _)) (by simp[inner]) (by lia));have:bd.length+1<=16777216:=by lia
  simp[e4,SZ,this]
 .rw[aY ne];exact fin h2 b (aj.refl _) (by rw[ie];exact eb2) ba
end
def res(ov:Nat->C->Option C):Nat->C->C
 |n,.fn k c=>.fn k (res ov (n+1) c)
 |n,.n1 t a=>.n1 t (res ov n a)
 |n,.n2 t a b=>.n2 t (res ov n a) (res ov n b)
 |n,.n3 t a b c=>.n3 t (res ov n a) (res ov n b) (res ov n c)
 |n,c=>(ov n c).getD c
structure xZ(m f:Nat)(ws:List W)(ov:Nat->C->Option C):Prop where
 eq:∀(c:C)(ks:List C)(h:Hp)(q b:Nat)(bd:List W),h[q]?=some (.lst (ks.map Co.ae))->h[b]?=some (.lst bd)->ks.length=(parts c).length->run T (m+2) f ([Co.ae c,.ref b,.ref q]++ws) h=.ok (Co.ae ((ov bd.length c).getD (iJ c ks))) h
 lf:∀n c,0<(parts c).length->ov n c=none
noncomputable def turns:C->Nat
 |.fn _ c=>turns c+2
 |.n1 _ a=>turns a+2
 |.n2 _ a b=>turns a+turns b+2
 |.n3 _ a b c=>turns a+turns b+turns c+2
 |_=>2
section
variable {m n:Nat}{h:Hp}{b fa a l f:Nat}{c0 b0:W}{L A ws:List W}{bd:List Kd}{t5 t6 t7 t8 t9 t10:Option W}{N:Nq}{Q:Wq}{X:Xq}{ov:Nat->C->Option C}
theorem jI(H:xZ m f ws ov)(c:C)(ks:List C)(ef:h[fa]?=some (.fun f ws))(fl:fa≠l/\fa≠a)(el:h[l]?=some (.lst (L++[fE b c true])))(ea:h[a]?=some (.lst (A++ks.map Co.ae)))(al:a≠l)(eb:h[b]?=some (.lst (bd.map Kd.ae)))(hA:A.length<SZ)(ba:b≠a/\b≠l)(lk:ks.length=(parts c).length)
  (k:∀h' t7 t8,ai a l h h'->h'[l]?=some (.lst L)->h'[a]?=some (.lst (A++[Co.ae ((ov bd.length c).getD (iJ c ks))]))->Po (wN (run T (m+2)) n (sw c0 b0 fa a l (some (Co.ae c)) (some (.ref b)) t7 t8 t9 t10) h') (wF N Q) X):
  Po (wN (run T (m+2)) (n+1) (sw c0 b0 fa a l t5 t6 t7 t8 t9 t10) h) (wF N Q) X:=by
 refine gk ?_;refine eh el ?_;refine wC.of true (by simp) ?_;refine kX el ?_;refine Po.ok (pq (m+1) c _) ?_;have e1:(h.set l (.lst L))[l]?=some (.lst L):=bK el;have g1:ai a l h (h.set l (.lst L)):=ai.set _ _ (.inr rfl);have ea1:(h.set l (.lst L))[a]?=some (.lst (A++ks.map Co.ae)):=bH (aX al) ea;have ef1:(h.set l (.lst L))[fa]?=some (.fun f ws):=bH (aX fl.1) ef;have eb1:(h.set l (.lst L))[b]?=some (.lst (bd.map Kd.ae)):=bH (aX ba.2) eb;generalize h.set l (.lst L)=h1 at *;refine dW (jA ea1) ?_;obtain⟨h2,t1,t2,t3,t4⟩:=CH (C:=run T (m+1)) (ks:=ks.map Co.ae) (by have:=uk c;simp;lia) ea1;have kp:∀{q:Nat}{o:O},q≠a->h1[q]?=some o->h2[q]?=some o:=fun n e=>t4.keep _ _ n (by have:=aT e;lia) e;have tk:run T (m+2) oV [.ref a,.int (ks.map Co.ae).length] h1=.ok (.ref h1.length) h2:=t1;refine Po.ok (a:=Co.ae ((ov bd.length c).getD (iJ c ks))) (h:=h2) ?_ ?_
 .rw[A1];simp only[List.getElem?_cons_succ,List.getElem?_cons_zero,List.set,ef1];have ec:af (run T (m+2)) (.call oV (.cons (.var 3) (.cons (.blt .len (.var 8)) .nil))) (sw c0 b0 fa a l (some (Co.ae c)) (some (.ref b)) (some (.bl true)) (some (.tup ((parts c).map Co.ae))) t9 t10) h1=.ok (.ref h1.length) h2:=by
   rw[<-tk,show ((ks.map Co.ae).length:Nat)=((parts c).map Co.ae).length by simp[lk]];rfl
  rw[kg,qG (i:=5) rfl,R.aW,kg,qG (i:=6) rfl,R.aW,kg,ec];have:=H.eq c ks h2 h1.length b (bd.map Kd.ae) t3 (kp ba.1 eb1) lk;rw[iG] at this;exact this
 .refine jJ t2 hA ?_;exact k _ _ _ ((g1.trans (t4.less (aA _) (aT ea1))).trans (ai.set _ _ (.inl rfl))) (bH al (kp (aX al) e1)) (bK t2)
theorem GH(H:xZ m f ws ov)(fl:fa≠l/\fa≠a)(al:a≠l):∀(c:C)(bd:List Kd)(L A:List W)(h:Hp)(b n:Nat)(t5 t6 t7 t8 t9 t10:Option W),h[fa]?=some (.fun f ws)->h[l]?=some (.lst (L++[fE b c false]))->h[a]?=some (.lst A)->h[b]?=some (.lst (bd.map Kd.ae))->b≠a/\b≠l->L.length+4 * c.depth+4<SZ->A.length+4 * c.depth+4<SZ->bd.length+c.depth<1000->
  (∀h' t5 t6 t7 t8 t9 t10,ai a l h h'->h'[l]?=some (.lst L)->h'[a]?=some (.lst (A++[Co.ae (res ov bd.length c)]))->Po (wN (run T (m+2)) n (sw c0 b0 fa a l t5 t6 t7 t8 t9 t10) h') (wF N Q) X)->
  Po (wN (run T (m+2)) (turns c+n) (sw c0 b0 fa a l t5 t6 t7 t8 t9 t10) h) (wF N Q) X:=by
 have G1:∀{h h':Hp},ai l l h h'->ai a l h h':=fun g=>⟨g.len,fun q o _ n e=>g.keep q o n n e⟩;have leaf:∀(c:C),parts c=[]->turns c=2->(∀n,res ov n c=(ov n c).getD c)->(∀ks,iJ c ks=c)->(∀bd,inner bd c=bd)->∀(bd:List Kd)(L A:List W)(h:Hp)(b n:Nat)(t5 t6 t7 t8 t9 t10:Option W),h[fa]?=some (.fun f ws)->h[l]?=some (.lst (L++[fE b c false]))->h[a]?=some (.lst A)->h[b]?=some (.lst (bd.map Kd.ae))->b≠a/\b≠l->L.length+4 * c.depth+4<SZ->A.length+4 * c.depth+4<SZ->bd.length+c.depth<1000->
  (∀h' t5 t6 t7 t8 t9 t10,ai a l h h'->h'[l]?=some (.lst L)->h'[a]?=some (.lst (A++[Co.ae (res ov bd.length c)]))->Po (wN (run T (m+2)) n (sw c0 b0 fa a l t5 t6 t7 t8 t9 t10) h') (wF N Q) X)->
  Po (wN (run T (m+2)) (turns c+n) (sw c0 b0 fa a l t5 t6 t7 t8 t9 t10) h) (wF N Q) X:=by
  intro c p0 tc rc wc ic bd L A h b n t5 t6 t7 t8 t9 t10 ef el ea eb ba hL hA hb k;rw[tc,show 2+n=(n+1)+1 by lia];refine j4 c el eb (by lia) (by lia) ba ⟨aT el,aT ea⟩ fun h1 b' u9 u10 g1 e1 e2 n2=>?_;rw[p0] at e1;simp only[List.reverse_nil,zJ,eX] at e1;refine jI H c [] (g1.keep _ _ fl.1 fl.1 ef) fl e1 (by simpa using g1.keep _ _ al al ea) al (g1.keep _ _ ba.2 ba.2 eb) (by lia) ba (by rw[p0]) fun h2 t7 t8 g2 f1 f2=>?_;rw[wc,<-rc] at f2;exact k h2 _ _ _ _ _ _ ((G1 g1).trans g2) f1 f2
 intro c
 induction c with
 |num i=>exact leaf _ rfl rfl (fun _=>rfl) (fun _=>rfl) (fun _=>rfl)
 |yes=>exact leaf _ rfl rfl (fun _=>rfl) (fun _=>rfl) (fun _=>rfl)
 |no=>exact leaf _ rfl rfl (fun _=>rfl) (fun _=>rfl) (fun _=>rfl)
 |var i=>exact leaf _ rfl rfl (fun _=>rfl) (fun _=>rfl) (fun _=>rfl)
 |ah k=>exact leaf _ rfl rfl (fun _=>rfl) (fun _=>rfl) (fun _=>rfl)
 |like k=>exact leaf _ rfl rfl (fun _=>rfl) (fun _=>rfl) (fun _=>rfl)
 |en x u _ _=>exact leaf _ rfl rfl (fun _=>rfl) (fun _=>rfl) (fun _=>rfl)
 |fn kd x ix=>
  intro bd L A h b n t5 t6 t7 t8 t9 t10 ef el ea eb ba hL hA hb k;simp only[Co.depth] at hL hA hb;rw[turns,show turns x+2+n=(turns x+(n+1))+1 by lia];refine j4 _ el eb (by lia) (by lia) ba ⟨aT el,aT ea⟩ fun h1 b' u9 u10 g1 e1 e2 n2=>?_;refine ix _ (L++[fE b (.fn kd x) true]) A h1 b' _ _ _ _ _ _ _ (g1.keep _ _ fl.1 fl.1 ef) e1 (g1.keep _ _ al al ea) e2 n2 (by simp;lia) (by lia) (by simp[inner];lia) fun h2 t5 t6 t7 t8 t9 t10 g2 f1 f2=>?_;refine jI H _ [res ov (inner bd (.fn kd x)).length x] ((G1 g1).trans g2 |>.keep _ _ fl.2 fl.1 ef) fl f1 (by simpa using f2) al ((G1 g1).trans g2 |>.keep _ _ ba.1 ba.2 eb) (by lia) ba rfl fun h3 t7 t8 g3 z1 z2=>?_;rw[H.lf _ _ (by simp[parts])] at z2;exact k h3 _ _ _ _ _ _ (((G1 g1).trans g2).trans g3) z1 (by simpa [inner,iJ,res] using z2)
 |n1 t x ix=>
  intro bd L A h b n t5 t6 t7 t8 t9 t10 ef el ea eb ba hL hA hb k;simp only[Co.depth] at hL hA hb;rw[turns,show turns x+2+n=(turns x+(n+1))+1 by lia];refine j4 _ el eb (by lia) (by lia) ba ⟨aT el,aT ea⟩ fun h1 b' u9 u10 g1 e1 e2 n2=>?_;refine ix _ (L++[fE b (.n1 t x) true]) A h1 b' _ _ _ _ _ _ _ (g1.keep _ _ fl.1 fl.1 ef) e1 (g1.keep _ _ al al ea) e2 n2 (by simp;lia) (by lia) (by simp[inner];lia) fun h2 t5 t6 t7 t8 t9 t10 g2 f1 f2=>?_;refine jI H _ [res ov bd.length x] ((G1 g1).trans g2 |>.keep _ _ fl.2 fl.1 ef) fl f1 (by simpa [inner] using f2) al ((G1 g1).trans g2 |>.keep _ _ ba.1 ba.2 eb) (by lia) ba rfl fun h3 t7 t8 g3 z1 z2=>?_;rw[H.lf _ _ (by simp[parts])] at z2;exact k h3 _ _ _ _ _ _ (((G1 g1).trans g2).trans g3) z1 z2
 |n2 t x y ix iy=>
  intro bd L A h b n t5 t6 t7 t8 t9 t10 ef el ea eb ba hL hA hb k;simp only[Co.depth] at hL hA hb;rw[turns,show turns x+turns y+2+n=(turns x+(turns y+(n+1)))+1 by lia];refine j4 _ el eb (by lia) (by lia) ba ⟨aT el,aT ea⟩ fun h1 b' u9 u10 g1 e1 e2 n2=>?_;refine ix _ (L++[fE b (.n2 t x y) true]++[fE b' y false]) A h1 b' _ _ _ _ _ _ _ (g1.keep _ _ fl.1 fl.1 ef) (by simpa [parts] using e1) (g1.keep _ _ al al ea) e2 n2 (by simp;lia) (by lia) (by simp[inner];lia) fun h2 t5 t6 t7 t8 t9 t10 g2 f1 f2=>?_;have G2:=(G1 g1).trans g2;refine iy _ (L++[fE b (.n2 t x y) true]) _ h2 b' _ _ _ _ _ _ _ (G2.keep _ _ fl.2 fl.1 ef) f1 f2 (g2.keep _ _ n2.1 n2.2 e2) n2 (by simp;lia) (by simp;lia) (by simp[inner];lia) fun h3 t5 t6 t7 t8 t9 t10 g3 f1 f2=>?_;have G3:=G2.trans g3;refine jI H _ [res ov bd.length x,res ov bd.length y] (G3.keep _ _ fl.2 fl.1 ef) fl f1 (by simpa [inner] using f2) al (G3.keep _ _ ba.1 ba.2 eb) (by lia) ba rfl fun h4 t7 t8 g4 z1 z2=>?_;rw[H.lf _ _ (by simp[parts])] at z2;exact k h4 _ _ _ _ _ _ (G3.trans g4) z1 z2
 |n3 t x y z ix iy iz=>
  intro bd L A h b n t5 t6 t7 t8 t9 t10 ef el ea eb ba hL hA hb k;simp only[Co.depth] at hL hA hb;rw[turns,show turns x+turns y+turns z+2+n=(turns x+(turns y+(turns z+(n+1))))+1 by lia];refine j4 _ el eb (by lia) (by lia) ba ⟨aT el,aT ea⟩ fun h1 b' u9 u10 g1 e1 e2 n2=>?_;refine ix _ (L++[fE b (.n3 t x y z) true]++[fE b' z false]++[fE b' y false]) A h1 b' _ _ _ _ _ _ _ (g1.keep _ _ fl.1 fl.1 ef) (by simpa [parts] using e1) (g1.keep _ _ al al ea) e2 n2 (by simp;lia) (by lia) (by simp[inner];lia) fun h2 t5 t6 t7 t8 t9 t10 g2 f1 f2=>?_;have G2:=(G1 g1).trans g2;refine iy _ (L++[fE b (.n3 t x y z) true]++[fE b' z false]) _ h2 b' _ _ _ _ _ _ _ (G2.keep _ _ fl.2 fl.1 ef) f1 f2 (g2.keep _ _ n2.1 n2.2 e2) n2 (by simp;lia) (by simp;lia) (by simp[inner];lia) fun h3 t5 t6 t7 t8 t9 t10 g3 f1 f2=>?_;have G3:=G2.trans g3;refine iz _ (L++[fE b (.n3 t x y z) true]) _ h3 b' _ _ _ _ _ _ _ (G3.keep _ _ fl.2 fl.1 ef) f1 f2 ((g2.trans g3).keep _ _ n2.1 n2.2 e2) n2 (by simp;lia) (by simp;lia) (by simp[inner];lia) fun h4 t5 t6 t7 t8 t9 t10 g4 f1 f2=>?_;have G4:=G3.trans g4;refine jI H _ [res ov bd.length x,res ov bd.length y,res ov bd.length z] (G4.keep _ _ fl.2 fl.1 ef) fl f1 (by simpa [inner] using f2) al (G4.keep _ _ ba.1 ba.2 eb) (by lia) ba rfl fun h5 t7 t8 g5 z1 z2=>?_;rw[H.lf _ _ (by simp[parts])] at z2;exact k h5 _ _ _ _ _ _ (G4.trans g5) z1 z2
end
theorem mz(k:Nat)(c:C)(ks:List C){h:Hp}{q:Nat}(e:h[q]?=some (.lst (ks.map Co.ae)))(l:ks.length=(parts c).length):run T (k+1) dh [Co.ae c,.ref q] h=.ok (Co.ae (iJ c ks)) h:=by
 have wd:∀(w:S)(ps:List W)(xs:List W),(w=Ac->False)->(isIn (.str w) (.tup [(.str [99,97,108,108]),(.str [98,111,116,104]),(.str [108,101,102,116]),(.str [114,105,103,104,116]),(.str [109,111,114,101]),(.str [102,111,108,100]),(.str [105,102]),(.str [115,117,109]),(.str [108,101,115,115]),(.str [108,105,107,101,112,97,105,114]),(.str [108,105,107,101,114,111,119])]) h=some true)->h[q]?=some (.lst xs)->xs.length<=3->run T (k+1) dh [.tup (.str w::ps),.ref q] h=.ok (.tup (.str w::xs)) h:=by
  intro w ps xs nf i e l;refine Po.eq (wp_run nY rfl ?_);have i0:idx (.tup (.str w::ps)) (.int 0) h=.ok (.str w) h:=by simp
  refine Po.ok i0 ?_;refine wC.eqs ?_;rw[aY nf];refine Po.ok i0 ?_;refine wC.of true i ?_;refine Po.ok i0 ?_;refine Po.ok (a:=.tup xs) (h:=h) (by simp[e]) ?_;exact dW (by simp[SZ];lia) ⟨rfl,rfl⟩
 rcases c with _|_|_|_|_|_|⟨kd,x⟩|⟨t,_⟩|⟨t,_,_⟩|⟨t,_,_,_⟩|_
 .kernel_rfl
 .kernel_rfl
 .kernel_rfl
 .kernel_rfl
 .kernel_rfl
 .kernel_rfl
 .obtain⟨x,rfl⟩:∃x,ks=[x]:=List.length_eq_one_iff.mp l;refine Po.eq (wp_run nY rfl ?_);refine wC.eqs ?_;exact Po.ok (a:=Co.ae x) (h:=h) (by simp[e]) ⟨rfl,rfl⟩
 .obtain⟨x,rfl⟩:∃x,ks=[x]:=List.length_eq_one_iff.mp l;refine wd t.s _ _ (by cases t<;>exact fun z=>nomatch z) (by cases t<;>kernel_rfl) e (by simp)
 .obtain⟨x,y,rfl⟩:∃x y,ks=[x,y]:=by match ks,l with | [x,y],_=>exact⟨x,y,rfl⟩
  refine wd t.s _ _ (by cases t<;>exact fun z=>nomatch z) (by cases t<;>kernel_rfl) e (by simp)
 .obtain⟨x,y,z,rfl⟩:∃x y z,ks=[x,y,z]:=by match ks,l with | [x,y,z],_=>exact⟨x,y,z,rfl⟩
  refine wd t.s _ _ (by cases t<;>exact fun z=>nomatch z) (by cases t<;>kernel_rfl) e (by simp)
 .kernel_rfl
theorem DJ:∀c:C,turns c+2<=4 ^ (c.depth+1):=by
 have mono:∀{a b:Nat},a<=b->4 ^ (a+1)<=4 ^ (b+1):=fun h=>zO (by decide) (by lia);intro c
 induction c with
 |fn k x ih=>simp only[turns,Co.depth,zE] at *;lia
 |n1 t x ih=>simp only[turns,Co.depth,zE] at *;lia
 |n2 t x y ix iy=>
  have a:=bG ix (mono (mQ x.depth y.depth));have b:=bG iy (mono (lY x.depth y.depth));simp only[turns,Co.depth];rw[zE];lia
 |n3 t x y z ix iy iz=>
  have a:=bG ix (mono (mQ x.depth (max y.depth z.depth)));have b:=bG iy (mono (bG (mQ y.depth z.depth) (lY x.depth _)));have c:=bG iz (mono (bG (lY y.depth z.depth) (lY x.depth _)));simp only[turns,Co.depth];rw[zE];lia
 |_=>simp[turns,Co.depth]
theorem qj{c:C}(h:c.depth<=900):turns c<FU:=by
 have a:=DJ c;have b:4 ^ (c.depth+1)<=4 ^ 901:=zO (by decide) (by lia);have d:(4:Nat) ^ 901<=FU:=by rw[Eg,show (4:Nat) ^ 901=2 ^ 1802 by rw[show (4:Nat)=2 ^ 2 from rfl,<-Nat.pow_mul]];exact zO (by decide) (by decide)
 lia
section
variable {m:Nat}{h:Hp}{f:Nat}{ws:List W}{Q:Wq}{X:Xq}{ov:Nat->C->Option C}
theorem _root_.Tw.aj.put{h h1:Hp}{a:Nat}{o:O}(g:aj h h1)(l:h.length<=a):aj h (h1.set a o):=⟨by simpa using g.len,fun q u e=>bH (by have:=aT e;lia) (g.keep q u e)⟩
theorem _root_.Tw.aj.Fc{a l:Nat}{h h0 h1:Hp}(G:aj h h0)(g:ai a l h0 h1)(ha:h.length<=a)(hl:h.length<=l):aj h h1:=⟨bG G.len g.len,fun q o e=>g.keep q o (by have:=aT e;lia) (by have:=aT e;lia) (G.keep q o e)⟩
theorem AU(H:xZ m f ws ov)(c:C){b fa:Nat}(ef:h[fa]?=some (.fun f ws))(eb:h[b]?=some (.lst []))(hd:c.depth<=900)(q:∀h',aj h h'->Q (Co.ae (res ov 0 c)) h'):Po (run T (m+3) gA [Co.ae c,.ref b,.ref fa] h) Q X:=by
 refine wp_run DR rfl ?_;have eb1:=aQ [O.lst []] eb;refine GF eb1 ?_;have l1:=aT ef;have e0:∀x y z:O,(h++[x]++[y]++[z])[h.length]?=some x:=fun x y z=>by simp
 have e1:∀x y z:O,(h++[x]++[y]++[z])[h.length+1]?=some y:=fun x y z=>by simp
 have e2:∀x y z:O,(h++[x]++[y]++[z])[h.length+2]?=some z:=fun x y z=>by simp
 have G:aj h (h++[O.lst []]++[O.lst []]++[O.lst [fE (h.length+1) c false]]):=((aj.app _ _).trans (aj.app _ _)).trans (aj.app _ _);have tf:=qj hd;obtain⟨n,hn⟩:∃n,FU=turns c+(n+1):=⟨FU-turns c-1,by lia⟩;show Po (fC _ _ FU [some (Co.ae c),some (.ref b),some (.ref fa),some (.ref h.length),some (.ref (h++[O.lst []]++[O.lst []]).length),none,none,none,none,none,none] (h++[O.lst []]++[O.lst []]++[O.lst [.tup [Co.ae c,.ref (h++[O.lst []]).length,.bl false]]])) _ _;rw[hn,show (h++[O.lst []]).length=h.length+1 by simp,show (h++[O.lst []]++[O.lst []]).length=h.length+2 by simp];refine GH H (a:=h.length) (l:=h.length+2) ⟨by lia,by lia⟩ (by lia) c [] [] [] _ (h.length+1) (n+1) _ _ _ _ _ _ (G.keep _ _ ef) (e2 _ _ _) (e0 _ _ _) (e1 _ _ _) ⟨by lia,by lia⟩ (by simp[SZ];lia) (by simp[SZ];lia) (by simp;lia) fun h' t5 t6 t7 t8 t9 t10 g el ea=>?_;refine gk ?_;refine eh el ?_;refine wC.of false (by simp) ?_;refine kX (L:=[]) ea ?_;exact q _ ((aj.Fc G g (aA _) (by lia)).put (aA _))
theorem Bl(H:xZ m f ws ov)(c:C){σ:Env}{j:Nat}{ks:List Nat}{N:Nq}(s0:(σ.set j none)[0]?=some (some (Co.ae c)))(ek:jz (σ.set j none) ks=some ws)(hd:c.depth<=900)(q:∀h',aj h h'->Q (Co.ae (res ov 0 c)) h'):Po (dC (run T (m+3)) (.ki j gA (.var 0) (.lst .nil) f ks) σ h) (wF N Q) X:=by
 rw[rX,qG s0];show Po (match jz (σ.set j none) ks with
  |some ws=>nV (h++[O.lst []]).length (run T (m+3) gA [Co.ae c,.ref h.length,.ref (h++[O.lst []]).length] (h++[O.lst []]++[.fun f ws]))
  |none=>.bad) _ _
 rw[ek];have p:=AU (h:=h++[O.lst []]++[.fun f ws]) (X:=fun _ _=>False) (Q:=fun w h'=>w=Co.ae (res ov 0 c)/\aj (h++[O.lst []]++[.fun f ws]) h') H c (b:=h.length) (fa:=(h++[O.lst []]).length) (bp _ _) (aQ _ (bp _ _)) hd fun h' g=>⟨rfl,g⟩;show Po (nV _ _) _ _;cases e:run T (m+3) gA [Co.ae c,.ref h.length,.ref (h++[O.lst []]).length] (h++[O.lst []]++[.fun f ws]) with
 |ok w h'=>
  rw[e] at p;obtain⟨rfl,g⟩:=p;exact q _ ((((aj.app _ _).trans (aj.app _ _)).trans g).put (by simp))
 |aI x h'=>rw[e] at p;exact p.elim
 |bad=>rw[e] at p;exact p
end
def qB(_:Nat):C->Option C
 |.en _ u=>some u
 |_=>none
def qQ(v:C)(n:Nat):C->Option C
 |.var i=>if i=n then some v else none
 |_=>none
def strip(c:C):C:=res qB 0 c
theorem MV(m:Nat):xZ m gf [] qB:=⟨fun c ks h q b bd e _ l=>by
 refine Po.eq (wp_run pk rfl ?_);refine Po.ok (pD c h) ?_;refine wC.eqs ?_;have no:hd c≠uQ->qB bd.length c=none->wSs (run T (m+1)) [.ret (.call dh (.cons (.var 0) (.cons (.var 2) .nil)))] [some (Co.ae c),some (.ref b),some (.ref q)] h (fun _ h'=>(W.ah=Co.ae ((qB bd.length c).getD (iJ c ks))/\h'=h)) (fun w h'=>w=Co.ae ((qB bd.length c).getD (iJ c ks))/\h'=h) (fun _ _=>False):=fun _ z=>Po.ok (mz m c ks e l) ⟨by rw[z];rfl,rfl⟩;have or:(∃x u,c=.en x u)\/(hd c≠uQ/\qB bd.length c=none):=by rcases c with _|_|_|_|_|_|_|⟨_|_|_,_⟩|⟨_|_|_|_|_|_,_,_⟩|⟨_|_,_,_,_⟩|_<;>first|exact .inl ⟨_,_,rfl⟩|exact .inr ⟨by simp[hd,T1.s,T2.s,T3.s],rfl⟩
 rcases or with ⟨x,u,rfl⟩|⟨n1,n2⟩
 .exact⟨rfl,rfl⟩
 .rw[aY n1];exact no n1 n2,fun n c h=>by cases c<;>first|rfl|(simp[parts] at h)⟩
theorem Mr(m:Nat)(v:C):xZ m hV [Co.ae v] (qQ v):=⟨fun c ks h q b bd e eb l=>by
 refine Po.eq (wp_run rj rfl ?_);refine Po.ok (pD c h) ?_;refine wC.eqs ?_;have no:qQ v bd.length c=none->wSs (run T (m+1)) [.ret (.call dh (.cons (.var 0) (.cons (.var 2) .nil)))] [some (Co.ae c),some (.ref b),some (.ref q),some (Co.ae v)] h (fun _ h'=>(W.ah=Co.ae ((qQ v bd.length c).getD (iJ c ks))/\h'=h)) (fun w h'=>w=Co.ae ((qQ v bd.length c).getD (iJ c ks))/\h'=h) (fun _ _=>False):=fun z=>Po.ok (mz m c ks e l) ⟨by rw[z];rfl,rfl⟩;have or:(∃i,c=.var i)\/(hd c≠DZ/\qQ v bd.length c=none):=by rcases c with _|_|_|_|_|_|_|⟨_|_|_,_⟩|⟨_|_|_|_|_|_,_,_⟩|⟨_|_,_,_,_⟩|_<;>first|exact .inl ⟨_,rfl⟩|exact .inr ⟨by simp[hd,T1.s,T2.s,T3.s],rfl⟩
 rcases or with ⟨i,rfl⟩|⟨n1,n2⟩
 .refine eh eb ?_;refine wC.of (decide ((i:Int)=bd.length)) (by simp) ?_;by_cases z:i=bd.length
  .rw[bU (by lia)];exact⟨by simp[qQ,z],rfl⟩
  .rw[aY (by lia)];exact no (by simp[qQ,z])
 .rw[aY n1];exact no n2,fun n c h=>by cases c<;>first|rfl|(simp[parts] at h)⟩
theorem Dg(v:C):∀(c:C)(n:Nat),res (qQ v) n c=Co.into v n c:=by
 intro c
 induction c with
 |var i=>intro n;simp only[res,qQ,Co.into];by_cases z:i=n<;>simp[z]
 |fn k x ih=>intro n;simp only[res,Co.into,ih]
 |n1 t x ih=>intro n;simp only[res,Co.into,ih]
 |n2 t x y ix iy=>intro n;simp only[res,Co.into,ix,iy]
 |n3 t x y z ix iy iz=>intro n;simp only[res,Co.into,ix,iy,iz]
 |_=>intro n;rfl
section
variable {m:Nat}{h:Hp}{Q:Wq}{X:Xq}
theorem pQ(c:C)(hd:c.depth<=900)(q:∀h',aj h h'->Q (Co.ae (strip c)) h'):Po (run T (m+4) jt [Co.ae c] h) Q X:=
 wp_run Al rfl (Bl (MV m) c rfl rfl hd q)
noncomputable def sM:C->C
 |.en a u=>.en a u
 |c=>.en c (strip c)
theorem B1(c:C)(hd:c.depth<=900)(q:∀h',aj h h'->Q (Co.ae (sM c)) h'):Po (run T (m+5) p5 [Co.ae c] h) Q X:=by
 refine wp_run CZ rfl ?_;refine Po.ok (pD c h) ?_;refine wC.eqs ?_;have or:(∃x u,c=.en x u)\/(K05.hd c≠uQ/\sM c=.en c (strip c)):=by rcases c with _|_|_|_|_|_|_|⟨_|_|_,_⟩|⟨_|_|_|_|_|_,_,_⟩|⟨_|_,_,_,_⟩|_<;>first|exact .inl ⟨_,_,rfl⟩|exact .inr ⟨by simp[K05.hd,T1.s,T2.s,T3.s],rfl⟩
 rcases or with ⟨x,u,rfl⟩|⟨n1,n2⟩
 .exact q _ (aj.refl _)
 .rw[aY n1];refine pQ c hd fun h' g=>?_;have:=q h' g;rw[n2] at this;exact this
theorem B6(c v:C)(hc:c.depth<=900)(hv:v.depth<=900)(q:∀h',aj h h'->Q (Co.ae (Co.into (sM v) 0 c)) h'):Po (run T (m+6) qc [Co.ae c,Co.ae v] h) Q X:=by refine wp_run D8 rfl ?_;refine B1 v hv fun h1 g1=>?_;refine Bl (m:=m+2) (Mr (m+2) (sM v)) c rfl rfl hc fun h2 g2=>?_;rw[Dg];exact q h2 (g1.trans g2)
end
inductive Cm:C->C->C->C->Prop
 |num {i j}:Cm (.like .num) (.num i) (.num j) (if i=j then .yes else .no)
 |yy:Cm (.like .tru) .yes .yes .yes
 |nn:Cm (.like .tru) .no .no .yes
 |yn:Cm (.like .tru) .yes .no .no
 |ny:Cm (.like .tru) .no .yes .no
 |mm {l x1 x2 y1 y2}:Cm (.n1 .bA l) (.n2 .more x1 x2) (.n2 .more y1 y2) (.n3 .bh (ask l x1 y1) (ask (.n1 .bA l) x2 y2) .no)
 |ee {l j k}:Cm (.n1 .bA l) (.ah j) (.ah k) .yes
 |em {l k x y}:Cm (.n1 .bA l) (.ah k) (.n2 .more x y) .no
 |me {l k x y}:Cm (.n1 .bA l) (.n2 .more x y) (.ah k) .no
 |bb {l1 l2 x1 x2 y1 y2}:Cm (.n2 .bx l1 l2) (.n2 .both x1 x2) (.n2 .both y1 y2) (.n3 .bh (ask l1 x1 y1) (ask l2 x2 y2) .no)
inductive Rd:C->C->Prop
 |fn {f v k b}:bare f=.fn k b->b.depth<=900->v.depth<=900->Rd (.n2 .call f v) (Co.into (sM v) 0 b)
 |ask {f v l x r}:bare f=.n2 .call l x->Cm (bare l) (bare x) (bare v) r->Rd (.n2 .call f v) r
 |left {a x y}:bare a=.n2 .both x y->Rd (.n1 .left a) x
 |right {a x y}:bare a=.n2 .both x y->Rd (.n1 .right a) y
 |yes {a b c}:bare a=.yes->Rd (.n3 .bh a b c) b
 |no {a b c}:bare a=.no->Rd (.n3 .bh a b c) c
 |ET {r s w k}:bare r=.ah k->Rd (.n3 .fold r s w) s
 |Fm {r s w x q}:bare r=.n2 .more x q->Rd (.n3 .fold r s w) (.n2 .call (.n2 .call w x) (.n3 .fold q s w))
 |sum {a b i j}:bare a=.num i->bare b=.num j->Rd (.n2 .sum a b) (.num (i+j))
 |less {a b i j}:bare a=.num i->bare b=.num j->Rd (.n2 .less a b) (if i<j then .yes else .no)
theorem uY(k:Nat)(b:Bool)(h:Hp):run T (k+1) jD [.bl b] h=.ok (Co.ae (if b then .yes else .no)) h:=by cases b<;>kernel_rfl
theorem gI(k:Nat){c d:C}(e:bare c=d)(h:Hp):run T (k+2) bf [Co.ae c,.str (hd d)] h=.ok (Co.ae d) h:=by refine Po.eq (wp_run tR rfl ?_);have b:=eW k c h;rw[e] at b;refine Po.ok b ?_;refine Po.ok (pD d h) ?_;refine wC.Rm ?_;rw[bU rfl];exact Po.ok b ⟨rfl,rfl⟩
theorem EB(p:Prop)[Decidable p](a b:C):(if decide p=true then a else b)=if p then a else b:=by by_cases h:p<;>simp[h]
theorem F6(k:Nat){l x y r:C}(m:Cm l x y r)(h:Hp):run T (k+5) fo [Co.ae l,Co.ae x,Co.ae y] h=.ok (Co.ae r) h:=by
 cases m with
 | @num i j=>
  refine Po.eq (wp_run mY rfl ?_);refine wC.eqs ?_;refine wp_run sr rfl ?_;refine wC.eqs ?_;refine wC.of (decide (i=j)) (by simp) ?_;refine Po.ok (uY (k+2) _ h) ?_;rw[EB];exact⟨rfl,rfl⟩
 |_=>kernel_rfl
theorem yi{m:Nat}{h:Hp}{f v r:C}{Q:Wq}{X:Xq}(e:Rd (.n2 .call f v) r)(q:∀h',aj h h'->Q (Co.ae r) h'):Po (run T (m+7) iC [Co.ae f,Co.ae v] h) Q X:=by
 refine wp_run se rfl ?_;have b:=eW (m+5) f h;cases e with
 |fn ef hb hv=>
  rw[ef] at b;refine Po.ok b ?_;refine wC.eqs ?_;exact B6 _ v hb hv q
 | @ask _ _ l x _ ef cm=>
  rw[ef] at b;refine Po.ok b ?_;refine wC.eqs ?_;refine wC.eqs ?_;refine Po.ok (eW (m+5) l h) ?_;refine Po.ok (eW (m+5) x h) ?_;refine Po.ok (eW (m+5) v h) ?_;exact Po.ok (F6 (m+1) cm h) (q _ (aj.refl _))
theorem zY{m:Nat}{h:Hp}{c r:C}{sh:W}{Q:Wq}{X:Xq}(e:Rd c r)(q:∀h',aj h h'->Q (Co.ae r) h'):Po (run T (m+8) nW [sh,Co.ae c] h) Q X:=by
 refine wp_run BY rfl ?_;have gr:=q _ (aj.refl h);cases e with
 |fn ef hb hv=>
  refine wC.eqs ?_;exact yi (.fn ef hb hv) q
 |ask ef cm=>
  refine wC.eqs ?_;exact yi (.ask ef cm) q
 |left ea=>
  refine wC.eqs ?_;refine wC.of true (by kernel_rfl) ?_;refine wC.eqs ?_;refine Po.ok (gI (m+5) ea h) ?_;exact gr
 |right ea=>
  refine wC.eqs ?_;refine wC.of true (by kernel_rfl) ?_;refine wC.eqs ?_;refine Po.ok (gI (m+5) ea h) ?_;exact gr
 | @yes a _ _ ea=>
  refine wC.eqs ?_;refine wC.of false (by kernel_rfl) ?_;refine wC.eqs ?_;refine wp_run n6 rfl ?_;have b:=eW (m+5) a h;rw[ea] at b;refine Po.ok b ?_;refine wC.eqs ?_;exact gr
 | @no a _ _ ea=>
  refine wC.eqs ?_;refine wC.of false (by kernel_rfl) ?_;refine wC.eqs ?_;refine wp_run n6 rfl ?_;have b:=eW (m+5) a h;rw[ea] at b;refine Po.ok b ?_;refine wC.eqs ?_;refine wC.eqs ?_;exact gr
 | @ET a _ _ _ ea=>
  refine wC.eqs ?_;refine wC.of false (by kernel_rfl) ?_;refine wC.eqs ?_;refine wC.eqs ?_;refine wp_run lH rfl ?_;have b:=eW (m+5) a h;rw[ea] at b;refine Po.ok b ?_;refine wC.eqs ?_;exact gr
 | @Fm a _ _ _ _ ea=>
  refine wC.eqs ?_;refine wC.of false (by kernel_rfl) ?_;refine wC.eqs ?_;refine wC.eqs ?_;refine wp_run lH rfl ?_;have b:=eW (m+5) a h;rw[ea] at b;refine Po.ok b ?_;refine wC.eqs ?_;refine Po.ok (gI (m+4) ea h) ?_;exact gr
 | @sum a b i j ea eb=>
  refine wC.eqs ?_;refine wC.of false (by kernel_rfl) ?_;refine wC.eqs ?_;refine wC.eqs ?_;refine wC.eqs ?_;refine Po.ok (gI (m+5) ea h) ?_;refine Po.ok (gI (m+5) eb h) ?_;exact gr
 | @less a b i j ea eb=>
  refine wC.eqs ?_;refine wC.of false (by kernel_rfl) ?_;refine wC.eqs ?_;refine wC.eqs ?_;refine wC.eqs ?_;refine wC.eqs ?_;refine Po.ok (gI (m+5) ea h) ?_;refine Po.ok (gI (m+5) eb h) ?_;refine wC.of (decide (i<j)) rfl ?_;refine Po.ok (uY (m+6) _ h) ?_;rw[EB];exact gr
noncomputable def Gd:C->Prop
 |.like k=>k=.num\/k=.tru
 |.fn _ c=>Gd c
 |.n1 _ a=>Gd a
 |.n2 _ a b=>Gd a/\Gd b
 |.n3 _ a b c=>Gd a/\Gd b/\Gd c
 |.en a u=>Gd a/\Gd u
 |_=>True
theorem Ty.gd{Γ:List Kd}{c:C}{t:Kd}(h:Ty Γ c t):Gd c:=by
 induction h with
 |jk=>exact .inl rfl
 |jm=>exact .inr rfl
 |fn _ i=>exact i
 |left _ i=>exact i
 |right _ i=>exact i
 |bA _ i=>exact i
 |call _ _ i j=>exact⟨i,j⟩
 |both _ _ i j=>exact⟨i,j⟩
 |more _ _ i j=>exact⟨i,j⟩
 |sum _ _ i j=>exact⟨i,j⟩
 |less _ _ i j=>exact⟨i,j⟩
 |bx _ _ i j=>exact⟨i,j⟩
 |fold _ _ _ i j k=>exact⟨i,j,k⟩
 |bh _ _ _ i j k=>exact⟨i,j,k⟩
 |_=>trivial
noncomputable def eC:C->Bool
 |.num _=>true
 |.yes=>true
 |.no=>true
 |.ah _=>true
 |.like _=>true
 |.fn _ _=>true
 |.en _ _=>true
 |.n1 .bA _=>true
 |.n2 .both _ _=>true
 |.n2 .more _ _=>true
 |.n2 .bx _ _=>true
 |.n2 .call a _=>bL a
 |_=>false
theorem kZ(k:Nat)(c:C)(g:Gd c)(h:Hp):run T (k+2) dH [Co.ae c] h=.ok (.bl (eC c)) h:=by
 rcases c with _|_|_|_|_|kd|_|⟨_|_|_,_⟩|⟨_|_|_|_|_|_,a,b⟩|⟨_|_,_,_,_⟩|_
 case like=>rcases g with rfl|rfl<;>kernel_rfl
 case n2.call=>
  refine Po.eq (wp_run qW rfl ?_);refine wC.eqs ?_;refine Po.ok (eW k a h) ?_;refine Po.ok (pD (bare a) h) ?_;refine wC.of (bL a) ?_ ⟨rfl,rfl⟩;unfold bL;generalize bare a=d;rcases d with _|_|_|_|_|_|_|⟨_|_|_,_⟩|⟨_|_|_|_|_|_,_,_⟩|⟨_|_,_,_,_⟩|_<;>kernel_rfl
 all_goals kernel_rfl
noncomputable abbrev sI(c0:W)(l:Nat)(t2 t3:Option W):Env:=[some c0,some (.ref l),t2,t3]
abbrev wI(Φ:Or)(m:Nat)(σ:Env)(h:Hp):R Fl:=fC (af Φ pN) (aF Φ pP) m σ h
theorem KN{Φ:Or}{c:C}{c0:W}{l:Nat}{t3:Option W}{h:Hp}:dN Φ (.ja (.gW (.idx (.var 2) (.cst (.int 0))) dO)) (sI c0 l (some (Co.ae c)) t3) h=.ok (.fix (upTo 0 (cW c))) h:=by rcases c with _|_|_|_|_|_|_|⟨_|_|_,_⟩|⟨_|_|_|_|_|_,_,_⟩|⟨_|_,_,_,_⟩|_<;>kernel_rfl
noncomputable def nI:C->Nat
 |.n1 _ a=>nI a+1
 |.n2 _ a b=>nI a+nI b+1
 |_=>1
theorem ub:∀c:C,nI c<=turns c
 |.n1 _ a=>by have:=ub a;simp only[nI,turns];lia
 |.n2 _ a b=>by have:=ub a;have:=ub b;simp only[nI,turns];lia
 |.num _=>by simp[nI,turns]
 |.yes=>by simp[nI,turns]
 |.no=>by simp[nI,turns]
 |.var _=>by simp[nI,turns]
 |.ah _=>by simp[nI,turns]
 |.like _=>by simp[nI,turns]
 |.en _ _=>by simp[nI,turns]
 |.fn _ _=>by simp[nI,turns]
 |.n3 _ _ _ _=>by simp[nI,turns]
section
variable {m n:Nat}{h:Hp}{l:Nat}{c0:W}{L:List W}{t2 t3:Option W}{N:Nq}{Q:Wq}{X:Xq}
theorem B0(c:C)(g:Gd c)(e:eC c=false)(el:h[l]?=some (.lst (L++[Co.ae c])))(q:∀h',ai l l h h'->Q (.bl false) h'):Po (wI (run T (m+2)) (n+1) (sI c0 l t2 t3) h) (wF N Q) X:=by refine gk ?_;refine eh el ?_;refine wC.of true (by simp) ?_;refine kX el ?_;refine Po.ok (kZ m c g _) ?_;rw[e];exact q _ (ai.set _ _ (.inl rfl))
theorem so(c:C)(g:Gd c)(e:eC c=true)(el:h[l]?=some (.lst (L++[Co.ae c])))(k:∀h',ai l l h h'->h'[l]?=some (.lst L)->wT (wSs (run T (m+2)) pI) (.var 3) (upTo 0 (cW c)) (sI c0 l (some (Co.ae c)) t3) h' (fun σ h=>Po (wI (run T (m+2)) n σ h) (wF N Q) X) Q X):Po (wI (run T (m+2)) (n+1) (sI c0 l t2 t3) h) (wF N Q) X:=by refine gk ?_;refine eh el ?_;refine wC.of true (by simp) ?_;refine kX el ?_;refine Po.ok (kZ m c g _) ?_;rw[e];refine iT KN ?_;exact k _ (ai.set _ _ (.inl rfl)) (bK el)
theorem Kq:∀(c:C)(L:List W)(h:Hp)(n:Nat)(t2 t3:Option W),Gd c->h[l]?=some (.lst (L++[Co.ae c]))->L.length+4 * c.depth+4<SZ->(Co.ended c=true->∀h' t2 t3,ai l l h h'->h'[l]?=some (.lst L)->Po (wI (run T (m+2)) n (sI c0 l t2 t3) h') (wF N Q) X)->(Co.ended c=false->∀h',ai l l h h'->Q (.bl false) h')->Po (wI (run T (m+2)) (nI c+n) (sI c0 l t2 t3) h) (wF N Q) X:=by
 have leaf:∀(c:C),nI c=1->eC c=Co.ended c->(Co.ended c=true->cW c=0)->∀(L:List W)(h:Hp)(n:Nat)(t2 t3:Option W),Gd c->h[l]?=some (.lst (L++[Co.ae c]))->(Co.ended c=true->∀h' t2 t3,ai l l h h'->h'[l]?=some (.lst L)->Po (wI (run T (m+2)) n (sI c0 l t2 t3) h') (wF N Q) X)->(Co.ended c=false->∀h',ai l l h h'->Q (.bl false) h')->Po (wI (run T (m+2)) (nI c+n) (sI c0 l t2 t3) h) (wF N Q) X:=by
  intro c e1 e2 e3 L h n t2 t3 g el k q;rw[e1,Nat.add_comm 1 n];cases e:Co.ended c with
  |false=>exact B0 c g (by rw[e2,e]) el (q e)
  |true=>
   refine so c g (by rw[e2,e]) el fun h' g1 e4=>?_;rw[e3 e];exact k e h' _ _ g1 e4
 have off:∀(c:C),eC c=false->Co.ended c=false->(∃j,nI c=j+1)->∀(L:List W)(h:Hp)(n:Nat)(t2 t3:Option W),Gd c->h[l]?=some (.lst (L++[Co.ae c]))->(Co.ended c=false->∀h',ai l l h h'->Q (.bl false) h')->Po (wI (run T (m+2)) (nI c+n) (sI c0 l t2 t3) h) (wF N Q) X:=by intro c e1 e2 ⟨j,e3⟩ L h n t2 t3 g el q;rw[e3,show j+1+n=(j+n)+1 by lia];exact B0 c g e1 el (q e2)
 have two:∀(t:T2)(a b:C),eC (.n2 t a b)=true->Co.ended (.n2 t a b)=(Co.ended a&&Co.ended b)->(∀(L:List W)(h:Hp)(n:Nat)(t2 t3:Option W),Gd a->h[l]?=some (.lst (L++[Co.ae a]))->L.length+4 * a.depth+4<SZ->(Co.ended a=true->∀h' t2 t3,ai l l h h'->h'[l]?=some (.lst L)->Po (wI (run T (m+2)) n (sI c0 l t2 t3) h') (wF N Q) X)->(Co.ended a=false->∀h',ai l l h h'->Q (.bl false) h')->Po (wI (run T (m+2)) (nI a+n) (sI c0 l t2 t3) h) (wF N Q) X)->
  (∀(L:List W)(h:Hp)(n:Nat)(t2 t3:Option W),Gd b->h[l]?=some (.lst (L++[Co.ae b]))->L.length+4 * b.depth+4<SZ->(Co.ended b=true->∀h' t2 t3,ai l l h h'->h'[l]?=some (.lst L)->Po (wI (run T (m+2)) n (sI c0 l t2 t3) h') (wF N Q) X)->(Co.ended b=false->∀h',ai l l h h'->Q (.bl false) h')->Po (wI (run T (m+2)) (nI b+n) (sI c0 l t2 t3) h) (wF N Q) X)->
  ∀(L:List W)(h:Hp)(n:Nat)(t2 t3:Option W),Gd (.n2 t a b)->h[l]?=some (.lst (L++[Co.ae (.n2 t a b)]))->L.length+4 * (Co.n2 t a b).depth+4<SZ->(Co.ended (.n2 t a b)=true->∀h' t2 t3,ai l l h h'->h'[l]?=some (.lst L)->Po (wI (run T (m+2)) n (sI c0 l t2 t3) h') (wF N Q) X)->(Co.ended (.n2 t a b)=false->∀h',ai l l h h'->Q (.bl false) h')->Po (wI (run T (m+2)) (nI (.n2 t a b)+n) (sI c0 l t2 t3) h) (wF N Q) X:=by
  intro t a b e1 e2 ia ib L h n t2 t3 g el hL k q;simp only[Co.depth] at hL;rw[nI,show nI a+nI b+1+n=(nI b+(nI a+n))+1 by lia];rw[e2] at k q;refine so _ g e1 el fun h1 g1 e4=>?_;refine dW (jA e4) (jJ e4 (by lia) ?_);refine dW (jA (bK e4)) (jJ (bK e4) (by simp;lia) ?_);have e5:=bK (u:=.lst (L++[Co.ae a]++[Co.ae b])) (bK (u:=.lst (L++[Co.ae a])) e4);have g2:ai l l h ((h1.set l (.lst (L++[Co.ae a]))).set l (.lst (L++[Co.ae a]++[Co.ae b]))):=g1.trans ((ai.set _ _ (.inl rfl)).trans (ai.set _ _ (.inl rfl)));refine ib (L++[Co.ae a]) _ _ _ _ g.2 e5 (by simp;lia) (fun eb h3 t2 t3 g3 e6=>?_) fun eb h3 g3=>q (by rw[eb,xE]) h3 (g2.trans g3);refine ia L h3 n t2 t3 g.1 e6 (by lia) (fun ea h4 t2 t3 g4 e7=>k (by rw[ea,eb];rfl) h4 t2 t3 ((g2.trans g3).trans g4) e7) fun ea h4 g4=>q (by rw[ea];rfl) h4 ((g2.trans g3).trans g4)
 intro c
 induction c with
 |num i=>exact fun L h n t2 t3 g el _ k q=>leaf _ rfl rfl (fun _=>rfl) L h n t2 t3 g el k q
 |yes=>exact fun L h n t2 t3 g el _ k q=>leaf _ rfl rfl (fun _=>rfl) L h n t2 t3 g el k q
 |no=>exact fun L h n t2 t3 g el _ k q=>leaf _ rfl rfl (fun _=>rfl) L h n t2 t3 g el k q
 |var i=>exact fun L h n t2 t3 g el _ k q=>leaf _ rfl rfl (fun _=>rfl) L h n t2 t3 g el k q
 |ah k=>exact fun L h n t2 t3 g el _ k q=>leaf _ rfl rfl (fun _=>rfl) L h n t2 t3 g el k q
 |like k=>exact fun L h n t2 t3 g el _ k q=>leaf _ rfl rfl (fun _=>rfl) L h n t2 t3 g el k q
 |fn k x _=>exact fun L h n t2 t3 g el _ k q=>leaf _ rfl rfl (fun _=>rfl) L h n t2 t3 g el k q
 |en x u _ _=>exact fun L h n t2 t3 g el _ k q=>leaf _ rfl rfl (fun _=>rfl) L h n t2 t3 g el k q
 |n3 t x y z _ _ _=>cases t<;>exact fun L h n t2 t3 g el _ k q=>off _ rfl rfl ⟨_,rfl⟩ L h n t2 t3 g el q
 |n1 t x ix=>
  cases t with
  |left=>exact fun L h n t2 t3 g el _ k q=>off _ rfl rfl ⟨_,rfl⟩ L h n t2 t3 g el q
  |right=>exact fun L h n t2 t3 g el _ k q=>off _ rfl rfl ⟨_,rfl⟩ L h n t2 t3 g el q
  |bA=>
   intro L h n t2 t3 g el hL k q;simp only[Co.depth] at hL;rw[nI,show nI x+1+n=(nI x+n)+1 by lia];refine so _ g rfl el fun h1 g1 e4=>?_;refine dW (jA e4) (jJ e4 (by lia) ?_);have g2:ai l l h (h1.set l (.lst (L++[Co.ae x]))):=g1.trans (ai.set _ _ (.inl rfl));exact ix L _ n _ _ g (bK e4) (by lia) (fun ea h3 t2 t3 g3 e6=>k ea h3 t2 t3 (g2.trans g3) e6) fun ea h3 g3=>q ea h3 (g2.trans g3)
 |n2 t x y ix iy=>
  cases t with
  |sum=>exact fun L h n t2 t3 g el _ k q=>off _ rfl rfl ⟨_,rfl⟩ L h n t2 t3 g el q
  |less=>exact fun L h n t2 t3 g el _ k q=>off _ rfl rfl ⟨_,rfl⟩ L h n t2 t3 g el q
  |both=>exact two _ _ _ rfl rfl ix iy
  |more=>exact two _ _ _ rfl rfl ix iy
  |bx=>exact two _ _ _ rfl rfl ix iy
  |call=>
   cases e:bL x with
   |true=>exact two _ _ _ e (by simp only[Co.ended,e,Bool.true_and]) ix iy
   |false=>exact fun L h n t2 t3 g el _ k q=>off (.n2 .call x y) e (by simp only[Co.ended,e,Bool.false_and]) ⟨_,rfl⟩ L h n t2 t3 g el q
end
theorem B2{m:Nat}{h:Hp}{Q:Wq}{X:Xq}(c:C)(g:Gd c)(hd:c.depth<=900)(q:∀h',aj h h'->Q (.bl (Co.ended c)) h'):Po (run T (m+3) pZ [Co.ae c] h) Q X:=by
 refine wp_run DX rfl ?_;have tf:=qj hd;have ni:=ub c;obtain⟨n,hn⟩:∃n,FU=nI c+(n+1):=⟨FU-nI c-1,by lia⟩;show Po (fC _ _ FU (sI (Co.ae c) h.length none none) (h++[O.lst [Co.ae c]])) _ _;rw[hn];have gr:∀{h':Hp},ai h.length h.length (h++[O.lst [Co.ae c]]) h'->aj h h':=fun g=>aj.Fc (aj.app _ _) g (aA _) (aA _);refine Kq c [] _ _ _ _ g (bp _ _) (by simp[SZ];lia) (fun e h' t2 t3 g1 e1=>?_) fun e h' g1=>by have:=q h' (gr g1);rw[e] at this;exact this
 refine gk ?_;refine eh e1 ?_;refine wC.of false (by simp) ?_;have:=q h' (gr g1);rw[e] at this;exact this
noncomputable def cw:C->Nat->C->C
 |.n1 t _,1,p=>.n1 t p
 |.n2 t _ b,1,p=>.n2 t p b
 |.n2 t a _,2,p=>.n2 t a p
 |.n3 t _ b c,1,p=>.n3 t p b c
 |.n3 t a _ c,2,p=>.n3 t a p c
 |.n3 t a b _,3,p=>.n3 t a b p
 |c,_,_=>c
noncomputable def bS:C->Nat->C
 |.n1 _ a,1=>a
 |.n2 _ a _,1=>a
 |.n2 _ _ b,2=>b
 |.n3 _ a _ _,1=>a
 |.n3 _ _ b _,2=>b
 |.n3 _ _ _ c,3=>c
 |c,_=>c
inductive Vp:C->Nat->Prop
 |n1 {t a}:Vp (.n1 t a) 1
 |vS {t a b}:Vp (.n2 t a b) 1
 |vg {t a b}:Vp (.n2 t a b) 2
 |oa {t a b c}:Vp (.n3 t a b c) 1
 |uV {a b c}:Vp (.n3 .fold a b c) 2
 |vE {a b c}:Vp (.n3 .fold a b c) 3
theorem nh(k:Nat){c:C}{i:Nat}(v:Vp c i)(p:C)(h:Hp):run T (k+1) gp [Co.ae c,.int (i:Int),Co.ae p] h=.ok (Co.ae (cw c i p)) h:=by cases v<;>kernel_rfl
theorem Fe{c:C}{i:Nat}(v:Vp c i)(h:Hp):idx (Co.ae c) (.int (i:Int)) h=.ok (Co.ae (bS c i)) h:=by cases v<;>kernel_rfl
theorem uI(c:C):dO.lookup (hd c)=if cW c=0 then none else some (cW c:Int):=by rcases c with _|_|_|_|_|_|_|⟨_|_|_,_⟩|⟨_|_|_|_|_|_,_,_⟩|⟨_|_,_,_,_⟩|_<;>rfl
theorem Vp.sp{c p:C}{i:Nat}(v:Vp c i):1<=i/\i<=cW c/\cW (cw c i p)=cW c:=by
 cases v with
 | @oa t _ _ _=>cases t<;>exact⟨by decide,by simp[cW],rfl⟩
 |_=>exact⟨by decide,by simp[cW],rfl⟩
theorem Vp.next{c p:C}{i:Nat}(v:Vp c i)(h:i<cW c):Vp (cw c i p) (i+1):=by
 cases v with
 |n1=>simp[cW] at h
 |vS=>exact .vg
 |vg=>simp[cW] at h
 | @oa t _ _ _=>cases t with
  |fold=>exact .uV
  |bh=>simp[cW] at h
 |uV=>exact .vE
 |vE=>simp[cW] at h
abbrev iL:S:=[112,97,114,116]
abbrev fP:S:=[97,114,111,117,110,100]
abbrev jw:S:=[82,101,99,107,111,110,105,110,103]
abbrev Fs:=List (C×Nat)
abbrev yB(f:C×Nat):W:=.tup [Co.ae f.1,.int (f.2:Int)]
structure aZ(r l:Nat)(p:C)(F:Fs)(h:Hp):Prop where
 ob:h[r]?=some (.ins jw [(iL,Co.ae p),(fP,.ref l)])
 ar:h[l]?=some (.lst (F.map yB))
 ne:r≠l
section
variable {r l:Nat}{p:C}{F:Fs}{h:Hp}{Q:Wq}{X:Xq}{m n:Nat}{N:Nq}
theorem aZ.part(M:aZ r l p F h)(q:Q (Co.ae p) h):Po (R.of (field (.ref r) iL h) h) Q X:=Po.of (by simp[M.ob]) q
theorem aZ.around(M:aZ r l p F h)(q:Q (.ref l) h):Po (R.of (field (.ref r) fP h) h) Q X:=Po.of (by simp only[field,M.ob];rfl) q
theorem aZ.zT(M:aZ r l p F h)(p':C){Q:Unit->Hp->Prop}(q:∀h',ai r l h h'->aZ r l p' F h'->Q () h'):Po (putField (.ref r) iL (Co.ae p') h) Q X:=by refine Po.ok (a:=()) (h:=h.set r (.ins jw [(iL,Co.ae p'),(fP,.ref l)])) (by simp only[putField,M.ob];rfl) ?_;exact q _ (ai.set _ _ (.inl rfl)) ⟨bK M.ob,bH M.ne M.ar,M.ne⟩
theorem aZ.Jh(M:aZ r l p F h)(F':Fs):ai r l h (h.set l (.lst (F'.map yB)))/\aZ r l p F' (h.set l (.lst (F'.map yB))):=
 ⟨ai.set _ _ (.inr rfl),bH (aX M.ne) M.ob,bK M.ar,M.ne⟩
theorem aZ.push(M:aZ r l p F h)(c:C)(i:Nat)(s:F.length<SZ)(q:∀h',ai r l h h'->aZ r l p (F++[(c,i)]) h'->Q .ah h'):j6 .append (.ref l) h=true/\Po (method .append (.ref l) [.tup [Co.ae c,.int (i:Int)]] h) Q X:=by refine dW (jA M.ar) (jJ M.ar (by simpa using s) ?_);have:=M.Jh (F++[(c,i)]);rw[List.map_append] at this;exact q _ this.1 this.2
theorem aZ.oh(M:aZ r l p F h)(w:S)(ne:w≠iL/\w≠fP):iR (.ref r) jw w h=true:=by
 have a:(w== iL)=false:=by simpa using ne.1
 have b:(w== fP)=false:=by simpa using ne.2
 simp only[iR,M.ob,decide_true,Bool.true_and,List.lookup,a,b];rfl
noncomputable def aV:C->Fs
 |.n1 t a=>(.n1 t a,1)::aV a
 |.n2 t a b=>(.n2 t a b,1)::aV a
 |.n3 t a b c=>(.n3 t a b c,1)::aV a
 |_=>[]
noncomputable def fh:C->C
 |.n1 _ a=>fh a
 |.n2 _ a _=>fh a
 |.n3 _ a _ _=>fh a
 |c=>c
theorem mr:∀c:C,(aV c).length<=c.depth
 |.n1 _ a=>by have:=mr a;simp only[aV,Co.depth,fZ];lia
 |.n2 _ a _=>by have:=mr a;simp only[aV,Co.depth,fZ];lia
 |.n3 _ a _ _=>by have:=mr a;simp only[aV,Co.depth,fZ];lia
 |.num _=>bu _
 |.yes=>bu _
 |.no=>bu _
 |.var _=>bu _
 |.ah _=>bu _
 |.like _=>bu _
 |.fn _ _=>bu _
 |.en _ _=>bu _
abbrev EV(Φ:Or)(n:Nat)(σ:Env)(h:Hp):R Fl:=fC (af Φ hZ) (aF Φ hU) n σ h
theorem Io{Φ:Or}:∀(p:C)(F:Fs)(h:Hp)(n:Nat),aZ r l p F h->F.length+p.depth<SZ->(∀h',ai r l h h'->aZ r l (fh p) (F++aV p) h'->N [some (.ref r)] h')->Po (EV Φ ((aV p).length+(n+1)) [some (.ref r)] h) (wF N Q) X:=by
 have stop:∀(p:C)(F:Fs)(h:Hp)(n:Nat),cW p=0->aV p=[]->fh p=p->aZ r l p F h->(∀h',ai r l h h'->aZ r l (fh p) (F++aV p) h'->N [some (.ref r)] h')->Po (EV Φ ((aV p).length+(n+1)) [some (.ref r)] h) (wF N Q) X:=by intro p F h n e1 e2 e3 M k;rw[e2,List.length_nil,Nat.zero_add];refine gk ?_;refine M.part ?_;refine Po.ok (pD p h) ?_;show (match truth h (.bl (dO.lookup (hd p)).isSome) with|some true=>_|some false=>_|none=>_);rw[uI,if_pos e1];have:=k h (ai.refl _ _ _);rw[e2,e3,eX] at this;exact this M
 have go:∀(p a:C),Vp p 1->bS p 1=a->a.depth+1<=p.depth->aV p=(p,1)::aV a->fh p=fh a->(∀(F:Fs)(h:Hp)(n:Nat),aZ r l a F h->F.length+a.depth<SZ->(∀h',ai r l h h'->aZ r l (fh a) (F++aV a) h'->N [some (.ref r)] h')->Po (EV Φ ((aV a).length+(n+1)) [some (.ref r)] h) (wF N Q) X)->
   ∀(F:Fs)(h:Hp)(n:Nat),aZ r l p F h->F.length+p.depth<SZ->(∀h',ai r l h h'->aZ r l (fh p) (F++aV p) h'->N [some (.ref r)] h')->Po (EV Φ ((aV p).length+(n+1)) [some (.ref r)] h) (wF N Q) X:=by
  intro p a v ga da es et ia F h n M s k;rw[es,et] at k;rw[es,fZ,show (aV a).length+1+(n+1)=((aV a).length+(n+1))+1 by lia];refine gk ?_;refine M.part ?_;refine Po.ok (pD p h) ?_;show (match truth h (.bl (dO.lookup (hd p)).isSome) with|some true=>_|some false=>_|none=>_);have st:=v.sp (p:=p);rw[uI,if_neg (by lia)];refine M.around ?_;refine dW (jA M.ar) ?_;refine M.part ?_;refine (M.push p 1 (by lia) fun h1 g1 M1=>?_).2;refine M1.part ?_;refine Po.ok (Fe v h1) ?_;rw[ga];refine M1.zT a fun h2 g2 M2=>?_;refine ia (F++[(p,1)]) h2 n M2 (by simp;lia) fun h3 g3 M3=>?_;exact k h3 ((g1.trans g2).trans g3) (by simpa using M3)
 intro p
 induction p with
 |n1 t a ia=>exact go _ a .n1 rfl (by simp only[Co.depth];lia) rfl rfl ia
 |n2 t a b ia _=>exact go _ a .vS rfl (by simp only[Co.depth];lia) rfl rfl ia
 |n3 t a b c ia _ _=>exact go _ a .oa rfl (by simp only[Co.depth];lia) rfl rfl ia
 |num i=>exact fun F h n M _ k=>stop _ F h n rfl rfl rfl M k
 |yes=>exact fun F h n M _ k=>stop _ F h n rfl rfl rfl M k
 |no=>exact fun F h n M _ k=>stop _ F h n rfl rfl rfl M k
 |var i=>exact fun F h n M _ k=>stop _ F h n rfl rfl rfl M k
 |ah i=>exact fun F h n M _ k=>stop _ F h n rfl rfl rfl M k
 |like i=>exact fun F h n M _ k=>stop _ F h n rfl rfl rfl M k
 |fn i x _=>exact fun F h n M _ k=>stop _ F h n rfl rfl rfl M k
 |en i x _ _=>exact fun F h n M _ k=>stop _ F h n rfl rfl rfl M k
theorem v8(M:aZ r l p F h)(s:F.length+p.depth<SZ)(hd:p.depth<=900)(q:∀h',ai r l h h'->aZ r l (fh p) (F++aV p) h'->Q .ah h'):Po (run T (m+1) dU [.ref r] h) Q X:=by refine wp_run pd rfl ?_;have:=mr p;have fu:(aV p).length<FU:=EZ (by lia);obtain⟨n,hn⟩:∃n,FU=(aV p).length+(n+1):=⟨FU-(aV p).length-1,by lia⟩;show Po (fC _ _ FU [some (.ref r)] h) _ _;rw[hn];exact Io p F h n M s q
theorem Cs{c:C}{i:Nat}(M:aZ r l p (F++[(c,i)]) h)(v:Vp c i)(s:F.length+1+(cw c i p).depth<SZ)(hd:∀j,Vp (cw c i p) j->(bS (cw c i p) j).depth<=900/\(bS (cw c i p) j).depth<=(cw c i p).depth)
  (q1:i<cW c->∀h',ai r l h h'->aZ r l (fh (bS (cw c i p) (i+1))) (F++[(cw c i p,i+1)]++aV (bS (cw c i p) (i+1))) h'->Q .ah h')
  (q2:i=cW c->∀h',ai r l h h'->aZ r l (cw c i p) F h'->Q .ah h'):Po (run T (m+2) fX [.ref r] h) Q X:=by
 refine wp_run pf rfl ?_;refine M.around ?_;have ar:=M.ar;rw[List.map_append] at ar;refine kX (y:=yB (c,i)) ar ?_;obtain⟨g1,M1⟩:=M.Jh F;generalize h.set l (.lst (F.map yB))=h1 at g1 M1;refine M1.part ?_;refine Po.ok (nh m v p h1) ?_;refine Po.ok (pD _ h1) ?_;obtain⟨s1,s2,s3⟩:=v.sp (p:=p);refine Po.of (a:=.int (cW c)) (by rw[uI,s3,if_neg (by lia)];rfl) ?_;refine wC.of (decide ((i:Int)<cW c)) rfl ?_;by_cases z:i<cW c
 .rw[bU (by lia)];refine M1.around ?_;refine dW (jA M1.ar) ?_;refine (M1.push (cw c i p) (i+1) (by lia) fun h2 g2 M2=>?_).2;have v2:=v.next (p:=p) z
  refine Po.ok (Fe v2 h2) ?_;refine M2.zT _ fun h3 g3 M3=>?_;refine dW (M3.oh _ (by decide)) ?_;refine v8 M3 (by have:=hd _ v2;simp;lia) (hd _ v2).1 fun h4 g4 M4=>?_;exact q1 z h4 (((g1.trans g2).trans g3).trans g4) M4
 .rw[aY (by lia)];exact M1.zT _ fun h3 g3 M3=>q2 (by lia) h3 (g1.trans g3) M3
end
theorem Vp.same{c:C}{i:Nat}(v:Vp c i):cw c i (bS c i)=c:=by cases v<;>rfl
theorem Vp.deep{c:C}{i:Nat}(v:Vp c i):(bS c i).depth+1<=c.depth:=by cases v<;>simp only[bS,Co.depth]<;>lia
theorem Vp.gd{c:C}{i:Nat}(v:Vp c i)(g:Gd c):Gd (bS c i):=by
 cases v with
 |n1=>exact g
 |vS=>exact g.1
 |vg=>exact g.2
 |oa=>exact g.1
 |uV=>exact g.2.1
 |vE=>exact g.2.2
noncomputable def fr:C->Fs
 |.n1 t a=>if Co.ended a then [] else (.n1 t a,1)::fr a
 |.n2 t a b=>if Co.ended a then (if Co.ended b then [] else (.n2 t a b,2)::fr b) else (.n2 t a b,1)::fr a
 |.n3 .fold a b c=>if Co.ended a then (if Co.ended b then (if Co.ended c then [] else (.n3 .fold a b c,3)::fr c) else (.n3 .fold a b c,2)::fr b) else (.n3 .fold a b c,1)::fr a
 |.n3 .bh a b c=>if Co.ended a then [] else (.n3 .bh a b c,1)::fr a
 |_=>[]
noncomputable def bV:C->C
 |.n1 t a=>if Co.ended a then .n1 t a else bV a
 |.n2 t a b=>if Co.ended a then (if Co.ended b then .n2 t a b else bV b) else bV a
 |.n3 .fold a b c=>if Co.ended a then (if Co.ended b then (if Co.ended c then .n3 .fold a b c else bV c) else bV b) else bV a
 |.n3 .bh a b c=>if Co.ended a then .n3 .bh a b c else bV a
 |c=>c
noncomputable def nS:C->Nat
 |.n1 _ a=>nS a+1
 |.n2 _ a b=>nS a+nS b+2
 |.n3 .fold a b c=>nS a+nS b+nS c+3
 |.n3 .bh a _ _=>nS a+1
 |_=>0
theorem L4:∀c:C,nS c+1<=turns c:=by
 intro c
 induction c with
 |n1 t a ia=>simp only[nS,turns];lia
 |n2 t a b ia ib=>simp only[nS,turns];lia
 |n3 t a b c ia ib ic=>cases t<;>simp only[nS,turns]<;>lia
 |_=>simp[nS,turns]
theorem sN(c:C)(e:Co.ended c=true):eC c=true:=by
 rcases c with _|_|_|_|_|_|_|⟨_|_|_,_⟩|⟨_|_|_|_|_|_,a,b⟩|⟨_|_,_,_,_⟩|_<;>first|rfl|exact e|skip
 simp only[Co.ended,ao] at e;exact e.1.1
theorem Cb(t:T1)(a:C):Co.ended (.n1 t a)=(eC (.n1 t a)&&Co.ended a):=by cases t<;>rfl
theorem lg(t:T2)(a b:C):Co.ended (.n2 t a b)=(eC (.n2 t a b)&&(Co.ended a&&Co.ended b)):=by cases t<;>first|rfl|(simp only[Co.ended,eC,Bool.and_assoc])|simp[Co.ended,eC]
theorem Ip(t:T3)(a b c:C):Co.ended (.n3 t a b c)=false/\eC (.n3 t a b c)=false:=by cases t<;>exact⟨rfl,rfl⟩
section
variable {r l:Nat}{p:C}{F:Fs}{h:Hp}{Q:Wq}{X:Xq}{m n:Nat}{N:Nq}
abbrev lx(Φ:Or)(n:Nat)(σ:Env)(h:Hp):R Fl:=fC (af Φ iq) (aF Φ iw) n σ h
theorem lE(M:aZ r l p F h)(g:Gd p)(e:eC p=false\/F=[])(k:N [some (.ref r)] h):Po (lx (run T (m+2)) (n+1) [some (.ref r)] h) (wF N Q) X:=by
 refine gk ?_;refine M.part ?_;refine Po.ok (kZ m p g h) ?_;cases z:eC p with
 |false=>exact k
 |true=>
  rcases e with e|rfl
  .rw[z] at e;cases e
  refine M.around ?_;refine eh M.ar ?_;refine wC.of false (by simp) ?_;exact k
theorem Fq{c:C}{i:Nat}(M:aZ r l p (F++[(c,i)]) h)(g:Gd p)(e:eC p=true)(v:Vp c i)(s:F.length+1+(cw c i p).depth<SZ)(hd:∀j,Vp (cw c i p) j->(bS (cw c i p) j).depth<=900/\(bS (cw c i p) j).depth<=(cw c i p).depth)
  (q1:i<cW c->∀h',ai r l h h'->aZ r l (fh (bS (cw c i p) (i+1))) (F++[(cw c i p,i+1)]++aV (bS (cw c i p) (i+1))) h'->Po (lx (run T (m+2)) n [some (.ref r)] h') (wF N Q) X)
  (q2:i=cW c->∀h',ai r l h h'->aZ r l (cw c i p) F h'->Po (lx (run T (m+2)) n [some (.ref r)] h') (wF N Q) X):Po (lx (run T (m+2)) (n+1) [some (.ref r)] h) (wF N Q) X:=by
 refine gk ?_;refine M.part ?_;refine Po.ok (kZ m p g h) ?_;rw[e];refine M.around ?_;refine eh M.ar ?_;refine wC.of true (by simp) ?_;refine dW (M.oh _ (by decide)) ?_;exact Cs M v s hd q1 q2
theorem iF{c:C}{i:Nat}(g:Gd c)(v:Vp c i)(M:aZ r l (bS c i) (F++[(c,i)]) h)(e:Co.ended (bS c i)=true)(s:F.length+1+c.depth<SZ)(hd:c.depth<=900)
  (q1:i<cW c->∀h',ai r l h h'->aZ r l (fh (bS c (i+1))) (F++[(c,i+1)]++aV (bS c (i+1))) h'->Po (lx (run T (m+2)) n [some (.ref r)] h') (wF N Q) X)
  (q2:i=cW c->∀h',ai r l h h'->aZ r l c F h'->Po (lx (run T (m+2)) n [some (.ref r)] h') (wF N Q) X):Po (lx (run T (m+2)) (n+1) [some (.ref r)] h) (wF N Q) X:=by
 refine Fq M (v.gd g) (sN _ e) v (by rw[v.same];exact s) (fun j vj=>?_) (fun z h' g1 M1=>?_) fun z h' g1 M1=>?_
 .rw[v.same] at vj⊢;have:=vj.deep
  lia
 .rw[v.same] at M1;exact q1 z h' g1 M1
 .rw[v.same] at M1;exact q2 z h' g1 M1
theorem GD:∀(c:C)(F:Fs)(h:Hp)(n:Nat),Gd c->c.depth<=900->F.length+c.depth+1<SZ->aZ r l (fh c) (F++aV c) h->(Co.ended c=true->∀h',ai r l h h'->aZ r l c F h'->Po (lx (run T (m+2)) (n+1) [some (.ref r)] h') (wF N Q) X)->(Co.ended c=false->∀h',ai r l h h'->aZ r l (bV c) (F++fr c) h'->N [some (.ref r)] h')->Po (lx (run T (m+2)) (nS c+(n+1)) [some (.ref r)] h) (wF N Q) X:=by
 have leaf:∀(c:C),nS c=0->aV c=[]->fh c=c->fr c=[]->bV c=c->eC c=Co.ended c->∀(F:Fs)(h:Hp)(n:Nat),Gd c->c.depth<=900->F.length+c.depth+1<SZ->aZ r l (fh c) (F++aV c) h->(Co.ended c=true->∀h',ai r l h h'->aZ r l c F h'->Po (lx (run T (m+2)) (n+1) [some (.ref r)] h') (wF N Q) X)->(Co.ended c=false->∀h',ai r l h h'->aZ r l (bV c) (F++fr c) h'->N [some (.ref r)] h')->Po (lx (run T (m+2)) (nS c+(n+1)) [some (.ref r)] h) (wF N Q) X:=by
  intro c e1 e2 e3 e4 e5 e6 F h n g hd s M k q;rw[e1,Nat.zero_add];rw[e2,e3,eX] at M;rw[e4,e5,eX] at q;cases e:Co.ended c with
  |true=>exact k e h (ai.refl _ _ _) M
  |false=>exact lE M g (.inl (by rw[e6,e])) (q e h (ai.refl _ _ _) M)
 have fin:∀(c:C)(F:Fs)(h h1:Hp)(n j:Nat),Gd c->Co.ended c=eC c->fr c=[]->bV c=c->ai r l h h1->aZ r l c F h1->(Co.ended c=true->∀h',ai r l h h'->aZ r l c F h'->Po (lx (run T (m+2)) (n+1) [some (.ref r)] h') (wF N Q) X)->(Co.ended c=false->∀h',ai r l h h'->aZ r l (bV c) (F++fr c) h'->N [some (.ref r)] h')->(Co.ended c=true->j=n)->Po (lx (run T (m+2)) (j+1) [some (.ref r)] h1) (wF N Q) X:=by
  intro c F h h1 n j g e1 e2 e3 g1 M k q hj;rw[e2,e3,eX] at q;cases e:Co.ended c with
  |true=>rw[hj e];exact k e h1 g1 M
  |false=>exact lE M g (.inl (by rw[<-e1,e])) (q e h1 g1 M)
 intro c
 induction c with
 |num i=>exact leaf _ rfl rfl rfl rfl rfl rfl
 |yes=>exact leaf _ rfl rfl rfl rfl rfl rfl
 |no=>exact leaf _ rfl rfl rfl rfl rfl rfl
 |var i=>exact leaf _ rfl rfl rfl rfl rfl rfl
 |ah k=>exact leaf _ rfl rfl rfl rfl rfl rfl
 |like k=>exact leaf _ rfl rfl rfl rfl rfl rfl
 |fn k x _=>exact leaf _ rfl rfl rfl rfl rfl rfl
 |en x u _ _=>exact leaf _ rfl rfl rfl rfl rfl rfl
 |n1 t a ia=>
  intro F h n g hd s M k q;simp only[Co.depth] at hd s;rw[nS,show nS a+1+(n+1)=nS a+((n+1)+1) by lia];refine ia (F++[(.n1 t a,1)]) h (n+1) g (by lia) (by simp;lia) (by simpa [aV,fh] using M) (fun ea h1 g1 M1=>?_) fun ea h1 g1 M1=>?_
  .refine iF g .n1 M1 ea (by simp only[Co.depth];lia) (by simpa [Co.depth] using hd) (fun z=>absurd z (by simp[cW])) fun _ h2 g2 M2=>?_;exact fin (.n1 t a) F h h2 n n g (by rw[Cb,ea,Bool.and_true]) (by simp[fr,ea]) (by simp[bV,ea]) (g1.trans g2) M2 k q fun _=>rfl
  .exact q (by rw[Cb,ea,xE]) h1 g1 (by simpa [fr,bV,ea] using M1)
 |n2 t a b ia ib=>
  intro F h n g hd s M k q;simp only[Co.depth] at hd s;rw[nS,show nS a+nS b+2+(n+1)=nS a+((nS b+(n+1)+1)+1) by lia];refine ia (F++[(.n2 t a b,1)]) h _ g.1 (by lia) (by simp;lia) (by simpa [aV,fh] using M) (fun ea h1 g1 M1=>?_) fun ea h1 g1 M1=>?_
  .refine iF g .vS M1 ea (by simp only[Co.depth];lia) (by simpa [Co.depth] using hd) (fun _ h2 g2 M2=>?_) fun z=>absurd z (by simp[cW]);rw[show nS b+(n+1)+1=nS b+((n+1)+1) by lia];refine ib (F++[(Co.n2 t a b,2)]) h2 (n+1) g.2 (by lia) (by simp;lia) (show aZ r l (fh b) (F++[(Co.n2 t a b,2)]++aV b) h2 from M2) (fun eb h3 g3 M3=>?_) fun eb h3 g3 M3=>?_
   .refine iF g .vg M3 eb (by simp only[Co.depth];lia) (by simpa [Co.depth] using hd) (fun z=>absurd z (by simp[cW])) fun _ h4 g4 M4=>?_;exact fin (.n2 t a b) F h h4 n n g (by rw[lg,ea,eb];simp) (by simp[fr,ea,eb]) (by simp[bV,ea,eb]) (((g1.trans g2).trans g3).trans g4) M4 k q fun _=>rfl
   .exact q (by rw[lg,eb,xE,xE]) h3 ((g1.trans g2).trans g3) (by simpa [fr,bV,ea,eb] using M3)
  .exact q (by rw[lg,ea,Bool.false_and,xE]) h1 g1 (by simpa [fr,bV,ea] using M1)
 |n3 t a b c ia ib ic=>
  intro F h n g hd s M k q;have q:=q (Ip t a b c).1;simp only[Co.depth] at hd s;cases t with
  |bh=>
   rw[nS,show nS a+1+(n+1)=nS a+((n+1)+1) by lia];refine ia (F++[(.n3 .bh a b c,1)]) h (n+1) g.1 (by lia) (by simp;lia) (by simpa [aV,fh] using M) (fun ea h1 g1 M1=>?_) fun ea h1 g1 M1=>?_
   .refine iF g .oa M1 ea (by simp only[Co.depth];lia) (by simpa [Co.depth] using hd) (fun z=>absurd z (by simp[cW])) fun _ h2 g2 M2=>?_;exact lE M2 g (.inl rfl) (q h2 (g1.trans g2) (by simpa [fr,bV,ea] using M2))
   .exact q h1 g1 (by simpa [fr,bV,ea] using M1)
  |fold=>
   rw[nS,show nS a+nS b+nS c+3+(n+1)=nS a+((nS b+((nS c+(n+1)+1)+1))+1) by lia];refine ia (F++[(.n3 .fold a b c,1)]) h _ g.1 (by lia) (by simp;lia) (by simpa [aV,fh] using M) (fun ea h1 g1 M1=>?_) fun ea h1 g1 M1=>?_
   .refine iF g .oa M1 ea (by simp only[Co.depth];lia) (by simpa [Co.depth] using hd) (fun _ h2 g2 M2=>?_) fun z=>absurd z (by simp[cW]);refine ib (F++[(Co.n3 .fold a b c,2)]) h2 _ g.2.1 (by lia) (by simp;lia) (show aZ r l (fh b) (F++[(Co.n3 .fold a b c,2)]++aV b) h2 from M2) (fun eb h3 g3 M3=>?_) fun eb h3 g3 M3=>?_
    .refine iF g .uV M3 eb (by simp only[Co.depth];lia) (by simpa [Co.depth] using hd) (fun _ h4 g4 M4=>?_) fun z=>absurd z (by simp[cW]);rw[show nS c+(n+1)+1=nS c+((n+1)+1) by lia];refine ic (F++[(Co.n3 .fold a b c,3)]) h4 _ g.2.2 (by lia) (by simp;lia) (show aZ r l (fh c) (F++[(Co.n3 .fold a b c,3)]++aV c) h4 from M4) (fun ec h5 g5 M5=>?_) fun ec h5 g5 M5=>?_
     .refine iF g .vE M5 ec (by simp only[Co.depth];lia) (by simpa [Co.depth] using hd) (fun z=>absurd z (by simp[cW])) fun _ h6 g6 M6=>?_;exact lE M6 g (.inl rfl) (q h6 (((((g1.trans g2).trans g3).trans g4).trans g5).trans g6) (by simpa [fr,bV,ea,eb,ec] using M6))
     .exact q h5 ((((g1.trans g2).trans g3).trans g4).trans g5) (by simpa [fr,bV,ea,eb,ec] using M5)
    .exact q h3 ((g1.trans g2).trans g3) (by simpa [fr,bV,ea,eb] using M3)
   .exact q h1 g1 (by simpa [fr,bV,ea] using M1)
end
def gb(F:Fs)(p:C):C:=F.foldr (fun f p=>cw f.1 f.2 p) p
section
variable {r l:Nat}{p c:C}{F:Fs}{h:Hp}{Q:Wq}{X:Xq}{m n:Nat}{N:Nq}
theorem Gj(M:aZ r l c F h)(g:Gd c)(hd:c.depth<=900)(s:F.length+c.depth+1<SZ)(e0:Co.ended c=true->F=[])(q:∀h',ai r l h h'->(if Co.ended c then aZ r l c [] h' else aZ r l (bV c) (F++fr c) h')->Q .ah h'):Po (run T (m+3) gF [.ref r] h) Q X:=by
 refine wp_run qo rfl ?_;refine dW (M.oh _ (by decide)) ?_;refine v8 M (by lia) hd fun h1 g1 M1=>?_;have tf:=qj hd;have ns:=L4 c;obtain⟨n,hn⟩:∃n,FU=nS c+(n+1):=⟨FU-nS c-1,by lia⟩;show Po (fC _ _ FU [some (.ref r)] h1) _ _;rw[hn];refine GD c F h1 n g hd (by lia) M1 (fun e h2 g2 M2=>?_) fun e h2 g2 M2=>?_
 .refine lE M2 g (.inr (e0 e)) ?_;have z:=e0 e;subst z;exact q h2 (g1.trans g2) (by rw[if_pos e];exact M2)
 .exact q h2 (g1.trans g2) (by rw[if_neg (by simp[e])];exact M2)
theorem Ge(g:Gd c)(hd:c.depth<=900):Po (run T (m+5) (eE+1000) [.ref h.length,Co.ae c] (h++[.ins jw []])) (fun w h'=>w=.ah/\∃l,aj h h'/\h.length<l/\(if Co.ended c then aZ h.length l c [] h' else aZ h.length l (bV c) (fr c) h')) X:=by
 show Po (run T (m+4) eE [.ref h.length,Co.ae c] (h++[.ins jw []])) _ _;refine wp_run pW rfl ?_;refine Po.ok (a:=()) (h:=h++[.ins jw [(iL,Co.ae c)]]) (by simp only[putField,bp];simp[mx]) ?_;refine Po.ok (a:=()) (h:=h++[.ins jw [(iL,Co.ae c),(fP,.ref (h.length+1))]]++[.lst []]) ?_ ?_
 .have e:=aQ [O.lst []] (bp h (.ins jw [(iL,Co.ae c)]));simp only[putField,e];simp[mx]
 .have M:aZ h.length (h.length+1) c [] (h++[.ins jw [(iL,Co.ae c),(fP,.ref (h.length+1))]]++[.lst []]):=⟨aQ _ (bp _ _),by simp,by lia⟩;refine dW (M.oh _ (by decide)) ?_;refine Gj M g hd (by simp[SZ];lia) (fun _=>rfl) fun h' g1 M1=>?_;exact⟨rfl,h.length+1,(aj.Fc ((aj.app _ _).trans (aj.app _ _)) g1 (aA _) (by lia)),(by lia),(by simpa using M1)⟩
theorem yC(M:aZ r l p F h)(g:Gd p)(q:Q (.bl (F.isEmpty&&eC p)) h):Po (run T (m+3) e8 [.ref r] h) Q X:=by
 refine wp_run mJ rfl ?_;refine M.around ?_;refine eh M.ar ?_;cases F with
 |nil=>
  refine wC.of true (by simp) ?_;refine M.part ?_;exact Po.ok (kZ m p g h) q
 |cons f F=>
  refine wC.of false (by simp;lia) ?_;exact q
theorem KD{p':C}{sh:W}(M:aZ r l p F h)(e:Rd p p')(q:∀h',ai r l h h'->aZ r l p' F h'->Q .ah h'):Po (run T (m+9) eY [.ref r,sh] h) Q X:=by refine wp_run mI rfl ?_;refine M.part ?_;refine zY (m:=m) e fun h1 g1=>?_;have M1:aZ r l p F h1:=⟨g1.keep _ _ M.ob,g1.keep _ _ M.ar,M.ne⟩;exact M1.zT p' fun h2 g2 M2=>q h2 ((ai.of g1).trans g2) M2
theorem Bz(k:Nat)(el:h[l]?=some (.lst (F.map yB)))(vF:∀f∈F,Vp f.1 f.2):∀(n:Nat)(p:C)(t2 t3:Option W),n<=F.length->∃u2 u3,fJ l (.two 2 3) (aF (run T (k+1)) cU) n [some (.ref r),some (Co.ae p),t2,t3] h=.ok (.next [some (.ref r),some (Co.ae (gb (F.take n) p)),u2,u3]) h
 |0,p,t2,t3,_=>⟨t2,t3,rfl⟩
 |n+1,p,t2,t3,hn=>by
  have hf:F[n]?=some F[n]:=kH (by lia);have v:=vF F[n] (vH _);obtain⟨u2,u3,e⟩:=Bz k el vF n (cw F[n].1 F[n].2 p) (some (Co.ae F[n].1)) (some (.int (F[n].2:Int))) (by lia);refine⟨u2,u3,?_⟩;rw[fJ];simp only[dS,el,kO,hf,Option.map_some,turn,qe];have w:=nh k v p h;have b:aF (run T (k+1)) cU [some (.ref r),some (Co.ae p),some (Co.ae F[n].1),some (.int (F[n].2:Int))] h=.ok (.next [some (.ref r),some (Co.ae (cw F[n].1 F[n].2 p)),some (Co.ae F[n].1),some (.int (F[n].2:Int))]) h:=by show ((run T (k+1) gp [Co.ae F[n].1,.int (F[n].2:Int),Co.ae p] h).bind _).bind _=_;rw[w];rfl
  simp only[List.set,b,R.aW,e];have tk:F.take (n+1)=F.take n++[F[n]]:=List.take_succ_eq_append_getElem (by lia);simp only[gb,tk,List.foldr_append,List.foldr]
theorem CS(M:aZ r l p F h)(vF:∀f∈F,Vp f.1 f.2)(hd:(gb F p).depth<=900)(q:∀h',aj h h'->Q (Co.ae (strip (gb F p))) h'):Po (run T (m+5) f6 [.ref r] h) Q X:=by
 refine wp_run pj rfl ?_;refine M.part ?_;obtain⟨u2,u3,e⟩:=Bz (r:=r) (m+3) M.ar vF F.length p none none (aA _);rw[List.take_length] at e;have e2:dC (run T (m+4)) (.for (.two 2 3) (.rev (.fld (.var 0) fP)) cU) [some (.ref r),some (Co.ae p),none,none] h=.ok (.next [some (.ref r),some (Co.ae (gb F p)),u2,u3]) h:=by
  rw[yr,uW,Ga,qG (i:=0) rfl,R.aW];have f1:field (.ref r) fP h=some (.ref l):=by simp only[field,M.ob];rfl
  rw[f1];simp only[R.GJ,R.aW,M.ar,iG];exact e
 refine Po.ok e2 ?_;exact pQ (gb F p) hd q
end
noncomputable def Pl:C->Prop
 |.fn _ c=>Pl c
 |.n1 _ a=>Pl a
 |.n2 _ a b=>Pl a/\Pl b
 |.n3 _ a b c=>Pl a/\Pl b/\Pl c
 |.en _ _=>False
 |_=>True
theorem Ty.pl{Γ:List Kd}{c:C}{t:Kd}(h:Ty Γ c t):Pl c:=by
 induction h with
 |fn _ i=>exact i
 |left _ i=>exact i
 |right _ i=>exact i
 |bA _ i=>exact i
 |call _ _ i j=>exact⟨i,j⟩
 |both _ _ i j=>exact⟨i,j⟩
 |more _ _ i j=>exact⟨i,j⟩
 |sum _ _ i j=>exact⟨i,j⟩
 |less _ _ i j=>exact⟨i,j⟩
 |bx _ _ i j=>exact⟨i,j⟩
 |fold _ _ _ i j k=>exact⟨i,j,k⟩
 |bh _ _ _ i j k=>exact⟨i,j,k⟩
 |_=>trivial
theorem uE:∀(c:C)(n:Nat),Pl c->res qB n c=c:=by
 intro c
 induction c with
 |fn k x i=>intro n h;simp only[res,i (n+1) h]
 |n1 t x i=>intro n h;simp only[res,i n h]
 |n2 t x y i j=>intro n h;simp only[res,i n h.1,j n h.2]
 |n3 t x y z i j k=>intro n h;simp only[res,i n h.1,j n h.2.1,k n h.2.2]
 |en a u _ _=>intro n h;exact h.elim
 |_=>intro n h;rfl
theorem xI{c:C}(h:Pl c):bare c=c:=by cases c<;>first|rfl|exact h.elim
theorem JQ{c:C}(h:Pl c):sM c=.en c c:=by have e:strip c=c:=uE c 0 h;cases c<;>first|exact h.elim|(simp only[sM,e])
theorem AS{v:C}(hv:Pl v):∀(c:C)(n m:Nat),Pl c->res qB m (Co.into (sM v) n c)=Co.into v n c:=by
 intro c
 induction c with
 |var i=>
  intro n m _;simp only[Co.into];by_cases e:i=n
  .rw[if_pos e,if_pos e,JQ hv];rfl
  .rw[if_neg e,if_neg e];rfl
 |fn k x i=>intro n m h;simp only[Co.into,res,i (n+1) (m+1) h]
 |n1 t x i=>intro n m h;simp only[Co.into,res,i n m h]
 |n2 t x y i j=>intro n m h;simp only[Co.into,res,i n m h.1,j n m h.2]
 |n3 t x y z i j k=>intro n m h;simp only[Co.into,res,i n m h.1,j n m h.2.1,k n m h.2.2]
 |en a u _ _=>intro n m h;exact h.elim
 |_=>intro n m h;rfl
theorem DB:∀(c:C)(n:Nat),c.depth<=(res qB n c).depth:=by
 intro c
 induction c with
 |fn k x i=>intro n;have:=i (n+1);simp only[res,Co.depth];lia
 |n1 t x i=>intro n;have:=i n;simp only[res,Co.depth];lia
 |n2 t x y i j=>intro n;have:=i n;have:=j n;simp only[res,Co.depth];lia
 |n3 t x y z i j k=>intro n;have:=i n;have:=j n;have:=k n;simp only[res,Co.depth];lia
 |_=>intro n;exact bu _
theorem Ah{l x y:C}{k:Kd}(tl:Ty [] l (lk k))(il:bL l=true)(tx:Ty [] x k)(ex:Co.ended x=true)(ty:Ty [] y k)(ey:Co.ended y=true):Cm l x y (compared l x y):=by
 cases tl with
 |jk=>
  obtain⟨i,rfl⟩:=bQ tx ex;obtain⟨j,rfl⟩:=bQ ty ey;have:=@Cm.num i j;simp only[compared,Ei,ax];exact this
 |jm=>rcases jE tx ex with rfl|rfl<;>rcases jE ty ey with rfl|rfl<;>constructor
 |bA h1=>rcases gL tx ex with rfl|⟨x1,x2,rfl,e1,e2,t1,t2⟩<;>rcases gL ty ey with rfl|⟨y1,y2,rfl,f1,f2,u1,u2⟩<;>constructor
 |bx h1 h2=>
  obtain⟨x1,x2,rfl,e1,e2,t1,t2⟩:=cP tx ex;obtain⟨y1,y2,rfl,f1,f2,u1,u2⟩:=cP ty ey;constructor
 |var e=>simp at e
 |fn _=>simp[bL,bare,dj] at il
 |left _=>simp[bL,bare,dj] at il
 |right _=>simp[bL,bare,dj] at il
 |call _ _=>simp[bL,bare,dj] at il
 |fold _ _ _=>simp[bL,bare,dj] at il
 |bh _ _ _=>simp[bL,bare,dj] at il
theorem Cm.pl{l x y r:C}(m:Cm l x y r)(pl:Pl l)(px:Pl x)(py:Pl y):Pl r:=by
 cases m with
 | @num i j=>by_cases z:i=j<;>simp[z,Pl]
 |mm=>exact⟨⟨⟨pl,px.1⟩,py.1⟩,⟨⟨pl,px.2⟩,py.2⟩,trivial⟩
 |bb=>exact⟨⟨⟨pl.1,px.1⟩,py.1⟩,⟨⟨pl.2,px.2⟩,py.2⟩,trivial⟩
 |_=>trivial
theorem Rd.eC{c r:C}(e:Rd c r):K05.eC c=false:=by
 cases e with
 |fn ef _ _=>simp only[K05.eC,bL,ef];rfl
 |ask ef _=>simp only[K05.eC,bL,ef];rfl
 |_=>rfl
structure xi(c:C)(p':C):Prop where
 rd:Rd (bV c) p'
 eq:strip (gb (fr c) p')=Co.au c
 gd:Gd (bV c)
 vp:∀f∈fr c,Vp f.1 f.2
theorem jZ{c a p':C}{i:Nat}(v:Vp c i)(er:bV c=bV a)(ef:fr c=(c,i)::fr a)(s:xi a p')(e:strip (cw c i (gb (fr a) p'))=Co.au c):xi c p':=
 ⟨by rw[er];exact s.rd,by rw[ef];exact e,by rw[er];exact s.gd,fun f hf=>by
  rw[ef] at hf;rcases eZ.mp hf with rfl|hf
  .exact v
  .exact s.vp f hf⟩
theorem jM{c p':C}(er:bV c=c)(ef:fr c=[])(r:Rd c p')(g:Gd c)(e:strip p'=Co.au c):xi c p':=
 ⟨by rw[er];exact r,by rw[ef];exact e,by rw[er];exact g,fun f hf=>by rw[ef] at hf;cases hf⟩
theorem Ku{c:C}{t:Kd}(h:Ty [] c t):bare c=c:=xI h.pl
theorem je{c:C}{t:Kd}(h:Ty [] c t):strip c=c:=uE c 0 h.pl
theorem fx:∀(c:C)(t:Kd),Ty [] c t->Co.ended c=false->c.depth<=900->∃p',xi c p'
 |.num _,_,_,e,_=>by simp[Co.ended] at e
 |.yes,_,_,e,_=>by simp[Co.ended] at e
 |.no,_,_,e,_=>by simp[Co.ended] at e
 |.ah _,_,_,e,_=>by simp[Co.ended] at e
 |.like _,_,_,e,_=>by simp[Co.ended] at e
 |.fn _ _,_,_,e,_=>by simp[Co.ended] at e
 |.en _ _,_,_,e,_=>by simp[Co.ended] at e
 |.var _,_,h,_,_=>by cases h with|var z=>simp at z
 |.n1 tg a,t,h,e,d=>by
  simp only[Co.depth] at d;by_cases ea:Co.ended a=true
  .cases h with
   |left h1=>
    obtain⟨x1,x2,rfl,e1,e2,t1,t2⟩:=cP h1 ea;exact⟨x1,jM (by simp[bV,ea]) (by simp[fr,ea]) (.left rfl) h1.gd (by simp only[Co.au,ea,fg,pT,je t1])⟩
   |right h1=>
    obtain⟨x1,x2,rfl,e1,e2,t1,t2⟩:=cP h1 ea;exact⟨x2,jM (by simp[bV,ea]) (by simp[fr,ea]) (.right rfl) h1.gd (by simp only[Co.au,ea,fg,pT,je t2])⟩
   |bA h1=>simp[Co.ended,ea] at e
  .have ea':Co.ended a=false:=by simpa using ea
   have key:∀t',Ty [] a t'->∃p',xi (.n1 tg a) p':=fun t' h1=>by
    obtain⟨p',s⟩:=fx a t' h1 ea' (by lia);exact⟨p',jZ .n1 (by simp[bV,ea']) (by simp[fr,ea']) s (by show Co.n1 tg (strip (gb (fr a) p'))=_;simp only[s.eq,Co.au,ea',dq,pM])⟩
   cases h with
   |left h1=>exact key _ h1
   |right h1=>exact key _ h1
   |bA h1=>exact key _ h1
 |.n2 tg a b,t,h,e,d=>by
  simp only[Co.depth] at d;have key:∀t1 t2,Ty [] a t1->Ty [] b t2->(Co.ended a=true->Co.ended b=true->∃p',Rd (.n2 tg a b) p'/\strip p'=gE tg a b)->∃p',xi (.n2 tg a b) p':=fun t1 t2 h1 h2 k=>by
   by_cases ea:Co.ended a=true
   .by_cases eb:Co.ended b=true
    .obtain⟨p',r,z⟩:=k ea eb;exact⟨p',jM (by simp[bV,ea,eb]) (by simp[fr,ea,eb]) r ⟨h1.gd,h2.gd⟩ (by simp only[Co.au,ea,eb,fg,z])⟩
    .have eb':Co.ended b=false:=by simpa using eb
     obtain⟨p',s⟩:=fx b t2 h2 eb' (by lia);exact⟨p',jZ .vg (by simp[bV,ea,eb']) (by simp[fr,ea,eb']) s (by show Co.n2 tg (strip a) (strip (gb (fr b) p'))=_;simp only[s.eq,je h1,Co.au,ea,eb',fg,dq,pM])⟩
   .have ea':Co.ended a=false:=by simpa using ea
    obtain⟨p',s⟩:=fx a t1 h1 ea' (by lia);exact⟨p',jZ .vS (by simp[bV,ea']) (by simp[fr,ea']) s (by show Co.n2 tg (strip (gb (fr a) p')) (strip b)=_;simp only[s.eq,je h2,Co.au,ea',dq,pM])⟩
  have no:∀{P:Prop},eC (.n2 tg a b)=true->Co.ended a=true->Co.ended b=true->P:=fun x y z=>by rw[lg,x,y,z] at e;cases e
  cases h with
  |both h1 h2=>exact key _ _ h1 h2 fun x y=>no rfl x y
  |more h1 h2=>exact key _ _ h1 h2 fun x y=>no rfl x y
  |bx h1 h2=>exact key _ _ h1 h2 fun x y=>no rfl x y
  |sum h1 h2=>
   refine key _ _ h1 h2 fun x y=>?_;obtain⟨i,rfl⟩:=bQ h1 x;obtain⟨j,rfl⟩:=bQ h2 y;exact⟨_,.sum rfl rfl,rfl⟩
  |less h1 h2=>
   refine key _ _ h1 h2 fun x y=>?_;obtain⟨i,rfl⟩:=bQ h1 x;obtain⟨j,rfl⟩:=bQ h2 y;refine⟨_,.less rfl rfl,?_⟩;simp only[gE];by_cases z:i<j
   .rw[if_pos z];rfl
   .rw[if_neg z];rfl
  |call h1 h2=>
   refine key _ _ h1 h2 fun x y=>?_;rcases l5 h1 x with ⟨bo,rfl,hb⟩|⟨il,_⟩|⟨l,v,rfl,il,el,ev,tl,tv,rfl⟩
   .simp only[Co.depth] at d;exact⟨_,.fn rfl (by lia) (by lia),AS h2.pl bo 0 0 hb.pl⟩
   .exact no il x y
   .have cm:=Ah tl il tv ev h2 y;exact⟨_,.ask rfl (by rw[Ku tl,Ku tv,Ku h2];exact cm),uE _ 0 (cm.pl tl.pl tv.pl h2.pl)⟩
 |.n3 .fold a b c,t,h,e,d=>by
  simp only[Co.depth] at d;cases h with
  |fold h1 h2 h3=>
   by_cases ea:Co.ended a=true
   .by_cases eb:Co.ended b=true
    .by_cases ec:Co.ended c=true
     .have st:Co.au (.n3 .fold a b c)=vG a b c:=by simp only[Co.au,ea,eb,ec,fg]
      rcases gL h1 ea with rfl|⟨x1,x2,rfl,e1,e2,t1,t2⟩
      .exact⟨b,jM (by simp[bV,ea,eb,ec]) (by simp[fr,ea,eb,ec]) (.ET rfl) ⟨h1.gd,h2.gd,h3.gd⟩ (by rw[st,je h2];rfl)⟩
      .exact⟨_,jM (by simp[bV,ea,eb,ec]) (by simp[fr,ea,eb,ec]) (.Fm rfl) ⟨h1.gd,h2.gd,h3.gd⟩ (by rw[st];exact je (.call (.call h3 t1) (.fold t2 h2 h3)))⟩
     .have ec':Co.ended c=false:=by simpa using ec
      obtain⟨p',s⟩:=fx c _ h3 ec' (by lia);exact⟨p',jZ .vE (by simp[bV,ea,eb,ec']) (by simp[fr,ea,eb,ec']) s (by show Co.n3 .fold (strip a) (strip b) (strip (gb (fr c) p'))=_;simp only[s.eq,je h1,je h2,Co.au,ea,eb,ec',fg,dq,pM])⟩
    .have eb':Co.ended b=false:=by simpa using eb
     obtain⟨p',s⟩:=fx b _ h2 eb' (by lia);exact⟨p',jZ .uV (by simp[bV,ea,eb']) (by simp[fr,ea,eb']) s (by show Co.n3 .fold (strip a) (strip (gb (fr b) p')) (strip c)=_;simp only[s.eq,je h1,je h3,Co.au,ea,eb',fg,dq,pM])⟩
   .have ea':Co.ended a=false:=by simpa using ea
    obtain⟨p',s⟩:=fx a _ h1 ea' (by lia);exact⟨p',jZ .oa (by simp[bV,ea']) (by simp[fr,ea']) s (by show Co.n3 .fold (strip (gb (fr a) p')) (strip b) (strip c)=_;simp only[s.eq,je h2,je h3,Co.au,ea',dq,pM])⟩
 |.n3 .bh a b c,t,h,e,d=>by
  simp only[Co.depth] at d;cases h with
  |bh h1 h2 h3=>
   by_cases ea:Co.ended a=true
   .rcases jE h1 ea with rfl|rfl
    .exact⟨b,jM rfl rfl (.yes rfl) ⟨h1.gd,h2.gd,h3.gd⟩ (je h2)⟩
    .exact⟨c,jM rfl rfl (.no rfl) ⟨h1.gd,h2.gd,h3.gd⟩ (je h3)⟩
   .have ea':Co.ended a=false:=by simpa using ea
    obtain⟨p',s⟩:=fx a _ h1 ea' (by lia);exact⟨p',jZ .oa (by simp[bV,ea']) (by simp[fr,ea']) s (by show Co.n3 .bh (strip (gb (fr a) p')) (strip b) (strip c)=_;simp only[s.eq,je h2,je h3,Co.au,ea',dq,pM])⟩
theorem qh{m:Nat}{h:Hp}{c:C}{t:Kd}{sh:W}{Q:Wq}{X:Xq}(ty:Ty [] c t)(hd:c.depth<=900)(hs:Co.ended c=false->(Co.au c).depth<=900)(q:∀h',aj h h'->Q (if Co.ended c then .ah else Co.ae (Co.au c)) h'):Po (run T (m+10) n9 [sh,Co.ae c] h) Q X:=by
 refine wp_run JL rfl ?_;refine Po.mono (Ge (m:=m+4) ty.gd hd) (fun w h1 z=>?_) fun _ _ z=>z;obtain⟨rfl,l,g1,hl,M⟩:=z;cases e:Co.ended c with
 |true=>
  rw[e,if_pos rfl] at M;refine dW (M.oh _ (by decide)) ?_;refine yC (m:=m+6) M ty.gd ?_;rw[sN c e];have:=q h1 g1;rw[e] at this;exact this
 |false=>
  obtain⟨p',s⟩:=fx c t ty e hd;rw[e,if_neg (by decide)] at M;refine dW (M.oh _ (by decide)) ?_;refine yC (m:=m+6) M s.gd ?_;rw[s.rd.eC,xE];refine dW (M.oh _ (by decide)) ?_;refine KD (m:=m) M s.rd fun h2 g2 M2=>?_;refine dW (M2.oh _ (by decide)) ?_;refine CS (m:=m+4) M2 s.vp ?_ fun h3 g3=>?_
  .have z:=DB (gb (fr c) p') 0;have y:=s.eq;unfold strip at y;rw[y] at z;exact bG z (hs e)
  .rw[s.eq];have:=q h3 ((aj.Fc g1 g2 (aA _) (by lia)).trans g3);rw[e] at this;exact this
noncomputable def A2(Φ:Or)(cd elt:E)(σ:Env):List W->List W->Hp->(List W->Hp->Prop)->Prop
 |[],acc,h,Q=>Q acc h
 |x::xs,acc,h,Q=>wE Φ cd (σ++[some x]) h (fun t h=>match truth h t with
  |some true=>wE Φ elt (σ++[some x]) h (fun y h=>A2 Φ cd elt σ xs (acc++[y]) h Q) fun _ _=>False
  |some false=>A2 Φ cd elt σ xs acc h Q
  |none=>False) fun _ _=>False
theorem AB{α:Type}{r:R α}{Q:α->Hp->Prop}{X:Xq}(p:Po r Q fun _ _=>False):Po r.fA Q X:=by
 cases r with
 |ok a h=>exact p
 |aI a h=>exact p.elim
 |bad=>exact p
theorem uC{Φ:Or}{cd elt:E}{σ:Env}{X:Xq}:∀(xs acc:List W)(h:Hp)(Q:List W->Hp->Prop),A2 Φ cd elt σ xs acc h Q->Po (fS (lO (fW Φ (.some cd)) (af Φ elt) σ) xs acc h) Q X
 |[],acc,h,Q,p=>p
 |x::xs,acc,h,Q,p=>by
  refine Po.bind ?_;unfold lO;refine Po.bind (AB ?_);rw[nX];refine Po.bind ((aU Φ cd _ h _ _ p).mono (fun t h p=>?_) fun _ _ z=>z);show Po (match lD h (some t) with|none=>_|some true=>_|some false=>_) _ _;simp only[lD];split at p
  .next e=>
   (try rw[e])
   exact Po.bind (AB ((aU Φ elt _ h _ _ p).mono (fun y h p=>uC xs _ h Q p) fun _ _ z=>z))
  .next e=>(try rw[e]);exact uC xs acc h Q p
  .exact p.elim
theorem iD{Φ:Or}{cd elt:E}{it:It}{σ:Env}{h h1:Hp}{Q:Wq}{X:Xq}{xs:List W}(e:dN Φ it σ h=.ok (.fix xs) h1)(p:A2 Φ cd elt σ xs [] h1 (fun ys h=>ys.length<=SZ/\Q (.ref h.length) (h++[.lst ys]))):Po (af Φ (.comp elt it (.some cd)) σ h) Q X:=by rw[mq,e];show Po ((fS (lO (fW Φ (.some cd)) (af Φ elt) σ) xs [] h1).bind f7) Q X;refine Po.bind ((uC xs [] h1 _ p).mono (fun ys h p=>?_) fun _ _ z=>z);unfold f7;rw[if_pos p.1];exact p.2
def kb(n:Nat):C->Prop
 |.ah k=>k.depth<=n
 |.like k=>k.depth<=n
 |.fn k c=>k.depth<=n/\kb n c
 |.n1 _ a=>kb n a
 |.n2 _ a b=>kb n a/\kb n b
 |.n3 _ a b c=>kb n a/\kb n b/\kb n c
 |.en _ _=>False
 |_=>True
theorem xh:∀c:C,(Co.ae c).pure=true:=by
 intro c
 induction c with
 |num=>rfl
 |yes=>rfl
 |no=>rfl
 |var=>rfl
 |ah k=>simp[Co.ae,W.pure,b8,eO k]
 |like k=>simp[Co.ae,W.pure,b8,eO k]
 |fn k x i=>simp[Co.ae,W.pure,b8,eO k,i]
 |n1 t x i=>simp[Co.ae,W.pure,b8,i]
 |n2 t x y i j=>simp[Co.ae,W.pure,b8,i,j]
 |n3 t x y z i j k=>simp[Co.ae,W.pure,b8,i,j,k]
 |en x y i j=>simp[Co.ae,W.pure,b8,i,j]
theorem yg{n:Nat}:∀c:C,kb n c->(Co.ae c).deep<=c.depth+n+2:=by
 intro c
 induction c with
 |num=>intro _;simp[Co.ae,W.deep,br]
 |yes=>intro _;simp[Co.ae,W.deep,br]
 |no=>intro _;simp[Co.ae,W.deep,br]
 |var=>intro _;simp[Co.ae,W.deep,br]
 |ah k=>intro h;have:=eG k;simp only[kb] at h;simp[Co.ae,W.deep,br];lia
 |like k=>intro h;have:=eG k;simp only[kb] at h;simp[Co.ae,W.deep,br];lia
 |fn k x i=>intro h;have:=eG k;have:=i h.2;have:=h.1;simp[Co.ae,W.deep,br,Co.depth];lia
 |n1 t x i=>intro h;have:=i h;simp[Co.ae,W.deep,br,Co.depth];lia
 |n2 t x y i j=>intro h;have:=i h.1;have:=j h.2;simp[Co.ae,W.deep,br,Co.depth];lia
 |n3 t x y z i j k=>intro h;have:=i h.1;have:=j h.2.1;have:=k h.2.2;simp[Co.ae,W.deep,br,Co.depth];lia
 |en x y i j=>intro h;exact h.elim
theorem kb.pl{n:Nat}:∀c:C,kb n c->Pl c:=by
 intro c
 induction c with
 |fn k x i=>exact fun h=>i h.2
 |n1 t x i=>exact fun h=>i h
 |n2 t x y i j=>exact fun h=>⟨i h.1,j h.2⟩
 |n3 t x y z i j k=>exact fun h=>⟨i h.1,j h.2.1,k h.2.2⟩
 |en x y i j=>exact fun h=>h.elim
 |_=>exact fun _=>trivial
theorem yh{n:Nat}{c:C}(h:Hp)(k:kb n c)(d:c.depth+n+2<=900):dA h (Co.ae c) (Co.ae c)=some true:=by
 have p:=xh c;have e:cJ h (Co.ae c)=none:=by cases c<;>rfl
 have r:=xr h (Co.ae c) 900 p (bG (yg c k) d);simp only[dA,e,r,wO _ p]
theorem Ft{n:Nat}{v:C}(hv:kb n v):∀(c:C)(i:Nat),kb n c->kb n (Co.into v i c):=by
 intro c
 induction c with
 |var j=>
  intro i _;simp only[Co.into];by_cases e:j=i
  .rw[if_pos e];exact hv
  .rw[if_neg e];trivial
 |fn k x ix=>exact fun i h=>⟨h.1,ix (i+1) h.2⟩
 |n1 t x ix=>exact fun i h=>ix i h
 |n2 t x y ix iy=>exact fun i h=>⟨ix i h.1,iy i h.2⟩
 |n3 t x y z ix iy iz=>exact fun i h=>⟨ix i h.1,iy i h.2.1,iz i h.2.2⟩
 |en x y _ _=>exact fun i h=>h.elim
 |_=>exact fun i h=>h
theorem LZ{n:Nat}{l x y r:C}(m:Cm l x y r)(pl:kb n l)(px:kb n x)(py:kb n y):kb n r:=by
 cases m with
 | @num i j=>by_cases z:i=j<;>simp[z,kb]
 |mm=>exact⟨⟨⟨pl,px.1⟩,py.1⟩,⟨⟨pl,px.2⟩,py.2⟩,trivial⟩
 |bb=>exact⟨⟨⟨pl.1,px.1⟩,py.1⟩,⟨⟨pl.2,px.2⟩,py.2⟩,trivial⟩
 |_=>trivial
theorem gO{n:Nat}:∀(c:C)(t:Kd),Ty [] c t->kb n c->Co.ended c=false->kb n (Co.au c)
 |.num _,_,_,k,_=>k
 |.yes,_,_,k,_=>k
 |.no,_,_,k,_=>k
 |.ah _,_,_,k,_=>k
 |.like _,_,_,k,_=>k
 |.fn _ _,_,_,k,_=>k
 |.en _ _,_,_,k,_=>k
 |.var _,_,_,k,_=>k
 |.n1 tg a,t,h,k,e=>by
  simp only[Co.au];have sub:∀t',Ty [] a t'->Co.ended a=false->kb n (Co.au a):=fun t' h1 ea=>gO a t' h1 k ea;cases ea:Co.ended a with
  |true=>
   cases h with
   |left h1=>obtain⟨x1,x2,rfl,_⟩:=cP h1 ea;exact k.1
   |right h1=>obtain⟨x1,x2,rfl,_⟩:=cP h1 ea;exact k.2
   |bA h1=>simp[Co.ended,ea] at e
  |false=>
   cases h with
   |left h1=>exact sub _ h1 ea
   |right h1=>exact sub _ h1 ea
   |bA h1=>exact sub _ h1 ea
 |.n2 tg a b,t,h,k,e=>by
  simp only[Co.au];have key:∀t1 t2,Ty [] a t1->Ty [] b t2->(Co.ended a=true->Co.ended b=true->kb n (gE tg a b))->kb n (if Co.ended a=true then (if Co.ended b=true then gE tg a b else .n2 tg a (Co.au b)) else .n2 tg (Co.au a) b):=fun t1 t2 h1 h2 r=>by
   cases ea:Co.ended a with
   |true=>
    cases eb:Co.ended b with
    |true=>exact r ea eb
    |false=>exact⟨k.1,gO b t2 h2 k.2 eb⟩
   |false=>exact⟨gO a t1 h1 k.1 ea,k.2⟩
  cases h with
  |both h1 h2=>exact key _ _ h1 h2 fun _ _=>k
  |more h1 h2=>exact key _ _ h1 h2 fun _ _=>k
  |bx h1 h2=>exact key _ _ h1 h2 fun _ _=>k
  |sum h1 h2=>
   refine key _ _ h1 h2 fun x y=>?_;obtain⟨i,rfl⟩:=bQ h1 x;obtain⟨j,rfl⟩:=bQ h2 y;trivial
  |less h1 h2=>
   refine key _ _ h1 h2 fun x y=>?_;obtain⟨i,rfl⟩:=bQ h1 x;obtain⟨j,rfl⟩:=bQ h2 y;simp only[gE];by_cases z:i<j
   .rw[if_pos z];trivial
   .rw[if_neg z];trivial
  |call h1 h2=>
   refine key _ _ h1 h2 fun x y=>?_;rcases l5 h1 x with ⟨bo,rfl,hb⟩|⟨il,_⟩|⟨l,v,rfl,il,el,ev,tl,tv,rfl⟩
   .exact Ft k.2 bo 0 k.1.2
   .rw[lg,x,y,show eC (.n2 .call a b)=bL a from rfl,il] at e;cases e
   .exact LZ (Ah tl il tv ev h2 y) k.1.1 k.1.2 k.2
 |.n3 .fold a b c,t,h,k,e=>by
  simp only[Co.au];cases h with
  |fold h1 h2 h3=>
   cases ea:Co.ended a with
   |true=>
    cases eb:Co.ended b with
    |true=>
     cases ec:Co.ended c with
     |true=>
      rcases gL h1 ea with rfl|⟨x1,x2,rfl,e1,e2,t1,t2⟩
      .exact k.2.1
      .exact⟨⟨k.2.2,k.1.1⟩,k.1.2,k.2.1,k.2.2⟩
     |false=>exact⟨k.1,k.2.1,gO c _ h3 k.2.2 ec⟩
    |false=>exact⟨k.1,gO b _ h2 k.2.1 eb,k.2.2⟩
   |false=>exact⟨gO a _ h1 k.1 ea,k.2⟩
 |.n3 .bh a b c,t,h,k,e=>by
  simp only[Co.au];cases h with
  |bh h1 h2 h3=>
   cases ea:Co.ended a with
   |true=>
    rcases jE h1 ea with rfl|rfl
    .exact k.2.1
    .exact k.2.2
   |false=>exact⟨gO a _ h1 k.1 ea,k.2⟩
theorem uT:∀ys:List C,b8 (ys.map Co.ae)=true
 |[]=>rfl
 |y::r=>by simp[b8,xh y,uT r]
theorem vU{n m:Nat}:∀ys:List C,(∀y∈ys,kb n y/\y.depth+n+2<=m)->br (ys.map Co.ae)<=m
 |[],_=>by simp[br]
 |y::r,h=>by
  have h1:=h y n8;have h2:=yg y h1.1;have h3:=vU r fun z hz=>h z (iY _ hz);simp only[gz,br];lia
theorem vw{n:Nat}{h:Hp}{ys:List C}{Q:Wq}(hy:∀y∈ys,kb n y/\y.depth+n+2<=899)(q:Q (.bl ys.isEmpty) (h++[.lst (ys.map Co.ae)]++[.lst []])):wC .eq (.ref h.length) (.ref (h++[O.lst (ys.map Co.ae)]).length) (h++[.lst (ys.map Co.ae)]++[.lst []]) Q:=by refine wC.of _ ?_ q;show dA _ _ _=_;rw[oZ (bp h _) (uT ys) (vU ys hy)];cases ys<;>rfl
theorem AK(n:Nat):∀(c:C)(k:Nat)(h:Hp)(Q:Wq)(X:Xq),kb n c->c.depth+n+2<=899->(∀h',aj h h'->Q (.bl (Co.ended c)) h')->Po (run T (k+c.depth+1) cD [Co.ae c] h) Q X:=by
 have leaf:∀(c:C)(k:Nat)(h:Hp)(Q:Wq)(X:Xq),(∀h',aj h h'->Q (.bl (Co.ended c)) h')->run T (k+c.depth+1) cD [Co.ae c] h=.ok (.bl (Co.ended c)) h->Po (run T (k+c.depth+1) cD [Co.ae c] h) Q X:=fun c k h Q X q e=>Po.ok e (q h (aj.refl _));have two:∀(t:T2)(a b:C),t=.both\/t=.more\/t=.bx->(∀(k:Nat)(h:Hp)(Q:Wq)(X:Xq),kb n a->a.depth+n+2<=899->(∀h',aj h h'->Q (.bl (Co.ended a)) h')->Po (run T (k+a.depth+1) cD [Co.ae a] h) Q X)->(∀(k:Nat)(h:Hp)(Q:Wq)(X:Xq),kb n b->b.depth+n+2<=899->(∀h',aj h h'->Q (.bl (Co.ended b)) h')->Po (run T (k+b.depth+1) cD [Co.ae b] h) Q X)->
   ∀(k:Nat)(h:Hp)(Q:Wq)(X:Xq),kb n (.n2 t a b)->(Co.n2 t a b).depth+n+2<=899->(∀h',aj h h'->Q (.bl (Co.ended (.n2 t a b))) h')->Po (run T (k+(Co.n2 t a b).depth+1) cD [Co.ae (.n2 t a b)] h) Q X:=by
  intro t a b ht ia ib k h Q X kc d q;simp only[Co.depth] at d;have ec:Co.ended (.n2 t a b)=(Co.ended a&&Co.ended b):=by rcases ht with rfl|rfl|rfl<;>rfl
  rw[ec] at q;rw[show k+(Co.n2 t a b).depth+1=(k+(max a.depth b.depth))+1+1 by simp only[Co.depth];lia];refine wp_run mL rfl ?_;refine wC.of false (by rcases ht with rfl|rfl|rfl<;>kernel_rfl) ?_;refine wC.of true (by rcases ht with rfl|rfl|rfl<;>kernel_rfl) ?_;refine iD (xs:=[Co.ae a,Co.ae b]) (h1:=h) (by kernel_rfl) ?_;have ra:=ia (k+max a.depth b.depth-a.depth);have rb:=ib (k+max a.depth b.depth-b.depth);rw[show k+max a.depth b.depth-a.depth+a.depth+1=k+max a.depth b.depth+1 by lia] at ra;rw[show k+max a.depth b.depth-b.depth+b.depth+1=k+max a.depth b.depth+1 by lia] at rb;refine ra h _ _ kc.1 (by lia) fun h1 g1=>?_;have fin:∀(ys:List C)(H:Hp),(∀y∈ys,y=a\/y=b)->aj h H->ys.isEmpty=(Co.ended a&&Co.ended b)->ys.length<=2->(ys.map Co.ae).length<=SZ/\wC .eq (.ref H.length) (.ref (H++[O.lst (ys.map Co.ae)]).length) (H++[.lst (ys.map Co.ae)]++[.lst []]) Q:=by
   intro ys H hy g e l;refine⟨by simp[SZ];lia,vw (n:=n) (fun y hh=>?_) ?_⟩
   .rcases hy y hh with rfl|rfl
    .exact⟨kc.1,by lia⟩
    .exact⟨kc.2,by lia⟩
   .rw[e];exact q _ ((g.trans (aj.app _ _)).trans (aj.app _ _))
  cases ea:Co.ended a with
  |true=>
   refine rb h1 _ _ kc.2 (by lia) fun h2 g2=>?_;cases eb:Co.ended b with
   |true=>exact fin [] h2 (fun y hy=>by cases hy) (g1.trans g2) (by rw[ea,eb];rfl) (by simp)
   |false=>exact fin [b] h2 (fun y hy=>by simp at hy;exact .inr hy) (g1.trans g2) (by rw[ea,eb];rfl) (by simp)
  |false=>
   refine rb h1 _ _ kc.2 (by lia) fun h2 g2=>?_;cases eb:Co.ended b with
   |true=>exact fin [a] h2 (fun y hy=>by simp at hy;exact .inl hy) (g1.trans g2) (by rw[ea,eb];rfl) (by simp)
   |false=>exact fin [a,b] h2 (fun y hy=>by simpa using hy) (g1.trans g2) (by rw[ea,eb];rfl) (by simp)
 intro c
 induction c with
 |num i=>exact fun k h Q X _ _ q=>leaf _ k h Q X q (by kernel_rfl)
 |yes=>exact fun k h Q X _ _ q=>leaf _ k h Q X q (by kernel_rfl)
 |no=>exact fun k h Q X _ _ q=>leaf _ k h Q X q (by kernel_rfl)
 |var i=>exact fun k h Q X _ _ q=>leaf _ k h Q X q (by kernel_rfl)
 |ah i=>exact fun k h Q X _ _ q=>leaf _ k h Q X q (by kernel_rfl)
 |like i=>exact fun k h Q X _ _ q=>leaf _ k h Q X q (by kernel_rfl)
 |fn i x _=>exact fun k h Q X _ _ q=>leaf _ k h Q X q (by kernel_rfl)
 |en x y _ _=>exact fun k h Q X z=>z.elim
 |n3 t x y z _ _ _=>cases t<;>exact fun k h Q X _ _ q=>leaf _ k h Q X q (by kernel_rfl)
 |n1 t a ia=>
  cases t with
  |left=>exact fun k h Q X _ _ q=>leaf _ k h Q X q (by kernel_rfl)
  |right=>exact fun k h Q X _ _ q=>leaf _ k h Q X q (by kernel_rfl)
  |bA=>
   intro k h Q X kc d q;simp only[Co.depth] at d;rw[show k+(Co.n1 T1.bA a).depth+1=(k+a.depth+1)+1 by simp only[Co.depth];lia];refine wp_run mL rfl ?_;refine wC.of false (by kernel_rfl) ?_;refine wC.of true (by kernel_rfl) ?_;refine iD (xs:=[Co.ae a]) (h1:=h) (by kernel_rfl) ?_;refine ia k h _ _ kc (by lia) fun h1 g1=>?_;have q:∀h',aj h h'->Q (.bl (Co.ended a)) h':=q;cases ea:Co.ended a with
   |true=>exact⟨by simp,vw (n:=n) (ys:=[]) (fun y hh=>by cases hh) (by rw[ea] at q;exact q _ ((g1.trans (aj.app _ _)).trans (aj.app _ _)))⟩
   |false=>exact⟨by simp[SZ],vw (n:=n) (ys:=[a]) (fun y hh=>by simp at hh;subst hh;exact⟨kc,by lia⟩) (by rw[ea] at q;exact q _ ((g1.trans (aj.app _ _)).trans (aj.app _ _)))⟩
 |n2 t a b ia ib=>
  cases t with
  |sum=>exact fun k h Q X _ _ q=>leaf _ k h Q X q (by kernel_rfl)
  |less=>exact fun k h Q X _ _ q=>leaf _ k h Q X q (by kernel_rfl)
  |both=>exact two _ a b (.inl rfl) ia ib
  |more=>exact two _ a b (.inr (.inl rfl)) ia ib
  |bx=>exact two _ a b (.inr (.inr rfl)) ia ib
  |call=>
   intro k h Q X kc d q;simp only[Co.depth] at d;rw[show k+(Co.n2 T2.call a b).depth+1=(k+(max a.depth b.depth))+1+1 by simp only[Co.depth];lia];have ra:=ia (k+max a.depth b.depth-a.depth);have rb:=ib (k+max a.depth b.depth-b.depth);rw[show k+max a.depth b.depth-a.depth+a.depth+1=k+max a.depth b.depth+1 by lia] at ra;rw[show k+max a.depth b.depth-b.depth+b.depth+1=k+max a.depth b.depth+1 by lia] at rb;refine wp_run mL rfl ?_;refine wC.of false (by kernel_rfl) ?_;refine wC.of false (by kernel_rfl) ?_;refine wC.eqs ?_;refine Po.ok (pD a h) ?_;have pa:=xI (kb.pl a kc.1);refine wC.of (bL a) ?_ ?_
   .unfold bL;rw[pa];rcases a with _|_|_|_|_|_|_|⟨_|_|_,_⟩|⟨_|_|_|_|_|_,_,_⟩|⟨_|_,_,_,_⟩|_<;>kernel_rfl
   have ec:Co.ended (.n2 .call a b)=(bL a&&(Co.ended a&&Co.ended b)):=by simp only[Co.ended,Bool.and_assoc]
   rw[ec] at q;cases il:bL a with
   |false=>rw[il] at q;exact q h (aj.refl _)
   |true=>
    rw[il] at q;refine ra h _ _ kc.1 (by lia) fun h1 g1=>?_;cases ea:Co.ended a with
    |false=>rw[ea] at q;exact q h1 g1
    |true=>
     rw[ea] at q;exact rb h1 _ _ kc.2 (by lia) fun h2 g2=>q h2 (g1.trans g2)
theorem L5(v:C):∀(c:C)(k i:Nat)(h:Hp)(Q:Wq)(X:Xq),Pl c->(∀h',aj h h'->Q (Co.ae (Co.into v i c)) h')->Po (run T (k+c.depth+1) gG [Co.ae c,.int (i:Int),Co.ae v] h) Q X:=by
 have leaf:∀(c:C)(k i:Nat)(h:Hp)(Q:Wq)(X:Xq),(∀h',aj h h'->Q (Co.ae (Co.into v i c)) h')->run T (k+c.depth+1) gG [Co.ae c,.int (i:Int),Co.ae v] h=.ok (Co.ae (Co.into v i c)) h->Po (run T (k+c.depth+1) gG [Co.ae c,.int (i:Int),Co.ae v] h) Q X:=fun c k i h Q X q e=>Po.ok e (q h (aj.refl _));intro c
 induction c with
 |num j=>exact fun k i h Q X _ q=>leaf _ k i h Q X q (by kernel_rfl)
 |yes=>exact fun k i h Q X _ q=>leaf _ k i h Q X q (by kernel_rfl)
 |no=>exact fun k i h Q X _ q=>leaf _ k i h Q X q (by kernel_rfl)
 |ah j=>exact fun k i h Q X _ q=>leaf _ k i h Q X q (by kernel_rfl)
 |like j=>exact fun k i h Q X _ q=>leaf _ k i h Q X q (by kernel_rfl)
 |en x y _ _=>exact fun k i h Q X z=>z.elim
 |var j=>
  intro k i h Q X _ q;refine wp_run jT rfl ?_;refine wC.eqs ?_;refine wC.of (decide ((j:Int)=i)) (by simp) ?_;have q:=q h (aj.refl _);simp only[Co.into] at q;by_cases z:j=i
  .rw[if_pos z] at q;rw[bU (by lia)];exact q
  .rw[if_neg z] at q;rw[aY (by lia)];exact q
 |fn kd x ix=>
  intro k i h Q X pc q;refine wp_run (k:=k+x.depth+1) jT rfl ?_;refine wC.eqs ?_;refine wC.eqs ?_;exact ix k (i+1) h _ _ pc q
 |n1 t a ia=>
  intro k i h Q X pc q;refine wp_run (k:=k+a.depth+1) jT rfl ?_;refine wC.of false (by cases t<;>kernel_rfl) ?_;refine wC.of false (by cases t<;>kernel_rfl) ?_;refine wC.of false (by cases t<;>kernel_rfl) ?_;refine rQ (xs:=[Co.ae a]) (h1:=h) (by kernel_rfl) ?_;refine ia k i h _ _ pc fun h1 g1=>?_;refine⟨by simp[SZ],?_⟩;refine Po.ok (a:=.tup [Co.ae (Co.into v i a)]) (h:=h1++[O.lst [Co.ae (Co.into v i a)]]) (by simp) ?_;exact dW (by simp[SZ]) (q _ (g1.trans (aj.app _ _)))
 |n2 t a b ia ib=>
  intro k i h Q X pc q;rw[show k+(Co.n2 t a b).depth+1=(k+(max a.depth b.depth))+1+1 by simp only[Co.depth];lia];have ra:=ia (k+max a.depth b.depth-a.depth) i;have rb:=ib (k+max a.depth b.depth-b.depth) i;rw[show k+max a.depth b.depth-a.depth+a.depth+1=k+max a.depth b.depth+1 by lia] at ra;rw[show k+max a.depth b.depth-b.depth+b.depth+1=k+max a.depth b.depth+1 by lia] at rb;refine wp_run jT rfl ?_;refine wC.of false (by cases t<;>kernel_rfl) ?_;refine wC.of false (by cases t<;>kernel_rfl) ?_;refine wC.of false (by cases t<;>kernel_rfl) ?_;refine rQ (xs:=[Co.ae a,Co.ae b]) (h1:=h) (by kernel_rfl) ?_;refine ra h _ _ pc.1 fun h1 g1=>?_;refine rb h1 _ _ pc.2 fun h2 g2=>?_;refine⟨by simp[SZ],?_⟩;refine Po.ok (a:=.tup [Co.ae (Co.into v i a),Co.ae (Co.into v i b)]) (h:=h2++[O.lst [Co.ae (Co.into v i a),Co.ae (Co.into v i b)]]) (by simp) ?_;exact dW (by simp[SZ]) (q _ ((g1.trans g2).trans (aj.app _ _)))
 |n3 t a b c ia ib ic=>
  intro k i h Q X pc q;generalize hm:max a.depth (max b.depth c.depth)=m;rw[show k+(Co.n3 t a b c).depth+1=(k+m)+1+1 by simp only[Co.depth];lia];have ra:=ia (k+m-a.depth) i;have rb:=ib (k+m-b.depth) i;have rc:=ic (k+m-c.depth) i;rw[show k+m-a.depth+a.depth+1=k+m+1 by lia] at ra;rw[show k+m-b.depth+b.depth+1=k+m+1 by lia] at rb;rw[show k+m-c.depth+c.depth+1=k+m+1 by lia] at rc;refine wp_run jT rfl ?_;refine wC.of false (by cases t<;>kernel_rfl) ?_;refine wC.of false (by cases t<;>kernel_rfl) ?_;refine wC.of false (by cases t<;>kernel_rfl) ?_;refine rQ (xs:=[Co.ae a,Co.ae b,Co.ae c]) (h1:=h) (by kernel_rfl) ?_;refine ra h _ _ pc.1 fun h1 g1=>?_;refine rb h1 _ _ pc.2.1 fun h2 g2=>?_;refine rc h2 _ _ pc.2.2 fun h3 g3=>?_;refine⟨by simp[SZ],?_⟩;refine Po.ok (a:=.tup [Co.ae (Co.into v i a),Co.ae (Co.into v i b),Co.ae (Co.into v i c)]) (h:=h3++[O.lst [Co.ae (Co.into v i a),Co.ae (Co.into v i b),Co.ae (Co.into v i c)]]) (by simp) ?_;exact dW (by simp[SZ]) (q _ (((g1.trans g2).trans g3).trans (aj.app _ _)))
theorem Ed(h:Hp)(u v:W)(b:Bool):idx (.ref h.length) (.int (if b=true then 1 else 0)) (h++[.lst [u,v]])=.ok (if b then v else u) (h++[.lst [u,v]]):=by cases b<;>simp
theorem AQ{k:Nat}{h:Hp}{l x y r:C}{Q:Wq}{X:Xq}(m:Cm l x y r)(q:∀h',aj h h'->Q (Co.ae r) h'):Po (run T (k+1) j3 [Co.ae l,Co.ae x,Co.ae y] h) Q X:=by
 have fin:∀(b:Bool),(if b then Co.ae .yes else Co.ae .no)=Co.ae r->Po (idx (.ref h.length) (.int (if b=true then 1 else 0)) (h++[.lst [.tup [.str [110,111]],.tup [.str [121,101,115]]]])) Q X:=by intro b e;refine Po.ok (Ed h _ _ b) ?_;have:=q _ (aj.app h [.lst [.tup [.str [110,111]],.tup [.str [121,101,115]]]]);rw[<-e] at this;exact this
 cases m with
 | @num i j=>
  refine wp_run cL rfl ?_;refine wC.eqs ?_;refine wC.of (decide (i=j)) ?_ ?_
  .simp[dA,cJ,Co.ae]
  .exact fin (decide (i=j)) (by by_cases z:i=j<;>simp[z])
 |yy=>
  refine wp_run cL rfl ?_;refine wC.eqs ?_;refine wC.of true (by kernel_rfl) ?_;exact fin true rfl
 |nn=>
  refine wp_run cL rfl ?_;refine wC.eqs ?_;refine wC.of true (by kernel_rfl) ?_;exact fin true rfl
 |yn=>
  refine wp_run cL rfl ?_;refine wC.eqs ?_;refine wC.of false (by kernel_rfl) ?_;exact fin false rfl
 |ny=>
  refine wp_run cL rfl ?_;refine wC.eqs ?_;refine wC.of false (by kernel_rfl) ?_;exact fin false rfl
 |ee=>
  refine wp_run cL rfl ?_;refine wC.eqs ?_;refine wC.eqs ?_;refine wC.eqs ?_;refine wC.eqs ?_;exact fin true rfl
 |em=>
  refine wp_run cL rfl ?_;refine wC.eqs ?_;refine wC.eqs ?_;refine wC.eqs ?_;refine wC.eqs ?_;exact fin false rfl
 |me=>
  refine wp_run cL rfl ?_;refine wC.eqs ?_;refine wC.eqs ?_;refine wC.eqs ?_;refine wC.eqs ?_;refine wC.eqs ?_;exact fin false rfl
 |mm=>exact Po.ok (h:=h) (by kernel_rfl) (q h (aj.refl _))
 |bb=>exact Po.ok (h:=h) (by kernel_rfl) (q h (aj.refl _))
theorem Rk{c:C}{j:Nat}(v:Vp c j):∃A B:List W,(∀(Φ:Or)(h:Hp)(t1 t3:Option W),af Φ (.sl (.var 0) .none (.some (.var 2))) [some (Co.ae c),t1,some (.int (j:Int)),t3] h=.ok (.tup A) h)/\(∀(Φ:Or)(h:Hp)(t1 t3:Option W),af Φ (.sl (.var 0) (.some (.bin .add (.var 2) (.cst (.int 1)))) .none) [some (Co.ae c),t1,some (.int (j:Int)),t3] h=.ok (.tup B) h)/\(∀p,Co.ae (cw c j p)=.tup (A++[Co.ae p]++B))/\A.length+B.length<=3:=by
 cases v with
 | @n1 t a=>exact⟨[.str t.s],[],by intros;kernel_rfl,by intros;kernel_rfl,fun _=>rfl,by simp⟩
 | @vS t a b=>exact⟨[.str t.s],[Co.ae b],by intros;kernel_rfl,by intros;kernel_rfl,fun _=>rfl,by simp⟩
 | @vg t a b=>exact⟨[.str t.s,Co.ae a],[],by intros;kernel_rfl,by intros;kernel_rfl,fun _=>rfl,by simp⟩
 | @oa t a b c=>exact⟨[.str t.s],[Co.ae b,Co.ae c],by intros;kernel_rfl,by intros;kernel_rfl,fun _=>rfl,by simp⟩
 | @uV a b c=>exact⟨[.str T3.fold.s,Co.ae a],[Co.ae c],by intros;kernel_rfl,by intros;kernel_rfl,fun _=>rfl,by simp⟩
 | @vE a b c=>exact⟨[.str T3.fold.s,Co.ae a,Co.ae b],[],by intros;kernel_rfl,by intros;kernel_rfl,fun _=>rfl,by simp⟩
section
variable {n k:Nat}{h:Hp}{c:C}{N:Nq}{Q:Wq}{X:Xq}{t1 t3:Option W}
def LS(n:Nat)(c:C):Prop:=∀(k:Nat)(h:Hp)(Q:Wq)(X:Xq),(∀h',aj h h'->Q (Co.ae (Co.au c)) h')->Po (run T (k+c.depth+3) iM [Co.ae c] h) Q X
theorem iE{j:Nat}(v:Vp c j)(kc:kb n c)(d:c.depth+n+2<=899)(ls:Co.ended (bS c j)=false->LS n (bS c j))(kp:kb n (bS c j))(q1:Co.ended (bS c j)=true->∀h',aj h h'->N [some (Co.ae c),t1,some (.int (j:Int)),t3] h')(q2:Co.ended (bS c j)=false->∀h',aj h h'->Q (Co.ae (cw c j (Co.au (bS c j)))) h'):wSs (run T (k+c.depth+2)) kY [some (Co.ae c),t1,some (.int (j:Int)),t3] h N Q X:=by
 have dp:=v.deep;have re:=AK n (bS c j) (k+c.depth+1-(bS c j).depth) h;rw[show k+c.depth+1-(bS c j).depth+(bS c j).depth+1=k+c.depth+2 by lia] at re;refine Po.ok (Fe v h) ?_;refine re _ _ kp (by lia) fun h1 g1=>?_;cases e:Co.ended (bS c j) with
 |true=>exact q1 e h1 g1
 |false=>
  obtain⟨A,B,s1,s2,s3,s4⟩:=Rk v;refine Po.of (a:=.bl true) rfl ?_;refine Po.ok (s1 _ h1 t1 t3) ?_;refine Po.ok (Fe v h1) ?_;have rs:=ls e (k+c.depth-1-(bS c j).depth) h1;rw[show k+c.depth-1-(bS c j).depth+(bS c j).depth+3=k+c.depth+2 by lia] at rs;refine rs _ _ fun h2 g2=>?_;refine dW (by simp[SZ];lia) ?_;refine Po.ok (s2 _ h2 t1 t3) ?_;refine dW (by simp[SZ];lia) ?_;have:=q2 e h2 (g1.trans g2);rw[s3] at this;exact this
end
abbrev Tl(n:Nat)(c:C)(k:Nat)(w:W)(r:C):Prop:=∀(h:Hp)(Q:Wq)(X:Xq)(t1 t2:Option W),(∀h',aj h h'->Q w h')->w=Co.ae r->wSs (run T (k+c.depth+2)) (kK.body.drop 2) [some (Co.ae c),t1,t2,none] h (fun _ h=>Q .ah h) Q X
section
variable {n k:Nat}{a b c:C}
theorem IH(t:T1)(kc:kb n (.n1 t a))(d:(Co.n1 t a).depth+n+2<=899)(ls:Co.ended a=false->LS n a)(tl:Co.ended a=true->∀k,Tl n (.n1 t a) k (Co.ae (pT t a)) (pT t a)):LS n (.n1 t a):=by
 intro k h Q X q;refine wp_run iI rfl ?_;refine wC.of false (by cases t<;>kernel_rfl) ?_;refine iT (xs:=[.int 1]) (h1:=h) (by kernel_rfl) ?_;simp only[Co.au] at q;refine iE .n1 kc d ls kc (fun e h1 g1=>?_) fun e h1 g1=>?_
 .have e:Co.ended a=true:=e;rw[if_pos e] at q;exact tl e k h1 Q X _ _ (fun h2 g2=>q h2 (g1.trans g2)) rfl
 .have e:Co.ended a=false:=e;rw[if_neg (by simp[e])] at q;exact q h1 g1
theorem Rb(t:T2)(kc:kb n (.n2 t a b))(d:(Co.n2 t a b).depth+n+2<=899)(la:Co.ended a=false->LS n a)(lb:Co.ended b=false->LS n b)(tl:Co.ended a=true->Co.ended b=true->∀k,Tl n (.n2 t a b) k (Co.ae (gE t a b)) (gE t a b)):LS n (.n2 t a b):=by
 intro k h Q X q;refine wp_run iI rfl ?_;refine wC.of false (by cases t<;>kernel_rfl) ?_;refine iT (xs:=[.int 1,.int 2]) (h1:=h) (by kernel_rfl) ?_;simp only[Co.au] at q;refine iE .vS kc d la kc.1 (fun e h1 g1=>?_) fun e h1 g1=>?_
 .have e:Co.ended a=true:=e;rw[if_pos e] at q;refine iE .vg kc d lb kc.2 (fun f h2 g2=>?_) fun f h2 g2=>?_
  .have f:Co.ended b=true:=f;rw[if_pos f] at q;exact tl e f k h2 Q X _ _ (fun h3 g3=>q h3 ((g1.trans g2).trans g3)) rfl
  .have f:Co.ended b=false:=f;rw[if_neg (by simp[f])] at q;exact q h2 (g1.trans g2)
 .have e:Co.ended a=false:=e;rw[if_neg (by simp[e])] at q;exact q h1 g1
theorem Rt(kc:kb n (.n3 .fold a b c))(d:(Co.n3 .fold a b c).depth+n+2<=899)(la:Co.ended a=false->LS n a)(lb:Co.ended b=false->LS n b)(lc:Co.ended c=false->LS n c)(tl:Co.ended a=true->∀k,Tl n (.n3 .fold a b c) k (Co.ae (vG a b c)) (vG a b c)):LS n (.n3 .fold a b c):=by
 intro k h Q X q;refine wp_run iI rfl ?_;refine wC.eqs ?_;refine iT (xs:=[.int 1,.int 2,.int 3]) (h1:=h) (by kernel_rfl) ?_;simp only[Co.au] at q;refine iE .oa kc d la kc.1 (fun e h1 g1=>?_) fun e h1 g1=>?_
 .have e:Co.ended a=true:=e;rw[if_pos e] at q;refine iE .uV kc d lb kc.2.1 (fun f h2 g2=>?_) fun f h2 g2=>?_
  .have f:Co.ended b=true:=f;rw[if_pos f] at q;refine iE .vE kc d lc kc.2.2 (fun i h3 g3=>?_) fun i h3 g3=>?_
   .have i:Co.ended c=true:=i;rw[if_pos i] at q;exact tl e k h3 Q X _ _ (fun h4 g4=>q h4 (((g1.trans g2).trans g3).trans g4)) rfl
   .have i:Co.ended c=false:=i;rw[if_neg (by simp[i])] at q;exact q h3 ((g1.trans g2).trans g3)
  .have f:Co.ended b=false:=f;rw[if_neg (by simp[f])] at q;exact q h2 (g1.trans g2)
 .have e:Co.ended a=false:=e;rw[if_neg (by simp[e])] at q;exact q h1 g1
theorem Q8(kc:kb n (.n3 .bh a b c))(d:(Co.n3 .bh a b c).depth+n+2<=899)(la:Co.ended a=false->LS n a)(tl:Co.ended a=true->∀k,Tl n (.n3 .bh a b c) k (Co.ae (Co.au (.n3 .bh a b c))) (Co.au (.n3 .bh a b c))):LS n (.n3 .bh a b c):=by
 intro k h Q X q;refine wp_run iI rfl ?_;refine wC.eqs ?_;refine iT (xs:=[.int 1]) (h1:=h) (by kernel_rfl) ?_;refine iE .oa kc d la kc.1 (fun e h1 g1=>?_) fun e h1 g1=>?_
 .exact tl e k h1 Q X _ _ (fun h2 g2=>q h2 (g1.trans g2)) rfl
 .have e:Co.ended a=false:=e;simp only[Co.au,e,pM,dq] at q;exact q h1 g1
end
theorem dM(n:Nat):∀(c:C)(t:Kd),Ty [] c t->kb n c->c.depth+n+2<=899->Co.ended c=false->LS n c
 |.num _,_,_,_,_,e=>by simp[Co.ended] at e
 |.yes,_,_,_,_,e=>by simp[Co.ended] at e
 |.no,_,_,_,_,e=>by simp[Co.ended] at e
 |.ah _,_,_,_,_,e=>by simp[Co.ended] at e
 |.like _,_,_,_,_,e=>by simp[Co.ended] at e
 |.fn _ _,_,_,_,_,e=>by simp[Co.ended] at e
 |.en _ _,_,_,_,_,e=>by simp[Co.ended] at e
 |.var _,_,h,_,_,_=>by cases h with|var z=>simp at z
 |.n1 tg a,t,h,kc,d,e=>by
  have d':=d;simp only[Co.depth] at d';cases h with
  |left h1=>
   refine IH .left kc d (fun ea=>dM n a _ h1 kc (by lia) ea) fun ea k h Q X t1 t2 q w=>?_;obtain⟨x1,x2,rfl,e1,e2,ty1,ty2⟩:=cP h1 ea;have:=q h (aj.refl _);refine wC.eqs ?_;refine wC.eqs ?_;refine wC.of true (by kernel_rfl) ?_;refine wC.eqs ?_;exact this
  |right h1=>
   refine IH .right kc d (fun ea=>dM n a _ h1 kc (by lia) ea) fun ea k h Q X t1 t2 q w=>?_;obtain⟨x1,x2,rfl,e1,e2,ty1,ty2⟩:=cP h1 ea;have:=q h (aj.refl _);refine wC.eqs ?_;refine wC.eqs ?_;refine wC.of true (by kernel_rfl) ?_;refine wC.eqs ?_;exact this
  |bA h1=>
   refine IH .bA kc d (fun ea=>dM n a _ h1 kc (by lia) ea) fun ea=>?_;simp[Co.ended,ea] at e
 |.n2 tg a b,t,h,kc,d,e=>by
  have d':=d;simp only[Co.depth] at d';have no:∀{P:Prop},eC (.n2 tg a b)=true->Co.ended a=true->Co.ended b=true->P:=fun x y z=>by rw[lg,x,y,z] at e;cases e
  have key:∀t1 t2,Ty [] a t1->Ty [] b t2->(Co.ended a=true->Co.ended b=true->∀k,Tl n (.n2 tg a b) k (Co.ae (gE tg a b)) (gE tg a b))->LS n (.n2 tg a b):=fun t1 t2 h1 h2 tl=>Rb tg kc d (fun ea=>dM n a t1 h1 kc.1 (by lia) ea) (fun eb=>dM n b t2 h2 kc.2 (by lia) eb) tl;cases h with
  |both h1 h2=>exact key _ _ h1 h2 fun x y=>no rfl x y
  |more h1 h2=>exact key _ _ h1 h2 fun x y=>no rfl x y
  |bx h1 h2=>exact key _ _ h1 h2 fun x y=>no rfl x y
  |sum h1 h2=>
   refine key _ _ h1 h2 fun x y k h Q X t1 t2 q w=>?_;obtain⟨i,rfl⟩:=bQ h1 x;obtain⟨j,rfl⟩:=bQ h2 y;have:=q h (aj.refl _);refine wC.eqs ?_;refine wC.eqs ?_;refine wC.of false (by kernel_rfl) ?_;refine wC.eqs ?_;refine wC.eqs ?_;refine wC.eqs ?_;refine wC.eqs ?_;exact this
  |less h1 h2=>
   refine key _ _ h1 h2 fun x y k h Q X t1 t2 q w=>?_;obtain⟨i,rfl⟩:=bQ h1 x;obtain⟨j,rfl⟩:=bQ h2 y;have:=q (h++[.lst [.tup [.str [110,111]],.tup [.str [121,101,115]]]]) (aj.app _ _);refine wC.eqs ?_;refine wC.eqs ?_;refine wC.of false (by kernel_rfl) ?_;refine wC.eqs ?_;refine wC.eqs ?_;refine wC.eqs ?_;refine wC.eqs ?_;refine wC.of (decide (i<j)) rfl ?_;refine Po.ok (a:=.int (if decide (i<j)=true then 1 else 0)) (h:=h++[.lst [.tup [.str [110,111]],.tup [.str [121,101,115]]]]) rfl ?_;refine Po.ok (Ed h _ _ (decide (i<j))) ?_;simp only[gE] at this;by_cases z:i<j
   .rw[if_pos z] at this;rw[if_pos (bU z)];exact this
   .rw[if_neg z] at this;rw[if_neg (by simpa using z)];exact this
  |call h1 h2=>
   refine key _ _ h1 h2 fun x y k h Q X t1 t2 q w=>?_;rcases l5 h1 x with ⟨bo,rfl,hb⟩|⟨il,_⟩|⟨l,v,rfl,il,el,ev,tl,tv,rfl⟩
   .refine wC.eqs ?_;refine wC.eqs ?_;have:=L5 b bo (k+2+(max (bo.depth+1) b.depth-bo.depth)) 0 h Q X hb.pl q;rw[show k+2+(max (bo.depth+1) b.depth-bo.depth)+bo.depth+1=k+(Co.n2 .call (.fn _ bo) b:C).depth+2 by simp only[Co.depth];lia] at this;exact this
   .exact no il x y
   .refine wC.eqs ?_;refine wC.eqs ?_;refine wC.eqs ?_;exact AQ (k:=k+(Co.n2 .call (.n2 .call l v) b:C).depth+1) (Ah tl il tv ev h2 y) q
 |.n3 .fold a b c,t,h,kc,d,e=>by
  have d':=d;simp only[Co.depth] at d';cases h with
  |fold h1 h2 h3=>
   refine Rt kc d (fun ea=>dM n a _ h1 kc.1 (by lia) ea) (fun eb=>dM n b _ h2 kc.2.1 (by lia) eb) (fun ec=>dM n c _ h3 kc.2.2 (by lia) ec) fun ea k h Q X t1 t2 q w=>?_;have:=q h (aj.refl _);rcases gL h1 ea with rfl|⟨x1,x2,rfl,e1,e2,ty1,ty2⟩
   .refine wC.eqs ?_;refine wC.eqs ?_;refine wC.of false (by kernel_rfl) ?_;refine wC.eqs ?_;refine wC.eqs ?_;refine wC.eqs ?_;exact this
   .refine wC.eqs ?_;refine wC.eqs ?_;refine wC.of false (by kernel_rfl) ?_;refine wC.eqs ?_;refine wC.eqs ?_;refine wC.eqs ?_;refine wC.eqs ?_;exact this
 |.n3 .bh a b c,t,h,kc,d,e=>by
  have d':=d;simp only[Co.depth] at d';cases h with
  |bh h1 h2 h3=>
   refine Q8 kc d (fun ea=>dM n a _ h1 kc.1 (by lia) ea) fun ea k h Q X t1 t2 q w=>?_;have:=q h (aj.refl _);rcases jE h1 ea with rfl|rfl
   .refine wC.eqs ?_;refine wC.eqs ?_;refine wC.of false (by kernel_rfl) ?_;refine wC.eqs ?_;refine wC.of true (by kernel_rfl) ?_;exact this
   .refine wC.eqs ?_;refine wC.eqs ?_;refine wC.of false (by kernel_rfl) ?_;refine wC.eqs ?_;refine wC.of false (by kernel_rfl) ?_;exact this
section
variable {n P D:Nat}{t:Kd}{Q:Wq}{X:Xq}{N:Nq}{sh w2:W}
theorem Ef(hp:2<=P)(hD:D+n+2<=899):∀(xs:List W)(c:C)(h:Hp)(t3 t4 t5:Option W),Sk P c t->kb n c->c.depth+xs.length * (P-1)<=D->(∀h',aj h h'->Q (.bl true) h')->(∀σ h',aj h h'->N σ h')->wT (wSs (run T (D+12)) mC) (.var 3) xs [some sh,some (Co.ae c),some w2,t3,t4,t5] h N Q X
 |[],c,h,t3,t4,t5,sk,kc,d,q,z=>z _ h (aj.refl _)
 |x::xs,c,h,t3,t4,t5,sk,kc,d,q,z=>by
  have em:(x::xs).length * (P-1)=xs.length * (P-1)+(P-1):=by rw[fZ,Nat.add_mul,Nat.one_mul]
  rw[em] at d;have re:=AK n c (D+11-c.depth) h;rw[show D+11-c.depth+c.depth+1=D+12 by lia] at re;refine re _ _ kc (by lia) fun h1 g1=>?_;refine B2 (m:=D+9) c sk.1.gd (by lia) fun h2 g2=>?_;cases e:Co.ended c with
  |true=>
   refine qh (m:=D+2) sk.1 (by lia) (fun f=>by rw[e] at f;cases f) fun h3 g3=>?_;rw[e];refine wC.of false rfl ?_;exact q h3 ((g1.trans g2).trans g3)
  |false=>
   obtain⟨sk',d'⟩:=bE hp c t sk e;have rs:=dM n c t sk.1 kc (by lia) e (D+9-c.depth) h2;rw[show D+9-c.depth+c.depth+3=D+12 by lia] at rs;have k':=gO c t sk.1 kc e;refine rs _ _ fun h3 g3=>?_;refine qh (m:=D+2) sk.1 (by lia) (fun _=>by lia) fun h4 g4=>?_;rw[e];refine wC.of false (by simp only[cmp];rw[if_neg (by decide),yh h4 k' (by lia)];rfl) ?_;refine qh (m:=D+2) sk.1 (by lia) (fun _=>by lia) fun h5 g5=>?_;rw[e];refine wC.of false (by simp only[cmp];rw[if_neg (by decide),yh h5 k' (by lia)];rfl) ?_;have G:=(((g1.trans g2).trans g3).trans g4).trans g5;exact Ef hp hD xs (Co.au c) h5 _ _ _ sk' k' (by lia) (fun h' g=>q h' (G.trans g)) fun σ h' g=>z σ h' (G.trans g)
theorem nL{n:Nat}(hn:n<=1000):cy (n:Int)=true:=by unfold cy;rw[bU (by lia),bU (by lia)];rfl
theorem Bj{i:Int}{h:Hp}(e:cy i=true):(if cy i=true then R.ok (Src.fix (upTo 0 i.toNat)) h else .bad)=.ok (.fix (upTo 0 i.toNat)) h:=if_pos e
theorem BS{Φ:Or}{σ:Env}{h:Hp}{e:E}{i:Int}(r:cy i=true)(ee:af Φ e σ h=.ok (.int i) h):dN Φ (.ja e) σ h=.ok (.fix (upTo 0 i.toNat)) h:=by rw[qg,ee];exact Bj r
theorem wJ:∀(m:Nat)(i:Int),(upTo i m).length=m
 |0,_=>rfl
 |m+1,i=>by simp[upTo,wJ m]
theorem xC{most:Nat}{c:C}{h:Hp}(hm:most<=1000)(hp:2<=P)(hD:D+n+2<=899)(sk:Sk P c t)(kc:kb n c)(d:c.depth+most * (P-1)<=D)(q:∀h',aj h h'->Q (.bl true) h'):Po (run T (D+13) jr [sh,Co.ae c,.int (most:Int)] h) Q X:=by refine wp_run zZ rfl ?_;refine iT (BS (nL hm) rfl) ?_;exact Ef hp hD _ c h _ _ _ sk kc (by rw[wJ,Int.toNat_natCast];exact d) q fun σ h' g=>q h' g
end
theorem MD{f:Nat}{fn:Fn}(e:T[f]?=some fn)(k:Nat)(xs:List W)(h:Hp):run T (k+1) f xs h=dZ (run T k) fn xs h:=run_eq e k xs h
theorem mB(k p:Nat):KZ (run T (k+1)) aN p:=rR (nx:=aN) rfl k p
theorem nC:∀ns:List Int,b8 (ns.map W.int)=true
 |[]=>rfl
 |x::r=>by simp[b8,W.pure,nC r]
theorem m7:∀ns:List Int,br (ns.map W.int)=0
 |[]=>rfl
 |x::r=>by simp[br,W.deep,m7 r]
theorem Gy(k p:Nat)(h:Hp)(g:Gen p h):∃v h',run T (k+2) jo [.ref p] h=.ok (.int v) h'/\Ext p h h'/\Gen p h':=by
 obtain⟨v1,h1,r1,a1,b1,x1,g1⟩:=mB k p 14 h g (by decide);obtain⟨v2,h2,r2,a2,b2,x2,g2⟩:=mB k p 2000 h1 g1 (by decide);obtain⟨v3,h3,r3,a3,b3,x3,g3⟩:=mB k p 4 h2 g2 (by decide);have x123:=(x1.trans x2).trans x3;have g4:=g3.ext [O.lst [.int (v1-5),.int (v2-1000),.int v3]];have n4:=g3.gT;obtain⟨a,c,l,ns,e1',e2',e3⟩:=g3.ex;have nl:l≠h3.length:=fun z=>absurd (k9 e2') (by lia);have e1:=aQ [O.lst [.int (v1-5),.int (v2-1000),.int v3]] e1';have e2:=aQ [O.lst [.int (v1-5),.int (v2-1000),.int v3]] e2';have q:=oZ e2 (nC ns) (by rw[m7];lia);have f1:=aQ [O.lst []] e1;have f2:=aQ [O.lst []] e2;have g5:=g4.ext [O.lst []];have A5:=aQ [O.lst []] (bp h3 (O.lst [.int (v1-5),.int (v2-1000),.int v3]));have x5:Ext p h ((h3++[O.lst [.int (v1-5),.int (v2-1000),.int v3]])++[O.lst []]):=(x123.trans (Ext.app p _ _)).trans (Ext.app p _ _);rw[MD Ak];simp only[List.append_assoc,List.cons_append,List.nil_append] at q f1 f2 g5 A5 x5;simp only[kQ,fZ,List.length_nil] at q;cases ns with
 |nil=>
  obtain⟨v6,h6,r6,a6,b6,x6,g6⟩:=mB k p 3 _ g5 (by decide);have A6:=x6.keep _ _ A5 (aX n4);obtain⟨y,hy,ey⟩:=qD [W.int (v1-5),.int (v2-1000),.int v3] v6 a6 (by simpa using b6);obtain⟨z,rfl⟩:∃z,y=.int z:=by simp at hy;rcases hy with rfl|rfl|rfl<;>exact⟨_,rfl⟩
  refine⟨z,h6,?_,x5.trans x6,g6⟩;simp only[zJ,List.isEmpty_nil] at q;exact ui [some (.ref p),none] rfl rfl (lG (w:=.ref h3.length) (h':=h3++[O.lst [.int (v1-5),.int (v2-1000),.int v3]]) (by simp[r1,r2,r3]) (qJ (h':=h3++[O.lst [.int (v1-5),.int (v2-1000),.int v3],O.lst []]) (by simp[e1,q]) (gN (by simp[A5,r6,A6,ey]))))
 |cons n r=>
  obtain⟨w,hw,ew⟩:=xw ((n::r).map W.int) c (by simp);obtain⟨y,_,rfl⟩:=nQ.mp hw;have pos:(0:Int)<(r.length:Int)+1:=by lia
  have B:Gen p ((h3++[O.lst [.int (v1-5),.int (v2-1000),.int v3],O.lst []]).set h3.length (O.lst [.int (v1-5),.int (v2-1000),.int v3,.int (y % 100000000000000000000000000000000000000000000000000000000000-1000000000000000000000000000000)])):=by refine⟨a,c,l,n::r,bH (aX n4) f1,bH (aX nl) f2,e3⟩
  obtain⟨v6,h6,r6,a6,b6,x6,g6⟩:=mB k p 4 _ B (by decide);have A6:=x6.keep _ _ (iZ (o:=O.lst [.int (v1-5),.int (v2-1000),.int v3,.int (y % 100000000000000000000000000000000000000000000000000000000000-1000000000000000000000000000000)]) A5) (aX n4);obtain⟨u,hu,eu⟩:=qD [W.int (v1-5),.int (v2-1000),.int v3,.int (y % 100000000000000000000000000000000000000000000000000000000000-1000000000000000000000000000000)] v6 a6 (by simpa using b6);obtain⟨z,rfl⟩:∃z,u=.int z:=by simp at hu;rcases hu with rfl|rfl|rfl|rfl<;>exact⟨_,rfl⟩
  have xs:Ext p h3 ((h3++[O.lst [.int (v1-5),.int (v2-1000),.int v3],O.lst []]).set h3.length (O.lst [.int (v1-5),.int (v2-1000),.int v3,.int (y % 100000000000000000000000000000000000000000000000000000000000-1000000000000000000000000000000)])):=⟨by simp,fun q o e n=>bH (fun z=>absurd (k9 e) (by lia)) (aQ _ e)⟩;refine⟨z,h6,?_,(x123.trans xs).trans x6,g6⟩;simp only[gz,List.isEmpty_cons] at q f2 ew;simp only[fZ,iG] at ew;push_cast at ew;simp at r6 A6;exact ui [some (.ref p),none] rfl rfl (lG (w:=.ref h3.length) (h':=h3++[O.lst [.int (v1-5),.int (v2-1000),.int v3]]) (by simp[r1,r2,r3]) (Mc (h':=h3++[O.lst [.int (v1-5),.int (v2-1000),.int v3],O.lst []]) (σ':=[some (.ref p),some (.ref h3.length)]) (h3:=h3++[O.lst [.int (v1-5),.int (v2-1000),.int v3,.int (y % 100000000000000000000000000000000000000000000000000000000000-1000000000000000000000000000000)],O.lst []]) (by simp[e1,q]) (by simp[-binI,f1,f2,A5,pos,ew,SZ,binI.eq_def]) (gN (by simp[r6,A6,eu]))))
section
variable {p b k:Nat}{h:Hp}{Q:Wq}{X:Xq}
theorem oN(k:Nat)(g:Gen p h)(m:Int)(hm:0<m)(q:∀v h1,0<=v->v<m->Ext p h h1->Gen p h1->Q (.int v) h1):Po (run T (k+1) aN [.ref p,.int m] h) Q X:=by obtain⟨v,h1,e,a,b,x,g⟩:=mB k p m h g hm;exact Po.ok e (q v h1 a b x g)
theorem Ke(k:Nat)(g:Gen p h)(q:∀v h1,Ext p h h1->Gen p h1->Q (.int v) h1):Po (run T (k+2) jo [.ref p] h) Q X:=by obtain⟨v,h1,e,x,g⟩:=Gy k p h g;exact Po.ok e (q v h1 x g)
theorem Ab(n k:Nat)(g:Gen p h)(q:∀(kd:Kd) h1,kd.depth<=n->kd.over []->Ext p h h1->Gen p h1->Q kd.ae h1):Po (run T (k+n+2) fy [.ref p,.int n,.ref h.length] (h++[O.lst []])) Q X:=by obtain⟨kd,h1,i⟩:=xJ (T:=T) (nx:=aN) (self:=fy) (q:=h.length) (names:=[]) rfl rfl (aX g.gT) n k (h++[O.lst []]) (g.ext _) (by simp);rw[Nat.add_comm k n];exact Po.ok i.eq (q kd h1 i.deep i.over ((Ext.app p h [O.lst []]).trans i.ext) i.gen)
structure In(p b:Nat)(bd:List Kd)(h:Hp):Prop where
 look:h[b]?=some (.lst (bd.map Kd.ae))
 ne:b≠p
theorem In.to{bd:List Kd}{h h':Hp}(i:In p b bd h)(x:Ext p h h'):In p b bd h':=⟨x.keep _ _ i.look i.ne,i.ne⟩
end
noncomputable def eD:Kd->Bool
 |.row k=>eD k
 |.pair a b=>eD a&&eD b
 |.num=>true
 |.tru=>true
 |_=>false
theorem nR:∀k:Kd,eD k=true->iV k
 |.num,_=>trivial
 |.tru,_=>trivial
 |.row k,h=>nR k h
 |.pair a b,h=>by
  simp only[eD,ao] at h;exact⟨nR a h.1,nR b h.2⟩
 |.work _ _,h=>by simp[eD] at h
 |.any _,h=>by simp[eD] at h
 |.gap _,h=>by simp[eD] at h
theorem oA{n:Nat}{h:Hp}{ys:List Kd}{Q:Wq}(hn:n<=800)(hy:∀y∈ys,y.depth<=n)(q:Q (.bl ys.isEmpty) (h++[.lst (ys.map Kd.ae)]++[.lst []])):wC .eq (.ref h.length) (.ref (h++[O.lst (ys.map Kd.ae)]).length) (h++[.lst (ys.map Kd.ae)]++[.lst []]) Q:=by refine wC.of _ ?_ q;show dA _ _ _=_;rw[oZ (bp h _) (map_pure ys) (bG (uH n ys hy) (by lia))];cases ys<;>rfl
theorem yv:∀(kd:Kd)(k:Nat)(h:Hp)(Q:Wq)(X:Xq),kd.over []->kd.depth<=800->(∀h',aj h h'->Q (.bl (eD kd)) h')->Po (run T (k+kd.depth+1) fU [kd.ae] h) Q X:=by
 have leaf:∀(kd:Kd)(k:Nat)(h:Hp)(Q:Wq)(X:Xq),(dN (run T (k+kd.depth)) (.seq (.sl (.var 0) (.some (.cst (.int 1))) .none)) [some kd.ae] h=.ok (.fix []) h)->isIn (.str (match kd with | .num=>gM|_=>lB)) (.tup [.str [119,111,114,107],.str [97,110,121]]) h=some false->idx kd.ae (.int 0) h=.ok (.str (match kd with | .num=>gM|_=>lB)) h->(∀h',aj h h'->Q (.bl true) h')->Po (run T (k+kd.depth+1) fU [kd.ae] h) Q X:=by intro kd k h Q X e1 e2 e3 q;refine wp_run jx rfl ?_;refine Po.ok e3 ?_;refine wC.of false e2 ?_;refine iD e1 ?_;exact⟨by simp,oA (ys:=[]) (n:=0) (by lia) (fun y hy=>by cases hy) (q _ ((aj.app _ _).trans (aj.app _ _)))⟩
 intro kd
 induction kd with
 |num=>exact fun k h Q X _ _ q=>leaf .num k h Q X (by kernel_rfl) (by kernel_rfl) (by kernel_rfl) q
 |tru=>exact fun k h Q X _ _ q=>leaf .tru k h Q X (by kernel_rfl) (by kernel_rfl) (by kernel_rfl) q
 |any x=>intro k h Q X o;simp[Kd.over] at o
 |gap x=>intro k h Q X o;simp[Kd.over] at o
 |work a b _ _=>
  intro k h Q X o d q;refine wp_run jx rfl ?_;refine wC.of true (by kernel_rfl) ?_;exact q h (aj.refl _)
 |row a ia=>
  intro k h Q X o d q;simp only[Kd.depth] at d;refine wp_run (k:=k+a.depth+1) jx rfl ?_;refine wC.of false (by kernel_rfl) ?_;refine iD (xs:=[a.ae]) (h1:=h) (by kernel_rfl) ?_;refine ia k h _ _ o (by lia) fun h1 g1=>?_;have q:∀h',aj h h'->Q (.bl (eD a)) h':=q;cases ea:eD a with
  |true=>exact⟨by simp,oA (ys:=[]) (n:=0) (by lia) (fun y hh=>by cases hh) (by rw[ea] at q;exact q _ ((g1.trans (aj.app _ _)).trans (aj.app _ _)))⟩
  |false=>exact⟨by simp[SZ],oA (ys:=[a]) (n:=800) (by lia) (fun y hh=>by simp at hh;subst hh;lia) (by rw[ea] at q;exact q _ ((g1.trans (aj.app _ _)).trans (aj.app _ _)))⟩
 |pair a b ia ib=>
  intro k h Q X o d q;simp only[Kd.depth] at d;have ra:=ia (k+max a.depth b.depth-a.depth);have rb:=ib (k+max a.depth b.depth-b.depth);rw[show k+max a.depth b.depth-a.depth+a.depth+1=k+max a.depth b.depth+1 by lia] at ra;rw[show k+max a.depth b.depth-b.depth+b.depth+1=k+max a.depth b.depth+1 by lia] at rb;refine wp_run (k:=k+max a.depth b.depth+1) jx rfl ?_;refine wC.of false (by kernel_rfl) ?_;refine iD (xs:=[a.ae,b.ae]) (h1:=h) (by kernel_rfl) ?_;refine ra h _ _ o.1 (by lia) fun h1 g1=>?_;have q:∀h',aj h h'->Q (.bl (eD a&&eD b)) h':=q;have fin:∀(ys:List Kd)(H:Hp),(∀y∈ys,y=a\/y=b)->aj h H->ys.isEmpty=(eD a&&eD b)->ys.length<=2->(ys.map Kd.ae).length<=SZ/\wC .eq (.ref H.length) (.ref (H++[O.lst (ys.map Kd.ae)]).length) (H++[.lst (ys.map Kd.ae)]++[.lst []]) Q:=by
   intro ys H hy g e l;refine⟨by simp[SZ];lia,oA (n:=800) (by lia) (fun y hh=>?_) ?_⟩
   .rcases hy y hh with rfl|rfl<;>lia
   .rw[e];exact q _ ((g.trans (aj.app _ _)).trans (aj.app _ _))
  cases ea:eD a with
  |true=>
   refine rb h1 _ _ o.2 (by lia) fun h2 g2=>?_;cases eb:eD b with
   |true=>exact fin [] h2 (fun y hy=>by cases hy) (g1.trans g2) (by rw[ea,eb];rfl) (by simp)
   |false=>exact fin [b] h2 (fun y hy=>by simp at hy;exact .inr hy) (g1.trans g2) (by rw[ea,eb];rfl) (by simp)
  |false=>
   refine rb h1 _ _ o.2 (by lia) fun h2 g2=>?_;cases eb:eD b with
   |true=>exact fin [a] h2 (fun y hy=>by simp at hy;exact .inl hy) (g1.trans g2) (by rw[ea,eb];rfl) (by simp)
   |false=>exact fin [a,b] h2 (fun y hy=>by simpa using hy) (g1.trans g2) (by rw[ea,eb];rfl) (by simp)
theorem iX(p:Nat):∀(kd:Kd)(k:Nat)(h:Hp),eD kd=true->run T (k+kd.depth+1) c9 [.ref p,kd.ae] h=.ok (Co.ae (fT kd)) h
 |.num,k,h,_=>by kernel_rfl
 |.tru,k,h,_=>by kernel_rfl
 |.row a,k,h,l=>by
  refine Po.eq (wp_run (k:=k+a.depth+1) nu rfl ?_);refine wC.eqs ?_;exact Po.ok (iX p a k h l) ⟨rfl,rfl⟩
 |.pair a b,k,h,l=>by
  simp only[eD,ao] at l;have ra:=iX p a (k+max a.depth b.depth-a.depth) h l.1;have rb:=iX p b (k+max a.depth b.depth-b.depth) h l.2;rw[show k+max a.depth b.depth-a.depth+a.depth+1=k+max a.depth b.depth+1 by lia] at ra;rw[show k+max a.depth b.depth-b.depth+b.depth+1=k+max a.depth b.depth+1 by lia] at rb;refine Po.eq (wp_run (k:=k+max a.depth b.depth+1) nu rfl ?_);refine wC.eqs ?_;refine wC.eqs ?_;refine Po.ok ra ?_;exact Po.ok rb ⟨rfl,rfl⟩
 |.work _ _,_,_,l=>by simp[eD] at l
 |.any _,_,_,l=>by simp[eD] at l
 |.gap _,_,_,l=>by simp[eD] at l
section
variable {p b k:Nat}{h:Hp}{Q:Wq}{X:Xq}{bd:List Kd}{kd:Kd}
abbrev Ni(bd:List Kd)(kd:Kd)(fs:List Nat):Prop:=∀x∈fs,bd.reverse[x]?=some kd
noncomputable abbrev sc(p b:Nat)(kd:Kd)(e v:Int)(g5 g6 g7 g8 g9:Option W):Env:=[some (.ref p),some (.ref b),some kd.ae,some (.int e),some (.int v),g5,g6,g7,g8,g9]
theorem rO{Φ:Or}{e0 v:Int}{g5 g6 g7 g8 g9:Option W}{Q:List W->Hp->Prop}(eb:h[b]?=some (.lst (bd.map Kd.ae)))(hk:kd.depth<=800)(hb:∀x∈bd,x.depth<=800):∀(n i:Nat)(acc:List Nat),i+n=bd.length->Ni bd kd acc->acc.length<=i->(∀fs,Ni bd kd fs->fs.length<=bd.length->Q (fs.map fun (j:Nat)=>W.int (j:Int)) h)->A2 Φ pK pC (sc p b kd e0 v g5 g6 g7 g8 g9) (upTo (i:Int) n) (acc.map fun (j:Nat)=>W.int (j:Int)) h Q
 |0,i,acc,e,f,l,q=>q acc f (by lia)
 |n+1,i,acc,e,f,l,q=>by
  have hj:bd.length-1-i<bd.length:=by lia
  have ix:idx (.ref b) (.int ((bd.length:Int)-1-i)) h=.ok (bd[bd.length-1-i]).ae h:=by have:=jF (bd.map Kd.ae) (bd.length-1-i) (by simpa using hj);rw[show (((bd.length-1-i:Nat)):Int)=(bd.length:Int)-1-i by lia] at this;simp only[idx,eb,this];simp
  refine eh eb ?_;rw[iG];refine Po.ok ix ?_;refine wC.of (decide (bd[bd.length-1-i]=kd)) (Kd.dA h _ kd (bG (hb _ (vH _)) (by lia)) (by lia)) ?_;by_cases z:bd[bd.length-1-i]=kd
  .rw[bU z];have:=rO (Φ:=Φ) (e0:=e0) (v:=v) (g5:=g5) (g6:=g6) (g7:=g7) (g8:=g8) (g9:=g9) (Q:=Q) eb hk hb n (i+1) (acc++[i]) (by lia) (fun x hx=>?_) (by simp;lia) q
   .rw[List.map_append] at this;exact this
   .rcases sm.mp hx with hx|hx
    .exact f x hx
    .rw[kJ.mp hx,List.getElem?_reverse (by lia),kH hj,z]
  .rw[aY z];exact rO (Φ:=Φ) (Q:=Q) eb hk hb n (i+1) acc (by lia) f (by lia) q
end
def Cr(k p b:Nat)(bd:List Kd)(d:Nat)(e:Int)(kd:Kd):Prop:=∀(h:Hp)(Q:Wq)(X:Xq),Gen p h->In p b bd h->(∀c h',Dr d bd.reverse kd c->Ext p h h'->Gen p h'->Q (Co.ae c) h')->Po (run T k aS [.ref p,.ref b,kd.ae,.int e] h) Q X
def Bs(k p b:Nat)(bd:List Kd)(d:Nat)(e:Int)(kd:Kd):Prop:=∀(h:Hp)(Q:Wq)(X:Xq),Gen p h->In p b bd h->(∀c h',Dr d bd.reverse kd c->Ext p h h'->Gen p h'->Q (Co.ae c) h')->Po (run T k jN [.ref p,.ref b,kd.ae,.int e] h) Q X
section
variable {p b k d:Nat}{bd:List Kd}{kd:Kd}{e:Int}{h:Hp}{Q:Wq}{X:Xq}
theorem DI{fs:List Nat}{h:Hp}{a:Nat}(e:h[a]?=some (.lst (fs.map fun (j:Nat)=>W.int (j:Int)))):dA (h++[O.lst []]) (.ref a) (.ref h.length)=some fs.isEmpty:=by
 have p:b8 (fs.map fun (j:Nat)=>W.int (j:Int))=true:=by have:=nC (fs.map fun (j:Nat)=>(j:Int));rwa [List.map_map] at this
 have d:br (fs.map fun (j:Nat)=>W.int (j:Int))=0:=by have:=m7 (fs.map fun (j:Nat)=>(j:Int));rwa [List.map_map] at this
 rw[oZ e p (by rw[d];lia)];cases fs<;>rfl
theorem yD(hk:kd.depth<=800)(hb:∀x∈bd,x.depth<=800)(hn:bd.length<=1000)(bs:Bs (k+3) p b bd d e kd)(cr:0<e->∃d',d=d'+1/\∀o:Kd,o.over []->o.depth<=1->Cr (k+3) p b bd d' (e-1) (.work o kd)/\Cr (k+3) p b bd d' (e-1) o/\Cr (k+3) p b bd d' (e-1) .tru/\Cr (k+3) p b bd d' (e-1) kd/\Cr (k+3) p b bd d' (e-1) (.row o)/\Cr (k+3) p b bd d' (e-1) (.work o (.work kd kd))/\Cr (k+3) p b bd d' (e-1) (.pair kd o)/\Cr (k+3) p b bd d' (e-1) (.pair o kd)):Cr (k+4) p b bd d e kd:=by
 intro h Q X g i q;refine wp_run Dx rfl ?_;refine oN (k+2) g 9 (by decide) fun v h1 v0 v9 x1 g1=>?_;have i1:=i.to x1;refine iD (xs:=upTo 0 bd.length) (h1:=h1) ?_ ?_
 .have l:af (run T (k+3)) (.blt .len (.var 1)) (sc p b kd e v none none none none none) h1=.ok (.int (bd.length:Int)) h1:=by simp[i1.look]
  have:=BS (nL hn) l;rw[Int.toNat_natCast] at this;exact this
 refine rO (p:=p) i1.look hk hb bd.length 0 [] (by lia) (fun x hx=>by cases hx) (by simp) fun fs ft fl=>?_;refine⟨by simp[SZ];lia,?_⟩;have x2:=x1.trans (Ext.app p h1 [O.lst (fs.map fun (j:Nat)=>W.int (j:Int))]);have g2:=g1.ext [O.lst (fs.map fun (j:Nat)=>W.int (j:Int))];have i2:=i.to x2;have lk:=bp h1 (O.lst (fs.map fun (j:Nat)=>W.int (j:Int)));have nq:h1.length≠p:=aX g1.gT;generalize hq:h1.length=qq at lk nq;generalize h1++[O.lst (fs.map fun (j:Nat)=>W.int (j:Int))]=h2 at x2 g2 i2 lk⊢;refine wC.of (!fs.isEmpty) (by show (dA (h2++[O.lst []]) (.ref qq) (.ref h2.length)).map _=_;rw[DI lk];rfl) ?_
 have x3:=x2.trans (Ext.app p h2 [O.lst []]);have g3:=g2.ext [O.lst []];have i3:=i.to x3;have lk3:=aQ [O.lst []] lk;generalize h2++[O.lst []]=h3 at x3 g3 i3 lk3⊢;have tail:wSs (run T (k+3)) (qi.body.drop 3) (sc p b kd e v (some (.ref qq)) none none none none) h3 (fun _ h=>Q .ah h) Q X:=by
  refine Ab 1 k g3 fun o h4 od oo x4 g4=>?_;have x4:=x3.trans x4;have i4:=i.to x4;have base:Po (run T (k+3) jN [.ref p,.ref b,kd.ae,.int e] h4) Q X:=bs h4 Q X g4 i4 fun c h' dr x g=>q c h' dr (x4.trans x) g;refine wC.of (decide (e<=0)) rfl ?_;by_cases c1:e<=0
  .rw[bU c1];exact base
  rw[aY c1];refine wC.of (decide (7<v)) rfl ?_;by_cases c2:7<v
  .rw[bU c2];exact base
  rw[aY c2];obtain⟨d',rfl,cr2⟩:=cr (by lia);obtain⟨r1,r2,r3,r4,r5,r6,r7,r8⟩:=cr2 o oo od;have wo:wt o<=2:=by have:=iS o;lia
  refine wC.of (decide (v=3)) (by simp) ?_;by_cases c3:v=3
  .rw[bU c3];refine r1 h4 _ _ g4 i4 fun a h5 da x5 g5=>?_;refine r2 h5 _ _ g5 (i4.to x5) fun c h6 dc x6 g6=>?_;exact q (.n2 .call a c) h6 (.call wo da dc) ((x4.trans x5).trans x6) g6
  rw[aY c3];refine wC.of (decide (v=4)) (by simp) ?_;by_cases c4:v=4
  .rw[bU c4];refine r3 h4 _ _ g4 i4 fun a h5 da x5 g5=>?_;refine r4 h5 _ _ g5 (i4.to x5) fun c h6 dc x6 g6=>?_;refine r4 h6 _ _ g6 ((i4.to x5).to x6) fun f h7 df x7 g7=>?_;exact q (.n3 .bh a c f) h7 (.bh da dc df) (((x4.trans x5).trans x6).trans x7) g7
  rw[aY c4];refine wC.of (decide (v=5)) (by simp) ?_;by_cases c5:v=5
  .rw[bU c5];refine r5 h4 _ _ g4 i4 fun a h5 da x5 g5=>?_;refine r4 h5 _ _ g5 (i4.to x5) fun c h6 dc x6 g6=>?_;refine r6 h6 _ _ g6 ((i4.to x5).to x6) fun f h7 df x7 g7=>?_;exact q (.n3 .fold a c f) h7 (.fold wo da dc df) (((x4.trans x5).trans x6).trans x7) g7
  rw[aY c5];refine wC.of (decide (v=6)) (by simp) ?_;by_cases c6:v=6
  .rw[bU c6];refine r7 h4 _ _ g4 i4 fun a h5 da x5 g5=>?_;exact q (.n1 .left a) h5 (.left wo da) (x4.trans x5) g5
  rw[aY c6];refine wC.of (decide (v=7)) (by simp) ?_;by_cases c7:v=7
  .rw[bU c7];refine r8 h4 _ _ g4 i4 fun a h5 da x5 g5=>?_;exact q (.n1 .right a) h5 (.right wo da) (x4.trans x5) g5
  rw[aY c7];exact base
 cases fs with
 |nil=>exact tail
 |cons f0 fr=>
  have hit:Po (run T (k+3) aN [.ref p,.int (((f0::fr).map fun (j:Nat)=>W.int (j:Int)).length:Int)] h3) (fun u h'=>Po (idx (.ref qq) u h') (fun w h'=>Q (.tup [.str [118,97,114],w]) h') X) X:=by refine oN (k+2) g3 _ (by simp) fun v5 h5 a5 b5 x5 g5=>?_;obtain⟨y,hy,ey⟩:=qD _ v5 a5 b5;obtain⟨n,hn,rfl⟩:=nQ.mp hy;refine Po.ok (a:=.int (n:Int)) (h:=h5) (by simp only[idx,x5.keep _ _ lk3 nq,ey];rfl) ?_;exact q (.var n) h5 (.var (ft n hn)) (x3.trans x5) g5
  refine wC.of (decide (v<3)) rfl ?_;by_cases c1:v<3
  .rw[bU c1];exact eh lk3 hit
  rw[aY c1];refine wC.of (decide (e<0)) rfl ?_;by_cases c2:e<0
  .rw[bU c2];exact eh lk3 hit
  rw[aY c2];exact tail
end
structure BH(k p b:Nat)(bd:List Kd)(d:Nat)(e:Int)(kd:Kd):Prop where
 dn:0<e->∃d',d=d'+1/\Cr (k+2) p b bd d' (e-1) .num
 dp:∀x:Kd,x.over []->x.depth+1<=kd.depth->Cr (k+2) p b bd (d-1) (e-1) x
 df:∀(x y:Kd)(b':Nat),x.over []->y.over []->x.depth+1<=kd.depth->y.depth+1<=kd.depth->Cr (k+2) p b' (bd++[x]) (d-1) (e-1) y
 ov:kd.over []
 hk:kd.depth<=k
 h8:kd.depth<=800
 hn:bd.length<=1000
section
variable {p b k d:Nat}{bd:List Kd}{kd x y:Kd}{e:Int}{h:Hp}{Q:Wq}{X:Xq}
theorem AZ{g4 g5 g6:Option W}{w2:W}(g:Gen p h)(q1:0<e->∀h',Ext p h h'->Gen p h'->Q (.bl true) h')(q2:∀h',Ext p h h'->Gen p h'->Q (.bl false) h'):wE (run T (k+2)) (.and (.cmp .gt (.var 3) (.cst (.int 0))) (.cmp .eq (.call aN (.cons (.var 0) (.cons (.cst (.int 2)) .nil))) (.cst (.int 0)))) [some (.ref p),some (.ref b),some w2,some (.int e),g4,g5,g6] h Q X:=by
 refine wC.of (decide (0<e)) rfl ?_;by_cases z:0<e
 .rw[bU z];refine oN (k+1) g 2 (by decide) fun v h1 _ _ x1 g1=>?_;refine wC.of (decide (v=0)) (by simp) ?_;by_cases y:v=0
  .rw[bU y];exact q1 z h1 x1 g1
  .rw[aY y];exact q2 h1 x1 g1
 .rw[aY z];exact q2 h (Ext.refl _ _) g
theorem CY(H:BH k p b bd d e .num):Bs (k+3) p b bd d e .num:=by
 intro h Q X g i q;refine wp_run j7 rfl ?_;refine wC.eqs ?_;refine AZ g (fun z h1 x1 g1=>?_) fun h1 x1 g1=>?_
 .obtain⟨d',rfl,r⟩:=H.dn z;refine r h1 _ _ g1 (i.to x1) fun a h2 da x2 g2=>?_;refine r h2 _ _ g2 ((i.to x1).to x2) fun c h3 dc x3 g3=>?_;exact q (.n2 .sum a c) h3 (.sum da dc) ((x1.trans x2).trans x3) g3
 .refine Ke k g1 fun v h2 x2 g2=>?_;exact q (.num v) h2 .num (x1.trans x2) g2
theorem C9(H:BH k p b bd d e .tru):Bs (k+3) p b bd d e .tru:=by
 intro h Q X g i q;refine wp_run j7 rfl ?_;refine wC.eqs ?_;refine wC.eqs ?_;refine AZ g (fun z h1 x1 g1=>?_) fun h1 x1 g1=>?_
 .obtain⟨d',rfl,r⟩:=H.dn z;refine r h1 _ _ g1 (i.to x1) fun a h2 da x2 g2=>?_;refine r h2 _ _ g2 ((i.to x1).to x2) fun c h3 dc x3 g3=>?_;exact q (.n2 .less a c) h3 (.less da dc) ((x1.trans x2).trans x3) g3
 .have ne:=g1.gT;refine oN (k+1) (g1.ext _) 2 (by decide) fun v h2 v0 v2 x2 g2=>?_;have lk:=x2.keep _ _ (bp h1 _) (aX ne);have X2:=x1.trans ((Ext.app p h1 _).trans x2);obtain rfl|rfl:v=0\/v=1:=by lia
  .exact Po.ok (a:=Co.ae .yes) (h:=h2) (by simp[lk,Co.ae]) (q .yes h2 .yes X2 g2)
  .exact Po.ok (a:=Co.ae .no) (h:=h2) (by simp[lk,Co.ae]) (q .no h2 .no X2 g2)
theorem Ca(H:BH k p b bd d e (.pair x y)):Bs (k+3) p b bd d e (.pair x y):=by intro h Q X g i q;refine wp_run j7 rfl ?_;refine wC.eqs ?_;refine wC.eqs ?_;refine wC.eqs ?_;refine H.dp x H.ov.1 (by simp only[Kd.depth];lia) h _ _ g i fun a h1 da x1 g1=>?_;refine H.dp y H.ov.2 (by simp only[Kd.depth];lia) h1 _ _ g1 (i.to x1) fun c h2 dc x2 g2=>?_;exact q (.n2 .both a c) h2 (.both da dc) (x1.trans x2) g2
theorem Dn(H:BH k p b bd d e (.row x)):Bs (k+3) p b bd d e (.row x):=by
 intro h Q X g i q;refine wp_run j7 rfl ?_;refine wC.eqs ?_;refine wC.eqs ?_;refine wC.eqs ?_;refine wC.eqs ?_;have r:=H.dp x H.ov (by simp only[Kd.depth];lia);obtain⟨v,h1,e1,v0,v3,x1,g1⟩:=mB (k+1) p 3 h g (by decide);have it:∀w5:W,dN (run T (k+2)) (.ja (.call aN (.cons (.var 0) (.cons (.cst (.int 3)) .nil)))) [some (.ref p),some (.ref b),some (Kd.row x).ae,some (.int e),none,some w5,none] h=.ok (.fix (upTo 0 v.toNat)) h1:=fun w5=>by
  have ee:af (run T (k+2)) (.call aN (.cons (.var 0) (.cons (.cst (.int 3)) .nil))) [some (.ref p),some (.ref b),some (Kd.row x).ae,some (.int e),none,some w5,none] h=.ok (.int v) h1:=e1;rw[qg,ee];have rv:cy v=true:=by
   have:=nL (n:=v.toNat) (by lia)
   rwa [show ((v.toNat:Nat):Int)=v by lia] at this
  exact Bj rv
 have i1:=i.to x1;refine iT (it _) ?_;obtain rfl|rfl|rfl:v=0\/v=1\/v=2:=by lia
 .exact q (.ah x) h1 .u0 x1 g1
 .refine r h1 _ _ g1 i1 fun a h2 da x2 g2=>?_;exact q (.n2 .more a (.ah x)) h2 (.wD da) (x1.trans x2) g2
 .refine r h1 _ _ g1 i1 fun a h2 da x2 g2=>?_;refine r h2 _ _ g2 (i1.to x2) fun c h3 dc x3 g3=>?_;exact q (.n2 .more c (.n2 .more a (.ah x))) h3 (.vY da dc) ((x1.trans x2).trans x3) g3
theorem Bu(H:BH k p b bd d e (.work x y)):Bs (k+3) p b bd d e (.work x y):=by
 intro h Q X g i q;refine wp_run j7 rfl ?_;refine wC.eqs ?_;refine wC.eqs ?_;refine wC.eqs ?_;refine wC.eqs ?_;have h8:=H.h8;have hk:=H.hk;simp only[Kd.depth] at h8 hk;have fn:∀h1,Ext p h h1->Gen p h1->wSs (run T (k+2)) (pS.body.drop 5) [some (.ref p),some (.ref b),some (Kd.work x y).ae,some (.int e),none,none,none] h1 (fun _ h=>Q .ah h) Q X:=by
  intro h1 x1 g1;have i1:=i.to x1;have lb:=aQ [O.lst [x.ae]] i1.look;refine Po.ok (a:=.ref (h1++[O.lst [x.ae]]).length) (h:=h1++[O.lst [x.ae]]++[O.lst ((bd++[x]).map Kd.ae)]) ?_ ?_
  .have n:=H.hn;simp only[bin,lb,bp];rw[if_pos ⟨trivial,by simp[SZ];lia⟩];simp[Tw.new]
  .have x2:=x1.trans ((Ext.app p h1 [O.lst [x.ae]]).trans (Ext.app p _ [O.lst ((bd++[x]).map Kd.ae)]));refine H.df x y _ H.ov.1 H.ov.2 (by simp only[Kd.depth];lia) (by simp only[Kd.depth];lia) _ _ _ ((g1.ext _).ext _) ⟨bp _ _,aX (g1.ext [O.lst [x.ae]]).gT⟩ fun c h3 dc x3 g3=>?_;exact q (.fn x c) h3 (.fn (by simpa using dc)) (x2.trans x3) g3
 refine wC.of (decide (y=.work x .tru)) (Kd.dA h y (.work x .tru) (by lia) (by simp only[Kd.depth];lia)) ?_;by_cases z:y=.work x .tru
 .rw[bU z];have rl:=yv x (k+1-x.depth) h;rw[show k+1-x.depth+x.depth+1=k+2 by lia] at rl;refine rl _ _ H.ov.1 (by lia) fun h1 w1=>?_;have x1:=w1.ext p;have g1:=w1.gen g;cases el:eD x with
  |false=>exact fn h1 x1 g1
  |true=>
   refine oN (k+1) g1 2 (by decide) fun v h2 _ _ x2 g2=>?_;refine wC.of (decide (v=0)) (by simp) ?_;by_cases c:v=0
   .rw[bU c];have lc:=iX p x (k+1-x.depth) h2 el;rw[show k+1-x.depth+x.depth+1=k+2 by lia] at lc;refine Po.ok lc ?_;subst z;exact q (fT x) h2 (.like (nR x el)) (x1.trans x2) g2
   .rw[aY c];exact fn h2 (x1.trans x2) g2
 .rw[aY z];exact fn h (Ext.refl _ _) g
theorem xR(H:BH k p b bd d e kd):Bs (k+3) p b bd d e kd:=by
 cases kd with
 |num=>exact CY H
 |tru=>exact C9 H
 |row x=>exact Dn H
 |pair x y=>exact Ca H
 |work x y=>exact Bu H
 |any x=>exact absurd H.ov (by simp[Kd.over])
 |gap x=>exact absurd H.ov (by simp[Kd.over])
end
def AM(k N E:Nat):Prop:=∀(p b:Nat)(bd:List Kd)(kd:Kd)(e:Int),(∀x∈bd,x.depth<=40)->bd.length+N+3 * E<=100->N+2 * E<=40->kd.over []->kd.depth<=N->e<=(E:Int)->Cr k p b bd e.toNat e kd
theorem vi{bd:List Kd}{k1:Kd}(hb:∀x∈bd,x.depth<=40)(h:k1.depth<=40):∀x∈bd++[k1],x.depth<=40:=fun x hx=>by
 rcases sm.mp hx with q|q
 .exact hb x q
 .rw[kJ.mp q];exact h
theorem Ec{e:Int}(h:0<e):e.toNat=(e-1).toNat+1:=by lia
theorem uM:∀N k,2 * N+8<=k->AM k N 0
 |N,k,hk=>by
  intro p b bd kd e hb hn hN ov hd he;obtain⟨j,rfl⟩:∃j,k=j+4:=⟨k-4,by lia⟩;have e0:e.toNat-1=(e-1).toNat:=by lia
  refine yD (by lia) (fun x hx=>bG (hb x hx) (by decide)) (by lia) (xR ⟨fun z=>by lia,fun x o dx=>?_,fun x y b' ox oy dx dy=>?_,ov,by lia,by lia,by lia⟩) (fun z=>by lia)
  .rw[e0];obtain⟨M,rfl⟩:∃M,N=M+1:=⟨N-1,by lia⟩;exact uM M (j+2) (by lia) p b bd x (e-1) hb (by lia) (by lia) o (by lia) (by lia)
  .rw[e0];obtain⟨M,rfl⟩:∃M,N=M+1:=⟨N-1,by lia⟩;exact uM M (j+2) (by lia) p b' (bd++[x]) y (e-1) (vi hb (by lia)) (by simp;lia) (by lia) oy (by lia) (by lia)
theorem u4:∀E N k,2 * N+6 * E+8<=k->AM k N E
 |0,N,k,hk=>uM N k (by lia)
 |E+1,N,k,hk=>by
  intro p b bd kd e hb hn hN ov hd he;obtain⟨j,rfl⟩:∃j,k=j+4:=⟨k-4,by lia⟩;have e0:e.toNat-1=(e-1).toNat:=by lia
  have R:∀(i M:Nat)(hi:2 * M+6 * E+8<=i)(b':Nat)(bd':List Kd)(x:Kd),(∀x∈bd',x.depth<=40)->bd'.length+M+3 * E<=100->M+2 * E<=40->x.over []->x.depth<=M->Cr i p b' bd' (e-1).toNat (e-1) x:=fun i M hi b' bd' x hb' hn' hM o dx=>u4 E M i hi p b' bd' x (e-1) hb' hn' hM o dx (by lia);refine yD (by lia) (fun x hx=>bG (hb x hx) (by decide)) (by lia) (xR ⟨fun z=>⟨_,Ec z,R (j+2) N (by lia) b bd .num hb (by lia) (by lia) trivial (bu _)⟩,fun x o dx=>?_,fun x y b' ox oy dx dy=>?_,ov,by lia,by lia,by lia⟩) (fun z=>⟨_,Ec z,fun o oo od=>?_⟩)
  .rw[e0];exact R (j+2) N (by lia) b bd x hb (by lia) (by lia) o (by lia)
  .rw[e0];exact R (j+2) N (by lia) b' (bd++[x]) y (vi hb (by lia)) (by simp;lia) (by lia) oy (by lia)
  .have S:∀x:Kd,x.over []->x.depth<=N+2->Cr (j+3) p b bd (e-1).toNat (e-1) x:=fun x ox dx=>R (j+3) (N+2) (by lia) b bd x hb (by lia) (by lia) ox dx;exact⟨S _ ⟨oo,ov⟩ (by simp only[Kd.depth];lia),S _ oo (by lia),S _ trivial (bu _),S _ ov (by lia),S _ oo (by simp only[Kd.depth];lia),S _ ⟨oo,ov,ov⟩ (by simp only[Kd.depth];lia),S _ ⟨ov,oo⟩ (by simp only[Kd.depth];lia),S _ ⟨oo,ov⟩ (by simp only[Kd.depth];lia)⟩
theorem ji:∀k:Kd,k.depth<=wt k
 |.num=>aA _
 |.tru=>aA _
 |.any _=>aA _
 |.gap _=>aA _
 |.row a=>by have:=ji a;simp only[wt,Kd.depth];lia
 |.pair a b=>by have:=ji a;have:=ji b;simp only[wt,Kd.depth];lia
 |.work a b=>by have:=ji a;have:=ji b;simp only[wt,Kd.depth];lia
theorem jS{n:Nat}:∀k:Kd,iV k->kb n (fT k)
 |.num,_=>bu _
 |.tru,_=>bu _
 |.row a,h=>jS a h
 |.pair a b,h=>⟨jS a h.1,jS b h.2⟩
theorem Dr.kb{n d:Nat}{Γ:List Kd}{K:Kd}{c:C}(h:Dr d Γ K c):max K.depth 3+2 * d<=n->K05.kb n c:=by
 induction h with
 |var e=>exact fun _=>trivial
 | @call d Γ K o a b ho _ _ i j=>intro h;have:=ji o;exact⟨i (by simp only[Kd.depth];lia),j (by lia)⟩
 | @bh d Γ K a b c _ _ _ i j k=>intro h;exact⟨i (by simp only[Kd.depth];lia),j (by lia),k (by lia)⟩
 | @fold d Γ K o a b c ho _ _ _ i j k=>intro h;have:=ji o;exact⟨i (by simp only[Kd.depth];lia),j (by lia),k (by simp only[Kd.depth];lia)⟩
 | @left d Γ K o a ho _ i=>intro h;have:=ji o;exact i (by simp only[Kd.depth];lia)
 | @right d Γ K o a ho _ i=>intro h;have:=ji o;exact i (by simp only[Kd.depth];lia)
 |sum _ _ i j=>intro h;exact⟨i (by lia),j (by lia)⟩
 |num=>exact fun _=>trivial
 |less _ _ i j=>intro h;simp only[Kd.depth] at h;exact⟨i (by simp only[Kd.depth];lia),j (by simp only[Kd.depth];lia)⟩
 |yes=>exact fun _=>trivial
 |no=>exact fun _=>trivial
 |both _ _ i j=>intro h;simp only[Kd.depth] at h;exact⟨i (by lia),j (by lia)⟩
 | @u0 d Γ x=>intro h;simp only[Kd.depth] at h;show x.depth<=n;lia
 | @wD d Γ x a _ i=>intro h;simp only[Kd.depth] at h;exact⟨i (by lia),show x.depth<=n by lia⟩
 | @vY d Γ x a b _ _ i j=>intro h;simp only[Kd.depth] at h;exact⟨j (by lia),i (by lia),show x.depth<=n by lia⟩
 | @like d Γ x hx=>exact fun _=>jS x hx
 | @fn d Γ x y c _ i=>intro h;simp only[Kd.depth] at h;exact⟨by lia,i (by lia)⟩
theorem Dr.plain{d:Nat}{Γ:List Kd}{K:Kd}{c:C}(h:Dr d Γ K c):d=0->iV K->∀P,c.nm P:=by
 induction h with
 |var e=>exact fun _ _ _=>trivial
 |num=>exact fun _ _ _=>trivial
 |yes=>exact fun _ _ _=>trivial
 |no=>exact fun _ _ _=>trivial
 |both _ _ i j=>exact fun z l P=>⟨i (by lia) l.1 P,j (by lia) l.2 P⟩
 |u0=>exact fun _ _ _=>trivial
 |wD _ i=>exact fun z l P=>⟨i (by lia) l P,trivial⟩
 |vY _ _ i j=>exact fun z l P=>⟨j (by lia) l P,i (by lia) l P,trivial⟩
 |like hx=>exact fun _ l=>l.elim
 |fn _ _=>exact fun _ l=>l.elim
 |_=>intro z;lia
section
variable {p k:Nat}{h:Hp}{Q:Wq}{X:Xq}{sh:W}
theorem draw{N E:Nat}{kd:Kd}{e:Int}(hk:2 * N+6 * E+8<=k)(hN:N+3 * E<=40)(ov:kd.over [])(hd:kd.depth<=N)(he:e<=(E:Int))(b:Nat)(g:Gen p h)(i:In p b [] h)(q:∀c h',Dr e.toNat [] kd c->Ext p h h'->Gen p h'->Q (Co.ae c) h'):Po (run T k aS [.ref p,.ref b,kd.ae,.int e] h) Q X:=
 u4 E N k hk p b [] kd e (fun x hx=>by cases hx) (by simp;lia) (by lia) ov hd he h Q X g i q
theorem KR{a:Nat}{one other:C}{v:Int}(e:h[a]?=some (.lst [Co.ae one,Co.ae other]))(h0:0<=v)(h1:v<2):∃c,(c=one\/c=other)/\idx (.ref a) (.int v) h=.ok (Co.ae c) h:=by
 obtain rfl|rfl:v=0\/v=1:=by lia
 .exact⟨one,.inl rfl,by simp[e]⟩
 .exact⟨other,.inr rfl,by simp[e]⟩
theorem DG{D:Nat}(hD:D=616)(g:Gen 2 h):wSs (run T (D+13)) (ug.body.drop 2) [some (.ref 0),some (.ref 2),some sh,none,none,none] h (fun _ _=>W.ah=.bl true) (fun w _=>w=.bl true) X:=by
 have nn:=g.gT;have g1:=g.ext [O.lst []];refine Ab 2 (D+9) g1 fun K h2 dK oK x2 g2=>?_;have i2:In 2 h.length [] h2:=⟨x2.keep _ _ (bp h _) (aX nn),aX nn⟩;refine draw (N:=2) (E:=4) (by lia) (by decide) oK dK (by decide) h.length g2 i2 fun c h3 dc x3 g3=>?_;obtain⟨sk,dp⟩:=HV dK dc 0;have sk:Sk 11 c K:=sk;have dp:c.depth<=16:=dp;refine xC (most:=60) (P:=11) (n:=40) (by decide) (by decide) (by lia) sk (dc.kb (by show max K.depth 3+2 * 4<=40;lia)) (by lia) fun h4 w4=>?_;have g4:=w4.gen g3;refine Ab 3 (D+8) g4 fun K2 h5 dK2 oK2 x5 g5=>?_;have rl:=yv K2 (D+12-K2.depth) h5;rw[show D+12-K2.depth+K2.depth+1=D+13 by lia] at rl;refine rl _ _ oK2 (by lia) fun h6 w6=>?_;have g6:=w6.gen g5;have fin:∀K3:Kd,eD K3=true->K3.over []->K3.depth<=3->wSs (run T (D+13)) (ug.body.drop 5) [some (.ref 0),some (.ref 2),some sh,some K3.ae,none,none] h6 (fun _ _=>W.ah=.bl true) (fun w _=>w=.bl true) X:=by
  intro K3 l3 o3 d3;have nn6:=g6.gT;refine draw (N:=3) (E:=0) (by lia) (by decide) o3 d3 (by decide) h6.length (g6.ext [O.lst []]) ⟨bp _ _,aX nn6⟩ fun one h7 d1 x7 g7=>?_;have nn7:=g7.gT;refine draw (N:=3) (E:=0) (by lia) (by decide) o3 d3 (by decide) h7.length (g7.ext [O.lst []]) ⟨bp _ _,aX nn7⟩ fun other h8 d2 x8 g8=>?_;have nn8:=g8.gT;refine oN (D+12) (g8.ext _) 2 (by decide) fun v h9 v0 v2 x9 g9=>?_;obtain⟨oc,hoc,eoc⟩:=KR (x9.keep _ _ (bp h8 _) (aX nn8)) v0 v2;refine Po.ok eoc ?_;have lc:=iX 2 K3 (D+12-K3.depth) h9 l3;rw[show D+12-K3.depth+K3.depth+1=D+13 by lia] at lc;refine Po.ok lc ?_;have lik3:=nR K3 l3;have doc:Dr 0 [] K3 oc:=by rcases hoc with rfl|rfl;exact d1;exact d2
  have d1:Dr 0 [] K3 one:=d1;obtain⟨t0,e0,n0⟩:=gB K3 lik3 [];obtain⟨t1,e1⟩:=d1.ok;obtain⟨t2,e2⟩:=doc.ok;have w3:=iS K3;simp only[md,fg] at e1 e2;have b3:max K3.depth 3+2 * 0<=40:=by lia
  exact xC (most:=60) (c:=ask (fT K3) one oc) (t:=.tru) (P:=11) (n:=40) (by decide) (by decide) (by lia) ⟨.call (.call t0 t1) t2,⟨n0 _,d1.plain rfl lik3 _⟩,doc.plain rfl lik3 _⟩ ⟨⟨jS K3 lik3,d1.kb b3⟩,doc.kb b3⟩ (by simp only[ask,Co.depth];lia) fun _ _=>rfl
 cases el:eD K2 with
 |true=>exact fin K2 el oK2 dK2
 |false=>exact fin (.row (.pair .num .tru)) rfl ⟨trivial,trivial⟩ (by decide)
theorem FK{D:Nat}(hD:D=616)(ns:List Int):Po (run T (D+14) tU [.ref 0] [.aM (ns.map .int)]) (fun w _=>w=.bl true) fun _ _=>False:=by refine wp_run Mv rfl ?_;have g:Gen 2 [O.aM (ns.map .int),.lst (ns.map .int),.lst [.int 19,.ref 1,.int 0],.ins [83,104,101,108,102] [([100,101,102,105,110,105,116,105,111,110,115],.ref 4),([110,117,109,98,101,114,115],.ref 5)],.lst [],.fc []]:=⟨⟨19,0,1,ns,rfl,rfl,by decide⟩⟩;have:=DG (sh:=.ref 3) (X:=fun _ _=>False) hD g;exact this
end
theorem BC(ns:List Int):∃h',run T 630 tU [.ref 0] [.aM (ns.map .int)]=.ok (.bl true) h':=by
 have key:=FK rfl ns
 revert key
 generalize run T (616+14) tU [.ref 0] [.aM (ns.map .int)]=r;intro key;cases r with
 |ok w h=>exact⟨h,by rw[show w=.bl true from key]⟩
 |aI a h=>exact key.elim
 |bad=>exact key.elim
end K05
set_option maxHeartbeats 0
namespace K05G
open PySem PySem.W L2 TwS PyProof.Rows
open K05 (T BC)
noncomputable abbrev pw:Program:=PySem.Challenge.pw_twomeet_k05_steps_of_cores
abbrev top(i:Nat):Stmt:=pw.main.body.getD i (.Pass ⟨0,0,0,0⟩)
abbrev s0:Stmt:=top 32
abbrev d0:bg:=⟨.fn "parts_of", "parts_of", "parts_of",s0,["core"],["core"],false⟩
abbrev s1:Stmt:=top 33
abbrev d1:bg:=⟨.fn "with_parts", "with_parts", "with_parts",s1,["core", "within"],["core", "within"],false⟩
abbrev s2:Stmt:=top 34
abbrev d2:bg:=⟨.fn "walked", "walked", "walked",s2,["core", "context", "answer", "answers", "left", "part", "bound", "ready", "within", "inside", "one"],["core", "context", "answer"],false⟩
abbrev s3:Stmt:=top 35
abbrev d3:bg:=⟨.fn "taken", "taken", "taken",s3,["answers", "many", "last"],["answers", "many"],false⟩
abbrev s4:Stmt:=top 36
abbrev d4:bg:=⟨.fn "put_in", "put_in", "put_in",s4,["core", "end", "closed", "answer"],["core", "end"],true⟩
noncomputable abbrev s5:Stmt:=(bR s4).getD 1 (.Pass ⟨0,0,0,0⟩)
abbrev d5:bg:=⟨.dP, "answer", "",s5,["part", "bound", "within", "closed"],["part", "bound", "within"],false⟩
abbrev s6:Stmt:=top 37
abbrev d6:bg:=⟨.fn "marked", "marked", "marked",s6,["core"],["core"],false⟩
abbrev s7:Stmt:=top 38
abbrev d7:bg:=⟨.fn "bare", "bare", "bare",s7,["core"],["core"],false⟩
abbrev s8:Stmt:=top 39
abbrev d8:bg:=⟨.fn "unmarked", "unmarked", "unmarked",s8,["core", "answer"],["core"],true⟩
noncomputable abbrev s9:Stmt:=(bR s8).getD 0 (.Pass ⟨0,0,0,0⟩)
abbrev d9:bg:=⟨.dP, "answer", "",s9,["part", "bound", "within"],["part", "bound", "within"],false⟩
abbrev NT:Stmt:=top 48
abbrev Np:bg:=⟨.fn "becomes", "becomes", "becomes",NT,["shelf", "core", "word", "side"],["shelf", "core"],false⟩
abbrev Nv:Stmt:=top 49
abbrev OE:bg:=⟨.fn "truth", "truth", "truth",Nv,["holds"],["holds"],false⟩
abbrev OH:Stmt:=top 50
abbrev Na:bg:=⟨.fn "taken_apart", "taken_apart", "taken_apart",OH,["core", "word"],["core", "word"],false⟩
abbrev NS:Stmt:=top 51
abbrev NM:bg:=⟨.fn "call_becomes", "call_becomes", "call_becomes",NS,["called", "part", "work"],["called", "part"],false⟩
abbrev Ov:Stmt:=top 52
abbrev OA:bg:=⟨.fn "if_becomes", "if_becomes", "if_becomes",Ov,["core", "word"],["core"],false⟩
abbrev Of:Stmt:=top 53
abbrev NQ:bg:=⟨.fn "fold_becomes", "fold_becomes", "fold_becomes",Of,["row", "start", "work", "more"],["row", "start", "work"],false⟩
abbrev NI:Stmt:=top 54
abbrev N8:bg:=⟨.fn "likeness_becomes", "likeness_becomes", "likeness_becomes",NI,["like", "first", "second", "left"],["like", "first", "second"],false⟩
abbrev Oo:Stmt:=top 55
abbrev NG:bg:=⟨.fn "asked", "asked", "asked",Oo,["like", "first", "second"],["like", "first", "second"],false⟩
abbrev Oh:Stmt:=top 56
abbrev Ng:bg:=⟨.fn "like_becomes", "like_becomes", "like_becomes",Oh,["kind", "first", "second"],["kind", "first", "second"],false⟩
abbrev Nd:Stmt:=top 57
abbrev N6:bg:=⟨.fn "likerow_becomes", "likerow_becomes", "likerow_becomes",Nd,["like", "first", "second"],["like", "first", "second"],false⟩
abbrev Ou:Stmt:=top 62
abbrev N5:bg:=⟨.fn "ends_by_parts", "ends_by_parts", "ends_by_parts",Ou,["core"],["core"],false⟩
abbrev NP:Stmt:=top 63
abbrev OB:bg:=⟨.fn "is_end", "is_end", "is_end",NP,["core", "left", "part", "place"],["core"],false⟩
abbrev Ox:Stmt:=top 64
abbrev N0:bg:=⟨.fn "with_part", "with_part", "with_part",Ox,["core", "place", "part"],["core", "place", "part"],false⟩
abbrev N3:Stmt:=clsAt (top 65) 0
abbrev N4:bg:=⟨.me [82,101,99,107,111,110,105,110,103] cS, "__init__", "Reckoning.__init__",N3,["self", "core"],["self", "core"],false⟩
abbrev OJ:Stmt:=clsAt (top 65) 1
abbrev OK:bg:=⟨.me [82,101,99,107,111,110,105,110,103] [115,101,101,107], "seek", "Reckoning.seek",OJ,["self"],["self"],false⟩
abbrev OI:Stmt:=clsAt (top 65) 2
abbrev Nk:bg:=⟨.me [82,101,99,107,111,110,105,110,103] [101,110,116,101,114], "enter", "Reckoning.enter",OI,["self"],["self"],false⟩
abbrev Nu:Stmt:=clsAt (top 65) 3
abbrev Ow:bg:=⟨.me [82,101,99,107,111,110,105,110,103] [108,101,97,118,101], "leave", "Reckoning.leave",Nu,["self", "core", "place"],["self"],false⟩
abbrev NB:Stmt:=clsAt (top 65) 4
abbrev NC:bg:=⟨.me [82,101,99,107,111,110,105,110,103] [105,115,95,100,111,110,101], "is_done", "Reckoning.is_done",NB,["self"],["self"],false⟩
abbrev Od:Stmt:=clsAt (top 65) 5
abbrev N7:bg:=⟨.me [82,101,99,107,111,110,105,110,103] [97,100,118,97,110,99,101], "advance", "Reckoning.advance",Od,["self", "shelf"],["self", "shelf"],false⟩
abbrev Nn:Stmt:=clsAt (top 65) 6
abbrev Nc:bg:=⟨.me [82,101,99,107,111,110,105,110,103] [119,104,111,108,101], "whole", "Reckoning.whole",Nn,["self", "core", "around", "place"],["self"],false⟩
abbrev OF:Stmt:=top 66
abbrev OD:bg:=⟨.fn "step", "step", "step",OF,["shelf", "core", "reckoning"],["shelf", "core"],false⟩
abbrev Ot:Stmt:=clsAt (top 105) 0
abbrev N1:bg:=⟨.me [83,104,101,108,102] cS, "__init__", "Shelf.__init__",Ot,["self"],["self"],false⟩
abbrev NL:Stmt:=top 108
abbrev NU:bg:=⟨.fn "_law_next", "_law_next", "_law_next",NL,["_law_h", "_law_many", "_law_cell"],["_law_h", "_law_many"],false⟩
abbrev Oj:Stmt:=top 109
abbrev Ol:bg:=⟨.fn "_law_number", "_law_number", "_law_number",Oj,["_law_h", "_law_some"],["_law_h"],false⟩
abbrev Nt:Stmt:=top 111
abbrev Oi:bg:=⟨.fn "_law_kind", "_law_kind", "_law_kind",Nt,["_law_h", "_law_deep", "_law_names", "_law_way", "_law_one"],["_law_h", "_law_deep", "_law_names"],false⟩
abbrev Oa:Stmt:=top 112
abbrev N9:bg:=⟨.fn "_law_likely", "_law_likely", "_law_likely",Oa,["_law_kind_here"],["_law_kind_here"],false⟩
abbrev M9:Stmt:=top 113
abbrev Nr:bg:=⟨.fn "_law_likecore", "_law_likecore", "_law_likecore",M9,["_law_h", "_law_kind_here"],["_law_h", "_law_kind_here"],false⟩
abbrev Nz:Stmt:=top 114
abbrev NN:bg:=⟨.fn "_law_base", "_law_base", "_law_base",Nz,["_law_h", "_law_bound", "_law_kind_here", "_law_deep", "_law_number_here", "_law_made", "_law_k"],["_law_h", "_law_bound", "_law_kind_here", "_law_deep"],false⟩
abbrev Oz:Stmt:=top 115
abbrev NK:bg:=⟨.fn "_law_core", "_law_core", "_law_core",Oz,["_law_h", "_law_bound", "_law_kind_here", "_law_deep", "_law_way", "_law_fars", "_law_other", "_law_part", "_law_row", "_law_start"],["_law_h", "_law_bound", "_law_kind_here", "_law_deep"],false⟩
abbrev NZ:Stmt:=top 116
abbrev Nx:bg:=⟨.fn "_law_ended", "_law_ended", "_law_ended",NZ,["_law_core_here", "_law_liked"],["_law_core_here"],false⟩
abbrev NW:Stmt:=top 117
abbrev Oe:bg:=⟨.fn "_law_into", "_law_into", "_law_into",NW,["_law_core_here", "_law_far", "_law_value"],["_law_core_here", "_law_far", "_law_value"],false⟩
abbrev Oc:Stmt:=top 118
abbrev OC:bg:=⟨.fn "_law_compared", "_law_compared", "_law_compared",Oc,["_law_like", "_law_one", "_law_other", "_law_no", "_law_rest", "_law_ahead"],["_law_like", "_law_one", "_law_other"],false⟩
abbrev Nh:Stmt:=top 119
abbrev Nf:bg:=⟨.fn "_law_stepped", "_law_stepped", "_law_stepped",Nh,["_law_core_here", "_law_many", "_law_k", "_law_head"],["_law_core_here"],false⟩
abbrev Ob:Stmt:=top 120
abbrev Og:bg:=⟨.fn "_law_says", "_law_says", "_law_says",Ob,["_law_found", "_law_due"],["_law_found", "_law_due"],false⟩
abbrev N2:Stmt:=top 121
abbrev NX:bg:=⟨.fn "_law_walked", "_law_walked", "_law_walked",N2,["_law_shelf", "_law_core_here", "_law_most", "_law_turn", "_law_ended_here", "_law_due"],["_law_shelf", "_law_core_here", "_law_most"],false⟩
abbrev NH:Stmt:=top 122
abbrev Oy:bg:=⟨.fn "law", "law", "law",NH,["_law_script", "_law_h", "_law_shelf", "_law_kind_here", "_law_one", "_law_other"],["_law_script"],false⟩
noncomputable abbrev cT:List (Tw.S×List Tw.S):=[]
noncomputable abbrev ij:List (Tw.S×List Tw.S):=[]
noncomputable abbrev nE:List (List Tw.S×List Tw.S):=[]
noncomputable abbrev R7:List (Tw.S×Addr):=[]
abbrev Ds:List bg:=[d0,d1,d2,d3,d4,d5,d6,d7,d8,d9,Np,OE,Na,NM,OA,NQ,N8,NG,Ng,N6,N5,OB,N0,N4,OK,Nk,Ow,NC,N7,Nc,OD,N1,NU,Ol,Oi,N9,Nr,NN,NK,Nx,Oe,OC,Nf,Og,NX,Oy]
noncomputable abbrev nums:List (Str×List (Tw.S×Int)):=[("STEPPING",[([99,97,108,108],2),([98,111,116,104],2),([108,101,102,116],1),([114,105,103,104,116],1),([109,111,114,101],2),([102,111,108,100],3),([105,102],1),([115,117,109],2),([108,101,115,115],2),([108,105,107,101,112,97,105,114],2),([108,105,107,101,114,111,119],1)])]
noncomputable abbrev cons:List (Str×Tw.W):=[("ENDS",.tup [(.str [110,117,109,98,101,114]),(.str [121,101,115]),(.str [110,111]),(.str [110,111,110,101]),(.str [102,117,110]),(.str [98,111,116,104]),(.str [109,111,114,101]),(.str [108,105,107,101,112,97,105,114]),(.str [108,105,107,101,114,111,119]),(.str [101,110,100])]),("LIKENESSES",.tup [(.str [108,105,107,101]),(.str [108,105,107,101,112,97,105,114]),(.str [108,105,107,101,114,111,119])]),("MADE_OF_PARTS",.tup [(.str [99,97,108,108]),(.str [98,111,116,104]),(.str [108,101,102,116]),(.str [114,105,103,104,116]),(.str [109,111,114,101]),(.str [102,111,108,100]),(.str [105,102]),(.str [115,117,109]),(.str [108,101,115,115]),(.str [108,105,107,101,112,97,105,114]),(.str [108,105,107,101,114,111,119])]),("NO",.tup [(.str [110,111])]),("NUMBER",.tup [(.str [110,117,109,98,101,114])]),("TRUTH",.tup [(.str [116,114,117,116,104])]),("YES",.tup [(.str [121,101,115])])]
abbrev dP:List (Nat×List Str×Bool×Tw.Fn):=[(5,["part", "bound", "within", "closed"],false,K05.gY),(9,["part", "bound", "within"],false,K05.f9)]
noncomputable abbrev tb:List jH:=[⟨325,("put_in" : Str)++ ".<locals>." ++ "answer"⟩,⟨346,("unmarked" : Str)++ ".<locals>." ++ "answer"⟩]
abbrev NY:Cfg:={fns:=Ds.map (·.key),cons:=cons,nums:=nums,cT:=cT,ij:=ij,nE:=nE}
abbrev cf:Cfg:={NY with ci:=zl NY dP}
theorem QZ:ka cf Ds T=true:=by decide+kernel
noncomputable abbrev ke(P:Params)(x:Str)(t:Nat)(v:Value):DictEntry:=⟨PyData.keyHash P x,.str x t,v⟩
noncomputable abbrev b9(n q:Str)(a b c d:Nat)(l x y z u:Int)(r1:Nat)(bb:Bool)(i1:Int)(r2:Nat)(v:Value)(r3 r4 r5:Nat)(k:Int):Obj:=⟨.type "code",none,.fields #[.str n a,.str q b,.str "/claim/cut.py" c,.int l 0,.int x 0,.int y 0,.int z 0,.int u 0,.ref r1,.bool bb,.int i1 0,.ref r2,v,.ref r3,.ref r4,.ref r5,.int k 0,.int l 0,.str "/claim/cut.py" d],#[]⟩
noncomputable abbrev bO(n q:Str)(s:Stmt)(m:Str)(t c:Nat):Obj:=⟨.type "function",none,.func (fnOf n q (cH s) (bR s) (aq s) .none .none .none (.str m t) none (.ref c) .none),#[]⟩
abbrev o3(P:Params):Obj:=⟨(.type "dict"),none,(.dict #[ke P "__name__" 165 (.str "law_twomeet_k05_steps_of_cores" 1564),ke P "__doc__" 166 .none,ke P "__package__" 167 .none,ke P "__loader__" 168 (.builtin "__main__.__loader__#opaque"),ke P "__spec__" 169 .none,ke P "__annotations__" 170 (.ref 6),ke P "__builtins__" 171 (.ref 4),ke P "__file__" 173 (.str "/claim/cut.py" 172),ke P "__cached__" 174 .none,ke P "_wall" 193 (.ref 21),ke P "MeetError" 213 (.ref 31),ke P "Refused" 238 (.ref 51),ke P "Told" 254 (.ref 63),ke P "Loose" 270 (.ref 75),ke P "Stray" 286 (.ref 87),ke P "TooLong" 302 (.ref 99),ke P "Unmet" 330 (.ref 118),ke P "Unfit" 356 (.ref 137),ke P "Misused" 382 (.ref 156),ke P "NoRule" 408 (.ref 175),ke P "Unbound" 434 (.ref 194),ke P "Unsaid" 450 (.ref 206),ke P "NUMBER" 454 (.ref 209),ke P "TRUTH" 456 (.ref 210),ke P "parts" 463 (.ref 217),ke P "filled" 471 (.ref 224),ke P "gaps_filled" 479 (.ref 231),ke P "replaced" 491 (.ref 238),ke P "has_gaps" 500 (.ref 245),ke P "names_in" 508 (.ref 252),ke P "put_names" 517 (.ref 259),ke P "met" 530 (.ref 266),ke P "met_gap" 540 (.ref 273),ke P "unlikely" 552 (.ref 280),ke P "likeness" 560 (.ref 287),ke P "likeness_kind" 567 (.ref 294),ke P "MADE_OF_PARTS" 581 (.ref 295),ke P "parts_of" 588 (.ref 302),ke P "with_parts" 596 (.ref 309),ke P "walked" 613 (.ref 316),ke P "taken" 622 (.ref 323),ke P "put_in" 632 (.ref 330),ke P "marked" 639 (.ref 337),ke P "bare" 646 (.ref 344),ke P "unmarked" 654 (.ref 351),ke P "core_filled" 664 (.ref 358),ke P "Definition" 704 (.ref 375),ke P "told_at" 714 (.ref 386),ke P "core_at" 724 (.ref 393),ke P "YES" 728 (.ref 394),ke P "NO" 730 (.ref 395),ke P "becomes" 740 (.ref 402),ke P "truth" 747 (.ref 409),ke P "taken_apart" 755 (.ref 416),ke P "call_becomes" 764 (.ref 423),ke P "if_becomes" 772 (.ref 430),ke P "fold_becomes" 782 (.ref 437),ke P "likeness_becomes" 792 (.ref 444),ke P "asked" 801 (.ref 451),ke P "like_becomes" 810 (.ref 458),ke P "likerow_becomes" 819 (.ref 465),ke P "STEPPING" 855 (.ref 466),ke P "LIKENESSES" 859 (.ref 467),ke P "ENDS" 870 (.ref 468),ke P "ends_by_parts" 877 (.ref 475),ke P "is_end" 887 (.ref 482),ke P "with_part" 896 (.ref 489),ke P "Reckoning" 974 (.ref 548),ke P "step" 983 (.ref 559),ke P "run" 994 (.ref 566),ke P "Scope" 1072 (.ref 614),ke P "come_up" 1083 (.ref 625),ke P "go_down" 1093 (.ref 632),ke P "found_to_be" 1105 (.ref 639),ke P "number_up" 1114 (.ref 646),ke P "truth_up" 1123 (.ref 653),ke P "told_up" 1133 (.ref 660),ke P "fun_up" 1142 (.ref 667),ke P "fun_down" 1153 (.ref 674),ke P "both_up" 1166 (.ref 681),ke P "both_down" 1178 (.ref 688),ke P "side_up" 1189 (.ref 695),ke P "rowof_up" 1203 (.ref 702),ke P "rowof_down" 1209 (.ref 707),ke P "row_of" 1219 (.ref 714),ke P "ahead_up" 1231 (.ref 721),ke P "ahead_down" 1243 (.ref 728),ke P "fold_up" 1257 (.ref 735),ke P "if_up" 1270 (.ref 742),ke P "if_down" 1283 (.ref 749),ke P "let_up" 1296 (.ref 756),ke P "let_down" 1309 (.ref 763),ke P "reckoned_up" 1320 (.ref 770),ke P "like_up" 1332 (.ref 777),ke P "called_up" 1341 (.ref 784),ke P "called_down" 1353 (.ref 791),ke P "called" 1368 (.ref 798),ke P "work_called" 1380 (.ref 805),ke P "definition_called" 1386 (.ref 810),ke P "part_met" 1401 (.ref 817),ke P "left_met" 1412 (.ref 824),ke P "definition_at" 1418 (.ref 829),ke P "COMING_UP" 1455 (.ref 830),ke P "GOING_DOWN" 1472 (.ref 832),ke P "Shelf" 1551 (.ref 884),ke P "refuse_names" 1563 (.ref 895),ke P "_law_next" 1574 (.ref 902),ke P "_law_number" 1582 (.ref 909),ke P "_law_word" 1588 (.ref 914),ke P "_law_kind" 1599 (.ref 921),ke P "_law_likely" 1605 (.ref 926),ke P "_law_likecore" 1613 (.ref 933),ke P "_law_base" 1626 (.ref 940),ke P "_law_core" 1632 (.ref 945),ke P "_law_ended" 1638 (.ref 950),ke P "_law_into" 1644 (.ref 955),ke P "_law_compared" 1656 (.ref 962),ke P "_law_stepped" 1666 (.ref 969),ke P "_law_says" 1674 (.ref 976),ke P "_law_walked" 1686 (.ref 983),ke P "law" 1698 (.ref 990)] 121),#[]⟩
noncomputable abbrev o4:Obj:=⟨(.type "module"),(some 0),.plain,#[]⟩
noncomputable abbrev Ko:Obj:=⟨(.type "tuple"),none,(.seq #[(.str "number" 453)] 0),#[]⟩
noncomputable abbrev K0:Obj:=⟨(.type "tuple"),none,(.seq #[(.str "truth" 455)] 0),#[]⟩
noncomputable abbrev Js:Obj:=⟨(.type "tuple"),none,(.seq #[(.str "call" 570),(.str "both" 571),(.str "left" 572),(.str "right" 573),(.str "more" 574),(.str "fold" 575),(.str "if" 576),(.str "sum" 577),(.str "less" 578),(.str "likepair" 579),(.str "likerow" 580)] 0),#[]⟩
abbrev O8:Obj:=b9 "parts_of" "parts_of" 582 583 584 587 127 1 0 0 3 296 true 181 297 .none 298 299 300 586
abbrev JJ:Obj:=bO "parts_of" "parts_of" s0 "twomeet.walks" 568 301
abbrev Pe:Obj:=b9 "with_parts" "with_parts" 589 590 591 595 133 2 0 0 3 303 true 181 304 .none 305 306 307 594
abbrev Jk:Obj:=bO "with_parts" "with_parts" s1 "twomeet.walks" 568 308
abbrev Pa:Obj:=b9 "walked" "walked" 597 598 599 612 139 3 0 0 3 310 true 181 311 .none 312 313 314 611
abbrev Im:Obj:=bO "walked" "walked" s2 "twomeet.walks" 568 315
abbrev OZ:Obj:=b9 "taken" "taken" 614 615 616 621 153 2 0 0 3 317 true 181 318 .none 319 320 321 620
abbrev Kk:Obj:=bO "taken" "taken" s3 "twomeet.walks" 568 322
abbrev HK:Obj:=b9 "put_in" "put_in" 623 624 625 631 159 2 0 0 3 324 true 181 325 .none 326 327 328 630
abbrev HG:Obj:=bO "put_in" "put_in" s4 "twomeet.walks" 568 329
abbrev PY:Obj:=b9 "marked" "marked" 633 634 635 638 167 1 0 0 3 331 true 181 332 .none 333 334 335 637
abbrev HJ:Obj:=bO "marked" "marked" s6 "twomeet.walks" 568 336
abbrev OM:Obj:=b9 "bare" "bare" 640 641 642 645 169 1 0 0 3 338 true 181 339 .none 340 341 342 644
abbrev JM:Obj:=bO "bare" "bare" s7 "twomeet.walks" 568 343
abbrev K5:Obj:=b9 "unmarked" "unmarked" 647 648 649 653 171 1 0 0 3 345 true 181 346 .none 347 348 349 652
abbrev Jo:Obj:=bO "unmarked" "unmarked" s8 "twomeet.walks" 568 350
noncomputable abbrev Km:Obj:=⟨(.type "tuple"),none,(.seq #[(.str "yes" 727)] 0),#[]⟩
noncomputable abbrev IU:Obj:=⟨(.type "tuple"),none,(.seq #[(.str "no" 729)] 0),#[]⟩
abbrev P1:Obj:=b9 "becomes" "becomes" 731 732 733 739 213 2 0 0 3 396 true 181 397 .none 398 399 400 738
abbrev Hx:Obj:=bO "becomes" "becomes" NT "twomeet.rules" 725 401
abbrev Pz:Obj:=b9 "truth" "truth" 741 742 743 746 231 1 0 0 3 403 true 181 404 .none 405 406 407 745
abbrev H9:Obj:=bO "truth" "truth" Nv "twomeet.rules" 725 408
abbrev Qw:Obj:=b9 "taken_apart" "taken_apart" 748 749 750 754 233 2 0 0 3 410 true 181 411 .none 412 413 414 753
abbrev IX:Obj:=bO "taken_apart" "taken_apart" OH "twomeet.rules" 725 415
abbrev PV:Obj:=b9 "call_becomes" "call_becomes" 756 757 758 763 237 2 0 0 3 417 true 181 418 .none 419 420 421 762
abbrev Kn:Obj:=bO "call_becomes" "call_becomes" NS "twomeet.rules" 725 422
abbrev Qf:Obj:=b9 "if_becomes" "if_becomes" 765 766 767 771 244 1 0 0 3 424 true 181 425 .none 426 427 428 770
abbrev JZ:Obj:=bO "if_becomes" "if_becomes" Ov "twomeet.rules" 725 429
abbrev Px:Obj:=b9 "fold_becomes" "fold_becomes" 773 774 775 781 251 3 0 0 3 431 true 181 432 .none 433 434 435 780
abbrev HS:Obj:=bO "fold_becomes" "fold_becomes" Of "twomeet.rules" 725 436
abbrev O3:Obj:=b9 "likeness_becomes" "likeness_becomes" 783 784 785 791 256 3 0 0 3 438 true 181 439 .none 440 441 442 790
abbrev Ic:Obj:=bO "likeness_becomes" "likeness_becomes" NI "twomeet.rules" 725 443
abbrev PC:Obj:=b9 "asked" "asked" 793 794 795 800 263 3 0 0 3 445 true 181 446 .none 447 448 449 799
abbrev HH:Obj:=bO "asked" "asked" Oo "twomeet.rules" 725 450
abbrev PU:Obj:=b9 "like_becomes" "like_becomes" 802 803 804 809 265 3 0 0 3 452 true 181 453 .none 454 455 456 808
abbrev Ka:Obj:=bO "like_becomes" "like_becomes" Oh "twomeet.rules" 725 457
abbrev PD:Obj:=b9 "likerow_becomes" "likerow_becomes" 811 812 813 818 271 3 0 0 3 459 true 181 460 .none 461 462 463 817
abbrev G8:Obj:=bO "likerow_becomes" "likerow_becomes" Nd "twomeet.rules" 725 464
abbrev Kw(P:Params):Obj:=⟨(.type "dict"),none,(.dict #[ke P "call" 822 (.int 2 823),ke P "both" 824 (.int 2 825),ke P "left" 826 (.int 1 827),ke P "right" 828 (.int 1 829),ke P "more" 830 (.int 2 831),ke P "fold" 832 (.int 3 833),ke P "if" 834 (.int 1 835),ke P "sum" 836 (.int 2 837),ke P "less" 838 (.int 2 839),ke P "likepair" 840 (.int 2 841),ke P "likerow" 842 (.int 1 843)] 11),#[]⟩
noncomputable abbrev KP:Obj:=⟨(.type "tuple"),none,(.seq #[(.str "like" 856),(.str "likepair" 857),(.str "likerow" 858)] 0),#[]⟩
noncomputable abbrev Hu:Obj:=⟨(.type "tuple"),none,(.seq #[(.str "number" 860),(.str "yes" 861),(.str "no" 862),(.str "none" 863),(.str "fun" 864),(.str "both" 865),(.str "more" 866),(.str "likepair" 867),(.str "likerow" 868),(.str "end" 869)] 0),#[]⟩
abbrev OV:Obj:=b9 "ends_by_parts" "ends_by_parts" 871 872 873 876 281 1 0 0 3 469 true 181 470 .none 471 472 473 875
abbrev Kv:Obj:=bO "ends_by_parts" "ends_by_parts" Ou "twomeet.steps" 820 474
abbrev PB:Obj:=b9 "is_end" "is_end" 878 879 880 886 287 1 0 0 3 476 true 181 477 .none 478 479 480 885
abbrev Ir:Obj:=bO "is_end" "is_end" NP "twomeet.steps" 820 481
abbrev Pg:Obj:=b9 "with_part" "with_part" 888 889 890 895 296 3 0 0 3 483 true 181 484 .none 485 486 487 894
abbrev G6:Obj:=bO "with_part" "with_part" Ox "twomeet.steps" 820 488
abbrev Qr:Obj:=b9 "__init__" "Reckoning.__init__" 909 910 911 915 300 2 0 0 3 497 true 181 498 .none 499 500 501 914
abbrev IM:Obj:=bO "__init__" "Reckoning.__init__" N3 "twomeet.steps" 820 502
abbrev Qh:Obj:=b9 "seek" "Reckoning.seek" 917 918 919 922 305 1 0 0 3 504 true 181 505 .none 506 507 508 921
abbrev IL:Obj:=bO "seek" "Reckoning.seek" OJ "twomeet.steps" 820 509
abbrev ON:Obj:=b9 "enter" "Reckoning.enter" 924 925 926 929 310 1 0 0 3 511 true 181 512 .none 513 514 515 928
abbrev KY:Obj:=bO "enter" "Reckoning.enter" OI "twomeet.steps" 820 516
abbrev Pj:Obj:=b9 "leave" "Reckoning.leave" 931 932 933 938 315 1 0 0 3 518 true 181 519 .none 520 521 522 937
abbrev IA:Obj:=bO "leave" "Reckoning.leave" Nu "twomeet.steps" 820 523
abbrev OP:Obj:=b9 "is_done" "Reckoning.is_done" 940 941 942 945 325 1 0 0 3 525 true 181 526 .none 527 528 529 944
abbrev IT:Obj:=bO "is_done" "Reckoning.is_done" NB "twomeet.steps" 820 530
abbrev Ql:Obj:=b9 "advance" "Reckoning.advance" 947 948 949 953 328 2 0 0 3 532 true 181 533 .none 534 535 536 952
abbrev Hl:Obj:=bO "advance" "Reckoning.advance" Od "twomeet.steps" 820 537
abbrev Qt:Obj:=b9 "whole" "Reckoning.whole" 955 956 957 963 331 1 0 0 3 539 true 181 540 .none 541 542 543 962
abbrev G5:Obj:=bO "whole" "Reckoning.whole" Nn "twomeet.steps" 820 544
abbrev P5(P:Params):Obj:=⟨(.type "dict"),none,(.dict #[ke P "__module__" 904 (.str "twomeet.steps" 820),ke P "__firstlineno__" 908 (.int 298 907),ke P "__init__" 916 (.ref 503),ke P "seek" 923 (.ref 510),ke P "enter" 930 (.ref 517),ke P "leave" 939 (.ref 524),ke P "is_done" 946 (.ref 531),ke P "advance" 954 (.ref 538),ke P "whole" 964 (.ref 545),ke P "__static_attributes__" 967 (.ref 546),ke P "__dict__" 969 (.ref 549),ke P "__weakref__" 971 (.ref 550),ke P "__doc__" 972 .none] 4),#[]⟩
noncomputable abbrev Pm:Obj:=⟨(.type "type"),none,(.cls ⟨"Reckoning",[(.type "object")],[(.ref 548),(.type "object")],547, "Reckoning",true,[],[],false,none,false⟩),#[none,none,(some (.str "Reckoning" 897)),(some (.str "Reckoning" 905)),(some (.builtin "object.__new__")),(some (.bool true))]⟩
abbrev O5:Obj:=b9 "step" "step" 975 976 977 982 336 2 0 0 3 553 true 181 554 .none 555 556 557 981
abbrev IG:Obj:=bO "step" "step" OF "twomeet.steps" 820 558
abbrev OX:Obj:=b9 "__init__" "Shelf.__init__" 1487 1488 1489 1492 570 1 0 0 3 840 true 181 841 .none 842 843 844 1491
abbrev KS:Obj:=bO "__init__" "Shelf.__init__" Ot "twomeet.shelf" 1473 845
abbrev Ph(P:Params):Obj:=⟨(.type "dict"),none,(.dict #[ke P "__module__" 1482 (.str "twomeet.shelf" 1473),ke P "__firstlineno__" 1486 (.int 568 1485),ke P "__init__" 1493 (.ref 846),ke P "tell" 1506 (.ref 853),ke P "write" 1514 (.ref 860),ke P "write_as" 1523 (.ref 867),ke P "end" 1534 (.ref 874),ke P "outside" 1541 (.ref 881),ke P "__static_attributes__" 1544 (.ref 882),ke P "__dict__" 1546 (.ref 885),ke P "__weakref__" 1548 (.ref 886),ke P "__doc__" 1549 .none] 4),#[]⟩
noncomputable abbrev Qy:Obj:=⟨(.type "type"),none,(.cls ⟨"Shelf",[(.type "object")],[(.ref 884),(.type "object")],883, "Shelf",true,[],[],false,none,false⟩),#[none,none,(some (.str "Shelf" 1475)),(some (.str "Shelf" 1483)),(some (.builtin "object.__new__")),(some (.bool true))]⟩
abbrev Pp:Obj:=b9 "_law_next" "_law_next" 1566 1567 1568 1573 606 2 0 0 3 896 true 181 897 .none 898 899 900 1572
abbrev J6:Obj:=bO "_law_next" "_law_next" NL "law_twomeet_k05_steps_of_cores" 1564 901
abbrev Qg:Obj:=b9 "_law_number" "_law_number" 1575 1576 1577 1581 611 1 0 0 3 903 true 181 904 .none 905 906 907 1580
abbrev HE:Obj:=bO "_law_number" "_law_number" Oj "law_twomeet_k05_steps_of_cores" 1564 908
abbrev OS:Obj:=b9 "_law_kind" "_law_kind" 1589 1590 1591 1598 619 3 0 0 3 915 true 181 916 .none 917 918 919 1597
abbrev K6:Obj:=bO "_law_kind" "_law_kind" Nt "law_twomeet_k05_steps_of_cores" 1564 920
abbrev Pn:Obj:=⟨(.type "code"),none,(.fields #[(.str "_law_likely" 1600),(.str "_law_likely" 1601),(.str "/claim/cut.py" 1602),(.int 629 0),(.int 1 0),(.int 0 0),(.int 0 0),(.int 3 0),(.ref 922),(.bool true),(.int 181 0),(.ref 923),.none,.none,.none,(.ref 924),(.int 1603 0),(.int 629 0),(.str "/claim/cut.py" 1604)]),#[]⟩
abbrev G0:Obj:=bO "_law_likely" "_law_likely" Oa "law_twomeet_k05_steps_of_cores" 1564 925
abbrev Pu:Obj:=b9 "_law_likecore" "_law_likecore" 1606 1607 1608 1612 633 2 0 0 3 927 true 181 928 .none 929 930 931 1611
abbrev Kf:Obj:=bO "_law_likecore" "_law_likecore" M9 "law_twomeet_k05_steps_of_cores" 1564 932
abbrev Qq:Obj:=b9 "_law_base" "_law_base" 1614 1615 1616 1625 639 4 0 0 3 934 true 181 935 .none 936 937 938 1624
abbrev Jj:Obj:=bO "_law_base" "_law_base" Nz "law_twomeet_k05_steps_of_cores" 1564 939
abbrev OQ:Obj:=⟨(.type "code"),none,(.fields #[(.str "_law_core" 1627),(.str "_law_core" 1628),(.str "/claim/cut.py" 1629),(.int 659 0),(.int 4 0),(.int 0 0),(.int 0 0),(.int 3 0),(.ref 941),(.bool true),(.int 181 0),(.ref 942),.none,.none,.none,(.ref 943),(.int 1630 0),(.int 659 0),(.str "/claim/cut.py" 1631)]),#[]⟩
abbrev Ht:Obj:=bO "_law_core" "_law_core" Oz "law_twomeet_k05_steps_of_cores" 1564 944
abbrev Pk:Obj:=⟨(.type "code"),none,(.fields #[(.str "_law_ended" 1633),(.str "_law_ended" 1634),(.str "/claim/cut.py" 1635),(.int 682 0),(.int 1 0),(.int 0 0),(.int 0 0),(.int 3 0),(.ref 946),(.bool true),(.int 181 0),(.ref 947),.none,.none,.none,(.ref 948),(.int 1636 0),(.int 682 0),(.str "/claim/cut.py" 1637)]),#[]⟩
abbrev Kg:Obj:=bO "_law_ended" "_law_ended" NZ "law_twomeet_k05_steps_of_cores" 1564 949
abbrev Qv:Obj:=⟨(.type "code"),none,(.fields #[(.str "_law_into" 1639),(.str "_law_into" 1640),(.str "/claim/cut.py" 1641),(.int 689 0),(.int 3 0),(.int 0 0),(.int 0 0),(.int 3 0),(.ref 951),(.bool true),(.int 181 0),(.ref 952),.none,.none,.none,(.ref 953),(.int 1642 0),(.int 689 0),(.str "/claim/cut.py" 1643)]),#[]⟩
abbrev He:Obj:=bO "_law_into" "_law_into" NW "law_twomeet_k05_steps_of_cores" 1564 954
abbrev P7:Obj:=b9 "_law_compared" "_law_compared" 1645 1646 1647 1655 697 3 0 0 3 956 true 181 957 .none 958 959 960 1654
abbrev Hy:Obj:=bO "_law_compared" "_law_compared" Oc "law_twomeet_k05_steps_of_cores" 1564 961
abbrev Qi:Obj:=b9 "_law_stepped" "_law_stepped" 1657 1658 1659 1665 706 1 0 0 3 963 true 181 964 .none 965 966 967 1664
abbrev Iu:Obj:=bO "_law_stepped" "_law_stepped" Nh "law_twomeet_k05_steps_of_cores" 1564 968
abbrev PF:Obj:=b9 "_law_says" "_law_says" 1667 1668 1669 1673 727 2 0 0 3 970 true 181 971 .none 972 973 974 1672
abbrev Ji:Obj:=bO "_law_says" "_law_says" Ob "law_twomeet_k05_steps_of_cores" 1564 975
abbrev P2:Obj:=b9 "_law_walked" "_law_walked" 1675 1676 1677 1685 729 3 0 0 3 977 true 181 978 .none 979 980 981 1684
abbrev Ki:Obj:=bO "_law_walked" "_law_walked" N2 "law_twomeet_k05_steps_of_cores" 1564 982
abbrev Pd:Obj:=b9 "law" "law" 1687 1688 1689 1697 741 1 0 0 3 984 true 181 985 .none 986 987 988 1696
abbrev IW:Obj:=bO "law" "law" NH "law_twomeet_k05_steps_of_cores" 1564 989
def K(P:Params):Frag:=[(3,(o3 P)),(4,o4),(209,Ko),(210,K0),(295,Js),(301,O8),(302,JJ),(308,Pe),(309,Jk),(315,Pa),(316,Im),(322,OZ),(323,Kk),(329,HK),(330,HG),(336,PY),(337,HJ),(343,OM),(344,JM),(350,K5),(351,Jo),(394,Km),(395,IU),(401,P1),(402,Hx),(408,Pz),(409,H9),(415,Qw),(416,IX),(422,PV),(423,Kn),(429,Qf),(430,JZ),(436,Px),(437,HS),(443,O3),(444,Ic),(450,PC),(451,HH),(457,PU),(458,Ka),(464,PD),(465,G8),(466,(Kw P)),(467,KP),(468,Hu),(474,OV),(475,Kv),(481,PB),(482,Ir),(488,Pg),(489,G6),(502,Qr),(503,IM),(509,Qh),(510,IL),(516,ON),(517,KY),(523,Pj),(524,IA),(530,OP),(531,IT),(537,Ql),(538,Hl),(544,Qt),(545,G5),(547,(P5 P)),(548,Pm),(558,O5),(559,IG),(845,OX),(846,KS),(883,(Ph P)),(884,Qy),(901,Pp),(902,J6),(908,Qg),(909,HE),(920,OS),(921,K6),(925,Pn),(926,G0),(932,Pu),(933,Kf),(939,Qq),(940,Jj),(944,OQ),(945,Ht),(949,Pk),(950,Kg),(954,Qv),(955,He),(961,P7),(962,Hy),(968,Qi),(969,Iu),(975,PF),(976,Ji),(982,P2),(983,Ki),(989,Pd),(990,IW)]
def KF(P:Params):Frag:=K P++tb.map fun t=>(t.P,tabObj #[])
noncomputable def as:List Addr:=[3,4,209,210,295,301,302,308,309,315,316,322,323,329,330,336,337,343,344,350,351,394,395,401,402,408,409,415,416,422,423,429,430,436,437,443,444,450,451,457,458,464,465,466,467,468,474,475,481,482,488,489,502,503,509,510,516,517,523,524,530,531,537,538,544,545,547,548,558,559,845,846,883,884,901,902,908,909,920,921,925,926,932,933,939,940,944,945,949,950,954,955,961,962,968,969,975,976,982,983,989,990,325,346]
def H:Hook:=kHook KF as fun _=>by kernel_rfl
def view:Program:={pw with main:={pw.main with body:=[top 122]}}
def loose:List Str:=(["_wall", "MeetError", "Refused", "Told", "Loose", "Stray", "TooLong", "Unmet", "Unfit", "Misused", "NoRule", "Unbound", "Unsaid", "NUMBER", "TRUTH", "parts", "filled", "gaps_filled", "replaced", "has_gaps", "names_in", "put_names", "met", "met_gap", "unlikely", "likeness", "likeness_kind", "MADE_OF_PARTS", "parts_of", "with_parts", "walked", "taken", "put_in", "marked", "bare", "unmarked", "core_filled", "Definition", "told_at", "core_at", "YES", "NO", "becomes", "truth", "taken_apart", "call_becomes", "if_becomes", "fold_becomes", "likeness_becomes", "asked", "like_becomes", "likerow_becomes", "STEPPING", "LIKENESSES", "ENDS", "ends_by_parts", "is_end", "with_part", "Reckoning", "step", "run", "Scope", "come_up", "go_down", "found_to_be", "number_up", "truth_up", "told_up", "fun_up", "fun_down", "both_up", "both_down", "side_up", "rowof_up", "rowof_down", "row_of", "ahead_up", "ahead_down", "fold_up", "if_up", "if_down", "let_up", "let_down", "reckoned_up", "like_up", "called_up", "called_down", "called", "work_called", "definition_called", "part_met", "left_met", "definition_at", "COMING_UP", "GOING_DOWN", "Shelf", "refuse_names", "_law_next", "_law_number", "_law_word", "_law_kind", "_law_likely", "_law_likecore", "_law_base", "_law_core", "_law_ended", "_law_into", "_law_compared", "_law_stepped", "_law_says", "_law_walked"]:List String).map Str.ofString
def seen(s:Shared):Bool:=xlAt view [] s&&recOk (PySem.Challenge.rw_twomeet_k05_steps_of_cores).row.toRowW.records s
noncomputable def _root_.PySem.W.Fast.tw8084148561268128582:Program:=PySem.Challenge.pw_twomeet_k05_steps_of_cores
theorem _root_.PySem.W.Fast.te8084148561268128582:PySem.Challenge.pw_twomeet_k05_steps_of_cores=PySem.W.Fast.tw8084148561268128582:=rfl
def yG(s:Shared):=openSeen view loose (importedModules pw.main.body) seen true s
def yH(s:Shared):=as.map s.heap.get?
def obs(s:Shared):=(yG s,yH s)
theorem both{o:Option Shared}{a:_}{b:_}(h1:o.map yG=some a)(h2:o.map yH=some b):o.map obs=some (a,b):=by
 cases o with
 |none=>cases h1
 |some s=>cases h1;cases h2;rfl
def zc(w:World):=oG pw 12000 yG (w.withFollow "special-get-raises" false)
theorem D2:zc=zc:=rfl
name_quick runF1_K05G for K05G.zc by K05G.D2
theorem JE(w:World):(openEnds treeTable pw (w.withFollow "special-get-raises" false) 12000).map yG=some (openGood view loose):=ou ((congrFun PySem.W.Fast.runF1_K05G_eq w).trans (by kernel_rfl))
def zR(w:World):=oG pw 12000 yH (w.withFollow "special-get-raises" false)
theorem Dj:zR=zR:=rfl
name_quick runF2_K05G for K05G.zR by K05G.Dj
theorem J5(w:World):(openEnds treeTable pw (w.withFollow "special-get-raises" false) 12000).map yH=some (Hook.val H (w.withFollow "special-get-raises" false)):=ou ((congrFun PySem.W.Fast.runF2_K05G_eq w).trans (by kernel_rfl))
theorem Ms(w:World):(openEnds treeTable pw (w.withFollow "special-get-raises" false) 12000).map obs=some (openGood view loose,Hook.val H (w.withFollow "special-get-raises" false)):=both (JE w) (J5 w)
def zh(w:World):=oG pw 12000 yG (w.withFollow "special-get-raises" true)
theorem DM:zh=zh:=rfl
name_quick runT1_K05G for K05G.zh by K05G.DM
theorem Hk(w:World):(openEnds treeTable pw (w.withFollow "special-get-raises" true) 12000).map yG=some (openGood view loose):=ou ((congrFun PySem.W.Fast.runT1_K05G_eq w).trans (by kernel_rfl))
def z6(w:World):=oG pw 12000 yH (w.withFollow "special-get-raises" true)
theorem Cv:z6=z6:=rfl
name_quick runT2_K05G for K05G.z6 by K05G.Cv
theorem Iz(w:World):(openEnds treeTable pw (w.withFollow "special-get-raises" true) 12000).map yH=some (Hook.val H (w.withFollow "special-get-raises" true)):=ou ((congrFun PySem.W.Fast.runT2_K05G_eq w).trans (by kernel_rfl))
theorem L9(w:World):(openEnds treeTable pw (w.withFollow "special-get-raises" true) 12000).map obs=some (openGood view loose,Hook.val H (w.withFollow "special-get-raises" true)):=both (Hk w) (Iz w)
theorem left:LeftO pw view loose seen (Hook.obs H) (Hook.val H) 12000:=byRow2 "special-get-raises" (P:=fun w=>(openEnds treeTable pw w 12000).map obs=some (openGood view loose,Hook.val H w)) Ms L9
section
variable (P:Params)
theorem l0:(K P).lookup 302=some JJ:=by kernel_rfl
theorem l1:(K P).lookup 309=some Jk:=by kernel_rfl
theorem l2:(K P).lookup 316=some Im:=by kernel_rfl
theorem l3:(K P).lookup 323=some Kk:=by kernel_rfl
theorem l4:(K P).lookup 330=some HG:=by kernel_rfl
theorem l6:(K P).lookup 337=some HJ:=by kernel_rfl
theorem l7:(K P).lookup 344=some JM:=by kernel_rfl
theorem l8:(K P).lookup 351=some Jo:=by kernel_rfl
theorem Q5:(K P).lookup 402=some Hx:=by kernel_rfl
theorem RV:(K P).lookup 409=some H9:=by kernel_rfl
theorem RT:(K P).lookup 416=some IX:=by kernel_rfl
theorem QR:(K P).lookup 423=some Kn:=by kernel_rfl
theorem Ri:(K P).lookup 430=some JZ:=by kernel_rfl
theorem Rh:(K P).lookup 437=some HS:=by kernel_rfl
theorem RZ:(K P).lookup 444=some Ic:=by kernel_rfl
theorem Rc:(K P).lookup 451=some HH:=by kernel_rfl
theorem Rj:(K P).lookup 458=some Ka:=by kernel_rfl
theorem RU:(K P).lookup 465=some G8:=by kernel_rfl
theorem RX:(K P).lookup 475=some Kv:=by kernel_rfl
theorem RP:(K P).lookup 482=some Ir:=by kernel_rfl
theorem QY:(K P).lookup 489=some G6:=by kernel_rfl
theorem Q2:(K P).lookup 503=some IM:=by kernel_rfl
theorem RN:(K P).lookup 510=some IL:=by kernel_rfl
theorem Q6:(K P).lookup 517=some KY:=by kernel_rfl
theorem Rv:(K P).lookup 524=some IA:=by kernel_rfl
theorem Ru:(K P).lookup 531=some IT:=by kernel_rfl
theorem Ra:(K P).lookup 538=some Hl:=by kernel_rfl
theorem RG:(K P).lookup 545=some G5:=by kernel_rfl
theorem Rr:(K P).lookup 559=some IG:=by kernel_rfl
theorem QU:(K P).lookup 846=some KS:=by kernel_rfl
theorem QV:(K P).lookup 902=some J6:=by kernel_rfl
theorem Q3:(K P).lookup 909=some HE:=by kernel_rfl
theorem Ry:(K P).lookup 921=some K6:=by kernel_rfl
theorem Rn:(K P).lookup 926=some G0:=by kernel_rfl
theorem QX:(K P).lookup 933=some Kf:=by kernel_rfl
theorem RH:(K P).lookup 940=some Jj:=by kernel_rfl
theorem RC:(K P).lookup 945=some Ht:=by kernel_rfl
theorem RM:(K P).lookup 950=some Kg:=by kernel_rfl
theorem QW:(K P).lookup 955=some He:=by kernel_rfl
theorem R0:(K P).lookup 962=some Hy:=by kernel_rfl
theorem Rx:(K P).lookup 969=some Iu:=by kernel_rfl
theorem Q7:(K P).lookup 976=some Ji:=by kernel_rfl
theorem Rp:(K P).lookup 983=some Ki:=by kernel_rfl
theorem QP:(K P).lookup 990=some IW:=by kernel_rfl
theorem Jz:(K P).lookup 468=some Hu:=by kernel_rfl
theorem vt:(K P).lookup 467=some KP:=by kernel_rfl
theorem rH:(K P).lookup 295=some Js:=by kernel_rfl
theorem Qa:(K P).lookup 395=some IU:=by kernel_rfl
theorem CI:(K P).lookup 209=some Ko:=by kernel_rfl
theorem GA:(K P).lookup 210=some K0:=by kernel_rfl
theorem M7:(K P).lookup 394=some Km:=by kernel_rfl
theorem zB:(K P).lookup 466=some (Kw P):=by kernel_rfl
theorem sU:(K P).lookup 329=some HK:=by kernel_rfl
theorem pO:(K P).lookup 350=some K5:=by kernel_rfl
theorem Om:(K P).lookup 4=some o4:=by kernel_rfl
theorem cG:GoodC (K P) 548:=by exact xn
theorem zS:GoodC (K P) 884:=by exact xn
end
theorem OU:∀f N b fn,dP.lookup f=some (N,b,fn)->T[f]?=some fn:=by
 intro f N b fn e;rw[di] at e;by_cases hz:f=5
 .subst hz;cases e;rfl
 .rw[show (f== 5)=false from jq.mpr hz] at e;rw[di] at e;by_cases hz:f=9
  .subst hz;cases e;rfl
  .rw[show (f== 9)=false from jq.mpr hz] at e;cases e
theorem QS:∀p,∀t∈tb,(K p).lookup t.P=none:=fun p=>by
 simp only[uv];exact⟨(by kernel_rfl),(by kernel_rfl),fun _ h=>nomatch h⟩
theorem RJ:∀p,∀t∈tb,∃c od sl vs,(K p).lookup c=some ⟨.type "code",od,.fields vs,sl⟩/\vs[11]?=some (.ref t.P):=fun p=>by
 simp only[uv];exact⟨⟨329,_,_,_,sU p,rfl⟩,⟨350,_,_,_,pO p,rfl⟩,fun _ h=>nomatch h⟩
theorem facts(w:World)(mg:Str->Option Value)(h:Heap)(KX:(K w.params).In h)(G:h.Ns mainGlobals mg):(∀d∈Ds,d.key≠.dP->∃g fd,iN (K w.params) mg tb d g fd)/\(∀x∈cg,mg x=none)/\(∀x w',cf.cons.lookup x=some w'->kE (K w.params) mg x w')/\(∀x g,cf.nums.lookup x=some g->lN (K w.params) mg x g)/\(∀c fs,cf.cT.lookup c=some fs->oW (K w.params) mg c fs)/\pY (K w.params) mg cf:=by
 refine⟨?D,?B,?C,?N,?X,?E,?H,?I⟩
 case E=>
  exact uo
 case H=>
  exact xX
 case I=>
  exact xX
 case X=>
  exact uo
 case N=>
  refine eB (Jg (t:=466) KX G (by kernel_rfl) (zB _) ⟨rfl,rfl,rfl⟩ rfl (by kernel_rfl)) ?_;exact vh
 case C=>
  refine eB (r0 (t:=468) (zs:=[([110,117,109,98,101,114],860),([121,101,115],861),([110,111],862),([110,111,110,101],863),([102,117,110],864),([98,111,116,104],865),([109,111,114,101],866),([108,105,107,101,112,97,105,114],867),([108,105,107,101,114,111,119],868),([101,110,100],869)]) KX G (by kernel_rfl) (Jz _) (by decide) rfl) ?_;refine eB (r0 (t:=467) (zs:=[([108,105,107,101],856),([108,105,107,101,112,97,105,114],857),([108,105,107,101,114,111,119],858)]) KX G (by kernel_rfl) (vt _) (by decide) rfl) ?_;refine eB (r0 (t:=295) (zs:=[([99,97,108,108],570),([98,111,116,104],571),([108,101,102,116],572),([114,105,103,104,116],573),([109,111,114,101],574),([102,111,108,100],575),([105,102],576),([115,117,109],577),([108,101,115,115],578),([108,105,107,101,112,97,105,114],579),([108,105,107,101,114,111,119],580)]) KX G (by kernel_rfl) (rH _) (by decide) rfl) ?_;refine eB (qy (t:=395) (z:=[110,111]) KX G (by kernel_rfl) (Qa _) rfl) ?_;refine eB (qy (t:=209) (z:=[110,117,109,98,101,114]) KX G (by kernel_rfl) (CI _) rfl) ?_;refine eB (qy (t:=210) (z:=[116,114,117,116,104]) KX G (by kernel_rfl) (GA _) rfl) ?_;refine eB (qy (t:=394) (z:=[121,101,115]) KX G (by kernel_rfl) (M7 _) rfl) ?_;exact vh
 case D=>
  show ∀d∈ [d0,d1,d2,d3,d4,d5,d6,d7,d8,d9,Np,OE,Na,NM,OA,NQ,N8,NG,Ng,N6,N5,OB,N0,N4,OK,Nk,Ow,NC,N7,Nc,OD,N1,NU,Ol,Oi,N9,Nr,NN,NK,Nx,Oe,OC,Nf,Og,NX,Oy],_;simp only[uv];refine⟨?_,?_,?_,?_,?_,?_,?_,?_,?_,?_,?_,?_,?_,?_,?_,?_,?_,?_,?_,?_,?_,?_,?_,?_,?_,?_,?_,?_,?_,?_,?_,?_,?_,?_,?_,?_,?_,?_,?_,?_,?_,?_,?_,?_,?_,?_,fun _ h=>nomatch h⟩
  .exact fun _=>a8 (f:=302) KX G (l0 _) (fun _ _ _ _ _ _=>gP (fun _=>rfl))
  .exact fun _=>a8 (f:=309) KX G (l1 _) (fun _ _ _ _ _ _=>lj (fun _ _=>rfl))
  .exact fun _=>a8 (f:=316) KX G (l2 _) (fun _ _ _ _ _ _=>mH (fun _ _ _=>rfl))
  .exact fun _=>a8 (f:=323) KX G (l3 _) (fun _ _ _ _ _ _=>lj (fun _ _=>rfl))
  .exact fun _=>EJ (f:=330) (c:=329) (P:=325) (bm:=4) KX G (by kernel_rfl) (l4 _) (by kernel_rfl) (by kernel_rfl) (fun _ _ _ _ _ _=>lj (fun _ _=>rfl)) (sU _) rfl rfl rfl rfl rfl (by decide) (.head _) (by intro t ht;rcases eZ.mp ht with rfl|ht;exact fun _=>rfl;rcases eZ.mp ht with rfl|ht;exact fun h=>absurd h (by decide);exact nomatch ht) (by kernel_rfl) (by decide) (by decide) (Om _)
  .exact fun h=>absurd rfl h
  .exact fun _=>a8 (f:=337) KX G (l6 _) (fun _ _ _ _ _ _=>gP (fun _=>rfl))
  .exact fun _=>a8 (f:=344) KX G (l7 _) (fun _ _ _ _ _ _=>gP (fun _=>rfl))
  .exact fun _=>EJ (f:=351) (c:=350) (P:=346) (bm:=4) KX G (by kernel_rfl) (l8 _) (by kernel_rfl) (by kernel_rfl) (fun _ _ _ _ _ _=>gP (fun _=>rfl)) (pO _) rfl rfl rfl rfl rfl (by decide) (.tail _ (.head _)) (by intro t ht;rcases eZ.mp ht with rfl|ht;exact fun h=>absurd h (by decide);rcases eZ.mp ht with rfl|ht;exact fun _=>rfl;exact nomatch ht) (by kernel_rfl) (by decide) (by decide) (Om _)
  .exact fun h=>absurd rfl h
  .exact fun _=>a8 (f:=402) KX G (Q5 _) (fun _ _ _ _ _ _=>lj (fun _ _=>rfl))
  .exact fun _=>a8 (f:=409) KX G (RV _) (fun _ _ _ _ _ _=>gP (fun _=>rfl))
  .exact fun _=>a8 (f:=416) KX G (RT _) (fun _ _ _ _ _ _=>lj (fun _ _=>rfl))
  .exact fun _=>a8 (f:=423) KX G (QR _) (fun _ _ _ _ _ _=>lj (fun _ _=>rfl))
  .exact fun _=>a8 (f:=430) KX G (Ri _) (fun _ _ _ _ _ _=>gP (fun _=>rfl))
  .exact fun _=>a8 (f:=437) KX G (Rh _) (fun _ _ _ _ _ _=>mH (fun _ _ _=>rfl))
  .exact fun _=>a8 (f:=444) KX G (RZ _) (fun _ _ _ _ _ _=>mH (fun _ _ _=>rfl))
  .exact fun _=>a8 (f:=451) KX G (Rc _) (fun _ _ _ _ _ _=>mH (fun _ _ _=>rfl))
  .exact fun _=>a8 (f:=458) KX G (Rj _) (fun _ _ _ _ _ _=>mH (fun _ _ _=>rfl))
  .exact fun _=>a8 (f:=465) KX G (RU _) (fun _ _ _ _ _ _=>mH (fun _ _ _=>rfl))
  .exact fun _=>a8 (f:=475) KX G (RX _) (fun _ _ _ _ _ _=>gP (fun _=>rfl))
  .exact fun _=>a8 (f:=482) KX G (RP _) (fun _ _ _ _ _ _=>gP (fun _=>rfl))
  .exact fun _=>a8 (f:=489) KX G (QY _) (fun _ _ _ _ _ _=>mH (fun _ _ _=>rfl))
  .exact fun _=>xS (f:=503) (C:=548) KX G (Q2 _) (cG _) (fun _ _ _ _ _ _=>lj (fun _ _=>rfl))
  .exact fun _=>oB (f:=510) (C:=548) KX G (RN _) (cG _) (fun _ _ _ _ _ _=>gP (fun _=>rfl))
  .exact fun _=>oB (f:=517) (C:=548) KX G (Q6 _) (cG _) (fun _ _ _ _ _ _=>gP (fun _=>rfl))
  .exact fun _=>oB (f:=524) (C:=548) KX G (Rv _) (cG _) (fun _ _ _ _ _ _=>gP (fun _=>rfl))
  .exact fun _=>oB (f:=531) (C:=548) KX G (Ru _) (cG _) (fun _ _ _ _ _ _=>gP (fun _=>rfl))
  .exact fun _=>oB (f:=538) (C:=548) KX G (Ra _) (cG _) (fun _ _ _ _ _ _=>lj (fun _ _=>rfl))
  .exact fun _=>oB (f:=545) (C:=548) KX G (RG _) (cG _) (fun _ _ _ _ _ _=>gP (fun _=>rfl))
  .exact fun _=>a8 (f:=559) KX G (Rr _) (fun _ _ _ _ _ _=>lj (fun _ _=>rfl))
  .exact fun _=>xS (f:=846) (C:=884) KX G (QU _) (zS _) (fun _ _ _ _ _ _=>gP (fun _=>rfl))
  .exact fun _=>a8 (f:=902) KX G (QV _) (fun _ _ _ _ _ _=>lj (fun _ _=>rfl))
  .exact fun _=>a8 (f:=909) KX G (Q3 _) (fun _ _ _ _ _ _=>gP (fun _=>rfl))
  .exact fun _=>a8 (f:=921) KX G (Ry _) (fun _ _ _ _ _ _=>mH (fun _ _ _=>rfl))
  .exact fun _=>a8 (f:=926) KX G (Rn _) (fun _ _ _ _ _ _=>gP (fun _=>rfl))
  .exact fun _=>a8 (f:=933) KX G (QX _) (fun _ _ _ _ _ _=>lj (fun _ _=>rfl))
  .exact fun _=>a8 (f:=940) KX G (RH _) (fun _ _ _ _ _ _=>NR (fun _ _ _ _=>rfl))
  .exact fun _=>a8 (f:=945) KX G (RC _) (fun _ _ _ _ _ _=>NR (fun _ _ _ _=>rfl))
  .exact fun _=>a8 (f:=950) KX G (RM _) (fun _ _ _ _ _ _=>gP (fun _=>rfl))
  .exact fun _=>a8 (f:=955) KX G (QW _) (fun _ _ _ _ _ _=>mH (fun _ _ _=>rfl))
  .exact fun _=>a8 (f:=962) KX G (R0 _) (fun _ _ _ _ _ _=>mH (fun _ _ _=>rfl))
  .exact fun _=>a8 (f:=969) KX G (Rx _) (fun _ _ _ _ _ _=>gP (fun _=>rfl))
  .exact fun _=>a8 (f:=976) KX G (Q7 _) (fun _ _ _ _ _ _=>lj (fun _ _=>rfl))
  .exact fun _=>a8 (f:=983) KX G (Rp _) (fun _ _ _ _ _ _=>mH (fun _ _ _=>rfl))
  .exact fun _=>a8 (f:=990) KX G (QP _) (fun _ _ _ _ _ _=>gP (fun _=>rfl))
 case B=>
  exact JA KX G
theorem walk{l:OpenLaw}{q:Program}{lo:List Str}{XP:(Str->Option Value)->Heap->Prop}{YP:World->Heap->Prop}{d:DefRec}(hn:l.most=some 63)(hdf:d.params.defaults=[])(hY:∀(w:World)(h:Heap),YP w h->(KF w.params).In h)(hd:d.name= "law"):WalkO q lo XP YP l.row.toRowW d [] (fun f vs=>PySem.call f vs):=
 CN (T:=T) (Ds:=Ds) (cf:=cf) (dP:=dP) (tb:=tb) (K:=K) (KF:=KF) (i:=45) (k:=630) (by decide) rfl rfl rfl QZ OU rfl hn hdf hY (fun _=>rfl) QS RJ hd facts (by exact⟨rfl,by decide,by decide⟩) fun ns hl=>BC ns
end K05G
open PySem PySem.W PyProof.Rows
set_option maxRecDepth 100000 in
set_option maxHeartbeats 0 in
theorem PySem.Challenge.cw_twomeet_k05_steps_of_cores_holds : PySem.Challenge.rw_twomeet_k05_steps_of_cores.Holds := by
 w_on;o_law
 refine holds_open (q:=K05G.view) (loose:=K05G.loose) (Xt:=K05G.seen) (XP:=XL K05G.view []) (Yf:=Hook.obs K05G.H) (Ya:=Hook.val K05G.H) (YP:=Hook.says K05G.H) (N:=12000) K05G.left (Hook.of K05G.H) (Hook.keeps K05G.H) (fun s e=>xl_of s (xp.mp e).1) XL.keeps (by rfl) (by rfl) (by rfl) (fun s e=>recFacts_of (xp.mp e).2) (by rfl) (by assumption) (by decide+kernel) ⟨rfl,rfl,rfl,rfl,rfl,by decide+kernel⟩ ?hw ?hc
 case hw=>w_witness2
 exact K05G.walk (l:=PySem.Challenge.rw_twomeet_k05_steps_of_cores) rfl rfl (fun w h Y=>kIn_of Y) rfl

