import PyProof.Rows.All
import Wide.All
import OpenK.AllK
import Wide.FinOn
import Lean
import PyProof.EqAt
import PyProof.EqKinds
import PyProof.TupleCall
import PySem.Challenge.RW_twomeet_k14_shelves_apart
set_option Elab.async false
set_option linter.all false
set_option maxRecDepth 100000
set_option maxHeartbeats 4000000
noncomputable section
theorem Exists.g{α:Sort u}{p:α->Prop}{b:Prop}(h:∃x,p x)(k:∀a,p a->b):b:=Exists.elim h k
theorem And.g{a b c:Prop}(h:a/\b)(k:a->b->c):c:=k h.1 h.2
theorem Exists.g4{α:Sort u}{β:Sort v}{p q s:α->β->Prop}{r:Prop}(h:∃a b,p a b/\q a b/\s a b)(k:∀a b,p a b->q a b->s a b->r):r:=h.elim fun a h=>h.elim fun b h=>k a b h.1 h.2.1 h.2.2
theorem Exists.g6{α:Sort u}{β:Sort v}{γ:Sort w}{p q s t:α->β->γ->Prop}{r:Prop}(h:∃a b c,p a b c/\q a b c/\s a b c/\t a b c)(k:∀a b c,p a b c->q a b c->s a b c->t a b c->r):r:=h.elim fun a h=>h.elim fun b h=>h.elim fun c h=>k a b c h.1 h.2.1 h.2.2.1 h.2.2.2
namespace L2
open PySem PySem.Spec PyProof.Rows
noncomputable abbrev Key:=Sum Int Str
noncomputable def gF:Key->Value->Bool
 |.inl k,v=>Value.isInt k v
 |.inr x,v=>Value.isStrOf x v
noncomputable def O5(w:World):Key->Int
 |.inl k=>hashInt k
 |.inr x=>hashStr w x
theorem b7:∀{k:Key}{v:Value},gF k v=true->(∃i t,k=Sum.inl i/\v=Value.int i t)\/(∃x t,k=Sum.inr x/\v=Value.str x t)
 |.inl i,v,h=>by
  obtain⟨t,e⟩:=Value.isInt_shape (k:=i) (v:=v) h;exact .inl ⟨i,t,rfl,e⟩
 |.inr x,v,h=>by
  obtain⟨t,e⟩:=Value.isStrOf_shape (x:=x) (v:=v) h;exact .inr ⟨x,t,rfl,e⟩
theorem zu(i:Int)(t:Tok):gF (.inl i) (.int i t)=true:=by simp[gF,Value.isInt]
theorem yZ(x:Str)(t:Tok):gF (.inr x) (.str x t)=true:=by simp[gF,Value.isStrOf]
theorem tP(a b:Int):decide ((Sum.inl a:Key)=Sum.inl b)=(a== b):=by
 by_cases e:a=b
 .subst e;simp
 .have h:¬ (Sum.inl a:Key)=Sum.inl b:=fun q=>e (Sum.inl.inj q);rw[decide_eq_false h];exact (beq_eq_false_iff_ne.mpr e).symm
theorem vv(a b:Str):decide ((Sum.inr a:Key)=Sum.inr b)=decide (a=b):=by
 by_cases e:a=b
 .subst e;simp
 .have h:¬ (Sum.inr a:Key)=Sum.inr b:=fun q=>e (Sum.inr.inj q);rw[decide_eq_false h,decide_eq_false e]
theorem t8(a:Int)(b:Str):decide ((Sum.inl a:Key)=Sum.inr b)=false:=decide_eq_false (fun q=>nomatch q)
theorem uZ(a:Str)(b:Int):decide ((Sum.inr a:Key)=Sum.inl b)=false:=decide_eq_false (fun q=>nomatch q)
def bD(prog:Program)(w:World):PySem.KeyKind prog w Key where
 is:=gF
 hash:=O5 w
 inj:=fun v a b ha hb=>by
  rcases b7 ha with ⟨i,t,rfl,rfl⟩|⟨x,t,rfl,rfl⟩
  .rcases b7 hb with ⟨j,u,rfl,e⟩|⟨y,u,rfl,e⟩
   .injection e with e1 _;rw[e1]
   .exact nomatch e
  .rcases b7 hb with ⟨j,u,rfl,e⟩|⟨y,u,rfl,e⟩
   .exact nomatch e
   .injection e with e1 _;rw[e1]
 byValue:=fun k v h=>by
  rcases b7 h with ⟨i,t,rfl,rfl⟩|⟨x,t,rfl,rfl⟩<;>rfl
 pyHash:=fun hv h=>by
  rcases b7 hv with ⟨i,t,rfl,rfl⟩|⟨x,t,rfl,rfl⟩
  .exact wpAny_pyHash_int h
  .exact wpAny_pyHash_str h
 eqBool:=fun hu hv h=>by
  rcases b7 hu with ⟨i,t,rfl,rfl⟩|⟨x,t,rfl,rfl⟩
  .rcases b7 hv with ⟨j,u,rfl,rfl⟩|⟨y,u,rfl,rfl⟩
   .rw[tP] at h;exact wpAny_eqBool_int h
   .rw[t8] at h;exact SeqAt.EqAt.int_str i t y u _ _ _ _ h
  .rcases b7 hv with ⟨j,u,rfl,rfl⟩|⟨y,u,rfl,rfl⟩
   .rw[uZ] at h;exact SeqAt.EqAt.str_int x t j u _ _ _ _ h
   .rw[vv] at h;exact wpAny_eqBool_str h
 «strs» := fun k x t v h=>by
  rcases b7 h with ⟨i,u,rfl,e⟩|⟨y,u,rfl,e⟩
  .exact nomatch e
  .injection e with e1 _;subst e1;cases v<;>rfl
theorem vI(prog:Program)(w:World)(i:Int)(t:Tok):(bD prog w).is (.inl i) (.int i t)=true:=zu i t
theorem vE(prog:Program)(w:World)(x:Str)(t:Tok):(bD prog w).is (.inr x) (.str x t)=true:=yZ x t
inductive V where
 |ah|bl (b:Bool)|int (i:Int)|str (x:Str)|byt (b:Array UInt8)|flt (b:UInt64)|ref (a:Addr)|ty (n:String)
 deriving DecidableEq
noncomputable def RelV:V->Value->Prop
 |.ah,u=>u=Value.none
 |.bl b,u=>u=Value.bool b
 |.int i,u=>∃t,u=Value.int i t
 |.str x,u=>∃t,u=Value.str x t
 |.byt b,u=>∃t,u=Value.bytes b t
 |.flt b,u=>∃t,u=Value.float b t
 |.ref a,u=>u=Value.ref a
 |.ty n,u=>u=Value.type n
noncomputable abbrev Vals:List V->List Value->Prop:=Paired RelV
theorem Vals.length{xs:List V}{us:List Value}(r:Vals xs us):xs.length=us.length:=Paired.length r
theorem Vals.get:∀{xs:List V}{us:List Value}{i:Nat}{x:V},Vals xs us->xs[i]?=some x->∃u,us[i]?=some u/\RelV x u
 |_,_,_,_,.nil,e=>by simp at e
 |_,_,0,_,.cons r _,e=>by simp at e;subst e;exact⟨_,rfl,r⟩
 |_,_,i+1,x,.cons _ t,e=>by
  obtain⟨u,h1,h2⟩:=Vals.get (i:=i) (x:=x) t (by simpa using e);exact⟨u,by simpa using h1,h2⟩
theorem Vals.set{x:V}{u:Value}(r:RelV x u):∀{xs:List V}{us:List Value}(i:Nat),Vals xs us->Vals (xs.set i x) (us.set i u)
 |_,_,_,.nil=>.nil
 |_,_,0,.cons _ t=>.cons r t
 |_,_,i+1,.cons q t=>.cons q (Vals.set r i t)
theorem Vals.append:∀{xs ys:List V}{us ws:List Value},Vals xs us->Vals ys ws->Vals (xs++ys) (us++ws)
 |_,_,_,_,.nil,s=>s
 |_,_,_,_,.cons r t,s=>.cons r (Vals.append t s)
theorem Vals.take:∀{xs:List V}{us:List Value}(n:Nat),Vals xs us->Vals (xs.take n) (us.take n)
 |_,_,0,_=>.nil
 |_,_,_+1,.nil=>.nil
 |_,_,n+1,.cons r t=>.cons r (Vals.take n t)
theorem Vals.drop:∀{xs:List V}{us:List Value}(n:Nat),Vals xs us->Vals (xs.drop n) (us.drop n)
 |_,_,0,r=>r
 |_,_,_+1,.nil=>.nil
 |_,_,n+1,.cons _ t=>Vals.drop n t
noncomputable def dC:Option V->Option Value->Prop
 |some v,some u=>RelV v u
 |none,none=>True
 |_,_=>False
noncomputable def KV{κ:Type}:List (κ×V)->List (κ×Value)->Prop:=Paired fun (p:κ×V) (q:κ×Value)=>p.1=q.1/\RelV p.2 q.2
noncomputable def kV:Key->V
 |.inl i=>.int i
 |.inr x=>.str x
inductive HO where
 |lst (xs:List V)
 |tup (xs:List V)
 |dK (kvs:List (Key×V))|dT (kvs:List (List Key×V))
 |set (S:Int->Bool) (n:Nat)
 |ins (C dx:Addr) (fs:List (Str×V))
 |own (x:Addr)
 |xd (fs:List (Str×V))
 |met (f x:Addr)
 |fN (lo hi:Int)
 |bE (o:Obj) (u:HO)
 |tZ (ps:Array Value)
 |ext (φ:Heap->Prop)
noncomputable abbrev Hp:=Addr->Option HO
noncomputable def upd(H:Hp)(a:Addr)(o:HO):Hp:=fun b=>if b=a then some o else H b
theorem aJ{H:Hp}{a:Addr}{o:HO}:upd H a o a=some o:=by unfold upd;rw[if_pos rfl]
theorem aq{H:Hp}{a b:Addr}{o:HO}(h:b≠a):upd H a o b=H b:=by unfold upd;rw[if_neg h]
theorem nM{H:Hp}{a:Addr}{o u:HO}:upd (upd H a o) a u=upd H a u:=by funext b;unfold upd;split<;>rfl
theorem LD{H:Hp}{a b:Addr}{o u:HO}(h:H a=some o)(h':H b=some u)(d:o≠u):a≠b:=by intro e;subst e;rw[h] at h';exact d (Option.some.inj h')
theorem bV{H:Hp}{a b:Addr}{o:HO}(h:H a=some o)(h':H b=none):a≠b:=by intro e;subst e;rw[h] at h';cases h'
section
variable (P:Program) (w:World)
def bJ(H:Hp)(h:Heap)(a:Addr):HO->Prop
 |.lst xs=>xs.length<=sizeLine/\∃(its:List Value) (n:Nat),Vals xs its/\h.get? a=some {cls:=.type "list",data:=.seq its.toArray n}
 |.tup xs=>xs.length<=sizeLine/\∃its:List Value,Vals xs its/\IsTup h a its.toArray
 |.dK kvs=>kvs.length<=sizeLine/\(a== sysModules)=false/\∃vs,KV kvs vs/\h.DictOf (bD P w) a vs
 |.dT kvs=>kvs.length<=sizeLine/\(a== sysModules)=false/\∃xs:List (List Key×Addr×Value),
   Paired (fun (p:List Key×V) (q:List Key×Addr×Value)=>p.1=q.1/\H q.2.1=some (.tup (p.1.map kV))/\RelV p.2 q.2.2) kvs xs/\
   ∃o es ep,h.get? a=some o/\o.ExactDict/\o.data=.dict es ep/\es.toList=xs.map (entryOfKey (tupleKind (bD P w)))/\(xs.map (·.1)).Nodup
 |.set S n=>h.SetOf (intKind P w) a S n
 |.ins C dx fs=>H dx=some (.own a)/\fs.length<=1000/\dx≠a/\h.get? a=some (PySem.W.instObj C dx)/\
   ∃mA,h.Ns1 dx mA/\(∀f,dC (fs.lookup f) (mA f))/\PySem.Within mA (fs.map (·.1))
 |.own _=>∃o,h.get? a=some o
 |.xd fs=>∃mA,h.Ns1 a mA/\∀f,dC (fs.lookup f) (mA f)
 |.fN lo hi=>∃t u v,h.get? a=some {cls:=.type "range",data:=.fields #[.int lo t,.int hi u,.int 1 v]}
 |.bE o u=>h.get? a=some o/\bJ H h a u
 |.tZ ps=>h.get? a=some {cls:=.none,data:=.fields ps}
 |.met f x=>h.get? a=some (PySem.W.methodObj (.ref f) (.ref x))
 |.ext φ=>φ h/\(∃o,h.get? a=some o)/\∀h1 h2:Heap,φ h1->(∀o,h1.get? a=some o->h2.get? a=some o)->φ h2
def cq(H:Hp)(h:Heap):Prop:=∀a o,H a=some o->bJ P w H h a o
end
section
variable {P:Program}{w:World}{H H':Hp}{h h':Heap}{a:Addr}{o:HO}
theorem bJ.lt(x:bJ P w H h a o):a<h.objs.size:=by
 cases o with
 |lst xs=>obtain⟨_,_,_,_,e⟩:=x;exact Heap.lt_size e
 |tup xs=>obtain⟨_,_,_,p⟩:=x;exact p.lt
 |dK kvs=>obtain⟨_,_,_,_,o,_,_,e,_⟩:=x;exact Heap.lt_size e
 |dT kvs=>obtain⟨_,_,_,_,o,_,_,e,_⟩:=x;exact Heap.lt_size e
 |set S n=>obtain⟨o,_,_,_,e,_⟩:=x;exact Heap.lt_size e
 |ins C dx fs=>obtain⟨_,_,_,e,_⟩:=x;exact Heap.lt_size e
 |own y=>obtain⟨_,e⟩:=x;exact Heap.lt_size e
 |xd fs=>obtain⟨_,⟨_,_,_,e,_⟩,_⟩:=x;exact Heap.lt_size e
 |fN lo hi=>obtain⟨_,_,_,e⟩:=x;exact Heap.lt_size e
 |bE ob u=>obtain⟨e,_⟩:=x;exact Heap.lt_size e
 |tZ ps=>exact Heap.lt_size (show h.get? a=some _ from x)
 |met f y=>exact Heap.lt_size (show h.get? a=some _ from x)
 |ext φ=>obtain⟨_,⟨_,e⟩,_⟩:=x;exact Heap.lt_size e
theorem Paired.Cm{α β:Type}{F G:α->β->Prop}:∀{l₁:List α}{l₂:List β},Paired F l₁ l₂->(∀a b,F a b->G a b)->Paired G l₁ l₂
 |_,_,.nil,_=>.nil
 |_,_,.cons r t,f=>.cons (f _ _ r) (Paired.Cm t f)
theorem bJ.eV(x:bJ P w H h a o)(k:∀b u,(b=a\/H b=some (.own a))->h.get? b=some u->h'.get? b=some u)
  (ho:∀b,H b=some (.own a)->H' b=some (.own a)) (ht:∀b xs,H b=some (.tup xs)->H' b=some (.tup xs)):bJ P w H' h' a o:=by
 induction o with
 |lst xs=>obtain⟨z,its,n,r,e⟩:=x;exact⟨z,its,n,r,k _ _ (.inl rfl) e⟩
 |tup xs=>obtain⟨z,its,r,ob,e,c⟩:=x;exact⟨z,its,r,ob,k _ _ (.inl rfl) e,c⟩
 |dK kvs=>obtain⟨z,y,vs,r,ob,es,ep,e,c⟩:=x;exact⟨z,y,vs,r,ob,es,ep,k _ _ (.inl rfl) e,c⟩
 |dT kvs=>
  obtain⟨z,y,xs,r,ob,es,ep,e,c⟩:=x;exact⟨z,y,xs,Paired.Cm r fun p q z=>⟨z.1,ht _ _ z.2.1,z.2.2⟩,ob,es,ep,k _ _ (.inl rfl) e,c⟩
 |set S n=>obtain⟨ob,es,ep,t,e,c⟩:=x;exact⟨ob,es,ep,t,k _ _ (.inl rfl) e,c⟩
 |ins C dx fs=>
  obtain⟨d,z,ne,e,mA,⟨od,es,ep,e2,c⟩,r⟩:=x;exact⟨ho _ d,z,ne,k _ _ (.inl rfl) e,mA,⟨od,es,ep,k _ _ (.inr d) e2,c⟩,r⟩
 |own y=>obtain⟨ob,e⟩:=x;exact⟨ob,k _ _ (.inl rfl) e⟩
 |xd fs=>obtain⟨mA,⟨od,es,ep,e,c⟩,r⟩:=x;exact⟨mA,⟨od,es,ep,k _ _ (.inl rfl) e,c⟩,r⟩
 |fN lo hi=>obtain⟨t,u,v,e⟩:=x;exact⟨t,u,v,k _ _ (.inl rfl) e⟩
 |bE ob u ih=>obtain⟨e,q⟩:=x;exact⟨k _ _ (.inl rfl) e,ih q⟩
 |tZ ps=>
  have e:h.get? a=some {cls:=.none,data:=.fields ps}:=x;show h'.get? a=some {cls:=.none,data:=.fields ps};exact k a _ (.inl rfl) e
 |met f y=>
  have e:h.get? a=some (PySem.W.methodObj (.ref f) (.ref y)):=x;show h'.get? a=some (PySem.W.methodObj (.ref f) (.ref y));exact k a _ (.inl rfl) e
 |ext φ=>obtain⟨p,⟨o,e⟩,st⟩:=x;exact⟨st _ _ p fun o q=>k _ _ (.inl rfl) q,⟨o,k _ _ (.inl rfl) e⟩,st⟩
theorem cq.lt(x:cq P w H h)(e:H a=some o):a<h.objs.size:=(x a o e).lt
theorem cq.fresh(x:cq P w H h)(e:h.objs.size<=a):H a=none:=by
 cases q:H a with
 |none=>rfl
 |some u=>exact absurd (Nat.lt_of_lt_of_le (x.lt q) e) (Nat.lt_irrefl _)
theorem cq.kept(x:cq P w H h)(k:∀b u,h.get? b=some u->h'.get? b=some u):cq P w H h':=fun a o e=>
 (x a o e).eV (fun b u _ q=>k b u q) (fun _ q=>q) fun _ _ q=>q
theorem cq.laid(x:cq P w H h)(k:∀b u,h.get? b=some u->h'.get? b=some u)(hp:h.objs.size<=a)(new:bJ P w (upd H a o) h' a o):cq P w (upd H a o) h':=fun b u e=>by
 have hn:=x.fresh hp;by_cases hb:b=a
 .subst hb;rw[aJ] at e;cases e;exact new
 .rw[aq hb] at e;exact (x b u e).eV (fun c v _ q=>k c v q) (fun c q=>by rw[aq (bV q hn)];exact q) fun c xs q=>by rw[aq (bV q hn)];exact q
end
def Rd(H:Hp)(a:Addr)(u:HO):Prop:=H a=some u\/∃o,H a=some (.bE o u)
theorem Rd.ok{P:Program}{w:World}{H:Hp}{h:Heap}{a:Addr}{u:HO}(r:Rd H a u)(x:cq P w H h):bJ P w H h a u:=by
 rcases r with r|⟨o,r⟩
 .exact x a u r
 .obtain⟨_,q⟩:=x a _ r;exact q
noncomputable def zY:Option HO->Prop
 |some (.lst _)=>True
 |some (.dK _)=>True
 |some (.dT _)=>True
 |some (.set _ _)=>True
 |some (.ins _ _ _)=>True
 |some (.ext _)=>True
 |_=>False
section
variable {P:Program}{w:World}{H:Hp}{h h':Heap}{x e:Addr}{o':HO}
theorem cq.write(ok:cq P w H h)(mu:zY (H x))(he:e=x\/H e=some (.own x))(k:∀b u,b≠e->h.get? b=some u->h'.get? b=some u)(heo:∃u,h'.get? e=some u)
  (new:bJ P w (upd H x o') h' x o'):cq P w (upd H x o') h':=fun b u q=>by
 have nown:∀c y,H c=some (.own y)->c≠x:=fun c y r z=>by subst z;rw[r] at mu;exact mu
 have ntup:∀c xs,H c=some (.tup xs)->c≠x:=fun c xs r z=>by subst z;rw[r] at mu;exact mu
 by_cases hb:b=x
 .subst hb;rw[aJ] at q;cases q;exact new
 .rw[aq hb] at q;by_cases hbe:b=e
  .have q':H b=some (.own x):=by
    rcases he with z|z
    .exact absurd (hbe.trans z) hb
    .rw[hbe];exact z
   rw[q] at q';cases q';obtain⟨v,hv⟩:=heo;exact⟨v,by rw[hbe];exact hv⟩
  .refine (ok b u q).eV (fun c v hc r=>k c v ?_ r) (fun c r=>by rw[aq (nown c b r)];exact r) fun c xs r=>by rw[aq (ntup c xs r)];exact r
   rcases hc with rfl|hc
   .exact hbe
   .rintro rfl
    rcases he with z|z
    .exact nown c b hc z
    .rw[hc] at z;cases z;exact hb rfl
end
structure Un(fs ex:List Addr)(H H':Hp)(h h':Heap):Prop where
 keep:∀b o,h.get? b=some o->H b=none->b∉fs->b∉ex->h'.get? b=some o
 slot:∀b o,h.get? b=some o->H b=none->b∈fs->b∉ex->∃sl,h'.get? b=some {o with slots:=sl}
 free:∀b o,h.get? b=some o->H b=none->b∉ex->H' b=none
 there:∀b o,h.get? b=some o->b∉ex->∃o',h'.get? b=some o'
 fq:∀b xs,H b=some (.tup xs)->H' b=some (.tup xs)
 eP:∀b o u,H b=some (.bE o u)->H' b=some (.bE o u)
 fh:∀b ps,H b=some (.tZ ps)->∃more,H' b=some (.tZ (ps++more))
section
variable {fs fs' ex ex':List Addr}{H H1 H2:Hp}{h h1 h2 h':Heap}{a x e:Addr}{o:HO}
theorem Un.any(u:Un fs ex H H1 h h1){b:Addr}{ob:Obj}(q:h.get? b=some ob)(n:H b=none)(hx:b∉ex):∃sl,h1.get? b=some {ob with slots:=sl}:=by
 by_cases hb:b∈fs
 .exact u.slot b ob q n hb hx
 .exact⟨ob.slots,u.keep b ob q n hb hx⟩
theorem Un.trans(a:Un fs ex H H1 h h1)(b:Un fs ex H1 H2 h1 h2):Un fs ex H H2 h h2 where
 keep:=fun c ob q n hc hx=>b.keep c ob (a.keep c ob q n hc hx) (a.free c ob q n hx) hc hx
 slot:=fun c ob q n hc hx=>by
  obtain⟨sl,e1⟩:=a.slot c ob q n hc hx;obtain⟨sl',e2⟩:=b.slot c _ e1 (a.free c ob q n hx) hc hx;exact⟨sl',e2⟩
 free:=fun c ob q n hx=>by
  obtain⟨o',e1⟩:=a.there c ob q hx;exact b.free c o' e1 (a.free c ob q n hx) hx
 there:=fun c ob q hx=>by
  obtain⟨o',e1⟩:=a.there c ob q hx;exact b.there c o' e1 hx
 fq:=fun c xs q=>b.fq c xs (a.fq c xs q)
 eP:=fun c ob xs q=>b.eP c ob xs (a.eP c ob xs q)
 fh:=fun c ps q=>by
  obtain⟨m1,e1⟩:=a.fh c ps q;obtain⟨m2,e2⟩:=b.fh c _ e1;exact⟨m1++m2,by rw[e2,Array.append_assoc]⟩
theorem Un.kept(k:∀b u,h.get? b=some u->h'.get? b=some u):Un fs ex H H h h':=
 ⟨fun b ob q _ _ _=>k b ob q,fun b ob q _ _ _=>⟨ob.slots,k b ob q⟩,fun _ _ _ n _=>n,fun b ob q _=>⟨ob,k b ob q⟩,fun _ _ q=>q,fun _ _ _ q=>q,fun _ ps q=>⟨#[],by rw[q];simp⟩⟩
theorem Un.refl:Un fs ex H H h h:=Un.kept fun _ _ q=>q
theorem Un.laid(k:∀b u,h.get? b=some u->h'.get? b=some u)(hp:h.objs.size<=a)(hn:H a=none):Un fs ex H (upd H a o) h h' where
 keep:=fun b u q _ _ _=>k b u q
 slot:=fun b u q _ _ _=>⟨u.slots,k b u q⟩
 free:=fun b u q n _=>by rw[aq (Nat.ne_of_lt (Nat.lt_of_lt_of_le (Heap.lt_size q) hp))];exact n
 there:=fun b u q _=>⟨u,k b u q⟩
 fq:=fun b xs q=>by rw[aq (bV q hn)];exact q
 eP:=fun b u xs q=>by rw[aq (bV q hn)];exact q
 fh:=fun b ps q=>⟨#[],by rw[aq (bV q hn),q];simp⟩
theorem Un.write(mu:zY (H x))(he:e=x\/H e=some (.own x))(k:∀b u,b≠e->h.get? b=some u->h'.get? b=some u)(heo:∃u,h'.get? e=some u):Un fs ex H (upd H x o) h h':=by
 have hx:∀b,H b=none->b≠x:=fun b n z=>by subst z;rw[n] at mu;exact mu
 have hb:∀b,H b=none->b≠e:=fun b n z=>by
  subst z;rcases he with r|r
  .exact hx b n r
  .rw[n] at r;cases r
 have hm:∀b u,H b=some u->¬ zY (some u)->b≠x:=fun b u q nm z=>by subst z;rw[q] at mu;exact nm mu
 refine⟨fun b u q n _ _=>k b u (hb b n) q,fun b u q n _ _=>⟨u.slots,k b u (hb b n) q⟩,fun b u q n _=>by rw[aq (hx b n)];exact n,fun b u q _=>?_,
  fun b xs q=>by rw[aq (hm b _ q fun z=>z)];exact q,fun b u xs q=>by rw[aq (hm b _ q fun z=>z)];exact q,fun b ps q=>⟨#[],by rw[aq (hm b _ q fun z=>z),q];simp⟩⟩
 by_cases hbe:b=e
 .subst hbe;exact heo
 .exact⟨u,k b u hbe q⟩
theorem Un.mono(u:Un fs ex H H1 h h1)(hs:∀b∈fs,b∈fs')(hx:∀b∈ex,b∈ex'):Un fs' ex' H H1 h h1:=
 ⟨fun b ob q n hb he=>u.keep b ob q n (fun z=>hb (hs b z)) fun z=>he (hx b z),fun _ _ q n _ he=>u.any q n fun z=>he (hx _ z),fun b ob q n he=>u.free b ob q n fun z=>he (hx b z),fun b ob q he=>u.there b ob q fun z=>he (hx b z),u.fq,u.eP,u.fh⟩
end
noncomputable def DJ(h:Heap)(H:Hp):List Addr:=(List.range h.objs.size).filter fun a=>(H a).isSome
def kW(h:Heap)(H:Hp):Heap:=PySem.W.hideAll h (DJ h H)
theorem Ba(h:Heap)(H:Hp):(kW h H).objs.size=h.objs.size:=PySem.W.hideAll_size _ _
theorem CM{h:Heap}{H:Hp}{b:Addr}{o:Obj}(e:h.get? b=some o)(n:H b=none):(kW h H).get? b=some o:=
 PySem.W.hideAll_get _ e fun hm=>by
  have q:(H b).isSome=true:=(List.mem_filter.mp hm).2;rw[n] at q;simp at q
theorem EH{h:Heap}{H:Hp}{b:Addr}{o:Obj}(e:(kW h H).get? b=some o):h.get? b=some o/\H b=none:=by
 have e':h.get? b=some o:=PySem.W.of_hideAll (DJ h H) e;refine⟨e',?_⟩;cases q:H b with
 |none=>rfl
 |some x=>
  have hm:b∈DJ h H:=List.mem_filter.mpr ⟨List.mem_range.mpr (Heap.lt_size e'),by simp[q]⟩;have z:(kW h H).get? b=none:=PySem.W.hideAll_none (DJ h H) hm;rw[z] at e;cases e
noncomputable def Gn(g h:Heap)(L:Addr):List (Addr×Obj):=(List.range h.objs.size).filterMap fun a=>if a=L\/(g.get? a).isSome=true then none else (h.get? a).map fun o=>(a,o)
noncomputable def rest(g h:Heap)(L d:Addr):List (Addr×Obj):=(Gn g h L).filter fun p=>decide (p.1≠d)
structure Mod(K:PySem.W.Frag)(mg:Str->Option Value)(base:Heap):Prop where
 p7:K.In base
 glob:base.Ns mainGlobals mg
 blt:∃mb,base.Ns builtinsNs mb/\∀x:Str,x≠ "__name__" ->mb x=bootBuiltins x
 nolimit:base.NoLimit
/-- the context:a def's body (or a comprehension's block) running. base:fixed through the whole law;aI,j4:the entry;outer:the frames whose slots others may change (a def's callers);stack:all frames that run;
  ex:iterators that were made ahead of the entry and are walked here (a comprehension's);fn:the names whose cells were made at the entry (a def:all;a comprehension's block:its own);calm:not within an except suite;pn:pins that every state bears;xe:what is wanted of an exception that leaves the code -/
structure Cx where
 prog:Program
 w:World
 K:PySem.W.Frag
 mg:Str->Option Value
 base:Heap
 A:Around
 N:List Str
 aI:Shared
 j4:Hp
 env:Env
 outer:List Env
 stack:List Env
 ex:List Addr
 fn:Str->Bool
 calm:Bool
 pn:List (Addr×Obj)
 xe:Value->Shared->Prop
noncomputable def bK(l:List Env):List Addr:=l.filterMap (·.frame)
noncomputable abbrev Cx.fs(X:Cx):List Addr:=bK X.outer
noncomputable def iX(sc:Scope)(x:Str):Prop:=sc.names.lookup x=some .local\/sc.names.lookup x=some .cell\/sc.names.lookup x=some .free
noncomputable def Loc(sc:Scope)(x:Str):Prop:=sc.names.lookup x=some .local\/sc.names.lookup x=some .cell
def Look(env:Env)(h:Heap)(m:Str->Option Value)(x:Str)(u:Value):Prop:=
 (env.kindOf x=some .local/\m x=some u)\/((env.kindOf x=some .cell\/env.kindOf x=some .free)/\∃c,env.cells.lookup x=some c/\h.IsCell c (some u))
structure Cx.Ok(X:Cx):Prop where
 mod:Mod X.K X.mg X.base
 kind:X.env.scope.kind=.function
 glob:X.env.globals=mainGlobals
 blt:X.env.builtins=builtinsNs
 above:X.aI.heap.objs.size<=X.env.locals
 inj:∀x y c,X.env.cells.lookup x=some c->X.env.cells.lookup y=some c->x=y
 has:∀x,(X.env.kindOf x=some .cell\/X.env.kindOf x=some .free)->∃c,X.env.cells.lookup x=some c
 qm:∀x c,X.fn x=true->X.env.cells.lookup x=some c->X.aI.heap.objs.size<=c
 hd:X.calm=true->X.A.handled=none
 frames:X.A.frames=some X.stack
 rF:X.stack=X.outer\/(X.stack=X.env::X.outer/\X.env.frame=some X.env.locals)
 wI:∀b∈X.ex,b≠X.env.locals/\∀x c,X.env.cells.lookup x=some c->c≠b
 bs:∀b o,X.base.get? b=some o->X.aI.heap.get? b=some o/\X.j4 b=none
 kQ:X.base.objs.size<=X.aI.heap.objs.size
 kX:∀b o,X.base.get? b=some o->b∉X.ex
 mr:∀b∈X.ex,b∉X.fs
 fQ:X.aI.heap.FunFrames X.base X.outer
 mR:∀b∈X.fs,X.j4 b=none
structure Inv(X:Cx)(pins:List (Addr×Obj))(σ:List (Option V))(H:Hp)(s:Shared):Prop where
 ok:X.Ok
 os:s.os=X.aI.os
 bare:AllBare s.gens
 base:Un X.fs X.ex X.j4 H X.aI.heap s.heap
 loc:∃m,s.heap.Ns X.env.locals m/\∀(i:Nat)(x:Str)(v:V),X.N[i]?=some x->σ[i]?=some (some v)->iX X.env.scope x->∃u,RelV v u/\Look X.env s.heap m x u
 cell:∀x c,X.env.cells.lookup x=some c->∃v,s.heap.IsCell c v
 free:H X.env.locals=none
 dJ:∀x c,X.env.cells.lookup x=some c->H c=none
 pin:∀p∈X.pn++pins,s.heap.get? p.1=some p.2/\H p.1=none/\p.1≠X.env.locals/\p.1∉X.fs/\∀v,p.2.data≠.cell v
 ao:cq X.prog X.w H s.heap
 len:σ.length=X.N.length
section
variable {X:Cx}{pins:List (Addr×Obj)}{σ:List (Option V)}{H H':Hp}{s:Shared}{h':Heap}
theorem Cx.Ok.Ob(ok:X.Ok){b:Addr}{o:Obj}(e:X.base.get? b=some o):b∉X.fs:=fun hb=>by
 have:=(ok.fQ.mem hb).1;rw[e] at this;cases this
theorem Inv.bs(I:Inv X pins σ H s):∀b o,X.base.get? b=some o->s.heap.get? b=some o/\H b=none:=fun b o e=>
 ⟨I.base.keep b o (I.ok.bs b o e).1 (I.ok.bs b o e).2 (I.ok.Ob e) (I.ok.kX b o e),I.base.free b o (I.ok.bs b o e).1 (I.ok.bs b o e).2 (I.ok.kX b o e)⟩
theorem Inv.bk(I:Inv X pins σ H s):∀b o,X.base.get? b=some o->s.heap.get? b=some o:=fun b o e=>(I.bs b o e).1
theorem Inv.mod(I:Inv X pins σ H s):Mod X.K X.mg X.base:=I.ok.mod
theorem Inv.cR(I:Inv X pins σ H s):X.K.In s.heap:=I.ok.mod.p7.keeps I.bk
theorem Inv.lt(I:Inv X pins σ H s):X.env.locals<s.heap.objs.size:=let ⟨_,hn,_⟩:=I.loc;hn.lt
theorem Inv.sz(I:Inv X pins σ H s):X.aI.heap.objs.size<=s.heap.objs.size:=Nat.le_trans I.ok.above (Nat.le_of_lt I.lt)
theorem Inv.Ow(I:Inv X pins σ H s){a:Addr}(h:s.heap.objs.size<=a):a∉X.fs:=fun hb=>by
 obtain⟨_,o,ho,_⟩:=I.ok.fQ.mem hb;exact absurd (Nat.lt_of_lt_of_le (Heap.lt_size ho) (Nat.le_trans I.sz h)) (Nat.lt_irrefl _)
theorem Inv.nZ(I:Inv X pins σ H s):∀x c,X.env.cells.lookup x=some c->c≠X.env.locals:=fun x c e z=>by
 obtain⟨v,o,ho,hd⟩:=I.cell x c e;obtain⟨m,⟨o',es,ep,ho',hd',_⟩,_⟩:=I.loc;rw[z,ho'] at ho;cases ho;rw[hd'] at hd;cases hd
theorem Inv.fQ(I:Inv X pins σ H s):s.heap.FunFrames X.base X.outer:=by
 have all:∀(l:List Env),(∀b∈bK l,b∈X.fs)->X.aI.heap.FunFrames X.base l->s.heap.FunFrames X.base l:=by
  intro l
  induction l with
  |nil=>intro _ _;trivial
  |cons env r ih=>
   intro hs hl;obtain⟨hk,⟨L,o,hf,hn,ho,hd⟩,hr⟩:=hl;have hL:L∈X.fs:=hs L (by unfold bK;rw[List.filterMap_cons,hf];exact List.mem_cons_self);obtain⟨sl,e⟩:=I.base.slot L o ho (I.ok.mR L hL) hL fun z=>I.ok.mr L z hL;exact⟨hk,⟨L,_,hf,hn,e,hd⟩,ih (fun b hb=>hs b (by unfold bK;rw[List.filterMap_cons,hf];exact List.mem_cons_of_mem _ hb)) hr⟩
 exact all X.outer (fun _ hb=>hb) I.ok.fQ
theorem Inv.stack(I:Inv X pins σ H s):s.heap.FunFrames X.base X.stack:=by
 rcases I.ok.rF with e|⟨e,hf⟩
 .rw[e];exact I.fQ
 .rw[e];obtain⟨m,hn,_⟩:=I.loc;refine .cons (by rw[I.ok.kind];decide) hf hn ?_ I.fQ;exact Heap.get?_none_of_le (Nat.le_trans I.ok.kQ I.ok.above)
theorem Inv.kB(I:Inv X pins σ H s):∀b∈bK X.stack,b∈X.env.locals::X.fs:=fun b hb=>by
 rcases I.ok.rF with e|⟨e,hf⟩
 .rw[e] at hb;exact List.mem_cons_of_mem _ hb
 .rw[e] at hb;unfold bK at hb;rw[List.filterMap_cons,hf] at hb;exact hb
theorem Inv.kM(I:Inv X pins σ H s):∀b∈bK X.stack,H b=none:=fun b hb=>by
 rcases List.mem_cons.mp (I.kB b hb) with e|hb
 .rw[e];exact I.free
 .obtain⟨_,o,ho,_⟩:=I.ok.fQ.mem hb;exact I.base.free b o ho (I.ok.mR b hb) fun z=>I.ok.mr b z hb
theorem Inv.step{g':Array GenState}{t':Nat}{d':Drawn}{ch:List Addr}(I:Inv X pins σ H s)
  (hch:∀b∈ch,(b∈X.ex\/X.aI.heap.objs.size<=b)/\b≠X.env.locals/\(∀x c,X.env.cells.lookup x=some c->c≠b)/\∀p∈X.pn++pins,p.1≠b)
  (keep:∀b o,b≠X.env.locals->b∉X.fs->b∉ch->s.heap.get? b=some o->H b=none->h'.get? b=some o)
  (slot:∀b o,b≠X.env.locals->b∈X.fs->b∉ch->s.heap.get? b=some o->H b=none->∃sl,h'.get? b=some {o with slots:=sl}) (free:∀b o,b∉ch->s.heap.get? b=some o->H b=none->H' b=none)
  (there:∀b o,b∉ch->s.heap.get? b=some o->∃o',h'.get? b=some o')
  (fq:∀b xs,H b=some (.tup xs)->H' b=some (.tup xs)) (eP:∀b o u,H b=some (.bE o u)->H' b=some (.bE o u)) (fh:∀b ps,H b=some (.tZ ps)->∃more,H' b=some (.tZ (ps++more)))
  (ns:∀m,s.heap.Ns X.env.locals m->h'.Ns X.env.locals m) (ao:cq X.prog X.w H' h') (hg:AllBare g'):
  Inv X pins σ H' {s with heap:=h',gens:=g',drawn:=d',toks:=t'}:=by
 have neL:∀b o,X.aI.heap.get? b=some o->b≠X.env.locals:=fun b o e=>Nat.ne_of_lt (Nat.lt_of_lt_of_le (Heap.lt_size e) I.ok.above);have neC:∀b o,X.aI.heap.get? b=some o->b∉X.ex->b∉ch:=fun b o e hx hb=>by
  rcases (hch b hb).1 with z|z
  .exact hx z
  .exact absurd (Nat.lt_of_lt_of_le (Heap.lt_size e) z) (Nat.lt_irrefl _)
 have cellK:∀x c,X.env.cells.lookup x=some c->∀v,s.heap.IsCell c v->h'.IsCell c v:=fun x c e v Z=>Z.g fun o Z=>Z.g fun ho hd=>by
  have nch:c∉ch:=fun z=>(hch c z).2.2.1 x c e rfl;by_cases hc:c∈X.fs
  .obtain⟨sl,q⟩:=slot c o (I.nZ x c e) hc nch ho (I.dJ x c e);exact⟨_,q,hd⟩
  .exact⟨o,keep c o (I.nZ x c e) hc nch ho (I.dJ x c e),hd⟩
 refine⟨I.ok,I.os,hg,⟨fun b o e n hb hx=>?_,fun b o e n hb hx=>?_,fun b o e n hx=>?_,fun b o e hx=>?_,fun b xs e=>fq b xs (I.base.fq b xs e),fun b o xs e=>eP b o xs (I.base.eP b o xs e),fun b ps e=>?_⟩,?_,fun x c e=>?_,?_,fun x c e=>?_,fun p hp=>?_,ao,I.len⟩
 .exact keep b o (neL b o e) hb (neC b o e hx) (I.base.keep b o e n hb hx) (I.base.free b o e n hx)
 .obtain⟨sl,e1⟩:=I.base.slot b o e n hb hx;obtain⟨sl',e2⟩:=slot b _ (neL b o e) hb (neC b o e hx) e1 (I.base.free b o e n hx);exact⟨sl',e2⟩
 .obtain⟨o',e1⟩:=I.base.there b o e hx;exact free b o' (neC b o e hx) e1 (I.base.free b o e n hx)
 .obtain⟨o',e1⟩:=I.base.there b o e hx;exact there b o' (neC b o e hx) e1
 .obtain⟨m1,e1⟩:=I.base.fh b ps e;obtain⟨m2,e2⟩:=fh b _ e1;exact⟨m1++m2,by rw[e2,Array.append_assoc]⟩
 .obtain⟨m,hn,hl⟩:=I.loc;refine⟨m,ns m hn,fun i x v e1 e2 e3=>?_⟩;obtain⟨u,r,l⟩:=hl i x v e1 e2 e3;refine⟨u,r,?_⟩;rcases l with l|⟨k,c,e,z⟩
  .exact .inl l
  .exact .inr ⟨k,c,e,cellK x c e _ z⟩
 .obtain⟨v,z⟩:=I.cell x c e;exact⟨v,cellK x c e v z⟩
 .obtain⟨m,⟨o,_,_,ho,_⟩,_⟩:=I.loc;exact free _ o (fun z=>(hch _ z).2.1 rfl) ho I.free
 .obtain⟨v,o,ho,hd⟩:=I.cell x c e;exact free c o (fun z=>(hch c z).2.2.1 x c e rfl) ho (I.dJ x c e)
 .obtain⟨e,n,ne,nf,d⟩:=I.pin p hp;have nch:p.1∉ch:=fun z=>(hch p.1 z).2.2.2 p hp rfl;exact⟨keep p.1 p.2 ne nf nch e n,free p.1 p.2 nch e n,ne,nf,d⟩
theorem Inv.un{t':Nat}(I:Inv X pins σ H s)(u:Un X.fs [] H H' s.heap h')(ao:cq X.prog X.w H' h'):Inv X pins σ H' {s with heap:=h',toks:=t'}:=by
 obtain⟨m,⟨o,es,ep,ho,r⟩,_⟩:=id I.loc;obtain⟨sl,hL⟩:=u.any ho I.free (by simp);exact I.step (g':=s.gens) (d':=s.drawn) (ch:=[]) (fun _ z=>nomatch z) (fun b o _ hb _ e n=>u.keep b o e n hb (by simp)) (fun b o _ hb _ e n=>u.slot b o e n hb (by simp)) (fun b o _ e n=>u.free b o e n (by simp)) (fun b o _ e=>u.there b o e (by simp)) u.fq u.eP u.fh (fun m' hm=>by
  obtain⟨o',es',ep',ho',r'⟩:=hm;rw[ho] at ho';cases ho';exact⟨_,es',ep',hL,r'⟩) ao I.bare
theorem Inv.call{g':Array GenState}{t':Nat}{d':Drawn}{ch:List Addr}(I:Inv X pins σ H s)(u:Un (bK X.stack) ch H H' s.heap h')(ao:cq X.prog X.w H' h')(hg:AllBare g')
  (hch:∀b∈ch,(b∈X.ex\/X.aI.heap.objs.size<=b)/\b≠X.env.locals/\(∀x c,X.env.cells.lookup x=some c->c≠b)/\∀p∈X.pn++pins,p.1≠b):
  Inv X pins σ H' {s with heap:=h',gens:=g',drawn:=d',toks:=t'}:=by
 obtain⟨m,⟨o,es,ep,ho,r⟩,_⟩:=id I.loc;obtain⟨sl,hL⟩:=u.any ho I.free fun z=>(hch _ z).2.1 rfl;exact I.step (ch:=ch) hch (fun b o hL hb hc e n=>u.keep b o e n (fun z=>(List.mem_cons.mp (I.kB b z)).elim hL hb) hc) (fun b o _ _ hc e n=>u.any e n hc) (fun b o hc e n=>u.free b o e n hc) (fun b o hc e=>u.there b o e hc) u.fq u.eP u.fh (fun m' hm=>by
  obtain⟨o',es',ep',ho',r'⟩:=hm;rw[ho] at ho';cases ho';exact⟨_,es',ep',hL,r'⟩) ao hg
theorem Inv.turned{t':Nat}{it:Addr}(I:Inv X pins σ H s)(k:∀b o,b≠it->s.heap.get? b=some o->h'.get? b=some o)(hn:H it=none)(hL:it≠X.env.locals)
  (h1:it∈X.ex\/X.aI.heap.objs.size<=it) (h2:∀x c,X.env.cells.lookup x=some c->c≠it) (h3:∀p∈X.pn++pins,p.1≠it):Inv X pins σ H {s with heap:=h',toks:=t'}:=by
 have nit:∀b u,H b=some u->b≠it:=fun b u e z=>by rw[z,hn] at e;cases e
 refine I.step (g':=s.gens) (d':=s.drawn) (ch:=[it]) (fun b hb=>?_) (fun b o _ _ hc e _=>k b o (fun z=>hc (by simp[z])) e) (fun b o _ _ hc e _=>⟨o.slots,k b o (fun z=>hc (by simp[z])) e⟩) (fun _ _ _ _ n=>n)
  (fun b o hc e=>⟨o,k b o (fun z=>hc (by simp[z])) e⟩) (fun _ _ e=>e) (fun _ _ _ e=>e) (fun b ps e=>⟨#[],by rw[e];simp⟩) (fun m hm=>?_) (fun b u e=>?_) I.bare
 .have e:b=it:=by simpa using hb
  subst e;exact⟨h1,hL,h2,h3⟩
 .obtain⟨o,es,ep,ho,r⟩:=hm;exact⟨o,es,ep,k _ o (Ne.symm hL) ho,r⟩
 .refine (I.ao b u e).eV (fun c v hc q=>k c v ?_ q) (fun _ q=>q) fun _ _ q=>q;rcases hc with z|z
  .rw[z];exact nit b u e
  .exact nit c _ z
theorem Inv.tok(I:Inv X pins σ H s)(t:Nat):Inv X pins σ H {s with toks:=t}:=I.un (h':=s.heap) (t':=t) Un.refl I.ao
theorem Inv.kept{t':Nat}(I:Inv X pins σ H s)(k:∀b u,s.heap.get? b=some u->h'.get? b=some u):Inv X pins σ H {s with heap:=h',toks:=t'}:=I.un (Un.kept k) (I.ao.kept k)
theorem Inv.laid{a:Addr}{o:HO}{t':Nat}(I:Inv X pins σ H s)(k:∀b u,s.heap.get? b=some u->h'.get? b=some u)(hp:s.heap.objs.size<=a)(new:bJ X.prog X.w (upd H a o) h' a o):
  Inv X pins σ (upd H a o) {s with heap:=h',toks:=t'}:=I.un (Un.laid k hp (I.ao.fresh hp)) (I.ao.laid k hp new)
theorem Inv.write{x e:Addr}{o:HO}{t':Nat}(I:Inv X pins σ H s)(mu:zY (H x))(he:e=x\/H e=some (.own x))(k:∀b u,b≠e->s.heap.get? b=some u->h'.get? b=some u)(heo:∃u,h'.get? e=some u)
  (new:bJ X.prog X.w (upd H x o) h' x o):Inv X pins σ (upd H x o) {s with heap:=h',toks:=t'}:=I.un (Un.write mu he k heo) (I.ao.write mu he k heo new)
theorem Inv.we{pins':List (Addr×Obj)}(I:Inv X pins σ H s)(h:∀p∈pins',s.heap.get? p.1=some p.2/\H p.1=none/\p.1≠X.env.locals/\p.1∉X.fs/\∀v,p.2.data≠.cell v):Inv X pins' σ H s:=
 ⟨I.ok,I.os,I.bare,I.base,I.loc,I.cell,I.free,I.dJ,fun p hp=>(List.mem_append.mp hp).elim (fun z=>I.pin p (List.mem_append_left _ z)) (h p),I.ao,I.len⟩
theorem oH{N:List Str}(hN:N.Nodup){i j:Nat}{x:Str}(a:N[i]?=some x)(b:N[j]?=some x):i=j:=by obtain⟨h1,e1⟩:=List.getElem?_eq_some_iff.mp a;obtain⟨h2,e2⟩:=List.getElem?_eq_some_iff.mp b;exact (List.getElem_inj hN).mp (e1.trans e2.symm)
theorem zk{M:Model}{A:Around}{E:Value->Shared->Prop}{i:Nat}{x:Str}{v:V}{u:Value}{Q:Unit->Shared->Prop}(I:Inv X pins σ H s)(hN:X.N.Nodup)(hi:X.N[i]?=some x)(hx:Loc X.env.scope x)(r:RelV v u)
  (h:∀s',Inv X pins (σ.set i (some v)) H s'->(∃a,Heap.SameBut a s.heap s'.heap/\(a=X.env.locals\/X.env.cells.lookup x=some a))->Q () s') (hf:X.fn x=true\/X.env.scope.names.lookup x=some .local:=by first|exact .inl rfl|exact .inr rfl|assumption):wpAny M A (storeName X.env x u) Q E s:=by
 obtain⟨m,hn,hl⟩:=id I.loc;have hcls:(X.env.scope.kind== .class || (X.env.scope.kind== .module&&X.env.locals != X.env.globals))=false:=by rw[I.ok.kind];rfl
 have hiσ:i<σ.length:=by rw[I.len];exact (List.getElem?_eq_some_iff.mp hi).1
 have nZ:=I.nZ;have tracked:∀{a:Addr}{h':Heap},(∃o,s.heap.get? a=some o/\H a=none)->Heap.SameBut a s.heap h'->cq X.prog X.w H h':=fun {a h'} ha hs b ob e=>by
  obtain⟨_,_,hfree⟩:=ha;refine (I.ao b ob e).eV (fun c w' hc q=>(hs.2 c ?_).trans q) (fun _ q=>q) fun _ _ q=>q
  rintro rfl
  rcases hc with rfl|hc
  .rw[hfree] at e;cases e
  .rw[hfree] at hc;cases hc
 rcases hx with hk|hk
 .refine wpAny_storeName_local hk hn (fun h' hn' hs=>?_) hcls;obtain⟨oL,_,_,hoL,_⟩:=id hn;refine h _ ⟨I.ok,I.os,I.bare,⟨fun b o e n hb hx=>?_,fun b o e n hb hx=>?_,I.base.free,fun b o e hx=>?_,I.base.fq,I.base.eP,I.base.fh⟩,⟨_,hn',fun j y v' e1 e2 e3=>?_⟩,fun y c e=>?_,I.free,I.dJ,fun p hp=>?_,tracked ⟨oL,hoL,I.free⟩ hs,by simpa using I.len⟩ ⟨_,hs,.inl rfl⟩
  .exact (hs.2 b (Nat.ne_of_lt (Nat.lt_of_lt_of_le (Heap.lt_size e) I.ok.above))).trans (I.base.keep b o e n hb hx)
  .obtain⟨sl,e1⟩:=I.base.slot b o e n hb hx;exact⟨sl,(hs.2 b (Nat.ne_of_lt (Nat.lt_of_lt_of_le (Heap.lt_size e) I.ok.above))).trans e1⟩
  .obtain⟨o',e1⟩:=I.base.there b o e hx;exact⟨o',(hs.2 b (Nat.ne_of_lt (Nat.lt_of_lt_of_le (Heap.lt_size e) I.ok.above))).trans e1⟩
  .by_cases hj:j=i
   .subst hj;rw[hi] at e1;cases e1;rw[List.getElem?_set_self hiσ] at e2;cases e2;exact⟨u,r,.inl ⟨hk,by simp⟩⟩
   .rw[List.getElem?_set_ne (Ne.symm hj)] at e2;obtain⟨u',r',q⟩:=hl j y v' e1 e2 e3;refine⟨u',r',?_⟩;rcases q with ⟨k,e⟩|⟨k,c,e,z⟩
    .refine .inl ⟨k,?_⟩;have:y≠x:=fun e=>hj (oH hN e1 (e▸hi));simp[this,e]
    .exact .inr ⟨k,c,e,z.sameBut hs (nZ y c e)⟩
  .obtain⟨w',z⟩:=I.cell y c e;exact⟨w',z.sameBut hs (nZ y c e)⟩
  .obtain⟨e,n,ne,nf,d⟩:=I.pin p hp;exact⟨(hs.2 p.1 ne).trans e,n,ne,nf,d⟩
 .have hfn:X.fn x=true:=by
   rcases hf with z|z
   .exact z
   .rw[z] at hk;cases hk
  obtain⟨c,hc⟩:=I.ok.has x (.inl hk);obtain⟨w',z⟩:=I.cell x c hc;refine wpAny_storeName_cell I.ok.kind hk hc z (fun h' hc' hs=>?_);obtain⟨oc,hoc,hocd⟩:=id z;refine h {s with heap:=h'} ⟨I.ok,I.os,I.bare,⟨fun b o e n hb hx=>?_,fun b o e n hb hx=>?_,I.base.free,fun b o e hx=>?_,I.base.fq,I.base.eP,I.base.fh⟩,⟨m,hn.sameBut hs (Ne.symm (nZ x c hc)),fun j y v' e1 e2 e3=>?_⟩,fun y c' e=>?_,I.free,I.dJ,fun p hp=>?_,tracked ⟨oc,hoc,I.dJ x c hc⟩ hs,by simpa using I.len⟩ ⟨c,hs,.inr hc⟩
  .exact (hs.2 b (Nat.ne_of_lt (Nat.lt_of_lt_of_le (Heap.lt_size e) (I.ok.qm x c hfn hc)))).trans (I.base.keep b o e n hb hx)
  .obtain⟨sl,e1⟩:=I.base.slot b o e n hb hx;exact⟨sl,(hs.2 b (Nat.ne_of_lt (Nat.lt_of_lt_of_le (Heap.lt_size e) (I.ok.qm x c hfn hc)))).trans e1⟩
  .obtain⟨o',e1⟩:=I.base.there b o e hx;exact⟨o',(hs.2 b (Nat.ne_of_lt (Nat.lt_of_lt_of_le (Heap.lt_size e) (I.ok.qm x c hfn hc)))).trans e1⟩
  .by_cases hj:j=i
   .subst hj;rw[hi] at e1;cases e1;rw[List.getElem?_set_self hiσ] at e2;cases e2;exact⟨u,r,.inr ⟨.inl hk,c,hc,hc'⟩⟩
   .rw[List.getElem?_set_ne (Ne.symm hj)] at e2;obtain⟨u',r',q⟩:=hl j y v' e1 e2 e3;refine⟨u',r',?_⟩;rcases q with q|⟨k,c',e,z'⟩
    .exact .inl q
    .refine .inr ⟨k,c',e,z'.sameBut hs ?_⟩
     rintro rfl
     exact hj (oH hN e1 (I.ok.inj _ _ _ e hc▸hi))
  .by_cases hcc:c'=c
   .subst hcc;exact⟨_,hc'⟩
   .obtain⟨w2,z2⟩:=I.cell y c' e;exact⟨w2,z2.sameBut hs hcc⟩
  .obtain⟨e,n,ne,nf,d⟩:=I.pin p hp;refine⟨(hs.2 p.1 ?_).trans e,n,ne,nf,d⟩;intro q;rw[q,hoc] at e;have q':oc=p.2:=Option.some.inj e;exact d w' (by rw[<-q'];exact hocd)
theorem jw{M:Model}{A:Around}{E:Value->Shared->Prop}{i:Nat}{x:Str}{v:V}{u:Value}{Q:Unit->Shared->Prop}(I:Inv X pins σ H s)(hN:X.N.Nodup)(hi:X.N[i]?=some x)(hx:Loc X.env.scope x)(r:RelV v u)
  (h:∀s',Inv X pins (σ.set i (some v)) H s'->Q () s') (hf:X.fn x=true\/X.env.scope.names.lookup x=some .local:=by first|exact .inl rfl|exact .inr rfl|assumption):wpAny M A (storeName X.env x u) Q E s:=
 zk I hN hi hx r (fun s' I' _=>h s' I') hf
theorem Inv.Em{s':Shared}{ch:List Addr}(I:Inv X pins σ H s)(ho:s'.os=s.os)(u:Un (bK X.stack) ch H H' s.heap s'.heap)(ao:cq X.prog X.w H' s'.heap)(hg:AllBare s'.gens)
  (hch:∀b∈ch,(b∈X.ex\/X.aI.heap.objs.size<=b)/\b≠X.env.locals/\(∀x c,X.env.cells.lookup x=some c->c≠b)/\∀p∈X.pn++pins,p.1≠b):Inv X pins σ H' s':=by
 obtain⟨h',g',d',t',o'⟩:=s';have e:o'=s.os:=ho;subst e;exact I.call (g':=g') (t':=t') (d':=d') u ao hg hch
end
noncomputable abbrev XK:=Value->Option Addr->Hp->Prop
noncomputable abbrev St:=List (Option V)
noncomputable abbrev VK:=V->Hp->Prop
noncomputable abbrev TE:=St->Hp->VK->Prop
noncomputable abbrev TT:=St->Hp->(Bool->Hp->Prop)->Prop
noncomputable abbrev TA:=St->Hp->(List V->Hp->Prop)->Prop
structure Ends where
 nx:St->Hp->Prop
 rt:VK
 bk:St->Hp->Prop:=fun _ _=>False
 ct:St->Hp->Prop:=fun _ _=>False
noncomputable abbrev TS:=Ends->St->Hp->Prop
def EP(X:Cx)(pins:List (Addr×Obj))(σ:St)(Q:VK)(u:Value)(s':Shared):Prop:=∃v H',Inv X pins σ H' s'/\RelV v u/\Q v H'
def TP(X:Cx)(pins:List (Addr×Obj))(σ:St)(Q:Bool->Hp->Prop)(b:Bool)(s':Shared):Prop:=∃H',Inv X pins σ H' s'/\Q b H'
def AP(X:Cx)(pins:List (Addr×Obj))(σ:St)(Q:List V->Hp->Prop)(us:List Value)(s':Shared):Prop:=∃vs H',Inv X pins σ H' s'/\Vals vs us/\Q vs H'
def SP(X:Cx)(pins:List (Addr×Obj))(D:Ends)(f:Flow)(s':Shared):Prop:=
 match f with
 |.next=>∃σ' H',Inv X pins σ' H' s'/\D.nx σ' H'
 |.brk=>∃σ' H',Inv X pins σ' H' s'/\D.bk σ' H'
 |.cont=>∃σ' H',Inv X pins σ' H' s'/\D.ct σ' H'
 |.ret u=>∃v σ' H',Inv X pins σ' H' s'/\RelV v u/\D.rt v H'
def PE(X:Cx)(e:Expr)(t:TE):Prop:=
 ∀(pins:List (Addr×Obj))(s:Shared)(σ:St)(H:Hp)(Q:VK),Inv X pins σ H s->t σ H Q->wpAny (model X.prog X.w) X.A (eval e X.env) (EP X pins σ Q) X.xe s
def PT(X:Cx)(e:Expr)(t:TT):Prop:=
 ∀(pins:List (Addr×Obj))(s:Shared)(σ:St)(H:Hp)(Q:Bool->Hp->Prop),Inv X pins σ H s->t σ H Q->wpAny (model X.prog X.w) X.A (isTrue e X.env (eval e X.env)) (TP X pins σ Q) X.xe s
def PW(X:Cx)(e:Expr)(t:TT):Prop:=
 ∀(whole:Sem Value)(pins:List (Addr×Obj))(s:Shared)(σ:St)(H:Hp)(Q:Bool->Hp->Prop),Inv X pins σ H s->t σ H Q->wpAny (model X.prog X.w) X.A (isTrue e X.env whole) (TP X pins σ Q) X.xe s
theorem PW.pt{X:Cx}{e:Expr}{t:TT}(h:PW X e t):PT X e t:=h _
def PA(X:Cx)(es:List Expr)(t:TA):Prop:=
 ∀(pos:Pos)(pins:List (Addr×Obj))(s:Shared)(σ:St)(H:Hp)(Q:List V->Hp->Prop),Inv X pins σ H s->t σ H Q->wpAny (model X.prog X.w) X.A (spliced (backTo pos (starEach es X.env))) (AP X pins σ Q) X.xe s
def PS(X:Cx)(st:Stmt)(t:TS):Prop:=
 ∀(pins:List (Addr×Obj))(s:Shared)(σ:St)(H:Hp)(D:Ends),Inv X pins σ H s->t D σ H->wpAny (model X.prog X.w) X.A (exec st X.env) (SP X pins D) X.xe s
def eB(X:Cx)(st:List Stmt)(t:TS):Prop:=
 ∀(pins:List (Addr×Obj))(s:Shared)(σ:St)(H:Hp)(D:Ends),Inv X pins σ H s->t D σ H->wpAny (model X.prog X.w) X.A (execs st X.env) (SP X pins D) X.xe s
theorem aC{α:Type}{t:Sem α}{Q Q':α->Shared->Prop}{M:Model}{A:Around}{E:Value->Shared->Prop}{s:Shared}(h:wpAny M A t Q E s)(hQ:∀a s,Q a s->Q' a s):wpAny M A t Q' E s:=wpAny_mono h hQ fun _ _ x=>x
section
variable {X:Cx}
noncomputable def uz(i:Nat):TE:=fun σ H Q=>∃v,σ[i]?=some (some v)/\Q v H
def tC(v:V):TE:=fun _ H Q=>Q v H
theorem kf{i:Nat}{x:Str}{pos:Pos}(hN:X.N[i]?=some x)(hv:iX X.env.scope x)(hd:(x== ("__debug__" : Str))=false:=by decide)(hcd:(x== ("__classdict__" : Str))=false:=by decide):PE X (.Name x pos) (uz i):=by
 intro pins s σ H Q I h;obtain⟨v,e,h⟩:=h;obtain⟨m,hn,hl⟩:=I.loc;obtain⟨u,r,l⟩:=hl i x v hN e hv;have fin:EP X pins σ Q u s:=⟨v,H,I,r,h⟩;rcases l with ⟨hk,hm⟩|⟨hk,c,hc,hcell⟩
 .exact wpAny_Name (wpAny_loadName_local I.ok.kind hk hn hm fin) hd
 .rcases hk with hk|hk
  .exact wpAny_Name (wpAny_loadName_cell I.ok.kind hk hc hcell fin) hd
  .exact wpAny_Name (wpAny_loadName_free I.ok.kind hk hc hcell fin hcd) hd
theorem Gy{i j pos}:PE X (.Constant (.int i) j pos) (tC (.int i)):=fun _ _ _ H _ I h=>wpAny_Constant_int ⟨.int i,H,I.tok _,⟨_,rfl⟩,h⟩
theorem Lj{b j pos}:PE X (.Constant (.bool b) j pos) (tC (.bl b)):=fun _ _ _ H _ I h=>Constant_bool ⟨.bl b,H,I,rfl,h⟩
theorem H8{j pos}:PE X (.Constant .none j pos) (tC .ah):=fun _ _ _ H _ I h=>Constant_none ⟨.ah,H,I,rfl,h⟩
theorem JR{x j pos}:PE X (.Constant (.str x) j pos) (tC (.str x)):=fun _ _ _ H _ I h=>Calls.Constant_str ⟨.str x,H,I.tok _,⟨_,rfl⟩,h⟩
def Gl(X:Cx)(x:Str):Prop:=X.env.kindOf x=some .globalImplicit
theorem ie{E:Value->Shared->Prop}{pins:List (Addr×Obj)}{s:Shared}{σ:St}{H:Hp}{x:Str}{u:Value}{pos:Pos}{Q:Value->Shared->Prop}(I:Inv X pins σ H s)(hg:Gl X x)(hm:X.mg x=some u)(h:Q u s)
  (hd:(x== ("__debug__" : Str))=false:=by decide):wpAny (model X.prog X.w) X.A (eval (.Name x pos) X.env) Q E s:=
 Calls.Name_function_global I.ok.kind hg (Calls.loadGlobal_global (by rw[I.ok.glob];exact I.mod.glob.keeps I.bk) hm h) hd
theorem mJ{E:Value->Shared->Prop}{pins:List (Addr×Obj)}{s:Shared}{σ:St}{H:Hp}{x:Str}{u:Value}{pos:Pos}{Q:Value->Shared->Prop}(I:Inv X pins σ H s)(hg:Gl X x)(hm:X.mg x=none)(hv:bootBuiltins x=some u)(h:Q u s)
  (hn:x≠ "__name__" := by decide) (hd:(x== ("__debug__" : Str))=false:=by decide):wpAny (model X.prog X.w) X.A (eval (.Name x pos) X.env) Q E s:=by
 obtain⟨mb,h1,h2⟩:=I.mod.blt;exact Calls.Name_function_global I.ok.kind hg (Calls.loadGlobal_builtin (by rw[I.ok.glob];exact I.mod.glob.keeps I.bk) hm (by rw[I.ok.blt];exact h1.keeps I.bk) ((h2 x hn).trans hv) h) hd
theorem qH{x:Str}{v:V}{u:Value}{pos:Pos}(hg:Gl X x)(hm:X.mg x=some u)(r:RelV v u)(hd:(x== ("__debug__" : Str))=false:=by decide):PE X (.Name x pos) (tC v):=
 fun _ _ _ H _ I h=>ie I hg hm ⟨v,H,I,r,h⟩ hd
variable {a b:Expr}{ta tb:TE}{pos:Pos}
variable {tA tB':TT}{rest:List Expr}
noncomputable def PF(t u:TT):TT:=fun σ H Q=>t σ H fun c H1=>if c=true then u σ H1 Q else Q false H1
noncomputable def Rj(t u:TT):TT:=fun σ H Q=>t σ H fun c H1=>if c=true then Q true H1 else u σ H1 Q
def OL(t:TT):TT:=fun σ H Q=>t σ H fun c H1=>Q (!c) H1
theorem FH(ha:PT X a tA):PW X (.BoolOp .And [a] pos) tA:=by
 intro wh pins s σ H Q I h;refine isTrue_and (aC (ha pins s σ H Q I h) fun c s1 e=>?_);cases c with
 |true=>exact isTrue_and_nil e
 |false=>exact e
theorem Iy(ha:PT X a tA):PW X (.BoolOp .Or [a] pos) tA:=by
 intro wh pins s σ H Q I h;refine isTrue_or (aC (ha pins s σ H Q I h) fun c s1 e=>?_);cases c with
 |false=>exact isTrue_or_nil e
 |true=>exact e
theorem GZ(ha:PT X a tA)(hb:PW X (.BoolOp .And (b::rest) pos) tB'):PW X (.BoolOp .And (a::b::rest) pos) (PF tA tB'):=by
 intro wh pins s σ H Q I h;refine isTrue_and (aC (ha pins s σ H _ I h) fun c s1 Z=>Z.g fun H1 Z=>Z.g fun I1 q1=>?_);cases c with
 |true=>exact hb wh pins s1 σ H1 Q I1 q1
 |false=>exact⟨H1,I1,q1⟩
theorem LC(ha:PT X a tA)(hb:PW X (.BoolOp .Or (b::rest) pos) tB'):PW X (.BoolOp .Or (a::b::rest) pos) (Rj tA tB'):=by
 intro wh pins s σ H Q I h;refine isTrue_or (aC (ha pins s σ H _ I h) fun c s1 Z=>Z.g fun H1 Z=>Z.g fun I1 q1=>?_);cases c with
 |true=>exact⟨H1,I1,q1⟩
 |false=>exact hb wh pins s1 σ H1 Q I1 q1
theorem HU(ha:PT X a tA):PT X (.UnaryOp .Not a pos) (OL tA):=by intro pins s σ H Q I h;exact isTrue_not (ha pins s σ H (fun c H1=>Q (!c) H1) I h)
noncomputable def LA(ta tb:TE):TE:=fun σ H Q=>ta σ H fun x H1=>∃c,x=.bl c/\if c=true then tb σ H1 Q else Q (.bl false) H1
noncomputable def P8(ta tb:TE):TE:=fun σ H Q=>ta σ H fun x H1=>∃c,x=.bl c/\if c=true then Q (.bl true) H1 else tb σ H1 Q
theorem II{op}{t:TE}(h:PE X a t):PE X (.BoolOp op [a] pos) t:=fun pins s σ H Q I hw=>BoolOp_one (h pins s σ H Q I hw)
theorem GQ(ha:PE X a ta)(hb:PE X (.BoolOp .And (b::rest) pos) tb):PE X (.BoolOp .And (a::b::rest) pos) (LA ta tb):=by
 intro pins s σ H Q I h;refine BoolOp_and (aC (ha pins s σ H _ I h) fun v s1 Z=>Z.g4 fun x H1 I1 r1 q1=>?_);obtain⟨c,rfl,q1⟩:=q1;cases r1;refine wpAny_truthy_bool ?_;cases c with
 |true=>exact hb pins s1 σ H1 Q I1 q1
 |false=>exact⟨.bl false,H1,I1,rfl,q1⟩
theorem LY(ha:PE X a ta)(hb:PE X (.BoolOp .Or (b::rest) pos) tb):PE X (.BoolOp .Or (a::b::rest) pos) (P8 ta tb):=by
 intro pins s σ H Q I h;refine BoolOp_or (aC (ha pins s σ H _ I h) fun v s1 Z=>Z.g4 fun x H1 I1 r1 q1=>?_);obtain⟨c,rfl,q1⟩:=q1;cases r1;refine wpAny_truthy_bool ?_;cases c with
 |false=>exact hb pins s1 σ H1 Q I1 q1
 |true=>exact⟨.bl true,H1,I1,rfl,q1⟩
noncomputable def QC(t:TT)(ta tb:TE):TE:=fun σ H Q=>t σ H fun c H1=>if c=true then ta σ H1 Q else tb σ H1 Q
theorem BS{c:Expr}(hc:PT X c tA)(ha:PE X a ta)(hb:PE X b tb):PE X (.IfExp c a b pos) (QC tA ta tb):=by
 intro pins s σ H Q I h;refine wpAny_IfExp (aC (hc pins s σ H _ I h) fun d s1 Z=>Z.g fun H1 Z=>Z.g fun I1 q1=>?_);cases d with
 |true=>exact ha pins s1 σ H1 Q I1 q1
 |false=>exact hb pins s1 σ H1 Q I1 q1
end
def bx(K:PySem.W.Frag)(H:Hp)(a:Addr)(xs:List V):Prop:=
 Rd H a (.lst xs)\/
  ∃(o:Obj) (its:Array Value) (n:Nat),K.lookup a=some o/\o.cls=.type "list" /\o.dict=none/\o.data=.seq its n/\its.size<=sizeLine/\Vals xs its.toList
def df(K:PySem.W.Frag)(H:Hp)(a:Addr)(xs:List V):Prop:=
 Rd H a (.tup xs)\/
  ∃(o:Obj) (its:Array Value) (n:Nat),K.lookup a=some o/\o.cls=.type "tuple" /\o.data=.seq its n/\its.size<=sizeLine/\Vals xs its.toList
noncomputable def Pf:Value->Option V
 |.none=>some .ah
 |.bool b=>some (.bl b)
 |.int i _=>some (.int i)
 |.str x _=>some (.str x)
 |.bytes b _=>some (.byt b)
 |.float b _=>some (.flt b)
 |.ref a=>some (.ref a)
 |.type n=>some (.ty n)
 |_=>none
theorem RelV.abs{x:V}{u:Value}(r:RelV x u):Pf u=some x:=by
 cases x with
 |ah=>cases r;rfl
 |bl _=>cases r;rfl
 |int _=>obtain⟨t,rfl⟩:=r;rfl
 |str _=>obtain⟨t,rfl⟩:=r;rfl
 |byt _=>obtain⟨t,rfl⟩:=r;rfl
 |flt _=>obtain⟨t,rfl⟩:=r;rfl
 |ref _=>cases r;rfl
 |ty _=>cases r;rfl
theorem RelV.inj{x y:V}{u:Value}(r:RelV x u)(q:RelV y u):x=y:=Option.some.inj (r.abs.symm.trans q.abs)
theorem Vals.inj:∀{xs ys:List V}{us:List Value},Vals xs us->Vals ys us->xs=ys
 |_,_,_,.nil,.nil=>rfl
 |_,_,_,.cons r t,.cons r' t'=>by rw[r.inj r',Vals.inj t t']
section
variable {X:Cx}{pins:List (Addr×Obj)}{σ:St}{H:Hp}{s:Shared}{a:Addr}{xs ys:List V}
theorem bx.of{K:PySem.W.Frag}(h:H a=some (.lst xs)):bx K H a xs:=.inl (.inl h)
theorem df.of{K:PySem.W.Frag}(h:H a=some (.tup xs)):df K H a xs:=.inl (.inl h)
theorem Inv.list(I:Inv X pins σ H s)(h:bx X.K H a xs):∃its:List Value,Vals xs its/\PlainL s.heap a its.toArray/\xs.length<=sizeLine:=by
 rcases h with h|⟨o,its,n,hk,hc,hd,hs,hz,r⟩
 .obtain⟨z,its,n,r,e⟩:=h.ok I.ao;exact⟨its,r,⟨_,n,e,rfl,rfl,rfl⟩,z⟩
 .refine⟨its.toList,r,⟨o,n,I.cR a o hk,hc,hd,by simpa using hs⟩,?_⟩;have e:=r.length;simp only[Array.length_toList] at e;omega
theorem Inv.tuple(I:Inv X pins σ H s)(h:df X.K H a xs):∃its:List Value,Vals xs its/\IsTup s.heap a its.toArray/\xs.length<=sizeLine:=by
 rcases h with h|⟨o,its,n,hk,hc,hs,hz,r⟩
 .obtain⟨z,its,r,p⟩:=h.ok I.ao;exact⟨its,r,p,z⟩
 .refine⟨its.toList,r,⟨o,I.cR a o hk,hc,n,by simpa using hs⟩,?_⟩;have e:=r.length;simp only[Array.length_toList] at e;omega
theorem Inv.oJ(I:Inv X pins σ H s)(h:bx X.K H a xs)(h':bx X.K H a ys):xs=ys:=by
 obtain⟨its,r,⟨o,n,e,_,_,d⟩,_⟩:=I.list h;obtain⟨its',r',⟨o',n',e',_,_,d'⟩,_⟩:=I.list h';rw[e] at e';cases e';rw[d] at d';injection d' with d1 _;have:its=its':=by simpa using congrArg Array.toList d1
 subst this;exact r.inj r'
theorem Inv.rV(I:Inv X pins σ H s)(h:df X.K H a xs)(h':df X.K H a ys):xs=ys:=by
 obtain⟨its,r,⟨o,e,_,n,d⟩,_⟩:=I.tuple h;obtain⟨its',r',⟨o',e',_,n',d'⟩,_⟩:=I.tuple h';rw[e] at e';cases e';rw[d] at d';injection d' with d1 _;have:its=its':=by simpa using congrArg Array.toList d1
 subst this;exact r.inj r'
end
noncomputable abbrev Cx.kT(X:Cx)(E:Value->Shared->Prop):Cx:={X with xe:=E}
abbrev Cx.kr(X:Cx):Cx:=X.kT fun _ _=>False
theorem Cx.Ok.kT{X:Cx}(ok:X.Ok)(E:Value->Shared->Prop):(X.kT E).Ok:=
 ⟨ok.mod,ok.kind,ok.glob,ok.blt,ok.above,ok.inj,ok.has,ok.qm,ok.hd,ok.frames,ok.rF,ok.wI,ok.bs,ok.kQ,ok.kX,ok.mr,ok.fQ,ok.mR⟩
theorem Cx.Ok.mQ{X:Cx}{E:Value->Shared->Prop}(ok:(X.kT E).Ok):X.Ok:=
 ⟨ok.mod,ok.kind,ok.glob,ok.blt,ok.above,ok.inj,ok.has,ok.qm,ok.hd,ok.frames,ok.rF,ok.wI,ok.bs,ok.kQ,ok.kX,ok.mr,ok.fQ,ok.mR⟩
section
variable {X:Cx}{pins:List (Addr×Obj)}{σ:St}{H:Hp}{s:Shared}{E:Value->Shared->Prop}
theorem Inv.kT(I:Inv X pins σ H s)(E:Value->Shared->Prop):Inv (X.kT E) pins σ H s:=⟨I.ok.kT E,I.os,I.bare,I.base,I.loc,I.cell,I.free,I.dJ,I.pin,I.ao,I.len⟩
theorem Inv.mQ(I:Inv (X.kT E) pins σ H s):Inv X pins σ H s:=⟨I.ok.mQ,I.os,I.bare,I.base,I.loc,I.cell,I.free,I.dJ,I.pin,I.ao,I.len⟩
end
section
variable {X:Cx}{st:Stmt}{rest:List Stmt}{t u:TS}{e:Expr}{te:TE}{pos:Pos}
noncomputable def xV:TS:=fun D σ H=>D.nx σ H
def CU(t u:TS):TS:=fun D σ H=>t {D with nx:=u D} σ H
theorem xj:eB X [] xV:=fun _ _ σ H _ I h=>wpAny_execs_nil ⟨σ,H,I,h⟩
theorem oP(h1:PS X st t)(h2:eB X rest u):eB X (st::rest) (CU t u):=by
 intro pins s σ H D I h;refine wpAny_execs_cons (aC (h1 pins s σ H {D with nx:=u D} I h) fun f s1 q=>?_);cases f with
 |next=>
  obtain⟨σ',H',I',q⟩:=q;exact h2 pins s1 σ' H' D I' q
 |ret v=>exact q
 |brk=>exact q
 |cont=>exact q
theorem Fj(h1:PS X st t):eB X [st] t:=by
 intro pins s σ H D I h;refine wpAny_execs_cons (aC (h1 pins s σ H D I h) fun f s1 q=>?_);cases f with
 |next=>exact wpAny_execs_nil q
 |ret v=>exact q
 |brk=>exact q
 |cont=>exact q
noncomputable def IS:TS:=fun D σ H=>D.bk σ H
noncomputable def L8:TS:=fun D σ H=>D.ct σ H
theorem E5:PS X (.Pass pos) xV:=fun _ _ σ H _ I h=>wpAny_Pass ⟨σ,H,I,h⟩
theorem B7:PS X (.Break pos) IS:=fun _ _ σ H _ I h=>wpAny_Break ⟨σ,H,I,h⟩
theorem vA:PS X (.Continue pos) L8:=fun _ _ σ H _ I h=>wpAny_Continue ⟨σ,H,I,h⟩
theorem Inv.quiet{pins:List (Addr×Obj)}{σ:St}{H:Hp}{s:Shared}(I:Inv X pins σ H s):interactive X.env=false:=by simp[interactive,I.ok.kind]
def Dx(te:TE):TS:=fun D σ H=>te σ H fun _ H1=>D.nx σ H1
theorem wj(he:PE X e te)(hs:swapsWith e none pos.line X.env=pure false:=by rfl):PS X (.Expr e pos) (Dx te):=by intro pins s σ H D I h;exact wpAny_Expr_any (aC (he pins s σ H _ I h) fun v s1 Z=>Z.g4 fun x H1 I1 r1 q1=>⟨σ,H1,I1,q1⟩) I.quiet hs
def KG(te:TE):TS:=fun D σ H=>te σ H D.rt
theorem Bm(he:PE X e te):PS X (.Return (some e) pos) (KG te):=by intro pins s σ H D I h;exact wpAny_Return_some (aC (he pins s σ H _ I h) fun v s1 Z=>Z.g4 fun x H1 I1 r1 q1=>⟨x,σ,H1,I1,r1,q1⟩)
noncomputable def Lb:TS:=fun D _ H=>D.rt .ah H
theorem FQ:PS X (.Return none pos) Lb:=fun _ _ σ H _ I h=>wpAny_Return_none ⟨.ah,σ,H,I,rfl,h⟩
noncomputable def Pm(c:TT)(t u:TS):TS:=fun D σ H=>c σ H fun b H1=>if b=true then t D σ H1 else u D σ H1
theorem Mb{c:Expr}{a b:List Stmt}{tc:TT}(hc:PT X c tc)(ha:eB X a t)(hb:eB X b u):PS X (.If c a b pos) (Pm tc t u):=by
 intro pins s σ H D I h;refine wpAny_If (aC (hc pins s σ H _ I h) fun d s1 Z=>Z.g fun H1 Z=>Z.g fun I1 q1=>?_);cases d with
 |true=>exact ha pins s1 σ H1 D I1 q1
 |false=>exact hb pins s1 σ H1 D I1 q1
end
noncomputable abbrev TG:=V->St->Hp->(St->Hp->Prop)->Prop
noncomputable abbrev tY:=List V->St->Hp->(St->Hp->Prop)->Prop
def PG(X:Cx)(target:Expr)(t:TG):Prop:=
 ∀(pins:List (Addr×Obj))(s:Shared)(σ:St)(H:Hp)(v:V)(u:Value)(Q:St->Hp->Prop),Inv X pins σ H s->RelV v u->t v σ H Q->
  wpAny (model X.prog X.w) X.A (assign target X.env u) (fun _ s'=>∃σ' H',Inv X pins σ' H' s'/\Q σ' H') X.xe s
def El(X:Cx)(ts:List Expr)(t:tY):Prop:=
 ∀(pins:List (Addr×Obj))(s:Shared)(σ:St)(H:Hp)(vs:List V)(us:List Value)(Q:St->Hp->Prop),Inv X pins σ H s->Vals vs us->t vs σ H Q->
  wpAny (model X.prog X.w) X.A (assignInOrder ((assignEach ts X.env).map (·.2)) us) (fun _ s'=>∃σ' H',Inv X pins σ' H' s'/\Q σ' H') X.xe s
noncomputable abbrev uN:=V->V->V->Hp->(Hp->Prop)->Prop
def m6(X:Cx)(t:uN):Prop:=
 ∀(pins:List (Addr×Obj))(s:Shared)(σ:St)(H:Hp)(o i v:V)(ov iv u:Value)(Q:Hp->Prop),Inv X pins σ H s->RelV o ov->RelV i iv->RelV v u->t o i v H Q->
  wpAny (model X.prog X.w) X.A (setItem ov iv u) (fun _ s'=>∃H',Inv X pins σ H' s'/\Q H') X.xe s
noncomputable abbrev DB:=V->V->Hp->VK->Prop
def Nk(X:Cx)(op:Operator)(t:DB):Prop:=
 ∀(pins:List (Addr×Obj))(s:Shared)(σ:St)(H:Hp)(x y:V)(v u:Value)(Q:VK),Inv X pins σ H s->RelV x v->RelV y u->t x y H Q->
  wpAny (model X.prog X.w) X.A (inplaceOp op v u) (EP X pins σ Q) X.xe s
section
variable {X:Cx}{pos:Pos}
def fD(i:Nat):TG:=fun v σ H Q=>Q (σ.set i (some v)) H
theorem kP{i:Nat}{x:Str}(hN:X.N.Nodup)(hi:X.N[i]?=some x)(hx:Loc X.env.scope x)(hf:X.fn x=true\/X.env.scope.names.lookup x=some .local:=by first|exact .inl rfl|exact .inr rfl|assumption):PG X (.Name x pos) (fD i):=by intro pins s σ H v u Q I r h;exact wpAny_assign_Name (jw I hN hi hx r (fun s' I'=>⟨_,H,I',h⟩) hf)
noncomputable def yf:tY:=fun vs σ H Q=>vs=[]/\Q σ H
noncomputable def kZ(t:TG)(u:tY):tY:=fun vs σ H Q=>∃v r,vs=v::r/\t v σ H fun σ' H'=>u r σ' H' Q
theorem qD:El X [] yf:=by intro pins s σ H vs us Q I r h;obtain⟨e,h⟩:=h;subst e;cases r;exact assignInOrder_nil ⟨σ,H,I,h⟩
theorem ir{e:Expr}{es:List Expr}{t:TG}{u:tY}(h1:PG X e t)(h2:El X es u)
  (hs:(assignEach (e::es) X.env).map (·.2)=assign e X.env::(assignEach es X.env).map (·.2):=by rfl):El X (e::es) (kZ t u):=by
 intro pins s σ H vs us Q I r h;obtain⟨v,vr,e1,h⟩:=h;subst e1;cases r with
 |cons r rr=>
  rw[hs];refine assignInOrder_cons (aC (h1 pins s σ H _ _ _ I r h) fun _ s1 Z=>Z.g fun σ1 Z=>Z.g fun H1 Z=>Z.g fun I1 q1=>?_);exact h2 pins s1 σ1 H1 _ _ Q I1 rr q1
noncomputable def yR(K:PySem.W.Frag)(n:Nat)(t:tY):TG:=fun v σ H Q=>∃a xs,v=.ref a/\df K H a xs/\xs.length=n/\t xs σ H Q
theorem uy{es:List Expr}{k:Nat}{t:tY}{n:Nat}(hc:X.calm=true)(h:El X es t)
  (hn:(assignEach es X.env).length=n:=by rfl) (hst:(assignEach es X.env).findIdx? (·.1)=none:=by rfl):PG X (.Tuple es k pos) (yR X.K n t):=by
 intro pins s σ H v u Q I r hw;obtain⟨a,xs,e1,hq,hl,hw⟩:=hw;subst e1;cases r;obtain⟨its,rv,ht,hz⟩:=I.tuple hq;refine assign_Tuple_tuple (I.ok.hd hc) ht (by simp[hn,<-hl,rv.length]) hst fun h' hx=>?_;have I1:Inv X pins σ H {s with heap:=h'}:=I.kept (t':=s.toks) fun b o e=>hx b o (Nat.ne_of_lt (Heap.lt_size e)) e;exact h pins _ σ H xs _ Q I1 (by simpa using rv) hw
noncomputable def OH(to ti:TE)(t:uN):TG:=fun v σ H Q=>to σ H fun o H1=>ti σ H1 fun i H2=>t o i v H2 fun H3=>Q σ H3
theorem Jv{o i:Expr}{to ti:TE}{t:uN}(ho:PE X o to)(hi:PE X i ti)(hs:m6 X t)
  (ha:∀v,assign (.Subscript o i pos) X.env v=(do
   let ov <-holding [v] (eval o X.env)
   let iv <-holding [v,ov] (eval i X.env)
   standAt pos
   holding [v,ov,iv] (setItem ov iv v)
   release [v,ov,iv] []):=by intro _;rfl):PG X (.Subscript o i pos) (OH to ti t):=by
 intro pins s σ H v u Q I r h;rw[ha];refine wpAny_bind (wpAny_holding (aC (ho pins s σ H _ I h) fun ov s1 Z=>Z.g4 fun x H1 I1 r1 q1=>?_));refine wpAny_bind (wpAny_holding (aC (hi pins s1 σ H1 _ I1 q1) fun iv s2 Z=>Z.g4 fun y H2 I2 r2 q2=>?_));refine wpAny_bind (wpAny_standAt (wpAny_bind (wpAny_holding (aC (hs pins s2 σ H2 x y v ov iv u _ I2 r1 r2 r q2) fun _ s3 Z=>Z.g fun H3 Z=>Z.g fun I3 q3=>?_))));exact wpAny_release ⟨σ,H3,I3,q3⟩
noncomputable def Iq(te:TE)(g:TG):TS:=fun D σ H=>te σ H fun x H1=>g x σ H1 D.nx
theorem Ab{tg e:Expr}{te:TE}{g:TG}(he:PE X e te)(hg:PG X tg g)(hs:swapsWithSole [tg] e pos.line X.env=pure false:=by rfl)(hw:swappedStores [tg] e X.env=pure none:=by rfl)
  (h1:(assignEach [tg] X.env).map (·.2)=[assign tg X.env]:=by rfl):PS X (.Assign [tg] e pos) (Iq te g):=by
 intro pins s σ H D I h;refine wpAny_Assign_stores (aC (he pins s σ H _ I h) fun v s1 Z=>Z.g4 fun x H1 I1 r1 q1=>?_) hs hw;rw[h1];exact aC (hg pins s1 σ H1 x v _ I1 r1 q1) fun _ s2 q=>q
theorem J4{i:Nat}{x:Str}{e:Expr}{te:TE}{pos':Pos}(hN:X.N.Nodup)(hi:X.N[i]?=some x)(hx:Loc X.env.scope x)(he:PE X e te)(hs:swapsWith e (some (.Name x pos')) pos.line X.env=pure false:=by rfl)(hf:X.fn x=true\/X.env.scope.names.lookup x=some .local:=by first|exact .inl rfl|exact .inr rfl|assumption):
  PS X (.Assign [.Name x pos'] e pos) (Iq te (fD i)):=by
 intro pins s σ H D I h;refine wpAny_Assign_Name (aC (he pins s σ H _ I h) fun v s1 Z=>Z.g4 fun y H1 I1 r1 q1=>?_) hs;exact jw I1 hN hi hx r1 (fun s2 I2=>⟨_,H1,I2,q1⟩) hf
noncomputable def P5(i:Nat)(te:TE)(ti:DB):TS:=fun D σ H=>∃x,σ[i]?=some (some x)/\te σ H fun y H1=>ti x y H1 fun z H2=>D.nx (σ.set i (some z)) H2
theorem Hm{i:Nat}{x:Str}{e:Expr}{te:TE}{op:Operator}{ti:DB}{pos':Pos}(hN:X.N.Nodup)(hi:X.N[i]?=some x)(hx:Loc X.env.scope x)(he:PE X e te)(ho:Nk X op ti)(hf:X.fn x=true\/X.env.scope.names.lookup x=some .local:=by first|exact .inl rfl|exact .inr rfl|assumption):
  PS X (.AugAssign (.Name x pos') op e pos) (P5 i te ti):=by
 intro pins s σ H D I h;obtain⟨v,e1,h⟩:=h;obtain⟨m,hn,hl⟩:=I.loc;have ui:iX X.env.scope x:=by rcases hx with k|k;exact .inl k;exact .inr (.inl k)
 obtain⟨u,r,l⟩:=hl i x v hi e1 ui;refine wpAny_AugAssign_Name ?_;have go:wpAny (model X.prog X.w) X.A (eval e X.env) (fun w s₂=>wpAny (model X.prog X.w) X.A (inplaceOp op u w) (fun r s₃=>wpAny (model X.prog X.w) X.A (storeName X.env x r) (fun _=>SP X pins D .next) X.xe s₃) X.xe s₂) X.xe s:=by refine aC (he pins s σ H _ I h) fun w s1 Z=>Z.g4 fun y H1 I1 r1 q1=>?_;refine aC (ho pins s1 σ H1 v y u w _ I1 r r1 q1) fun z s2 Z=>Z.g4 fun zv H2 I2 r2 q2=>?_;exact jw I2 hN hi hx r2 (fun s3 I3=>⟨_,H2,I3,q2⟩) hf
 rcases l with ⟨hk,hm⟩|⟨hk,c,hc,hcell⟩
 .exact wpAny_loadName_local I.ok.kind hk hn hm go
 .rcases hk with hk|hk
  .exact wpAny_loadName_cell I.ok.kind hk hc hcell go
  .rcases hx with k|k
   .have:X.env.scope.names.lookup x=some .free:=hk;rw[k] at this;cases this
   .have:X.env.scope.names.lookup x=some .free:=hk;rw[k] at this;cases this
noncomputable def Qi(f:Int->Int->Int):DB:=fun x y H Q=>∃i j,x=.int i/\y=.int j/\Q (.int (f i j)) H
theorem Kx:Nk X .Add (Qi fun i j=>i+j):=by intro pins s σ H x y v u Q I r1 r2 h;obtain⟨i,j,e1,e2,q⟩:=h;subst e1;subst e2;obtain⟨t,rfl⟩:=r1;obtain⟨t',rfl⟩:=r2;exact iadd_int ⟨.int _,H,I.tok _,⟨_,rfl⟩,q⟩
end
section
variable {X:Cx}{pos:Pos}
noncomputable def Ig(c:TT)(tb:TS):TS:=fun D σ H=>∃W:Nat->St->Hp->Prop,(∃m,W m σ H)/\∀m σ H,W m σ H->
 c σ H fun b H1=>if b=true then ∃N:St->Hp->Prop,(∀σ' H',N σ' H'->∃m',m'<m/\W m' σ' H')/\tb {D with nx:=N,ct:=N,bk:=D.nx} σ H1 else D.nx σ H1
theorem BI{c:Expr}{body:List Stmt}{tc:TT}{tb:TS}(hp:PassesOwn (model X.prog X.w) X.A X.env X.xe)(hc:PT X c tc)(hb:eB X body tb):PS X (.While c body [] pos) (Ig tc tb):=by
 intro pins s σ H D I h;obtain⟨W,⟨m0,w0⟩,turn⟩:=h;refine wpAny_While (codeAny_whileLoop (fun n s'=>∃σ' H',Inv X pins σ' H' s'/\W n σ' H') ?_ m0 ⟨σ,H,I,w0⟩)
 rintro n s1 ⟨σ1,H1,I1,w1⟩
 refine wpAny_passesOwn hp (aC (hc pins s1 σ1 H1 _ I1 (turn n σ1 H1 w1)) fun b s2 Z=>Z.g fun H2 Z=>Z.g fun I2 q2=>?_);cases b with
 |true=>
  obtain⟨N,hN,q2⟩:=q2;rw[if_pos rfl];refine wpAny_passesOwn hp (aC (hb pins s2 σ1 H2 _ I2 q2) fun f s3 q3=>?_);cases f with
  |next=>
   obtain⟨σ3,H3,I3,n3⟩:=q3;obtain⟨m',hm,w3⟩:=hN σ3 H3 n3;exact⟨m',hm,σ3,H3,I3,w3⟩
  |cont=>
   obtain⟨σ3,H3,I3,n3⟩:=q3;obtain⟨m',hm,w3⟩:=hN σ3 H3 n3;exact⟨m',hm,σ3,H3,I3,w3⟩
  |brk=>exact q3
  |ret v=>exact q3
 |false=>
  rw[if_neg Bool.false_ne_true];exact wpAny_execs_nil ⟨σ1,H2,I2,q2⟩
end
structure It where
 go:Nat->Hp->Prop
 DG:Nat->Hp->V->Hp->Prop
 stop:Nat->Hp->Prop
def eO(X:Cx)(pins:List (Addr×Obj))(H:Hp)(b:Addr):Prop:=
 H b=none/\b≠X.env.locals/\b∉X.fs/\(b∈X.ex\/X.aI.heap.objs.size<=b)/\(∀x c,X.env.cells.lookup x=some c->c≠b)/\∀p∈X.pn++pins,p.1≠b
theorem Inv.oE{X:Cx}{pins:List (Addr×Obj)}{σ:St}{H H':Hp}{s:Shared}{b:Addr}(I:Inv X pins σ H s)(hb:s.heap.objs.size<=b)(hn:H' b=none):eO X pins H' b:=by
 refine⟨hn,Nat.ne_of_gt (Nat.lt_of_lt_of_le I.lt hb),I.Ow hb,.inr (Nat.le_trans I.sz hb),fun x c e z=>?_,fun p hp z=>?_⟩
 .obtain⟨v,q⟩:=I.cell x c e;exact absurd (Nat.lt_of_lt_of_le q.lt (by rw[z];exact hb)) (Nat.lt_irrefl _)
 .exact absurd (Nat.lt_of_lt_of_le (Heap.lt_size (I.pin p hp).1) (by rw[z];exact hb)) (Nat.lt_irrefl _)
structure Turn(P:Program)(w:World)(K:PySem.W.Frag)(tg:Expr)(J:It)(fp:List Addr)(it:Addr)(tn:Nat->Heap->Prop):Prop where
 mem:it∈fp
 obj:∀i h,tn i h->∀b∈fp,∃o,h.get? b=some o/\∀v,o.data≠.cell v
 keep:∀i h h',tn i h->(∀b∈fp,∀o,h.get? b=some o->h'.get? b=some o)->tn i h'
 item:∀(X:Cx),X.prog=P->X.w=w->X.K=K->X.calm=true->∀(i:Nat)(pins:List (Addr×Obj))(s:Shared)(σ:St)(H:Hp)(E:Value->Shared->Prop),Inv X pins σ H s->(∀b∈fp,eO X pins H b)->tn i s.heap->J.go i H->
  wpAny (model P w) X.A (pyNext (.ref it)) (fun r s1=>∃u,r=some u/\
   wpAny (model P w) X.A (letOwnedTupleGo tg (.ref it) u) (fun _ s2=>∃x H',Inv X pins σ H' s2/\RelV x u/\J.DG i H x H'/\tn (i+1) s2.heap/\∀b∈fp,H' b=none) E s1) E s
 done:∀(X:Cx),X.prog=P->X.w=w->X.K=K->X.calm=true->∀(i:Nat)(pins:List (Addr×Obj))(s:Shared)(σ:St)(H:Hp)(E:Value->Shared->Prop),Inv X pins σ H s->(∀b∈fp,eO X pins H b)->tn i s.heap->J.stop i H->
  wpAny (model P w) X.A (pyNext (.ref it)) (fun r s1=>r=none/\Inv X pins σ H s1) E s
 self:∀(A:Around)(i:Nat)(s:Shared)(Q:Value->Shared->Prop)(E:Value->Shared->Prop),tn i s.heap->Q (.ref it) s->wpAny (model P w) A (pyIter (.ref it)) Q E s
noncomputable abbrev TI:=St->Hp->(It->Hp->Prop)->Prop
def M7(X:Cx)(pins:List (Addr×Obj))(σ:St)(tg:Expr)(R:It->Hp->Prop)(itv:Value)(s2:Shared):Prop:=
 ∃(it:Addr) (fp:List Addr) (tn:Nat->Heap->Prop) (J:It) (H':Hp),itv=.ref it/\Inv X pins σ H' s2/\Turn X.prog X.w X.K tg J fp it tn/\tn 0 s2.heap/\(∀b∈fp,eO X pins H' b)/\R J H'
def PI(X:Cx)(tg iter:Expr)(wi:TI):Prop:=
 ∀(pins:List (Addr×Obj))(s:Shared)(σ:St)(H:Hp)(R:It->Hp->Prop),Inv X pins σ H s->wi σ H R->
  wpAny (model X.prog X.w) X.A (eval iter X.env) (fun v s1=>wpAny (model X.prog X.w) X.A (pyIter v) (M7 X pins σ tg R) X.xe s1) X.xe s
theorem tu{M:Model}{A:Around}{E:Value->Shared->Prop}{s:Shared}{tg:Expr}{it:Addr}{u:Value}{o:Obj}{n:String}{vs:Array Value}{Q:Unit->Shared->Prop}(ho:s.heap.get? it=some o)(hc:o.cls=.type n)(hd:o.data=.fields vs)
  (hn: ["enumerate", "zip", "dict_itemiterator", "dict_reverseitemiterator", "odict_iterator", "itertools.zip_longest", "itertools.pairwise"].contains n=false) (hQ:Q () s):wpAny M A (letOwnedTupleGo tg (.ref it) u) Q E s:=by
 unfold letOwnedTupleGo;cases tg<;>first
  |exact wpAny_pure hQ
  |(cases u<;>first
    |exact wpAny_pure hQ
    |(refine wpAny_bind (wpAny_load ho ?_)
      rw[hc,hd];show wpAny M A (if (["enumerate", "zip", "dict_itemiterator", "dict_reverseitemiterator", "odict_iterator", "itertools.zip_longest", "itertools.pairwise"].contains n&&vs[0]?== some (rawInt _))=true then _ else _) Q E s;rw[if_neg (by intro h;rw[hn,Bool.false_and] at h;cases h)];exact wpAny_pure hQ))
noncomputable def G0(K:PySem.W.Frag)(a:Addr):It:=
 ⟨fun i H=>∃xs x,bx K H a xs/\xs[i]?=some x,fun i H x H'=>H'=H/\∀xs,bx K H a xs->xs[i]?=some x,fun i H=>∃xs,bx K H a xs/\xs.length<=i⟩
noncomputable def Kn(K:PySem.W.Frag)(a:Addr):It:=
 ⟨fun i H=>∃xs x,df K H a xs/\xs[i]?=some x,fun i H x H'=>H'=H/\∀xs,df K H a xs->xs[i]?=some x,fun i H=>∃xs,df K H a xs/\xs.length<=i⟩
noncomputable def EB(lo:Int)(n:Nat):It:=⟨fun i _=>i<n,fun i H x H'=>H'=H/\x=.int (lo+i),fun i _=>n<=i⟩
theorem sP{P:Program}{w:World}{K:PySem.W.Frag}{tg:Expr}(a it:Addr):Turn P w K tg (G0 K a) [it] it (fun i h=>h.IsListIter it a i) where
 mem:=by simp
 obj:=fun i h st b hb=>by
  have e:b=it:=by simpa using hb
  subst e;obtain⟨o,e,c,d⟩:=st;exact⟨o,e,fun v z=>by rw[d] at z;cases z⟩
 keep:=fun i h h' st k=>st.at fun o e=>k it (by simp) o e
 item:=by intro X hP hw hK hc i pins s σ H E I hf st hg;subst hP hw hK;obtain⟨xs,x,hq,hx⟩:=hg;obtain⟨its,rv,p,hz⟩:=I.list hq;obtain⟨u,hu,ru⟩:=rv.get hx;obtain⟨f0,f1,f2,f3,f4,f5⟩:=hf it (by simp);refine wpAny_pyNext_list_item st p.isList (x:=u) (by simpa using hu) fun h' st' sb=>?_;have I1:Inv X pins σ H {s with heap:=h'}:=I.turned (t':=s.toks) (fun b o hb e=>(sb.2 b hb).trans e) f0 f1 f3 f4 f5;obtain⟨o,e,c,d⟩:=id st';exact⟨u,rfl,tu (s:={s with heap:=h'}) e c d (by decide) ⟨x,H,I1,ru,⟨rfl,fun ys hy=>by rw[I.oJ hy hq];exact hx⟩,st',fun b hb=>(hf b hb).1⟩⟩
 done:=by intro X hP hw hK hc i pins s σ H E I hf st hg;subst hP hw hK;obtain⟨xs,hq,hx⟩:=hg;obtain⟨its,rv,p,hz⟩:=I.list hq;obtain⟨f0,f1,f2,f3,f4,f5⟩:=hf it (by simp);have hl:=rv.length;exact wpAny_pyNext_list_end (I.ok.hd hc) st p.isList (by simp;omega) fun h' eb=>⟨rfl,I.turned (t':=s.toks) (fun b o hb e=>eb b o hb e) f0 f1 f3 f4 f5⟩
 self:=fun _ _ _ _ _ st h=>wpAny_pyIter_listiter st h
theorem yE{P:Program}{w:World}{K:PySem.W.Frag}{tg:Expr}(a it:Addr):Turn P w K tg (Kn K a) [it] it (fun i h=>h.IsTupleIter it a i) where
 mem:=by simp
 obj:=fun i h st b hb=>by
  have e:b=it:=by simpa using hb
  subst e;obtain⟨o,e,c,d⟩:=st;exact⟨o,e,fun v z=>by rw[d] at z;cases z⟩
 keep:=fun i h h' st k=>st.at fun o e=>k it (by simp) o e
 item:=by intro X hP hw hK hc i pins s σ H E I hf st hg;subst hP hw hK;obtain⟨xs,x,hq,hx⟩:=hg;obtain⟨its,rv,p,hz⟩:=I.tuple hq;obtain⟨u,hu,ru⟩:=rv.get hx;obtain⟨f0,f1,f2,f3,f4,f5⟩:=hf it (by simp);refine wpAny_pyNext_tuple_item st (show s.heap.IsTuple a its.toArray from p) (x:=u) (by simpa using hu) fun h' st' sb=>?_;have I1:Inv X pins σ H {s with heap:=h'}:=I.turned (t':=s.toks) (fun b o hb e=>(sb.2 b hb).trans e) f0 f1 f3 f4 f5;obtain⟨o,e,c,d⟩:=id st';exact⟨u,rfl,tu (s:={s with heap:=h'}) e c d (by decide) ⟨x,H,I1,ru,⟨rfl,fun ys hy=>by rw[I.rV hy hq];exact hx⟩,st',fun b hb=>(hf b hb).1⟩⟩
 done:=by intro X hP hw hK hc i pins s σ H E I hf st hg;subst hP hw hK;obtain⟨xs,hq,hx⟩:=hg;obtain⟨its,rv,p,hz⟩:=I.tuple hq;obtain⟨f0,f1,f2,f3,f4,f5⟩:=hf it (by simp);have hl:=rv.length;exact wpAny_pyNext_tuple_end (I.ok.hd hc) st (show s.heap.IsTuple a its.toArray from p) (by simp;omega) fun h' eb=>⟨rfl,I.turned (t':=s.toks) (fun b o hb e=>eb b o hb e) f0 f1 f3 f4 f5⟩
 self:=fun _ _ _ _ _ st h=>wpAny_pyIter_tupleiter st h
theorem yp{P:Program}{w:World}{K:PySem.W.Frag}{tg:Expr}(it:Addr)(lo:Int)(n:Nat):Turn P w K tg (EB lo n) [it] it (fun i h=>IsRangeIter h it (lo+(i:Nat) * 1) ((n:Int)-(i:Nat)) 1) where
 mem:=by simp
 obj:=fun i h st b hb=>by
  have e:b=it:=by simpa using hb
  subst e;exact⟨_,st,fun v z=>by
   have z':Data.fields _=Data.cell v:=z;cases z'⟩
 keep:=fun i h h' st k=>k it (by simp) _ st
 item:=by intro X hP hw hK hc i pins s σ H E I hf st hg;subst hP hw hK;obtain⟨f0,f1,f2,f3,f4,f5⟩:=hf it (by simp);have W:=Walks.range (prog:=X.prog) (w:=X.w) (I.ok.hd hc) it lo 1 n;refine W.item i s _ _ hg st fun v h' tk hv st' kk=>?_;obtain⟨t,rfl⟩:=hv;have I1:Inv X pins σ H {s with heap:=h',toks:=tk}:=I.turned (fun b o hb e=>kk b o (by simpa using hb) e) f0 f1 f3 f4 f5;refine⟨_,rfl,tu (s:={s with heap:=h',toks:=tk}) (n:= "range_iterator") st' rfl rfl (by decide) ⟨.int (lo+i),H,I1,⟨t,?_⟩,⟨rfl,rfl⟩,st',fun b hb=>(hf b hb).1⟩⟩;rw[Int.mul_one]
 done:=by intro X hP hw hK hc i pins s σ H E I hf st hg;subst hP hw hK;obtain⟨f0,f1,f2,f3,f4,f5⟩:=hf it (by simp);exact wpAny_pyNext_range_end (I.ok.hd hc) st (by have:n<=i:=hg;omega) fun h' eb=>⟨rfl,I.turned (t':=s.toks) (fun b o hb e=>eb b o hb e) f0 f1 f3 f4 f5⟩
 self:=fun _ _ _ _ _ st h=>wpAny_pyIter_rangeiter st h
section
variable {X:Cx}{tg:Expr}
noncomputable def Lz(K:PySem.W.Frag)(tl:TE):TI:=fun σ H R=>tl σ H fun x H1=>∃a,x=.ref a/\(∃xs,bx K H1 a xs)/\R (G0 K a) H1
noncomputable def Om(K:PySem.W.Frag)(tl:TE):TI:=fun σ H R=>tl σ H fun x H1=>∃a,x=.ref a/\(∃xs,df K H1 a xs)/\R (Kn K a) H1
theorem F7{l:Expr}{tl:TE}(hl:PE X l tl):PI X tg l (Lz X.K tl):=by
 intro pins s σ H R I h;refine aC (hl pins s σ H _ I h) fun v s1 Z=>Z.g4 fun x H1 I1 r1 q1=>?_;obtain⟨a,e,⟨xs,hq⟩,q⟩:=q1;subst e;cases r1;obtain⟨its,rv,p,hz⟩:=I1.list hq;refine wpAny_pyIter_list p.isList ?_;refine⟨s1.heap.objs.size,[s1.heap.objs.size],_,_,H1,rfl,I1.kept (t':=s1.toks) fun b o e=>Heap.get?_push_of_some _ e,sP a _,⟨_,Heap.get?_push_size _ rfl,rfl,rfl⟩,fun b hb=>?_,q⟩;have e:b=s1.heap.objs.size:=by simpa using hb
 subst e;exact I1.oE (Nat.le_refl _) (I1.ao.fresh (Nat.le_refl _))
theorem KC{l:Expr}{tl:TE}(hl:PE X l tl):PI X tg l (Om X.K tl):=by
 intro pins s σ H R I h;refine aC (hl pins s σ H _ I h) fun v s1 Z=>Z.g4 fun x H1 I1 r1 q1=>?_;obtain⟨a,e,⟨xs,hq⟩,q⟩:=q1;subst e;cases r1;obtain⟨its,rv,p,hz⟩:=I1.tuple hq;refine wpAny_pyIter_tuple (show s1.heap.IsTuple a its.toArray from p) ?_;refine⟨s1.heap.objs.size,[s1.heap.objs.size],_,_,H1,rfl,I1.kept (t':=s1.toks) fun b o e=>Heap.get?_push_of_some _ e,yE a _,⟨_,Heap.get?_push_size _ rfl,rfl,rfl⟩,fun b hb=>?_,q⟩;have e:b=s1.heap.objs.size:=by simpa using hb
 subst e;exact I1.oE (Nat.le_refl _) (I1.ao.fresh (Nat.le_refl _))
theorem B0{pins:List (Addr×Obj)}{σ:St}{H:Hp}{s:Shared}{R:It->Hp->Prop}{E:Value->Shared->Prop}{lo hi:Int}{t u v:Tok}{tk:Nat}(I:Inv X pins σ H s)(h1: -(2 ^ 62)<=lo)(h2:lo<2 ^ 62)(h3: -(2 ^ 62)<=hi)(h4:hi<2 ^ 62)
  (q:R (EB lo (hi-lo).toNat) H):wpAny (model X.prog X.w) X.A (pyIter (.ref s.heap.objs.size)) (M7 X pins σ tg R) E {s with heap:=s.heap.push {cls:=.type "range",data:=.fields #[.int lo t,.int hi u,.int 1 v]},toks:=tk}:=by
 refine wpAny_pyIter_range (IsRange.new ..) (small_one h1 h2 h3 h4) ?_;have I1:Inv X pins σ H {s with heap:=s.heap.push {cls:=.type "range",data:=.fields #[.int lo t,.int hi u,.int 1 v]},toks:=tk}:=I.kept fun b o e=>Heap.get?_push_of_some _ e;refine⟨(s.heap.push {cls:=.type "range",data:=.fields #[.int lo t,.int hi u,.int 1 v]}).objs.size,[(s.heap.push {cls:=.type "range",data:=.fields #[.int lo t,.int hi u,.int 1 v]}).objs.size],_,_,H,rfl,
  I1.kept (t':=tk) fun b o e=>Heap.get?_push_of_some _ e,yp _ lo (hi-lo).toNat,?_,fun b hb=>?_,q⟩
 .have e1:lo+((0:Nat):Int) * 1=lo:=by simp
  have e2:(((hi-lo).toNat:Nat):Int)-((0:Nat):Int)=Builtin.Range.rangeSize lo hi 1:=by rw[rangeSize_one];split<;>omega
  show IsRangeIter _ _ (lo+((0:Nat):Int) * 1) ((((hi-lo).toNat:Nat):Int)-((0:Nat):Int)) 1;rw[e1,e2];exact Heap.get?_push_size _ rfl
 .have e:b=(s.heap.push {cls:=.type "range",data:=.fields #[.int lo t,.int hi u,.int 1 v]}).objs.size:=by simpa using hb
  subst e;exact I1.oE (Nat.le_refl _) (I1.ao.fresh (Nat.le_refl _))
noncomputable def LI(ta:TA):TI:=fun σ H R=>ta σ H fun vs H1=>∃j:Int,vs=[.int j]/\ -(2 ^ 62)<=j/\j<2 ^ 62/\R (EB 0 j.toNat) H1
theorem Ao{a:Expr}{ta:TA}{p pos:Pos}(hg:Gl X "range")(hm:X.mg "range" = none)(ha:PA X [a] ta)(hs:starEach [a] X.env=[(false,eval a X.env)]:=by rfl):PI X tg (.Call (.Name "range" p) [a] [] pos) (LI ta):=by
 intro pins s σ H R I h;refine Call_ (mJ I hg hm boot_range (PyProof.Rows.callWith_type1 (aC (ha pos pins s σ H _ I h) fun us s1 Z=>Z.g4 fun vs H1 I1 r1 q1=>?_) hs rfl));obtain⟨j,e,q1,q2,q⟩:=q1;subst e;cases r1 with
 |cons r rr=>
  cases rr;obtain⟨t,rfl⟩:=r;exact call_range_1 (B0 I1 (by omega) (by omega) q1 q2 (by simpa using q))
noncomputable def O7(wi:TI)(g:TG)(tb:TS):TS:=fun D σ H=>wi σ H fun J H1=>∃W:Nat->Nat->St->Hp->Prop,(∃m,W 0 m σ H1)/\∀i m σ H,W i m σ H->
 (J.stop i H/\D.nx σ H)\/(J.go i H/\∃N:St->Hp->Prop,(∀σ' H',N σ' H'->∃m',m'<m/\W (i+1) m' σ' H')/\∀x H',J.DG i H x H'->g x σ H' fun σ2 H2=>tb {D with nx:=N,ct:=N,bk:=D.nx} σ2 H2)
noncomputable def ji(fp:List Addr)(h:Heap):List (Addr×Obj):=fp.filterMap fun b=>(h.get? b).map fun o=>(b,o)
theorem gy{fp:List Addr}{h:Heap}{b:Addr}{o:Obj}(hb:b∈fp)(e:h.get? b=some o):(b,o)∈ji fp h:=List.mem_filterMap.mpr ⟨b,hb,by rw[e];rfl⟩
theorem AG{fp:List Addr}{h:Heap}{p:Addr×Obj}(hp:p∈ji fp h):p.1∈fp/\h.get? p.1=some p.2:=by
 obtain⟨b,hb,e⟩:=List.mem_filterMap.mp hp;cases q:h.get? b with
 |none=>rw[q] at e;cases e
 |some o=>
  rw[q] at e;have e':(b,o)=p:=Option.some.inj e;subst e';exact⟨hb,q⟩
theorem Inv.pinned{pins:List (Addr×Obj)}{σ:St}{H:Hp}{s:Shared}{fp:List Addr}(I:Inv X pins σ H s)(hf:∀b∈fp,eO X pins H b)(ho:∀b∈fp,∃o,s.heap.get? b=some o/\∀v,o.data≠.cell v):Inv X (pins++ji fp s.heap) σ H s:=
 I.we fun p hp=>(List.mem_append.mp hp).elim (fun z=>I.pin p (List.mem_append_right _ z)) fun z=>by
  obtain⟨hb,e⟩:=AG z;obtain⟨f0,f1,f2,_⟩:=hf p.1 hb;obtain⟨o,e',d⟩:=ho p.1 hb;rw[e] at e';cases e';exact⟨e,f0,f1,f2,d⟩
theorem Inv.jn{pins pl:List (Addr×Obj)}{σ:St}{H:Hp}{s:Shared}(I:Inv X (pins++pl) σ H s):Inv X pins σ H s:=I.we fun p hp=>I.pin p (List.mem_append_right _ (List.mem_append_left _ hp))
theorem Ji{iter:Expr}{body:List Stmt}{wi:TI}{g:TG}{tb:TS}{pos:Pos}(hp:PassesOwn (model X.prog X.w) X.A X.env X.xe)(hc:X.calm=true)(hi:PI X tg iter wi)(hg:PG X tg g)(hb:eB X body tb)
  (hs:∀x,foldedSetIterable iter X.env x=pure x:=by intro _;rfl):PS X (.For tg iter body [] pos) (O7 wi g tb):=by
 intro pins s σ H D I h;refine wpAny_For (aC (hi pins s σ H _ I h) fun v s1 h1=>aC h1 fun itv s2 h2=>?_) hs;obtain⟨it,fp,tn,J,H2,e,I2,T,st2,f2,W,⟨m0,w0⟩,turn⟩:=h2;subst e;have stat:∀{H':Hp},(∀b∈fp,H' b=none)->∀b∈fp,eO X pins H' b:=fun hn b hb=>⟨hn b hb,(f2 b hb).2⟩;refine codeAny_forLoop_any (fun n s'=>∃i σ' H',Inv X pins σ' H' s'/\tn i s'.heap/\(∀b∈fp,H' b=none)/\W i n σ' H') ?_ m0 ⟨0,σ,H2,I2,st2,fun b hb=>(f2 b hb).1,w0⟩
 rintro n s3 ⟨i,σ3,H3,I3,st3,fr3,w3⟩
 rcases turn i n σ3 H3 w3 with ⟨stop,qn⟩|⟨go,N,hN,step⟩
 .refine wpAny_passesOwn hp (aC (T.done X rfl rfl rfl hc i pins s3 σ3 H3 X.xe I3 (stat fr3) st3 stop) fun r s4 Z=>Z.g fun hr I4=>?_);subst hr;exact wpAny_execs_nil ⟨σ3,H3,I4,qn⟩
 .refine wpAny_passesOwn hp (aC (T.item X rfl rfl rfl hc i pins s3 σ3 H3 X.xe I3 (stat fr3) st3 go) fun r s4 Z=>Z.g fun u Z=>Z.g fun hr h4=>?_);subst hr;refine wpAny_passesOwn hp (aC h4 fun _ s5 Z=>Z.g fun x Z=>Z.g fun H5 Z=>Z.g fun I5 Z=>Z.g fun r5 Z=>Z.g fun y5 Z=>Z.g fun st5 fr5=>?_);have I5':=I5.pinned (stat fr5) (T.obj _ _ st5);refine wpAny_passesOwn hp (aC (hg _ s5 σ3 H5 x u _ I5' r5 (step x H5 y5)) fun _ s6 Z=>Z.g fun σ6 Z=>Z.g fun H6 Z=>Z.g fun I6 q6=>?_);refine wpAny_passesOwn hp (aC (hb _ s6 σ6 H6 _ I6 q6) fun f s7 q7=>?_);have again:∀{σ7:St}{H7:Hp},Inv X (pins++ji fp s5.heap) σ7 H7 s7->N σ7 H7->∃m,m<n/\∃i σ' H',Inv X pins σ' H' s7/\tn i s7.heap/\(∀b∈fp,H' b=none)/\W i m σ' H':=fun {σ7 H7} I7 n7=>by
   obtain⟨m',hm,w7⟩:=hN σ7 H7 n7;refine⟨m',hm,i+1,σ7,H7,I7.jn,T.keep _ _ _ st5 fun b hb o e=>(I7.pin (b,o) (List.mem_append_right _ (List.mem_append_right _ (gy hb e)))).1,fun b hb=>?_,w7⟩;obtain⟨o,e,d⟩:=T.obj _ _ st5 b hb;exact (I7.pin (b,o) (List.mem_append_right _ (List.mem_append_right _ (gy hb e)))).2.1
  cases f with
  |next=>obtain⟨σ7,H7,I7,n7⟩:=q7;exact again I7 n7
  |cont=>obtain⟨σ7,H7,I7,n7⟩:=q7;exact again I7 n7
  |brk=>obtain⟨σ7,H7,I7,q7⟩:=q7;exact⟨σ7,H7,I7.jn,q7⟩
  |ret v=>obtain⟨x7,σ7,H7,I7,r7,q7⟩:=q7;exact⟨x7,σ7,H7,I7.jn,r7,q7⟩
end
noncomputable abbrev R2:=V->V->Hp->VK->Prop
def cN(X:Cx)(f:Value->Value->Sem Value)(r:R2):Prop:=
 ∀(pins:List (Addr×Obj))(s:Shared)(σ:St)(H:Hp)(x y:V)(v u:Value)(Q:VK),Inv X pins σ H s->RelV x v->RelV y u->r x y H Q->
  wpAny (model X.prog X.w) X.A (f v u) (EP X pins σ Q) X.xe s
def c6(X:Cx)(f:Value)(r:List V->Hp->VK->Prop):Prop:=
 ∀(pins:List (Addr×Obj))(s:Shared)(σ:St)(H:Hp)(xs:List V)(us:List Value)(Q:VK),Inv X pins σ H s->Vals xs us->r xs H Q->
  wpAny (model X.prog X.w) X.A (call f us) (EP X pins σ Q) X.xe s
def Of(X:Cx)(r:V->Hp->(Bool->Hp->Prop)->Prop):Prop:=
 ∀(pins:List (Addr×Obj))(s:Shared)(σ:St)(H:Hp)(x:V)(v:Value)(Q:Bool->Hp->Prop),Inv X pins σ H s->RelV x v->r x H Q->
  wpAny (model X.prog X.w) X.A (truthy v) (TP X pins σ Q) X.xe s
noncomputable def v8(r:R2)(ta tb:TE):TE:=fun σ H Q=>ta σ H fun x H1=>tb σ H1 fun y H2=>r x y H2 Q
noncomputable def rI(C:Int->Int->Prop)(g:Int->Int->V):R2:=fun x y H Q=>∃i j,x=.int i/\y=.int j/\C i j/\Q (g i j) H
noncomputable def Ej(g:Int->Int->V):R2:=fun x y H Q=>∃i j,x=.int i/\y=.int j/\Q (g i j) H
section
variable {X:Cx}{a b c:Expr}{ta tb tc:TE}{pos:Pos}
theorem CF(ha:PE X a ta)(hb:PE X b tb){pins:List (Addr×Obj)}{s:Shared}{σ:St}{H:Hp}{R:V->V->Hp->Prop}(I:Inv X pins σ H s)
  (h:ta σ H fun x H1=>tb σ H1 fun y H2=>R x y H2) {Q:Value->Shared->Prop}{f:Value->Value->Sem Value}
  (hf:∀v u s2 x y H2,Inv X pins σ H2 s2->RelV x v->RelV y u->R x y H2->wpAny (model X.prog X.w) X.A (f v u) Q X.xe s2):
  wpAny (model X.prog X.w) X.A (eval a X.env) (fun v s₁=>wpAny (model X.prog X.w) X.A (eval b X.env) (fun u s₂=>wpAny (model X.prog X.w) X.A (f v u) Q X.xe s₂) X.xe s₁) X.xe s:=by
 refine aC (ha pins s σ H _ I h) fun v s1 Z=>Z.g4 fun x H1 I1 r1 q1=>?_;refine aC (hb pins s1 σ H1 _ I1 q1) fun u s2 Z=>Z.g4 fun y H2 I2 r2 q2=>?_;exact hf v u s2 x y H2 I2 r1 r2 q2
theorem nI{op:Operator}{r:R2}(ho:cN X (binaryOp op) r)(ha:PE X a ta)(hb:PE X b tb):PE X (.BinOp a op b pos) (v8 r ta tb):=by intro pins s σ H Q I h;exact wpAny_BinOp (CF ha hb I h fun v u s2 x y H2 I2 rx ry q=>ho pins s2 σ H2 x y v u Q I2 rx ry q)
theorem Ea{f:Value->Value->Sem Value}{C:Int->Int->Prop}{g:Int->Int->Int}
  (rule:∀(i j:Int)(t u:Tok)(s:Shared)(Q:Value->Shared->Prop)(E:Value->Shared->Prop),C i j->Q (.int (g i j) s.toks) {s with toks:=s.toks+1}->wpAny (model X.prog X.w) X.A (f (.int i t) (.int j u)) Q E s):
  cN X f (rI C fun i j=>.int (g i j)):=by
 intro pins s σ H x y v u Q I rx ry h;obtain⟨i,j,rfl,rfl,hc,q⟩:=h;obtain⟨t,rfl⟩:=rx;obtain⟨t',rfl⟩:=ry;exact rule i j t t' s _ _ hc ⟨.int (g i j),H,I.tok _,⟨_,rfl⟩,q⟩
theorem JC{f:Value->Value->Sem Value}{g:Int->Int->Int}
  (rule:∀(i j:Int)(t u:Tok)(s:Shared)(Q:Value->Shared->Prop)(E:Value->Shared->Prop),Q (.int (g i j) s.toks) {s with toks:=s.toks+1}->wpAny (model X.prog X.w) X.A (f (.int i t) (.int j u)) Q E s):
  cN X f (Ej fun i j=>.int (g i j)):=by
 intro pins s σ H x y v u Q I rx ry h;obtain⟨i,j,rfl,rfl,q⟩:=h;obtain⟨t,rfl⟩:=rx;obtain⟨t',rfl⟩:=ry;exact rule i j t t' s _ _ ⟨.int (g i j),H,I.tok _,⟨_,rfl⟩,q⟩
def OD(i j:Int):Prop:=0<j/\j<1073741824
def O8(i j:Int):Prop:=0<=j/\j<=1000000/\i.natAbs<2 ^ 64
def Dj(i j:Int):Prop:=(-(2 ^ 64)<i/\i<2 ^ 64)\/(-(2 ^ 64)<j/\j<2 ^ 64)
theorem Dj.ok{i j:Int}(h:Dj i j):IntMulOk i j:=by
 rcases h with ⟨h1,h2⟩|⟨h1,h2⟩
 .exact .of_left (intBits_le_64 h1 h2)
 .exact .of_right (intBits_le_64 h1 h2)
theorem JX:cN X (binaryOp .Add) (Ej fun i j=>.int (i+j)):=JC fun _ _ _ _ _ _ _ q=>add_int q
theorem KN:cN X (binaryOp .Sub) (Ej fun i j=>.int (i-j)):=JC fun _ _ _ _ _ _ _ q=>sub_int q
theorem Ic:cN X (binaryOp .Mult) (rI Dj fun i j=>.int (i * j)):=Ea fun _ _ _ _ _ _ _ hc q=>mul_int q hc.ok
theorem E6:cN X (binaryOp .FloorDiv) (rI OD fun i j=>.int (i / j)):=Ea fun i j _ _ _ _ _ hc q=>by
 have h1:(0:Int)<j:=hc.1;have h2:j<1073741824:=hc.2;exact floordiv_int (by omega) (by rw[Int.fdiv_eq_ediv_of_nonneg i (by omega)];exact q) (.inl (PyProof.noPylong_small (by omega)))
theorem Kc:cN X (binaryOp .Mod) (rI (fun _ j=>0<j) fun i j=>.int (i % j)):=Ea fun i j _ _ _ _ _ hc q=>by
 have h1:(0:Int)<j:=hc;exact mod_int' (by omega) (by rw[Int.fmod_eq_emod_of_nonneg i (by omega)];exact q)
theorem J8:cN X (binaryOp .Pow) (rI O8 fun i j=>.int (i ^ j.toNat)):=Ea fun _ _ _ _ _ _ _ hc q=>pow_int_small hc.1 hc.2.1 hc.2.2 q
end
section
variable {X:Cx}{a b c:Expr}{ta tb tc:TE}{pos:Pos}
theorem AZ{pins:List (Addr×Obj)}{σ:St}{H:Hp}{s:Shared}{Q:VK}{k k':Bool}(I:Inv X pins σ H s)(q:Q (.bl k) H)(e:k=k'):EP X pins σ Q (.bool k') s:=by subst e;exact⟨.bl k,H,I,rfl,q⟩
theorem Im:cN X (compareOp .Is) (fun x y H Q=>y=.ah/\Q (.bl (decide (x=.ah))) H):=by
 intro pins s σ H x y v u Q I rx ry h;obtain⟨rfl,q⟩:=h;cases ry;refine is_none_gen (AZ I q ?_);cases x<;>first
  |(cases rx;rfl)
  |(obtain⟨t,rfl⟩:=rx;rfl)
theorem EM:cN X (compareOp .IsNot) (fun x y H Q=>y=.ah/\Q (.bl (!decide (x=.ah))) H):=by
 intro pins s σ H x y v u Q I rx ry h;obtain⟨rfl,q⟩:=h;cases ry;refine isnot_none_gen (AZ I q ?_);cases x<;>first
  |(cases rx;rfl)
  |(obtain⟨t,rfl⟩:=rx;rfl)
theorem cN.or{f:Value->Value->Sem Value}{r r':R2}(h:cN X f r)(h':cN X f r'):cN X f (fun x y H Q=>r x y H Q\/r' x y H Q):=by
 intro pins s σ H x y v u Q I rx ry q;rcases q with q|q
 .exact h pins s σ H x y v u Q I rx ry q
 .exact h' pins s σ H x y v u Q I rx ry q
theorem QG(b:Expr){op:CmpOp}(h:op≠.In:=by decide)(h2:op≠.NotIn:=by decide):behindInMarks op b=false:=by
 have e1:(op== CmpOp.In)=false:=by cases op<;>first|rfl|exact absurd rfl h
 have e2:(op== CmpOp.NotIn)=false:=by cases op<;>first|rfl|exact absurd rfl h2
 cases b<;>simp[behindInMarks,e1,e2]
theorem wD{op:CmpOp}{r:R2}(ho:cN X (compareOp op) r)(ha:PE X a ta)(hb:PE X b tb)(hm:behindInMarks op b=false):PE X (.Compare a [op] [b] pos) (v8 r ta tb):=by intro pins s σ H Q I h;exact wpAny_Compare1 (CF ha hb I h fun v u s2 x y H2 I2 rx ry q=>ho pins s2 σ H2 x y v u Q I2 rx ry q) hm
noncomputable def LN(t:TE):TT:=fun σ H Q=>t σ H fun x H'=>∃k,x=.bl k/\Q k H'
theorem wM{op:CmpOp}{r:R2}(ho:cN X (compareOp op) r)(ha:PE X a ta)(hb:PE X b tb)(hm:behindInMarks op b=false):PT X (.Compare a [op] [b] pos) (LN (v8 r ta tb)):=by
 intro pins s σ H Q I h;refine wpAny_isTrue_Compare1 (aC (ha pins s σ H _ I h) fun v s1 Z=>Z.g fun x Z=>Z.g fun H1 Z=>Z.g fun I1 Z=>Z.g fun r1 q1=>aC (hb pins s1 σ H1 _ I1 q1) fun u s2 Z=>Z.g fun y Z=>Z.g fun H2 Z=>Z.g fun I2 Z=>Z.g fun r2 q2=>
  aC (ho pins s2 σ H2 x y v u _ I2 r1 r2 q2) fun c s3 Z=>Z.g fun z Z=>Z.g fun H3 Z=>Z.g fun I3 Z=>Z.g fun r3 Z=>Z.g fun k Z=>Z.g fun e q3=>?_) hm
 subst e;cases r3;exact wpAny_truthy_bool ⟨H3,I3,q3⟩
def BZ(K:PySem.W.Frag)(x:V)(H:Hp)(k:Bool):Prop:=
 match x with
 |.ah=>k=false
 |.bl b=>k=b
 |.int i=>k=(i != 0)
 |.str y=>y.length<=sizeLine/\k=((y.length:Int) != 0)
 |.byt y=>y.size<=sizeLine/\k=((y.size:Int) != 0)
 |.ref p=>(∃xs,bx K H p xs/\k=!xs.isEmpty)\/(∃xs,df K H p xs/\k=!xs.isEmpty)\/∃kvs,H p=some (.dK kvs)/\k=!kvs.isEmpty
 |_=>False
theorem ym{κ:Type}{kvs:List (κ×V)}{vs:List (κ×Value)}(r:KV kvs vs):(!vs.isEmpty)=!kvs.isEmpty:=by cases r<;>rfl
theorem pT{xs:List V}{its:List Value}(r:Vals xs its):(!its.toArray.isEmpty)=!xs.isEmpty:=by cases r<;>simp
theorem jg:(sizeLine:Nat)<2 ^ 63:=by rw[sizeLine_eq];decide
theorem Bf:Of X (fun x H Q=>∃k,BZ X.K x H k/\Q k H):=by
 intro pins s σ H x v Q I rx h;obtain⟨k,e,q⟩:=h;have hl:=jg;have hs:sizeLine=16777216:=sizeLine_eq;cases x with
 |ah=>
  cases rx;have e':k=false:=e;subst e';exact truthy_none ⟨H,I,q⟩
 |bl b=>
  cases rx;have e':k=b:=e;subst e';exact wpAny_truthy_bool ⟨H,I,q⟩
 |int i=>
  obtain⟨t,rfl⟩:=rx;have e':k=(i != 0):=e;subst e';exact PySem.P.truthy_int ⟨H,I,q⟩
 |str y=>
  obtain⟨t,rfl⟩:=rx;obtain⟨hy,e'⟩:y.length<=sizeLine/\k=((y.length:Int) != 0):=e;subst e';exact PySem.P.truthy_str (by omega) ⟨H,I.tok _,q⟩
 |byt y=>
  obtain⟨t,rfl⟩:=rx;obtain⟨hy,e'⟩:y.size<=sizeLine/\k=((y.size:Int) != 0):=e;subst e';exact PySem.W.truthy_bytes (by omega) ⟨H,I.tok _,q⟩
 |ref p=>
  cases rx;have e':(∃xs,bx X.K H p xs/\k=!xs.isEmpty)\/(∃xs,df X.K H p xs/\k=!xs.isEmpty)\/∃kvs,H p=some (.dK kvs)/\k=!kvs.isEmpty:=e;rcases e' with ⟨xs,hx,e'⟩|⟨xs,hx,e'⟩|⟨kvs,hx,e'⟩
  .subst e';obtain⟨its,r,pl,hz⟩:=I.list hx;have hlen:=r.length;exact wpAny_truthy_list pl.isList (by simp only[List.size_toArray];omega) ⟨H,I.tok _,by rw[pT r];exact q⟩
  .subst e';obtain⟨its,r,pl,hz⟩:=I.tuple hx;have hlen:=r.length;exact truthy_tuple pl (by simp only[List.size_toArray];omega) ⟨H,I.tok _,by rw[pT r];exact q⟩
  .subst e';obtain⟨hz,hS,vs,r,m⟩:kvs.length<=sizeLine/\(p== sysModules)=false/\∃vs,KV kvs vs/\s.heap.DictOf (bD X.prog X.w) p vs:=I.ao p _ hx;have hlen:kvs.length=vs.length:=Paired.length r;exact wpAny_truthy_dict hS m (by omega) ⟨H,I.tok _,by rw[ym r];exact q⟩
 |_=>exact (show False from e).elim
theorem CH(ha:PE X a ta)(he:∀whole,isTrue a X.env whole=(do let v <-whole;standAt a.pos;holding [v] (truthy v))):
  PT X a (fun σ H Q=>ta σ H fun x H'=>∃k,BZ X.K x H' k/\Q k H'):=by
 intro pins s σ H Q I h;exact isTrue_plain (aC (ha pins s σ H _ I h) fun v s1 Z=>Z.g4 fun x H1 I1 r1 q1=>Bf pins s1 σ H1 x v Q I1 r1 q1) (he _)
theorem yO:cN X (binaryOp .Add) (fun x y H Q=>∃i j,x=.str i/\y=.str j/\i.length+j.length<=sizeLine/\Q (.str (i++j)) H):=by intro pins s σ H x y v u Q I rx ry h;obtain⟨i,j,rfl,rfl,hz,q⟩:=h;obtain⟨t,rfl⟩:=rx;obtain⟨t',rfl⟩:=ry;exact add_str (fun t' tk=>⟨.str (i++j),H,I.tok _,⟨_,rfl⟩,q⟩) hz
theorem vals1{x:V}{us:List Value}(r:Vals [x] us):∃u,us=[u]/\RelV x u:=by
 cases r with
 |cons r1 r2=>cases r2;exact⟨_,rfl,r1⟩
end
structure ow(h:Heap)(x dx C:Addr)(mA:Str->Option Value):Prop where
 obj:h.get? x=some (PySem.W.instObj C dx)
 ns:h.Ns1 dx mA
 ne:dx≠x
theorem rQ{h:Heap}{dx:Addr}{mA:Str->Option Value}(n:h.Ns1 dx mA):∃od,h.get? dx=some od/\∀name,PySem.W.lookIn name od=some (mA name):=by
 obtain⟨o,es,ep,ho,hd,hk,_,hm⟩:=n;refine⟨o,ho,fun name=>?_⟩;have e:=hm name;unfold nsFind findBy at e;rw[<-Array.find?_toList] at e;unfold PySem.W.lookIn;rw[hd];dsimp only;split
 .rename_i y q;rw[q] at e;exact congrArg some e
 .rename_i q;rw[q] at e;have a:es.toList.any (·.refKey)=false:=by
   rw[List.any_eq_false];intro y hy;obtain⟨z,t,hkey⟩:=hk y (Array.mem_toList_iff.mp hy);simp[DictEntry.refKey,hkey]
  have a':¬ es.toList.any (·.refKey)=true:=by rw[a];exact Bool.false_ne_true
  rw[if_neg a'];exact congrArg some e
theorem ow.look{h:Heap}{x dx C:Addr}{mA:Str->Option Value}(I:ow h x dx C mA):∃od,PySem.W.InstAt h x (PySem.W.instObj C dx) C (some od)/\∀name,PySem.W.lookIn name od=some (mA name):=
 let ⟨od,ho,hl⟩:=rQ I.ns
 ⟨od,⟨I.obj,rfl,rfl,ho⟩,hl⟩
section
variable {prog:Program}{w:World}{A:Around}{E:Value->Shared->Prop}{s:Shared}{K:PySem.W.Frag}{x dx C f:Addr}{mA:Str->Option Value}{name:Str}{v:Value}
theorem get_map{expr:Bool}{Q:Value->Shared->Prop}(X:K.In s.heap)(I:ow s.heap x dx C mA)(hg:PySem.W.plainGet K C name=true)(hh:PySem.W.hasDictIn K C=true)
  (ha:PySem.W.findIn K (.ref C) name=some none) (hv:mA name=some v) (hv':PySem.W.handedIn v=true) (h:Q v {s with toks:=s.toks+1}):
  wpAny (model prog w) A (getAttr (.ref x) name expr) Q E s:=by
 obtain⟨od,J,hl⟩:=I.look;exact PySem.W.get_value X J (PySem.W.plainGet_of hg).1 (PySem.W.findObj_own hh ha rfl (by rw[hl,hv])) hv' h
theorem Di{pl:Sem Bool}{Q:Value×List Value->Shared->Prop}(X:K.In s.heap)(I:ow s.heap x dx C mA)(hg:PySem.W.plainGet K C name=true)
  (hf:PySem.W.findIn K (.ref C) name=some (some (.ref f))) (ht:PySem.W.isFn K (.ref f)=true) (hv:mA name=none) (h:Q (.ref f,[.ref x]) s):
  wpAny (model prog w) A (getMethod (.ref x) name pl) Q E s:=by
 obtain⟨od,J,hl⟩:=I.look;exact PySem.W.method_fn X J (PySem.W.plainGet_of hg).1 (PySem.W.plainGet_of hg).2 hf (beq_iff_eq.mp ht) (by show (PySem.W.lookIn name od).map (·.isSome)=some false;rw[hl,hv];rfl) h
theorem EK{ns:List Str}{Q:Unit->Shared->Prop}(X:K.In s.heap)(I:ow s.heap x dx C mA)
  (hs:PySem.W.findIn K (.ref C) "__setattr__" = some (some (.builtin "object.__setattr__"))) (hp:PySem.W.plainOver K C=true) (ht:PySem.W.takerIn K C name=some none) (hh:PySem.W.hasDictIn K C=true)
  (hw:PySem.Within mA ns) (hsz:ns.length<=sizeLine)
  (h:∀h',ow h' x dx C (fun y=>if y=name then some v else mA y)->Heap.SameBut dx s.heap h'->Q () {s with heap:=h',toks:=s.toks+2}):
  wpAny (model prog w) A (setAttr (.ref x) name v) Q E s:=by
 obtain⟨od,J,hl⟩:=I.look;refine PySem.W.set_plain X J hs (PySem.W.osa_open (s:={s with toks:=s.toks+1}) (r:=none) X J hp ht fun b=>?_);obtain⟨cd,hc,hd'⟩:=PySem.W.any_some hh;have hx:s.heap.get? x=some ⟨.ref C,some dx,.plain,#[]⟩:=I.obj;refine wpAny_bind (wpAny_pure (wpAny_bind (wpAny_bind (wpAny_loadPart hx (wpAny_bind (PySem.W.Looks.here (s:={s with toks:=s.toks+1}) (PySem.W.looks_clsIn X hc) ?_))))));rw[hd'];refine wpAny_pure (a:=some dx) (wpAny_bind (wpAny_pure (wpAny_bind ?_)));refine wpAny_nsSet1 (s:={s with toks:=s.toks+1}) I.ns fun h' hn2 hs2=>?_;obtain⟨oD,esD,epD,hoD,hdD,hcD⟩:=hn2.count (PySem.Within.cons name v hw);refine wpAny_bind (wpAny_lookBehind hoD (by rw[hdD];exact pastItsLine_dict (Nat.le_trans hcD (by rw[List.length_cons];omega))) ?_);exact wpAny_pure (h _ ⟨(hs2.2 _ (Ne.symm I.ne)).trans I.obj,hn2,I.ne⟩ hs2)
theorem Co{R:Result->Shared->Prop}{vs:List Value}{kw:List (Str×Value)}(X:K.In s.heap)(hm:PySem.W.makesIn K C=true)
  (hi:PySem.W.findIn K (.ref C) "__init__" = some (some (.ref f))) (hf:PySem.W.typeIn K (.ref f)=some (.type "function"))
  (h:codeAny (model prog w) (A.under (.builtin "type.__call__" ⟨.ref C::vs,kw⟩)) (.call (.ref f) ⟨.ref (s.heap.objs.size+1)::vs,kw⟩) (PySem.W.InitBack (s.heap.objs.size+1) R)
   {s with heap:=(s.heap.push PySem.W.emptyDict).push (PySem.W.instObj C s.heap.objs.size)}):
  codeAny (model prog w) A (.call (.ref C) ⟨vs,kw⟩) R s:=by
 obtain⟨hh,g,d,t,os⟩:=s;exact PySem.W.make_core (PySem.W.makes_of X hm) (PySem.W.looks_findIn X hi) (fun self=>PySem.W.bind_fn X self hf) (.inl rfl) h
end
noncomputable def cX(f:Str)(v:V):List (Str×V)->List (Str×V)
 |[]=>[(f,v)]
 |(g,x)::r=>if g=f then (g,v)::r else (g,x)::cX f v r
theorem j1(f g:Str)(v:V):∀fs:List (Str×V),(cX f v fs).lookup g=if g=f then some v else fs.lookup g
 |[]=>by
  show List.lookup g [(f,v)]=_;by_cases h:g=f
  .have hb:(g== f)=true:=beq_iff_eq.mpr h;simp only[List.lookup,hb,if_pos h]
  .have hb:(g== f)=false:=beq_eq_false_iff_ne.mpr h;simp only[List.lookup,hb,if_neg h]
 |(k,x)::r=>by
  have ih:=j1 f g v r;rw[show cX f v ((k,x)::r)=(if k=f then (k,v)::r else (k,x)::cX f v r) from rfl];by_cases hk:k=f
  .rw[if_pos hk];by_cases h:g=k
   .have hb:(g== k)=true:=beq_iff_eq.mpr h;simp only[List.lookup,hb,if_pos (h.trans hk)]
   .have hb:(g== k)=false:=beq_eq_false_iff_ne.mpr h;simp only[List.lookup,hb,if_neg (fun e:g=f=>h (e.trans hk.symm))]
  .rw[if_neg hk];by_cases h:g=k
   .have hb:(g== k)=true:=beq_iff_eq.mpr h;simp only[List.lookup,hb,if_neg (fun e:g=f=>hk (h.symm.trans e))]
   .have hb:(g== k)=false:=beq_eq_false_iff_ne.mpr h;simp only[List.lookup,hb];exact ih
theorem mC(f:Str)(v:V):∀fs:List (Str×V),f∈(cX f v fs).map (·.1)/\∀g,g∈fs.map (·.1)->g∈(cX f v fs).map (·.1)
 |[]=>⟨by simp[cX],fun g h=>by simp at h⟩
 |(k,x)::r=>by
  obtain⟨i1,i2⟩:=mC f v r;rw[show cX f v ((k,x)::r)=(if k=f then (k,v)::r else (k,x)::cX f v r) from rfl];by_cases hk:k=f
  .rw[if_pos hk];subst hk;exact⟨by simp,fun g h=>by simpa using h⟩
  .rw[if_neg hk];refine⟨?_,fun g h=>?_⟩
   .rw[List.map_cons];exact List.mem_cons_of_mem _ i1
   .rw[List.map_cons] at h⊢;rcases List.mem_cons.mp h with e|e
    .exact List.mem_cons.mpr (.inl e)
    .exact List.mem_cons_of_mem _ (i2 g e)
theorem oo(f:Str)(v:V):∀fs:List (Str×V),(cX f v fs).length<=fs.length+1
 |[]=>by simp[cX]
 |(k,x)::r=>by
  have ih:=oo f v r;rw[show cX f v ((k,x)::r)=(if k=f then (k,v)::r else (k,x)::cX f v r) from rfl];by_cases hk:k=f
  .rw[if_pos hk,List.length_cons,List.length_cons];omega
  .rw[if_neg hk,List.length_cons,List.length_cons];omega
theorem dC.some_of{v:V}{o:Option Value}(r:dC (some v) o):∃u,o=some u/\RelV v u:=by
 cases o with
 |none=>exact (show False from r).elim
 |some u=>exact⟨u,rfl,r⟩
theorem dC.none_of{o:Option Value}(r:dC none o):o=none:=by
 cases o with
 |none=>rfl
 |some u=>exact (show False from r).elim
theorem sE{v:V}{u:Value}(r:RelV v u):PySem.W.handedIn u=true:=by
 cases v with
 |ah=>cases (show u=Value.none from r);rfl
 |bl b=>cases (show u=Value.bool b from r);rfl
 |int i=>obtain⟨t,e⟩:=(show ∃t,u=Value.int i t from r);cases e;rfl
 |str x=>obtain⟨t,e⟩:=(show ∃t,u=Value.str x t from r);cases e;rfl
 |byt b=>obtain⟨t,e⟩:=(show ∃t,u=Value.bytes b t from r);cases e;rfl
 |flt b=>obtain⟨t,e⟩:=(show ∃t,u=Value.float b t from r);cases e;rfl
 |ref a=>cases (show u=Value.ref a from r);rfl
 |ty n=>cases (show u=Value.type n from r);rfl
section
variable {P:Program}{w:World}{H H':Hp}{h h':Heap}{a C dx:Addr}{fs fs':List (Str×V)}
theorem qz(ao:cq P w H h)(e:H a=some (.ins C dx fs)):∃mA,ow h a dx C mA/\(∀f,dC (fs.lookup f) (mA f))/\PySem.Within mA (fs.map (·.1))/\fs.length<=1000/\H dx=some (.own a):=by obtain⟨d,z,ne,ob,mA,n,r,q⟩:=(show bJ P w H h a (.ins C dx fs) from ao a _ e);exact⟨mA,⟨ob,n,ne⟩,r,q,z,d⟩
end
structure om(K:PySem.W.Frag)(C:Addr):Prop where
 pg:PySem.W.plainGet K C Str.empty=true
 hd:PySem.W.hasDictIn K C=true
 po:PySem.W.plainOver K C=true
 sa:PySem.W.findIn K (.ref C) "__setattr__" = some (some (.builtin "object.__setattr__"))
theorem om.get{K:PySem.W.Frag}{C:Addr}(c:om K C)(f:Str):PySem.W.plainGet K C f=true:=c.pg
def bh(K:PySem.W.Frag)(C:Addr)(f:Str):Prop:=PySem.W.findIn K (.ref C) f=some none
theorem bh.L4{K:PySem.W.Frag}{C:Addr}{f:Str}(n:bh K C f):PySem.W.takerIn K C f=some none:=by unfold PySem.W.takerIn;rw[show PySem.W.findIn K (.ref C) f=some none from n];rfl
structure Meth(K:PySem.W.Frag)(C:Addr)(m:Str)(f:Addr):Prop where
 at_:PySem.W.findIn K (.ref C) m=some (some (.ref f))
 fn:PySem.W.isFn K (.ref f)=true
 kp:PySem.W.keepIn K (.ref f)=true
section
variable {X:Cx}{pins:List (Addr×Obj)}{σ:St}{H:Hp}{s:Shared}{a C dx:Addr}{fs:List (Str×V)}{f:Str}{v:V}{A:Around}{E:Value->Shared->Prop}
theorem xI{b:Bool}{Q:Value->Shared->Prop}(I:Inv X pins σ H s)(e:H a=some (.ins C dx fs))(c:om X.K C)(n:bh X.K C f)(l:fs.lookup f=some v)
  (h:∀u s',Inv X pins σ H s'->RelV v u->Q u s'):wpAny (model X.prog X.w) A (getAttr (.ref a) f b) Q E s:=by
 obtain⟨mA,O,r,_,_,_⟩:=qz I.ao e;obtain⟨u,hu,ru⟩:=dC.some_of (v:=v) (o:=mA f) (by rw[<-l];exact r f);exact get_map I.cR O (c.get f) c.hd n hu (sE ru) (h u _ (I.tok _) ru)
theorem lh{m:Str}{g:Addr}{pl:Sem Bool}{Q:Value×List Value->Shared->Prop}(I:Inv X pins σ H s)(e:H a=some (.ins C dx fs))(c:om X.K C)(k:Meth X.K C m g)(l:fs.lookup m=none)
  (h:Q (.ref g,[.ref a]) s):wpAny (model X.prog X.w) A (getMethod (.ref a) m pl) Q E s:=by
 obtain⟨mA,O,r,_,_,_⟩:=qz I.ao e;have hn:mA m=none:=dC.none_of (by rw[<-l];exact r m);exact Di I.cR O (c.get m) k.at_ k.fn hn h
theorem yK{y:V}{u:Value}{Q:Unit->Shared->Prop}(I:Inv X pins σ H s)(e:H a=some (.ins C dx fs))(c:om X.K C)(n:bh X.K C f)(hl:fs.length<1000)(ry:RelV y u)
  (h:∀s',Inv X pins σ (upd H a (.ins C dx (cX f y fs))) s'->Q () s'):wpAny (model X.prog X.w) A (setAttr (.ref a) f u) Q E s:=by
 obtain⟨mA,O,r,wi,_,ho⟩:=qz I.ao e;have hz:(fs.map (·.1)).length<=sizeLine:=by rw[List.length_map,sizeLine_eq];omega
 refine EK I.cR O c.sa c.po n.L4 c.hd wi hz fun h' O' sb=>h _ ?_;have hd:∃o,h'.get? dx=some o:=let ⟨o,_,_,e',_⟩:=O'.ns;⟨o,e'⟩
 refine I.write (x:=a) (e:=dx) (by rw[e];exact True.intro) (.inr ho) (fun b q hb z=>(sb.2 b hb).trans z) hd ?_;refine⟨by rw[aq O.ne];exact ho,?_,O.ne,O'.obj,_,O'.ns,fun g=>?_,fun g hg=>?_⟩
 .have:=oo f y fs;omega
 .show dC ((cX f y fs).lookup g) (if g=f then some u else mA g);rw[j1];by_cases q:g=f
  .rw[if_pos q,if_pos q];exact ry
  .rw[if_neg q,if_neg q];exact r g
 .by_cases q:g=f
  .rw[q];exact (mC f y fs).1
  .refine (mC f y fs).2 g (wi g fun z=>hg ?_);show (if g=f then some u else mA g)=none;rw[if_neg q];exact z
theorem Inv.made(I:Inv X pins σ H s):Inv X pins σ (upd (upd H s.heap.objs.size (.own (s.heap.objs.size+1))) (s.heap.objs.size+1) (.ins C s.heap.objs.size []))
  {s with heap:=(s.heap.push PySem.W.emptyDict).push (PySem.W.instObj C s.heap.objs.size)}:=by
 have e1:(s.heap.push PySem.W.emptyDict).get? s.heap.objs.size=some PySem.W.emptyDict:=Heap.get?_push_size s.heap rfl;have e2:((s.heap.push PySem.W.emptyDict).push (PySem.W.instObj C s.heap.objs.size)).get? (s.heap.objs.size+1)=some (PySem.W.instObj C s.heap.objs.size):=by
  have:=Heap.get?_push_size (s.heap.push PySem.W.emptyDict) (o:=PySem.W.instObj C s.heap.objs.size) rfl
  rwa [Heap.size_push] at this
 have e3:(s.heap.push PySem.W.emptyDict).Ns s.heap.objs.size (fun _=>none):=⟨PySem.W.emptyDict,#[],_,e1,rfl,(fun e he=>absurd he (by simp)),fun _=>rfl⟩;have I1:=I.laid (a:=s.heap.objs.size) (o:=.own (s.heap.objs.size+1)) (h':=s.heap.push PySem.W.emptyDict) (t':=s.toks) (fun b u q=>Heap.get?_push_of_some _ q) (Nat.le_refl _) ⟨_,e1⟩;refine I1.laid (a:=s.heap.objs.size+1) (o:=.ins C s.heap.objs.size []) (t':=s.toks) (fun b u q=>Heap.get?_push_of_some _ q) (Nat.le_of_eq (Heap.size_push _ _)) ?_;have ne:s.heap.objs.size≠s.heap.objs.size+1:=Nat.ne_of_lt (Nat.lt_succ_self _);refine⟨by rw[aq ne,aJ],Nat.zero_le _,ne,e2,fun _=>none,(Heap.Ns1.of_empty e3).at fun o q=>Heap.get?_push_of_some _ q,fun _=>True.intro,fun y hy=>absurd rfl hy⟩
theorem xm{prog:Program}{w:World}{env:Env}{e:Expr}{f:Str}{pos:Pos}{s:Shared}{Q:Value->Shared->Prop}(hb:attributeBase e f env (eval e env)=eval e env)
  (h:wpAny (model prog w) A (eval e env) (fun o s₁=>wpAny (model prog w) A (getAttr o f true) Q E s₁) E s):wpAny (model prog w) A (eval (.Attribute e f pos) env) Q E s:=
 Attribute_any_ h (by rw[arm_eval_Attribute,hb])
end
noncomputable def Oj(K:PySem.W.Frag)(ta:TE)(f:Str):TE:=fun σ H Q=>ta σ H fun x H1=>∃a C dx fs v,x=.ref a/\H1 a=some (.ins C dx fs)/\om K C/\bh K C f/\fs.lookup f=some v/\Q v H1
noncomputable def P1(K:PySem.W.Frag)(ta tv:TE)(f:Str):TS:=fun D σ H=>tv σ H fun y H1=>ta σ H1 fun x H2=>∃a C dx fs,x=.ref a/\H2 a=some (.ins C dx fs)/\om K C/\bh K C f/\fs.length<1000/\
 D.nx σ (upd H2 a (.ins C dx (cX f y fs)))
section
variable {X:Cx}{o e value:Expr}{f:Str}{pos pos' tpos:Pos}{ta tv:TE}
theorem He(he:PE X e ta)(hb:attributeBase e f X.env (eval e X.env)=eval e X.env):PE X (.Attribute e f pos) (Oj X.K ta f):=by intro pins s σ H Q I h;refine xm hb (aC (he pins s σ H _ I h) fun u s1 Z=>Z.g fun x Z=>Z.g fun H1 Z=>Z.g fun I1 Z=>Z.g fun rx Z=>Z.g fun a Z=>Z.g fun C Z=>Z.g fun dx Z=>Z.g fun fs Z=>Z.g fun v Z=>Z.g fun ex Z=>Z.g fun ea Z=>Z.g fun c Z=>Z.g fun n Z=>Z.g fun l q=>?_);subst ex;obtain rfl:u=Value.ref a:=rx;exact xI I1 ea c n l fun u' s2 I2 ru=>⟨v,H1,I2,ru,q⟩
theorem Iv(ha:PE X o ta)(hv:PE X value tv)(hs:swapsWith value (some (.Attribute o f pos')) pos.line X.env=pure false):PS X (.Assign [.Attribute o f pos'] value pos) (P1 X.K ta tv f):=by intro pins s σ H D I h;refine plainObj_wpAny_Assign_Attribute (aC (hv pins s σ H _ I h) fun u s1 Z=>Z.g fun y Z=>Z.g fun H1 Z=>Z.g fun I1 Z=>Z.g fun ry q=>aC (ha pins s1 σ H1 _ I1 q) fun ov s2 Z=>Z.g fun x Z=>Z.g fun H2 Z=>Z.g fun I2 Z=>Z.g fun rx Z=>Z.g fun a Z=>Z.g fun C Z=>Z.g fun dx Z=>Z.g fun fs Z=>Z.g fun ex Z=>Z.g fun ea Z=>Z.g fun c Z=>Z.g fun n Z=>Z.g fun l q2=>?_) hs;subst ex;obtain rfl:ov=Value.ref a:=rx;exact yK I2 ea c n l ry fun s3 I3=>⟨σ,_,I3,q2⟩
end
section
variable {X:Cx}{pins:List (Addr×Obj)}{σ:St}{H:Hp}{s:Shared}{A:Around}{E:Value->Shared->Prop}{Q:Value->Shared->Prop}{c:Value}{b:Bool}
end
structure bI(k:Nat)(A:Around):Prop where
 hd:A.handled=none
 dp:A.depth+3 * k+5<recursionLimit
 un:A.units+16 * k+200<cLine
theorem bI.mono{j k:Nat}{A:Around}(r:bI k A)(h:j<=k):bI j A:=⟨r.hd,by have:=r.dp;omega,by have:=r.un;omega⟩
theorem bI.deeper{k:Nat}{A:Around}(r:bI (k+1) A)(env:Env):bI k (A.deeper env):=
 ⟨r.hd,by have:=r.dp;show A.depth+1+3 * k+5<_;omega,by have:=r.un;show A.units+3+16 * k+200<_;omega⟩
theorem yx{A:Around}{C:Addr}{us:List Value}{kw:List (Str×Value)}:(A.under (.builtin "type.__call__" ⟨.ref C::us,kw⟩)).depth=A.depth+1:=by first|rfl|simp[Around.under,Code.weight,Code.isCreation,Code.isGuard,Code.isCaller,Code.frames,Code.isFrame,guardIds]
theorem yn{A:Around}{C:Addr}{us:List Value}{kw:List (Str×Value)}:(A.under (.builtin "type.__call__" ⟨.ref C::us,kw⟩)).units=A.units+1:=by first|rfl|simp[Around.under,Code.cUnits,Code.frames,Code.isFrame]
theorem bI.make{k:Nat}{A:Around}(r:bI (k+1) A)(C:Addr)(us:List Value)(kw:List (Str×Value)):bI k (A.under (.builtin "type.__call__" ⟨.ref C::us,kw⟩)):=
 ⟨r.hd,by have:=r.dp;rw[yx];omega,by have:=r.un;rw[yn];omega⟩
theorem bI.depth{k:Nat}{A:Around}(r:bI k A):A.depth<recursionLimit:=by have:=r.dp;omega
noncomputable def tS:TA:=fun _ H Q=>Q [] H
noncomputable def lu(ta:TE)(tr:TA):TA:=fun σ H Q=>ta σ H fun x H1=>tr σ H1 fun xs H2=>Q (x::xs) H2
section
variable {X:Cx}{e:Expr}{es:List Expr}{te:TE}{t:TA}{pos:Pos}
theorem cK:PA X [] tS:=fun _ _ _ _ H Q I h=>Calls.spliced_nil ⟨[],H,I,.nil,h⟩
theorem bX(ha:PE X e te)(hr:PA X es t)(hs:starEach (e::es) X.env=(false,eval e X.env)::starEach es X.env:=by rfl):PA X (e::es) (lu te t):=by intro pos pins s σ H Q I h;rw[hs];show wpAny _ _ (spliced ((false,eval e X.env)::backTo pos (starEach es X.env))) _ _ s;refine Calls.spliced_cons (aC (ha pins s σ H _ I h) fun u s1 Z=>Z.g4 fun x H1 I1 r1 q1=>?_);exact aC (hr pos pins s1 σ H1 _ I1 q1) fun us s2 Z=>Z.g4 fun xs H2 I2 r2 q2=>⟨x::xs,H2,I2,.cons r1 r2,q2⟩
noncomputable def Hl(t:TA):TE:=fun σ H Q=>t σ H fun xs H1=>xs.length<=sizeLine/\∀p,H1 p=none->Q (.ref p) (upd H1 p (.tup xs))
noncomputable def OQ(t:TA):TE:=fun σ H Q=>t σ H fun xs H1=>xs.length<=sizeLine/\∀p,H1 p=none->Q (.ref p) (upd H1 p (.lst xs))
theorem A9{x1}(h:PA X es t):PE X (.Tuple es x1 pos) (Hl t):=by intro pins s σ H Q I hq;refine wpAny_Tuple_spliced (aC (h pos pins s σ H _ I hq) fun us s1 Z=>Z.g4 fun xs H1 I1 r Z=>Z.g fun z q=>⟨by rw[<-r.length];exact z,?_⟩);have hf:H1 s1.heap.objs.size=none:=I1.ao.fresh (Nat.le_refl _);refine⟨.ref s1.heap.objs.size,upd H1 s1.heap.objs.size (.tup xs),I1.laid (t':=s1.toks) (fun b u e=>Heap.get?_push_of_some _ e) (Nat.le_refl _) ?_,rfl,q _ hf⟩;exact⟨z,us,r,⟨_,Heap.get?_push_size _ rfl,rfl,_,rfl⟩⟩
theorem GC(h:PA X es t):PE X (.List es pos) (OQ t):=by intro pins s σ H Q I hq;refine wpAny_List_spliced (aC (h pos pins s σ H _ I hq) fun us s1 Z=>Z.g4 fun xs H1 I1 r Z=>Z.g fun z q=>⟨by rw[<-r.length];exact z,?_⟩);have hf:H1 s1.heap.objs.size=none:=I1.ao.fresh (Nat.le_refl _);refine⟨.ref s1.heap.objs.size,upd H1 s1.heap.objs.size (.lst xs),I1.laid (t':=s1.toks) (fun b u e=>Heap.get?_push_of_some _ e) (Nat.le_refl _) ?_,rfl,q _ hf⟩;exact⟨z,us,0,r,Heap.get?_push_size _ rfl⟩
end
noncomputable abbrev Sp:=List V->Hp->VK->XK->Prop
noncomputable abbrev eE:=List Env->Hp->Shared->XK->Value->Shared->Prop
structure oM(P:Program)(w:World)(K:PySem.W.Frag)(mg:Str->Option Value)(base:Heap)(A:Around)(outer:List Env)(s:Shared)(H:Hp):Prop where
 frames:A.frames=some outer
 mod:Mod K mg base
 bs:∀b o,base.get? b=some o->s.heap.get? b=some o/\H b=none
 kQ:base.objs.size<=s.heap.objs.size
 fQ:s.heap.FunFrames base outer
 mR:∀b∈bK outer,H b=none
 ao:cq P w H s.heap
 bare:AllBare s.gens
def CE(outer:List Env)(P:Program)(w:World)(H:Hp)(s:Shared)(Q:VK)(u:Value)(s':Shared):Prop:=
 ∃v H',s'.os=s.os/\AllBare s'.gens/\Un (bK outer) [] H H' s.heap s'.heap/\cq P w H' s'.heap/\RelV v u/\Q v H'
def CR(CX:eE)(outer:List Env)(P:Program)(w:World)(H:Hp)(s:Shared)(Q:VK)(E:XK)(r:Result)(s':Shared):Prop:=
 match r with
 |.ok (.ret u)=>CE outer P w H s Q u s'
 |.ok _=>False
 |.error e=>CX outer H s E e s'
structure bU(P:Program)(w:World)(K:PySem.W.Frag)(mg:Str->Option Value)(base:Heap)(CX:eE)(k:Nat)(f:Addr)(fd:FuncData)(ps:List Str)(sp:Sp):Prop where
 len:∀vs H Q E,sp vs H Q E->vs.length=ps.length
 run:∀(A:Around)(outer:List Env)(s:Shared)(H:Hp)(args:Args)(us:List Value)(vs:List V)(Q:VK)(E:XK),bI k A->oM P w K mg base A outer s H->BindsTo s fd args (ps.zip us)->Vals vs us->sp vs H Q E->
  codeAny (model P w) A (.call (.ref f) args) (CR CX outer P w H s Q E) s
theorem bU.imp{P:Program}{w:World}{K:PySem.W.Frag}{mg:Str->Option Value}{base:Heap}{CX:eE}{k:Nat}{f:Addr}{fd:FuncData}{ps:List Str}{sp sp':Sp}(F:bU P w K mg base CX k f fd ps sp)
  (h:∀vs H Q E,sp' vs H Q E->sp vs H Q E):bU P w K mg base CX k f fd ps sp':=
 ⟨fun vs H Q E q=>F.len vs H Q E (h _ _ _ _ q),fun A outer s H args us vs Q E hr he hb hv hs=>F.run A outer s H args us vs Q E hr he hb hv (h _ _ _ _ hs)⟩
theorem oM.make{P:Program}{w:World}{K:PySem.W.Frag}{mg:Str->Option Value}{base:Heap}{A:Around}{outer:List Env}{s:Shared}{H:Hp}(e:oM P w K mg base A outer s H)(C:Addr)(us:List Value)(kw:List (Str×Value)):
  oM P w K mg base (A.under (.builtin "type.__call__" ⟨.ref C::us,kw⟩)) outer s H:=⟨by first|exact e.frames|(simpa [Around.under,Code.envs,Code.isFrame,pushEnvs] using e.frames),e.mod,e.bs,e.kQ,e.fQ,e.mR,e.ao,e.bare⟩
section
variable {X:Cx}{pins:List (Addr×Obj)}{σ:St}{H:Hp}{s s':Shared}
theorem Inv.yh(I:Inv X pins σ H s):oM X.prog X.w X.K X.mg X.base X.A X.stack s H:=
 ⟨I.ok.frames,I.ok.mod,I.bs,Nat.le_trans I.ok.kQ I.sz,I.stack,I.kM,I.ao,I.bare⟩
theorem Inv.after{Q:VK}{u:Value}(I:Inv X pins σ H s)(h:CE X.stack X.prog X.w H s Q u s'):EP X pins σ Q u s':=by obtain⟨v,H',os,bare,un,ao,r,q⟩:=h;obtain⟨hh,g,d,t,os'⟩:=s';obtain rfl:os'=s.os:=os;exact⟨v,H',I.call (h':=hh) (g':=g) (d':=d) (t':=t) (ch:=[]) un ao bare (fun b z=>absurd z (by simp)),r,q⟩
end
noncomputable def xr(sp:Sp)(dvs:List V)(E:XK)(t:TA):TE:=fun σ H Q=>t σ H fun vs H1=>sp (vs++dvs) H1 Q E
noncomputable def tF(C:Addr)(m:Str)(sp:Sp)(dvs:List V)(E:XK)(ta:TE)(t:TA):TE:=fun σ H Q=>ta σ H fun x H1=>∃a dx fs,x=.ref a/\H1 a=some (.ins C dx fs)/\fs.lookup m=none/\
 t σ H1 fun vs H2=>sp (x::(vs++dvs)) H2 Q E
noncomputable def L6(C:Addr)(sp:Sp)(dvs:List V)(E:XK)(t:TA):TE:=fun σ H Q=>t σ H fun vs H1=>∀x dx,H1 x=none->H1 dx=none->dx≠x->
 sp (.ref x::(vs++dvs)) (upd (upd H1 dx (.own x)) x (.ins C dx [])) (fun v H2=>v=.ah/\Q (.ref x) H2) E
def Binds(K:PySem.W.Frag)(fd:FuncData)(ps:List Str)(ds:List Value):Prop:=
 ∀(s:Shared)(us:List Value),K.In s.heap->(us++ds).length=ps.length->BindsTo s fd ⟨us,[]⟩ (ps.zip (us++ds))
theorem Binds.all{K:PySem.W.Frag}{fd:FuncData}{ps:List Str}(h:∀us:List Value,us.length=ps.length->bindArgs fd ⟨us,[]⟩=pure (ps.zip us)):Binds K fd ps []:=fun s us _ hl=>by
 rw[List.append_nil] at hl⊢;exact .of_eq (h us hl)
def Passes(CX:eE)(X:Cx)(E:XK):Prop:=∀(pins:List (Addr×Obj))(σ:St)(H:Hp)(s:Shared)(e:Value)(s':Shared),Inv X pins σ H s->CX X.stack H s E e s'->X.xe e s'
section
variable {X:Cx}{CX:eE}{k:Nat}{f C:Addr}{fd:FuncData}{ps:List Str}{sp:Sp}{dvs:List V}{ds:List Value}{E:XK}{x m:Str}{p pos apos:Pos}{e o:Expr}{es:List Expr}{ta:TE}{t:TA}
theorem mW{pins:List (Addr×Obj)}{σ:St}{H:Hp}{s:Shared}{Q:VK}{us:List Value}{vs:List V}(F:bU X.prog X.w X.K X.mg X.base CX k f fd ps sp)(hr:bI k X.A)(hb:Binds X.K fd ps ds)(hd:Vals dvs ds)(hx:Passes CX X E)
  (I:Inv X pins σ H s) (r:Vals vs us) (h:sp (vs++dvs) H Q E):wpAny (model X.prog X.w) X.A (call (.ref f) us) (EP X pins σ Q) X.xe s:=by
 have r2:Vals (vs++dvs) (us++ds):=r.append hd;have hl:(us++ds).length=ps.length:=by rw[<-r2.length];exact F.len _ _ _ _ h
 refine wpAny_call (codeAny_mono (F.run X.A X.stack s H ⟨us,[]⟩ (us++ds) (vs++dvs) Q E hr I.yh (hb s us I.cR hl) r2 h) fun r s' hq=>?_);cases r with
 |error e=>exact hx pins σ H s e s' I hq
 |ok fl=>
  cases fl with
  |ret u=>exact I.after hq
  |next=>exact False.elim hq
  |brk=>exact False.elim hq
  |cont=>exact False.elim hq
theorem Fi(F:bU X.prog X.w X.K X.mg X.base CX k f fd ps sp)(hr:bI k X.A)(hg:Gl X x)(hm:X.mg x=some (.ref f))(hk:PySem.W.keepIn X.K (.ref f)=true)(hb:Binds X.K fd ps ds)(hd:Vals dvs ds)(hx:Passes CX X E)
  (ha:PA X (e::es) t) (hdb:(x== ("__debug__" : Str))=false:=by decide) (he:starEach (e::es) X.env=(false,eval e X.env)::starEach es X.env:=by rfl) (hpl:(backTo pos (starEach es X.env)).any (·.1)=false:=by rfl):
  PE X (.Call (.Name x p) (e::es) [] pos) (xr sp dvs E t):=by
 intro pins s σ H Q I h;refine wpAny_Call_Name_kw (ie I hg hm ?_ hdb);refine PySem.W.callWith_K (h₀:=X.base) I.ok.mod.p7 hk (aC (ha pos pins s σ H _ I h) fun us s1 Z=>Z.g4 fun vs H1 I1 r q=>⟨I1.cR,?_⟩) he hpl;exact mW F hr hb hd hx I1 r q
theorem E2{pl:Sem Bool}(he:PE X o ta)(c:om X.K C)(hm:Meth X.K C m f)(F:bU X.prog X.w X.K X.mg X.base CX k f fd ps sp)(hr:bI k X.A)(hb:Binds X.K fd ps ds)(hd:Vals dvs ds)(hx:Passes CX X E)(ha:PA X (e::es) t)
  (hst:starEach (e::es) X.env=(false,eval e X.env)::starEach es X.env:=by rfl) (hpl:(backTo pos (starEach es X.env)).any (·.1)=false:=by rfl)
  (ht:eval (.Call (.Attribute o m apos) (e::es) [] pos) X.env=(do
   let ov <-eval o X.env
   standAt apos.atName
   let (f,first) <-holding [ov] (getMethod ov m pl)
   callWith pos f first (backTo pos (starEach (e::es) X.env)) (backToKw pos (keywordEach [] X.env))):=by rfl):
  PE X (.Call (.Attribute o m apos) (e::es) [] pos) (tF C m sp dvs E ta t):=by
 intro pins s σ H Q I h;refine PySem.W.methodCall_KW (pl:=pl) (aC (he pins s σ H _ I h) fun u s1 Z=>Z.g fun x Z=>Z.g fun H1 Z=>Z.g fun I1 Z=>Z.g fun rx Z=>Z.g fun a Z=>Z.g fun dx Z=>Z.g fun fs Z=>Z.g fun ex Z=>Z.g fun ea Z=>Z.g fun l q=>?_) ht;subst ex;obtain rfl:u=Value.ref a:=rx;refine lh I1 ea c hm l ?_;refine PySem.W.callWith_K (first:=[.ref a]) (h₀:=X.base) I.ok.mod.p7 hm.kp (aC (ha pos pins s1 σ H1 _ I1 q) fun us s2 Z=>Z.g fun vs Z=>Z.g fun H2 Z=>Z.g fun I2 Z=>Z.g fun r q2=>⟨I2.cR,?_⟩) hst hpl;exact mW (us:=.ref a::us) (vs:=.ref a::vs) F hr hb hd hx I2 (.cons rfl r) q2
structure Mk(K:PySem.W.Frag)(C f:Addr):Prop where
 makes:PySem.W.makesIn K C=true
 init:PySem.W.findIn K (.ref C) "__init__" = some (some (.ref f))
 fn:PySem.W.isFn K (.ref f)=true
 kp:PySem.W.keepIn K (.ref C)=true
theorem u9{pins:List (Addr×Obj)}{σ:St}{H:Hp}{s:Shared}{Q:VK}{us:List Value}{vs:List V}(M:Mk X.K C f)(F:bU X.prog X.w X.K X.mg X.base CX k f fd ps sp)(hr:bI (k+1) X.A)(hb:Binds X.K fd ps ds)(hd:Vals dvs ds)
  (hx:Passes CX X E) (I:Inv X pins σ H s) (r:Vals vs us)
  (h:∀x dx,H x=none->H dx=none->dx≠x->sp (.ref x::(vs++dvs)) (upd (upd H dx (.own x)) x (.ins C dx [])) (fun v H2=>v=.ah/\Q (.ref x) H2) E):
  wpAny (model X.prog X.w) X.A (call (.ref C) us) (EP X pins σ Q) X.xe s:=by
 have hq:=h (s.heap.objs.size+1) s.heap.objs.size (I.ao.fresh (Nat.le_succ _)) (I.ao.fresh (Nat.le_refl _)) (Nat.ne_of_lt (Nat.lt_succ_self _));have I2:=Inv.made (C:=C) I;have r2:Vals (V.ref (s.heap.objs.size+1)::(vs++dvs)) (Value.ref (s.heap.objs.size+1)::(us++ds)):=.cons rfl (r.append hd);have hl:(Value.ref (s.heap.objs.size+1)::us++ds).length=ps.length:=by have e:=r2.length;rw[F.len _ _ _ _ hq] at e;exact e.symm
 refine wpAny_call (Co (f:=f) I.cR M.makes M.init (beq_iff_eq.mp M.fn) (codeAny_mono (F.run _ X.stack _ _ ⟨Value.ref (s.heap.objs.size+1)::us,[]⟩ (Value.ref (s.heap.objs.size+1)::(us++ds)) _ _ E (hr.make C us [])
  (I2.yh.make C us []) (hb _ (Value.ref (s.heap.objs.size+1)::us) I2.cR hl) r2 hq) fun r s' hq'=>?_))
 cases r with
 |error e=>exact hx pins σ _ _ e s' I2 hq'
 |ok fl=>
  cases fl with
  |ret u=>
   obtain⟨v,H',I3,rv,ev,q3⟩:=I2.after hq';subst ev;exact⟨rv,⟨V.ref (s.heap.objs.size+1),H',I3,rfl,q3⟩⟩
  |next=>exact False.elim hq'
  |brk=>exact False.elim hq'
  |cont=>exact False.elim hq'
theorem Ff(M:Mk X.K C f)(F:bU X.prog X.w X.K X.mg X.base CX k f fd ps sp)(hr:bI (k+1) X.A)(hg:Gl X x)(hm:X.mg x=some (.ref C))(hb:Binds X.K fd ps ds)(hd:Vals dvs ds)(hx:Passes CX X E)
  (ha:PA X (e::es) t) (hdb:(x== ("__debug__" : Str))=false:=by decide) (he:starEach (e::es) X.env=(false,eval e X.env)::starEach es X.env:=by rfl) (hpl:(backTo pos (starEach es X.env)).any (·.1)=false:=by rfl):
  PE X (.Call (.Name x p) (e::es) [] pos) (L6 C sp dvs E t):=by
 intro pins s σ H Q I h;refine wpAny_Call_Name_kw (ie I hg hm ?_ hdb);refine PySem.W.callWith_K (h₀:=X.base) I.ok.mod.p7 M.kp (aC (ha pos pins s σ H _ I h) fun us s1 Z=>Z.g4 fun vs H1 I1 r q=>⟨I1.cR,?_⟩) he hpl;exact u9 M F hr hb hd hx I1 r q
end
section
variable {X:Cx}{CX:eE}{k:Nat}{f C:Addr}{fd:FuncData}{ps ks:List Str}{sp:Sp}{E:XK}{x m:Str}{p pos apos kpos:Pos}{e o:Expr}{es:List Expr}{kws:List Keyword}{te ta:TE}{t tk:TA}{nm:Option Str}
variable {g:List Value->List Value->List Value}{gV:List V->List V->List V}
end
structure jc(N P:List Str)(sc:Scope):Prop where
 kind:sc.kind=.function
 co:sc.isCoroutine=false
 gen:sc.isGenerator=false
 nd:N.Nodup
 pre:N.take P.length=P
 par:∀x∈P,sc.names.lookup x=some .local\/sc.names.lookup x=some .cell
 JJ:∀y∈sc.names,y.2≠.free
theorem rR{kindOf:Str->Option NameKind}{x:Str}:∀{binds:List (Str×Value)}{m:Str->Option Value},(∀v,(x,v)∉binds)->bindL kindOf binds m x=m x
 |[],_,_=>rfl
 |(n,v)::r,m,h=>by
  unfold bindL;rw[rR fun w hw=>h w (List.mem_cons_of_mem _ hw)];split
  .have:x≠n:=by rintro rfl;exact h v List.mem_cons_self
   simp[this]
  .rfl
theorem rU{kindOf:Str->Option NameKind}{x:Str}:∀{binds:List (Str×Value)}{m:Str->Option Value},(∀v,(x,v)∉binds)->bindC kindOf binds m x=m x
 |[],_,_=>rfl
 |(n,v)::r,m,h=>by
  unfold bindC;rw[rU fun w hw=>h w (List.mem_cons_of_mem _ hw)];split
  .rfl
  .have:x≠n:=by rintro rfl;exact h v List.mem_cons_self
   simp[this]
theorem rN{kindOf:Str->Option NameKind}{x:Str}{v:Value}:∀{P:List Str}{vs:List Value}{i:Nat}{m:Str->Option Value},P.Nodup->P[i]?=some x->vs[i]?=some v->kindOf x=some .local->
  bindL kindOf (P.zip vs) m x=some v
 |[],_,_,_,_,h,_,_=>by simp at h
 |_::_,[],_,_,_,_,h,_=>by simp at h
 |p::P,w::vs,0,m,nd,h1,h2,hk=>by
  simp at h1 h2;subst h1;subst h2;show bindL kindOf ((p,w)::P.zip vs) m p=_;unfold bindL;rw[rR fun v hv=>(List.nodup_cons.mp nd).1 (List.of_mem_zip hv).1,if_pos hk];simp
 |p::P,w::vs,i+1,m,nd,h1,h2,hk=>by
  show bindL kindOf ((p,w)::P.zip vs) m x=_;unfold bindL;exact rN (i:=i) (List.nodup_cons.mp nd).2 (by simpa using h1) (by simpa using h2) hk
theorem se{kindOf:Str->Option NameKind}{x:Str}{v:Value}:∀{P:List Str}{vs:List Value}{i:Nat}{m:Str->Option Value},P.Nodup->P[i]?=some x->vs[i]?=some v->kindOf x≠some .local->
  bindC kindOf (P.zip vs) m x=some v
 |[],_,_,_,_,h,_,_=>by simp at h
 |_::_,[],_,_,_,_,h,_=>by simp at h
 |p::P,w::vs,0,m,nd,h1,h2,hk=>by
  simp at h1 h2;subst h1;subst h2;show bindC kindOf ((p,w)::P.zip vs) m p=_;unfold bindC;rw[rU fun v hv=>(List.nodup_cons.mp nd).1 (List.of_mem_zip hv).1,if_neg hk];simp
 |p::P,w::vs,i+1,m,nd,h1,h2,hk=>by
  show bindC kindOf ((p,w)::P.zip vs) m x=_;unfold bindC;exact se (i:=i) (List.nodup_cons.mp nd).2 (by simpa using h1) (by simpa using h2) hk
noncomputable def start(N:List Str)(vs:List V):St:=vs.map some++List.replicate (N.length-vs.length) none
noncomputable def j3(CX:eE)(P:Program)(w:World)(K:PySem.W.Frag)(mg:Str->Option Value)(base:Heap)(N:List Str)(qual:Str)(scope:Scope)(f:Addr)(cd:Value)(A:Around)(outer:List Env)(s:Shared)(H:Hp)(E:XK):Cx where
 prog:=P
 w:=w
 K:=K
 mg:=mg
 base:=base
 A:=A.deeper (envOfC qual scope s.heap.objs.size f cd)
 N:=N
 aI:=s
 j4:=H
 env:=envOfC qual scope s.heap.objs.size f cd
 outer:=outer
 stack:=envOfC qual scope s.heap.objs.size f cd::outer
 ex:=[]
 calm:=true
 fn:=fun _=>true
 pn:=[]
 xe:=fun e s'=>wpAny (model P w) (A.deeper (envOfC qual scope s.heap.objs.size f cd)) (leaving (envOfC qual scope s.heap.objs.size f cd) e) (fun _ s''=>CX outer H s E e s'') (fun e' s''=>CX outer H s E e' s'') s'
theorem u7{sc:Scope}{n:Nat}{x:Str}(h:sc.names.lookup x=some .cell):∃c,(cellsFrom n sc.names []).lookup x=some c:=by have q:=PySem.W.cellsFrom_some sc.names n [] (.inl h);exact Option.isSome_iff_exists.mp q
theorem Bg{CX:eE}{P:Program}{w:World}{K:PySem.W.Frag}{mg:Str->Option Value}{base:Heap}{N ps:List Str}{qual:Str}{scope:Scope}{f:Addr}{cd:Value}{A:Around}{outer:List Env}{s s1:Shared}{H:Hp}{E:XK}{us:List Value}{vs:List V}
  (S:jc N ps scope) (hd:A.handled=none) (e0:oM P w K mg base A outer s H) (hl:vs.length=ps.length) (r:Vals vs us)
  (x:InCallC s s.heap.objs.size (bindL (envOfC qual scope s.heap.objs.size f cd).kindOf (ps.zip us) fun _=>none) (cellsFrom (s.heap.objs.size+1) scope.names []) (bindC (envOfC qual scope s.heap.objs.size f cd).kindOf (ps.zip us) fun _=>none) s1):
  Inv (j3 CX P w K mg base N qual scope f cd A outer s H E) [] (start N vs) H s1:=by
 have hpl:ps.length<=N.length:=by have:=congrArg List.length S.pre;rw[List.length_take] at this;omega
 obtain⟨h1,tk,rfl,hk⟩:=x.done;have noA:∀b:Addr,b∉(j3 CX P w K mg base N qual scope f cd A outer s H E).ex:=fun b z=>absurd (show b∈([]:List Addr) from z) (by simp);refine⟨⟨e0.mod,S.kind,rfl,rfl,Nat.le_refl _,fun y z c h1 h2=>?_,fun y hy=>?_,fun y c _ h=>?_,fun _=>hd,Around.frames_deeper e0.frames,.inr ⟨rfl,rfl⟩,fun b z=>absurd z (noA b),e0.bs,e0.kQ,fun b _ _=>noA b,fun b z=>absurd z (noA b),e0.fQ,e0.mR⟩,
  rfl,e0.bare,Un.kept hk,⟨_,x.toInCall.ns,fun i y v h1 h2 h3=>?_⟩,fun y c h=>⟨_,x.cell y c h⟩,e0.ao.fresh (Nat.le_refl _),fun y c h=>?_,fun p hp=>absurd (show p∈([]:List (Addr×Obj)) from hp) (by simp),e0.ao.kept hk,?_⟩
 .exact name_of_addr x.apart (PySem.mem_of_lookup h1) (PySem.mem_of_lookup h2)
 .have hy:scope.names.lookup y=some .cell\/scope.names.lookup y=some .free:=hy;rcases hy with hy|hy
  .exact u7 hy
  .exact absurd rfl (S.JJ _ (PySem.mem_of_lookup hy))
 .exact Nat.le_of_lt (x.above y c (PySem.mem_of_lookup h))
 .have hi:i<vs.length:=by
   unfold start at h2;by_cases hi:i<vs.length
   .exact hi
   .rw[List.getElem?_append_right (by simpa using hi)] at h2;rw[List.getElem?_replicate] at h2;split at h2<;>cases h2
  have ha:vs[i]?=some v:=by
   unfold start at h2;rw[List.getElem?_append_left (by simpa using hi),List.getElem?_map] at h2;cases e:vs[i]? with
   |none=>rw[e] at h2;cases h2
   |some a=>rw[e] at h2;cases h2;rfl
  obtain⟨u,hu,rv⟩:=r.get ha;have hp:ps[i]?=some y:=by rw[<-S.pre,List.getElem?_take_of_lt (by omega)];exact h1
  have ndP:ps.Nodup:=by rw[<-S.pre];exact S.nd.sublist (List.take_sublist _ _)
  refine⟨u,rv,?_⟩;rcases S.par y (List.mem_of_getElem? hp) with k|k
  .exact .inl ⟨k,rN ndP hp hu k⟩
  .obtain⟨c,e⟩:=u7 (n:=s.heap.objs.size+1) k;refine .inr ⟨.inl k,c,e,?_⟩;have q:=x.cell y c e;rw[se ndP hp hu (by show scope.names.lookup y≠_;rw[k];decide)] at q;exact q
 .exact e0.ao.fresh (Nat.le_of_lt (x.above y c (PySem.mem_of_lookup h)))
 .unfold start;show _=N.length;rw[List.length_append,List.length_map,List.length_replicate];omega
theorem xS{CX:eE}{P:Program}{w:World}{K:PySem.W.Frag}{mg:Str->Option Value}{base:Heap}{k:Nat}{f:Addr}{name qual:Str}{params:Arguments}{body:List Stmt}{scope:Scope}{dV kV doc pm cdv ct oc:Value}{an od:Option Addr}
  {osl:Array (Option Value)}{N ps:List Str}{sp:Sp} (lk:K.lookup f=some ⟨oc,od,.func (PySem.W.fnOf name qual params body scope dV kV doc pm an cdv ct),osl⟩) (hcd:PySem.W.codeIn K cdv qual=true) (S:jc N ps scope)
  (len:∀vs H Q E,sp vs H Q E->vs.length=ps.length)
  (hbody:∀(A:Around)(outer:List Env)(s:Shared)(H:Hp)(vs:List V)(Q:VK)(E:XK),bI k (A.deeper (envOfC qual scope s.heap.objs.size f cdv))->sp vs H Q E->
   ∃t,eB (j3 CX P w K mg base N qual scope f cdv A outer s H E) body t/\t {nx:=fun _ H'=>Q .ah H',rt:=Q} (start N vs) H):
  bU P w K mg base CX (k+1) f (PySem.W.fnOf name qual params body scope dV kV doc pm an cdv ct) ps sp:=by
 refine⟨len,fun A outer s H args us vs Q E hr e0 hb r hsp=>?_⟩;have hl:=len _ _ _ _ hsp;have KX:K.In s.heap:=e0.mod.p7.keeps fun b o e=>(e0.bs b o e).1;have lim:s.heap.NoLimit:=e0.mod.nolimit.keeps fun b o e=>(e0.bs b o e).1;have hkind:∀y∈ps.zip us,scope.names.lookup y.1=some .local\/(scope.names.lookup y.1=some .cell/\((cellsFrom (s.heap.objs.size+1) scope.names []).lookup y.1).isSome=true):=fun⟨n,v⟩ hy=>by
  rcases S.par n (List.of_mem_zip hy).1 with q|q
  .exact .inl q
  .exact .inr ⟨q,PySem.W.cellsFrom_some _ _ _ (.inl q)⟩
 refine codeAny_call_function hr.depth (KX _ _ lk) rfl S.co S.gen rfl (PySem.W.codeRec_of KX hcd) (hb _ _ _ _ ?_);refine wpAny_newFunctionEnv_cells S.kind hkind fun env he s1 x=>?_;subst he;refine⟨lim.keeps x.toInCall.keep,codeAny_func ?_⟩;obtain⟨t,ht,hq⟩:=hbody A outer s H vs Q E (hr.deeper _) hsp;have I:Inv (j3 CX P w K mg base N qual scope f cdv A outer s H E) [] (start N vs) H s1:=Bg S hr.hd e0 hl r x;refine wpAny_mono (ht [] s1 (start N vs) H _ I hq) (fun fl s' hs=>?_) fun e s' hs=>hs;have fin:∀{σ':St}{H':Hp}{v:V}{u:Value},Inv (j3 CX P w K mg base N qual scope f cdv A outer s H E) [] σ' H' s'->RelV v u->Q v H'->CE outer P w H s Q u s':=
  fun {σ' H' v u} J rv q=>⟨v,H',J.os,J.bare,J.base,J.ao,rv,q⟩
 cases fl with
 |ret u=>
  obtain⟨v,σ',H',J,rv,q⟩:=hs;exact fin J rv q
 |next=>
  obtain⟨σ',H',J,q⟩:=hs;exact fin (v:=V.ah) (u:=Value.none) J rfl q
 |brk=>
  obtain⟨_,_,_,q⟩:=hs;exact False.elim q
 |cont=>
  obtain⟨_,_,_,q⟩:=hs;exact False.elim q
section
variable {X:Cx}{x:Str}{p pos:Pos}{e:Expr}{es:List Expr}{t:TA}{id T:String}{r:List V->Hp->VK->Prop}
noncomputable def IM(r:List V->Hp->VK->Prop)(t:TA):TE:=fun σ H Q=>t σ H fun vs H1=>r vs H1 Q
theorem Cu(hc:c6 X (.builtin id) r)(hg:Gl X x)(hm:X.mg x=none)(hv:bootBuiltins x=some (.builtin id))(ha:PA X (e::es) t)(hn:x≠ "__name__" := by decide)(hdb:(x== ("__debug__" : Str))=false:=by decide)
  (he:starEach (e::es) X.env=(false,eval e X.env)::starEach es X.env:=by rfl) (hpl:(backTo pos (starEach es X.env)).any (·.1)=false:=by rfl):PE X (.Call (.Name x p) (e::es) [] pos) (IM r t):=by
 intro pins s σ H Q I h;refine wpAny_Call_Name_kw (mJ I hg hm hv ?_ hn hdb);exact PyProof.Rows.callWith_builtin1 (aC (ha pos pins s σ H _ I h) fun us s1 Z=>Z.g4 fun vs H1 I1 r1 q1=>hc pins s1 σ H1 vs us Q I1 r1 q1) he hpl
theorem iO(hc:c6 X (.type T) r)(hg:Gl X x)(hm:X.mg x=none)(hv:bootBuiltins x=some (.type T))(ha:PA X (e::es) t)(hn:x≠ "__name__" := by decide)(hdb:(x== ("__debug__" : Str))=false:=by decide)
  (he:starEach (e::es) X.env=(false,eval e X.env)::starEach es X.env:=by rfl) (hpl:(backTo pos (starEach es X.env)).any (·.1)=false:=by rfl):PE X (.Call (.Name x p) (e::es) [] pos) (IM r t):=by
 intro pins s σ H Q I h;refine wpAny_Call_Name_kw (mJ I hg hm hv ?_ hn hdb);exact PyProof.Rows.callWith_type1 (aC (ha pos pins s σ H _ I h) fun us s1 Z=>Z.g4 fun vs H1 I1 r1 q1=>hc pins s1 σ H1 vs us Q I1 r1 q1) he hpl
end
end L2
namespace HT
open PySem PyProof.Rows
section
open PySem.SeqAt
open PySem.AutoSeq1 (wpAny_loadPart')
open PySem.MeetsSeq PySem.MeetsSeq2 PySem.MeetsSeq3
end
section
variable {prog:Program}{w:World}{A:Around}{E:Value->Shared->Prop}{s:Shared}
theorem ED{t b:Addr}{vs ws:List Value}{Q:Value->Shared->Prop}(ht:IsTup s.heap t vs.toArray)(hb:IsTup s.heap b ws.toArray)(hv:vs≠ [])
  (h1:ws=[]->Q (.ref t) s) (h2:ws≠ []->Q (.ref s.heap.objs.size) {s with heap:=s.heap.push {cls:=.type "tuple",data:=.seq (vs++ws).toArray}})
  (hsz:vs.length+ws.length<=sizeLine):wpAny (model prog w) A (binaryOp .Add (.ref t) (.ref b)) Q E s:=by
 obtain⟨⟨cls,dd,data,sl⟩,ho,hc,n,hd⟩:=id ht;obtain⟨⟨cls2,dd2,data2,sl2⟩,ho2,hc2,n2,hd2⟩:=id hb;simp only at hc hd hc2 hd2;subst hc hd hc2 hd2;have e:vs.toArray++ws.toArray=(vs++ws).toArray:=by simp
 by_cases hw:ws=[]
 .exact concat_meets ⟨_,ho,rfl⟩ ⟨_,ho2,rfl⟩ noFill_tuple_add seq_tuple_add PySem.F.slot_tuple_add PySem.F.entry_tuple_add (PySem.F.args_tuple_add_2 _ _)
   (tuple_addW1 t b vs.toArray ws.toArray n n2 dd dd2 sl sl2 (by simpa using hv) (by simp[hw])) ⟨ho,ho2,h1 hw⟩
 .refine concat_meets ⟨_,ho,rfl⟩ ⟨_,ho2,rfl⟩ noFill_tuple_add seq_tuple_add PySem.F.slot_tuple_add PySem.F.entry_tuple_add (PySem.F.args_tuple_add_2 _ _)
   (tuple_addW2 t b vs.toArray ws.toArray n n2 dd dd2 sl sl2 (by simpa using hv) (by simpa using hw) (by rw[List.size_toArray,List.size_toArray];exact hsz)) ⟨ho,ho2,?_⟩
  rw[e];exact h2 hw
noncomputable def aO(n d:Nat):Option Int->Nat
 |none=>d
 |some v=>if v<0 then (v+(n:Int)).toNat else min v.toNat n
theorem zI(n d:Nat)(hd:d<=n)(o:Option Int):aO n d o<=n:=by
 cases o with
 |none=>exact hd
 |some v=>
  show (if v<0 then (v+(n:Int)).toNat else min v.toNat n)<=n;by_cases hv:v<0
  .rw[if_pos hv];omega
  .rw[if_neg hv];exact Nat.min_le_right _ _
theorem xh(v:Int)(n d:Nat):(if v<0 then max (v+(n:Int)) 0 else min v (n:Int))=((aO n d (some v):Nat):Int):=by
 show (if v<0 then max (v+(n:Int)) 0 else min v (n:Int))=(((if v<0 then (v+(n:Int)).toNat else min v.toNat n):Nat):Int);by_cases hv:v<0
 .simp only[if_pos hv];omega
 .simp only[if_neg hv];omega
theorem yC(lo hi:Option Int)(n:Nat):Builtin.Slice.sliceAdjust lo hi 1 (n:Int)=(((aO n 0 lo:Nat):Int),((aO n n hi:Nat):Int)):=by
 have h1:¬ ((1:Int)<0):=by omega
 unfold Builtin.Slice.sliceAdjust;simp only[h1,if_false];refine Prod.ext ?_ ?_
 .cases lo with
  |none=>rfl
  |some v=>exact xh v n 0
 .cases hi with
  |none=>rfl
  |some v=>exact xh v n n
theorem yo(i j:Nat):Builtin.Slice.slicePlaces (i:Int) (j:Int) 1=j-i:=by
 unfold Builtin.Slice.slicePlaces;have h1:(1:Int) > 0:=by omega
 simp only[h1,if_true,Int.ediv_one];split<;>omega
theorem qc{v:Value}{o:Option Int}{Q:Option Int->Shared->Prop}(p:IsPart v o)(h:Q o s):wpAny (model prog w) A (Builtin.Slice.slicePartIndex v) Q E s:=by
 cases p with
 |none=>exact slicePart_none h
 |int i t=>exact slicePart_int h
theorem oU{sl:Addr}{vl vu:Value}{lo hi:Option Int}{n:Nat}{Q:Int×Int×Nat->Shared->Prop}(hs:s.heap.IsSliceOf sl vl vu .none)(pl:IsPart vl lo)(pu:IsPart vu hi)
  (h:Q (((aO n 0 lo:Nat):Int),1,aO n n hi-aO n 0 lo) s):wpAny (model prog w) A (Builtin.Slice.sliceApplied (.ref sl) (pure (n:Int))) Q E s:=by
 obtain⟨os,hos,hcs,hds⟩:=id hs;unfold Builtin.Slice.sliceApplied Builtin.Slice.sliceFields;refine wpAny_bind (wpAny_bind (wpAny_field hos hds (x:=vl) rfl (wpAny_bind (wpAny_field hos hds (x:=vu) rfl (wpAny_bind (wpAny_field hos hds (x:=.none) rfl (wpAny_pure ?_)))))));refine wpAny_bind (slicePart_none ?_);show wpAny _ _ (if ((1:Int)== 0)=true then _ else _) _ _ s;rw[if_neg (by decide)];refine wpAny_bind (qc pl (wpAny_bind (qc pu (wpAny_bind (wpAny_pure ?_)))));show wpAny _ _ (match Builtin.Slice.sliceAdjust lo hi 1 (n:Int) with|(lo,hi)=>pure (lo,(1:Int),Builtin.Slice.slicePlaces lo hi 1)) _ _ s;rw[yC lo hi n];show wpAny _ _ (pure (((aO n 0 lo:Nat):Int),(1:Int),Builtin.Slice.slicePlaces ((aO n 0 lo:Nat):Int) ((aO n n hi:Nat):Int) 1)) _ _ s;rw[yo];exact wpAny_pure h
theorem CK(xs:Array Value)(i k:Nat):((List.range k).filterMap fun (m:Nat)=>xs[((i:Int)+(m:Int) * 1).toNat]?).toArray=((xs.toList.drop i).take k).toArray:=by
 have e:(fun (m:Nat)=>xs[((i:Int)+(m:Int) * 1).toNat]?)=fun m=>xs[i+m]?:=by
  funext m;have:((i:Int)+(m:Int) * 1).toNat=i+m:=by omega
  rw[this]
 rw[e];have:=pick_run xs i k;rw[List.filterMap_map] at this;have e2:((fun x=>xs[x]?) ∘ fun x=>i+x)=fun m=>xs[i+m]?:=rfl;rw[e2] at this;rw[this]
theorem nR{t sl:Addr}{items:Array Value}{vl vu:Value}{lo hi:Option Int}{Q:Value->Shared->Prop}(ht:IsTup s.heap t items)(hs:s.heap.IsSliceOf sl vl vu .none)(pl:IsPart vl lo)(pu:IsPart vu hi)
  (hw:¬ (aO items.size 0 lo=0/\aO items.size items.size hi=items.size))
  (h:Q (.ref s.heap.objs.size) {s with heap:=s.heap.push {cls:=.type "tuple",data:=.seq ((items.toList.drop (aO items.size 0 lo)).take (aO items.size items.size hi-aO items.size 0 lo)).toArray}})
  (hsz:items.size<=sizeLine):wpAny (model prog w) A (getItem (.ref t) (.ref sl)) Q E s:=by
 have htake:sizeOk (.seq ((items.toList.drop (aO items.size 0 lo)).take (aO items.size items.size hi-aO items.size 0 lo)).toArray):=by show ((items.toList.drop (aO items.size 0 lo)).take (aO items.size items.size hi-aO items.size 0 lo)).toArray.size<=sizeLine;rw[List.size_toArray,List.length_take,List.length_drop,Array.length_toList];omega
 have hj:aO items.size items.size hi<=items.size:=zI _ _ (Nat.le_refl _) hi;obtain⟨os,hos,hcs,hds⟩:=id hs;have hTs:s.TypeIs (.ref sl) "slice" := ⟨os,hos,hcs⟩;unfold getItem
 try with_reducible refine wpAny_holding ?_
 first|refine wpAny_bind (wpAny_pure ?_)|skip
 refine wpAny_bind (wpAny_sequenceKey ht.typeIs (by decide) ?_);refine wpAny_bind (wpAny_callSpecial?_slot (name:=Str.ofString "__getitem__") ht.typeIs PyProof.Rows.slot_tuple_getitem
  (wpAny_call_entry PyProof.Rows.slot_tuple_getitem ht.typeIs entry_tuple_getitem ?_ (args_tuple_getitem _ _)))
 show wpAny _ _ (Builtin.Tuple.tupleItemsOf (.ref t) >>= _) _ _ s;refine wpAny_bind (tupleItemsOf_ ht ?_);refine wpAny_bind (wpAny_typeOf hTs ?_);rw[if_pos (by decide)];refine wpAny_bind (oU hs pl pu ?_);have hno:¬ ((((aO items.size 0 lo:Nat):Int)== 0&&(1:Int)== 1&&(aO items.size items.size hi-aO items.size 0 lo)== items.size)=true):=by intro q;rw[Bool.and_eq_true,Bool.and_eq_true] at q;have q1:((aO items.size 0 lo:Nat):Int)=0:=eq_of_beq q.1.1;have q2:aO items.size items.size hi-aO items.size 0 lo=items.size:=eq_of_beq q.2;exact hw ⟨by omega,by omega⟩
 show wpAny _ _ (if (((aO items.size 0 lo:Nat):Int)== 0&&(1:Int)== 1&&(aO items.size items.size hi-aO items.size 0 lo)== items.size)=true then _ else _) _ _ s;rw[if_neg hno,CK];first
  |exact wpAny_bind (m:=Builtin.Tuple.tupleExact _) (wpAny_newObj_type (wpAny_pure ⟨_,rfl,wpAny_pure h⟩) htake)
  |exact wpAny_bind (m:=Builtin.Tuple.tupleExact _) (wpAny_newObj_type (wpAny_bind (wpAny_pure (wpAny_pure ⟨_,rfl,wpAny_pure h⟩))) htake)
  |exact wpAny_bind (wpAny_bind (m:=Builtin.Tuple.tupleExact _) (wpAny_newObj_type (wpAny_pure (wpAny_pure ⟨_,rfl,wpAny_pure h⟩)) htake))
  |exact wpAny_bind (wpAny_bind (m:=Builtin.Tuple.tupleExact _) (wpAny_newObj_type (wpAny_pure ⟨_,rfl,wpAny_pure h⟩) htake))
end
end HT
namespace L2
open PySem PySem.Spec PyProof.Rows
noncomputable abbrev TO:=St->Hp->(Option Int->Hp->Prop)->Prop
def PO(X:Cx)(e:Option Expr)(t:TO):Prop:=
 ∀(pins:List (Addr×Obj))(s:Shared)(σ:St)(H:Hp)(Q:Option Int->Hp->Prop),Inv X pins σ H s->t σ H Q->
  wpAny (model X.prog X.w) X.A (evalPart e X.env) (fun u s'=>∃o H',Inv X pins σ H' s'/\IsPart u o/\Q o H') X.xe s
noncomputable def FJ:TO:=fun _ H Q=>Q none H
noncomputable def LS(t:TE):TO:=fun σ H Q=>t σ H fun x H1=>∃i,x=.int i/\Q (some i) H1
section
variable {X:Cx}{e:Expr}{te:TE}{lo hi:Option Expr}{tl th:TO}{pos p2:Pos}
theorem Fd:PO X none FJ:=by intro pins s σ H Q I h;rw[evalPart_none];exact wpAny_pure ⟨none,H,I,.none,h⟩
theorem ER(h:PE X e te):PO X (some e) (LS te):=by intro pins s σ H Q I hw;rw[evalPart_some];refine aC (h pins s σ H _ I hw) fun u s1 Z=>Z.g4 fun x H1 I1 r1 q1=>?_;obtain⟨i,rfl,q⟩:=q1;obtain⟨t,rfl⟩:=r1;exact⟨some i,H1,I1,.int i t,q⟩
def pj(X:Cx)(r:V->Option Int->Option Int->Hp->VK->Prop):Prop:=
 ∀(pins:List (Addr×Obj))(s:Shared)(σ:St)(H:Hp)(x:V)(v vl vu:Value)(lo hi:Option Int)(sl:Addr)(Q:VK),Inv X pins σ H s->RelV x v->s.heap.IsSliceOf sl vl vu .none->IsPart vl lo->IsPart vu hi->r x lo hi H Q->
  ∃T id,typeLookup (.type T) "__getitem__" = pure (some (.builtin id))/\s.TypeIs v T/\wpAny (model X.prog X.w) X.A (getItem v (.ref sl)) (EP X pins σ Q) X.xe s
theorem pj.or{r r':V->Option Int->Option Int->Hp->VK->Prop}(h:pj X r)(h':pj X r'):pj X (fun x lo hi H Q=>r x lo hi H Q\/r' x lo hi H Q):=by
 intro pins s σ H x v vl vu lo hi sl Q I rx hs pl pu q;rcases q with q|q
 .exact h pins s σ H x v vl vu lo hi sl Q I rx hs pl pu q
 .exact h' pins s σ H x v vl vu lo hi sl Q I rx hs pl pu q
noncomputable def QT(r:V->Option Int->Option Int->Hp->VK->Prop)(te:TE)(tl th:TO):TE:=fun σ H Q=>te σ H fun x H1=>tl σ H1 fun l H2=>th σ H2 fun u H3=>r x l u H3 Q
theorem Ca{r:V->Option Int->Option Int->Hp->VK->Prop}(hr:pj X r)(he:PE X e te)(hl:PO X lo tl)(hu:PO X hi th):PE X (.Subscript e (.Slice lo hi none p2) pos) (QT r te tl th):=by intro pins s σ H Q I h;refine Subscript_ (aC (he pins s σ H _ I h) fun v s1 Z=>Z.g4 fun x H1 I1 r1 q1=>?_);refine wpAny_Slice (aC (hl pins s1 σ H1 _ I1 q1) fun vl s2 Z=>Z.g4 fun l H2 I2 pl q2=>aC (hu pins s2 σ H2 _ I2 q2) fun vu s3 Z=>Z.g4 fun u H3 I3 pu q3=>?_);rw[evalPart_none];refine wpAny_pure ?_;have I4:Inv X pins σ H3 {s3 with heap:=s3.heap.push {cls:=.type "slice",data:=.fields #[vl,vu,.none]}}:=I3.kept (t':=s3.toks) fun b ob q=>Heap.get?_push_of_some _ q;obtain⟨T,id,hT,ht,hg⟩:=hr pins {s3 with heap:=s3.heap.push {cls:=.type "slice",data:=.fields #[vl,vu,.none]}} σ H3 x v vl vu l u s3.heap.objs.size Q I4 r1 (Heap.IsSliceOf.new ..) pl pu q3;show wpAny (model X.prog X.w) X.A (subscriptTail e (.Slice lo hi none p2) v (.ref s3.heap.objs.size)) (EP X pins σ Q) X.xe {s3 with heap:=s3.heap.push {cls:=.type "slice",data:=.fields #[vl,vu,.none]}};exact tail_any (ops:=[.ref s3.heap.objs.size,v]) ht hT hg (by with_unfolding_all rfl)
noncomputable def mz(xs:List V)(lo hi:Option Int):List V:=(xs.drop (HT.aO xs.length 0 lo)).take (HT.aO xs.length xs.length hi-HT.aO xs.length 0 lo)
theorem nX(xs:List V)(lo hi:Option Int):(mz xs lo hi).length<=xs.length:=by unfold mz;rw[List.length_take,List.length_drop];omega
noncomputable def KD(K:PySem.W.Frag):V->Option Int->Option Int->Hp->VK->Prop:=fun x lo hi H Q=>∃a xs,x=.ref a/\df K H a xs/\
 ¬ (HT.aO xs.length 0 lo=0/\HT.aO xs.length xs.length hi=xs.length)/\∀p,H p=none->Q (.ref p) (upd H p (.tup (mz xs lo hi)))
theorem Jt:pj X (KD X.K):=by
 intro pins s σ H x v vl vu lo hi sl Q I rx hs pl pu h;obtain⟨a,xs,rfl,hx,hw,q⟩:=h;cases rx;obtain⟨its,r,ht,hz⟩:=I.tuple hx;have hlen:its.toArray.size=xs.length:=by rw[List.size_toArray];exact r.length.symm
 refine⟨"tuple",_,PyProof.Rows.slot_tuple_getitem.lookup,ht.typeIs,?_⟩;refine HT.nR ht hs pl pu (by rw[hlen];exact hw) ?_ (by rw[hlen];exact hz);rw[hlen];refine⟨.ref s.heap.objs.size,_,I.laid (t':=s.toks) (o:=.tup (mz xs lo hi)) (fun b ob q=>Heap.get?_push_of_some _ q) (Nat.le_refl _) ?_,rfl,q _ (I.ao.fresh (Nat.le_refl _))⟩;exact⟨Nat.le_trans (nX xs lo hi) hz,_,(r.drop (HT.aO xs.length 0 lo)).take (HT.aO xs.length xs.length hi-HT.aO xs.length 0 lo),IsTup.new _ _⟩
noncomputable def Dw(K:PySem.W.Frag):R2:=fun x y H Q=>∃a b xs ys,x=.ref a/\y=.ref b/\df K H a xs/\df K H b ys/\xs≠ []/\xs.length+ys.length<=sizeLine/\
 (ys=[]->Q (.ref a) H)/\(ys≠ []->∀p,H p=none->Q (.ref p) (upd H p (.tup (xs++ys))))
theorem Vals.qW{xs:List V}{us:List Value}(r:Vals xs us):us=[]↔xs=[]:=by
 cases r with
 |nil=>simp
 |cons _ _=>simp
theorem ET:cN X (binaryOp .Add) (Dw X.K):=by intro pins s σ H x y v u Q I rx ry h;obtain⟨a,b,xs,ys,rfl,rfl,ha,hb,hx,hz,q1,q2⟩:=h;cases rx;cases ry;obtain⟨its,r1,p1,_⟩:=I.tuple ha;obtain⟨its2,r2,p2,_⟩:=I.tuple hb;refine HT.ED p1 p2 (fun z=>hx (r1.qW.mp z)) (fun z=>⟨.ref a,H,I,rfl,q1 (r2.qW.mp z)⟩) (fun z=>?_) (by rw[<-r1.length,<-r2.length];exact hz);refine⟨.ref s.heap.objs.size,_,I.laid (t':=s.toks) (o:=.tup (xs++ys)) (fun b ob q=>Heap.get?_push_of_some _ q) (Nat.le_refl _) ?_,rfl,q2 (fun w=>z (r2.qW.mpr w)) _ (I.ao.fresh (Nat.le_refl _))⟩;exact⟨by rw[List.length_append];exact hz,_,r1.append r2,IsTup.new _ _⟩
end
noncomputable def gu(n:Nat)(i:Int):Option Nat:=if 0<=i then (if i<n then some i.toNat else none) else if -(n:Int)<=i then some (i+n).toNat else none
noncomputable def bG{α:Type}(xs:List α)(i:Int):Option α:=(gu xs.length i).bind fun j=>xs[j]?
theorem wN{n:Nat}{i:Int}{j:Nat}(h:gu n i=some j):seqIndex? i n=some j/\j<n/\ -(n:Int)<=i/\i<n:=by
 unfold gu at h;by_cases h0:0<=i
 .rw[if_pos h0] at h;by_cases h1:i<n
  .rw[if_pos h1] at h;have e:i.toNat=j:=Option.some.inj h;exact⟨by rw[seqIndex_of h0 h1,e],by omega,by omega,h1⟩
  .rw[if_neg h1] at h;cases h
 .rw[if_neg h0] at h;by_cases h1: -(n:Int)<=i
  .rw[if_pos h1] at h;have e:(i+n).toNat=j:=Option.some.inj h;exact⟨by rw[seqIndex_neg (by omega) h1,e],by omega,h1,by omega⟩
  .rw[if_neg h1] at h;cases h
theorem qZ{α:Type}{xs:List α}{i:Int}{v:α}(h:bG xs i=some v):∃j,seqIndex? i xs.length=some j/\xs[j]?=some v/\j<xs.length/\ -(xs.length:Int)<=i/\i<xs.length:=by
 unfold bG at h;cases e:gu xs.length i with
 |none=>rw[e] at h;cases h
 |some j=>
  rw[e] at h;obtain⟨h1,h2,h3,h4⟩:=wN e;exact⟨j,h1,h,h2,h3,h4⟩
theorem dw{α:Type}{xs:List α}{j:Nat}{v:α}(h:xs[j]?=some v):bG xs (j:Int)=some v:=by
 have hj:j<xs.length:=(List.getElem?_eq_some_iff.mp h).1;have e:gu xs.length (j:Int)=some j:=by unfold gu;rw[if_pos (by omega),if_pos (by omega)];simp
 unfold bG;rw[e];exact h
def qQ(b:Expr):Prop:=∀o i,subscripted b false o i=operate [o,i] (getItem o i)
def mx(X:Cx)(r:R2):Prop:=
 ∀(value slice:Expr)(pins:List (Addr×Obj))(s:Shared)(σ:St)(H:Hp)(x y:V)(v u:Value)(Q:VK),Inv X pins σ H s->RelV x v->RelV y u->r x y H Q->
  subscripted slice false v u=operate [v,u] (getItem v u)->wpAny (model X.prog X.w) X.A (subscriptTail value slice v u) (EP X pins σ Q) X.xe s
def Jx(X:Cx)(id:String)(r:V->List V->Hp->VK->Prop):Prop:=
 ∀(pins:List (Addr×Obj))(s:Shared)(σ:St)(H:Hp)(x:V)(xs:List V)(v:Value)(us:List Value)(Q:VK),Inv X pins σ H s->RelV x v->Vals xs us->r x xs H Q->
  wpAny (model X.prog X.w) X.A (call (.builtin id) (v::us)) (EP X pins σ Q) X.xe s
section
variable {X:Cx}{a b:Expr}{ta tb:TE}{pos:Pos}
theorem mx.or{r r':R2}(h:mx X r)(h':mx X r'):mx X (fun x y H Q=>r x y H Q\/r' x y H Q):=by
 intro value slice pins s σ H x y v u Q I rx ry q hs;rcases q with q|q
 .exact h value slice pins s σ H x y v u Q I rx ry q hs
 .exact h' value slice pins s σ H x y v u Q I rx ry q hs
theorem Dz{r:R2}(hr:mx X r)(ha:PE X a ta)(hb:PE X b tb)(hs:qQ b):PE X (.Subscript a b pos) (v8 r ta tb):=by intro pins s σ H Q I h;exact Subscript_ (CF ha hb I h fun v u s2 x y H2 I2 rx ry q=>hr a b pins s2 σ H2 x y v u Q I2 rx ry q (hs _ _))
noncomputable def Kk(K:PySem.W.Frag):R2:=fun x y H Q=>∃p xs i v,x=.ref p/\y=.int i/\bx K H p xs/\bG xs i=some v/\Q v H
noncomputable def Jy(K:PySem.W.Frag):R2:=fun x y H Q=>∃p xs i v,x=.ref p/\y=.int i/\df K H p xs/\bG xs i=some v/\Q v H
noncomputable def Gv:R2:=fun x y H Q=>∃z i c,x=.str z/\y=.int i/\z.length<=sizeLine/\bG z.cps.toList i=some c/\Q (.str ⟨#[c]⟩) H
theorem EZ:mx X (Kk X.K):=by
 intro value slice pins s σ H x y v u Q I rx ry h hs;obtain⟨p,xs,i,z,rfl,rfl,hq,he,q⟩:=h;cases rx;obtain⟨t,rfl⟩:=ry;obtain⟨its,r,pl,hz⟩:=I.list hq;obtain⟨j,h1,h2,h3,h4,h5⟩:=qZ he;obtain⟨w,ew,rw'⟩:=r.get h2;have hl:=r.length;have hn:=jg;have fin:EP X pins σ Q w s:=⟨z,H,I,rw',q⟩;by_cases h0:0<=i
 .have hj:i.toNat=j:=by
   rw[seqIndex_of h0 h5] at h1;exact Option.some.inj h1
  exact item_listR pl.isList h0 (by omega) (by rw[hj];simpa using ew) fin hs
 .have hj:(i+(its.toArray.size:Int)).toNat=j:=by
   rw[seqIndex_neg (by omega) h4] at h1;rw[List.size_toArray,<-hl];exact Option.some.inj h1
  exact subscriptTail_builtinR (x:=w) pl.isList.typeIs slot_list_getitem.lookup
   (wpAny_getItem_list_neg (Q:=fun r s'=>r=w/\EP X pins σ Q r s') pl.isList (by omega) (by rw[List.size_toArray]<;>omega) (by omega) (by rw[hj];simpa using ew) ⟨rfl,fin⟩) hs
theorem JD:mx X (Jy X.K):=by
 intro value slice pins s σ H x y v u Q I rx ry h hs;obtain⟨p,xs,i,z,rfl,rfl,hq,he,q⟩:=h;cases rx;obtain⟨t,rfl⟩:=ry;obtain⟨its,r,pl,hz⟩:=I.tuple hq;obtain⟨j,h1,h2,h3,h4,h5⟩:=qZ he;obtain⟨w,ew,rw'⟩:=r.get h2;have hl:=r.length;have hn:=jg;have fin:EP X pins σ Q w s:=⟨z,H,I,rw',q⟩;exact subscriptTail_builtinR (x:=w) pl.typeIs slot_tuple_getitem.lookup
  (getItem_tuple (j:=j) (Q:=fun r s'=>r=w/\EP X pins σ Q r s') pl (by omega) (by omega) (by rw[List.size_toArray,<-hl];exact h1) (by simpa using ew) ⟨rfl,fin⟩) hs
theorem HC:mx X Gv:=by
 intro value slice pins s σ H x y v u Q I rx ry h hs;obtain⟨z,i,c,rfl,rfl,hz,he,q⟩:=h;obtain⟨t,rfl⟩:=rx;obtain⟨t',rfl⟩:=ry;obtain⟨j,h1,h2,h3,h4,h5⟩:=qZ he;have hl:z.cps.toList.length=z.length:=by simp[Str.length]
 rw[hl] at h1 h4 h5;have hn:=jg;exact tail_any (typeIs_str s z t) slot_str_getitem.lookup (getItem_str (c:=c) (by have e1:decide (i < -(2 ^ 63:Int))=false:=decide_eq_false (by omega);have e2:decide (i ≥ 2 ^ 63)=false:=decide_eq_false (by omega);rw[e1,e2,Bool.or_false]) (by rw[h1];simpa using h2) ⟨.str ⟨#[c]⟩,H,I.tok _,⟨_,rfl⟩,q⟩) hs
noncomputable def ML(K:PySem.W.Frag):R2:=fun x y H Q=>Kk K x y H Q\/Jy K x y H Q\/Gv x y H Q
theorem JL:mx X (ML X.K):=EZ.or (JD.or HC)
theorem xF(its:List Value)(n j:Nat)(u:Value):Obj.mapSeq (·.setIfInBounds j u) {cls:=.type "list",data:=.seq its.toArray n}={cls:=.type "list",data:=.seq (its.set j u).toArray n}:=by simp[Obj.mapSeq]
theorem Inv.lst{pins:List (Addr×Obj)}{σ:St}{H:Hp}{s:Shared}{p:Addr}{xs:List V}(I:Inv X pins σ H s)(h:H p=some (.lst xs)):
  ∃(its:List Value) (n:Nat),Vals xs its/\s.heap.get? p=some {cls:=.type "list",data:=.seq its.toArray n}/\xs.length<=sizeLine:=by
 obtain⟨z,its,n,r,e⟩:=I.ao p _ h;exact⟨its,n,r,e,z⟩
theorem Inv.G5{pins:List (Addr×Obj)}{σ:St}{H:Hp}{s:Shared}{p:Addr}{xs ys:List V}{its its':List Value}{n n':Nat}{f:Obj->Obj}(I:Inv X pins σ H s)(h:H p=some (.lst xs))
  (ho:s.heap.get? p=some {cls:=.type "list",data:=.seq its.toArray n}) (hf:f {cls:=.type "list",data:=.seq its.toArray n}={cls:=.type "list",data:=.seq its'.toArray n'}) (r:Vals ys its') (hz:ys.length<=sizeLine) (t:Nat):
  Inv X pins σ (upd H p (.lst ys)) {s with heap:=s.heap.update p f,toks:=t}:=by
 have e:(s.heap.update p f).get? p=some {cls:=.type "list",data:=.seq its'.toArray n'}:=by rw[Heap.get?_update_self f ho (by rw[hf]<;>rfl),hf]
 refine I.write (x:=p) (e:=p) (by rw[h];trivial) (.inl rfl) (fun b u hb q=>(Heap.get?_update_other _ _ (Ne.symm hb)).trans q) ⟨_,e⟩ ?_;exact⟨hz,its',n',r,e⟩
noncomputable def Eu:V->V->V->Hp->(Hp->Prop)->Prop:=fun o i v H Q=>∃p xs k j,o=.ref p/\i=.int k/\H p=some (.lst xs)/\gu xs.length k=some j/\Q (upd H p (.lst (xs.set j v)))
theorem set_list:m6 X Eu:=by
 intro pins s σ H o i v ov iv u Q I ro ri rv h;obtain⟨p,xs,k,j,rfl,rfl,hp,hj,q⟩:=h;cases ro;obtain⟨t,rfl⟩:=ri;obtain⟨its,n,r,ho,hz⟩:=I.lst hp;obtain⟨h1,h2,h3,h4⟩:=wN hj;have hl:=r.length;have hn:=jg;have I':Inv X pins σ (upd H p (.lst (xs.set j v))) {s with heap:=s.heap.update p (Obj.mapSeq (·.setIfInBounds j u))}:=
  I.G5 hp ho (xF its n j u) (r.set rv j) (by rw[List.length_set];exact hz) s.toks
 by_cases h0:0<=k
 .have hk:k.toNat=j:=by
   rw[seqIndex_of h0 h4] at h1;exact Option.some.inj h1
  exact PySem.W.ki_setAt ho h0 (by omega) (by rw[List.size_toArray,<-hl];exact h4) (by rw[hk];exact⟨_,I',q⟩)
 .have hk:(k+(its.toArray.size:Int)).toNat=j:=by
   rw[seqIndex_neg (by omega) h3] at h1;rw[List.size_toArray,<-hl];exact Option.some.inj h1
  exact PySem.W.ki_setBack ho (by omega) (by rw[List.size_toArray,<-hl];exact h3) (by omega) (by rw[hk];exact⟨_,I',q⟩)
theorem mP(lo hi:Option Int)(n:Nat):(sliceBounds lo hi none n).1=((HT.aO n 0 lo:Nat):Int)/\(sliceBounds lo hi none n).2.1=((HT.aO n n hi:Nat):Int)/\(sliceBounds lo hi none n).2.2=1:=by
 refine⟨?_,?_,rfl⟩
 .cases lo with
  |none=>simp[sliceBounds,HT.aO]
  |some i=>
   simp only[sliceBounds,HT.aO,Option.getD_none,show (1:Int) > 0 by decide,if_true];by_cases h:i<0
   .simp only[h,if_true]<;>omega
   .simp only[h,if_false]<;>omega
 .cases hi with
  |none=>simp[sliceBounds,HT.aO]
  |some i=>
   simp only[sliceBounds,HT.aO,Option.getD_none,show (1:Int) > 0 by decide,if_true];by_cases h:i<0
   .simp only[h,if_true]<;>omega
   .simp only[h,if_false]<;>omega
theorem sV(its:List Value)(lo hi:Option Int):slicePick its.toArray lo hi none=((its.drop (HT.aO its.length 0 lo)).take (HT.aO its.length its.length hi-HT.aO its.length 0 lo)).toArray:=by obtain⟨h1,h2,h3⟩:=mP lo hi its.toArray.size;unfold slicePick;rw[h1,h2,h3];simp only[sliceRange_one,pick_run,List.size_toArray]<;>rfl
noncomputable def GL(K:PySem.W.Frag):V->Option Int->Option Int->Hp->VK->Prop:=fun x lo hi H Q=>∃a xs,x=.ref a/\bx K H a xs/\∀p,H p=none->Q (.ref p) (upd H p (.lst (mz xs lo hi)))
theorem Fq:pj X (GL X.K):=by intro pins s σ H x v vl vu lo hi sl Q I rx hs pl pu h;obtain⟨a,xs,rfl,hx,q⟩:=h;cases rx;obtain⟨its,r,ht,hz⟩:=I.list hx;have hlen:=r.length;refine⟨"list",_,slot_list_getitem.lookup,ht.isList.typeIs,?_⟩;refine wpAny_getItem_list_slice ht.isList hs pl pu .none (by simp) ?_ (by rw[List.size_toArray]<;>omega);rw[sV,<-hlen];refine⟨.ref s.heap.objs.size,_,I.laid (t':=s.toks) (o:=.lst (mz xs lo hi)) (fun b ob q=>Heap.get?_push_of_some _ q) (Nat.le_refl _) ?_,rfl,q _ (I.ao.fresh (Nat.le_refl _))⟩;exact⟨Nat.le_trans (nX xs lo hi) hz,_,0,(r.drop (HT.aO xs.length 0 lo)).take (HT.aO xs.length xs.length hi-HT.aO xs.length 0 lo),Heap.get?_push_size _ rfl⟩
noncomputable def iH:V->Bool
 |.ah=>true
 |.bl _=>true
 |.int _=>true
 |.str _=>true
 |_=>false
noncomputable def cm:V->V->Bool
 |.ah,.ah=>true
 |.bl a,.bl b=>a== b
 |.bl a,.int b=>(if a then 1 else 0)== b
 |.int a,.bl b=>a== (if b then 1 else 0)
 |.int a,.int b=>a== b
 |.str a,.str b=>a== b
 |_,_=>false
theorem HW{A:Around}{s:Shared}{y x:V}{u v:Value}(ry:RelV y u)(rx:RelV x v)(fy:iH y=true)(fx:iH x=true):SeqAt.EqAt A s u v (cm y x):=by
 cases y with
 |ah=>
  cases ry;cases x with
  |ah=>cases rx;exact SeqAt.EqAt.same _
  |bl b=>cases rx;exact SeqAt.EqAt.none_bool b
  |int b=>obtain⟨t,rfl⟩:=rx;exact SeqAt.EqAt.none_int b t
  |str b=>obtain⟨t,rfl⟩:=rx;exact SeqAt.EqAt.none_str b t
  |_=>exact absurd (show false=true from fx) Bool.false_ne_true
 |bl a=>
  cases ry;cases x with
  |ah=>cases rx;exact SeqAt.EqAt.bool_none a
  |bl b=>cases rx;exact SeqAt.EqAt.bool_bool a b
  |int b=>obtain⟨t,rfl⟩:=rx;exact SeqAt.EqAt.bool_int a b t
  |str b=>obtain⟨t,rfl⟩:=rx;exact SeqAt.EqAt.bool_str a b t
  |_=>exact absurd (show false=true from fx) Bool.false_ne_true
 |int a=>
  obtain⟨t',rfl⟩:=ry;cases x with
  |ah=>cases rx;exact SeqAt.EqAt.int_none a t'
  |bl b=>cases rx;exact SeqAt.EqAt.int_bool a t' b
  |int b=>obtain⟨t,rfl⟩:=rx;exact SeqAt.EqAt.int_int a t' b t
  |str b=>obtain⟨t,rfl⟩:=rx;exact SeqAt.EqAt.int_str a t' b t
  |_=>exact absurd (show false=true from fx) Bool.false_ne_true
 |str a=>
  obtain⟨t',rfl⟩:=ry;cases x with
  |ah=>cases rx;exact SeqAt.EqAt.str_none a t'
  |bl b=>cases rx;exact SeqAt.EqAt.str_bool a t' b
  |int b=>obtain⟨t,rfl⟩:=rx;exact SeqAt.EqAt.str_int a t' b t
  |str b=>obtain⟨t,rfl⟩:=rx;exact SeqAt.EqAt.str_str a t' b t
  |_=>exact absurd (show false=true from fx) Bool.false_ne_true
 |_=>exact absurd (show false=true from fy) Bool.false_ne_true
def jA(x:V)(u:Value):Bool:=match u with
 |.none=>cm .ah x
 |.bool b=>cm (.bl b) x
 |.int i _=>cm (.int i) x
 |.str z _=>cm (.str z) x
 |_=>false
theorem zj{x y:V}{u:Value}(r:RelV y u)(f:iH y=true):jA x u=cm y x:=by
 cases y with
 |ah=>cases r;rfl
 |bl b=>cases r;rfl
 |int i=>obtain⟨t,rfl⟩:=r;rfl
 |str z=>obtain⟨t,rfl⟩:=r;rfl
 |_=>exact absurd (show false=true from f) Bool.false_ne_true
theorem kJ{x:V}:∀{xs:List V}{us:List Value},Vals xs us->xs.all iH=true->us.any (jA x)=xs.any fun y=>cm y x
 |_,_,.nil,_=>rfl
 |y::xs,u::us,.cons r t,f=>by
  rw[List.all_cons,Bool.and_eq_true] at f;rw[List.any_cons,List.any_cons,zj r f.1,kJ t f.2]
theorem js{A:Around}{s:Shared}{x:V}{v:Value}(rx:RelV x v)(fx:iH x=true):∀{xs:List V}{us:List Value},Vals xs us->xs.all iH=true->∀u∈us,SeqAt.EqAt A s u v (jA x u)
 |_,_,.nil,_=>fun u hu=>by cases hu
 |y::xs,u::us,.cons r t,f=>fun u' hu=>by
  rw[List.all_cons,Bool.and_eq_true] at f;rcases List.mem_cons.mp hu with rfl|hu
  .rw[zj r f.1];exact HW r rx f.1 fx
  .exact js rx fx t f.2 u' hu
def Hs(x:V)(xs:List V):Bool:=xs.any fun y=>cm y x
noncomputable def Kw(K:PySem.W.Frag)(neg:Bool):R2:=fun x y H Q=>∃p xs,y=.ref p/\(bx K H p xs\/df K H p xs)/\iH x=true/\xs.all iH=true/\Q (.bl (if neg then !Hs x xs else Hs x xs)) H
theorem zm:cN X (compareOp .In) (Kw X.K false):=by
 intro pins s σ H x y v u Q I rx ry h;obtain⟨p,xs,rfl,hq,fx,fs,q⟩:=h;cases ry;rcases hq with hq|hq
 .obtain⟨its,r,pl,hz⟩:=I.list hq;refine SeqAt.in_listAt (jA x) pl.isList (fun w hw=>js rx fx r fs w (by simpa using hw)) ⟨.bl _,H,I,rfl,?_⟩;rw[show its.toArray.any (jA x)=its.any (jA x) by simp,kJ r fs];exact q
 .obtain⟨its,r,pl,hz⟩:=I.tuple hq;refine SeqAt.in_tupleAt (jA x) pl (fun w hw=>js rx fx r fs w (by simpa using hw)) ⟨.bl _,H,I,rfl,?_⟩;rw[show its.toArray.any (jA x)=its.any (jA x) by simp,kJ r fs];exact q
theorem ub:cN X (compareOp .NotIn) (Kw X.K true):=by
 intro pins s σ H x y v u Q I rx ry h;obtain⟨p,xs,rfl,hq,fx,fs,q⟩:=h;cases ry;rcases hq with hq|hq
 .obtain⟨its,r,pl,hz⟩:=I.list hq;refine SeqAt.notIn_listAt (jA x) pl.isList (fun w hw=>js rx fx r fs w (by simpa using hw)) ⟨.bl _,H,I,rfl,?_⟩;rw[show its.toArray.any (jA x)=its.any (jA x) by simp,kJ r fs];exact q
 .obtain⟨its,r,pl,hz⟩:=I.tuple hq;refine SeqAt.notIn_tupleAt (jA x) pl (fun w hw=>js rx fx r fs w (by simpa using hw)) ⟨.bl _,H,I,rfl,?_⟩;rw[show its.toArray.any (jA x)=its.any (jA x) by simp,kJ r fs];exact q
theorem t5:c6 X (.builtin "len") (fun xs H Q=>∃p ys,xs=[.ref p]/\(bx X.K H p ys\/df X.K H p ys)/\Q (.int ys.length) H):=by
 intro pins s σ H xs us Q I r h;obtain⟨p,ys,rfl,hq,q⟩:=h;obtain⟨u,rfl,rx⟩:=vals1 r;cases rx;have hn:=jg;rcases hq with hq|hq
 .obtain⟨its,r',pl,hz⟩:=I.list hq;have hlen:=r'.length;exact Calls.call_len_list pl.isList (by simp only[List.size_toArray]<;>omega) ⟨.int ys.length,H,I.tok _,⟨s.toks+1,by rw[List.size_toArray,hlen]⟩,q⟩
 .obtain⟨its,r',pl,hz⟩:=I.tuple hq;have hlen:=r'.length;exact len_tuple pl (by simp only[List.size_toArray]<;>omega) ⟨.int ys.length,H,I.tok _,⟨s.toks+1,by rw[List.size_toArray,hlen]⟩,q⟩
theorem uo:c6 X (.builtin "len") (fun xs H Q=>∃z,xs=[.str z]/\z.length<=sizeLine/\Q (.int z.length) H):=by intro pins s σ H xs us Q I r h;obtain⟨z,rfl,hz,q⟩:=h;obtain⟨u,rfl,t,rfl⟩:=vals1 r;have hn:=jg;exact len_str (by omega) ⟨.int z.length,H,I.tok _,⟨_,rfl⟩,q⟩
theorem c6.or{f:Value}{r r':List V->Hp->VK->Prop}(h:c6 X f r)(h':c6 X f r'):c6 X f (fun xs H Q=>r xs H Q\/r' xs H Q):=by
 intro pins s σ H xs us Q I rs q;rcases q with q|q
 .exact h pins s σ H xs us Q I rs q
 .exact h' pins s σ H xs us Q I rs q
theorem tL:c6 X (.type "list") (fun xs H Q=>∃p ys,xs=[.ref p]/\(bx X.K H p ys\/df X.K H p ys)/\∀l,H l=none->Q (.ref l) (upd H l (.lst ys))):=by
 intro pins s σ H xs us Q I r h;obtain⟨p,ys,rfl,hq,q⟩:=h;obtain⟨u,rfl,rx⟩:=vals1 r;cases rx;have fin:∀(its:List Value),Vals ys its->ys.length<=sizeLine->∀(h':Heap)(c':Nat),(∀b o',s.heap.get? b=some o'->h'.get? b=some o')->
   h'.get? s.heap.objs.size=some {cls:=.type "list",dict:=none,data:=.seq its.toArray c',slots:=#[]}->EP X pins σ Q (.ref s.heap.objs.size) {s with heap:=h'}:=fun its r' hz h' c' kp e=>
  ⟨.ref s.heap.objs.size,_,I.laid (t':=s.toks) kp (Nat.le_refl _) (show bJ X.prog X.w _ h' _ (.lst ys) from ⟨hz,its,c',r',e⟩),rfl,q _ (I.ao.fresh (Nat.le_refl _))⟩
 rcases hq with hq|hq
 .obtain⟨its,r',pl,hz⟩:=I.list hq;have hlen:=r'.length;obtain⟨o,ho,hc,n,hd⟩:=pl.isList;exact call_list_seq p (.inl rfl) ho hc hd (fun h' c' kp e=>fin its r' hz h' c' kp e) (by simp only[List.size_toArray]<;>omega)
 .obtain⟨its,r',pl,hz⟩:=I.tuple hq;have hlen:=r'.length;obtain⟨o,ho,hc,n,hd⟩:=pl;exact call_list_seq p (.inr rfl) ho hc hd (fun h' c' kp e=>fin its r' hz h' c' kp e) (by simp only[List.size_toArray]<;>omega)
theorem sT:c6 X (.type "tuple") (fun xs H Q=>∃p ys,xs=[.ref p]/\((bx X.K H p ys/\∀l,H l=none->Q (.ref l) (upd H l (.tup ys)))\/(df X.K H p ys/\Q (.ref p) H))):=by
 intro pins s σ H xs us Q I r h;obtain⟨p,ys,rfl,h⟩:=h;obtain⟨u,rfl,rx⟩:=vals1 r;cases rx;rcases h with ⟨hq,q⟩|⟨hq,q⟩
 .obtain⟨its,r',pl,hz⟩:=I.list hq;have hlen:=r'.length;refine call_tuple_list pl.isList (fun h' kp=>?_) (by simp only[List.size_toArray]<;>omega);have I1:Inv X pins σ H {s with heap:=h'}:=I.kept (t':=s.toks) kp;have I2:Inv X pins σ (upd H h'.objs.size (.tup ys)) {s with heap:=h'.push {cls:=.type "tuple",data:=.seq its.toArray}}:=
   I1.laid (t':=s.toks) (fun b o e=>Heap.get?_push_of_some _ e) (Nat.le_refl _) (show bJ X.prog X.w _ _ _ (.tup ys) from ⟨hz,its,r',IsTup.new _ _⟩)
  exact⟨.ref h'.objs.size,_,I2,rfl,q _ (I1.ao.fresh (Nat.le_refl _))⟩
 .obtain⟨its,r',pl,hz⟩:=I.tuple hq;exact call_tuple_same pl ⟨.ref p,H,I,rfl,q⟩
def Kz(K:PySem.W.Frag)(T:String)(x:V)(H:Hp):Prop:=match x with
 |.str _=>T= "str"
 |.int _=>T= "int"
 |.ref p=>(T= "list" /\∃xs,bx K H p xs)\/(T= "tuple" /\∃o,K.lookup p=some o/\o.cls=.type "tuple" /\o.dict=none)\/
   (T= "dict" /\((∃kvs,H p=some (.dK kvs))\/∃kvs,H p=some (.dT kvs)))\/(T= "set" /\∃S n,H p=some (.set S n))
 |_=>False
theorem zr{pins:List (Addr×Obj)}{σ:St}{H:Hp}{s:Shared}{T:String}{x:V}{v:Value}(I:Inv X pins σ H s)(r:RelV x v)(ty:Kz X.K T x H):
  s.TypeIs v T/\∀a,v=.ref a->∃ob,s.heap.get? a=some ob/\ob.dict=none:=by
 cases x with
 |str z=>
  obtain⟨t,rfl⟩:=r;cases (show T= "str" from ty);exact⟨typeIs_str s z t,fun _ e=>nomatch e⟩
 |int i=>
  obtain⟨t,rfl⟩:=r;cases (show T= "int" from ty);exact⟨typeIs_int s i t,fun _ e=>nomatch e⟩
 |ref p=>
  cases r;rcases ty with ⟨rfl,xs,hq⟩|⟨rfl,o,hk,hc,hd⟩|⟨rfl,hk⟩|⟨rfl,S,n,hk⟩
  .obtain⟨its,_,pl,_⟩:=I.list hq;refine⟨pl.isList.typeIs,fun a e=>?_⟩;cases e;obtain⟨o,n,e,c,hd,_⟩:=pl;exact⟨o,e,hd⟩
  .refine⟨⟨o,I.cR p o hk,hc⟩,fun a e=>?_⟩;cases e;exact⟨o,I.cR _ o hk,hd⟩
  .have z:∃o,s.heap.get? p=some o/\o.ExactDict:=by
    rcases hk with ⟨kvs,hk⟩|⟨kvs,hk⟩
    .obtain⟨_,_,_,_,o,_,_,e,ex,_⟩:=I.ao p _ hk;exact⟨o,e,ex⟩
    .obtain⟨_,_,_,_,o,_,_,e,ex,_⟩:=I.ao p _ hk;exact⟨o,e,ex⟩
   obtain⟨o,e,ex⟩:=z;refine⟨⟨o,e,ex.1⟩,fun a e2=>?_⟩;cases e2;exact⟨o,e,ex.2.1⟩
  .obtain⟨o,_,_,_,e,ex,_⟩:=I.ao p _ hk;refine⟨⟨o,e,ex.1⟩,fun a e2=>?_⟩;cases e2;exact⟨o,e,ex.2.1⟩
 |_=>exact False.elim ty
noncomputable def OP(K:PySem.W.Frag)(T:String)(r:V->List V->Hp->VK->Prop)(to:TE):TE:=fun σ H Q=>to σ H fun x H1=>Kz K T x H1/\r x [] H1 Q
noncomputable def Qo(K:PySem.W.Frag)(T:String)(r:V->List V->Hp->VK->Prop)(to:TE)(t:TA):TE:=fun σ H Q=>to σ H fun x H1=>Kz K T x H1/\t σ H1 fun xs H2=>r x xs H2 Q
variable {o e:Expr}{es:List Expr}{to:TE}{t:TA}{name:Str}{apos cpos:Pos}{T id:String}{r:V->List V->Hp->VK->Prop}
theorem JI(pa:PlainAttrs T)(slot:Slot T name id)(hty:typeOf (.builtin id)=pure (.type "method_descriptor"))(hm:Jx X id r)(ho:PE X o to)
  (hbase:attributeBase o name X.env (eval o X.env)=eval o X.env:=by rfl) (hline:(apos.endLine== cpos.line)=true:=by rfl):PE X (.Call (.Attribute o name apos) [] [] cpos) (OP X.K T r to):=by
 intro pins s σ H Q I h;refine wpAny_Call_method0_late hbase hline (aC (ho pins s σ H _ I h) fun v s1 Z=>Z.g4 fun x H1 I1 r1 Z=>Z.g fun ty q1=>?_);obtain⟨h1,h2⟩:=zr I1 r1 ty;exact⟨T,id,pa,slot,hty,h1,h2,Calls.callWith_builtin rfl (PySem.evalArgs_none (hm pins s1 σ H1 x [] v [] Q I1 r1 .nil q1))⟩
theorem yt(pa:PlainAttrs T)(slot:Slot T name id)(hty:typeOf (.builtin id)=pure (.type "method_descriptor"))(hm:Jx X id r)(ho:PE X o to)(ha:PA X (e::es) t)
  (hbase:attributeBase o name X.env (eval o X.env)=eval o X.env:=by rfl)
  (hfew:((backTo cpos (starEach (e::es) X.env)).all (fun x=>!x.1)&&(backToKw cpos (keywordEach [] X.env)).all (fun x=>x.1.isSome)
   && decide ((e::es).length+([]:List Keyword).length+(if ([]:List Keyword).isEmpty then 0 else 1)<30))=true:=by rfl)
  (hline:(apos.endLine== cpos.line)=true:=by rfl) (hs:starEach (e::es) X.env=(false,eval e X.env)::starEach es X.env:=by rfl) (hplain:(backTo cpos (starEach es X.env)).any (·.1)=false:=by rfl):
  PE X (.Call (.Attribute o name apos) (e::es) [] cpos) (Qo X.K T r to t):=by
 intro pins s σ H Q I h;refine wpAny_Call_method_late hbase hfew hline rfl (aC (ho pins s σ H _ I h) fun v s1 Z=>Z.g4 fun x H1 I1 r1 Z=>Z.g fun ty q1=>?_);obtain⟨h1,h2⟩:=zr I1 r1 ty;refine⟨T,id,pa,slot,hty,h1,h2,?_⟩;have hA:=ha cpos pins s1 σ H1 _ I1 q1;rw[hs] at hA⊢;refine Calls.callWith_builtin (by show (false || (backTo cpos (starEach es X.env)).any (·.1))=false;rw[hplain]<;>rfl) (Calls.evalArgs_plain ?_);exact aC hA fun us s2 Z=>Z.g4 fun vs H2 I2 r2 q2=>hm pins s2 σ H2 x vs v us Q I2 r1 r2 q2
end
def ID(X:Cx)(id:String)(r:V->List V->Hp->VK->Prop):Prop:=
 ∀(pins:List (Addr×Obj))(s:Shared)(σ:St)(H:Hp)(x:V)(xs:List V)(v:Value)(us:List Value)(Q:VK),Inv X pins σ H s->RelV x v->Vals xs us->r x xs H Q->
  wpAny (model X.prog X.w) X.A (call (.builtin id) (v::us)) (EP X pins σ Q) X.xe s
theorem Vals.one:∀{x:V}{us:List Value},Vals [x] us->∃u,us=[u]/\RelV x u
 |_,_,.cons r .nil=>⟨_,rfl,r⟩
theorem Vals.zero:∀{us:List Value},Vals [] us->us=[]
 |_,.nil=>rfl
theorem Vals.reverse{xs:List V}{us:List Value}(h:Vals xs us):Vals xs.reverse us.reverse:=by
 induction h with
 |nil=>exact .nil
 |cons r t ih=>rw[List.reverse_cons,List.reverse_cons];exact Vals.append ih (.cons r .nil)
section
variable {X:Cx}{pins:List (Addr×Obj)}{σ:St}{H:Hp}{s:Shared}{l b:Addr}{xs ys zs:List V}
theorem Inv.JG{its its':List Value}{n:Nat}{f:Array Value->Array Value}{t':Nat}(I:Inv X pins σ H s)(hH:H l=some (.lst xs))
  (e:s.heap.get? l=some {cls:=.type "list",data:=.seq its.toArray n}) (hf:f its.toArray=its'.toArray) (hv:Vals ys its') (hz:ys.length<=sizeLine):
  Inv X pins σ (upd H l (.lst ys)) {s with heap:=s.heap.update l (Obj.mapSeq f),toks:=t'}:=by
 have q:=PySem.IsL.update e f;rw[hf] at q;refine I.write (x:=l) (e:=l) (by rw[hH];exact trivial) (.inl rfl) (fun b' u hb hu=>(Heap.get?_update_other s.heap (Obj.mapSeq f) (Ne.symm hb)).trans hu) ⟨_,q⟩ ?_;exact⟨hz,its',_,hv,q⟩
theorem Inv.Oq{its:List Value}{t':Nat}(I:Inv X pins σ H s)(hv:Vals ys its)(hz:ys.length<=sizeLine):
  Inv X pins σ (upd H s.heap.objs.size (.lst ys)) {s with heap:=s.heap.push {cls:=.type "list",data:=.seq its.toArray},toks:=t'}:=
 I.laid (fun _ _ q=>Heap.get?_push_of_some _ q) (Nat.le_refl _) ⟨hz,its,0,hv,Heap.get?_push_size _ rfl⟩
theorem Inv.fresh(I:Inv X pins σ H s):H s.heap.objs.size=none:=I.ao.fresh (Nat.le_refl _)
theorem Inv.qM(I:Inv X pins σ H s)(hH:H l=some (.lst xs)):xs.length<=sizeLine/\∃(its:List Value) (n:Nat),Vals xs its/\xs.length=its.length/\s.heap.get? l=some {cls:=.type "list",data:=.seq its.toArray n}:=by obtain⟨z,its,n,r,e⟩:=I.ao l _ hH;exact⟨z,its,n,r,r.length,e⟩
end
section
variable {X:Cx}
noncomputable def EO:V->List V->Hp->VK->Prop:=fun x vs H Q=>∃l xs y,x=.ref l/\vs=[y]/\H l=some (.lst xs)/\xs.length<sizeLine/\Q .ah (upd H l (.lst (xs++[y])))
theorem rS:ID X "list.append" EO:=by intro pins s σ H x vs v us Q I rx rv h;obtain⟨l,xs,y,rfl,rfl,hH,hz,q⟩:=h;cases rx;obtain⟨u,rfl,ru⟩:=rv.one;obtain⟨z,its,n,r,hl,e⟩:=I.qM hH;refine call_meets F.slot_list_append ⟨_,e,rfl⟩ F.entry_list_append (F.args_list_append_2 _ _) (PySem.list_append l its.toArray n u (by rw[List.size_toArray];omega)) ⟨e,?_⟩;refine⟨.ah,_,I.JG (its':=its++[u]) hH e (by simp) (r.append (.cons ru .nil)) ?_,rfl,q⟩;rw[List.length_append,List.length_singleton];omega
noncomputable def CJ:V->List V->Hp->VK->Prop:=fun x vs H Q=>∃l xs,x=.ref l/\vs=[]/\H l=some (.lst xs)/\Q .ah (upd H l (.lst xs.reverse))
theorem xT:ID X "list.reverse" CJ:=by intro pins s σ H x vs v us Q I rx rv h;obtain⟨l,xs,rfl,rfl,hH,q⟩:=h;cases rx;have hus:=rv.zero;subst hus;obtain⟨z,its,n,r,hl,e⟩:=I.qM hH;refine call_meets F.slot_list_reverse ⟨_,e,rfl⟩ F.entry_list_reverse (F.args_list_reverse_1 _) (AutoSeq1.list_reverse_list_0 l its.toArray n (by rw[List.size_toArray];omega)) ⟨e,?_⟩;refine⟨.ah,_,I.JG (its':=its.reverse) hH e (by simp) r.reverse ?_,rfl,q⟩;rw[List.length_reverse];omega
noncomputable def JE:R2:=fun x y H Q=>∃l b xs zs,x=.ref l/\y=.ref b/\H l=some (.lst xs)/\H b=some (.lst zs)/\xs.length+zs.length<=sizeLine/\∀p,H p=none->Q (.ref p) (upd H p (.lst (xs++zs)))
theorem IP:cN X (binaryOp .Add) JE:=by
 intro pins s σ H x y v u Q I rx ry h;obtain⟨l,b,xs,zs,rfl,rfl,hH,hB,hz,q⟩:=h;cases rx;cases ry;obtain⟨z,its,n,r,hl,e⟩:=I.qM hH;obtain⟨z2,its2,n2,r2,hl2,e2⟩:=I.qM hB;refine PySem.P.add_list e e2 ?_ (by rw[List.size_toArray,List.size_toArray];omega);have ea:its.toArray++its2.toArray=(its++its2).toArray:=by simp
 rw[ea];exact⟨.ref _,_,I.Oq (t':=s.toks) (r.append r2) (by rw[List.length_append];omega),rfl,q _ I.fresh⟩
end
section
variable {prog:Program}{w:World}{A:Around}{E:Value->Shared->Prop}{s:Shared}
set_option maxRecDepth 100000 in
end
section
variable {X:Cx}
end
section
variable {κ:Type} [DecidableEq κ]
noncomputable def iu(kvs:List (κ×V))(k:κ):Option V:=(kvs.find? fun kv=>decide (kv.1=k)).map (·.2)
noncomputable def putK(kvs:List (κ×V))(k:κ)(v:V):List (κ×V):=
 if (kvs.any fun kv=>decide (kv.1=k))=true then kvs.map (fun kv=>if kv.1=k then (kv.1,v) else kv) else kvs++[(k,v)]
theorem lL{p:κ×V}{r:List (κ×V)}{k:κ}(e:p.1=k):iu (p::r) k=some p.2:=by simp[iu,List.find?_cons,e]
theorem lg{p:κ×V}{r:List (κ×V)}{k:κ}(e:¬ p.1=k):iu (p::r) k=iu r k:=by simp[iu,List.find?_cons,e]
theorem vk(k:κ):∀kvs:List (κ×V),(kvs.any fun kv=>decide (kv.1=k))=(iu kvs k).isSome
 |[]=>rfl
 |p::r=>by
  rw[List.any_cons];by_cases e:p.1=k
  .simp only[lL e,decide_eq_true e,Bool.true_or,Option.isSome_some]
  .rw[lg e,decide_eq_false e,Bool.false_or];exact vk k r
theorem iF(kvs:List (κ×V))(k:κ)(v:V):(putK kvs k v).length<=kvs.length+1:=by
 unfold putK;split
 .rw[List.length_map];omega
 .rw[List.length_append,List.length_cons,List.length_nil];omega
theorem dC.iN{o:Option V}{u:Option Value}(r:dC o u):o.isSome=u.isSome:=by
 cases o with
 |none=>cases u with
  |none=>rfl
  |some _=>exact (show False from r).elim
 |some _=>cases u with
  |none=>exact (show False from r).elim
  |some _=>rfl
theorem dC.getD{o:Option V}{u:Option Value}{d:V}{d':Value}(r:dC o u)(rd:RelV d d'):RelV (o.getD d) (u.getD d'):=by
 cases o with
 |none=>cases u with
  |none=>exact rd
  |some _=>exact (show False from r).elim
 |some _=>cases u with
  |none=>exact (show False from r).elim
  |some _=>exact r
theorem KV.val{kvs:List (κ×V)}{vs:List (κ×Value)}(r:KV kvs vs)(k:κ):dC (iu kvs k) (valueAt vs k):=by
 unfold KV at r
 induction r with
 |nil=>exact True.intro
 | @cons p q ps qs h t ih=>
  obtain⟨h1,h2⟩:=h;by_cases e:p.1=k
  .have e':q.1=k:=h1.symm.trans e;have b:valueAt (q::qs) k=some q.2:=by simp[valueAt,List.find?_cons,e']
   rw[lL e,b];exact h2
  .have e':¬ q.1=k:=fun z=>e (h1.trans z);have b:valueAt (q::qs) k=valueAt qs k:=by simp[valueAt,List.find?_cons,e']
   rw[lg e,b];exact ih
theorem KV.any{kvs:List (κ×V)}{vs:List (κ×Value)}(r:KV kvs vs)(k:κ):(kvs.any fun kv=>decide (kv.1=k))=vs.any fun kv=>decide (kv.1=k):=by
 unfold KV at r
 induction r with
 |nil=>rfl
 |cons h t ih=>rw[List.any_cons,List.any_cons,ih,h.1]
theorem KV.Cf{kvs:List (κ×V)}{vs:List (κ×Value)}(r:KV kvs vs)(k:κ){y:V}{u:Value}(ry:RelV y u):
  KV (kvs.map fun kv=>if kv.1=k then (kv.1,y) else kv) (vs.map fun kv=>if kv.1=k then (kv.1,u) else kv):=by
 unfold KV at r⊢
 induction r with
 |nil=>exact .nil
 | @cons p q ps qs h t ih=>
  rw[List.map_cons,List.map_cons];refine .cons ?_ ih;obtain⟨h1,h2⟩:=h;by_cases e:p.1=k
  .rw[if_pos e,if_pos (h1.symm.trans e)];exact⟨h1,ry⟩
  .rw[if_neg e,if_neg (fun z=>e (h1.trans z))];exact⟨h1,h2⟩
theorem KV.put{kvs:List (κ×V)}{vs:List (κ×Value)}(r:KV kvs vs)(k:κ){y:V}{u:Value}(ry:RelV y u):KV (putK kvs k y) (stored vs k u):=by
 unfold putK stored;rw[r.any k];by_cases e:(vs.any fun kv=>decide (kv.1=k))=true
 .rw[if_pos e,if_pos e];exact r.Cf k ry
 .rw[if_neg e,if_neg e];exact Paired.snoc r ⟨rfl,ry⟩
theorem KV.length{kvs:List (κ×V)}{vs:List (κ×Value)}(r:KV kvs vs):kvs.length=vs.length:=Paired.length r
end
theorem jU{P:Program}{w:World}{k:Key}{u:Value}(r:RelV (kV k) u):(bD P w).is k u=true:=by
 cases k with
 |inl i=>obtain⟨t,e⟩:=(show ∃t,u=Value.int i t from r);subst e;exact vI P w i t
 |inr x=>obtain⟨t,e⟩:=(show ∃t,u=Value.str x t from r);subst e;exact vE P w x t
theorem AH{a b:Key}(e:kV a=kV b):a=b:=by
 cases a with
 |inl i=>cases b with
  |inl j=>have e':V.int i=V.int j:=e;injection e' with e';rw[e']
  |inr y=>exact nomatch (show V.int i=V.str y from e)
 |inr x=>cases b with
  |inl j=>exact nomatch (show V.str x=V.int j from e)
  |inr y=>have e':V.str x=V.str y:=e;injection e' with e';rw[e']
theorem sN{P:Program}{w:World}:∀{ks:List Key}{us:List Value},Vals (ks.map kV) us->ItemsAre (bD P w) ks us
 |[],_,r=>by rw[List.map_nil] at r;cases r;exact .nil
 |k::ks,_,r=>by
  rw[List.map_cons] at r;cases r with
  |cons h t=>exact .cons (jU h) (sN t)
noncomputable abbrev KT(H:Hp):List (List Key×V)->List (List Key×Addr×Value)->Prop:=Paired fun p q=>p.1=q.1/\H q.2.1=some (.tup (p.1.map kV))/\RelV p.2 q.2.2
theorem KT.val{H:Hp}{kvs:List (List Key×V)}{xs:List (List Key×Addr×Value)}(r:KT H kvs xs)(k:List Key):dC (iu kvs k) ((atKey xs k).map (·.2)):=by
 induction r with
 |nil=>exact True.intro
 | @cons p q ps qs h t ih=>
  obtain⟨h1,_,h2⟩:=h;by_cases e:p.1=k
  .have e':q.1=k:=h1.symm.trans e;have b:atKey (q::qs) k=some q.2:=by simp[atKey,List.find?_cons,e']
   rw[lL e,b];exact h2
  .have e':¬ q.1=k:=fun z=>e (h1.trans z);have b:atKey (q::qs) k=atKey qs k:=by simp[atKey,List.find?_cons,e']
   rw[lg e,b];exact ih
theorem KT.Cf{H:Hp}{kvs:List (List Key×V)}{xs:List (List Key×Addr×Value)}(r:KT H kvs xs)(k:List Key){y:V}{u:Value}(ry:RelV y u):
  KT H (kvs.map fun kv=>if kv.1=k then (kv.1,y) else kv) (xs.map (putAt k u)):=by
 induction r with
 |nil=>exact .nil
 | @cons p q ps qs h t ih=>
  rw[List.map_cons,List.map_cons];refine .cons ?_ ih;obtain⟨h1,h2,h3⟩:=h;unfold putAt;by_cases e:p.1=k
  .rw[if_pos e,if_pos (h1.symm.trans e)];exact⟨h1,h2,ry⟩
  .rw[if_neg e,if_neg (fun z=>e (h1.trans z))];exact⟨h1,h2,h3⟩
theorem KT.put{H:Hp}{kvs:List (List Key×V)}{xs:List (List Key×Addr×Value)}(r:KT H kvs xs)(k:List Key){b:Addr}{y:V}{u:Value}(hb:H b=some (.tup (k.map kV)))(ry:RelV y u):
  KT H (putK kvs k y) (storedH xs k b u):=by
 have e:(kvs.any fun kv=>decide (kv.1=k))=(atKey xs k).isSome:=by rw[vk,(r.val k).iN,Option.isSome_map]
 unfold putK storedH;rw[e];by_cases q:(atKey xs k).isSome=true
 .rw[if_pos q,if_pos q];exact r.Cf k ry
 .rw[if_neg q,if_neg q];exact Paired.snoc r ⟨rfl,hb,ry⟩
theorem KT.keeps{H H':Hp}{kvs:List (List Key×V)}{xs:List (List Key×Addr×Value)}(r:KT H kvs xs)(ht:∀b ys,H b=some (.tup ys)->H' b=some (.tup ys)):KT H' kvs xs:=
 Paired.Cm r fun _ _ z=>⟨z.1,ht _ _ z.2.1,z.2.2⟩
section
variable {P:Program}{w:World}{H:Hp}{h:Heap}{a:Addr}
theorem lK{u:HO}(ok:cq P w H h)(e:Rd H a u):bJ P w H h a u:=e.ok ok
theorem iC{kvs:List (Key×V)}(ok:cq P w H h)(e:Rd H a (.dK kvs)):kvs.length<=sizeLine/\(a== sysModules)=false/\∃vs,KV kvs vs/\h.DictOf (bD P w) a vs:=
 show bJ P w H h a (.dK kvs) from lK ok e
theorem xU{kvs:List (Key×V)}(ok:cq P w H h)(e:H a=some (.dK kvs)):kvs.length<=sizeLine/\(a== sysModules)=false/\∃vs,KV kvs vs/\h.DictOf (bD P w) a vs:=iC ok (.inl e)
theorem jF{ks:List Key}(ok:cq P w H h)(e:H a=some (.tup (ks.map kV))):(tupleKind (bD P w)).is h ks a:=by obtain⟨_,its,r,o,h1,h2,n,h3⟩:=(show bJ P w H h a (.tup (ks.map kV)) from ok a _ e);exact⟨o,its.toArray,n,h1,h2,h3,by simpa using sN r⟩
theorem jZ{kvs:List (List Key×V)}(ok:cq P w H h)(e:Rd H a (.dT kvs)):kvs.length<=sizeLine/\(a== sysModules)=false/\
  ∃xs,KT H kvs xs/\h.DictOfH (tupleKind (bD P w)) a xs:=by
 obtain⟨z,y,xs,r,o,es,ep,h1,h2,h3,h4,h5⟩:=(show bJ P w H h a (.dT kvs) from lK ok e);refine⟨z,y,xs,r,o,es,ep,h1,h2,h3,h4,fun x hx=>?_,h5⟩;have all:∀{l:List (List Key×V)}{m:List (List Key×Addr×Value)},KT H l m->∀x∈m,(tupleKind (bD P w)).is h x.1 x.2.1:=by
  intro l m q
  induction q with
  |nil=>intro x hx;exact nomatch hx
  | @cons p q ps qs hq t ih=>
   intro x hx;rcases List.mem_cons.mp hx with e|hx
   .subst e;exact jF ok (by rw[<-hq.1];exact hq.2.1)
   .exact ih x hx
 exact all r x hx
theorem Ma{kvs:List (List Key×V)}(ok:cq P w H h)(e:H a=some (.dT kvs)):kvs.length<=sizeLine/\(a== sysModules)=false/\
  ∃xs,KT H kvs xs/\h.DictOfH (tupleKind (bD P w)) a xs:=jZ ok (.inl e)
end
def ft(H:Hp)(a:Addr)(y:V)(r:Option V):Prop:=
 (∃kvs k,Rd H a (.dK kvs)/\y=kV k/\r=iu kvs k)\/∃kvs k b,Rd H a (.dT kvs)/\y=.ref b/\H b=some (.tup (k.map kV))/\r=iu kvs k
def qO(H:Hp)(a:Addr)(y v:V)(H':Hp):Prop:=
 (∃kvs k,H a=some (.dK kvs)/\y=kV k/\kvs.length<sizeLine/\H'=upd H a (.dK (putK kvs k v)))\/
 ∃kvs k b,H a=some (.dT kvs)/\y=.ref b/\H b=some (.tup (k.map kV))/\kvs.length<sizeLine/\H'=upd H a (.dT (putK kvs k v))
theorem ft.k{H:Hp}{a:Addr}{kvs:List (Key×V)}{k:Key}(e:H a=some (.dK kvs)):ft H a (kV k) (iu kvs k):=.inl ⟨kvs,k,.inl e,rfl,rfl⟩
theorem qO.k{H:Hp}{a:Addr}{kvs:List (Key×V)}{k:Key}{v:V}(e:H a=some (.dK kvs))(hl:kvs.length<sizeLine):qO H a (kV k) v (upd H a (.dK (putK kvs k v))):=.inl ⟨kvs,k,e,rfl,hl,rfl⟩
section
variable {X:Cx}{pins:List (Addr×Obj)}{σ:St}{H:Hp}{s:Shared}{a:Addr}{y v:V}{u r:Value}{o:Option V}{A:Around}{E:Value->Shared->Prop}
theorem Inv.big(I:Inv X pins σ H s):sysModules<s.heap.objs.size:=by have h:mainGlobals<s.heap.objs.size:=(I.mod.glob.keeps I.bk).lt;exact Nat.lt_trans (by decide) h
theorem zg{Q:Value->Shared->Prop}(hu:A.units+1<cLine)(I:Inv X pins σ H s)(g:ft H a y (some v))(ry:RelV y u)(h:∀w' s',Inv X pins σ H s'->RelV v w'->Q w' s'):
  wpAny (model X.prog X.w) A (getItem (.ref a) u) Q E s:=by
 rcases g with ⟨kvs,k,e,ey,l⟩|⟨kvs,k,b,e,ey,eb,l⟩
 .subst ey;obtain⟨z,hd,vs,rel,dd⟩:=iC I.ao e;obtain⟨w',hw,rw'⟩:=dC.some_of (v:=v) (o:=valueAt vs k) (by rw[l];exact rel.val k);exact wpAny_getItem_of (jU ry) dd.mapOf hw (h w' _ (I.tok _) rw')
 .subst ey;cases (show u=Value.ref b from ry);obtain⟨z,hd,xs,rel,dd⟩:=jZ I.ao e;obtain⟨w',hw,rw'⟩:=dC.some_of (v:=v) (o:=(atKey xs k).map (·.2)) (by rw[l];exact rel.val k);obtain⟨p,hp,hp2⟩:=Option.map_eq_some_iff.mp hw;refine wpAny_getItem_heap (tupleKind_room_in1 hu) (jF I.ao eb) dd hp ?_;rw[hp2];exact h w' _ (I.tok _) rw'
theorem OO{Q:Value->Shared->Prop}(hu:A.units+1<cLine)(I:Inv X pins σ H s)(g:ft H a y o)(ry:RelV y u)(h:∀s',Inv X pins σ H s'->Q (.bool o.isSome) s'):
  wpAny (model X.prog X.w) A (compareOp .In u (.ref a)) Q E s:=by
 rcases g with ⟨kvs,k,e,ey,l⟩|⟨kvs,k,b,e,ey,eb,l⟩
 .subst ey;obtain⟨z,hd,vs,rel,dd⟩:=iC I.ao e;refine wpAny_in_of (jU ry) hd dd.mapOf ?_;rw[<-(rel.val k).iN,<-l];exact h _ (I.tok _)
 .subst ey;cases (show u=Value.ref b from ry);obtain⟨z,hd,xs,rel,dd⟩:=jZ I.ao e;refine wpAny_in_heap (tupleKind_room_in1 hu) (jF I.ao eb) hd dd ?_;have q:=(rel.val k).iN;rw[Option.isSome_map] at q;rw[<-q,<-l];exact h _ (I.tok _)
theorem FL{Q:Value->Shared->Prop}(hu:A.units+1<cLine)(I:Inv X pins σ H s)(g:ft H a y o)(ry:RelV y u)(h:∀s',Inv X pins σ H s'->Q (.bool (!o.isSome)) s'):
  wpAny (model X.prog X.w) A (compareOp .NotIn u (.ref a)) Q E s:=by
 rcases g with ⟨kvs,k,e,ey,l⟩|⟨kvs,k,b,e,ey,eb,l⟩
 .subst ey;obtain⟨z,hd,vs,rel,dd⟩:=iC I.ao e;refine wpAny_notIn_of (jU ry) hd dd.mapOf ?_;rw[<-(rel.val k).iN,<-l];exact h _ (I.tok _)
 .subst ey;cases (show u=Value.ref b from ry);obtain⟨z,hd,xs,rel,dd⟩:=jZ I.ao e;refine wpAny_notIn_heap (tupleKind_room_in1 hu) (jF I.ao eb) hd dd ?_;have q:=(rel.val k).iN;rw[Option.isSome_map] at q;rw[<-q,<-l];exact h _ (I.tok _)
theorem qT{h':Heap}{t':Nat}{ob:HO}(I:Inv X pins σ H s)(mu:zY (H a))(hs:Heap.SameBut a s.heap h')(he:∃q,h'.get? a=some q)(new:bJ X.prog X.w (upd H a ob) h' a ob):
  Inv X pins σ (upd H a ob) {s with heap:=h',toks:=t'}:=
 I.write (x:=a) (e:=a) mu (.inl rfl) (fun b q hb z=>(hs.2 b hb).trans z) he new
theorem qg{P:Program}{w:World}{H':Hp}{h':Heap}{kvs:List (Key×V)}{vs:List (Key×Value)}(z:kvs.length<=sizeLine)(hd:(a== sysModules)=false)(rel:KV kvs vs)(dd:h'.DictOf (bD P w) a vs):
  bJ P w H' h' a (.dK kvs):=⟨z,hd,vs,rel,dd⟩
theorem zf{H':Hp}{Q:Unit->Shared->Prop}(hu:A.units+1<cLine)(I:Inv X pins σ H s)(g:qO H a y v H')(ry:RelV y u)(rv:RelV v r)(h:∀s',Inv X pins σ H' s'->Q () s'):
  wpAny (model X.prog X.w) A (setItem (.ref a) u r) Q E s:=by
 rcases g with ⟨kvs,k,e,ey,l,eH⟩|⟨kvs,k,b,e,ey,eb,l,eH⟩
 .subst ey eH;obtain⟨z,hd,vs,rel,dd⟩:=xU I.ao e;have hz:vs.length<=sizeLine:=by rw[<-rel.length];exact z
  have hl:(putK kvs k v).length<=sizeLine:=by have:=iF kvs k v;omega
  refine wpAny_setItem_pairs (hsz:=hz) (jU ry) dd fun h' dd' hs=>h _ ?_;have he:∃q,h'.get? a=some q:=let ⟨q,_,_,hq,_⟩:=dd';⟨q,hq⟩
  exact qT I (by rw[e];exact True.intro) hs he (qg hl hd (rel.put k rv) dd')
 .subst ey eH;cases (show u=Value.ref b from ry);obtain⟨z,hd,xs,rel,dd⟩:=Ma I.ao e;have hz:xs.length<=sizeLine:=by rw[<-Paired.length rel];exact z
  have hl:(putK kvs k v).length<=sizeLine:=by have:=iF kvs k v;omega
  refine wpAny_setItem_heap (hsz:=hz) (tupleKind_room_in1 hu) (jF I.ao eb) dd fun h' dd' hs=>h _ ?_;obtain⟨q,es,ep,hq,h2,h3,h4,_,h5⟩:=dd';refine qT I (by rw[e];exact True.intro) hs ⟨q,hq⟩ ⟨hl,hd,_,(rel.put k eb rv).keeps fun c ys ec=>?_,q,es,ep,hq,h2,h3,h4,h5⟩;rw[aq (LD ec e (fun z=>nomatch z))];exact ec
end
section
variable {X:Cx}{pins:List (Addr×Obj)}{σ:St}{H:Hp}{s:Shared}{a:Addr}{kvs:List (Key×V)}{k:Key}{u:Value}{A:Around}{E:Value->Shared->Prop}
theorem K8{Q:Value->Shared->Prop}(I:Inv X pins σ H s)(e:Rd H a (.dK kvs))(h:∀t s',Inv X pins σ H s'->Q (.int kvs.length t) s'):wpAny (model X.prog X.w) A (call (.builtin "len") [.ref a]) Q E s:=by obtain⟨z,hd,vs,rel,dd⟩:=iC I.ao e;refine call_len_dict hd dd (by rw[<-rel.length];rw[sizeLine_eq] at z;omega) ?_;rw[<-rel.length];exact h _ _ (I.tok _)
end
theorem vO{X:Cx}{pins:List (Addr×Obj)}{σ:St}{H:Hp}{s:Shared}{a:Addr}{y:V}{o:Option V}(I:Inv X pins σ H s)(g:ft H a y o):s.TypeIs (.ref a) "dict" := by
 rcases g with ⟨kvs,k,e,_,_⟩|⟨kvs,k,b,e,_,_,_⟩
 .obtain⟨_,_,vs,_,dd⟩:=iC I.ao e;exact dd.typeIs
 .obtain⟨_,_,xs,_,dd⟩:=jZ I.ao e;exact dd.typeIs
section
variable {X:Cx}{o i e value:Expr}{pos pos' tpos:Pos}{td ty tv:TE}
end
theorem CB{P:Program}{w:World}{H:Hp}(h:Heap)(hb:sysModules<h.objs.size):bJ P w H (h.push {cls:=.type "dict",data:=.dict #[]}) h.objs.size (.dK []):=
 ⟨Nat.zero_le _,beq_eq_false_iff_ne.mpr (Ne.symm (Nat.ne_of_lt hb)),[],.nil,Heap.DictOf.new h⟩
noncomputable def Il:TE:=fun _ H Q=>∀p,H p=none->Q (.ref p) (upd H p (.dK []))
section
variable {X:Cx}{pos:Pos}
theorem C9:PE X (.Dict [] [] pos) Il:=fun pins s σ H Q I h=>
 wpAny_Dict_empty ⟨.ref s.heap.objs.size,_,I.laid (a:=s.heap.objs.size) (o:=.dK []) (t':=s.toks) (fun _ _ q=>Heap.get?_push_of_some _ q) (Nat.le_refl _) (CB s.heap I.big),rfl,h _ (I.ao.fresh (Nat.le_refl _))⟩
end
structure M1(X:Cx)(o:Expr)(m:Str)(apos:Pos)(e:Expr)(cpos:Pos):Prop where
 base:attributeBase o m X.env (eval o X.env)=eval o X.env
 ko:((backTo cpos (starEach [e] X.env)).all (fun x=>!x.1)&&(backToKw cpos (keywordEach [] X.env)).all (fun x=>x.1.isSome)
  && decide (([e]:List Expr).length+([]:List Keyword).length+(if ([]:List Keyword).isEmpty then 0 else 1)<30))=true
 line:(apos.endLine== cpos.line)=true
 trees:backTo cpos (starEach [e] X.env)=[(false,eval e X.env)]
structure M2(X:Cx)(o:Expr)(m:Str)(apos:Pos)(e f:Expr)(cpos:Pos):Prop where
 base:attributeBase o m X.env (eval o X.env)=eval o X.env
 ko:((backTo cpos (starEach [e,f] X.env)).all (fun x=>!x.1)&&(backToKw cpos (keywordEach [] X.env)).all (fun x=>x.1.isSome)
  && decide (([e,f]:List Expr).length+([]:List Keyword).length+(if ([]:List Keyword).isEmpty then 0 else 1)<30))=true
 line:(apos.endLine== cpos.line)=true
 trees:backTo cpos (starEach [e,f] X.env)=[(false,eval e X.env),(false,eval f X.env)]
def Hu(H:Hp)(a:Addr):Prop:=(∃kvs,Rd H a (.dK kvs))\/∃kvs,Rd H a (.dT kvs)
theorem Bk{X:Cx}{pins:List (Addr×Obj)}{σ:St}{H:Hp}{s:Shared}{a:Addr}(I:Inv X pins σ H s)(d:Hu H a):
  s.TypeIs (.ref a) "dict" /\(∀b,Value.ref a=.ref b->∃ob,s.heap.get? b=some ob/\ob.dict=none)/\(a== sysModules)=false:=by
 rcases d with ⟨kvs,e⟩|⟨kvs,e⟩
 .obtain⟨_,hd,vs,_,dd⟩:=iC I.ao e;refine⟨dd.typeIs,fun b q=>?_,hd⟩;cases q;obtain⟨ob,_,_,h1,h2,_⟩:=dd;exact⟨ob,h1,h2.2.1⟩
 .obtain⟨_,hd,xs,_,dd⟩:=jZ I.ao e;refine⟨dd.typeIs,fun b q=>?_,hd⟩;cases q;obtain⟨ob,_,_,h1,h2,_⟩:=dd;exact⟨ob,h1,h2.2.1⟩
section
variable {X:Cx}{pins:List (Addr×Obj)}{σ:St}{H:Hp}{s:Shared}{a:Addr}{y d:V}{u r:Value}{o:Option V}{A:Around}{E:Value->Shared->Prop}
theorem Ib{Q:Value->Shared->Prop}(hu:A.units+1<cLine)(I:Inv X pins σ H s)(g:ft H a y o)(ry:RelV y u)(h:∀w' s',Inv X pins σ H s'->RelV (o.getD .ah) w'->Q w' s'):
  wpAny (model X.prog X.w) A (call (.builtin "dict.get") [.ref a,u]) Q E s:=by
 rcases g with ⟨kvs,k,e,ey,l⟩|⟨kvs,k,b,e,ey,eb,l⟩
 .subst ey;obtain⟨z,hd,vs,rel,dd⟩:=iC I.ao e;refine call_meetsIn PySem.F.slot_dict_get dd.typeIs PySem.F.entry_dict_get (PySem.F.args_dict_get_2 _ _) (meets_dict_get (bD X.prog X.w) a (jU ry) hd) ⟨_,dd.mapOf,h _ _ (I.tok _) ?_⟩;rw[l];exact (rel.val k).getD rfl
 .subst ey;cases (show u=Value.ref b from ry);obtain⟨z,hd,xs,rel,dd⟩:=jZ I.ao e;refine call_meetsIn PySem.F.slot_dict_get dd.typeIs PySem.F.entry_dict_get (PySem.F.args_dict_get_2 _ _) (meetsH_dict_get (tupleKind (bD X.prog X.w)) a b hd) ⟨tupleKind_room_in1 hu,k,xs,jF I.ao eb,dd,h _ _ (I.tok _) ?_⟩;rw[l];exact (rel.val k).getD rfl
theorem Kb{Q:Value->Shared->Prop}(hu:A.units+1<cLine)(I:Inv X pins σ H s)(g:ft H a y o)(ry:RelV y u)(rd:RelV d r)(h:∀w' s',Inv X pins σ H s'->RelV (o.getD d) w'->Q w' s'):
  wpAny (model X.prog X.w) A (call (.builtin "dict.get") [.ref a,u,r]) Q E s:=by
 rcases g with ⟨kvs,k,e,ey,l⟩|⟨kvs,k,b,e,ey,eb,l⟩
 .subst ey;obtain⟨z,hd,vs,rel,dd⟩:=iC I.ao e;refine call_meetsIn PySem.F.slot_dict_get dd.typeIs PySem.F.entry_dict_get (PySem.F.args_dict_get_3 _ _ _) (meets_dict_get_default (bD X.prog X.w) a (jU ry) hd r) ⟨_,dd.mapOf,h _ _ (I.tok _) ?_⟩;rw[l];exact (rel.val k).getD rd
 .subst ey;cases (show u=Value.ref b from ry);obtain⟨z,hd,xs,rel,dd⟩:=jZ I.ao e;refine call_meetsIn PySem.F.slot_dict_get dd.typeIs PySem.F.entry_dict_get (PySem.F.args_dict_get_3 _ _ _) (meetsH_dict_get_default (tupleKind (bD X.prog X.w)) a b hd r) ⟨tupleKind_room_in1 hu,k,xs,jF I.ao eb,dd,h _ _ (I.tok _) ?_⟩;rw[l];exact (rel.val k).getD rd
end
noncomputable def JU(td ty:TE):TE:=fun σ H Q=>td σ H fun x H1=>∃a,x=.ref a/\Hu H1 a/\ty σ H1 fun y H2=>∃o,ft H2 a y o/\Q (o.getD .ah) H2
noncomputable def IB(td ty tx:TE):TE:=fun σ H Q=>td σ H fun x H1=>∃a,x=.ref a/\Hu H1 a/\ty σ H1 fun y H2=>tx σ H2 fun z H3=>∃o,ft H3 a y o/\Q (o.getD z) H3
section
variable {X:Cx}{o e f:Expr}{apos cpos:Pos}{td ty tx:TE}
theorem CI(hu:X.A.units+1<cLine)(ho:PE X o td)(he:PE X e ty)(m:M1 X o "get" apos e cpos):PE X (.Call (.Attribute o "get" apos) [e] [] cpos) (JU td ty):=by intro pins s σ H Q I h;refine wpAny_Call_method m.base m.ko m.line PySem.F.plainAttrs_dict PySem.F.slot_dict_get PySem.F.type_dict_get (aC (ho pins s σ H _ I h) fun u s1 Z=>Z.g fun x Z=>Z.g fun H1 Z=>Z.g fun I1 Z=>Z.g fun rx Z=>Z.g fun a Z=>Z.g fun ex Z=>Z.g fun d q1=>?_);subst ex;obtain rfl:u=Value.ref a:=rx;obtain⟨t1,t2,_⟩:=Bk I1 d;refine⟨t1,t2,?_⟩;rw[m.trees];refine Calls.callWith_builtin rfl (Calls.evalArgs_plain (Calls.spliced_cons (aC (he pins s1 σ H1 _ I1 q1) fun iv s2 Z=>Z.g fun y Z=>Z.g fun H2 Z=>Z.g fun I2 Z=>Z.g fun ry Z=>Z.g fun ov Z=>Z.g fun g q2=>Calls.spliced_nil ?_)));exact Ib hu I2 g ry fun w' s3 I3 rw'=>⟨_,H2,I3,rw',q2⟩
theorem Cz(hu:X.A.units+1<cLine)(ho:PE X o td)(he:PE X e ty)(hf:PE X f tx)(m:M2 X o "get" apos e f cpos):PE X (.Call (.Attribute o "get" apos) [e,f] [] cpos) (IB td ty tx):=by
 intro pins s σ H Q I h;refine wpAny_Call_method m.base m.ko m.line PySem.F.plainAttrs_dict PySem.F.slot_dict_get PySem.F.type_dict_get (aC (ho pins s σ H _ I h) fun u s1 Z=>Z.g fun x Z=>Z.g fun H1 Z=>Z.g fun I1 Z=>Z.g fun rx Z=>Z.g fun a Z=>Z.g fun ex Z=>Z.g fun d q1=>?_);subst ex;obtain rfl:u=Value.ref a:=rx;obtain⟨t1,t2,_⟩:=Bk I1 d;refine⟨t1,t2,?_⟩;rw[m.trees];refine Calls.callWith_builtin rfl (Calls.evalArgs_plain (Calls.spliced_cons (aC (he pins s1 σ H1 _ I1 q1) fun iv s2 Z=>Z.g fun y Z=>Z.g fun H2 Z=>Z.g fun I2 Z=>Z.g fun ry q2=>
  Calls.spliced_cons (aC (hf pins s2 σ H2 _ I2 q2) fun fv s3 Z=>Z.g fun z Z=>Z.g fun H3 Z=>Z.g fun I3 Z=>Z.g fun rz Z=>Z.g fun ov Z=>Z.g fun g q3=>Calls.spliced_nil ?_))))
 exact Kb hu I3 g ry rz fun w' s4 I4 rw'=>⟨_,H3,I4,rw',q3⟩
end
section
variable {X:Cx}{pins:List (Addr×Obj)}{σ:St}{H:Hp}{s:Shared}{a:Addr}{kvs:List (Key×V)}{A:Around}{E:Value->Shared->Prop}
theorem BR{Q:Value->Shared->Prop}(I:Inv X pins σ H s)(e:Rd H a (.dK kvs))(h:∀p s',H p=none->Inv X pins σ (upd H p (.dK kvs)) s'->Q (.ref p) s'):wpAny (model X.prog X.w) A (call (.type "dict") [.ref a]) Q E s:=by obtain⟨z,hd,vs,rel,dd⟩:=iC I.ao e;refine kt_call_dict hd dd (by rw[<-rel.length];exact z) fun h' dd' hs=>?_;refine h _ _ (I.ao.fresh (Nat.le_refl _)) (I.laid (a:=s.heap.objs.size) (o:=.dK kvs) (t':=s.toks) (fun b q hq=>?_) (Nat.le_refl _) (qg z (beq_eq_false_iff_ne.mpr (Ne.symm (Nat.ne_of_lt I.big))) rel dd'));exact (hs.2 b (Nat.ne_of_lt (Heap.lt_size hq))).trans (Heap.get?_push_of_some _ hq)
end
section
variable {X:Cx}{pins:List (Addr×Obj)}{σ:St}{H:Hp}{s:Shared}{a:Addr}{y:V}{u:Value}{A:Around}{E:Value->Shared->Prop}
end
end L2
namespace Att
open PySem PySem.W PySem.Calls PyProof.Rows
theorem pF{P:Params}{h:Heap}:∀(ns:List Int)(vs:List Value),WellAll P h vs (ns.map WData.int)->IntsAre vs ns:=by
 intro ns
 induction ns with
 |nil=>
  intro vs w;rw[List.map_nil] at w;cases w;exact .nil
 |cons n ns ih=>
  intro vs w;rw[List.map_cons] at w;cases w with
  |cons a b=>
   cases a;exact .cons _ _ (ih _ b)
theorem Bs{l:OpenLaw}{n:Nat}(hn:l.most=some n){P:Params}{h:Heap}{args:List WData}{vals:List Value}
  (hpre:l.row.toRowW.claim.pre args=true) (hwl:WellAll P h vals args):
  ∃a vs ns,vals=[Value.ref a]/\args=[WData.list (ns.map WData.int)]/\h.get? a=some {cls:=.type "list",data:=.seq vs.toArray}/\IntsAre vs ns/\ns.length<=n:=by
 have hsh:WShape.hasAll [] args [.list .int]=true:=(pre_splitW hpre).1;have hc:l.pre.holds [] {args:=args}=true:=(pre_splitW hpre).2;obtain⟨d,r,rfl,h1,h2⟩:=hasAllW_cons hsh;obtain rfl:=hasAllW_nil h2;obtain⟨xs,rfl,h3⟩:=hasW_list h1;obtain⟨ns,rfl⟩:=items_int h3;have hlen:ns.length<=n:=by
  unfold OpenLaw.pre at hc;have h4:(WTm.not (.lt (.lit (.int (n:Int))) (.len (.arg 0)))).holds [] {args:=[.list (ns.map .int)]}=true:=by have h4:=(holds_andW hc).1;rw[hn] at h4;exact h4
  have h5:=condW_of h4 (w_not (w_lt w_lit (w_len_list (w_arg rfl))));rw[List.length_map] at h5;refine Nat.le_of_not_lt fun q=>?_;have q':(n:Int)<((ns.length:Nat):Int):=by omega
  first
   |(rw[decide_eq_true q'] at h5;exact absurd h5 (by decide))
   |(simp at h5;omega)
 cases hwl with
 |cons w1 w2=>
  cases w2;cases w1 with
  |list ho hall=>exact⟨_,_,ns,rfl,rfl,ho,pF ns _ hall,hlen⟩
theorem zO(l:OpenLaw)(args:List WData):l.row.toRowW.claim.post args (.bool true) args=true:=
 postW_of (r:=l.row.toRowW) (X:=(true== true))
  (show WShape.has [] (.bool true) .bool=true by first|rfl|decide|simp[WShape.has,WShape.arms,WShape.armsAll])
  (show (WTm.eq .res (.lit (.bool true))).value [] {args:=args,res:=some (.bool true),after:=args}=some (.bool (true== true)) from w_eq_bool (w_res rfl) w_lit) rfl
theorem vS{l:OpenLaw}{n:Nat}{q:Program}{loose:List Str}{XP:(Str->Option Value)->Heap->Prop}{YP:World->Heap->Prop}{d:DefRec}
  (hn:l.most=some n) (hdf:d.params.defaults=[])
  (call:∀(w:World)(aI s₁:Shared)(mg mb:Str->Option Value)(fa:Addr)(o:Obj)(pm cd doc:Value)(a:Addr)(vs:List Value)(ns:List Int),
   Ground q loose [] XP w aI mg mb s₁.heap->YP w s₁.heap->
   s₁.heap.get? fa=some o->o.data=.func (docDef d.name d.params d.body d.scope pm cd doc)->s₁.heap.CodeRec cd d.name->mg d.name=some (.ref fa)->
   s₁.heap.get? a=some {cls:=.type "list",data:=.seq vs.toArray}->IntsAre vs ns->ns.length<=n->s₁.gens=#[]->
   codeAny (model l.prog w) callerA (.call (.ref fa) ⟨[.ref a],[]⟩) (fun r s'=>r=.ok (.ret (.bool true))/\OldK s₁.heap s'.heap/\s'.os=s₁.os/\AllBare s'.gens) s₁):
  WalkO q loose XP YP l.row.toRowW d [] (fun f vs=>PySem.call f vs):=by
 intro w aI s₁ mg mb G Y fa o pm cd doc dV kV ho hd hcd hD hmg hg args vals as hpre hlay hrd hwl hlo;obtain rfl:dV=.none:=Dflts.none hD hdf;obtain rfl:kV=.none:=Dflts.noKw hD;obtain⟨a,vs,ns,rfl,rfl,hobj,hints,hlen⟩:=Bs hn hpre hwl;refine enter_call (codeAny_mono (call w aI s₁ mg mb fa o pm cd doc a vs ns G Y ho (fd_plain hd) hcd hmg hobj hints hlen hg) fun r s' hq=>?_);obtain⟨rfl,h2,h3,h4⟩:=hq;exact⟨.inl ⟨.bool true,.bool true,[],rfl,fun _=>rfl,.bool true,zO l _,fun _=>⟨List.Pairwise.nil,fun _ hm=>(nomatch hm)⟩⟩,h2,h3,h4⟩
section
variable {prog:Program}{w:World}{A:Around}{E:Value->Shared->Prop}{s:Shared}{K:Frag}
end
end Att
namespace L2
open PySem PySem.Spec PyProof.Rows
theorem sQ:∀{vs:List Value}{ns:List Int},IntsAre vs ns->Vals (ns.map V.int) vs
 |_,_,.nil=>.nil
 |_,_,.cons n t h=>.cons ⟨t,rfl⟩ (sQ h)
def B1(H:Hp):Prop:=∀b,H b=none\/∃o xs,H b=some (.bE o (.lst xs))
theorem B6{P:Program}{w:World}{K:PySem.W.Frag}{mg mb:Str->Option Value}{CX:eE}{k:Nat}{fa a:Addr}{fd:FuncData}{x:Str}{sp:Sp}{s₁:Shared}{vs:List Value}{ns:List Int}
  (KX:K.In s₁.heap) (hns:s₁.heap.Ns mainGlobals mg) (hb:s₁.heap.Ns builtinsNs mb) (hbb:∀x:Str,x≠ "__name__" ->mb x=bootBuiltins x) (hlim:s₁.heap.NoLimit) (hg:s₁.gens=#[])
  (ha:s₁.heap.get? a=some {cls:=.type "list",data:=.seq vs.toArray}) (hi:IntsAre vs ns) (hl:ns.length<=sizeLine) (hr:bI k callerA)
  (F:∀base:Heap,K.In base->base.Ns mainGlobals mg->bU P w K mg base CX k fa fd [x] sp) (hbind:∀(s:Shared)(u:Value),BindsTo s fd ⟨[u],[]⟩ [(x,u)])
  (hsp:∀H:Hp,B1 H->bx K H a (ns.map V.int)->sp [.ref a] H (fun v _=>v=.bl true) fun _ _ _=>False)
  (hCX:∀H e s',CX [] H s₁ (fun _ _ _=>False) e s'->False):
  codeAny (model P w) callerA (.call (.ref fa) ⟨[.ref a],[]⟩) (fun r s'=>r=.ok (.ret (.bool true))/\OldK s₁.heap s'.heap/\s'.os=s₁.os/\AllBare s'.gens) s₁:=by
 have rv:=sQ hi;have lenV:=hi.length;have core:∀H:Hp,B1 H->bx K H a (ns.map V.int)->cq P w H s₁.heap->(∀b,H b≠none->b=a)->(H a≠none->K.lookup a=none)->
   codeAny (model P w) callerA (.call (.ref fa) ⟨[.ref a],[]⟩) (fun r s'=>r=.ok (.ret (.bool true))/\OldK s₁.heap s'.heap/\s'.os=s₁.os/\AllBare s'.gens) s₁:=by
  intro H hO hS ao hA hK;have base_of:∀{b:Addr}{o:Obj},s₁.heap.get? b=some o->H b=none->(kW s₁.heap H).get? b=some o:=fun e n=>CM e n;have noA:∀{b:Addr}{o:Obj}{es:Array DictEntry}{ep:Nat},s₁.heap.get? b=some o->o.data=.dict es ep->H b=none:=fun {b o es ep} e d=>by
   cases q:H b with
   |none=>rfl
   |some u=>
    have e':b=a:=hA b (by rw[q];simp);subst e';rw[ha] at e;cases e;have d':Data.seq vs.toArray _=Data.dict es ep:=d;cases d'
  have nsK:∀{b:Addr}{m:Str->Option Value},s₁.heap.Ns b m->(kW s₁.heap H).Ns b m:=fun {b m} ⟨o,es,ep,e,d,r⟩=>⟨o,es,ep,base_of e (noA e d),d,r⟩;have hKb:K.In (kW s₁.heap H):=fun b o e=>base_of (KX b o e) (by
   cases q:H b with
   |none=>rfl
   |some u=>
    have e':b=a:=hA b (by rw[q];simp);subst e';rw[hK (by rw[q];simp)] at e;cases e)
  have hM:Mod K mg (kW s₁.heap H):=⟨hKb,nsK hns,⟨mb,nsK hb,hbb⟩,let ⟨mc,h1,h2⟩:=hlim;⟨mc,nsK h1,h2⟩⟩;have e0:oM P w K mg (kW s₁.heap H) callerA [] s₁ H:=⟨rfl,hM,fun b o e=>EH e,Nat.le_of_eq (Ba _ _),trivial,fun b hb=>absurd (show b∈([]:List Addr) from hb) (by simp),ao,.of_eq hg⟩;refine codeAny_mono ((F _ hKb (nsK hns)).run callerA [] s₁ H ⟨[.ref a],[]⟩ [.ref a] [.ref a] _ _ hr e0 (hbind s₁ (.ref a)) (.cons rfl .nil) (hsp H hO hS)) fun r s' h=>?_;cases r with
  |error e=>exact (hCX H e s' h).elim
  |ok fl=>
   cases fl with
   |next=>exact False.elim h
   |brk=>exact False.elim h
   |cont=>exact False.elim h
   |ret u=>
    obtain⟨v,H',os,bare,un,hok',r',q⟩:=h;have q':v=.bl true:=q;subst q';obtain rfl:u=Value.bool true:=r';refine⟨rfl,OldK.of_keep fun b o e=>?_,os,bare⟩;cases q:H b with
    |none=>exact un.keep b o e q (by intro z;exact absurd (show b∈([]:List Addr) from z) (by simp)) (by simp)
    |some u=>
     rcases hO b with z|⟨ob,xs,z⟩
     .rw[q] at z;cases z
     .have z2:=un.eP b ob _ z;obtain⟨e1,_⟩:=ao b _ z;obtain⟨e2,_⟩:=hok' b _ z2;rw[e] at e1;cases e1;exact e2
 cases hk:K.lookup a with
 |some o=>
  have e:=KX a o hk;rw[ha] at e;cases e;refine core (fun _=>none) (fun _=>.inl rfl) (.inr ⟨_,vs.toArray,_,hk,rfl,rfl,rfl,by rw[List.size_toArray,lenV];exact hl,by simpa using rv⟩) (fun b u z=>by have z':(none:Option HO)=some u:=z;cases z') (fun b z=>absurd rfl z) fun z=>absurd rfl z
 |none=>
  refine core (fun b=>if b=a then some (.bE {cls:=.type "list",data:=.seq vs.toArray} (.lst (ns.map V.int))) else none) (fun b=>?_) (.inl (.inr ⟨{cls:=.type "list",data:=.seq vs.toArray},if_pos rfl⟩)) (fun b u z=>?_) (fun b z=>?_) fun _=>hk
  .by_cases hb:b=a
   .exact .inr ⟨_,_,if_pos hb⟩
   .exact .inl (if_neg hb)
  .by_cases hb:b=a
   .have z':=(if_pos hb).symm.trans z;cases z';subst hb;exact⟨ha,by rw[List.length_map];exact hl,vs,_,rv,ha⟩
   .have z':=(if_neg hb).symm.trans z;cases z'
  .by_cases hb:b=a
   .exact hb
   .exact absurd (if_neg hb) z
theorem FK{l:PySem.W.OpenLaw}{n k:Nat}{q:Program}{loose:List Str}{XP:(Str->Option Value)->Heap->Prop}{YP:World->Heap->Prop}{d:DefRec}{K:Params->PySem.W.Frag}{CX:World->eE}{sp:World->Sp}{x:Str}
  (hn:l.most=some n) (hn2:n<=sizeLine) (hdf:d.params.defaults=[]) (hr:bI k callerA)
  (hY:∀(w:World)(h:Heap),YP w h->(K w.params).In h)
  (F:∀(w:World)(mg:Str->Option Value)(fa:Addr)(h:Heap),(K w.params).In h->h.Ns mainGlobals mg->mg d.name=some (.ref fa)->
   ∃fd:FuncData,(∀(s:Shared)(u:Value),BindsTo s fd ⟨[u],[]⟩ [(x,u)])/\
    ∀base:Heap,(K w.params).In base->base.Ns mainGlobals mg->bU l.prog w (K w.params) mg base (CX w) k fa fd [x] (sp w))
  (hsp:∀(w:World)(H:Hp)(a:Addr)(ns:List Int),ns.length<=n->B1 H->bx (K w.params) H a (ns.map V.int)->sp w [.ref a] H (fun v _=>v=.bl true) fun _ _ _=>False)
  (hCX:∀(w:World)(H:Hp)(s:Shared)(e:Value)(s':Shared),CX w [] H s (fun _ _ _=>False) e s'->False):
  PySem.W.WalkO q loose XP YP l.row.toRowW d [] (fun f vs=>PySem.call f vs):=by
 refine Att.vS hn hdf fun w aI s₁ mg mb fa o pm cd doc a vs ns G Y ho hd hcd hmg hobj hints hlen hg=>?_;have KX:=hY w _ Y;obtain⟨fd,hb,hF⟩:=F w mg fa _ KX G.T.g hmg;exact B6 KX G.T.g G.T.b G.T.builtins G.T.nolimit hg hobj hints (Nat.le_trans hlen hn2) hr hF hb (fun H hO hS=>hsp w H a ns hlen hO hS) fun H e s'=>hCX w H s₁ e s'
noncomputable def cD(s:Stmt):Arguments:=match s with
 |.FunctionDef _ a _ _ _ _ _ _ _ _=>a
 |_=>{posonlyargs:=[],args:=[],vararg:=none,kwonlyargs:=[],kw_defaults:=[],kwarg:=none,defaults:=[]}
noncomputable def bR(s:Stmt):List Stmt:=match s with
 |.FunctionDef _ _ b _ _ _ _ _ _ _=>b
 |_=>[]
noncomputable def aj(s:Stmt):Scope:=match s with
 |.FunctionDef _ _ _ _ _ _ sc _ _ _=>sc
 |_=>{kind:=.function,names:=[],isGenerator:=false,isCoroutine:=false}
noncomputable abbrev E0:XK:=fun _ _ _=>False
structure qj(K:PySem.W.Frag)(x qual:Str)(st:Stmt)(f:Addr)(fd:FuncData):Prop where
 ex:∃(oc:Value) (od:Option Addr) (kV doc pm:Value) (an:Option Addr) (cdv ct:Value) (osl:Array (Option Value)),
  fd=PySem.W.fnOf x qual (cD st) (bR st) (aj st) .none kV doc pm an cdv ct/\K.lookup f=some ⟨oc,od,.func fd,osl⟩/\PySem.W.codeIn K cdv qual=true
 kp:PySem.W.keepIn K (.ref f)=true
section
variable {P:Program}{w:World}{K:PySem.W.Frag}{mg:Str->Option Value}{base:Heap}
theorem mq{x qual:Str}{st:Stmt}{f:Addr}{oc:Value}{od an:Option Addr}{osl:Array (Option Value)}{kV doc pm cdv ct:Value}(l:K.lookup f=some ⟨oc,od,.func (PySem.W.fnOf x qual (cD st) (bR st) (aj st) .none kV doc pm an cdv ct),osl⟩)
  (c:PySem.W.codeIn K cdv qual=true) (k:PySem.W.keepIn K (.ref f)=true):qj K x qual st f (PySem.W.fnOf x qual (cD st) (bR st) (aj st) .none kV doc pm an cdv ct):=⟨⟨oc,od,kV,doc,pm,an,cdv,ct,osl,rfl,l,c⟩,k⟩
end
section
variable {X:Cx}
theorem AE:c6 X (.builtin "len") (fun xs H Q=>∃a kvs,xs=[V.ref a]/\H a=some (.dK kvs)/\Q (.int kvs.length) H):=by intro pins s σ H xs us Q I r h;obtain⟨a,kvs,rfl,ha,q⟩:=h;obtain⟨u,rfl,ru⟩:=vals1 r;cases ru;exact K8 I (.inl ha) fun t s' I'=>⟨.int kvs.length,H,I',⟨t,rfl⟩,q⟩
end
def xO(H H':Hp):Prop:=∀b o,H b=some o->H' b=some o
theorem xO.trans{H H1 H2:Hp}(a:xO H H1)(b:xO H1 H2):xO H H2:=fun c o h=>b c o (a c o h)
section
variable {κ:Type} [DecidableEq κ]
end
end L2
namespace Tw
noncomputable abbrev S:=List Nat
inductive W where
 |ah|bl (b:Bool)|int (i:Int)|str (x:S)|tup (xs:List W)|ref (a:Nat)
 |lst (xs:List W)
inductive O where
 |lst (xs:List W)
 |bE (xs:List W)
 |ag (kvs:List (W×W))
 |ins (c:S) (fs:List (S×W))
 |aD (c:S) (fs:List (S×W))
noncomputable abbrev Hp:=List O
inductive R(α:Type) where
 |ok (a:α) (h:Hp)
 |aD (a:Nat) (h:Hp)
 |bad
namespace R
noncomputable def bind{α β:Type}(m:R α)(k:α->Hp->R β):R β:=match m with
 |.ok a h=>k a h
 |.aD a h=>.aD a h
 |.bad=>.bad
@[simp] theorem ak{α β:Type}(a:α)(h:Hp)(k:α->Hp->R β):(R.ok a h).bind k=k a h:=rfl
@[simp] theorem Pl{α β:Type}(a:Nat)(h:Hp)(k:α->Hp->R β):(R.aD a h).bind k=.aD a h:=rfl
@[simp] theorem Oe{α β:Type}(k:α->Hp->R β):(R.bad:R α).bind k=.bad:=rfl
noncomputable def of{α:Type}(o:Option α)(h:Hp):R α:=match o with
 |some a=>.ok a h
 |none=>.bad
@[simp] theorem cg{α:Type}(a:α)(h:Hp):R.of (some a) h=.ok a h:=rfl
@[simp] theorem of_none{α:Type}(h:Hp):R.of (none:Option α) h=.bad:=rfl
end R
noncomputable def SZ:Nat:=2 ^ 24
mutual
noncomputable def bp:W->W->Bool
 |.ah,.ah=>true
 |.bl a,.bl b=>decide (a=b)
 |.int a,.int b=>decide (a=b)
 |.bl a,.int b=>decide ((if a then 1 else 0)=b)
 |.int a,.bl b=>decide (a=(if b then 1 else 0))
 |.str a,.str b=>decide (a=b)
 |.tup xs,.tup ys=>m9 xs ys
 |.lst xs,.lst ys=>m9 xs ys
 |_,_=>false
@[simp] noncomputable def m9:List W->List W->Bool
 |[],[]=>true
 |x::xs,y::ys=>bp x y&&m9 xs ys
 |_,_=>false
end
@[simp] theorem KQ:bp .ah .ah=true:=by rw[bp.eq_def]
@[simp] theorem Lv(b2:Bool):bp .ah (.bl b2)=false:=by rw[bp.eq_def]
@[simp] theorem KZ(i2:Int):bp .ah (.int i2)=false:=by rw[bp.eq_def]
@[simp] theorem KO(x2:S):bp .ah (.str x2)=false:=by rw[bp.eq_def]
@[simp] theorem LU(b1:Bool):bp (.bl b1) .ah=false:=by rw[bp.eq_def]
@[simp] theorem Nb(b1:Bool)(b2:Bool):bp (.bl b1) (.bl b2)=decide (b1=b2):=by rw[bp.eq_def]
@[simp] theorem Lh(b1:Bool)(i2:Int):bp (.bl b1) (.int i2)=decide ((if b1 then 1 else 0)=i2):=by rw[bp.eq_def]
@[simp] theorem Mh(b1:Bool)(x2:S):bp (.bl b1) (.str x2)=false:=by rw[bp.eq_def]
@[simp] theorem KS(i1:Int):bp (.int i1) .ah=false:=by rw[bp.eq_def]
@[simp] theorem Lc(i1:Int)(b2:Bool):bp (.int i1) (.bl b2)=decide (i1=(if b2 then 1 else 0)):=by rw[bp.eq_def]
@[simp] theorem vM(i1:Int)(i2:Int):bp (.int i1) (.int i2)=decide (i1=i2):=by rw[bp.eq_def]
@[simp] theorem KY(i1:Int)(x2:S):bp (.int i1) (.str x2)=false:=by rw[bp.eq_def]
@[simp] theorem KR(x1:S):bp (.str x1) .ah=false:=by rw[bp.eq_def]
@[simp] theorem Md(x1:S)(b2:Bool):bp (.str x1) (.bl b2)=false:=by rw[bp.eq_def]
@[simp] theorem KU(x1:S)(i2:Int):bp (.str x1) (.int i2)=false:=by rw[bp.eq_def]
@[simp] theorem j2(x1:S)(x2:S):bp (.str x1) (.str x2)=decide (x1=x2):=by rw[bp.eq_def]
@[simp] theorem vH(t1:List W)(t2:List W):bp (.tup t1) (.tup t2)=m9 t1 t2:=by rw[bp.eq_def]
@[simp] theorem vP(l1:List W)(l2:List W):bp (.lst l1) (.lst l2)=m9 l1 l2:=by rw[bp.eq_def]
mutual
noncomputable def W.deep:W->Nat
 |.tup xs=>dS xs+1
 |.lst xs=>dS xs+1
 |_=>0
noncomputable def dS:List W->Nat
 |[]=>0
 |x::xs=>max x.deep (dS xs)
end
mutual
@[simp] noncomputable def rd(h:Hp):Nat->W->Option W
 |_,.ah=>some .ah
 |_,.bl b=>some (.bl b)
 |_,.int i=>some (.int i)
 |_,.str x=>some (.str x)
 |0,_=>none
 |n+1,.tup xs=>(iW h n xs).map .tup
 |n+1,.ref a=>match h[a]? with
  |some (.lst xs)=>(iW h n xs).map .lst
  |some (.bE xs)=>(iW h n xs).map .lst
  |_=>none
 |_+1,.lst _=>none
@[simp] noncomputable def iW(h:Hp):Nat->List W->Option (List W)
 |_,[]=>some []
 |n,x::xs=>match rd h n x,iW h n xs with
  |some d,some ds=>some (d::ds)
  |_,_=>none
end
@[simp] noncomputable def isKey:W->Bool
 |.int _=>true
 |.str _=>true
 |_=>false
@[simp] noncomputable def nz:W->W->Bool
 |.int a,.int b=>a== b
 |.str a,.str b=>a== b
 |_,_=>false
@[simp] def bH(k:W):List (W×W)->Option W
 |[]=>none
 |(j,v)::r=>if nz j k then some v else bH k r
@[simp] def dput(k v:W):List (W×W)->List (W×W)
 |[]=>[(k,v)]
 |(j,u)::r=>if nz j k then (j,v)::r else (j,u)::dput k v r
noncomputable def bP(h:Hp):W->Option (List (W×W))
 |.ref a=>match h[a]? with
  |some (.ag kvs)=>some kvs
  |_=>none
 |_=>none
noncomputable def cm(h:Hp)(x y:W):Option Bool:=match bP h x,bP h y with
 |some _,some _=>none
 |none,none=>match rd h 60 x,rd h 60 y with
  |some a,some b=>some (bp a b)
  |_,_=>none
 |_,_=>none
@[simp] theorem Qe(h:Hp)(a b:Int):cm h (.int a) (.int b)=some (decide (a=b)):=by simp[cm,bP,rd,bp]
@[simp] theorem Qb(h:Hp)(a b:S):cm h (.str a) (.str b)=some (decide (a=b)):=by simp[cm,bP,rd,bp]
inductive Op|add|sub|mul|fdiv|mod|pow
 deriving DecidableEq
inductive Cp|eq|ne|lt|le|gt|ge|isin|notin|isN|notN
 deriving DecidableEq
inductive Ty|list|tuple|dict|int|str|bool
 deriving DecidableEq
inductive B|len|list|tuple|dict|int|listE|listR|dictP|listS
 deriving DecidableEq
inductive Mt|append|get|join|index|pop|rev
 deriving DecidableEq
set_option genInjectivity false
set_option genSizeOfSpec false
mutual
inductive E where
 |var (i:Nat)
 |cst (w:W)
 |tup (es:Es)
 |lst (es:Es)
 |ag (es:Es)
 |bin (op:Op) (a b:E)
 |cmp (op:Cp) (a b:E)
 |and (a b:E)
 |or (a b:E)
 |not (a:E)
 |ite (c a b:E)
 |idx (a b:E)
 |sl (a:E) (lo hi:Eo)
 |call (f:Nat) (es:Es)
 |blt (b:B) (a:E)
 |c7 (m:Mt) (o:E) (es:Es)
 |Bx (a:E) (t:Ty)
 |comp (elt:E) (it:It) (c:Eo)
 |fY (elt:E) (it:It)
 |bad
 |fld (a:E) (x:S)
 |mk (c:S) (f:Nat) (es:Es)
 |own (o:E) (c m:S) (f:Nat) (es:Es)
 |oF (g:List (S×Nat)) (k:E) (es:Es)
 |wL (k:E) (g:List S)
inductive Es where
 |nil
 |cons (e:E) (es:Es)
inductive Eo where
 |none
 |some (e:E)
inductive It where
 |seq (e:E)
 |fN (e:E)
 |yr (a b:E)
 |zip (a b:E)
 |enum (e:E)
 |rev (e:E)
end
inductive Tg where
 |var (i:Nat)
 |two (i j:Nat)
inductive St where
 |expr (e:E)
 |ret (e:E)
 |uw
 |set (i:Nat) (e:E)
 |put (o k e:E)
 |iff (c:E) (a b:List St)
 |for (t:Tg) (it:It) (b:List St)
 |pass
 |brk
 |cont
 |bad
 |eS (i j:Nat) (e:E)
 |eQ (o:E) (x:S) (e:E)
 |aug (i:Nat) (op:Op) (e:E)
 |vZ (c:E) (b:List St)
 |raise (c:S) (xs:List S) (es:Es)
 |qF (o:E) (c m:S) (f:Nat) (es:Es) (x:S) (j:Nat) (fs:List S) (md:Option Nat)
set_option genInjectivity true
set_option genSizeOfSpec true
noncomputable abbrev Env:=List (Option W)
@[simp] noncomputable def truth(h:Hp):W->Option Bool
 |.ah=>some false
 |.bl b=>some b
 |.int i=>some (i != 0)
 |.str x=>if x.length<=SZ then some (!x.isEmpty) else none
 |.tup xs=>some (!xs.isEmpty)
 |.lst _=>none
 |.ref a=>match h[a]? with
  |some (.lst xs)=>some (!xs.isEmpty)
  |some (.bE xs)=>some (!xs.isEmpty)
  |some (.ag kvs)=>some (!kvs.isEmpty)
  |_=>none
@[simp] noncomputable def items(h:Hp):W->Option (List W)
 |.ref a=>match h[a]? with
  |some (.lst xs)=>some xs
  |some (.bE xs)=>some xs
  |_=>none
 |_=>none
@[simp] noncomputable def t6(h:Hp):W->Option (List W)
 |.tup xs=>some xs
 |w=>items h w
@[simp] noncomputable def new(o:O)(h:Hp):R W:=.ok (.ref h.length) (h++[o])
noncomputable def dq(xs:List W)(h:Hp):R W:=if xs.length<=SZ then new (.lst xs) h else .bad
noncomputable def small(i:Int):Bool:=decide (-(2 ^ 64)<i)&&decide (i<2 ^ 64)
@[simp] def binI(op:Op)(i j:Int):Option Int:=match op with
 |.add=>some (i+j)
 |.sub=>some (i-j)
 |.mul=>if small i || small j then some (i * j) else none
 |.fdiv=>if 0<j/\j<1073741824 then some (i / j) else none
 |.mod=>if 0<j then some (i % j) else none
 |.pow=>if 0<=j/\j<=1000000/\i.natAbs<2 ^ 64 then some (i ^ j.toNat) else none
@[simp] def bin(op:Op)(x y:W)(h:Hp):R W:=match x,y with
 |.int i,.int j=>R.of ((binI op i j).map .int) h
 |.str a,.str b=>if op=.add/\a.length+b.length<=SZ then .ok (.str (a++b)) h else .bad
 |.tup a,.tup b=>if op=.add/\a.length+b.length<=SZ then .ok (.tup (a++b)) h else .bad
 |.ref a,.ref b=>match h[a]?,h[b]? with
  |some (.lst xs),some (.lst ys)=>if op=.add/\xs.length+ys.length<=SZ then new (.lst (xs++ys)) h else .bad
  |_,_=>.bad
 |_,_=>.bad
@[simp] noncomputable def flat:W->Bool
 |.ah=>true
 |.bl _=>true
 |.int _=>true
 |.str _=>true
 |_=>false
def isIn(x y:W)(h:Hp):Option Bool:=match bP h y with
 |some kvs=>if isKey x then some (bH x kvs).isSome else none
 |none=>match t6 h y with
  |some xs=>if flat x&&xs.all flat then some (xs.any fun z=>bp z x) else none
  |none=>none
@[simp] def cmp(op:Cp)(x y:W)(h:Hp):Option Bool:=match op with
 |.eq=>cm h x y
 |.ne=>(cm h x y).map (!·)
 |.lt=>match x,y with | .int i,.int j=>some (decide (i<j))|_,_=>none
 |.le=>match x,y with | .int i,.int j=>some (decide (i<=j))|_,_=>none
 |.gt=>match x,y with | .int i,.int j=>some (decide (j<i))|_,_=>none
 |.ge=>match x,y with | .int i,.int j=>some (decide (j<=i))|_,_=>none
 |.isin=>isIn x y h
 |.notin=>(isIn x y h).map (!·)
 |.isN=>match y with | .ah=>some (match x with | .ah=>true|_=>false)|_=>none
 |.notN=>match y with | .ah=>some (match x with | .ah=>false|_=>true)|_=>none
noncomputable def gu(n:Nat)(i:Int):Option Nat:=if 0<=i then (if i<n then some i.toNat else none) else if -(n:Int)<=i then some (i+n).toNat else none
noncomputable def bG{α:Type}(xs:List α)(i:Int):Option α:=(gu xs.length i).bind fun j=>xs[j]?
@[simp] def idx(x y:W)(h:Hp):R W:=match x,y with
 |.tup xs,.int i=>R.of (bG xs i) h
 |.str z,.int i=>if z.length<=SZ then R.of ((bG z i).map fun c=>.str [c]) h else .bad
 |.ref a,y=>match h[a]?,y with
  |some (.lst xs),.int i=>R.of (bG xs i) h
  |some (.bE xs),.int i=>R.of (bG xs i) h
  |some (.ag kvs),k=>if isKey k then R.of (bH k kvs) h else .bad
  |_,_=>.bad
 |_,_=>.bad
noncomputable def aO(n d:Nat):Option Int->Nat
 |none=>d
 |some v=>if v<0 then (v+n).toNat else min v.toNat n
noncomputable def cut{α:Type}(xs:List α)(lo hi:Option Int):List α:=(xs.drop (aO xs.length 0 lo)).take (aO xs.length xs.length hi-aO xs.length 0 lo)
@[simp] noncomputable def gX:Option W->Option (Option Int)
 |none=>some none
 |some (.int i)=>some (some i)
 |_=>none
@[simp] noncomputable def slice(x:W)(lo hi:Option W)(h:Hp):R W:=match gX lo,gX hi with
 |some l,some u=>match x with
  |.tup xs=>if aO xs.length 0 l=0/\aO xs.length xs.length u=xs.length then .bad else .ok (.tup (cut xs l u)) h
  |.str z=>if z.length<=SZ then .ok (.str (cut z l u)) h else .bad
  |.ref a=>match h[a]? with
   |some (.lst xs)=>new (.lst (cut xs l u)) h
   |some (.bE xs)=>new (.lst (cut xs l u)) h
   |_=>.bad
  |_=>.bad
 |_,_=>.bad
@[simp] noncomputable def fK(i:Int):List W->List W
 |[]=>[]
 |x::r=>.tup [.int i,x]::fK (i+1) r
def eh(x:W):List W->Option Nat
 |[]=>none
 |y::r=>if nz y x then some 0 else (eh x r).map (·+ 1)
@[simp] def vo(acc:List (W×W)):List W->Option (List (W×W))
 |[]=>some acc
 |.tup [k,v]::r=>if isKey k then vo (dput k v acc) r else none
 |_::_=>none
@[simp] def builtin(b:B)(x:W)(h:Hp):R W:=match b with
 |.len=>match x with
  |.str z=>if z.length<=SZ then .ok (.int z.length) h else .bad
  |.tup xs=>.ok (.int xs.length) h
  |.ref a=>match h[a]? with
   |some (.lst xs)=>.ok (.int xs.length) h
   |some (.bE xs)=>.ok (.int xs.length) h
   |some (.ag kvs)=>.ok (.int kvs.length) h
   |_=>.bad
  |_=>.bad
 |.list=>match x with
  |.tup xs=>new (.lst xs) h
  |.ref a=>match h[a]? with
   |some (.lst xs)=>new (.lst xs) h
   |some (.bE xs)=>new (.lst xs) h
   |some (.ag kvs)=>new (.lst (kvs.map (·.1))) h
   |_=>.bad
  |_=>.bad
 |.tuple=>match x with
  |.tup xs=>.ok (.tup xs) h
  |.ref a=>match h[a]? with
   |some (.lst xs)=>.ok (.tup xs) h
   |some (.bE xs)=>.ok (.tup xs) h
   |_=>.bad
  |_=>.bad
 |.dict=>match x with
  |.ref a=>match h[a]? with
   |some (.ag kvs)=>new (.ag kvs) h
   |_=>.bad
  |_=>.bad
 |.int=>match x with
  |.int i=>.ok (.int i) h
  |.bl b=>.ok (.int (if b then 1 else 0)) h
  |_=>.bad
 |.listE=>match x with
  |.tup xs=>new (.lst (fK 0 xs)) h
  |_=>.bad
 |.listR=>match x with
  |.ref a=>match h[a]? with
   |some (.lst xs)=>new (.lst xs.reverse) h
   |_=>.bad
  |_=>.bad
 |.dictP=>match x with
  |.ref a=>match h[a]? with
   |some (.lst xs)=>if xs.length<=1000 then (match vo [] xs with
    |some kvs=>new (.ag kvs) h
    |none=>.bad) else .bad
   |_=>.bad
  |_=>.bad
 |.listS=>match x with
  |.str z=>if z.length<=1000/\z.all (fun c=>decide (c<128))=true then new (.lst (z.map fun c=>.str [c])) h else .bad
  |_=>.bad
@[simp] noncomputable def texts:List W->Option (List S)
 |[]=>some []
 |.str x::r=>(texts r).map (x:: ·)
 |_::_=>none
@[simp] noncomputable def fu(sep:S):List S->S
 |[]=>[]
 |[x]=>x
 |x::r=>x++sep++fu sep r
@[simp] noncomputable def method(m:Mt)(o:W)(xs:List W)(h:Hp):R W:=match m,o,xs with
 |.append,.ref a,[x]=>match h[a]? with
  |some (.lst ys)=>if ys.length<SZ then .ok .ah (h.set a (.lst (ys++[x]))) else .bad
  |_=>.bad
 |.index,.ref a,[x]=>match h[a]? with
  |some (.lst ys)=>if isKey x&&ys.all isKey then R.of ((eh x ys).map fun n=>.int (n:Int)) h else .bad
  |_=>.bad
 |.pop,.ref a,[]=>match h[a]? with
  |some (.lst ys)=>match ys.getLast? with
   |some y=>.ok y (h.set a (.lst ys.dropLast))
   |none=>.bad
  |_=>.bad
 |.rev,.ref a,[]=>match h[a]? with
  |some (.lst ys)=>.ok .ah (h.set a (.lst ys.reverse))
  |_=>.bad
 |.get,.ref a,[k]=>match h[a]? with
  |some (.ag kvs)=>if isKey k then .ok ((bH k kvs).getD .ah) h else .bad
  |_=>.bad
 |.get,.ref a,[k,d]=>match h[a]? with
  |some (.ag kvs)=>if isKey k then .ok ((bH k kvs).getD d) h else .bad
  |_=>.bad
 |.join,.str sep,[x]=>match items h x with
  |some ys=>match texts ys with
   |some ts=>if (ts.map (·.length)).sum+ts.length * sep.length<=SZ then .ok (.str (fu sep ts)) h else .bad
   |none=>.bad
  |none=>.bad
 |_,_,_=>.bad
@[simp] noncomputable def j8(m:Mt)(x:W)(h:Hp):Bool:=match m,x with
 |.append,.ref a=>match h[a]? with
  |some (.lst _)=>true
  |_=>false
 |.index,.ref a=>match h[a]? with
  |some (.lst _)=>true
  |_=>false
 |.pop,.ref a=>match h[a]? with
  |some (.lst _)=>true
  |_=>false
 |.rev,.ref a=>match h[a]? with
  |some (.lst _)=>true
  |_=>false
 |.get,.ref a=>match h[a]? with
  |some (.ag _)=>true
  |_=>false
 |.join,.str _=>true
 |_,_=>false
@[simp] noncomputable def Bx(x:W)(t:Ty)(h:Hp):Option Bool:=match x,t with
 |.bl _,.bool=>some true
 |.int _,.int=>some true
 |.str _,.str=>some true
 |.tup _,.tuple=>some true
 |.ref a,t=>match h[a]?,t with
  |some (.lst _),.list=>some true
  |some (.ag _),.dict=>some true
  |_,_=>none
 |_,_=>none
@[simp] def iQ(o k v:W)(h:Hp):R Unit:=match o with
 |.ref a=>match h[a]?,k with
  |some (.lst xs),.int i=>match gu xs.length i with
   |some j=>.ok () (h.set a (.lst (xs.set j v)))
   |none=>.bad
  |some (.ag kvs),k=>if isKey k/\kvs.length<SZ then .ok () (h.set a (.ag (dput k v kvs))) else .bad
  |_,_=>.bad
 |_=>.bad
@[simp] noncomputable def nJ:List W->List (W×W)->Option (List (W×W))
 |[],acc=>some acc
 |k::v::r,acc=>if isKey k then nJ r (dput k v acc) else none
 |[_],_=>none
noncomputable def upTo(lo:Int):Nat->List W
 |0=>[]
 |n+1=>.int lo::upTo (lo+1) n
@[simp] noncomputable def BO:List W->List W->List W
 |x::xs,y::ys=>.tup [x,y]::BO xs ys
 |_,_=>[]
noncomputable abbrev Or:=Nat->List W->Hp->R W
inductive Fl where
 |next (σ:Env)|ret (w:W)|brk (σ:Env)|cont (σ:Env)
inductive Src where
 |fix (xs:List W)
 |at (a:Nat) (n:Nat)
 |rv (a:Nat) (n:Nat)
 |ea (a:Nat) (n:Nat)
noncomputable def R.dN{α:Type}(m:R α):R α:=match m with
 |.aD _ _=>.bad
 |m=>m
@[simp] theorem R.kn{α:Type}(a:α)(h:Hp):(R.ok a h).dN=.ok a h:=rfl
@[simp] theorem R.Qa{α:Type}:(R.bad:R α).dN=.bad:=rfl
@[simp] theorem R.Qd{α:Type}(a:Nat)(h:Hp):(R.aD a h:R α).dN=.bad:=rfl
noncomputable def aZ(h:Hp)(a:Nat):Option (List W):=match h[a]? with
 |some (.lst xs)=>some xs
 |some (.bE xs)=>some xs
 |_=>none
@[simp] noncomputable def gf(k:W->List W->Hp->R (List W)):List W->List W->Hp->R (List W)
 |[],acc,h=>.ok acc h
 |x::xs,acc,h=>(k x acc h).bind fun acc h=>gf k xs acc h
noncomputable def cz(a:Nat)(k:W->List W->Hp->R (List W)):Nat->Nat->List W->Hp->R (List W)
 |n,i,acc,h=>match aZ h a with
  |none=>.bad
  |some ys=>match ys[i]? with
   |none=>.ok acc h
   |some x=>match n with
    |0=>.bad
    |n+1=>(k x acc h).bind fun acc h=>cz a k n (i+1) acc h
noncomputable def cy(a:Nat)(k:W->List W->Hp->R (List W)):Nat->Nat->List W->Hp->R (List W)
 |n,i,acc,h=>match aZ h a with
  |none=>.bad
  |some ys=>match ys[i]? with
   |none=>.ok acc h
   |some x=>match n with
    |0=>.bad
    |n+1=>(k (.tup [.int i,x]) acc h).bind fun acc h=>cy a k n (i+1) acc h
@[simp] noncomputable def walk(s:Src)(k:W->List W->Hp->R (List W))(h:Hp):R (List W):=match s with
 |.fix xs=>gf k xs [] h
 |.at a n=>cz a k n 0 [] h
 |.rv _ _=>.bad
 |.ea a n=>cy a k n 0 [] h
noncomputable def fA(j:Int):Bool:=decide (-(2 ^ 62)<=j)&&decide (j<2 ^ 62)
@[simp] noncomputable def src(h:Hp):W->Option Src
 |.tup xs=>some (.fix xs)
 |.ref a=>match h[a]? with
  |some (.lst xs)=>some (.at a xs.length)
  |some (.bE xs)=>some (.at a xs.length)
  |_=>none
 |_=>none
@[simp] noncomputable def qu(h:Hp):Option W->Option Bool
 |none=>some true
 |some t=>truth h t
noncomputable def iB(c:Env->Hp->R (Option W))(elt:Env->Hp->R W)(σ:Env)(x:W)(acc:List W)(h:Hp):R (List W):=
 (c (σ++[some x]) h).dN.bind fun t h=>match qu h t with
  |none=>.bad
  |some true=>(elt (σ++[some x]) h).dN.bind fun y h=>.ok (acc++[y]) h
  |some false=>.ok acc h
noncomputable def fT(elt:Env->Hp->R W)(σ:Env)(x:W)(acc:List W)(h:Hp):R (List W):=match x with
 |.tup [u,v]=>(elt (σ++[some u,some v]) h).dN.bind fun y h=>.ok (acc++[y]) h
 |_=>.bad
@[simp] noncomputable def field(w:W)(x:S)(h:Hp):Option W:=match w with
 |.ref a=>match h[a]? with
  |some (.ins _ fs)=>fs.lookup x
  |_=>none
 |_=>none
noncomputable def eW(x:S)(v:W):List (S×W)->List (S×W)
 |[]=>[(x,v)]
 |(y,u)::r=>if y=x then (y,v)::r else (y,u)::eW x v r
@[simp] noncomputable def putField(w:W)(x:S)(v:W)(h:Hp):R Unit:=match w with
 |.ref a=>match h[a]? with
  |some (.ins c fs)=>if fs.length<1000 then .ok () (h.set a (.ins c (eW x v fs))) else .bad
  |_=>.bad
 |_=>.bad
@[simp] noncomputable def dH(w:W)(c m:S)(h:Hp):Bool:=match w with
 |.ref a=>match h[a]? with
  |some (.ins c' fs)=>decide (c'=c)&&(fs.lookup m).isNone
  |_=>false
 |_=>false
@[simp] noncomputable def pick(g:List (S×Nat)):W->Option Nat
 |.str s=>g.lookup s
 |_=>none
mutual
noncomputable def ae(C:Or):E->Env->Hp->R W
 |.var i,σ,h=>match σ[i]? with
  |some (some w)=>.ok w h
  |_=>.bad
 |.cst w,_,h=>.ok w h
 |.tup es,σ,h=>(bc C es σ h).bind fun xs h=>.ok (.tup xs) h
 |.lst es,σ,h=>(bc C es σ h).bind fun xs h=>new (.lst xs) h
 |.ag es,σ,h=>(bc C es σ h).bind fun xs h=>match nJ xs [] with
  |some kvs=>new (.ag kvs) h
  |none=>.bad
 |.bin op a b,σ,h=>(ae C a σ h).bind fun x h=>(ae C b σ h).bind fun y h=>bin op x y h
 |.cmp op a b,σ,h=>(ae C a σ h).bind fun x h=>(ae C b σ h).bind fun y h=>R.of ((cmp op x y h).map .bl) h
 |.and a b,σ,h=>(ae C a σ h).bind fun x h=>match x with
  |.bl true=>ae C b σ h
  |.bl false=>.ok (.bl false) h
  |_=>.bad
 |.or a b,σ,h=>(ae C a σ h).bind fun x h=>match x with
  |.bl false=>ae C b σ h
  |.bl true=>.ok (.bl true) h
  |_=>.bad
 |.not a,σ,h=>(ae C a σ h).bind fun x h=>R.of ((truth h x).map fun b=>.bl (!b)) h
 |.ite c a b,σ,h=>(ae C c σ h).bind fun x h=>match truth h x with
  |some true=>ae C a σ h
  |some false=>ae C b σ h
  |none=>.bad
 |.idx a b,σ,h=>(ae C a σ h).bind fun x h=>(ae C b σ h).bind fun y h=>idx x y h
 |.sl a lo hi,σ,h=>(ae C a σ h).bind fun x h=>(dD C lo σ h).bind fun l h=>(dD C hi σ h).dN.bind fun u h=>slice x l u h
 |.call f es,σ,h=>(bc C es σ h).bind fun xs h=>C f xs h
 |.blt b a,σ,h=>(ae C a σ h).bind fun x h=>builtin b x h
 |.c7 m o es,σ,h=>(ae C o σ h).bind fun x h=>if j8 m x h then (bc C es σ h).bind fun xs h=>method m x xs h else .bad
 |.Bx a t,σ,h=>(ae C a σ h).bind fun x h=>R.of ((Bx x t h).map .bl) h
 |.comp elt it c,σ,h=>(bM C it σ h).bind fun s h=>(walk s (iB (fun σ h=>dD C c σ h) (fun σ h=>ae C elt σ h) σ) h).bind dq
 |.fY elt it,σ,h=>(bM C it σ h).bind fun s h=>(walk s (fT (fun σ h=>ae C elt σ h) σ) h).bind dq
 |.bad,_,_=>.bad
 |.fld a x,σ,h=>(ae C a σ h).bind fun w h=>R.of (field w x h) h
 |.mk c f es,σ,h=>(bc C es σ h).bind fun xs h=>(C f (.ref h.length::xs) (h++[.ins c []])).bind fun r h'=>match r with
  |.ah=>.ok (.ref h.length) h'
  |_=>.bad
 |.own o c m f es,σ,h=>(ae C o σ h).bind fun x h=>if dH x c m h then (bc C es σ h).bind fun xs h=>C f (x::xs) h else .bad
 |.oF g k es,σ,h=>(ae C k σ h).bind fun x h=>match pick g x with
  |some f=>(bc C es σ h).bind fun xs h=>C f xs h
  |none=>.bad
 |.wL k g,σ,h=>(ae C k σ h).bind fun x h=>match x with
  |.str s=>.ok (.bl (g.contains s)) h
  |_=>.bad
noncomputable def bc(C:Or):Es->Env->Hp->R (List W)
 |.nil,_,h=>.ok [] h
 |.cons e es,σ,h=>(ae C e σ h).bind fun x h=>(bc C es σ h).bind fun xs h=>.ok (x::xs) h
noncomputable def dD(C:Or):Eo->Env->Hp->R (Option W)
 |.none,_,h=>.ok none h
 |.some e,σ,h=>(ae C e σ h).bind fun x h=>.ok (some x) h
noncomputable def bM(C:Or):It->Env->Hp->R Src
 |.seq e,σ,h=>(ae C e σ h).bind fun x h=>R.of (src h x) h
 |.fN e,σ,h=>(ae C e σ h).bind fun x h=>match x with
  |.int j=>if fA j then .ok (.fix (upTo 0 j.toNat)) h else .bad
  |_=>.bad
 |.yr a b,σ,h=>(ae C a σ h).bind fun x h=>(ae C b σ h).bind fun y h=>match x,y with
  |.int i,.int j=>if fA i&&fA j then .ok (.fix (upTo i (j-i).toNat)) h else .bad
  |_,_=>.bad
 |.zip a b,σ,h=>(ae C a σ h).bind fun x h=>(ae C b σ h).bind fun y h=>match x,y with
  |.tup xs,.tup ys=>.ok (.fix (BO xs ys)) h
  |_,_=>.bad
 |.enum e,σ,h=>(ae C e σ h).bind fun x h=>match x with
  |.tup xs=>.ok (.fix (fK 0 xs)) h
  |.ref a=>match h[a]? with
   |some (.lst xs)=>.ok (.ea a xs.length) h
   |_=>.bad
  |_=>.bad
 |.rev e,σ,h=>(ae C e σ h).bind fun x h=>match x with
  |.ref a=>match h[a]? with
   |some (.lst xs)=>.ok (.rv a xs.length) h
   |_=>.bad
  |_=>.bad
end
@[simp] theorem bq(C:Or)(i:Nat)(σ:Env)(h:Hp):ae C (.var i) σ h=(match σ[i]? with
  |some (some w)=>.ok w h
  |_=>.bad):=by rw[ae.eq_def]
@[simp] theorem eI(C:Or)(w:W)(σ:Env)(h:Hp):ae C (.cst w) σ h=(.ok w h):=by rw[ae.eq_def]
@[simp] theorem kz(C:Or)(es:Es)(σ:Env)(h:Hp):ae C (.tup es) σ h=((bc C es σ h).bind fun xs h=>.ok (.tup xs) h):=by rw[ae.eq_def]
@[simp] theorem wH(C:Or)(es:Es)(σ:Env)(h:Hp):ae C (.lst es) σ h=((bc C es σ h).bind fun xs h=>new (.lst xs) h):=by rw[ae.eq_def]
@[simp] theorem Fz(C:Or)(es:Es)(σ:Env)(h:Hp):ae C (.ag es) σ h=((bc C es σ h).bind fun xs h=>match nJ xs [] with
  |some kvs=>new (.ag kvs) h
  |none=>.bad):=by rw[ae.eq_def]
@[simp] theorem rm(C:Or)(op:Op)(a:E)(b:E)(σ:Env)(h:Hp):ae C (.bin op a b) σ h=((ae C a σ h).bind fun x h=>(ae C b σ h).bind fun y h=>bin op x y h):=by rw[ae.eq_def]
@[simp] theorem Gp(C:Or)(op:Cp)(a:E)(b:E)(σ:Env)(h:Hp):ae C (.cmp op a b) σ h=((ae C a σ h).bind fun x h=>(ae C b σ h).bind fun y h=>R.of ((cmp op x y h).map .bl) h):=by rw[ae.eq_def]
@[simp] theorem E4(C:Or)(a:E)(b:E)(σ:Env)(h:Hp):ae C (.and a b) σ h=((ae C a σ h).bind fun x h=>match x with
  |.bl true=>ae C b σ h
  |.bl false=>.ok (.bl false) h
  |_=>.bad):=by rw[ae.eq_def]
@[simp] theorem Hv(C:Or)(a:E)(b:E)(σ:Env)(h:Hp):ae C (.or a b) σ h=((ae C a σ h).bind fun x h=>match x with
  |.bl false=>ae C b σ h
  |.bl true=>.ok (.bl true) h
  |_=>.bad):=by rw[ae.eq_def]
@[simp] theorem FN(C:Or)(a:E)(σ:Env)(h:Hp):ae C (.not a) σ h=((ae C a σ h).bind fun x h=>R.of ((truth h x).map fun b=>.bl (!b)) h):=by rw[ae.eq_def]
@[simp] theorem vU(C:Or)(c:E)(a:E)(b:E)(σ:Env)(h:Hp):ae C (.ite c a b) σ h=((ae C c σ h).bind fun x h=>match truth h x with
  |some true=>ae C a σ h
  |some false=>ae C b σ h
  |none=>.bad):=by rw[ae.eq_def]
@[simp] theorem kK(C:Or)(a:E)(b:E)(σ:Env)(h:Hp):ae C (.idx a b) σ h=((ae C a σ h).bind fun x h=>(ae C b σ h).bind fun y h=>idx x y h):=by rw[ae.eq_def]
@[simp] theorem Gw(C:Or)(a:E)(lo:Eo)(hi:Eo)(σ:Env)(h:Hp):ae C (.sl a lo hi) σ h=((ae C a σ h).bind fun x h=>(dD C lo σ h).bind fun l h=>(dD C hi σ h).dN.bind fun u h=>slice x l u h):=by rw[ae.eq_def]
@[simp] theorem ic(C:Or)(f:Nat)(es:Es)(σ:Env)(h:Hp):ae C (.call f es) σ h=((bc C es σ h).bind fun xs h=>C f xs h):=by rw[ae.eq_def]
@[simp] theorem FP(C:Or)(b:B)(a:E)(σ:Env)(h:Hp):ae C (.blt b a) σ h=((ae C a σ h).bind fun x h=>builtin b x h):=by rw[ae.eq_def]
@[simp] theorem nG(C:Or)(m:Mt)(o:E)(es:Es)(σ:Env)(h:Hp):ae C (.c7 m o es) σ h=((ae C o σ h).bind fun x h=>if j8 m x h then (bc C es σ h).bind fun xs h=>method m x xs h else .bad):=by rw[ae.eq_def]
theorem ij(C:Or)(elt:E)(it:It)(c:Eo)(σ:Env)(h:Hp):ae C (.comp elt it c) σ h=((bM C it σ h).bind fun s h=>(walk s (iB (dD C c) (ae C elt) σ) h).bind dq):=by rw[ae.eq_def]
theorem gp(C:Or)(elt:E)(it:It)(σ:Env)(h:Hp):ae C (.fY elt it) σ h=((bM C it σ h).bind fun s h=>(walk s (fT (ae C elt) σ) h).bind dq):=by rw[ae.eq_def]
@[simp] theorem qP(C:Or)(σ:Env)(h:Hp):ae C .bad σ h=.bad:=by rw[ae.eq_def]
@[simp] theorem qY(C:Or)(a:E)(x:S)(σ:Env)(h:Hp):ae C (.fld a x) σ h=((ae C a σ h).bind fun w h=>R.of (field w x h) h):=by rw[ae.eq_def]
@[simp] theorem Kf(C:Or)(c:S)(f:Nat)(es:Es)(σ:Env)(h:Hp):ae C (.mk c f es) σ h=((bc C es σ h).bind fun xs h=>(C f (.ref h.length::xs) (h++[.ins c []])).bind fun r h'=>match r with
  |.ah=>.ok (.ref h.length) h'
  |_=>.bad):=by rw[ae.eq_def]
@[simp] theorem Gb(C:Or)(o:E)(c m:S)(f:Nat)(es:Es)(σ:Env)(h:Hp):ae C (.own o c m f es) σ h=((ae C o σ h).bind fun x h=>if dH x c m h then (bc C es σ h).bind fun xs h=>C f (x::xs) h else .bad):=by rw[ae.eq_def]
@[simp] theorem tM(C:Or)(g:List (S×Nat))(k:E)(es:Es)(σ:Env)(h:Hp):ae C (.oF g k es) σ h=((ae C k σ h).bind fun x h=>match pick g x with
  |some f=>(bc C es σ h).bind fun xs h=>C f xs h
  |none=>.bad):=by rw[ae.eq_def]
@[simp] theorem qG(C:Or)(k:E)(g:List S)(σ:Env)(h:Hp):ae C (.wL k g) σ h=((ae C k σ h).bind fun x h=>match x with
  |.str s=>.ok (.bl (g.contains s)) h
  |_=>.bad):=by rw[ae.eq_def]
@[simp] theorem Bl(C:Or)(e:E)(σ:Env)(h:Hp):bM C (.enum e) σ h=((ae C e σ h).bind fun x h=>match x with
  |.tup xs=>.ok (.fix (fK 0 xs)) h
  |.ref a=>match h[a]? with
   |some (.lst xs)=>.ok (.ea a xs.length) h
   |_=>.bad
  |_=>.bad):=by rw[bM.eq_def]
@[simp] theorem oA(C:Or)(e:E)(σ:Env)(h:Hp):bM C (.rev e) σ h=((ae C e σ h).bind fun x h=>match x with
  |.ref a=>match h[a]? with
   |some (.lst xs)=>.ok (.rv a xs.length) h
   |_=>.bad
  |_=>.bad):=by rw[bM.eq_def]
@[simp] theorem mS(C:Or)(σ:Env)(h:Hp):dD C .none σ h=(.ok none h):=by rw[dD.eq_def]
@[simp] theorem zT(C:Or)(e:E)(σ:Env)(h:Hp):dD C (.some e) σ h=((ae C e σ h).bind fun x h=>.ok (some x) h):=by rw[dD.eq_def]
@[simp] theorem cH(C:Or)(σ:Env)(h:Hp):bc C .nil σ h=.ok [] h:=by rw[bc.eq_def]
@[simp] theorem bZ(C:Or)(e:E)(es:Es)(σ:Env)(h:Hp):bc C (.cons e es) σ h=((ae C e σ h).bind fun x h=>(bc C es σ h).bind fun xs h=>.ok (x::xs) h):=by rw[bc.eq_def]
@[simp] theorem cV(C:Or)(e:E)(σ:Env)(h:Hp):bM C (.seq e) σ h=((ae C e σ h).bind fun x h=>R.of (src h x) h):=by rw[bM.eq_def]
@[simp] theorem BP(C:Or)(e:E)(σ:Env)(h:Hp):bM C (.fN e) σ h=((ae C e σ h).bind fun x h=>match x with
  |.int j=>if fA j then .ok (.fix (upTo 0 j.toNat)) h else .bad
  |_=>.bad):=by rw[bM.eq_def]
@[simp] theorem Mq(C:Or)(a b:E)(σ:Env)(h:Hp):bM C (.yr a b) σ h=((ae C a σ h).bind fun x h=>(ae C b σ h).bind fun y h=>match x,y with
  |.int i,.int j=>if fA i&&fA j then .ok (.fix (upTo i (j-i).toNat)) h else .bad
  |_,_=>.bad):=by rw[bM.eq_def]
@[simp] theorem O2(C:Or)(a b:E)(σ:Env)(h:Hp):bM C (.zip a b) σ h=((ae C a σ h).bind fun x h=>(ae C b σ h).bind fun y h=>match x,y with
  |.tup xs,.tup ys=>.ok (.fix (BO xs ys)) h
  |_,_=>.bad):=by rw[bM.eq_def]
@[simp] noncomputable def eZ(t:Tg)(x:W)(σ:Env):Option Env:=match t,x with
 |.var i,x=>some (σ.set i (some x))
 |.two i j,.tup [x,y]=>some ((σ.set i (some x)).set j (some y))
 |_,_=>none
@[simp] noncomputable def turn(t:Tg)(k:Env->Hp->R Fl)(x:W)(σ:Env)(h:Hp)(go:Env->Hp->R Fl):R Fl:=match eZ t x σ with
 |none=>.bad
 |some σ=>(k σ h).bind fun f h=>match f with
  |.next σ=>go σ h
  |.cont σ=>go σ h
  |.brk σ=>.ok (.next σ) h
  |.ret w=>.ok (.ret w) h
@[simp] def cW(t:Tg)(k:Env->Hp->R Fl):List W->Env->Hp->R Fl
 |[],σ,h=>.ok (.next σ) h
 |x::xs,σ,h=>turn t k x σ h (cW t k xs)
noncomputable def bo(a:Nat)(t:Tg)(k:Env->Hp->R Fl):Nat->Nat->Env->Hp->R Fl
 |n,i,σ,h=>match aZ h a with
  |none=>.bad
  |some ys=>match ys[i]? with
   |none=>.ok (.next σ) h
   |some x=>match n with
    |0=>.bad
    |n+1=>turn t k x σ h (bo a t k n (i+1))
noncomputable def cM(a:Nat)(t:Tg)(k:Env->Hp->R Fl):Nat->Env->Hp->R Fl
 |0,σ,h=>.ok (.next σ) h
 |n+1,σ,h=>match aZ h a with
  |none=>.bad
  |some ys=>match ys[n]? with
   |none=>.bad
   |some x=>turn t k x σ h (cM a t k n)
noncomputable def fc(a:Nat)(t:Tg)(k:Env->Hp->R Fl):Nat->Nat->Env->Hp->R Fl
 |n,i,σ,h=>match aZ h a with
  |none=>.bad
  |some ys=>match ys[i]? with
   |none=>.ok (.next σ) h
   |some x=>match n with
    |0=>.bad
    |n+1=>turn t k (.tup [.int i,x]) σ h (fc a t k n (i+1))
noncomputable def g8(c:Env->Hp->R W)(b:Env->Hp->R Fl):Nat->Env->Hp->R Fl
 |0,_,_=>.bad
 |n+1,σ,h=>(c σ h).bind fun x h=>match truth h x with
  |some true=>(b σ h).bind fun f h=>match f with
   |.next σ=>g8 c b n σ h
   |.cont σ=>g8 c b n σ h
   |.brk σ=>.ok (.next σ) h
   |.ret w=>.ok (.ret w) h
  |some false=>.ok (.next σ) h
  |none=>.bad
noncomputable def FU:Nat:=2 ^ 20
@[simp] noncomputable def turns(s:Src)(t:Tg)(k:Env->Hp->R Fl)(σ:Env)(h:Hp):R Fl:=match s with
 |.fix xs=>cW t k xs σ h
 |.at a n=>bo a t k n 0 σ h
 |.rv a n=>cM a t k n σ h
 |.ea a n=>fc a t k n 0 σ h
noncomputable def j7(gs:List (S×W)):List S->Option (List W)
 |[]=>some []
 |x::r=>match gs.lookup x,j7 gs r with
  |some w,some ws=>some (w::ws)
  |_,_=>none
noncomputable def kx(x:S)(j:Nat)(fs:List S)(md:Option Nat)(σ:Env)(m:R W):R Fl:=match m with
 |.ok _ h=>.ok (.next σ) h
 |.aD a h=>match h[a]? with
  |some (.aD c gs)=>if c=x then (match j7 gs fs,md with
   |some ws,none=>.ok (.ret (.tup ws)) h
   |some ws,some i=>.ok (.next ((σ.set i (some (.tup ws))).set j none)) h
   |none,_=>.bad) else .bad
  |_=>.bad
 |.bad=>.bad
noncomputable def jd(c:S)(xs:List S)(ws:List W)(h:Hp):R Fl:=if ws.length=xs.length then .aD h.length (h++[.aD c (xs.zip ws)]) else .bad
mutual
noncomputable def aW(C:Or):St->Env->Hp->R Fl
 |.expr e,σ,h=>(ae C e σ h).bind fun _ h=>.ok (.next σ) h
 |.ret e,σ,h=>(ae C e σ h).bind fun x h=>.ok (.ret x) h
 |.uw,_,h=>.ok (.ret .ah) h
 |.set i e,σ,h=>(ae C e σ h).bind fun x h=>.ok (.next (σ.set i (some x))) h
 |.put o k e,σ,h=>(ae C e σ h).bind fun v h=>(ae C o σ h).bind fun x h=>(ae C k σ h).bind fun y h=>(iQ x y v h).bind fun _ h=>.ok (.next σ) h
 |.iff c a b,σ,h=>(ae C c σ h).bind fun x h=>match truth h x with
  |some true=>au C a σ h
  |some false=>au C b σ h
  |none=>.bad
 |.for t it b,σ,h=>(bM C it σ h).bind fun s h=>turns s t (au C b) σ h
 |.pass,σ,h=>.ok (.next σ) h
 |.brk,σ,h=>.ok (.brk σ) h
 |.cont,σ,h=>.ok (.cont σ) h
 |.bad,_,_=>.bad
 |.eS i j e,σ,h=>(ae C e σ h).bind fun x h=>match x with
  |.tup [u,v]=>.ok (.next ((σ.set i (some u)).set j (some v))) h
  |_=>.bad
 |.eQ o x e,σ,h=>(ae C e σ h).bind fun v h=>(ae C o σ h).bind fun w h=>(putField w x v h).bind fun _ h=>.ok (.next σ) h
 |.aug i op e,σ,h=>match σ[i]? with
  |some (some (.int a))=>(ae C e σ h).bind fun y h=>match y with
   |.int b=>R.of ((binI op a b).map fun c=>.next (σ.set i (some (.int c)))) h
   |_=>.bad
  |_=>.bad
 |.vZ c b,σ,h=>g8 (ae C c) (au C b) FU σ h
 |.raise c xs es,σ,h=>(bc C es σ h).bind fun ws h=>jd c xs ws h
 |.qF o c m f es x j fs md,σ,h=>(ae C o σ h).dN.bind fun w h=>if dH w c m h then (bc C es σ h).dN.bind fun ws h=>kx x j fs md σ (C f (w::ws) h) else .bad
noncomputable def au(C:Or):List St->Env->Hp->R Fl
 |[],σ,h=>.ok (.next σ) h
 |s::r,σ,h=>(aW C s σ h).bind fun f h=>match f with
  |.next σ=>au C r σ h
  |f=>.ok f h
end
@[simp] theorem uB(C:Or)(e:E)(σ:Env)(h:Hp):aW C (.expr e) σ h=((ae C e σ h).bind fun _ h=>.ok (.next σ) h):=by rw[aW.eq_def]
@[simp] theorem ki(C:Or)(e:E)(σ:Env)(h:Hp):aW C (.ret e) σ h=((ae C e σ h).bind fun x h=>.ok (.ret x) h):=by rw[aW.eq_def]
@[simp] theorem BY(C:Or)(σ:Env)(h:Hp):aW C .uw σ h=(.ok (.ret .ah) h):=by rw[aW.eq_def]
@[simp] theorem xi(C:Or)(i:Nat)(e:E)(σ:Env)(h:Hp):aW C (.set i e) σ h=((ae C e σ h).bind fun x h=>.ok (.next (σ.set i (some x))) h):=by rw[aW.eq_def]
@[simp] theorem Gf(C:Or)(o:E)(k:E)(e:E)(σ:Env)(h:Hp):aW C (.put o k e) σ h=((ae C e σ h).bind fun v h=>(ae C o σ h).bind fun x h=>(ae C k σ h).bind fun y h=>(iQ x y v h).bind fun _ h=>.ok (.next σ) h):=by rw[aW.eq_def]
@[simp] theorem ig(C:Or)(c:E)(a:List St)(b:List St)(σ:Env)(h:Hp):aW C (.iff c a b) σ h=((ae C c σ h).bind fun x h=>match truth h x with
  |some true=>au C a σ h
  |some false=>au C b σ h
  |none=>.bad):=by rw[aW.eq_def]
theorem bB(C:Or)(t:Tg)(it:It)(b:List St)(σ:Env)(h:Hp):aW C (.for t it b) σ h=((bM C it σ h).bind fun s h=>turns s t (au C b) σ h):=by rw[aW.eq_def]
@[simp] theorem B2(C:Or)(σ:Env)(h:Hp):aW C .pass σ h=(.ok (.next σ) h):=by rw[aW.eq_def]
@[simp] theorem EL(C:Or)(σ:Env)(h:Hp):aW C .brk σ h=(.ok (.brk σ) h):=by rw[aW.eq_def]
@[simp] theorem CZ(C:Or)(σ:Env)(h:Hp):aW C .cont σ h=(.ok (.cont σ) h):=by rw[aW.eq_def]
@[simp] theorem Fm(C:Or)(σ:Env)(h:Hp):aW C .bad σ h=.bad:=by rw[aW.eq_def]
@[simp] theorem oS(C:Or)(i j:Nat)(e:E)(σ:Env)(h:Hp):aW C (.eS i j e) σ h=((ae C e σ h).bind fun x h=>match x with
  |.tup [u,v]=>.ok (.next ((σ.set i (some u)).set j (some v))) h
  |_=>.bad):=by rw[aW.eq_def]
@[simp] theorem B9(C:Or)(o:E)(x:S)(e:E)(σ:Env)(h:Hp):aW C (.eQ o x e) σ h=((ae C e σ h).bind fun v h=>(ae C o σ h).bind fun w h=>(putField w x v h).bind fun _ h=>.ok (.next σ) h):=by rw[aW.eq_def]
@[simp] theorem EJ(C:Or)(i:Nat)(op:Op)(e:E)(σ:Env)(h:Hp):aW C (.aug i op e) σ h=(match σ[i]? with
  |some (some (.int a))=>(ae C e σ h).bind fun y h=>match y with
   |.int b=>R.of ((binI op a b).map fun c=>.next (σ.set i (some (.int c)))) h
   |_=>.bad
  |_=>.bad):=by rw[aW.eq_def]
theorem qU(C:Or)(c:E)(b:List St)(σ:Env)(h:Hp):aW C (.vZ c b) σ h=g8 (ae C c) (au C b) FU σ h:=by rw[aW.eq_def]
theorem rY(C:Or)(c:S)(xs:List S)(es:Es)(σ:Env)(h:Hp):aW C (.raise c xs es) σ h=((bc C es σ h).bind fun ws h=>jd c xs ws h):=by rw[aW.eq_def]
theorem uI(C:Or)(o:E)(c m:S)(f:Nat)(es:Es)(x:S)(j:Nat)(fs:List S)(md:Option Nat)(σ:Env)(h:Hp):aW C (.qF o c m f es x j fs md) σ h=
  ((ae C o σ h).dN.bind fun w h=>if dH w c m h then (bc C es σ h).dN.bind fun ws h=>kx x j fs md σ (C f (w::ws) h) else .bad):=by rw[aW.eq_def]
@[simp] theorem aK(C:Or)(σ:Env)(h:Hp):au C [] σ h=.ok (.next σ) h:=by rw[au.eq_def]
@[simp] theorem bj(C:Or)(s:St)(r:List St)(σ:Env)(h:Hp):au C (s::r) σ h=((aW C s σ h).bind fun f h=>match f with
  |.next σ=>au C r σ h
  |f=>.ok f h):=by rw[au.eq_def]
structure Fn where
 ps:Nat
 ns:Nat
 body:List St
def bg(C:Or)(f:Fn)(xs:List W)(h:Hp):R W:=
 if xs.length=f.ps then (au C f.body (xs.map some++List.replicate (f.ns-f.ps) none) h).bind fun fl h=>match fl with
  |.next _=>.ok .ah h
  |.ret w=>.ok w h
  |_=>.bad
 else .bad
def run(T:List Fn):Nat->Or
 |0,_,_,_=>.bad
 |k+1,f,xs,h=>match T[f]? with
  |some fn=>bg (run T k) fn xs h
  |none=>.bad
end Tw
namespace TwS
open PySem L2
def m8(x:Tw.S):Prop:=∀c∈x,c<0x110000
def TupAt(K:PySem.W.Frag)(H:L2.Hp)(a:Addr)(xs:List V):Prop:=
 H a=some (.tup xs)\/∃(o:Obj) (its:Array Value) (n:Nat),K.lookup a=some o/\o.cls=.type "tuple" /\o.data=.seq its n/\its.size<=sizeLine/\Vals xs its.toList
theorem TupAt.sq{K:PySem.W.Frag}{H:L2.Hp}{a:Addr}{xs:List V}(t:TupAt K H a xs):df K H a xs:=by
 rcases t with t|t
 .exact df.of t
 .exact .inr t
mutual
inductive RW(K:PySem.W.Frag)(ι:Nat->Addr)(n:Nat)(H:L2.Hp):Tw.W->V->Prop
 |ah:RW K ι n H .ah .ah
 |bl (b:Bool):RW K ι n H (.bl b) (.bl b)
 |int (i:Int):RW K ι n H (.int i) (.int i)
 |str (x:Tw.S) (hx:m8 x):RW K ι n H (.str x) (.str ⟨x.toArray⟩)
 |tup {a:Addr}{xs:List V}{ws:List Tw.W}:TupAt K H a xs->aL K ι n H ws xs->RW K ι n H (.tup ws) (.ref a)
 |ref {i:Nat}:i<n->RW K ι n H (.ref i) (.ref (ι i))
inductive aL(K:PySem.W.Frag)(ι:Nat->Addr)(n:Nat)(H:L2.Hp):List Tw.W->List V->Prop
 |nil:aL K ι n H [] []
 |cons {w:Tw.W}{v:V}{ws:List Tw.W}{vs:List V}:RW K ι n H w v->aL K ι n H ws vs->aL K ι n H (w::ws) (v::vs)
end
structure Keeps(ι:Nat->Addr)(n:Nat)(H:L2.Hp)(ι':Nat->Addr)(n':Nat)(H':L2.Hp):Prop where
 le:n<=n'
 same:∀i,i<n->ι' i=ι i
 tup:∀a xs,H a=some (.tup xs)->H' a=some (.tup xs)
theorem Keeps.yG{K:PySem.W.Frag}{ι ι':Nat->Addr}{n n':Nat}{H H':L2.Hp}(k:Keeps ι n H ι' n' H'){a:Addr}{xs:List V}(t:TupAt K H a xs):TupAt K H' a xs:=t.imp (k.tup a xs) id
section
variable {K:PySem.W.Frag}{ι ι':Nat->Addr}{n n':Nat}{H H':L2.Hp}
mutual
theorem RW.keep(k:Keeps ι n H ι' n' H'):∀{w:Tw.W}{v:V},RW K ι n H w v->RW K ι' n' H' w v
 |_,_,.ah=>.ah
 |_,_,.bl b=>.bl b
 |_,_,.int i=>.int i
 |_,_,.str x hx=>.str x hx
 |_,_,.tup e r=>.tup (k.yG e) (aL.keep k r)
 |_,_,.ref (i:=i) h=>by rw[<-k.same i h];exact .ref (Nat.lt_of_lt_of_le h k.le)
theorem aL.keep(k:Keeps ι n H ι' n' H'):∀{ws:List Tw.W}{vs:List V},aL K ι n H ws vs->aL K ι' n' H' ws vs
 |_,_,.nil=>.nil
 |_,_,.cons a r=>.cons (RW.keep k a) (aL.keep k r)
end
theorem aL.length:∀{ws:List Tw.W}{vs:List V},aL K ι n H ws vs->ws.length=vs.length
 |_,_,.nil=>rfl
 |_,_,.cons _ r=>congrArg (·+ 1) r.length
theorem aL.get:∀{ws:List Tw.W}{vs:List V}{i:Nat}{w:Tw.W},aL K ι n H ws vs->ws[i]?=some w->∃v,vs[i]?=some v/\RW K ι n H w v
 |_,_,_,_,.nil,e=>by simp at e
 |_,_,0,_,.cons a _,e=>by simp at e;subst e;exact⟨_,rfl,a⟩
 |_,_,i+1,w,.cons _ r,e=>by
  obtain⟨v,h1,h2⟩:=aL.get (i:=i) (w:=w) r (by simpa using e);exact⟨v,by simpa using h1,h2⟩
theorem aL.append:∀{ws us:List Tw.W}{vs xs:List V},aL K ι n H ws vs->aL K ι n H us xs->aL K ι n H (ws++us) (vs++xs)
 |_,_,_,_,.nil,s=>s
 |_,_,_,_,.cons a r,s=>.cons a (aL.append r s)
theorem aL.take:∀{ws:List Tw.W}{vs:List V}(k:Nat),aL K ι n H ws vs->aL K ι n H (ws.take k) (vs.take k)
 |_,_,0,_=>.nil
 |_,_,_+1,.nil=>.nil
 |_,_,k+1,.cons a r=>.cons a (aL.take k r)
theorem aL.drop:∀{ws:List Tw.W}{vs:List V}(k:Nat),aL K ι n H ws vs->aL K ι n H (ws.drop k) (vs.drop k)
 |_,_,0,r=>r
 |_,_,_+1,.nil=>.nil
 |_,_,k+1,.cons _ r=>aL.drop k r
theorem aL.set{w:Tw.W}{v:V}(a:RW K ι n H w v):∀{ws:List Tw.W}{vs:List V}(i:Nat),aL K ι n H ws vs->aL K ι n H (ws.set i w) (vs.set i v)
 |_,_,_,.nil=>.nil
 |_,_,0,.cons _ r=>.cons a r
 |_,_,i+1,.cons b r=>.cons b (aL.set a i r)
end
inductive RD(K:PySem.W.Frag)(ι:Nat->Addr)(n:Nat)(H:L2.Hp):List (Tw.W×Tw.W)->List (Key×V)->Prop
 |nil:RD K ι n H [] []
 |cons {k w:Tw.W}{q:Key}{v:V}{kvs:List (Tw.W×Tw.W)}{xs:List (Key×V)}:q∉xs.map (·.1)->RW K ι n H k (kV q)->RW K ι n H w v->RD K ι n H kvs xs->RD K ι n H ((k,w)::kvs) ((q,v)::xs)
theorem RD.keep{K:PySem.W.Frag}{ι ι':Nat->Addr}{n n':Nat}{H H':L2.Hp}(k:Keeps ι n H ι' n' H'):∀{kvs:List (Tw.W×Tw.W)}{xs:List (Key×V)},RD K ι n H kvs xs->RD K ι' n' H' kvs xs
 |_,_,.nil=>.nil
 |_,_,.cons m e a r=>.cons m (e.keep k) (a.keep k) (RD.keep k r)
theorem RD.length{K:PySem.W.Frag}{ι:Nat->Addr}{n:Nat}{H:L2.Hp}:∀{kvs:List (Tw.W×Tw.W)}{xs:List (Key×V)},RD K ι n H kvs xs->kvs.length=xs.length
 |_,_,.nil=>rfl
 |_,_,.cons _ _ _ r=>congrArg (·+ 1) r.length
def rK(K:PySem.W.Frag)(H:L2.Hp)(a:Addr)(xs:List V):Prop:=
 (∃o,H a=some (.bE o (.lst xs)))\/
  ∃(o:Obj) (its:Array Value) (n:Nat),K.lookup a=some o/\o.cls=.type "list" /\o.dict=none/\o.data=.seq its n/\its.size<=sizeLine/\Vals xs its.toList
theorem rK.sq{K:PySem.W.Frag}{H:L2.Hp}{a:Addr}{xs:List V}(s:rK K H a xs):bx K H a xs:=by
 rcases s with s|s
 .exact .inl (.inr s)
 .exact .inr s
inductive RF(K:PySem.W.Frag)(ι:Nat->Addr)(n:Nat)(H:L2.Hp):List (Tw.S×Tw.W)->List (Str×V)->Prop
 |nil:RF K ι n H [] []
 |cons {x:Tw.S}{w:Tw.W}{v:V}{fs:List (Tw.S×Tw.W)}{gs:List (Str×V)}:RW K ι n H w v->RF K ι n H fs gs->RF K ι n H ((x,w)::fs) ((⟨x.toArray⟩,v)::gs)
theorem RF.keep{K:PySem.W.Frag}{ι ι':Nat->Addr}{n n':Nat}{H H':L2.Hp}(k:Keeps ι n H ι' n' H'):∀{fs:List (Tw.S×Tw.W)}{gs:List (Str×V)},RF K ι n H fs gs->RF K ι' n' H' fs gs
 |_,_,.nil=>.nil
 |_,_,.cons a r=>.cons (a.keep k) (RF.keep k r)
theorem RF.length{K:PySem.W.Frag}{ι:Nat->Addr}{n:Nat}{H:L2.Hp}:∀{fs:List (Tw.S×Tw.W)}{gs:List (Str×V)},RF K ι n H fs gs->fs.length=gs.length
 |_,_,.nil=>rfl
 |_,_,.cons _ r=>congrArg (·+ 1) r.length
structure Zk where
 K:PySem.W.Frag
 mg:Str->Option Value
 ex:XK
noncomputable abbrev zx(X:Cx)(E:XK):Zk:=⟨X.K,X.mg,E⟩
noncomputable def wQ:List Str:=["shelf", "free", "needs", "bound", "definitions", "numbers", "kind", "core", "whole_kind", "part", "around"]
structure GoodC(K:PySem.W.Frag)(C:Addr):Prop where
 cls:om K C
 no:∀f∈wQ,bh K C f
noncomputable def pP(C dx e:Addr):HO:=.ext fun h=>∃o vs,h.get? e=some o/\o.cls=.ref C/\o.dict=some dx/\o.data=.fields vs
noncomputable def dZ:Tw.O->Bool
 |.bE _=>false
 |.aD _ _=>false
 |_=>true
noncomputable def RO(K:Zk)(ι:Nat->Addr)(n:Nat)(H:L2.Hp)(a:Addr):Tw.O->Prop
 |.lst ws=>∃xs,H a=some (.lst xs)/\aL K.K ι n H ws xs
 |.bE ws=>∃xs,rK K.K H a xs/\aL K.K ι n H ws xs
 |.ag kvs=>∃xs,H a=some (.dK xs)/\RD K.K ι n H kvs xs
 |.ins c fs=>∃C dx gs,(K.mg ⟨c.toArray⟩=some (.ref C)/\GoodC K.K C)/\H a=some (.ins C dx gs)/\RF K.K ι n H fs gs
 |.aD c fs=>∃C dx gs,K.mg ⟨c.toArray⟩=some (.ref C)/\H a=some (pP C dx a)/\H dx=some (.xd gs)/\RF K.K ι n H fs gs
structure HR(K:Zk)(ι:Nat->Addr)(h:Tw.Hp)(H:L2.Hp):Prop where
 obj:∀(i:Nat)(o:Tw.O),h[i]?=some o->RO K ι h.length H (ι i) o
 inj:∀(i j:Nat)(o u:Tw.O),h[i]?=some o->h[j]?=some u->dZ o=true->dZ u=true->ι i=ι j->i=j
structure Ext(ι:Nat->Addr)(h:Tw.Hp)(H:L2.Hp)(ι':Nat->Addr)(h':Tw.Hp)(H':L2.Hp):Prop where
 len:h.length<=h'.length
 same:∀i,i<h.length->ι' i=ι i
 fr:∀b u,H b=some u->(∀(i:Nat)(o:Tw.O),h[i]?=some o->dZ o=true->ι i≠b)->H' b=some u
 new:∀i,h.length<=i->i<h'.length->H (ι' i)=none
 wt:∀b,H' b=none->H b=none
 fz:∀(i:Nat)(o u:Tw.O),h[i]?=some o->h'[i]?=some u->dZ u=dZ o
section
variable {K:Zk}{ι ι1 ι2:Nat->Addr}{h h1 h2:Tw.Hp}{H H1 H2:L2.Hp}
theorem jS{h:Tw.Hp}{i:Nat}{o:Tw.O}(e:h[i]?=some o):i<h.length:=(List.getElem?_eq_some_iff.mp e).1
theorem Ext.refl(ι:Nat->Addr)(h:Tw.Hp)(H:L2.Hp):Ext ι h H ι h H:=
 ⟨Nat.le_refl _,fun _ _=>rfl,fun _ _ e _=>e,fun i a b=>absurd b (Nat.not_lt.mpr a),fun _ e=>e,fun i o u e f=>by rw[e] at f;cases f;rfl⟩
theorem Ext.trans(a:Ext ι h H ι1 h1 H1)(b:Ext ι1 h1 H1 ι2 h2 H2):Ext ι h H ι2 h2 H2 where
 len:=Nat.le_trans a.len b.len
 same:=fun i hi=>(b.same i (Nat.lt_of_lt_of_le hi a.len)).trans (a.same i hi)
 fr:=fun c u e n=>b.fr c u (a.fr c u e n) fun i o e1 m z=>by
  by_cases hi:i<h.length
  .obtain⟨o',eo⟩:∃o',h[i]?=some o':=⟨_,List.getElem?_eq_getElem hi⟩;rw[a.same i hi] at z;exact n i o' eo (by rw[<-a.fz i o' o eo e1];exact m) z
  .have q:=a.new i (Nat.not_lt.mp hi) (jS e1);rw[z,e] at q;cases q
 new:=fun i h1' h2'=>by
  by_cases hi:i<h1.length
  .rw[b.same i hi];exact a.new i h1' hi
  .exact a.wt _ (b.new i (Nat.not_lt.mp hi) h2')
 wt:=fun c e=>a.wt c (b.wt c e)
 fz:=fun i o u e f=>by
  obtain⟨v,ev⟩:∃v,h1[i]?=some v:=⟨_,List.getElem?_eq_getElem (Nat.lt_of_lt_of_le (jS e) a.len)⟩;rw[b.fz i v u ev f,a.fz i o v e ev]
theorem HR.there(r:HR K ι h H){i:Nat}{o:Tw.O}(e:h[i]?=some o)(m:dZ o=true):∃u,H (ι i)=some u/\(∀xs,u≠.tup xs)/\(∀o v,u≠.bE o v)/\(∀gs,u≠.xd gs)/\∀φ,u≠.ext φ:=by
 have q:=r.obj i o e;cases o with
 |lst ws=>obtain⟨xs,q,_⟩:=q;exact⟨_,q,(fun _ z=>nomatch z),(fun _ _ z=>nomatch z),(fun _ z=>nomatch z),fun _ z=>nomatch z⟩
 |bE ws=>cases m
 |ag kvs=>obtain⟨xs,q,_⟩:=q;exact⟨_,q,(fun _ z=>nomatch z),(fun _ _ z=>nomatch z),(fun _ z=>nomatch z),fun _ z=>nomatch z⟩
 |ins c fs=>obtain⟨C,dx,gs,_,q,_⟩:=q;exact⟨_,q,(fun _ z=>nomatch z),(fun _ _ z=>nomatch z),(fun _ z=>nomatch z),fun _ z=>nomatch z⟩
 |aD c fs=>cases m
theorem Ext.keeps(r:HR K ι h H)(a:Ext ι h H ι1 h1 H1):Keeps ι h.length H ι1 h1.length H1:=
 ⟨a.len,a.same,fun b xs e=>a.fr b _ e fun i o eo m z=>by
  obtain⟨u,q,n,_⟩:=r.there eo m;rw[z,e] at q;cases q;exact n _ rfl⟩
theorem mD{H:L2.Hp}{p:Addr}{o:HO}(hp:H p=none):∀b u,H b=some u->upd H p o b=some u:=fun b u e=>by
 rw[aq (bV e hp)];exact e
theorem nq{H:L2.Hp}{p:Addr}{o:HO}:∀b,upd H p o b=none->H b=none:=fun b e=>by
 by_cases z:b=p
 .subst z;rw[aJ] at e;cases e
 .rw[aq z] at e;exact e
theorem rK.keep{K:PySem.W.Frag}{H H1:L2.Hp}{a:Addr}{xs:List V}(s:rK K H a xs)(k:∀u,H a=some u->H1 a=some u):rK K H1 a xs:=by
 rcases s with ⟨o,s⟩|s
 .exact .inl ⟨o,k _ s⟩
 .exact .inr s
theorem RO.keep{n n':Nat}{a:Addr}{o:Tw.O}(r:RO K ι n H a o)(k:Keeps ι n H ι1 n' H1)(s:∀b u,(b=a\/∃gs,u=HO.xd gs)->H b=some u->H1 b=some u):RO K ι1 n' H1 a o:=by
 cases o with
 |lst ws=>obtain⟨xs,q,z⟩:=r;exact⟨xs,s _ _ (.inl rfl) q,z.keep k⟩
 |bE ws=>obtain⟨xs,q,z⟩:=r;exact⟨xs,rK.keep q (fun u=>s _ u (.inl rfl)),z.keep k⟩
 |ag kvs=>obtain⟨xs,q,z⟩:=r;exact⟨xs,s _ _ (.inl rfl) q,z.keep k⟩
 |ins c fs=>obtain⟨C,dx,gs,q0,q,z⟩:=r;exact⟨C,dx,gs,q0,s _ _ (.inl rfl) q,z.keep k⟩
 |aD c fs=>obtain⟨C,dx,gs,q0,q,qd,z⟩:=r;exact⟨C,dx,gs,q0,s _ _ (.inl rfl) q,s _ _ (.inr ⟨_,rfl⟩) qd,z.keep k⟩
theorem HR.grow{p:Addr}{o:HO}(r:HR K ι h H)(hp:H p=none):HR K ι h (upd H p o)/\Ext ι h H ι h (upd H p o):=by have e:Ext ι h H ι h (upd H p o):=⟨Nat.le_refl _,fun _ _=>rfl,fun b u q _=>mD hp b u q,fun i a b=>absurd b (Nat.not_lt.mpr a),nq,fun i o u e f=>by rw[e] at f;cases f;rfl⟩;exact⟨⟨fun i u q=>(r.obj i u q).keep (e.keeps r) fun b v _ z=>mD hp b v z,r.inj⟩,e⟩
noncomputable def eT(ι:Nat->Addr)(n:Nat)(p:Addr):Nat->Addr:=fun i=>if i=n then p else ι i
theorem cw{n i:Nat}{p:Addr}(h:i<n):eT ι n p i=ι i:=if_neg (Nat.ne_of_lt h)
theorem cE{n:Nat}{p:Addr}:eT ι n p n=p:=if_pos rfl
theorem HR.Ip{p:Addr}{o:HO}{u:Tw.O}(r:HR K ι h H)(hp:H p=none)(ro:∀ι' n' H',Keeps ι h.length H ι' n' H'->(∀b v,H b=some v->H' b=some v)->H' p=some o->RO K ι' n' H' p u):
  HR K (eT ι h.length p) (h++[u]) (upd H p o)/\Ext ι h H (eT ι h.length p) (h++[u]) (upd H p o):=by
 have hl:(h++[u]).length=h.length+1:=by simp
 have cases2:∀{i:Nat}{v:Tw.O},(h++[u])[i]?=some v->(i<h.length/\h[i]?=some v)\/(i=h.length/\v=u):=fun {i v} e=>by
  have hi:=jS e;by_cases z:i<h.length
  .rw[List.getElem?_append_left z] at e;exact .inl ⟨z,e⟩
  .have z':i=h.length:=by omega
   subst z';simp at e;exact .inr ⟨rfl,e.symm⟩
 have e:Ext ι h H (eT ι h.length p) (h++[u]) (upd H p o):=by
  refine⟨by omega,fun i hi=>cw hi,fun b v q _=>mD hp b v q,fun i h1 h2=>?_,nq,fun i v w e f=>?_⟩
  .have:i=h.length:=by omega
   subst this;rw[cE];exact hp
  .rcases cases2 f with ⟨_,f⟩|⟨f,_⟩
   .rw[e] at f;cases f;rfl
   .have:=jS e;omega
 refine⟨⟨fun i v q=>?_,fun i j v w q1 q2 m1 m2 z=>?_⟩,e⟩
 .rcases cases2 q with ⟨hi,q⟩|⟨rfl,rfl⟩
  .rw[cw hi];exact (r.obj i v q).keep (e.keeps r) fun b x _ z=>mD hp b x z
  .rw[cE];exact ro _ _ _ (e.keeps r) (fun b v q=>mD hp b v q) aJ
 .rcases cases2 q1 with ⟨hi,p1⟩|⟨ei,ev⟩<;>rcases cases2 q2 with ⟨hj,p2⟩|⟨ej,ew⟩
  .rw[cw hi,cw hj] at z;exact r.inj i j v w p1 p2 m1 m2 z
  .rw[cw hi,ej,cE] at z;obtain⟨x,q,_,_⟩:=r.there p1 m1;rw[z,hp] at q;cases q
  .rw[ei,cE,cw hj] at z;obtain⟨x,q,_,_⟩:=r.there p2 m2;rw[<-z,hp] at q;cases q
  .rw[ei,ej]
theorem HR.new{p:Addr}{o:HO}{u:Tw.O}(r:HR K ι h H)(hp:H p=none)(m:dZ u=true)(ro:∀ι' n' H',Keeps ι h.length H ι' n' H'->H' p=some o->RO K ι' n' H' p u):
  HR K (eT ι h.length p) (h++[u]) (upd H p o)/\Ext ι h H (eT ι h.length p) (h++[u]) (upd H p o):=r.Ip hp fun ι' n' H' k _ e=>ro ι' n' H' k e
theorem HR.put{i:Nat}{o:HO}{v u:Tw.O}(r:HR K ι h H)(ei:h[i]?=some v)(mv:dZ v=true)(m:dZ u=true)(no:∀xs,o≠.tup xs)
  (ro:∀H',Keeps ι h.length H ι h.length H'->H' (ι i)=some o->RO K ι h.length H' (ι i) u):
  HR K ι (h.set i u) (upd H (ι i) o)/\Ext ι h H ι (h.set i u) (upd H (ι i) o):=by
 have hl:(h.set i u).length=h.length:=by simp
 obtain⟨x0,q0,n0,f0,d0,e0⟩:=r.there ei mv;have kp:Keeps ι h.length H ι h.length (upd H (ι i) o):=⟨Nat.le_refl _,fun _ _=>rfl,fun a xs e=>by
  rw[aq (fun z=>by rw[z,q0] at e;cases e;exact n0 _ rfl)];exact e⟩
 have look:∀{j:Nat}{w:Tw.O},(h.set i u)[j]?=some w->(j=i/\w=u)\/(j≠i/\h[j]?=some w):=fun {j w} e=>by
  by_cases z:j=i
  .subst z;rw[List.getElem?_set_self (jS ei)] at e;cases e;exact .inl ⟨rfl,rfl⟩
  .rw[List.getElem?_set_ne (Ne.symm z)] at e;exact .inr ⟨z,e⟩
 have e:Ext ι h H ι (h.set i u) (upd H (ι i) o):=by
  refine⟨by omega,fun _ _=>rfl,fun b w q n=>?_,fun j a b=>absurd b (by rw[hl];exact Nat.not_lt.mpr a),nq,fun j w w' e f=>?_⟩
  .rw[aq (fun z=>n i v ei mv z.symm)];exact q
  .rcases look f with ⟨rfl,rfl⟩|⟨_,f⟩
   .rw[ei] at e;cases e;rw[m,mv]
   .rw[e] at f;cases f;rfl
 refine⟨⟨fun j w q=>?_,fun j k w w' q1 q2 m1 m2 z=>?_⟩,e⟩
 .rw[hl];rcases look q with ⟨rfl,rfl⟩|⟨nj,q⟩
  .exact ro _ kp aJ
  .by_cases Z:ι j=ι i
   .by_cases mw:dZ w=true
    .exact absurd (r.inj j i w v q ei mw mv Z) nj
    .cases w with
     |bE ws=>
      obtain⟨xs,sq,rr⟩:=r.obj j _ q;rcases sq with ⟨o',sq⟩|sq
      .rw[Z,q0] at sq;cases sq;exact absurd rfl (f0 _ _)
      .exact⟨xs,.inr sq,rr.keep kp⟩
     |aD c fs=>
      obtain⟨C,dx,gs,_,z,_⟩:=r.obj j _ q;rw[Z,q0] at z;cases z;exact absurd rfl (e0 _)
     |_=>exact absurd rfl mw
   .exact (r.obj j w q).keep kp fun b y hb z=>by
     rw[aq]
     .exact z
     .rcases hb with rfl|⟨gs,rfl⟩
      .exact Z
      .intro y;rw[y,q0] at z;cases z;exact d0 _ rfl
 .have back:∀{j:Nat}{w:Tw.O},(h.set i u)[j]?=some w->dZ w=true->∃w',h[j]?=some w'/\dZ w'=true:=fun {j w} q mw=>by
   rcases look q with ⟨rfl,rfl⟩|⟨_,q⟩
   .exact⟨v,ei,mv⟩
   .exact⟨w,q,mw⟩
  obtain⟨a,qa,ma⟩:=back q1 m1;obtain⟨b,qb,mb⟩:=back q2 m2;exact r.inj j k a b qa qb ma mb z
end
end TwS
namespace TwS
open PySem L2 PyProof.Rows
theorem Bo(o:Obj)(f:Array Value->Array Value):(o.mapFields f).dict=o.dict:=by obtain⟨c,d,dt,sl⟩:=o;cases dt<;>rfl
structure Jk(fs:List Addr)(e T:Addr)(h h':Heap):Prop where
 keep:∀b o,h.get? b=some o->b≠e->b≠T->b∉fs->h'.get? b=some o
 slot:∀b o,h.get? b=some o->b≠e->b≠T->∃sl,h'.get? b=some {o with slots:=sl}
 err:∀o vs,h.get? e=some o->o.data=.fields vs->∃o' ws,h'.get? e=some o'/\o'.cls=o.cls/\o'.dict=o.dict/\o'.data=.fields ws
def Tb(h0 h:Heap)(H:L2.Hp)(e:Addr)(fl:Value):Prop:=
 ∃oe vs T oT ts,h.get? e=some oe/\oe.data=.fields vs/\vs[1]?=some (.ref T)/\T≠e/\h0.get? T=none/\H T=none/\h.get? T=some oT/\oT.data=.fields ts/\ts[3]?=some fl
structure Fly0(P:Program)(w:World)(fs:List Addr)(H:L2.Hp)(s:Shared)(e C dx:Addr)(H':L2.Hp)(s':Shared):Prop where
 os:s'.os=s.os
 bare:AllBare s'.gens
 un:Un fs [] H H' s.heap s'.heap
 ao:cq P w H' s'.heap
 tr:H' e=some (pP C dx e)
 new:s.heap.get? e=none
structure iM(P:Program)(w:World)(fs:List Addr)(H:L2.Hp)(s:Shared)(e C dx:Addr)(fl:Value)(H':L2.Hp)(s':Shared):Prop extends Fly0 P w fs H s e C dx H' s' where
 tb:Tb s.heap s'.heap H' e fl
section
variable {P:Program}{w:World}{fs:List Addr}{H H':L2.Hp}{s s':Shared}{e C dx T:Addr}{h2:Heap}
theorem Fly0.chg(F:Fly0 P w fs H s e C dx H' s')(hf:∀b∈fs,H' b=none)(hT:s.heap.get? T=none)(hT':H' T=none)(c:Jk fs e T s'.heap h2):Fly0 P w fs H s e C dx H' {s' with heap:=h2}:=by
 have ne:∀b o,s.heap.get? b=some o->b≠e/\b≠T:=fun b o q=>⟨(fun z=>by rw[z,F.new] at q;cases q),(fun z=>by rw[z,hT] at q;cases q)⟩;have nt:∀b o,H' b=some o->b≠T/\b∉fs:=fun b o q=>⟨(fun z=>by rw[z,hT'] at q;cases q),(fun z=>by rw[hf b z] at q;cases q)⟩;refine⟨F.os,F.bare,⟨fun b o q n hb hx=>?_,fun b o q n hb hx=>?_,F.un.free,fun b o q hx=>?_,F.un.fq,F.un.eP,F.un.fh⟩,fun a o q=>?_,F.tr,F.new⟩
 .exact c.keep b o (F.un.keep b o q n hb hx) (ne b o q).1 (ne b o q).2 hb
 .obtain⟨sl,q1⟩:=F.un.slot b o q n hb hx;obtain⟨sl',q2⟩:=c.slot b _ q1 (ne b o q).1 (ne b o q).2;exact⟨sl',q2⟩
 .obtain⟨o1,q1⟩:=F.un.there b o q hx;obtain⟨sl',q2⟩:=c.slot b _ q1 (ne b o q).1 (ne b o q).2;exact⟨_,q2⟩
 .by_cases z:a=e
  .subst z;have q':=q;rw[F.tr] at q';cases q';obtain⟨⟨o1,vs,q1,q2,q3,q4⟩,_,st⟩:=F.ao a _ q;obtain⟨o2,ws,r1,r2,r3,r4⟩:=c.err o1 vs q1 q4;exact⟨⟨o2,ws,r1,r2.trans q2,r3.trans q3,r4⟩,⟨o2,r1⟩,st⟩
  .refine (F.ao a o q).eV (fun b u hb r=>?_) (fun _ q=>q) fun _ _ q=>q;rcases hb with rfl|hb
   .exact c.keep b u r z (nt b o q).1 (nt b o q).2
   .refine c.keep b u r (fun y=>?_) (nt b _ hb).1 (nt b _ hb).2;rw[y,F.tr] at hb;cases hb
theorem Fly0.back(F:Fly0 P w fs H s e C dx H' s')(hT:s'.heap.objs.size<=T):s.heap.get? T=none/\H' T=none:=by
 refine⟨?_,F.ao.fresh hT⟩;cases q:s.heap.get? T with
 |none=>rfl
 |some o=>
  obtain⟨o',q'⟩:=F.un.there T o q (by simp);exact absurd (Heap.lt_size q') (Nat.not_lt.mpr hT)
end
section
variable {M:Model}{A:Around}{E:Value->Shared->Prop}{s:Shared}{base:Heap}{env:Env}{outer:List Env}{L e:Addr}
theorem vt{oe:Obj}{vs:Array Value}{head:Value}{hn:Bool}{Q:Unit->Shared->Prop}(hfr:A.frames=some (env::outer))(hl:s.heap.FunFrames base (env::outer))(hf:env.frame=some L)
  (he:s.heap.get? e=some oe) (hd:oe.data=.fields vs) (hsz:1<vs.size)
  (k:∀h' T oe' ws oT ts,s.heap.objs.size<=T->Jk (bK (env::outer)) e T s.heap h'->h'.get? e=some oe'->oe'.data=.fields ws->ws[1]?=some (.ref T)->T≠e->h'.get? T=some oT->oT.data=.fields ts->ts[3]?=some (rawInt L)->Q () {s with heap:=h'}):
  wpAny M A (do let a <-frameOf env;let pl <-entryPlaceOf L hn;let b <-EntryCells.newEntry head a .none (rawInt L) .none pl;setField (.ref e) 1 b) Q E s:=by
 have ne:e∉bK (env::outer):=fun m=>by
  obtain⟨_,o,ho,nf⟩:=hl.mem m;rw[he] at ho;cases ho;exact nf vs hd
 refine wpAny_bind (wpAny_frameOf_fun hfr hl hf fun h1 s1=>?_);have fin:∀(O:Obj)(ts:Array Value),O.data=.fields ts->ts[3]?=some (rawInt L)->wpAny M A (setField (.ref e) 1 (.ref h1.objs.size)) Q E {s with heap:=h1.push O}:=fun O ts hO h3=>by
  have he1:h1.get? e=some oe:=(s1.2.1 e ne).trans he;have he2:=Heap.get?_push_of_some (h:=h1) O he1;have nT:h1.objs.size≠e:=Nat.ne_of_gt (Heap.lt_size he1);refine wpAny_setField (s:={s with heap:=h1.push O}) he2 hd hsz ?_;have hd3:=Obj.data_mapFields hd (·.setIfInBounds 1 (Value.ref h1.objs.size));have he3:=Heap.get?_update_self (Obj.mapFields (·.setIfInBounds 1 (Value.ref h1.objs.size))) he2 (Obj.isFreed_of_fields hd3);have hT3:=(Heap.get?_update_other (h1.push O) (Obj.mapFields (·.setIfInBounds 1 (Value.ref h1.objs.size))) (Ne.symm nT)).trans (Heap.get?_push_size h1 (Obj.isFreed_of_fields hO));refine k _ h1.objs.size _ _ O ts (Nat.le_of_eq s1.1.symm) ⟨fun b o q n1 n2 n3=>?_,fun b o q n1 n2=>?_,fun o ws q qd=>?_⟩ he3 hd3 (by simp[hsz]) nT hT3 hO h3
  .rw[Heap.get?_update_other _ _ (Ne.symm n1)];exact Heap.get?_push_of_some _ ((s1.2.1 b n3).trans q)
  .obtain⟨sl,q1⟩:=s1.2.2 b o q;refine⟨sl,?_⟩;rw[Heap.get?_update_other _ _ (Ne.symm n1)];exact Heap.get?_push_of_some _ q1
  .rw[he] at q;cases q;exact⟨_,_,he3,Obj.cls_mapFields _ _,Bo _ _,hd3⟩
 refine wpAny_bind (wpAny_entryPlaceOf fun pl hpl=>?_);unfold EntryCells.newEntry;unfold newFields;refine wpAny_bind (wpAny_newObj_type (s:={s with heap:=h1}) ?_ (hpl.sizeOk5 _ _ _ _ _));exact fin _ _ rfl (by first|(simp;done)|(rcases hpl with rfl|⟨_,_,_,_,_,_,_,rfl⟩<;>simp))
variable {P:Program}{w:World}{H H':L2.Hp}{s':Shared}{C dx:Addr}
theorem Fly0.note{oe:Obj}{vs:Array Value}{Q:Unit->Shared->Prop}(F:Fly0 P w (bK (env::outer)) H s e C dx H' s')(hfr:A.frames=some (env::outer))(hl:s'.heap.FunFrames base (env::outer))(hf:env.frame=some L)(hfree:∀b∈bK (env::outer),H' b=none)
  (he:s'.heap.get? e=some oe) (hd:oe.data=.fields vs) (h1:vs[1]?=some .none)
  (k:∀s2,iM P w (bK (env::outer)) H s e C dx (rawInt L) H' s2->Q () s2):wpAny M A (noteFrame (.ref e) env) Q E s':=by
 unfold noteFrame;simp only[hf];refine wpAny_bind (wpAny_field he hd h1 ?_);rw[if_neg (by decide)];refine vt hfr hl hf he hd (Array.getElem?_eq_some_iff.mp h1).1 fun h' T oe' ws oT ts hT c q1 q2 q3 q4 q5 q6 q7=>?_;obtain⟨b1,b2⟩:=F.back hT;exact k _ ⟨F.chg hfree b1 b2 c,oe',ws,T,oT,ts,q1,q2,q3,q4,b1,b2,q5,q6,q7⟩
theorem iM.note{Q:Unit->Shared->Prop}(F:iM P w (bK (env::outer)) H s e C dx .none H' s')(hfr:A.frames=some (env::outer))(hl:s'.heap.FunFrames base (env::outer))(hf:env.frame=some L)(hfree:∀b∈bK (env::outer),H' b=none)
  (k:∀s2,iM P w (bK (env::outer)) H s e C dx (rawInt L) H' s2->Q () s2):wpAny M A (noteFrame (.ref e) env) Q E s':=by
 obtain⟨oe,vs,T,oT,ts,he,hd,h1,nT,n0,nH,hT,hdT,h3⟩:=F.tb;unfold noteFrame;simp only[hf];refine wpAny_bind (wpAny_field he hd h1 ?_);rw[if_pos (show (Value.ref T != Value.none)=true from by simp)];refine wpAny_bind (wpAny_field hT hdT h3 ?_);rw[if_neg (show ¬ ((Value.none== rawInt L)=true) from by simp[rawInt])];refine wpAny_bind (wpAny_setField hT hdT (Array.getElem?_eq_some_iff.mp h3).1 ?_);have oth:∀b,b≠T->(s'.heap.update T (Obj.mapFields (·.setIfInBounds 3 Value.none))).get? b=s'.heap.get? b:=fun b hb=>Heap.get?_update_other _ _ (Ne.symm hb);have c1:Jk (bK (env::outer)) e T s'.heap (s'.heap.update T (Obj.mapFields (·.setIfInBounds 3 Value.none))):=
  ⟨fun b o q _ n2 _=>(oth b n2).trans q,fun b o q _ n2=>⟨o.slots,(oth b n2).trans q⟩,fun o ws q qd=>⟨o,ws,(oth e (Ne.symm nT)).trans q,rfl,rfl,qd⟩⟩
 have F1:=F.toFly0.chg hfree n0 nH c1;have hl1:(s'.heap.update T (Obj.mapFields (·.setIfInBounds 3 Value.none))).FunFrames base (env::outer):=hl.of_keeps fun b o hb nf=>⟨o,(oth b fun z=>by
  subst z;rw[hT] at hb;cases hb;exact nf ts hdT).trans hb,rfl⟩
 refine vt (s:={s' with heap:=s'.heap.update T (Obj.mapFields (·.setIfInBounds 3 Value.none))}) hfr hl1 hf ((oth e (Ne.symm nT)).trans he) hd (Array.getElem?_eq_some_iff.mp h1).1 fun h' T' oe' ws oT' ts' hT' c q1 q2 q3 q4 q5 q6 q7=>?_;obtain⟨b1,b2⟩:=F1.back hT';exact k _ ⟨F1.chg hfree b1 b2 c,oe',ws,T',oT',ts',q1,q2,q3,q4,b1,b2,q5,q6,q7⟩
theorem iM.land{fs:List Addr}{fl:Value}{Q:Unit->Shared->Prop}(F:iM P w fs H s e C dx fl H' s')(hfree:∀b∈fs,H' b=none)(k:∀s2,iM P w fs H s e C dx .none H' s2->Q () s2):
  wpAny M A (setFlight (.ref e) none) Q E s':=by
 obtain⟨oe,vs,T,oT,ts,he,hd,h1,nT,n0,nH,hT,hdT,h3⟩:=F.tb;have z3:3<ts.size:=(Array.getElem?_eq_some_iff.mp h3).1;unfold setFlight;refine wpAny_bind (wpAny_field he hd h1 ?_);rw[if_pos (show (Value.ref T != Value.none)=true from by simp)];refine wpAny_setField hT hdT z3 ?_;have oth:∀b,b≠T->(s'.heap.update T (Obj.mapFields (·.setIfInBounds 3 ((none:Option Addr).elim Value.none fun f=>rawInt f)))).get? b=s'.heap.get? b:=fun b hb=>Heap.get?_update_other _ _ (Ne.symm hb);refine k _ ⟨F.toFly0.chg hfree n0 nH ⟨fun b o q _ n2 _=>(oth b n2).trans q,fun b o q _ n2=>⟨o.slots,(oth b n2).trans q⟩,fun o ws q qd=>⟨o,ws,(oth e (Ne.symm nT)).trans q,rfl,rfl,qd⟩⟩,?_⟩;exact⟨oe,vs,T,_,_,(oth e (Ne.symm nT)).trans he,hd,h1,nT,n0,nH,Heap.get?_update_self _ hT (Obj.isFreed_of_fields (Obj.data_mapFields hdT _)),Obj.data_mapFields hdT _,by simp[z3]⟩
theorem iM.leave{Q:Unit->Shared->Prop}(F:iM P w (bK (env::outer)) H s e C dx .none H' s')(hfr:A.frames=some (env::outer))(hl:s'.heap.FunFrames base (env::outer))(hf:env.frame=some L)(hfree:∀b∈bK (env::outer),H' b=none)
  (k:∀s2,iM P w (bK (env::outer)) H s e C dx .none H' s2->Q () s2):wpAny M A (leaving env (.ref e)) Q E s':=by
 unfold leaving;exact wpAny_bind (F.note hfr hl hf hfree fun s2 F2=>F2.land hfree k)
theorem Fly0.leave{oe:Obj}{vs:Array Value}{Q:Unit->Shared->Prop}(F:Fly0 P w (bK (env::outer)) H s e C dx H' s')(hfr:A.frames=some (env::outer))(hl:s'.heap.FunFrames base (env::outer))(hf:env.frame=some L)(hfree:∀b∈bK (env::outer),H' b=none)
  (he:s'.heap.get? e=some oe) (hd:oe.data=.fields vs) (h1:vs[1]?=some .none)
  (k:∀s2,iM P w (bK (env::outer)) H s e C dx .none H' s2->Q () s2):wpAny M A (leaving env (.ref e)) Q E s':=by
 unfold leaving;exact wpAny_bind (F.note hfr hl hf hfree he hd h1 fun s2 F2=>F2.land hfree k)
end
noncomputable def dG(P:Program)(w:World):eE:=fun l H s E e s'=>∃ea C dx H',e=.ref ea/\iM P w (bK l) H s ea C dx .none H' s'/\E e none H'
theorem dG.never{P:Program}{w:World}:∀outer H s e s',¬ dG P w outer H s E0 e s':=fun _ _ _ _ _ Z=>Z.g fun _ Z=>Z.g fun _ Z=>Z.g fun _ Z=>Z.g fun _ Z=>Z.g fun _ Z=>Z.g fun _ z=>z
noncomputable abbrev p6(X:Cx)(E:XK):Value->Shared->Prop:=fun e s'=>wpAny (model X.prog X.w) X.A (leaving X.env e) (fun _ s2=>dG X.prog X.w X.outer X.j4 X.aI E e s2) (fun e' s2=>dG X.prog X.w X.outer X.j4 X.aI E e' s2) s'
section
variable {X:Cx}{pins:List (Addr×Obj)}{σ:L2.St}{H H':L2.Hp}{s s':Shared}{E:XK}{e C dx:Addr}{fl:Value}
theorem iM.up(I:Inv X pins σ H s)(hx:X.ex=[])(hs:X.stack=X.env::X.outer)(hfm:X.env.frame=some X.env.locals)(F:iM X.prog X.w (bK X.stack) H s e C dx fl H' s'):
  iM X.prog X.w (bK X.outer) X.j4 X.aI e C dx fl H' s':=by
 have back:∀T,s.heap.get? T=none->X.aI.heap.get? T=none:=fun T q=>by
  cases z:X.aI.heap.get? T with
  |none=>rfl
  |some o=>
   obtain⟨o',z'⟩:=I.base.there T o z (by rw[hx];simp);rw[q] at z';cases z'
 have b0:Un (bK X.outer) [] X.j4 H X.aI.heap s.heap:=hx▸I.base;have sub:∀b,b∈bK X.outer->b∈bK X.stack:=fun b hb=>by
  rw[hs];show b∈(X.env::X.outer).filterMap (·.frame);rw[List.filterMap_cons,hfm];exact List.mem_cons_of_mem _ hb
 have lX:=(b0.mono (fs':=bK X.stack) (ex':=[]) sub fun _ z=>z).trans F.un;have ex:∀b o,X.aI.heap.get? b=some o->b∉bK X.outer->b∉bK X.stack:=fun b o q hb hm=>by
  rcases List.mem_cons.mp (I.kB b hm) with z|z
  .exact absurd (Heap.lt_size q) (by rw[z];exact Nat.not_lt.mpr I.ok.above)
  .exact hb z
 obtain⟨oe,vs,T,oT,ts,he,hd,h1,nT,n0,r⟩:=F.tb;exact⟨⟨F.os.trans I.os,F.bare,⟨fun b o q n hb hx'=>lX.keep b o q n (ex b o q hb) hx',fun b o q n hb hx'=>lX.slot b o q n (sub b hb) hx',lX.free,lX.there,lX.fq,lX.eP,lX.fh⟩,F.ao,F.tr,back _ F.new⟩,oe,vs,T,oT,ts,he,hd,h1,nT,back _ n0,r⟩
theorem Fly0.inv(I:Inv X pins σ H s)(F:Fly0 X.prog X.w (bK X.stack) H s e C dx H' s'):Inv X pins σ H' s':=I.Em F.os F.un F.ao F.bare (fun b z=>absurd z (by simp))
theorem DT(hx:X.ex=[])(hs:X.stack=X.env::X.outer)(hfm:X.env.frame=some X.env.locals)(hxe:X.xe=p6 X E):Passes (dG X.prog X.w) X E:=fun pins σ H s e s' I Z=>Z.g fun ea Z=>Z.g fun C Z=>Z.g fun dx Z=>Z.g fun H' Z=>Z.g fun ee Z=>Z.g fun F q=>by
 subst ee;rw[hxe];have J:=F.toFly0.inv I;have fr:=J.kM;have st:=J.stack;have fm:=J.ok.frames;rw[hs] at fr st fm F;refine F.leave (base:=X.base) fm st hfm fr fun s2 F2=>?_;rw[<-hs] at F2;exact⟨ea,C,dx,H',rfl,F2.up I hx hs hfm,q⟩
theorem HY{oe:Obj}{vs:Array Value}(hx:X.ex=[])(hs:X.stack=X.env::X.outer)(hfm:X.env.frame=some X.env.locals)(hxe:X.xe=p6 X E)(I:Inv X pins σ H s)(F:Fly0 X.prog X.w (bK X.stack) H s e C dx H' s')
  (he:s'.heap.get? e=some oe) (hd:oe.data=.fields vs) (h1:vs[1]?=some .none) (q:E (.ref e) none H'):X.xe (.ref e) s':=by
 rw[hxe];have J:=F.inv I;have fr:=J.kM;have st:=J.stack;have fm:=J.ok.frames;rw[hs] at fr st fm F;refine F.leave (base:=X.base) fm st hfm fr he hd h1 fun s2 F2=>?_;rw[<-hs] at F2;exact⟨e,C,dx,H',rfl,F2.up I hx hs hfm,q⟩
end
end TwS
namespace TwS
open PySem L2 PyProof.Rows Builtin Builtin.ObjectAttr
noncomputable def xa:List Value:=[.type "ValueError",.type "Exception",.type "BaseException",.type "object"]
structure XC(K:PySem.W.Frag)(C:Addr):Prop where
 mro:∃(cd:ClassData) (os:List Addr),PySem.W.clsIn K C=some cd/\cd.mro=.ref C::(os.map Value.ref++xa)/\cd.hasDict=true
 sa:PySem.W.findIn K (.ref C) "__setattr__" = some (some (.builtin "object.__setattr__"))
 ga:PySem.W.findIn K (.ref C) "__getattribute__" = some (some (.builtin "BaseException.__getattribute__"))
 gh:PySem.W.findIn K (.ref C) "__getattr__" = some none
theorem oq(self:Value):∀os:List Addr,refuseLoop self "__setattr__" (os.map Value.ref++xa)=pure ()
 |[]=>PySem.F.store_ValueError.passes self
 |a::r=>by rw[List.map_cons,List.cons_append,refuseLoop_ref];exact oq self r
theorem FV(os:List Addr)(v:Value)(h:xa.contains v=true):(os.map Value.ref++xa).contains v=true:=by rw[List.contains_append,h,Bool.or_true]
theorem XC.sub{K:PySem.W.Frag}{C:Addr}(c:XC K C){v:Value}(h:xa.contains v=true):PySem.W.mroIn K C v=some true:=by obtain⟨cd,os,e1,e2,_⟩:=c.mro;unfold PySem.W.mroIn;rw[e1,Option.bind_some,e2];show some ((Value.ref C::(os.map Value.ref++xa)).contains v)=_;rw[List.contains_cons,FV os v h,Bool.or_true]
section
variable {prog:Program}{w:World}{A:Around}{E:Value->Shared->Prop}{s:Shared}{K:PySem.W.Frag}{x C:Addr}{ox:Obj}{name:Str}{v:Value}
theorem Pt{od:Option Obj}{tk:Tok}{R:Result->Shared->Prop}(X:K.In s.heap)(I:PySem.W.InstAt s.heap x ox C od)(c:XC K C)(n:bh K C name)
  (h:∀b,wpAny (model prog w) A.in1 (storeInOwnDict (.ref x) (.ref C) (.str name tk) name v b) (fun fin s'=>match fin with | .done f=>R (.ok f) s' | .again c'=>c'.quiet=true/\codeAny (model prog w) A c' R s') (fun e s'=>R (.error e) s') s):
  codeAny (model prog w) A (.call (.builtin "object.__setattr__") ⟨[.ref x,.str name tk,v],[]⟩) R s:=by
 have F:=PySem.F.store_object;obtain⟨cd,os,e1,e2,_⟩:=c.mro;have sub:PySem.W.Looks (model prog w) s.heap (isInstance (.ref x) (.type "object")) true:=I.type.andThen (PySem.W.looks_mroIn X (c.sub (by decide)));refine codeAny_call_builtin F.slot.plain F.entry (@PySem.W.check_slot (model prog w) _ _ s "object.__setattr__" "object" "__setattr__" (.ref x) [.str name tk,v] [] _ F.kind F.split sub (F.args (.ref x) (.str name tk) v) ?_);have hm:PySem.W.Looks (model prog w) s.heap (mroOf (.ref C)) cd.mro:=(PySem.W.looks_clsIn X e1).andThen .now;rw[PySem.W.osa_eq,refuse_eq];refine wpAny_bind (wpAny_bind (I.type.here (wpAny_bind (hm.here ?_))));rw[e2,refuseLoop_ref,oq];refine wpAny_pure (wpAny_bind (I.type.here (wpAny_bind ((PySem.W.looks_findIn X n).here (wpAny_bind (wpAny_pure ?_))))));exact h _
theorem DS{od:Option Obj}{Q:Unit->Shared->Prop}(X:K.In s.heap)(I:PySem.W.InstAt s.heap x ox C od)(c:XC K C)(n:bh K C name)
  (h:∀b,wpAny (model prog w) A.in1 (storeInOwnDict (.ref x) (.ref C) (.str name s.toks) name v b) (fun fin s'=>match fin with | .done (.ret _)=>Q () s'|_=>False) (fun e s'=>E e s') {s with toks:=s.toks+1}):
  wpAny (model prog w) A (setAttr (.ref x) name v) Q E s:=by
 refine PySem.W.set_plain X I c.sa (Pt (s:={s with toks:=s.toks+1}) X I c n fun b=>wpAny_mono (h b) (fun fin s' z=>?_) fun _ _ z=>z);rcases fin with (_|_|_|_)|_<;>first|exact z|exact z.elim
theorem GH{vs:Array Value}{Q:Unit->Shared->Prop}(X:K.In s.heap)(hx:s.heap.get? x=some ox)(hc:ox.cls=.ref C)(hd:ox.dict=none)(hf:ox.data=.fields vs)(c:XC K C)(n:bh K C name)
  (h:∀h' t',h'.Ns1 s.heap.objs.size (fun y=>if y=name then some v else none)->h'.get? x=some {ox with dict:=some s.heap.objs.size}->(∀b o,b≠x->s.heap.get? b=some o->h'.get? b=some o)->Q () {s with heap:=h',toks:=t'}):
  wpAny (model prog w) A (setAttr (.ref x) name v) Q E s:=by
 obtain⟨cd,os,e1,e2,e3⟩:=c.mro;have I:PySem.W.InstAt s.heap x ox C none:=⟨hx,hc,by unfold PySem.W.notCls;rw[hf],by rw[hd];trivial⟩;refine DS X I c n fun b=>?_;obtain⟨oc,od,oda,osl⟩:=ox;simp only at hc hd hf;subst hc hd hf;unfold storeInOwnDict ownDictForStores instanceDict;refine wpAny_bind (wpAny_pure (wpAny_bind (wpAny_bind (wpAny_loadPart (s:={s with toks:=s.toks+1}) hx (wpAny_bind (PySem.W.Looks.here (s:={s with toks:=s.toks+1}) (PySem.W.looks_clsIn X e1) ?_))))));rw[e3];have hx1:(s.heap.push {cls:=.type "dict",data:=.dict #[]}).get? x=some ⟨.ref C,none,.fields vs,osl⟩:=Heap.get?_push_of_some _ hx;have ne:x≠s.heap.objs.size:=Nat.ne_of_lt (Heap.lt_size hx);refine wpAny_bind (wpAny_alloc (wpAny_bind (wpAny_update hx1 ?_)));refine wpAny_pure (a:=some s.heap.objs.size) ?_;have gd:((s.heap.push {cls:=.type "dict",data:=.dict #[]}).update x fun o=>{o with dict:=some s.heap.objs.size}).get? s.heap.objs.size=some {cls:=.type "dict",data:=.dict #[]}:=
  (Heap.get?_update_other _ _ ne).trans (Heap.get?_push_at rfl rfl)
 have gx:((s.heap.push {cls:=.type "dict",data:=.dict #[]}).update x fun o=>{o with dict:=some s.heap.objs.size}).get? x=some ⟨.ref C,some s.heap.objs.size,.fields vs,osl⟩:=Heap.get?_update_self _ hx1 rfl;have nd:((s.heap.push {cls:=.type "dict",data:=.dict #[]}).update x fun o=>{o with dict:=some s.heap.objs.size}).Ns s.heap.objs.size (fun _=>none):=⟨_,#[],_,gd,rfl,fun e he=>absurd he (by simp),fun _=>rfl⟩;show wpAny _ _ (storeInDict s.heap.objs.size (.str name s.toks) name v) _ _ _;unfold storeInDict newKeyGuard;refine wpAny_bind (wpAny_pure (wpAny_bind (wpAny_nsSet1 (Heap.Ns1.of_empty nd) fun h' hn' hs=>?_)));obtain⟨oD,esD,epD,hoD,hdD,hcD⟩:=hn'.count (Within.cons name v Within.nil);refine wpAny_bind (wpAny_lookBehind hoD (by rw[hdD];exact pastItsLine_dict (Nat.le_trans hcD (by rw[List.length_cons,List.length_nil,sizeLine_eq];omega))) ?_);refine wpAny_pure (h h' _ hn' ((hs.2 x ne).trans gx) fun b o nb q=>?_);exact (hs.2 b (Nat.ne_of_lt (Heap.lt_size q))).trans ((Heap.get?_update_other _ _ (Ne.symm nb)).trans (Heap.get?_push_of_some _ q))
theorem Jr{vs:Array Value}{dx:Addr}{ns:List Str}{mA:Str->Option Value}{Q:Unit->Shared->Prop}(X:K.In s.heap)(hx:s.heap.get? x=some ox)(hc:ox.cls=.ref C)(hd:ox.dict=some dx)(hf:ox.data=.fields vs)(hn:s.heap.Ns1 dx mA)(c:XC K C)(n:bh K C name)
  (hw:PySem.Within mA ns) (hsz:ns.length<=1000)
  (h:∀h' t',h'.Ns1 dx (fun y=>if y=name then some v else mA y)->(∀b,b≠dx->h'.get? b=s.heap.get? b)->Q () {s with heap:=h',toks:=t'}):
  wpAny (model prog w) A (setAttr (.ref x) name v) Q E s:=by
 obtain⟨cd,os,e1,e2,e3⟩:=c.mro;obtain⟨od,es,ep,ho,r⟩:=id hn;have I:PySem.W.InstAt s.heap x ox C (some od):=⟨hx,hc,by unfold PySem.W.notCls;rw[hf],by rw[hd];exact ho⟩;refine DS X I c n fun b=>?_;obtain⟨oc,odi,oda,osl⟩:=ox;simp only at hc hd hf;subst hc hd hf;unfold storeInOwnDict ownDictForStores instanceDict;refine wpAny_bind (wpAny_pure (wpAny_bind (wpAny_bind (wpAny_loadPart (s:={s with toks:=s.toks+1}) hx (wpAny_bind (PySem.W.Looks.here (s:={s with toks:=s.toks+1}) (PySem.W.looks_clsIn X e1) ?_))))));rw[e3];refine wpAny_pure (a:=some dx) ?_;show wpAny _ _ (storeInDict dx (.str name s.toks) name v) _ _ _;unfold storeInDict newKeyGuard;refine wpAny_bind (wpAny_pure (wpAny_bind (wpAny_nsSet1 (s:={s with toks:=s.toks+1}) hn fun h' hn' hs=>?_)));obtain⟨oD,esD,epD,hoD,hdD,hcD⟩:=hn'.count (Within.cons name v hw);refine wpAny_bind (wpAny_lookBehind hoD (by rw[hdD];exact pastItsLine_dict (Nat.le_trans hcD (by rw[List.length_cons,sizeLine_eq];omega))) ?_);exact wpAny_pure (h h' _ hn' hs.2)
theorem LJ{od:Obj}{Q:Value->Shared->Prop}(X:K.In s.heap)(I:PySem.W.InstAt s.heap x ox C (some od))(c:XC K C)(n:bh K C name)(hl:PySem.W.lookIn name od=some (some v))(hv:PySem.W.handedIn v=true)
  (h:Q v {s with toks:=s.toks+1}):wpAny (model prog w) A (getAttr (.ref x) name true) Q E s:=by
 obtain⟨cd,os,e1,e2,e3⟩:=c.mro;obtain⟨hh,g,d,t,ost⟩:=s;have L0:=I.type (M:=model prog w);have L1:=PySem.W.looks_findIn (M:=model prog w) X c.ga;have L2:=PySem.W.looks_findIn (M:=model prog w) X c.gh;have hf:PySem.W.findObj K C (some od) name=some (.value v):=PySem.W.findObj_own (by unfold PySem.W.hasDictIn;rw[e1];exact e3) n rfl hl;have L3:=PySem.W.looks_find (M:=model prog w) X I hf;have LB:PySem.W.Looks (model prog w) hh (isInstance (.ref x) (.type "BaseException")) true:=L0.andThen (PySem.W.looks_mroIn X (c.sub (by decide)));have G:=PySem.F.excAttr_ValueError.ga;unfold getAttr getAttrBy;refine wpAny_bind (wpAny_mkText (wpAny_holding (wpAny_bind (L0.at (wpAny_bind (L1.at ?_))))));show wpAny _ _ (getAttrByItsOwn _ _ _ _ _ _) _ _ _;unfold getAttrByItsOwn;refine wpAny_bind (L2.at (wpAny_bind (wpAny_attempt (wpAny_holding ?_))));show wpAny _ _ (boundAndCalled _ _ _) _ _ _;unfold boundAndCalled;rw[G.bind];refine wpAny_bind (wpAny_pure (wpAny_call (codeAny_call_builtin G.plain PySem.F.entry_bexc_ga (@PySem.W.check_slot (model prog w) _ _ _ "BaseException.__getattribute__" "BaseException" "__getattribute__" (.ref x) [.str name t] [] _ (by decide+kernel) (by decide+kernel) LB (PySem.F.args_bexc_ga _ _) ?_))));refine wpAny_bind (wpAny_pure (wpAny_bind (wpAny_pure (wpAny_bind (L0.at (wpAny_bind (L3.at ?_)))))));refine wpAny_pure ?_;show wpAny _ _ (handedOut v) _ _ _;rw[PySem.W.handedOut_of hv];exact wpAny_pure h
end
end TwS
namespace TwS
open PySem L2 PyProof.Rows
noncomputable def fM(C:Addr)(d:Option Addr)(e:Addr):HO:=.ext fun h=>∃o vs,h.get? e=some o/\o.cls=.ref C/\o.dict=d/\o.data=.fields vs/\vs[1]?=some .none
theorem fM.ok{P:Program}{w:World}{H:L2.Hp}{h:Heap}{C e:Addr}{d:Option Addr}{o:Obj}{vs:Array Value}(e1:h.get? e=some o)(e2:o.cls=.ref C)(e3:o.dict=d)(e4:o.data=.fields vs)(e5:vs[1]?=some .none):bJ P w H h e (fM C d e):=
 ⟨⟨o,vs,e1,e2,e3,e4,e5⟩,⟨o,e1⟩,fun h1 h2 ⟨o,vs,a,b⟩ k=>⟨o,vs,k o a,b⟩⟩
theorem zQ{H:L2.Hp}{dx e:Addr}{a b x:HO}(n:dx≠e):upd (upd (upd H dx a) e x) dx b=upd (upd H dx b) e x:=by
 funext c;unfold upd;by_cases h1:c=dx
 .subst h1;simp[n]
 .by_cases h2:c=e
  .subst h2;simp[h1]
  .simp[h1,h2]
theorem Ck{H:L2.Hp}{dx e:Addr}{a b x:HO}(n:dx≠e):upd (upd (upd H e a) dx b) e x=upd (upd H dx b) e x:=by
 funext c;unfold upd;by_cases h1:c=e
 .subst h1;simp
 .simp[h1]
section
variable {X:Cx}{pins:List (Addr×Obj)}{σ:L2.St}{H H':L2.Hp}{s s':Shared}{x dx C:Addr}{A:Around}{E:Value->Shared->Prop}
theorem Inv.HZ(I:Inv X pins σ H s)(os:s'.os=s.os)(ba:AllBare s'.gens)(hx:∃φ,H x=some (.ext φ))(hd:(H dx=none/\s.heap.objs.size<=dx)\/∃gs,H dx=some (.xd gs))(sm:∀b,b≠x->b≠dx->H' b=H b)
  (kp:∀b o,b≠x->b≠dx->s.heap.get? b=some o->s'.heap.get? b=some o) (tx:∃o,s'.heap.get? x=some o) (td:∃o,s'.heap.get? dx=some o)
  (ox:∀u,H' x=some u->bJ X.prog X.w H' s'.heap x u) (od:∀u,H' dx=some u->bJ X.prog X.w H' s'.heap dx u):Inv X pins σ H' s':=by
 obtain⟨φ,hx⟩:=hx;have nx:∀b u,H b=u->(∀φ,u≠some (.ext φ))->b≠x:=fun b u q n z=>n φ (by rw[<-q,z];exact hx);have nd:∀b o,s.heap.get? b=some o->H b=none->b≠dx:=fun b o q n z=>by
  rcases hd with ⟨_,d⟩|⟨gs,d⟩
  .exact absurd (Heap.lt_size q) (by rw[z];exact Nat.not_lt.mpr d)
  .rw[z,d] at n;cases n
 have nd':∀b u,H b=some u->(∀gs,u≠.xd gs)->b≠dx:=fun b u q n z=>by
  rcases hd with ⟨d,_⟩|⟨gs,d⟩
  .rw[z,d] at q;cases q
  .rw[z,d] at q;cases q;exact n _ rfl
 have one:∀b u,H b=some u->(∀φ,u≠.ext φ)->(∀gs,u≠.xd gs)->H' b=some u:=fun b u q n1 n2=>by
  rw[sm b (nx b _ q fun φ z=>n1 φ (Option.some.inj z)) (nd' b u q n2)];exact q
 refine I.Em os ⟨fun b o q n _ _=>?_,fun b o q n _ _=>?_,fun b o q n _=>?_,fun b o q _=>?_,fun b xs q=>one b _ q (fun _ z=>nomatch z) (fun _ z=>nomatch z),fun b o u q=>one b _ q (fun _ z=>nomatch z) (fun _ z=>nomatch z),fun b ps q=>⟨#[],?_⟩⟩ (fun a o q=>?_) ba (ch:=[]) (fun b z=>absurd z (by simp))
 .exact kp b o (nx b _ n (fun _ z=>nomatch z)) (nd b o q n) q
 .exact⟨o.slots,kp b o (nx b _ n (fun _ z=>nomatch z)) (nd b o q n) q⟩
 .rw[sm b (nx b _ n (fun _ z=>nomatch z)) (nd b o q n)];exact n
 .by_cases z:b=x
  .subst z;exact tx
  .by_cases z2:b=dx
   .subst z2;exact td
   .exact⟨o,kp b o z z2 q⟩
 .rw[one b _ q (fun _ z=>nomatch z) (fun _ z=>nomatch z)];simp
 .by_cases z:a=x
  .subst z;exact ox o q
  .by_cases z2:a=dx
   .subst z2;exact od o q
   .rw[sm a z z2] at q;refine (I.ao a o q).eV (fun b u hb r=>?_) (fun b hb=>one b _ hb (fun _ z=>nomatch z) (fun _ z=>nomatch z)) fun b xs hb=>one b _ hb (fun _ z=>nomatch z) (fun _ z=>nomatch z);rcases hb with rfl|hb
    .exact kp b u z z2 r
    .exact kp b u (nx b _ hb (fun _ z=>nomatch z)) (nd' b _ hb (fun _ z=>nomatch z)) r
theorem BX{f g:Str}{y:V}{u:Value}(ry:RelV y u):dC (List.lookup g [(f,y)]) (if g=f then some u else none):=by
 by_cases h:g=f
 .subst h;simp[List.lookup];exact ry
 .have:(g== f)=false:=beq_eq_false_iff_ne.mpr h;simp[List.lookup,this,h,dC]
theorem Cj{f:Str}{y:V}{u:Value}{Q:Unit->Shared->Prop}(I:Inv X pins σ H s)(e:H x=some (fM C none x))(c:XC X.K C)(n:bh X.K C f)(ry:RelV y u)
  (h:∀dx s',H dx=none->dx≠x->Inv X pins σ (upd (upd H dx (.xd [(f,y)])) x (fM C (some dx) x)) s'->Q () s'):wpAny (model X.prog X.w) A (setAttr (.ref x) f u) Q E s:=by
 obtain⟨⟨o,vs,e1,e2,e3,e4,e5⟩,_,_⟩:=I.ao x _ e;refine GH I.cR e1 e2 e3 e4 c n fun h' t' k1 k2 k3=>?_;have hf:=I.ao.fresh (Nat.le_refl s.heap.objs.size);have ne:s.heap.objs.size≠x:=(Nat.ne_of_lt (Heap.lt_size e1)).symm;refine h s.heap.objs.size _ hf ne (Inv.HZ (x:=x) (dx:=s.heap.objs.size) I rfl I.bare ⟨_,e⟩ (.inl ⟨hf,Nat.le_refl _⟩) (fun b n1 n2=>by rw[aq n1,aq n2]) (fun b o n1 _ q=>k3 b o n1 q) ⟨_,k2⟩ ?_ (fun u' q=>?_) fun u' q=>?_)
 .obtain⟨o,_,_,q,_⟩:=k1;exact⟨o,q⟩
 .rw[aJ] at q;cases q;exact fM.ok k2 e2 rfl e4 e5
 .rw[aq ne,aJ] at q;cases q;exact⟨_,k1,fun g=>BX ry⟩
theorem BG{f:Str}{y:V}{u:Value}{gs:List (Str×V)}{Q:Unit->Shared->Prop}(I:Inv X pins σ H s)(e:H x=some (fM C (some dx) x))(ed:H dx=some (.xd gs))(hl:gs.length<=1000)(c:XC X.K C)(n:bh X.K C f)(ry:RelV y u)
  (h:∀s',Inv X pins σ (upd H dx (.xd (cX f y gs))) s'->Q () s'):wpAny (model X.prog X.w) A (setAttr (.ref x) f u) Q E s:=by
 obtain⟨⟨o,vs,e1,e2,e3,e4,e5⟩,_,_⟩:=I.ao x _ e;obtain⟨mA,n1,r1⟩:=I.ao dx _ ed;have ne:dx≠x:=fun z=>by rw[z,e] at ed;cases ed
 refine Jr (ns:=gs.map (·.1)) I.cR e1 e2 e3 e4 n1 c n (fun g hg=>?_) (by simpa using hl) fun h' t' k1 k2=>?_
 .have:=r1 g;cases q:gs.lookup g with
  |none=>
   rw[q] at this;cases q2:mA g with
   |none=>exact absurd q2 hg
   |some v=>rw[q2] at this;exact this.elim
  |some v=>exact List.mem_map.mpr ⟨(g,v),PySem.mem_of_lookup q,rfl⟩
 .refine h _ (Inv.HZ (x:=x) (dx:=dx) I rfl I.bare ⟨_,e⟩ (.inr ⟨_,ed⟩) (fun b n1 n2=>by rw[aq n2]) (fun b o _ n2 q=>(k2 b n2).trans q) ⟨_,(k2 x (Ne.symm ne)).trans e1⟩ ?_ (fun u' q=>?_) fun u' q=>?_)
  .obtain⟨o,_,_,q,_⟩:=k1;exact⟨o,q⟩
  .rw[aq (Ne.symm ne),e] at q;cases q;exact fM.ok ((k2 x (Ne.symm ne)).trans e1) e2 e3 e4 e5
  .rw[aJ] at q;cases q;refine⟨_,k1,fun g=>?_⟩;rw[j1];by_cases z:g=f
   .rw[if_pos z,if_pos z];exact ry
   .rw[if_neg z,if_neg z];exact r1 g
noncomputable def tX(K:PySem.W.Frag)(j:Nat)(f:Str):TS:=fun D σ H=>∃e v C,σ[0]?=some (some (.ref e))/\σ[j]?=some (some v)/\XC K C/\bh K C f/\
 ((H e=some (fM C none e)/\∀dx,H dx=none->dx≠e->D.nx σ (upd (upd H dx (.xd [(f,v)])) e (fM C (some dx) e)))\/∃dx gs,H e=some (fM C (some dx) e)/\H dx=some (.xd gs)/\gs.length<=1000/\D.nx σ (upd H dx (.xd (cX f v gs))))
theorem Pw{sf f y:Str}{p1 p2 p3 pos:Pos}{j:Nat}(h0:X.N[0]?=some sf)(v0:iX X.env.scope sf)(hj:X.N[j]?=some y)(vj:iX X.env.scope y)(d0:(sf== ("__debug__" : Str))=false)(c0:(sf== ("__classdict__" : Str))=false)(dj:(y== ("__debug__" : Str))=false)(cj:(y== ("__classdict__" : Str))=false):
  PS X (.Assign [.Attribute (.Name sf p1) f p2] (.Name y p3) pos) (tX X.K j f):=by
 intro pins s σ H D I ⟨e,v,C,q0,q1,c,n,h⟩;refine plainObj_wpAny_Assign_Attribute (aC (kf hj vj dj cj pins s σ H (fun y' H1=>y'=v/\H1=H) I ⟨v,q1,rfl,rfl⟩) fun u s1 Z=>Z.g4 fun y' H1 I1 ry Z=>Z.g fun e1 e2=>aC (kf h0 v0 d0 c0 pins s1 σ H1 (fun x' H2=>x'=.ref e/\H2=H1) I1 ⟨_,q0,rfl,rfl⟩) fun ov s2 Z=>Z.g4 fun x' H2 I2 rx Z=>Z.g fun e3 e4=>?_) rfl;subst e1 e2 e3 e4;obtain rfl:ov=Value.ref e:=rx;rcases h with ⟨he,k⟩|⟨dx,gs,he,hd,hl,k⟩
 .exact Cj I2 he c n ry fun dx s3 z1 z2 I3=>⟨σ,_,I3,k dx z1 z2⟩
 .exact BG I2 he hd hl c n ry fun s3 I3=>⟨σ,_,I3,k⟩
end
end TwS
namespace TwS
open PySem L2
noncomputable abbrev Rl(α β:Type):=PySem.W.Frag->(Nat->Addr)->Nat->L2.Hp->α->β->Prop
def ai(K:Zk){α β:Type}(R:Rl α β)(ι:Nat->Addr)(h:Tw.Hp)(H:L2.Hp)(m:Tw.R α)(Q:β->L2.Hp->Prop):Prop:=match m with
 |.ok a h'=>∀ι' H' b,Ext ι h H ι' h' H'->HR K ι' h' H'->R K.K ι' h'.length H' a b->Q b H'
 |.aD a h'=>∀ι' H',Ext ι h H ι' h' H'->HR K ι' h' H'->K.ex (.ref (ι' a)) none H'
 |.bad=>False
structure At(K:Zk)(ι:Nat->Addr)(h:Tw.Hp)(H:L2.Hp)(ρ:Tw.Env)(σ:L2.St):Prop where
 hr:HR K ι h H
 len:σ.length=ρ.length
 st:∀(i:Nat)(w:Tw.W),ρ[i]?=some (some w)->∃v,σ[i]?=some (some v)/\RW K.K ι h.length H w v
noncomputable def tG(K:Zk){α β:Type}(R:Rl α β)(d:Tw.Env->Tw.Hp->Tw.R α):L2.St->L2.Hp->(β->L2.Hp->Prop)->Prop:=
 fun σ H Q=>∃ρ h ι,At K ι h H ρ σ/\ai K R ι h H (d ρ h) Q
noncomputable abbrev RE:Rl Tw.W V:=fun K ι n H w v=>RW K ι n H w v
noncomputable abbrev RA(k:Nat):Rl (List Tw.W) (List V):=fun K ι n H w v=>aL K ι n H w v/\w.length=k
noncomputable abbrev RB:Rl Bool Bool:=fun _ _ _ _ a b=>a=b
abbrev tE(K:Zk)(d:Tw.Env->Tw.Hp->Tw.R Tw.W):TE:=tG K RE d
section
variable {K:Zk}{α β γ δ:Type}{R:Rl α β}{R':Rl γ δ}{ι ι1:Nat->Addr}{h h1:Tw.Hp}{H H1:L2.Hp}{ρ:Tw.Env}{σ:L2.St}{m:Tw.R α}
theorem ai.mono{Q Q':β->L2.Hp->Prop}(p:ai K R ι h H m Q)(f:∀b H',Q b H'->Q' b H'):ai K R ι h H m Q':=by
 cases m with
 |ok a h'=>exact fun ι' H' b e r q=>f _ _ (p ι' H' b e r q)
 |aD=>exact p
 |bad=>exact p
theorem ai.later{Q:β->L2.Hp->Prop}(p:ai K R ι h H m Q)(e:Ext ι h H ι1 h1 H1):ai K R ι1 h1 H1 m Q:=by
 cases m with
 |ok a h'=>exact fun ι' H' b e' r q=>p ι' H' b (e.trans e') r q
 |aD a h'=>exact fun ι' H' e' r=>p ι' H' (e.trans e') r
 |bad=>exact p
theorem At.later(a:At K ι h H ρ σ)(e:Ext ι h H ι1 h1 H1)(r:HR K ι1 h1 H1):At K ι1 h1 H1 ρ σ:=
 ⟨r,a.len,fun i w q=>let ⟨v,q1,q2⟩:=a.st i w q;⟨v,q1,q2.keep (e.keeps a.hr)⟩⟩
theorem step{k:α->Tw.Hp->Tw.R γ}{Q:δ->L2.Hp->Prop}(a:At K ι h H ρ σ)(p:ai K R' ι h H (m.bind k) Q):
  ai K R ι h H m (fun x H1=>∃w h1 ι1,At K ι1 h1 H1 ρ σ/\Ext ι h H ι1 h1 H1/\R K.K ι1 h1.length H1 w x/\ai K R' ι1 h1 H1 (k w h1) Q):=by
 cases m with
 |ok w h1=>exact fun ι' H' b e r q=>⟨w,h1,ι',a.later e r,e,q,ai.later p e⟩
 |aD a h'=>exact p
 |bad=>exact p
theorem ai.self{a:α}{b:β}{Q:β->L2.Hp->Prop}(p:ai K R ι h H (.ok a h) Q)(r:HR K ι h H)(q:R K.K ι h.length H a b):Q b H:=p ι H b (Ext.refl ι h H) r q
theorem ai.tup{ws:List Tw.W}{xs:List V}{Q:VK}(p:ai K RE ι h H (.ok (.tup ws) h) Q)(r:HR K ι h H)(q:aL K.K ι h.length H ws xs):∀a,H a=none->Q (.ref a) (upd H a (.tup xs)):=fun a ha=>by
 obtain⟨r',e⟩:=r.grow (o:=.tup xs) ha;exact p ι _ _ e r' (.tup (.inl aJ) (q.keep (e.keeps r)))
theorem ai.lst{ws:List Tw.W}{xs:List V}{Q:VK}(p:ai K RE ι h H (Tw.new (.lst ws) h) Q)(r:HR K ι h H)(q:aL K.K ι h.length H ws xs):∀a,H a=none->Q (.ref a) (upd H a (.lst xs)):=fun a ha=>by
 obtain⟨r',e⟩:=r.new (u:=.lst ws) (o:=.lst xs) ha rfl fun ι' n' H' k e=>⟨xs,e,q.keep k⟩;refine p _ _ (.ref a) e r' ?_;have z:RW K.K (eT ι h.length a) (h++[Tw.O.lst ws]).length (upd H a (.lst xs)) (.ref h.length) (.ref (eT ι h.length a h.length)):=.ref (by simp);rw[cE] at z;exact z
theorem ai.ag{kvs:List (Tw.W×Tw.W)}{xs:List (Key×V)}{Q:VK}(p:ai K RE ι h H (Tw.new (.ag kvs) h) Q)(r:HR K ι h H)(q:RD K.K ι h.length H kvs xs):∀a,H a=none->Q (.ref a) (upd H a (.dK xs)):=fun a ha=>by
 obtain⟨r',e⟩:=r.new (u:=.ag kvs) (o:=.dK xs) ha rfl fun ι' n' H' k e=>⟨xs,e,q.keep k⟩;refine p _ _ (.ref a) e r' ?_;have z:RW K.K (eT ι h.length a) (h++[Tw.O.ag kvs]).length (upd H a (.dK xs)) (.ref h.length) (.ref (eT ι h.length a h.length)):=.ref (by simp);rw[cE] at z;exact z
end
theorem PE.imp{X:Cx}{e:Expr}{t t':TE}(p:PE X e t)(f:∀σ H Q,t' σ H Q->t σ H Q):PE X e t':=fun pins s σ H Q I q=>p pins s σ H Q I (f σ H Q q)
theorem PT.imp{X:Cx}{e:Expr}{t t':TT}(p:PT X e t)(f:∀σ H Q,t' σ H Q->t σ H Q):PT X e t':=fun pins s σ H Q I q=>p pins s σ H Q I (f σ H Q q)
theorem PW.imp{X:Cx}{e:Expr}{t t':TT}(p:PW X e t)(f:∀σ H Q,t' σ H Q->t σ H Q):PW X e t':=fun wh pins s σ H Q I q=>p wh pins s σ H Q I (f σ H Q q)
theorem PA.imp{X:Cx}{e:List Expr}{t t':TA}(p:PA X e t)(f:∀σ H Q,t' σ H Q->t σ H Q):PA X e t':=fun pos pins s σ H Q I q=>p pos pins s σ H Q I (f σ H Q q)
theorem PS.imp{X:Cx}{e:Stmt}{t t':TS}(p:PS X e t)(f:∀D σ H,t' D σ H->t D σ H):PS X e t':=fun pins s σ H D I q=>p pins s σ H D I (f D σ H q)
theorem eB.imp{X:Cx}{e:List Stmt}{t t':TS}(p:eB X e t)(f:∀D σ H,t' D σ H->t D σ H):eB X e t':=fun pins s σ H D I q=>p pins s σ H D I (f D σ H q)
section
variable {K:Zk}{ι:Nat->Addr}{h:Tw.Hp}{H:L2.Hp}
theorem HR.lst(r:HR K ι h H){i:Nat}{ws:List Tw.W}(e:h[i]?=some (.lst ws)):∃xs,H (ι i)=some (.lst xs)/\aL K.K ι h.length H ws xs:=r.obj i _ e
theorem HR.ag(r:HR K ι h H){i:Nat}{kvs:List (Tw.W×Tw.W)}(e:h[i]?=some (.ag kvs)):∃xs,H (ι i)=some (.dK xs)/\RD K.K ι h.length H kvs xs:=r.obj i _ e
theorem HR.at(r:HR K ι h H){i:Nat}{ws:List Tw.W}(e:Tw.aZ h i=some ws):∃xs,bx K.K H (ι i) xs/\aL K.K ι h.length H ws xs:=by
 unfold Tw.aZ at e;split at e
 .next q=>cases e;obtain⟨xs,q1,q2⟩:=r.obj i _ q;exact⟨xs,bx.of q1,q2⟩
 .next q=>cases e;obtain⟨xs,q1,q2⟩:=r.obj i _ q;exact⟨xs,q1.sq,q2⟩
 .cases e
end
theorem A1(n:Nat)(i:Int):Tw.gu n i=L2.gu n i:=rfl
theorem aL.bG{K:PySem.W.Frag}{ι:Nat->Addr}{n:Nat}{H:L2.Hp}{ws:List Tw.W}{xs:List V}(r:aL K ι n H ws xs){i:Int}{w:Tw.W}(e:Tw.bG ws i=some w):∃v,L2.bG xs i=some v/\RW K ι n H w v:=by
 unfold Tw.bG at e;unfold L2.bG;rw[<-r.length,<-A1];cases q:Tw.gu ws.length i with
 |none=>rw[q] at e;cases e
 |some j=>
  rw[q] at e;exact r.get e
theorem jq(n d:Nat)(o:Option Int):Tw.aO n d o=HT.aO n d o:=by
 cases o with
 |none=>rfl
 |some v=>first|rfl|(unfold Tw.aO HT.aO;split<;>first|rfl|omega|(simp;omega))
theorem aL.cut{K:PySem.W.Frag}{ι:Nat->Addr}{n:Nat}{H:L2.Hp}{ws:List Tw.W}{xs:List V}(r:aL K ι n H ws xs)(lo hi:Option Int):aL K ι n H (Tw.cut ws lo hi) (mz xs lo hi):=by unfold Tw.cut mz;rw[jq,jq,r.length];exact (r.drop _).take _
end TwS
namespace TwS
open PySem L2 PyProof.Rows
section
variable {X:Cx}{E:XK}{a b c:Expr}{pos:Pos}{da db dc:Tw.Env->Tw.Hp->Tw.R Tw.W}
theorem Lq{i:Nat}{x:Str}(hN:X.N[i]?=some x)(hv:iX X.env.scope x)(hd:(x== ("__debug__" : Str))=false)(hcd:(x== ("__classdict__" : Str))=false):
  PE X (.Name x pos) (tE (zx X E) fun ρ h=>match ρ[i]? with|some (some w)=>.ok w h|_=>.bad):=by
 refine PE.imp (kf hN hv hd hcd) fun σ H Q Z=>Z.g fun ρ Z=>Z.g fun h Z=>Z.g fun ι Z=>Z.g fun at' p=>?_;cases e:ρ[i]? with
 |none=>simp only[e] at p;exact p.elim
 |some o=>
  cases o with
  |none=>simp only[e] at p;exact p.elim
  |some w=>
   simp only[e] at p;obtain⟨v,q1,q2⟩:=at'.st i w e;exact⟨v,q1,p.self at'.hr q2⟩
theorem qk{v:V}{w:Tw.W}(hp:PE X a (tC v))(hr:∀ι n H,RW X.K ι n H w v):PE X a (tE (zx X E) fun _ h=>.ok w h):=
 PE.imp hp fun σ H Q Z=>Z.g fun ρ Z=>Z.g fun h Z=>Z.g fun ι Z=>Z.g fun at' p=>p.self at'.hr (hr _ _ _)
noncomputable abbrev tA(K:Zk)(k:Nat)(d:Tw.Env->Tw.Hp->Tw.R (List Tw.W)):TA:=tG K (RA k) d
theorem Li:PA X [] (tA (zx X E) 0 fun _ h=>.ok [] h):=PA.imp cK fun σ H Q Z=>Z.g fun ρ Z=>Z.g fun h Z=>Z.g fun ι Z=>Z.g fun at' p=>p.self at'.hr ⟨.nil,rfl⟩
theorem GD{es:List Expr}{n:Nat}{ds:Tw.Env->Tw.Hp->Tw.R (List Tw.W)}(ha:PE X a (tE (zx X E) da))(hs:PA X es (tA (zx X E) n ds))(hst:starEach (a::es) X.env=(false,eval a X.env)::starEach es X.env):
  PA X (a::es) (tA (zx X E) (n+1) fun ρ h=>(da ρ h).bind fun x h=>(ds ρ h).bind fun xs h=>.ok (x::xs) h):=by
 refine PA.imp (bX ha hs hst) fun σ H Q Z=>Z.g fun ρ Z=>Z.g fun h Z=>Z.g fun ι Z=>Z.g fun at' p=>?_;refine⟨ρ,h,ι,at',(step at' p).mono fun x H1 Z=>Z.g fun w Z=>Z.g fun h1 Z=>Z.g fun ι1 Z=>Z.g fun at1 Z=>Z.g fun e1 Z=>Z.g fun r1 p1=>⟨ρ,h1,ι1,at1,(step at1 p1).mono fun xs H2 Z=>Z.g fun ws Z=>Z.g fun h2 Z=>Z.g fun ι2 Z=>Z.g fun at2 Z=>Z.g fun e2 Z=>Z.g fun r2 p2=>?_⟩⟩;exact p2.self at2.hr ⟨.cons (r1.keep (e2.keeps at1.hr)) r2.1,by rw[List.length_cons,r2.2]⟩
theorem eJ:sizeLine=Tw.SZ:=by rw[sizeLine_eq];rfl
theorem K7{es:List Expr}{n:Nat}{ds:Tw.Env->Tw.Hp->Tw.R (List Tw.W)}{k:Nat}(hs:PA X es (tA (zx X E) n ds))(hl:n<=sizeLine):
  PE X (.Tuple es k pos) (tE (zx X E) fun ρ h=>(ds ρ h).bind fun xs h=>.ok (.tup xs) h):=by
 refine PE.imp (A9 hs) fun σ H Q Z=>Z.g fun ρ Z=>Z.g fun h Z=>Z.g fun ι Z=>Z.g fun at' p=>?_;refine⟨ρ,h,ι,at',(step at' p).mono fun xs H1 Z=>Z.g fun ws Z=>Z.g fun h1 Z=>Z.g fun ι1 Z=>Z.g fun at1 Z=>Z.g fun e1 Z=>Z.g fun r1 p1=>⟨by rw[<-r1.1.length,r1.2];exact hl,p1.tup at1.hr r1.1⟩⟩
theorem La{es:List Expr}{n:Nat}{ds:Tw.Env->Tw.Hp->Tw.R (List Tw.W)}(hs:PA X es (tA (zx X E) n ds))(hl:n<=sizeLine):
  PE X (.List es pos) (tE (zx X E) fun ρ h=>(ds ρ h).bind fun xs h=>Tw.new (.lst xs) h):=by
 refine PE.imp (GC hs) fun σ H Q Z=>Z.g fun ρ Z=>Z.g fun h Z=>Z.g fun ι Z=>Z.g fun at' p=>?_;refine⟨ρ,h,ι,at',(step at' p).mono fun xs H1 Z=>Z.g fun ws Z=>Z.g fun h1 Z=>Z.g fun ι1 Z=>Z.g fun at1 Z=>Z.g fun e1 Z=>Z.g fun r1 p1=>⟨by rw[<-r1.1.length,r1.2];exact hl,p1.lst at1.hr r1.1⟩⟩
theorem two{r:R2}{op:Tw.W->Tw.W->Tw.Hp->Tw.R Tw.W}
  (hr:∀(ι:Nat->Addr)(h:Tw.Hp)(H:L2.Hp)(w u:Tw.W)(x y:V)(Q:VK),HR (zx X E) ι h H->RW X.K ι h.length H w x->RW X.K ι h.length H u y->ai (zx X E) RE ι h H (op w u h) Q->r x y H Q):
  ∀σ H Q,tE (zx X E) (fun ρ h=>(da ρ h).bind fun x h=>(db ρ h).bind fun y h=>op x y h) σ H Q->v8 r (tE (zx X E) da) (tE (zx X E) db) σ H Q:=fun σ H Q Z=>Z.g fun ρ Z=>Z.g fun h Z=>Z.g fun ι Z=>Z.g fun at' p=>
 ⟨ρ,h,ι,at',(step at' p).mono fun x H1 Z=>Z.g fun w Z=>Z.g fun h1 Z=>Z.g fun ι1 Z=>Z.g fun at1 Z=>Z.g fun e1 Z=>Z.g fun r1 p1=>⟨ρ,h1,ι1,at1,(step at1 p1).mono fun y H2 Z=>Z.g fun u Z=>Z.g fun h2 Z=>Z.g fun ι2 Z=>Z.g fun at2 Z=>Z.g fun e2 Z=>Z.g fun r2 p2=>
  hr ι2 h2 H2 w u x y Q at2.hr (r1.keep (e2.keeps at1.hr)) r2 p2⟩⟩
noncomputable def AM(K:PySem.W.Frag):R2:=fun x y H Q=>∃a b ys,x=.ref a/\y=.ref b/\df K H a []/\df K H b ys/\Q (.ref b) H
theorem Cv{prog:Program}{w:World}{A:Around}{E:Value->Shared->Prop}{s:Shared}{t b:Addr}{ws:List Value}{Q:Value->Shared->Prop}(ht:IsTup s.heap t ([]:List Value).toArray)(hb:IsTup s.heap b ws.toArray)
  (h0:Q (.ref b) s):wpAny (model prog w) A (binaryOp .Add (.ref t) (.ref b)) Q E s:=by
 obtain⟨⟨cls,dd,data,sl⟩,ho,hc,n,hd⟩:=id ht;obtain⟨⟨cls2,dd2,data2,sl2⟩,ho2,hc2,n2,hd2⟩:=id hb;simp only at hc hd hc2 hd2;subst hc hd hc2 hd2;exact concat_meets ⟨_,ho,rfl⟩ ⟨_,ho2,rfl⟩ noFill_tuple_add seq_tuple_add PySem.F.slot_tuple_add PySem.F.entry_tuple_add (PySem.F.args_tuple_add_2 _ _)
  (tuple_addW0 t b ([]:List Value).toArray ws.toArray n n2 dd dd2 sl sl2 (by simp)) ⟨ho,ho2,h0⟩
theorem Df:cN X (binaryOp .Add) (AM X.K):=by intro pins s σ H x y v u Q I rx ry h;obtain⟨a,b,ys,rfl,rfl,ha,hb,q⟩:=h;cases rx;cases ry;obtain⟨its,r1,p1,_⟩:=I.tuple ha;obtain⟨its2,r2,p2,_⟩:=I.tuple hb;cases r1;exact Cv p1 p2 ⟨.ref b,H,I,rfl,q⟩
noncomputable def DM(K:PySem.W.Frag):R2:=fun x y H Q=>Ej (fun i j=>.int (i+j)) x y H Q\/(∃i j,x=.str i/\y=.str j/\i.length+j.length<=sizeLine/\Q (.str (i++j)) H)\/JE x y H Q\/Dw K x y H Q\/AM K x y H Q
theorem E7:cN X (binaryOp .Add) (DM X.K):=JX.or (yO.or (IP.or (ET.or Df)))
theorem str_len(x:Tw.S):(⟨x.toArray⟩:Str).length=x.length:=by simp[Str.length]
theorem qB(x y:Tw.S):(⟨x.toArray⟩:Str)++⟨y.toArray⟩=⟨(x++y).toArray⟩:=by show Str.append _ _=_;simp[Str.append]
theorem Gr(ι:Nat->Addr)(h:Tw.Hp)(H:L2.Hp)(w u:Tw.W)(x y:V)(Q:VK)(r:HR (zx X E) ι h H)(rx:RW X.K ι h.length H w x)(ry:RW X.K ι h.length H u y)(p:ai (zx X E) RE ι h H (Tw.bin .add w u h) Q):DM X.K x y H Q:=by
 cases rx with
 |int i=>
  cases ry with
  |int j=>exact .inl ⟨i,j,rfl,rfl,p.self r (.int _)⟩
  |_=>exact p.elim
 |str i hi=>
  cases ry with
  |str j hj=>
   have p:ai (zx X E) RE ι h H (if Tw.Op.add=Tw.Op.add/\i.length+j.length<=Tw.SZ then .ok (.str (i++j)) h else .bad) Q:=p;by_cases c:i.length+j.length<=Tw.SZ
   .rw[if_pos ⟨rfl,c⟩] at p;refine .inr (.inl ⟨_,_,rfl,rfl,by rw[str_len,str_len,eJ];exact c,?_⟩);rw[qB];exact p.self r (.str _ fun c hc=>(List.mem_append.mp hc).elim (hi c) (hj c))
   .rw[if_neg (fun z=>c z.2)] at p;exact p.elim
  |_=>exact p.elim
 | @tup aa xs ws ea ra=>
  cases ry with
  | @tup ab ys us eb rb=>
   have p:ai (zx X E) RE ι h H (if Tw.Op.add=Tw.Op.add/\ws.length+us.length<=Tw.SZ then .ok (.tup (ws++us)) h else .bad) Q:=p;by_cases c:ws.length+us.length<=Tw.SZ
   .rw[if_pos ⟨rfl,c⟩] at p;by_cases z0:ws=[]
    .subst z0;cases ra;exact .inr (.inr (.inr (.inr ⟨aa,ab,ys,rfl,rfl,ea.sq,eb.sq,p.self r (.tup eb rb)⟩)))
    refine .inr (.inr (.inr (.inl ⟨aa,ab,xs,ys,rfl,rfl,ea.sq,eb.sq,?_,?_,?_⟩)))
    .intro z;subst z;cases ra;exact z0 rfl
    .rw[<-ra.length,<-rb.length,eJ];exact c
    .refine⟨fun z=>?_,fun _=>p.tup r (ra.append rb)⟩;subst z;cases rb;rw[List.append_nil] at p;exact p.self r (.tup ea ra)
   .rw[if_neg (fun z=>c z.2)] at p;exact p.elim
  |_=>exact p.elim
 | @ref i hi=>
  cases ry with
  | @ref j hj=>
   have p:ai (zx X E) RE ι h H (match h[i]?,h[j]? with
    |some (.lst xs),some (.lst ys)=>if Tw.Op.add=Tw.Op.add/\xs.length+ys.length<=Tw.SZ then Tw.new (.lst (xs++ys)) h else .bad
    |_,_=>.bad) Q:=p
   cases ei:h[i]? with
   |none=>rw[ei] at p;exact p.elim
   |some oi=>
    cases ej:h[j]? with
    |none=>rw[ei,ej] at p;cases oi<;>exact p.elim
    |some oj=>
     rw[ei,ej] at p;cases oi with
     |lst ws=>
      cases oj with
      |lst us=>
       dsimp only at p;by_cases c:ws.length+us.length<=Tw.SZ
       .rw[if_pos ⟨rfl,c⟩] at p;obtain⟨xs,q1,q2⟩:=r.lst ei;obtain⟨ys,q3,q4⟩:=r.lst ej;refine .inr (.inr (.inl ⟨_,_,xs,ys,rfl,rfl,q1,q3,?_,?_⟩))
        .rw[<-q2.length,<-q4.length,eJ];exact c
        .exact p.lst r (q2.append q4)
       .rw[if_neg (fun z=>c z.2)] at p;exact p.elim
      |_=>exact p.elim
     |_=>cases oj<;>exact p.elim
  |_=>exact p.elim
 |_=>cases ry<;>exact p.elim
theorem Lo(ha:PE X a (tE (zx X E) da))(hb:PE X b (tE (zx X E) db)):PE X (.BinOp a .Add b pos) (tE (zx X E) fun ρ h=>(da ρ h).bind fun x h=>(db ρ h).bind fun y h=>Tw.bin .add x y h):=
 PE.imp (nI E7 ha hb) (two Gr)
theorem kN{op:Tw.Op}{r:R2}(hop:op≠.add)(hi:∀(i j k:Int)(H:L2.Hp)(Q:VK),Tw.binI op i j=some k->Q (.int k) H->r (.int i) (.int j) H Q)
  (ι:Nat->Addr) (h:Tw.Hp) (H:L2.Hp) (w u:Tw.W) (x y:V) (Q:VK) (hr:HR (zx X E) ι h H) (rx:RW X.K ι h.length H w x) (ry:RW X.K ι h.length H u y) (p:ai (zx X E) RE ι h H (Tw.bin op w u h) Q):r x y H Q:=by
 cases rx with
 |int i=>
  cases ry with
  |int j=>
   have p:ai (zx X E) RE ι h H (Tw.R.of ((Tw.binI op i j).map .int) h) Q:=p;cases e:Tw.binI op i j with
   |none=>rw[e] at p;exact p.elim
   |some k=>rw[e] at p;exact hi i j k H Q e (ai.self (a:=Tw.W.int k) p hr (.int _))
  |_=>exact p.elim
 |str i=>
  cases ry with
  |str j=>
   have p:ai (zx X E) RE ι h H (if op=Tw.Op.add/\i.length+j.length<=Tw.SZ then .ok (.str (i++j)) h else .bad) Q:=p;rw[if_neg (fun z=>hop z.1)] at p;exact p.elim
  |_=>exact p.elim
 | @tup aa xs ws ea ra=>
  cases ry with
  | @tup ab ys us eb rb=>
   have p:ai (zx X E) RE ι h H (if op=Tw.Op.add/\ws.length+us.length<=Tw.SZ then .ok (.tup (ws++us)) h else .bad) Q:=p;rw[if_neg (fun z=>hop z.1)] at p;exact p.elim
  |_=>exact p.elim
 | @ref i hi=>
  cases ry with
  | @ref j hj=>
   have p:ai (zx X E) RE ι h H (match h[i]?,h[j]? with
    |some (.lst xs),some (.lst ys)=>if op=Tw.Op.add/\xs.length+ys.length<=Tw.SZ then Tw.new (.lst (xs++ys)) h else .bad
    |_,_=>.bad) Q:=p
   exfalso;split at p
   .rw[if_neg (fun z=>hop z.1)] at p;exact p
   .exact p
  |_=>exact p.elim
 |_=>cases ry<;>exact p.elim
theorem LF(ha:PE X a (tE (zx X E) da))(hb:PE X b (tE (zx X E) db)):PE X (.BinOp a .Sub b pos) (tE (zx X E) fun ρ h=>(da ρ h).bind fun x h=>(db ρ h).bind fun y h=>Tw.bin .sub x y h):=
 PE.imp (nI KN ha hb) (two (kN (by decide) fun i j k H Q e q=>by cases e;exact⟨i,j,rfl,rfl,q⟩))
theorem Lm(ha:PE X a (tE (zx X E) da))(hb:PE X b (tE (zx X E) db)):PE X (.BinOp a .Mult b pos) (tE (zx X E) fun ρ h=>(da ρ h).bind fun x h=>(db ρ h).bind fun y h=>Tw.bin .mul x y h):=
 PE.imp (nI Ic ha hb) (two (kN (by decide) fun i j k H Q e q=>by
  have e:(if (Tw.small i || Tw.small j)=true then some (i * j) else none)=some k:=e;by_cases c:(Tw.small i || Tw.small j)=true
  .rw[if_pos c] at e;cases e;refine⟨i,j,rfl,rfl,?_,q⟩;simp only[Tw.small,Bool.or_eq_true,Bool.and_eq_true,decide_eq_true_eq] at c;exact c
  .rw[if_neg c] at e;cases e))
theorem J0(ha:PE X a (tE (zx X E) da))(hb:PE X b (tE (zx X E) db)):PE X (.BinOp a .FloorDiv b pos) (tE (zx X E) fun ρ h=>(da ρ h).bind fun x h=>(db ρ h).bind fun y h=>Tw.bin .fdiv x y h):=
 PE.imp (nI E6 ha hb) (two (kN (by decide) fun i j k H Q e q=>by
  have e:(if 0<j/\j<1073741824 then some (i / j) else none)=some k:=e;by_cases c:0<j/\j<1073741824
  .rw[if_pos c] at e;cases e;exact⟨i,j,rfl,rfl,c,q⟩
  .rw[if_neg c] at e;cases e))
theorem Ll(ha:PE X a (tE (zx X E) da))(hb:PE X b (tE (zx X E) db)):PE X (.BinOp a .Mod b pos) (tE (zx X E) fun ρ h=>(da ρ h).bind fun x h=>(db ρ h).bind fun y h=>Tw.bin .mod x y h):=
 PE.imp (nI Kc ha hb) (two (kN (by decide) fun i j k H Q e q=>by
  have e:(if 0<j then some (i % j) else none)=some k:=e;by_cases c:0<j
  .rw[if_pos c] at e;cases e;exact⟨i,j,rfl,rfl,c,q⟩
  .rw[if_neg c] at e;cases e))
theorem LV(ha:PE X a (tE (zx X E) da))(hb:PE X b (tE (zx X E) db)):PE X (.BinOp a .Pow b pos) (tE (zx X E) fun ρ h=>(da ρ h).bind fun x h=>(db ρ h).bind fun y h=>Tw.bin .pow x y h):=
 PE.imp (nI J8 ha hb) (two (kN (by decide) fun i j k H Q e q=>by
  have e:(if 0<=j/\j<=1000000/\i.natAbs<2 ^ 64 then some (i ^ j.toNat) else none)=some k:=e;by_cases c:0<=j/\j<=1000000/\i.natAbs<2 ^ 64
  .rw[if_pos c] at e;cases e;exact⟨i,j,rfl,rfl,c,q⟩
  .rw[if_neg c] at e;cases e))
end
mutual
noncomputable def toD:Tw.W->PyData
 |.ah=>.none
 |.bl b=>.bool b
 |.int i=>.int i
 |.str x=>.str ⟨x.toArray⟩
 |.tup xs=>.tuple (fi xs)
 |.lst xs=>.list (fi xs)
 |.ref _=>.none
noncomputable def fi:List Tw.W->List PyData
 |[]=>[]
 |x::xs=>toD x::fi xs
end
mutual
noncomputable def nr:Tw.W->Bool
 |.tup xs=>pY xs
 |.lst xs=>pY xs
 |.ref _=>false
 |_=>true
noncomputable def pY:List Tw.W->Bool
 |[]=>true
 |x::xs=>nr x&&pY xs
end
theorem oW(a b:Tw.S):((⟨a.toArray⟩:Str)== ⟨b.toArray⟩)=decide (a=b):=by
 rw[Bool.beq_eq_decide_eq];by_cases e:a=b
 .subst e;simp
 .rw[decide_eq_false e];refine decide_eq_false fun z=>e ?_;injection z with z;simpa using congrArg Array.toList z
mutual
theorem qN:∀(a b:Tw.W),nr a=true->nr b=true->Tw.bp a b=PyData.eqv (toD a) (toD b)
 |.ah,b,ha,hb=>by cases b<;>simp_all [nr,toD,PyData.eqv,Tw.bp.eq_def]
 |.bl x,b,ha,hb=>by cases b<;>simp_all [nr,toD,PyData.eqv,Tw.bp.eq_def,Bool.beq_eq_decide_eq]
 |.int x,b,ha,hb=>by cases b<;>simp_all [nr,toD,PyData.eqv,Tw.bp.eq_def,Bool.beq_eq_decide_eq]
 |.str x,b,ha,hb=>by
  cases b with
  |str y=>rw[Tw.j2,toD,toD,PyData.eqv,oW]
  |_=>simp_all [nr,toD,PyData.eqv,Tw.bp.eq_def]
 |.ref x,b,ha,hb=>by simp[nr] at ha
 |.tup xs,b,ha,hb=>by
  cases b with
  |tup ys=>rw[Tw.vH,toD,toD,PyData.eqv];exact oO xs ys (by simpa [nr] using ha) (by simpa [nr] using hb)
  |_=>simp_all [nr,toD,PyData.eqv,Tw.bp.eq_def]
 |.lst xs,b,ha,hb=>by
  cases b with
  |lst ys=>rw[Tw.vP,toD,toD,PyData.eqv];exact oO xs ys (by simpa [nr] using ha) (by simpa [nr] using hb)
  |_=>simp_all [nr,toD,PyData.eqv,Tw.bp.eq_def]
theorem oO:∀(a b:List Tw.W),pY a=true->pY b=true->Tw.m9 a b=PyData.eqvAll (fi a) (fi b)
 |[],[],_,_=>by simp[fi,PyData.eqvAll]
 |[],_::_,_,_=>by simp[fi,PyData.eqvAll]
 |_::_,[],_,_=>by simp[fi,PyData.eqvAll]
 |x::xs,y::ys,ha,hb=>by
  simp only[pY,Bool.and_eq_true] at ha hb;simp only[Tw.m9,fi,PyData.eqvAll,qN x y ha.1 hb.1,oO xs ys ha.2 hb.2]
end
theorem BH{x:Tw.S}(h:m8 x):PySem.PyData.canLay0 (.str ⟨x.toArray⟩)=true:=by rw[PyData.canLay0];simp only[PyData.strOk];simp;exact h
section
variable {X:Cx}{E:XK}{pins:List (Addr×Obj)}{σ:L2.St}{s:Shared}{ι:Nat->Addr}{h:Tw.Hp}{H:L2.Hp}
structure Dat(s:Shared)(k:Nat)(d:Tw.W)(u:Value):Prop where
 ex:∃as,Reads s.heap u (toD d) as
 lay:(toD d).canLay0=true
 deep:(toD d).depth<=k
 nr:nr d=true
theorem uv{k:Nat}(P:∀(w d:Tw.W)(v:V)(u:Value),Tw.rd h k w=some d->RW X.K ι h.length H w v->RelV v u->Dat s k d u):
  ∀(ws ds:List Tw.W)(vs:List V)(us:List Value),Tw.iW h k ws=some ds->aL X.K ι h.length H ws vs->Vals vs us->
   (∃as,ReadsAll s.heap us (fi ds) as)/\PyData.canLayAll0 (fi ds)=true/\PyData.depthAll (fi ds)<=k/\pY ds=true
 |[],ds,_,_,e,.nil,.nil=>by
  simp at e;subst e;exact⟨⟨[],.nil⟩,by simp[fi,PyData.canLayAll0],by simp[fi,PyData.depthAll],by simp[pY]⟩
 |w::ws,ds,_,_,e,.cons rw' rws,.cons rv rvs=>by
  rw[Tw.iW] at e;cases e1:Tw.rd h k w with
  |none=>rw[e1] at e;cases e
  |some d=>
   cases e2:Tw.iW h k ws with
   |none=>rw[e1,e2] at e;cases e
   |some ds'=>
    rw[e1,e2] at e;cases e;obtain⟨⟨as,h1⟩,h2,h3,h4⟩:=P w d _ _ e1 rw' rv;obtain⟨⟨bs,g1⟩,g2,g3,g4⟩:=uv P ws ds' _ _ e2 rws rvs;exact⟨⟨as++bs,by rw[fi];exact .cons h1 g1⟩,by simp[fi,PyData.canLayAll0,h2,g2],by simp only[fi,PyData.depthAll];omega,by simp[pY,h4,g4]⟩
theorem lK(I:Inv X pins σ H s)(r:HR (zx X E) ι h H):∀(k:Nat)(w d:Tw.W)(v:V)(u:Value),Tw.rd h k w=some d->RW X.K ι h.length H w v->RelV v u->Dat s k d u:=by
 have flat:∀(k:Nat)(w d:Tw.W)(v:V)(u:Value),Tw.rd h k w=some d->RW X.K ι h.length H w v->RelV v u->(∀ws,w≠.tup ws)->(∀a,w≠.ref a)->Dat s k d u:=by
  intro k w d v u e rw' rv n1 n2;cases rw' with
  |ah=>simp at e;subst e;cases rv;exact⟨⟨[],.none⟩,by simp[toD,PyData.canLay0],by simp[toD,PyData.depth],by simp[nr]⟩
  |bl b=>simp at e;subst e;cases rv;exact⟨⟨[],.bool b⟩,by simp[toD,PyData.canLay0],by simp[toD,PyData.depth],by simp[nr]⟩
  |int i=>simp at e;subst e;obtain⟨t,rfl⟩:=rv;exact⟨⟨[],.int i t⟩,by simp[toD,PyData.canLay0],by simp[toD,PyData.depth],by simp[nr]⟩
  |str x hx=>simp at e;subst e;obtain⟨t,rfl⟩:=rv;exact⟨⟨[],by rw[toD];exact .str _ t⟩,by rw[toD];exact BH hx,by simp[toD,PyData.depth],by simp[nr]⟩
  |tup _ _=>exact absurd rfl (n1 _)
  |ref _=>exact absurd rfl (n2 _)
 intro k
 induction k with
 |zero=>
  intro w d v u e rw' rv;cases w with
  |tup ws=>simp at e
  |ref a=>simp at e
  |_=>exact flat _ _ _ _ _ e rw' rv (fun _ z=>nomatch z) (fun _ z=>nomatch z)
 |succ k ih=>
  intro w d v u e rw' rv;cases w with
  |tup ws=>
   rw[Tw.rd] at e;cases e2:Tw.iW h k ws with
   |none=>rw[e2] at e;cases e
   |some ds=>
    rw[e2] at e;cases e;cases rw' with
    | @tup a xs _ ea ra=>
     cases rv;obtain⟨its,r1,it,_⟩:=I.tuple (TupAt.sq ea);obtain⟨⟨as,g1⟩,g2,g3,g4⟩:=uv ih ws ds _ _ e2 ra r1;obtain⟨o,h1,h2,n,h3⟩:=it;exact⟨⟨as,by rw[toD];exact .tuple h1 h2 h3 (by simpa using g1)⟩,by rw[toD,PyData.canLay0];exact g2,by rw[toD,PyData.depth];omega,by rw[nr];exact g4⟩
  |ref i=>
   cases rw' with
   |ref hi=>
    cases rv;have e:(match h[i]? with
     |some (.lst xs)=>(Tw.iW h k xs).map Tw.W.lst
     |some (.bE xs)=>(Tw.iW h k xs).map Tw.W.lst
     |_=>none)=some d:=by rw[Tw.rd] at e;exact e
    have fin:∀(ws:List Tw.W)(xs:List V),(Tw.iW h k ws).map Tw.W.lst=some d->bx X.K H (ι i) xs->aL X.K ι h.length H ws xs->Dat s (k+1) d (.ref (ι i)):=by
     intro ws xs e sq rws;cases e2:Tw.iW h k ws with
     |none=>rw[e2] at e;cases e
     |some ds=>
      rw[e2] at e;cases e;obtain⟨its,r1,⟨o,n,h1,h2,_,h3⟩,_⟩:=I.list sq;obtain⟨⟨as,g1⟩,g2,g3,g4⟩:=uv ih ws ds _ _ e2 rws r1;exact⟨⟨_,by rw[toD];exact .list h1 h2 h3 (by simpa using g1)⟩,by rw[toD,PyData.canLay0];exact g2,by rw[toD,PyData.depth];omega,by rw[nr];exact g4⟩
    cases ei:h[i]? with
    |none=>rw[ei] at e;cases e
    |some o=>
     rw[ei] at e;cases o with
     |lst ws=>obtain⟨xs,q1,q2⟩:=r.obj i _ ei;exact fin ws xs e (bx.of q1) q2
     |bE ws=>obtain⟨xs,q1,q2⟩:=r.obj i _ ei;exact fin ws xs e q1.sq q2
     |ag _=>cases e
     |ins _ _=>cases e
     |aD _ _=>cases e
  |lst _=>simp[Tw.rd] at e
  |_=>exact flat _ _ _ _ _ e rw' rv (fun _ z=>nomatch z) (fun _ z=>nomatch z)
end
section
variable {K:PySem.W.Frag}{ι:Nat->Addr}{n:Nat}{H:L2.Hp}
theorem um{j k:Tw.W}{p q:Key}(a:RW K ι n H j (kV p))(b:RW K ι n H k (kV q)):Tw.nz j k=decide (p=q):=by
 cases p with
 |inl i=>
  cases a;cases q with
  |inl i'=>cases b;rw[tP];rfl
  |inr y=>cases b;rw[t8];rfl
 |inr x=>
  cases a;cases q with
  |inl i'=>cases b;rw[uZ];rfl
  |inr y=>
   cases b with
   |str y' hy=>
    rename_i x' hx;rw[vv];have t:=oW x' y';rw[Bool.beq_eq_decide_eq] at t;rw[t];show (x'== y')=_;rw[Bool.beq_eq_decide_eq]
theorem gn{k:Tw.W}{v:V}(a:RW K ι n H k v)(h:Tw.isKey k=true):∃q,v=kV q:=by
 cases a with
 |int i=>exact⟨.inl i,rfl⟩
 |str x hx=>exact⟨.inr _,rfl⟩
 |_=>cases h
theorem RD.get{k:Tw.W}{q:Key}(b:RW K ι n H k (kV q)):∀{kvs:List (Tw.W×Tw.W)}{xs:List (Key×V)},RD K ι n H kvs xs->
  (Tw.bH k kvs=none/\iu xs q=none)\/∃w v,Tw.bH k kvs=some w/\iu xs q=some v/\RW K ι n H w v
 |_,_,.nil=>.inl ⟨rfl,rfl⟩
 |_,_,.cons (k:=j) (q:=p) (w:=w) (v:=v) _ a c r=>by
  have e:=um a b;rw[Tw.bH,e];by_cases z:p=q
  .rw[lL z,decide_eq_true z];exact .inr ⟨w,v,rfl,rfl,c⟩
  .rw[lg z,decide_eq_false z];exact RD.get b r
theorem EW{q p:Key}{v:V}:∀{xs:List (Key×V)},p∈(putK xs q v).map (·.1)->p=q\/p∈xs.map (·.1):=by
 intro xs hp;unfold putK at hp;split at hp
 .rw[List.map_map] at hp;refine .inr ?_;obtain⟨kv,h1,h2⟩:=List.mem_map.mp hp;refine List.mem_map.mpr ⟨kv,h1,?_⟩;rw[<-h2];simp only[Function.comp];split<;>rfl
 .rw[List.map_append,List.mem_append] at hp;rcases hp with hp|hp
  .exact .inr hp
  .simp at hp;exact .inl hp
theorem RD.put{k w:Tw.W}{q:Key}{v:V}(b:RW K ι n H k (kV q))(c:RW K ι n H w v):∀{kvs:List (Tw.W×Tw.W)}{xs:List (Key×V)},RD K ι n H kvs xs->RD K ι n H (Tw.dput k w kvs) (putK xs q v)
 |_,_,.nil=>.cons (by simp) b c .nil
 |_,_,.cons (k:=j) (q:=p) (w:=w') (v:=v') (kvs:=kvs) (xs:=xs) m a d r=>by
  have e:=um a b;rw[Tw.dput,e];by_cases z:p=q
  .subst z;rw[decide_eq_true rfl];have t:putK ((p,v')::xs) p v=(p,v)::xs:=by
    have hm:∀l:List (Key×V),p∉l.map (·.1)->l.map (fun kv=>if kv.1=p then (kv.1,v) else kv)=l:=by
     intro l
     induction l with
     |nil=>intro _;rfl
     |cons x l ih=>
      intro hx;simp only[List.map_cons,List.mem_cons,not_or] at hx;rw[List.map_cons,ih hx.2,if_neg (fun z=>hx.1 z.symm)]
    unfold putK;simp only[List.any_cons,decide_true,Bool.true_or,if_true,List.map_cons];rw[hm xs m]
   rw[t];exact .cons m a c r
  .rw[decide_eq_false z];have t:putK ((p,v')::xs) q v=(p,v')::putK xs q v:=by
    unfold putK;simp only[List.any_cons,z,decide_false,Bool.false_or,List.map_cons,if_false];split<;>rfl
   rw[t];refine .cons (fun hp=>?_) a d (RD.put b c r);rcases EW hp with hp|hp
   .exact z hp
   .exact m hp
end
section
variable {X:Cx}{E:XK}{pins:List (Addr×Obj)}{σ:L2.St}{s:Shared}{ι:Nat->Addr}{h:Tw.Hp}{H:L2.Hp}{A:Around}
theorem yu{w:Tw.W}{kvs:List (Tw.W×Tw.W)}(e:Tw.bP h w=some kvs):∃i,w=.ref i/\h[i]?=some (.ag kvs):=by
 unfold Tw.bP at e;split at e
 .next a=>
  split at e
  .next q=>cases e;exact⟨_,rfl,q⟩
  .cases e
 .cases e
end
noncomputable def yg(K:Zk)(neg:Bool):R2:=fun x y H Q=>∃(ι:Nat->Addr) (h:Tw.Hp) (w u:Tw.W) (b:Bool),HR K ι h H/\RW K.K ι h.length H w x/\RW K.K ι h.length H u y/\Tw.cm h w u=some b/\Q (.bl (if neg then !b else b)) H
section
variable {X:Cx}{E:XK}
theorem Jf(hu:X.A.units+100<cLine):cN X (compareOp .Eq) (yg (zx X E) false):=by
 intro pins s σ H x y v u Q I rx ry ⟨ι,h,w,z,b,r,rw',rz,e,q⟩;unfold Tw.cm at e;cases e1:Tw.bP h w with
 |none=>
  cases e2:Tw.bP h z with
  |some _=>rw[e1,e2] at e;cases e
  |none=>
   rw[e1,e2] at e;cases e3:Tw.rd h 60 w with
   |none=>rw[e3] at e;cases e
   |some a=>
    cases e4:Tw.rd h 60 z with
    |none=>rw[e3,e4] at e;cases e
    |some c=>
     rw[e3,e4] at e;cases e;obtain⟨⟨as,h1⟩,h2,h3,h4⟩:=lK I r 60 w a x v e3 rw' rx;obtain⟨⟨bs,g1⟩,g2,g3,g4⟩:=lK I r 60 z c y u e4 rz ry;refine SeqAt.compareEq_reads h1 g1 h2 g2 (by have:=Nat.min_le_left (toD a).depth (toD c).depth;omega) ?_;rw[<-qN a c h4 g4];exact⟨.bl _,H,I,rfl,q⟩
 |some xs=>
  cases e2:Tw.bP h z with
  |none=>rw[e1,e2] at e;cases e
  |some ys=>rw[e1,e2] at e;cases e
theorem Hr(hu:X.A.units+100<cLine):cN X (compareOp .NotEq) (yg (zx X E) true):=by
 intro pins s σ H x y v u Q I rx ry ⟨ι,h,w,z,b,r,rw',rz,e,q⟩;unfold Tw.cm at e;cases e1:Tw.bP h w with
 |none=>
  cases e2:Tw.bP h z with
  |some _=>rw[e1,e2] at e;cases e
  |none=>
   rw[e1,e2] at e;cases e3:Tw.rd h 60 w with
   |none=>rw[e3] at e;cases e
   |some a=>
    cases e4:Tw.rd h 60 z with
    |none=>rw[e3,e4] at e;cases e
    |some c=>
     rw[e3,e4] at e;cases e;obtain⟨⟨as,h1⟩,h2,h3,h4⟩:=lK I r 60 w a x v e3 rw' rx;obtain⟨⟨bs,g1⟩,g2,g3,g4⟩:=lK I r 60 z c y u e4 rz ry;refine SeqAt.compareNe_reads h1 g1 h2 g2 (by have:=Nat.min_le_left (toD a).depth (toD c).depth;omega) ?_;rw[<-qN a c h4 g4];exact⟨.bl _,H,I,rfl,q⟩
 |some xs=>
  cases e2:Tw.bP h z with
  |none=>rw[e1,e2] at e;cases e
  |some ys=>rw[e1,e2] at e;cases e
end
noncomputable def dT(d:Tw.Env->Tw.Hp->Tw.R Tw.W):Tw.Env->Tw.Hp->Tw.R Bool:=fun ρ h=>(d ρ h).bind fun w h=>Tw.R.of (Tw.truth h w) h
abbrev tT(K:Zk)(d:Tw.Env->Tw.Hp->Tw.R Tw.W):TT:=tG K RB (dT d)
theorem bind_assoc{α β γ:Type}(m:Tw.R α)(k:α->Tw.Hp->Tw.R β)(l:β->Tw.Hp->Tw.R γ):(m.bind k).bind l=m.bind fun a h=>(k a h).bind l:=by cases m<;>rfl
section
variable {X:Cx}{E:XK}{a b c:Expr}{pos:Pos}{da db dc:Tw.Env->Tw.Hp->Tw.R Tw.W}
theorem Hg{op:Tw.Cp}{o:CmpOp}{r:R2}(ho:cN X (compareOp o) r)
  (hr:∀(ι:Nat->Addr)(h:Tw.Hp)(H:L2.Hp)(w u:Tw.W)(x y:V)(k:Bool)(Q:VK),HR (zx X E) ι h H->RW X.K ι h.length H w x->RW X.K ι h.length H u y->Tw.cmp op w u h=some k->Q (.bl k) H->r x y H Q)
  (ha:PE X a (tE (zx X E) da)) (hb:PE X b (tE (zx X E) db)) (hm:behindInMarks o b=false):
  PE X (.Compare a [o] [b] pos) (tE (zx X E) fun ρ h=>(da ρ h).bind fun x h=>(db ρ h).bind fun y h=>Tw.R.of ((Tw.cmp op x y h).map .bl) h)/\
  PT X (.Compare a [o] [b] pos) (tT (zx X E) fun ρ h=>(da ρ h).bind fun x h=>(db ρ h).bind fun y h=>Tw.R.of ((Tw.cmp op x y h).map .bl) h):=by
 constructor
 .refine PE.imp (wD ho ha hb hm) (two fun ι h H w u x y Q hR rx ry p=>?_);cases e:Tw.cmp op w u h with
  |none=>rw[e] at p;exact p.elim
  |some k=>rw[e] at p;exact hr ι h H w u x y k Q hR rx ry e (ai.self (a:=Tw.W.bl k) p hR (.bl k))
 .refine PT.imp (wM ho ha hb hm) fun σ H Q Z=>Z.g fun ρ Z=>Z.g fun h Z=>Z.g fun ι Z=>Z.g fun at' p=>?_;simp only[dT,bind_assoc] at p;refine⟨ρ,h,ι,at',(step at' p).mono fun x H1 Z=>Z.g fun w Z=>Z.g fun h1 Z=>Z.g fun ι1 Z=>Z.g fun at1 Z=>Z.g fun e1 Z=>Z.g fun r1 p1=>⟨ρ,h1,ι1,at1,(step at1 p1).mono fun y H2 Z=>Z.g fun u Z=>Z.g fun h2 Z=>Z.g fun ι2 Z=>Z.g fun at2 Z=>Z.g fun e2 Z=>Z.g fun r2 p2=>?_⟩⟩;cases e:Tw.cmp op w u h2 with
  |none=>rw[e] at p2;exact p2.elim
  |some k=>rw[e] at p2;exact hr ι2 h2 H2 w u x y k _ at2.hr (r1.keep (e2.keeps at1.hr)) r2 e ⟨k,rfl,ai.self (a:=k) p2 at2.hr rfl⟩
theorem P0(ι:Nat->Addr)(h:Tw.Hp)(H:L2.Hp)(w u:Tw.W)(x y:V)(k:Bool)(Q:VK)(r:HR (zx X E) ι h H)(rx:RW X.K ι h.length H w x)(ry:RW X.K ι h.length H u y)(e:Tw.cmp .eq w u h=some k)(q:Q (.bl k) H):yg (zx X E) false x y H Q:=
 ⟨ι,h,w,u,k,r,rx,ry,e,q⟩
theorem Oh(ι:Nat->Addr)(h:Tw.Hp)(H:L2.Hp)(w u:Tw.W)(x y:V)(k:Bool)(Q:VK)(r:HR (zx X E) ι h H)(rx:RW X.K ι h.length H w x)(ry:RW X.K ι h.length H u y)(e:Tw.cmp .ne w u h=some k)(q:Q (.bl k) H):yg (zx X E) true x y H Q:=by
 have e:(Tw.cm h w u).map (!·)=some k:=e;cases e2:Tw.cm h w u with
 |none=>rw[e2] at e;cases e
 |some b=>rw[e2] at e;cases e;exact⟨ι,h,w,u,b,r,rx,ry,e2,q⟩
theorem Lx(ι:Nat->Addr)(h:Tw.Hp)(H:L2.Hp)(w u:Tw.W)(x y:V)(k:Bool)(Q:VK)(r:HR (zx X E) ι h H)(rx:RW X.K ι h.length H w x)(ry:RW X.K ι h.length H u y)(e:Tw.cmp .isN w u h=some k)(q:Q (.bl k) H):
  y=.ah/\Q (.bl (decide (x=.ah))) H:=by
 cases ry with
 |ah=>cases rx<;>(cases e;exact⟨rfl,q⟩)
 |_=>cases e
theorem HF(ι:Nat->Addr)(h:Tw.Hp)(H:L2.Hp)(w u:Tw.W)(x y:V)(k:Bool)(Q:VK)(r:HR (zx X E) ι h H)(rx:RW X.K ι h.length H w x)(ry:RW X.K ι h.length H u y)(e:Tw.cmp .notN w u h=some k)(q:Q (.bl k) H):
  y=.ah/\Q (.bl (!decide (x=.ah))) H:=by
 cases ry with
 |ah=>cases rx<;>(cases e;exact⟨rfl,q⟩)
 |_=>cases e
noncomputable def rj(K:PySem.W.Frag)(neg:Bool):R2:=fun x y H Q=>Kw K neg x y H Q\/∃a o,y=.ref a/\ft H a x o/\Q (.bl (if neg then !o.isSome else o.isSome)) H
theorem KA(hu:X.A.units+1<cLine):cN X (compareOp .In) (rj X.K false):=by refine cN.or zm ?_;intro pins s σ H x y v u Q I rx ry ⟨a,o,ey,g,q⟩;subst ey;cases ry;exact OO hu I g rx fun s' I'=>⟨.bl o.isSome,H,I',rfl,q⟩
theorem zX(hu:X.A.units+1<cLine):cN X (compareOp .NotIn) (rj X.K true):=by refine cN.or ub ?_;intro pins s σ H x y v u Q I rx ry ⟨a,o,ey,g,q⟩;subst ey;cases ry;exact FL hu I g rx fun s' I'=>⟨.bl (!o.isSome),H,I',rfl,q⟩
section
variable {ι:Nat->Addr}{n:Nat}{H:L2.Hp}
theorem xf{w:Tw.W}{x:V}(r:RW X.K ι n H w x)(h:Tw.flat w=true):iH x=true:=by cases r<;>first|rfl|exact absurd h Bool.false_ne_true
theorem uh:∀{ws:List Tw.W}{xs:List V},aL X.K ι n H ws xs->ws.all Tw.flat=true->xs.all iH=true
 |_,_,.nil,_=>rfl
 |_,_,.cons a r,h=>by
  rw[List.all_cons,Bool.and_eq_true] at h;rw[List.all_cons,xf a h.1,uh r h.2];rfl
theorem KI{w u:Tw.W}{x y:V}(r:RW X.K ι n H w x)(q:RW X.K ι n H u y)(f:Tw.flat w=true)(g:Tw.flat u=true):L2.cm x y=Tw.bp w u:=by
 cases r with
 |ah=>cases q<;>first|exact absurd g Bool.false_ne_true|(simp[L2.cm])
 |bl b=>cases q<;>first|exact absurd g Bool.false_ne_true|(simp[L2.cm,Bool.beq_eq_decide_eq])
 |int i=>cases q<;>first|exact absurd g Bool.false_ne_true|(simp[L2.cm,Bool.beq_eq_decide_eq])
 |str z hz=>
  cases q with
  |str z' hz'=>rw[Tw.j2,L2.cm,oW]
  |ah=>simp[L2.cm]
  |bl _=>simp[L2.cm]
  |int _=>simp[L2.cm]
  |tup _ _=>cases g
  |ref _=>cases g
 |tup _ _=>cases f
 |ref _=>cases f
theorem AX{u:Tw.W}{y:V}(q:RW X.K ι n H u y)(g:Tw.flat u=true):∀{ws:List Tw.W}{xs:List V},aL X.K ι n H ws xs->ws.all Tw.flat=true->(xs.any fun z=>L2.cm z y)=ws.any fun z=>Tw.bp z u
 |_,_,.nil,_=>rfl
 |_,_,.cons a r,h=>by
  rw[List.all_cons,Bool.and_eq_true] at h;rw[List.any_cons,List.any_cons,KI a q h.1 g,AX q g r h.2]
end
theorem in_of(neg:Bool)(ι:Nat->Addr)(h:Tw.Hp)(H:L2.Hp)(w u:Tw.W)(x y:V)(k:Bool)(Q:VK)(r:HR (zx X E) ι h H)(rx:RW X.K ι h.length H w x)(ry:RW X.K ι h.length H u y)(e:Tw.isIn w u h=some k)
  (q:Q (.bl (if neg then !k else k)) H):rj X.K neg x y H Q:=by
 unfold Tw.isIn at e;cases e1:Tw.bP h u with
 |some kvs=>
  rw[e1] at e;obtain⟨i,rfl,ei⟩:=yu e1;cases ry;obtain⟨xs,q1,q2⟩:=r.ag ei;dsimp only at e;by_cases c:Tw.isKey w=true
  .rw[if_pos c] at e;cases e;obtain⟨key,rfl⟩:=gn rx c;refine .inr ⟨_,_,rfl,ft.k q1,?_⟩;rcases q2.get rx with ⟨g1,g2⟩|⟨w2,v2,g1,g2,_⟩
   .rw[g2];rw[g1] at q;exact q
   .rw[g2];rw[g1] at q;exact q
  .rw[if_neg c] at e;cases e
 |none=>
  rw[e1] at e;dsimp only at e;cases e2:Tw.t6 h u with
  |none=>rw[e2] at e;cases e
  |some ws=>
   rw[e2] at e;dsimp only at e;by_cases c:(Tw.flat w&&ws.all Tw.flat)=true
   .rw[if_pos c] at e;cases e;obtain⟨c1,c2⟩:=Bool.and_eq_true_iff.mp c;have fin:∀(p:Addr)(xs:List V),y=.ref p->(bx X.K H p xs\/df X.K H p xs)->aL X.K ι h.length H ws xs->rj X.K neg x y H Q:=by
     intro p xs ey sq rr;refine .inl ⟨p,xs,ey,sq,xf rx c1,uh rr c2,?_⟩;unfold Hs;rw[AX rx c1 rr c2];exact q
    cases ry with
    | @tup a xs us ea ra=>
     have e2:some us=some ws:=e2;cases e2;exact fin a xs rfl (.inr (TupAt.sq ea)) ra
    | @ref i hi=>
     have e2:(match h[i]? with|some (.lst xs)=>some xs|some (.bE xs)=>some xs|_=>none)=some ws:=e2;cases ei:h[i]? with
     |none=>rw[ei] at e2;cases e2
     |some o=>
      rw[ei] at e2;cases o with
      |lst us=>cases e2;obtain⟨xs,q1,q2⟩:=r.obj i _ ei;exact fin _ xs rfl (.inl (bx.of q1)) q2
      |bE us=>cases e2;obtain⟨xs,q1,q2⟩:=r.obj i _ ei;exact fin _ xs rfl (.inl q1.sq) q2
      |ag _=>cases e2
      |ins _ _=>cases e2
      |aD _ _=>cases e2
    |_=>cases e2
   .rw[if_neg c] at e;cases e
theorem Oc(ι:Nat->Addr)(h:Tw.Hp)(H:L2.Hp)(w u:Tw.W)(x y:V)(k:Bool)(Q:VK)(r:HR (zx X E) ι h H)(rx:RW X.K ι h.length H w x)(ry:RW X.K ι h.length H u y)(e:Tw.cmp .isin w u h=some k)(q:Q (.bl k) H):rj X.K false x y H Q:=
 in_of false ι h H w u x y k Q r rx ry e q
theorem FE(ι:Nat->Addr)(h:Tw.Hp)(H:L2.Hp)(w u:Tw.W)(x y:V)(k:Bool)(Q:VK)(r:HR (zx X E) ι h H)(rx:RW X.K ι h.length H w x)(ry:RW X.K ι h.length H u y)(e:Tw.cmp .notin w u h=some k)(q:Q (.bl k) H):rj X.K true x y H Q:=by
 have e:(Tw.isIn w u h).map (!·)=some k:=e;cases e2:Tw.isIn w u h with
 |none=>rw[e2] at e;cases e
 |some b=>rw[e2] at e;cases e;exact in_of true ι h H w u x y b Q r rx ry e2 q
theorem Ay(ι:Nat->Addr)(h:Tw.Hp)(H:L2.Hp)(w:Tw.W)(x:V)(k:Bool)(r:HR (zx X E) ι h H)(rx:RW X.K ι h.length H w x)(e:Tw.truth h w=some k):BZ X.K x H k:=by
 cases rx with
 |ah=>cases e;rfl
 |bl b=>cases e;rfl
 |int i=>cases e;rfl
 |str z hz'=>
  have e:(if z.length<=Tw.SZ then some (!z.isEmpty) else none)=some k:=e;by_cases c:z.length<=Tw.SZ
  .rw[if_pos c] at e;cases e;refine⟨by rw[str_len,eJ];exact c,?_⟩;rw[str_len];cases z with
   |nil=>rfl
   |cons c z=>simp;omega
  .rw[if_neg c] at e;cases e
 | @tup a xs ws ea ra=>
  have e:some (!ws.isEmpty)=some k:=e;cases e;refine .inr (.inl ⟨xs,TupAt.sq ea,?_⟩);cases ra<;>rfl
 | @ref i hi=>
  have e:(match h[i]? with|some (.lst xs)=>some (!xs.isEmpty)|some (.bE xs)=>some (!xs.isEmpty)|some (.ag kvs)=>some (!kvs.isEmpty)|_=>none)=some k:=e;cases ei:h[i]? with
  |none=>rw[ei] at e;cases e
  |some o=>
   rw[ei] at e;cases o with
   |lst us=>cases e;obtain⟨xs,q1,q2⟩:=r.obj i _ ei;refine .inl ⟨xs,bx.of q1,?_⟩;cases q2<;>rfl
   |bE us=>cases e;obtain⟨xs,q1,q2⟩:=r.obj i _ ei;refine .inl ⟨xs,q1.sq,?_⟩;cases q2<;>rfl
   |ag us=>cases e;obtain⟨xs,q1,q2⟩:=r.obj i _ ei;refine .inr (.inr ⟨xs,q1,?_⟩);cases q2<;>rfl
   |ins _ _=>cases e
   |aD _ _=>cases e
end
section
variable {X:Cx}{E:XK}{a b c:Expr}{pos:Pos}{da db dc:Tw.Env->Tw.Hp->Tw.R Tw.W}
theorem ES(ha:PE X a (tE (zx X E) da))(he:∀whole,isTrue a X.env whole=(do let v <-whole;standAt a.pos;holding [v] (truthy v))):PT X a (tT (zx X E) da):=by
 refine PT.imp (CH ha he) fun σ H Q Z=>Z.g fun ρ Z=>Z.g fun h Z=>Z.g fun ι Z=>Z.g fun at' p=>⟨ρ,h,ι,at',(step at' p).mono fun x H1 Z=>Z.g fun w Z=>Z.g fun h1 Z=>Z.g fun ι1 Z=>Z.g fun at1 Z=>Z.g fun e1 Z=>Z.g fun r1 p1=>?_⟩;cases e:Tw.truth h1 w with
 |none=>rw[e] at p1;exact p1.elim
 |some k=>rw[e] at p1;exact⟨k,Ay ι1 h1 H1 w x k at1.hr r1 e,ai.self (a:=k) p1 at1.hr rfl⟩
theorem Mc(ha:PE X a (tE (zx X E) da))(ht:PT X a (tT (zx X E) da)):
  PE X (.UnaryOp .Not a pos) (tE (zx X E) fun ρ h=>(da ρ h).bind fun x h=>Tw.R.of ((Tw.truth h x).map fun b=>.bl (!b)) h)/\
  PT X (.UnaryOp .Not a pos) (tT (zx X E) fun ρ h=>(da ρ h).bind fun x h=>Tw.R.of ((Tw.truth h x).map fun b=>.bl (!b)) h):=by
 constructor
 .intro pins s σ H Q I ⟨ρ,h,ι,at',p⟩;refine UnaryOp_ (aC (ha pins s σ H _ I ⟨ρ,h,ι,at',step at' p⟩) fun v s1 Z=>Z.g fun x Z=>Z.g fun H1 Z=>Z.g fun I1 Z=>Z.g fun rv Z=>Z.g fun w Z=>Z.g fun h1 Z=>Z.g fun ι1 Z=>Z.g fun at1 Z=>Z.g fun e1 Z=>Z.g fun r1 p1=>not_of ?_);cases e:Tw.truth h1 w with
  |none=>rw[e] at p1;exact p1.elim
  |some k=>
   rw[e] at p1;refine aC (Bf pins s1 σ H1 x v (fun k' H'=>Q (.bl (!k')) H') I1 rv ⟨k,Ay ι1 h1 H1 w x k at1.hr r1 e,ai.self (a:=Tw.W.bl (!k)) p1 at1.hr (.bl _)⟩) fun k' s2 Z=>Z.g fun H2 Z=>Z.g fun I2 q=>⟨.bl (!k'),H2,I2,rfl,q⟩
 .refine PT.imp (HU ht) fun σ H Q Z=>Z.g fun ρ Z=>Z.g fun h Z=>Z.g fun ι Z=>Z.g fun at' p=>?_;refine⟨ρ,h,ι,at',?_⟩;simp only[dT,bind_assoc] at p⊢;cases e0:da ρ h with
  |bad=>rw[e0] at p;exact p.elim
  |aD=>rw[e0] at p;exact p
  |ok w h1=>
   rw[e0] at p;simp only[Tw.R.ak] at p⊢;cases e:Tw.truth h1 w with
   |none=>rw[e] at p;exact p.elim
   |some k=>
    rw[e] at p;intro ι' H' b e1 r1 q;cases q;exact p ι' H' (!k) e1 r1 rfl
noncomputable def yv(da db:Tw.Env->Tw.Hp->Tw.R Tw.W):Tw.Env->Tw.Hp->Tw.R Tw.W:=fun ρ h=>(da ρ h).bind fun x h=>match x with
  |.bl true=>db ρ h
  |.bl false=>.ok (.bl false) h
  |_=>.bad
noncomputable def Ep(da db:Tw.Env->Tw.Hp->Tw.R Tw.W):Tw.Env->Tw.Hp->Tw.R Tw.W:=fun ρ h=>(da ρ h).bind fun x h=>match x with
  |.bl false=>db ρ h
  |.bl true=>.ok (.bl true) h
  |_=>.bad
theorem LZ{rest:List Expr}(ha:PE X a (tE (zx X E) da))(hb:PE X (.BoolOp .And (b::rest) pos) (tE (zx X E) db)):PE X (.BoolOp .And (a::b::rest) pos) (tE (zx X E) (yv da db)):=by
 refine PE.imp (GQ ha hb) fun σ H Q Z=>Z.g fun ρ Z=>Z.g fun h Z=>Z.g fun ι Z=>Z.g fun at' p=>⟨ρ,h,ι,at',(step at' p).mono fun x H1 Z=>Z.g fun w Z=>Z.g fun h1 Z=>Z.g fun ι1 Z=>Z.g fun at1 Z=>Z.g fun e1 Z=>Z.g fun r1 p1=>?_⟩;cases r1 with
 |bl k=>
  refine⟨k,rfl,?_⟩;cases k with
  |true=>rw[if_pos rfl];exact⟨ρ,h1,ι1,at1,p1⟩
  |false=>rw[if_neg (by decide)];exact ai.self (a:=Tw.W.bl false) p1 at1.hr (.bl _)
 |_=>exact p1.elim
theorem Pj{rest:List Expr}(ha:PE X a (tE (zx X E) da))(hb:PE X (.BoolOp .Or (b::rest) pos) (tE (zx X E) db)):PE X (.BoolOp .Or (a::b::rest) pos) (tE (zx X E) (Ep da db)):=by
 refine PE.imp (LY ha hb) fun σ H Q Z=>Z.g fun ρ Z=>Z.g fun h Z=>Z.g fun ι Z=>Z.g fun at' p=>⟨ρ,h,ι,at',(step at' p).mono fun x H1 Z=>Z.g fun w Z=>Z.g fun h1 Z=>Z.g fun ι1 Z=>Z.g fun at1 Z=>Z.g fun e1 Z=>Z.g fun r1 p1=>?_⟩;cases r1 with
 |bl k=>
  refine⟨k,rfl,?_⟩;cases k with
  |true=>rw[if_pos rfl];exact ai.self (a:=Tw.W.bl true) p1 at1.hr (.bl _)
  |false=>rw[if_neg (by decide)];exact⟨ρ,h1,ι1,at1,p1⟩
 |_=>exact p1.elim
theorem w_and{rest:List Expr}(ha:PT X a (tT (zx X E) da))(hb:PW X (.BoolOp .And (b::rest) pos) (tT (zx X E) db)):PW X (.BoolOp .And (a::b::rest) pos) (tT (zx X E) (yv da db)):=by
 refine PW.imp (GZ ha hb) fun σ H Q Z=>Z.g fun ρ Z=>Z.g fun h Z=>Z.g fun ι Z=>Z.g fun at' p=>⟨ρ,h,ι,at',?_⟩;simp only[dT,yv,bind_assoc] at p⊢;cases e0:da ρ h with
 |bad=>rw[e0] at p;exact p.elim
 |aD=>rw[e0] at p;exact p
 |ok w h1=>
  rw[e0] at p;simp only[Tw.R.ak] at p⊢;cases w with
  |bl k=>
   intro ι' H' k' e1 r1 q;cases q;cases k with
   |true=>rw[if_pos rfl];exact⟨ρ,h1,ι',at'.later e1 r1,ai.later p e1⟩
   |false=>rw[if_neg (by decide)];exact ai.self (a:=false) (ai.later p e1) r1 rfl
  |_=>exact p.elim
theorem w_or{rest:List Expr}(ha:PT X a (tT (zx X E) da))(hb:PW X (.BoolOp .Or (b::rest) pos) (tT (zx X E) db)):PW X (.BoolOp .Or (a::b::rest) pos) (tT (zx X E) (Ep da db)):=by
 refine PW.imp (LC ha hb) fun σ H Q Z=>Z.g fun ρ Z=>Z.g fun h Z=>Z.g fun ι Z=>Z.g fun at' p=>⟨ρ,h,ι,at',?_⟩;simp only[dT,Ep,bind_assoc] at p⊢;cases e0:da ρ h with
 |bad=>rw[e0] at p;exact p.elim
 |aD=>rw[e0] at p;exact p
 |ok w h1=>
  rw[e0] at p;simp only[Tw.R.ak] at p⊢;cases w with
  |bl k=>
   intro ι' H' k' e1 r1 q;cases q;cases k with
   |true=>rw[if_pos rfl];exact ai.self (a:=true) (ai.later p e1) r1 rfl
   |false=>rw[if_neg (by decide)];exact⟨ρ,h1,ι',at'.later e1 r1,ai.later p e1⟩
  |_=>exact p.elim
theorem LP(hc:PT X c (tT (zx X E) dc))(ha:PE X a (tE (zx X E) da))(hb:PE X b (tE (zx X E) db)):PE X (.IfExp c a b pos) (tE (zx X E) fun ρ h=>(dc ρ h).bind fun x h=>match Tw.truth h x with
  |some true=>da ρ h
  |some false=>db ρ h
  |none=>.bad):=by
 refine PE.imp (BS hc ha hb) fun σ H Q Z=>Z.g fun ρ Z=>Z.g fun h Z=>Z.g fun ι Z=>Z.g fun at' p=>⟨ρ,h,ι,at',?_⟩;simp only[dT] at p⊢;cases e0:dc ρ h with
 |bad=>rw[e0] at p;exact p.elim
 |aD=>rw[e0] at p;exact p
 |ok w h1=>
  rw[e0] at p;simp only[Tw.R.ak] at p⊢;cases e:Tw.truth h1 w with
  |none=>rw[e] at p;exact p.elim
  |some k=>
   rw[e] at p;intro ι' H' k' e1 r1 q;cases q;cases k with
   |true=>rw[if_pos rfl];exact⟨ρ,h1,ι',at'.later e1 r1,ai.later p e1⟩
   |false=>rw[if_neg (by decide)];exact⟨ρ,h1,ι',at'.later e1 r1,ai.later p e1⟩
theorem EX(hu:X.A.units+1<cLine):mx X (fun x y H Q=>∃a v,x=.ref a/\ft H a y (some v)/\Q v H):=by
 intro value slice pins s σ H x y v u Q I rx ry ⟨a,z,ex,g,q⟩ hs;subst ex;cases rx;have hT:=vO I g;unfold subscriptTail;refine wpAny_bind ?_;rw[getitemInPython_of_ne hT.not_modules];refine wpAny_bind (wpAny_specialOf hT PySem.F.slot_dict_getitem.lookup ?_);have fin:wpAny (model X.prog X.w) X.A (subscripted slice false (.ref a) u) (fun r s₃=>wpAny (model X.prog X.w) X.A (letTemporaryGo value (.ref a) r >>= fun _=>pure r) (EP X pins σ Q) X.xe s₃) X.xe s:=by rw[hs];exact wpAny_operating (aC (zg hu I g ry fun w' s3 I3 rw'=>(⟨z,H,I3,rw',q⟩:EP X pins σ Q w' s3)) fun r s₃ h₃=>wpAny_bind (wpAny_letTemporaryGo (wpAny_pure h₃)))
 first
  |exact wpAny_pure (wpAny_bind fin)
  |exact wpAny_bind (wpAny_pure (wpAny_bind fin))
  |exact wpAny_bind fin
noncomputable def Gx(K:PySem.W.Frag):R2:=fun x y H Q=>ML K x y H Q\/∃a v,x=.ref a/\ft H a y (some v)/\Q v H
theorem GY(ι:Nat->Addr)(h:Tw.Hp)(H:L2.Hp)(w u:Tw.W)(x y:V)(Q:VK)(r:HR (zx X E) ι h H)(rx:RW X.K ι h.length H w x)(ry:RW X.K ι h.length H u y)(p:ai (zx X E) RE ι h H (Tw.idx w u h) Q):Gx X.K x y H Q:=by
 have lst:∀(i:Nat)(hi:i<h.length)(ws:List Tw.W)(xs:List V),bx X.K H (ι i) xs->aL X.K ι h.length H ws xs->ai (zx X E) RE ι h H (match u with | .int k=>Tw.R.of (Tw.bG ws k) h|_=>.bad) Q->Gx X.K (.ref (ι i)) y H Q:=by
  intro i hi ws xs sq rr p;cases ry with
  |int k=>
   dsimp only at p;cases e:Tw.bG ws k with
   |none=>rw[e] at p;exact p.elim
   |some w'=>
    rw[e] at p;obtain⟨v,q1,q2⟩:=rr.bG e;exact .inl (.inl ⟨ι i,xs,k,v,rfl,rfl,sq,q1,ai.self (a:=w') p r q2⟩)
  |_=>exact p.elim
 cases rx with
 | @tup a xs ws ea ra=>
  cases ry with
  |int k=>
   have p:ai (zx X E) RE ι h H (Tw.R.of (Tw.bG ws k) h) Q:=p;cases e:Tw.bG ws k with
   |none=>rw[e] at p;exact p.elim
   |some w'=>
    rw[e] at p;obtain⟨v,q1,q2⟩:=ra.bG e;exact .inl (.inr (.inl ⟨a,xs,k,v,rfl,rfl,TupAt.sq ea,q1,ai.self (a:=w') p r q2⟩))
  |_=>exact p.elim
 |str z hz=>
  cases ry with
  |int k=>
   have p:ai (zx X E) RE ι h H (if z.length<=Tw.SZ then Tw.R.of ((Tw.bG z k).map fun c=>Tw.W.str [c]) h else .bad) Q:=p;by_cases c:z.length<=Tw.SZ
   .rw[if_pos c] at p;cases e:Tw.bG z k with
    |none=>rw[e] at p;exact p.elim
    |some d=>
     rw[e] at p;refine .inl (.inr (.inr ⟨_,k,d,rfl,rfl,by rw[str_len,eJ];exact c,?_,?_⟩))
     .show L2.bG z.toArray.toList k=some d;rw[List.toList_toArray];exact e
     .have hd:d<0x110000:=by
       unfold Tw.bG at e;cases e2:Tw.gu z.length k with
       |none=>rw[e2] at e;cases e
       |some j=>rw[e2] at e;exact hz d (List.mem_of_getElem? e)
      exact ai.self (a:=Tw.W.str [d]) p r (.str [d] fun c hc=>by simp at hc;subst hc;exact hd)
   .rw[if_neg c] at p;exact p.elim
  |_=>exact p.elim
 | @ref i hi=>
  cases ei:h[i]? with
  |none=>
   have:h.length<=i:=by
    rcases Nat.lt_or_ge i h.length with z|z
    .rw[List.getElem?_eq_getElem z] at ei;cases ei
    .exact z
   omega
  |some o=>
   cases o with
   |lst ws=>
    obtain⟨xs,q1,q2⟩:=r.obj i _ ei;refine lst i hi ws xs (bx.of q1) q2 ?_;simp only[Tw.idx,ei] at p;cases u<;>exact p
   |bE ws=>
    obtain⟨xs,q1,q2⟩:=r.obj i _ ei;refine lst i hi ws xs q1.sq q2 ?_;simp only[Tw.idx,ei] at p;cases u<;>exact p
   |ag kvs=>
    obtain⟨xs,q1,q2⟩:=r.obj i _ ei;have p:ai (zx X E) RE ι h H (if Tw.isKey u=true then Tw.R.of (Tw.bH u kvs) h else .bad) Q:=by simp only[Tw.idx,ei] at p;cases u<;>exact p
    by_cases c:Tw.isKey u=true
    .rw[if_pos c] at p;obtain⟨k,rfl⟩:=gn ry c;rcases q2.get ry with ⟨g1,g2⟩|⟨w2,v2,g1,g2,g3⟩
     .rw[g1] at p;exact p.elim
     .rw[g1] at p;refine .inr ⟨_,v2,rfl,?_,ai.self (a:=w2) p r g3⟩;have:=ft.k (k:=k) q1;rw[g2] at this;exact this
    .rw[if_neg c] at p;exact p.elim
   |ins _ _=>exfalso;cases ry<;>simp[Tw.idx,ei] at p<;>exact p
   |aD _ _=>exfalso;cases ry<;>simp[Tw.idx,ei] at p<;>exact p
 |_=>cases ry<;>exact p.elim
theorem K6(hu:X.A.units+1<cLine)(ha:PE X a (tE (zx X E) da))(hb:PE X b (tE (zx X E) db))(hs:qQ b):PE X (.Subscript a b pos) (tE (zx X E) fun ρ h=>(da ρ h).bind fun x h=>(db ρ h).bind fun y h=>Tw.idx x y h):=
 PE.imp (Dz (JL.or (EX hu)) ha hb hs) (two GY)
theorem Cw(x:Tw.S)(l u:Option (Int×Tok)):(slicePicked ⟨x.toArray⟩ l u none).filterMap (x.toArray[·]?)=Tw.cut x (l.map (·.1)) (u.map (·.1))/\
  (slicePicked ⟨x.toArray⟩ l u none)=(List.range (Tw.aO x.length x.length (u.map (·.1))-Tw.aO x.length 0 (l.map (·.1)))).map (Tw.aO x.length 0 (l.map (·.1))+ ·):=by
 have e:slicePicked ⟨x.toArray⟩ l u none=Builtin.Str.strSliceIndices (l.map (·.1)) (u.map (·.1)) 1 x.length:=by unfold slicePicked;rw[str_len];rfl
 have e2:Builtin.Str.strSliceIndices (l.map (·.1)) (u.map (·.1)) 1 x.length=sliceRange (sliceBounds (l.map (·.1)) (u.map (·.1)) none x.length).1 (sliceBounds (l.map (·.1)) (u.map (·.1)) none x.length).2.1 1:=rfl;obtain⟨h1,h2,h3⟩:=mP (l.map (·.1)) (u.map (·.1)) x.length;rw[e,e2,h1,h2,sliceRange_one,pick_run];unfold Tw.cut;rw[jq,jq];exact⟨by simp,rfl⟩
noncomputable def Ie:V->Option Int->Option Int->L2.Hp->VK->Prop:=fun x lo hi H Q=>∃z:Tw.S,x=.str ⟨z.toArray⟩/\z.length<=sizeLine/\Q (.str ⟨(Tw.cut z lo hi).toArray⟩) H
theorem part_of{v:Value}{o:Option Int}(p:IsPart v o):∃l:Option (Int×Tok),v=partValue l/\o=l.map (·.1):=by
 cases p with
 |none=>exact⟨none,rfl,rfl⟩
 |int i t=>exact⟨some (i,t),rfl,rfl⟩
theorem GI:pj X Ie:=by
 intro pins s σ H x v vl vu lo hi sl Q I rx hs pl pu ⟨z,ex,lz,q⟩;subst ex;obtain⟨t,rfl⟩:=rx;obtain⟨l,rfl,rfl⟩:=part_of pl;obtain⟨u,rfl,rfl⟩:=part_of pu;refine⟨"str",_,PySem.F.slot_str_getitem.lookup,typeIs_str s _ t,?_⟩;refine wpAny_getItem_str_slice (l:=l) (u:=u) (st:=none) hs rfl ?_;obtain⟨h1,h2⟩:=Cw z l u;unfold sliceMade;by_cases c:((((none:Option (Int×Tok)).map (·.1)).getD 1== 1&&(slicePicked ⟨z.toArray⟩ l u none).length== (⟨z.toArray⟩:Str).length)=true)
 .rw[if_pos c];have c2:(slicePicked ⟨z.toArray⟩ l u none).length=z.length:=by
   have:=(Bool.and_eq_true_iff.mp c).2;rw[str_len] at this;simpa using this
  rw[h2,List.length_map,List.length_range] at c2;have ez:Tw.cut z (l.map (·.1)) (u.map (·.1))=z:=by
   have b1:Tw.aO z.length z.length (u.map (·.1))<=z.length:=by rw[jq];exact HT.zI _ _ (Nat.le_refl _) _
   unfold Tw.cut;by_cases zl:z.length=0
   .have:z=[]:=List.eq_nil_of_length_eq_zero zl;subst this;simp
   .have b2:Tw.aO z.length 0 (l.map (·.1))=0:=by omega
    have b3:Tw.aO z.length z.length (u.map (·.1))=z.length:=by omega
    rw[b2,b3];simp
  rw[ez] at q;exact⟨.str ⟨z.toArray⟩,H,I,⟨t,rfl⟩,q⟩
 .rw[if_neg c];have e:(⟨((slicePicked ⟨z.toArray⟩ l u none).filterMap ((⟨z.toArray⟩:Str).cps[·]?)).toArray⟩:Str)=⟨(Tw.cut z (l.map (·.1)) (u.map (·.1))).toArray⟩:=by
   rw[show ((slicePicked ⟨z.toArray⟩ l u none).filterMap ((⟨z.toArray⟩:Str).cps[·]?))=_ from h1]
  rw[e];have lc:(⟨(Tw.cut z (l.map (·.1)) (u.map (·.1))).toArray⟩:Str).length<=sizeLine:=by rw[str_len];unfold Tw.cut;rw[List.length_take,List.length_drop];omega
  exact⟨lc,.str ⟨(Tw.cut z (l.map (·.1)) (u.map (·.1))).toArray⟩,H,I.tok _,⟨_,rfl⟩,q⟩
end
section
variable {X:Cx}{E:XK}{a b c:Expr}{pos:Pos}{da db dc:Tw.Env->Tw.Hp->Tw.R Tw.W}
theorem Gi{z:Tw.S}(hz:m8 z)(lo hi:Option Int):m8 (Tw.cut z lo hi):=fun c hc=>hz c (List.mem_of_mem_drop (List.mem_of_mem_take hc))
noncomputable abbrev zR(K:Zk)(d:Tw.Env->Tw.Hp->Tw.R (Option Tw.W)):TO:=fun σ H Q=>∃ρ h ι,At K ι h H ρ σ/\ai K (fun _ _ _ _ (a:Option Tw.W) (b:Option Tw.W)=>a=b) ι h H (d ρ h) fun o H1=>∃i,Tw.gX o=some i/\Q i H1
theorem BU:PO X none (zR (zx X E) fun _ h=>.ok none h):=fun pins s σ H Q I Z=>Z.g fun ρ Z=>Z.g fun h Z=>Z.g fun ι Z=>Z.g fun at' p=>by
 obtain⟨i,e,q⟩:=p.self at'.hr rfl;cases e;exact Fd pins s σ H Q I q
theorem BF(ha:PE X a (tE (zx X E) da)):PO X (some a) (zR (zx X E) fun ρ h=>(da ρ h).bind fun x h=>.ok (some x) h):=fun pins s σ H Q I Z=>Z.g fun ρ Z=>Z.g fun h Z=>Z.g fun ι Z=>Z.g fun at' p=>by
 refine ER ha pins s σ H Q I ⟨ρ,h,ι,at',(step at' p).mono fun x H1 Z=>Z.g fun w Z=>Z.g fun h1 Z=>Z.g fun ι1 Z=>Z.g fun at1 Z=>Z.g fun e1 Z=>Z.g fun r1 p1=>?_⟩;obtain⟨i,e,q⟩:=ai.self (a:=some w) p1 at1.hr rfl;cases r1 with
 |int k=>cases e;exact⟨k,rfl,q⟩
 |_=>cases e
noncomputable def JY(K:PySem.W.Frag):V->Option Int->Option Int->L2.Hp->VK->Prop:=fun x lo hi H Q=>KD K x lo hi H Q\/GL K x lo hi H Q\/Ie x lo hi H Q
theorem Jm:pj X (JY X.K):=Jt.or (Fq.or GI)
theorem CL{ι:Nat->Addr}{h:Tw.Hp}{H:L2.Hp}{w:Tw.W}{x:V}{l u:Option Tw.W}{i j:Option Int}{Q:VK}(r:HR (zx X E) ι h H)(rx:RW X.K ι h.length H w x)(el:Tw.gX l=some i)(eu:Tw.gX u=some j)
  (p:ai (zx X E) RE ι h H (Tw.slice w l u h) Q):JY X.K x i j H Q:=by
 unfold Tw.slice at p;rw[el,eu] at p;dsimp only at p;cases rx with
 | @tup a xs ws ea ra=>
  dsimp only at p;by_cases c:Tw.aO ws.length 0 i=0/\Tw.aO ws.length ws.length j=ws.length
  .rw[if_pos c] at p;exact p.elim
  .rw[if_neg c] at p;refine .inl ⟨a,xs,rfl,TupAt.sq ea,?_,p.tup r (ra.cut i j)⟩;rw[<-ra.length,<-jq,<-jq];exact c
 |str z hz=>
  dsimp only at p;by_cases c:z.length<=Tw.SZ
  .rw[if_pos c] at p;exact .inr (.inr ⟨z,rfl,by rw[eJ];exact c,p.self r (.str _ (Gi hz i j))⟩)
  .rw[if_neg c] at p;exact p.elim
 | @ref k hk=>
  dsimp only at p;cases ei:h[k]? with
  |none=>rw[ei] at p;exact p.elim
  |some o=>
   rw[ei] at p;cases o with
   |lst ws=>obtain⟨xs,q1,q2⟩:=r.obj k _ ei;exact .inr (.inl ⟨_,xs,rfl,bx.of q1,p.lst r (q2.cut i j)⟩)
   |bE ws=>obtain⟨xs,q1,q2⟩:=r.obj k _ ei;exact .inr (.inl ⟨_,xs,rfl,q1.sq,p.lst r (q2.cut i j)⟩)
   |ag _=>exact p.elim
   |ins _ _=>exact p.elim
   |aD _ _=>exact p.elim
 |_=>exact p.elim
theorem Fp{lo hi:Option Expr}{p2:Pos}{dl du:Tw.Env->Tw.Hp->Tw.R (Option Tw.W)}(ha:PE X a (tE (zx X E) da))(hl:PO X lo (zR (zx X E) dl))(hu:PO X hi (zR (zx X E) du)):
  PE X (.Subscript a (.Slice lo hi none p2) pos) (tE (zx X E) fun ρ h=>(da ρ h).bind fun x h=>(dl ρ h).bind fun l h=>(du ρ h).dN.bind fun u h=>Tw.slice x l u h):=by
 refine PE.imp (Ca Jm ha hl hu) fun σ H Q Z=>Z.g fun ρ Z=>Z.g fun h Z=>Z.g fun ι Z=>Z.g fun at' p=>⟨ρ,h,ι,at',(step at' p).mono fun x H1 Z=>Z.g fun w Z=>Z.g fun h1 Z=>Z.g fun ι1 Z=>Z.g fun at1 Z=>Z.g fun e1 Z=>Z.g fun r1 p1=>?_⟩;refine⟨ρ,h1,ι1,at1,?_⟩;cases el:dl ρ h1 with
 |bad=>rw[el] at p1;exact p1.elim
 |aD=>rw[el] at p1;exact p1
 |ok l h2=>
  rw[el] at p1;simp only[Tw.R.ak] at p1;intro ι2 H2 l' e2 r2 q2;cases q2;cases eu:du ρ h2 with
  |bad=>rw[eu] at p1;exact p1.elim
  |aD=>rw[eu] at p1;exact p1.elim
  |ok u h3=>
   rw[eu] at p1;simp only[Tw.R.kn,Tw.R.ak] at p1;have pl:∃i,Tw.gX l=some i:=by
    cases e:Tw.gX l with
    |some i=>exact⟨i,rfl⟩
    |none=>unfold Tw.slice at p1;rw[e] at p1;exact p1.elim
   have pu:∃i,Tw.gX u=some i:=by
    cases e:Tw.gX u with
    |some i=>exact⟨i,rfl⟩
    |none=>unfold Tw.slice at p1;rw[e] at p1;obtain⟨i,e'⟩:=pl;rw[e'] at p1;exact p1.elim
   obtain⟨i,ei⟩:=pl;obtain⟨j,ej⟩:=pu;refine⟨i,ei,ρ,h2,ι2,at1.later e2 r2,?_⟩;rw[eu];intro ι3 H3 u' e3 r3 q3;cases q3;have p3:=ai.later (ai.later p1 e2) e3;exact⟨j,ej,CL r3 ((r1.keep (e2.keeps at1.hr)).keep (e3.keeps r2)) ei ej p3⟩
theorem nu{r:List V->L2.Hp->VK->Prop}{x:Str}{p:Pos}{o:Tw.B}(hp:PE X (.Call (.Name x p) [a] [] pos) (IM r (lu (tE (zx X E) da) tS)))
  (hr:∀(ι:Nat->Addr)(h:Tw.Hp)(H:L2.Hp)(w:Tw.W)(x:V)(Q:VK),HR (zx X E) ι h H->RW X.K ι h.length H w x->ai (zx X E) RE ι h H (Tw.builtin o w h) Q->r [x] H Q):
  PE X (.Call (.Name x p) [a] [] pos) (tE (zx X E) fun ρ h=>(da ρ h).bind fun x h=>Tw.builtin o x h):=
 PE.imp hp fun σ H Q Z=>Z.g fun ρ Z=>Z.g fun h Z=>Z.g fun ι Z=>Z.g fun at' p=>⟨ρ,h,ι,at',(step at' p).mono fun x H1 Z=>Z.g fun w Z=>Z.g fun h1 Z=>Z.g fun ι1 Z=>Z.g fun at1 Z=>Z.g fun e1 Z=>Z.g fun r1 p1=>hr ι1 h1 H1 w x Q at1.hr r1 p1⟩
noncomputable def Ed(K:PySem.W.Frag):List V->L2.Hp->VK->Prop:=fun xs H Q=>(∃p ys,xs=[.ref p]/\(bx K H p ys\/df K H p ys)/\Q (.int ys.length) H)\/(∃z,xs=[.str z]/\z.length<=sizeLine/\Q (.int z.length) H)\/∃a kvs,xs=[V.ref a]/\H a=some (.dK kvs)/\Q (.int kvs.length) H
theorem AU:c6 X (.builtin "len") (Ed X.K):=t5.or (uo.or AE)
theorem GN(ι:Nat->Addr)(h:Tw.Hp)(H:L2.Hp)(w:Tw.W)(x:V)(Q:VK)(r:HR (zx X E) ι h H)(rx:RW X.K ι h.length H w x)(p:ai (zx X E) RE ι h H (Tw.builtin .len w h) Q):Ed X.K [x] H Q:=by
 unfold Tw.builtin at p;dsimp only at p;cases rx with
 |str z hz=>
  dsimp only at p;by_cases c:z.length<=Tw.SZ
  .rw[if_pos c] at p;refine .inr (.inl ⟨_,rfl,by rw[str_len,eJ];exact c,?_⟩);rw[str_len];exact p.self r (.int _)
  .rw[if_neg c] at p;exact p.elim
 | @tup a xs ws ea ra=>exact .inl ⟨a,xs,rfl,.inr (TupAt.sq ea),by rw[<-ra.length];exact p.self r (.int _)⟩
 | @ref k hk=>
  dsimp only at p;cases ei:h[k]? with
  |none=>rw[ei] at p;exact p.elim
  |some o=>
   rw[ei] at p;cases o with
   |lst ws=>obtain⟨xs,q1,q2⟩:=r.obj k _ ei;exact .inl ⟨_,xs,rfl,.inl (bx.of q1),by rw[<-q2.length];exact p.self r (.int _)⟩
   |bE ws=>obtain⟨xs,q1,q2⟩:=r.obj k _ ei;exact .inl ⟨_,xs,rfl,.inl q1.sq,by rw[<-q2.length];exact p.self r (.int _)⟩
   |ag kvs=>obtain⟨xs,q1,q2⟩:=r.obj k _ ei;exact .inr (.inr ⟨_,xs,rfl,q1,by rw[<-q2.length];exact p.self r (.int _)⟩)
   |ins _ _=>exact p.elim
   |aD _ _=>exact p.elim
 |_=>exact p.elim
theorem zE:c6 X (.type "tuple") (fun xs H Q=>∃p ys,xs=[.ref p]/\((bx X.K H p ys/\∀l,H l=none->Q (.ref l) (upd H l (.tup ys)))\/(df X.K H p ys/\Q (.ref p) H))):=sT
theorem Cb(ι:Nat->Addr)(h:Tw.Hp)(H:L2.Hp)(w:Tw.W)(x:V)(Q:VK)(r:HR (zx X E) ι h H)(rx:RW X.K ι h.length H w x)(p:ai (zx X E) RE ι h H (Tw.builtin .tuple w h) Q):
  ∃p ys,[x]=[V.ref p]/\((bx X.K H p ys/\∀l,H l=none->Q (.ref l) (upd H l (.tup ys)))\/(df X.K H p ys/\Q (.ref p) H)):=by
 unfold Tw.builtin at p;dsimp only at p;cases rx with
 | @tup a xs ws ea ra=>exact⟨a,xs,rfl,.inr ⟨TupAt.sq ea,p.self r (.tup ea ra)⟩⟩
 | @ref k hk=>
  dsimp only at p;cases ei:h[k]? with
  |none=>rw[ei] at p;exact p.elim
  |some o=>
   rw[ei] at p;cases o with
   |lst ws=>obtain⟨xs,q1,q2⟩:=r.obj k _ ei;exact⟨_,xs,rfl,.inl ⟨bx.of q1,p.tup r q2⟩⟩
   |bE ws=>obtain⟨xs,q1,q2⟩:=r.obj k _ ei;exact⟨_,xs,rfl,.inl ⟨q1.sq,p.tup r q2⟩⟩
   |ag kvs=>exact p.elim
   |ins _ _=>exact p.elim
   |aD _ _=>exact p.elim
 |_=>exact p.elim
theorem rP{P:Program}{w:World}:∀{kvs:List (Key×V)}{vs:List (Key×Value)},Paired (fun (p:Key×V) (q:Key×Value)=>p.1=q.1/\RelV p.2 q.2) kvs vs->∀us:List Value,us.length=vs.length->
  (∀(j:Nat)(v:Value),us[j]?=some v->∃k x,vs[j]?=some (k,x)/\(bD P w).is k v=true)->Vals (kvs.map fun kv=>kV kv.1) us
 |_,_,.nil,[],_,_=>.nil
 |_,_,.nil,_::_,hn,_=>by cases hn
 |_,_,.cons _ _,[],hn,_=>by cases hn
 |_,_,.cons (a:=p) (b:=q') hp t,u::us,hn,hall=>by
  refine .cons ?_ (rP t us (by simpa using hn) fun j v e=>by simpa using hall (j+1) v (by simpa using e));obtain⟨k,x,e,hk⟩:=hall 0 u rfl;have e:q'=(k,x):=by simpa using e
  subst e;have hk:gF k u=true:=hk;show RelV (kV p.1) u;rw[hp.1];rcases b7 hk with ⟨i,t,e1,rfl⟩|⟨y,t,e1,rfl⟩
  .show RelV (kV k) _;rw[e1];exact⟨t,rfl⟩
  .show RelV (kV k) _;rw[e1];exact⟨t,rfl⟩
theorem yI(hc:X.calm=true):c6 X (.type "list") (fun xs H Q=>∃a kvs,xs=[V.ref a]/\H a=some (.dK kvs)/\∀l,H l=none->Q (.ref l) (upd H l (.lst (kvs.map fun kv=>kV kv.1)))):=by
 intro pins s σ H xs us Q I r ⟨a,kvs,ex,ea,q⟩;subst ex;obtain⟨u,rfl,ru⟩:=vals1 r;cases ru;obtain⟨z,hd,vs,rel,dd⟩:=xU I.ao ea;obtain⟨ep,da⟩:=dd.dictAt;refine PySem.W.kdl_call (PySem.W.kdl_dict hd) (I.ok.hd hc) da (by rw[<-rel.length];exact z) fun h' tk acc' c' hk hS hi=>?_;have rv:Vals (kvs.map fun kv=>kV kv.1) acc'.toList:=by
  have hn:acc'.toList.length=vs.length:=by rw[Array.length_toList];exact hi.1
  exact rP rel acc'.toList hn fun j v e=>hi.2 j v (by rw[<-Array.getElem?_toList];exact e)
 exact⟨.ref s.heap.objs.size,_,I.laid (a:=s.heap.objs.size) (o:=.lst _) (t':=tk) hk (Nat.le_refl _) ⟨by rw[List.length_map];exact z,acc'.toList,c',rv,by simpa using hS⟩,rfl,q _ (I.ao.fresh (Nat.le_refl _))⟩
theorem RD.keys{ι:Nat->Addr}{n:Nat}{H:L2.Hp}:∀{kvs:List (Tw.W×Tw.W)}{xs:List (Key×V)},RD X.K ι n H kvs xs->aL X.K ι n H (kvs.map (·.1)) (xs.map fun kv=>kV kv.1)
 |_,_,.nil=>.nil
 |_,_,.cons _ a _ r=>.cons a r.keys
noncomputable def Ah(K:PySem.W.Frag):List V->L2.Hp->VK->Prop:=fun xs H Q=>(∃p ys,xs=[.ref p]/\(bx K H p ys\/df K H p ys)/\∀l,H l=none->Q (.ref l) (upd H l (.lst ys)))\/
 ∃a kvs,xs=[V.ref a]/\H a=some (.dK kvs)/\∀l,H l=none->Q (.ref l) (upd H l (.lst (kvs.map fun kv=>kV kv.1)))
theorem xB(hc:X.calm=true):c6 X (.type "list") (Ah X.K):=tL.or (yI hc)
theorem FZ(ι:Nat->Addr)(h:Tw.Hp)(H:L2.Hp)(w:Tw.W)(x:V)(Q:VK)(r:HR (zx X E) ι h H)(rx:RW X.K ι h.length H w x)(p:ai (zx X E) RE ι h H (Tw.builtin .list w h) Q):Ah X.K [x] H Q:=by
 unfold Tw.builtin at p;dsimp only at p;cases rx with
 | @tup a xs ws ea ra=>exact .inl ⟨a,xs,rfl,.inr (TupAt.sq ea),p.lst r ra⟩
 | @ref k hk=>
  dsimp only at p;cases ei:h[k]? with
  |none=>rw[ei] at p;exact p.elim
  |some o=>
   rw[ei] at p;cases o with
   |lst ws=>obtain⟨xs,q1,q2⟩:=r.obj k _ ei;exact .inl ⟨_,xs,rfl,.inl (bx.of q1),p.lst r q2⟩
   |bE ws=>obtain⟨xs,q1,q2⟩:=r.obj k _ ei;exact .inl ⟨_,xs,rfl,.inl q1.sq,p.lst r q2⟩
   |ag kvs=>obtain⟨xs,q1,q2⟩:=r.obj k _ ei;exact .inr ⟨_,xs,rfl,q1,p.lst r q2.keys⟩
   |ins _ _=>exact p.elim
   |aD _ _=>exact p.elim
 |_=>exact p.elim
theorem yF:c6 X (.type "dict") (fun xs H Q=>∃a kvs,xs=[V.ref a]/\H a=some (.dK kvs)/\∀l,H l=none->Q (.ref l) (upd H l (.dK kvs))):=by intro pins s σ H xs us Q I r ⟨a,kvs,ex,ea,q⟩;subst ex;obtain⟨u,rfl,ru⟩:=vals1 r;cases ru;exact BR I (.inl ea) fun p s' hp I'=>⟨.ref p,_,I',rfl,q p hp⟩
theorem EG(ι:Nat->Addr)(h:Tw.Hp)(H:L2.Hp)(w:Tw.W)(x:V)(Q:VK)(r:HR (zx X E) ι h H)(rx:RW X.K ι h.length H w x)(p:ai (zx X E) RE ι h H (Tw.builtin .dict w h) Q):
  ∃a kvs,[x]=[V.ref a]/\H a=some (.dK kvs)/\∀l,H l=none->Q (.ref l) (upd H l (.dK kvs)):=by
 unfold Tw.builtin at p;dsimp only at p;cases rx with
 | @ref k hk=>
  dsimp only at p;cases ei:h[k]? with
  |none=>rw[ei] at p;exact p.elim
  |some o=>
   rw[ei] at p;cases o with
   |ag kvs=>obtain⟨xs,q1,q2⟩:=r.obj k _ ei;exact⟨_,xs,rfl,q1,p.ag r q2⟩
   |_=>exact p.elim
 |_=>exact p.elim
end
section
variable {X:Cx}{E:XK}{a b c o e f:Expr}{pos apos cpos:Pos}{da db dc d1 d2:Tw.Env->Tw.Hp->Tw.R Tw.W}
noncomputable def fk(K:PySem.W.Frag)(mg:Str->Option Value)(F:List Tw.W->Tw.Hp->Tw.R Tw.W):Sp:=fun vs H Q E=>∃ws h ι,HR ⟨K,mg,E⟩ ι h H/\aL K ι h.length H ws vs/\ai ⟨K,mg,E⟩ RE ι h H (F ws h) Q
theorem s_call{CX:eE}{k n:Nat}{g:Addr}{fd:FuncData}{ps:List Str}{F:List Tw.W->Tw.Hp->Tw.R Tw.W}{x:Str}{p:Pos}{es:List Expr}{ds:Tw.Env->Tw.Hp->Tw.R (List Tw.W)}
  (G:bU X.prog X.w X.K X.mg X.base CX k g fd ps (fk X.K X.mg F)) (hx:Passes CX X E) (hr:bI k X.A) (hg:Gl X x) (hm:X.mg x=some (.ref g)) (hk:PySem.W.keepIn X.K (.ref g)=true) (hb:Binds X.K fd ps [])
  (hs:PA X (e::es) (tA (zx X E) n ds)) (hd:(x== ("__debug__" : Str))=false) (hst:starEach (e::es) X.env=(false,eval e X.env)::starEach es X.env) (hpl:(backTo pos (starEach es X.env)).any (·.1)=false):
  PE X (.Call (.Name x p) (e::es) [] pos) (tE (zx X E) fun ρ h=>(ds ρ h).bind fun xs h=>F xs h):=by
 refine PE.imp (Fi (dvs:=[]) (ds:=[]) (E:=E) G hr hg hm hk hb .nil hx hs hd hst hpl) fun σ H Q Z=>Z.g fun ρ Z=>Z.g fun h Z=>Z.g fun ι Z=>Z.g fun at' p=>⟨ρ,h,ι,at',(step at' p).mono fun xs H1 Z=>Z.g fun ws Z=>Z.g fun h1 Z=>Z.g fun ι1 Z=>Z.g fun at1 Z=>Z.g fun e1 Z=>Z.g fun r1 p1=>?_⟩;rw[List.append_nil];exact⟨ws,h1,ι1,at1.hr,r1.1,p1⟩
structure Me(X:Cx)(o:Expr)(m:Str)(apos:Pos)(es:List Expr)(cpos:Pos):Prop where
 base:attributeBase o m X.env (eval o X.env)=eval o X.env
 ko:((backTo cpos (starEach es X.env)).all (fun x=>!x.1)&&(backToKw cpos (keywordEach [] X.env)).all (fun x=>x.1.isSome)
  && decide (es.length+([]:List Keyword).length+(if ([]:List Keyword).isEmpty then 0 else 1)<30))=true
 line:(apos.endLine== cpos.line)=true
noncomputable def vh(m:Tw.Mt)(da db:Tw.Env->Tw.Hp->Tw.R Tw.W):Tw.Env->Tw.Hp->Tw.R Tw.W:=fun ρ h=>(da ρ h).bind fun x h=>if Tw.j8 m x h then (db ρ h).bind fun y h=>Tw.method m x [y] h else .bad
noncomputable def IX(m:Tw.Mt)(da db dc:Tw.Env->Tw.Hp->Tw.R Tw.W):Tw.Env->Tw.Hp->Tw.R Tw.W:=fun ρ h=>(da ρ h).bind fun x h=>if Tw.j8 m x h then (db ρ h).bind fun y h=>(dc ρ h).bind fun z h=>Tw.method m x [y,z] h else .bad
theorem ai.ite{K:Zk}{α β:Type}{R:Rl α β}{ι:Nat->Addr}{h:Tw.Hp}{H:L2.Hp}{c:Bool}{m:Tw.R α}{Q:β->L2.Hp->Prop}(p:ai K R ι h H (if c=true then m else .bad) Q):c=true/\ai K R ι h H m Q:=by
 cases c with
 |true=>exact⟨rfl,by simpa using p⟩
 |false=>rw[if_neg (by decide)] at p;exact p.elim
theorem Be{w:Tw.W}{h:Tw.Hp}(e:Tw.j8 .append w h=true):∃i ws,w=.ref i/\h[i]?=some (.lst ws):=by
 cases w with
 |ref i=>
  have e:(match h[i]? with|some (.lst _)=>true|_=>false)=true:=e;cases ei:h[i]? with
  |none=>rw[ei] at e;cases e
  |some o=>
   rw[ei] at e;cases o with
   |lst ws=>exact⟨i,ws,rfl,ei⟩
   |_=>cases e
 |_=>cases e
theorem Bc{w:Tw.W}{h:Tw.Hp}(e:Tw.j8 .get w h=true):∃i ws,w=.ref i/\h[i]?=some (.ag ws):=by
 cases w with
 |ref i=>
  have e:(match h[i]? with|some (.ag _)=>true|_=>false)=true:=e;cases ei:h[i]? with
  |none=>rw[ei] at e;cases e
  |some o=>
   rw[ei] at e;cases o with
   |ag ws=>exact⟨i,ws,rfl,ei⟩
   |_=>cases e
 |_=>cases e
theorem Dh(me:Me X o "append" apos [e] cpos)(hst:starEach [e] X.env=[(false,eval e X.env)])(ho:PE X o (tE (zx X E) da))(he:PE X e (tE (zx X E) db)):
  PE X (.Call (.Attribute o "append" apos) [e] [] cpos) (tE (zx X E) (vh .append da db)):=by
 refine PE.imp (yt PySem.F.plainAttrs_list PySem.F.slot_list_append PySem.F.type_list_append rS ho (bX he cK hst) me.base me.ko me.line hst rfl) fun σ H Q Z=>Z.g fun ρ Z=>Z.g fun h Z=>Z.g fun ι Z=>Z.g fun at' p=>?_;refine⟨ρ,h,ι,at',(step at' p).mono fun x H1 Z=>Z.g fun w Z=>Z.g fun h1 Z=>Z.g fun ι1 Z=>Z.g fun at1 Z=>Z.g fun e1 Z=>Z.g fun r1 p1=>?_⟩;obtain⟨hc,p1⟩:=ai.ite p1;obtain⟨i,ws,rfl,ei⟩:=Be hc;cases r1 with
 |ref hi=>
  obtain⟨xs,q1,q2⟩:=at1.hr.lst ei;refine⟨.inl ⟨rfl,xs,bx.of q1⟩,ρ,h1,ι1,at1,(step at1 p1).mono fun y H2 Z=>Z.g fun u Z=>Z.g fun h2 Z=>Z.g fun ι2 Z=>Z.g fun at2 Z=>Z.g fun e2 Z=>Z.g fun r2 p2=>?_⟩;have p2:ai (zx X E) RE ι2 h2 H2 (match h2[i]? with
   |some (.lst ys)=>if ys.length<Tw.SZ then .ok .ah (h2.set i (.lst (ys++[u]))) else .bad
   |_=>.bad) Q:=p2
  have same:ι2 i=ι1 i:=e2.same i hi;cases ej:h2[i]? with
  |none=>rw[ej] at p2;exact p2.elim
  |some oj=>
   rw[ej] at p2;cases oj with
   |lst ys=>
    dsimp only at p2;by_cases c:ys.length<Tw.SZ
    .rw[if_pos c] at p2;obtain⟨zs,g1,g2⟩:=at2.hr.lst ej;refine⟨ι1 i,zs,y,rfl,rfl,by rw[<-same];exact g1,by rw[<-g2.length,eJ];exact c,?_⟩;obtain⟨hr',ex⟩:=at2.hr.put (o:=.lst (zs++[y])) (u:=.lst (ys++[u])) ej rfl rfl (fun _ z=>nomatch z) fun H' k z=>⟨zs++[y],z,(g2.append (.cons r2 .nil)).keep k⟩;rw[<-same];exact p2 ι2 _ _ ex hr' .ah
    .rw[if_neg c] at p2;exact p2.elim
   |_=>exact p2.elim
theorem zL{ι:Nat->Addr}{h:Tw.Hp}{H:L2.Hp}{i:Nat}{kvs:List (Tw.W×Tw.W)}{k d:Tw.W}{y z:V}{Q:VK}(r:HR (zx X E) ι h H)(ei:h[i]?=some (.ag kvs))(ry:RW X.K ι h.length H k y)(rz:RW X.K ι h.length H d z)(hk:Tw.isKey k=true)
  (p:ai (zx X E) RE ι h H (.ok ((Tw.bH k kvs).getD d) h) Q):∃o,ft H (ι i) y o/\Q (o.getD z) H:=by
 obtain⟨xs,q1,q2⟩:=r.ag ei;obtain⟨q,rfl⟩:=gn ry hk;refine⟨_,ft.k q1,?_⟩;rcases q2.get ry with ⟨g1,g2⟩|⟨w2,v2,g1,g2,g3⟩
 .rw[g2];rw[g1] at p;exact ai.self (a:=d) p r rz
 .rw[g2];rw[g1] at p;exact ai.self (a:=w2) p r g3
theorem HN(hu:X.A.units+1<cLine)(me:Me X o "get" apos [e] cpos)(hst:backTo cpos (starEach [e] X.env)=[(false,eval e X.env)])(ho:PE X o (tE (zx X E) da))(he:PE X e (tE (zx X E) db)):
  PE X (.Call (.Attribute o "get" apos) [e] [] cpos) (tE (zx X E) (vh .get da db)):=by
 refine PE.imp (CI hu ho he ⟨me.base,me.ko,me.line,hst⟩) fun σ H Q Z=>Z.g fun ρ Z=>Z.g fun h Z=>Z.g fun ι Z=>Z.g fun at' p=>?_;refine⟨ρ,h,ι,at',(step at' p).mono fun x H1 Z=>Z.g fun w Z=>Z.g fun h1 Z=>Z.g fun ι1 Z=>Z.g fun at1 Z=>Z.g fun e1 Z=>Z.g fun r1 p1=>?_⟩;obtain⟨hc,p1⟩:=ai.ite p1;obtain⟨i,ws,rfl,ei⟩:=Bc hc;cases r1 with
 |ref hi=>
  obtain⟨xs,q1,q2⟩:=at1.hr.ag ei;refine⟨_,rfl,.inl ⟨xs,.inl q1⟩,ρ,h1,ι1,at1,(step at1 p1).mono fun y H2 Z=>Z.g fun u Z=>Z.g fun h2 Z=>Z.g fun ι2 Z=>Z.g fun at2 Z=>Z.g fun e2 Z=>Z.g fun r2 p2=>?_⟩;have p2:ai (zx X E) RE ι2 h2 H2 (match h2[i]? with
   |some (.ag kvs)=>if Tw.isKey u=true then .ok ((Tw.bH u kvs).getD .ah) h2 else .bad
   |_=>.bad) Q:=p2
  have same:ι2 i=ι1 i:=e2.same i hi;cases ej:h2[i]? with
  |none=>rw[ej] at p2;exact p2.elim
  |some oj=>
   rw[ej] at p2;cases oj with
   |ag kvs=>
    dsimp only at p2;obtain⟨hk,p2⟩:=ai.ite p2;rw[<-same];exact zL at2.hr ej r2 .ah hk p2
   |_=>exact p2.elim
theorem IJ(hu:X.A.units+1<cLine)(me:Me X o "get" apos [e,f] cpos)(hst:backTo cpos (starEach [e,f] X.env)=[(false,eval e X.env),(false,eval f X.env)])(ho:PE X o (tE (zx X E) da))(he:PE X e (tE (zx X E) db))(hf:PE X f (tE (zx X E) dc)):
  PE X (.Call (.Attribute o "get" apos) [e,f] [] cpos) (tE (zx X E) (IX .get da db dc)):=by
 refine PE.imp (Cz hu ho he hf ⟨me.base,me.ko,me.line,hst⟩) fun σ H Q Z=>Z.g fun ρ Z=>Z.g fun h Z=>Z.g fun ι Z=>Z.g fun at' p=>?_;refine⟨ρ,h,ι,at',(step at' p).mono fun x H1 Z=>Z.g fun w Z=>Z.g fun h1 Z=>Z.g fun ι1 Z=>Z.g fun at1 Z=>Z.g fun e1 Z=>Z.g fun r1 p1=>?_⟩;obtain⟨hc,p1⟩:=ai.ite p1;obtain⟨i,ws,rfl,ei⟩:=Bc hc;cases r1 with
 |ref hi=>
  obtain⟨xs,q1,q2⟩:=at1.hr.ag ei;refine⟨_,rfl,.inl ⟨xs,.inl q1⟩,ρ,h1,ι1,at1,(step at1 p1).mono fun y H2 Z=>Z.g fun u Z=>Z.g fun h2 Z=>Z.g fun ι2 Z=>Z.g fun at2 Z=>Z.g fun e2 Z=>Z.g fun r2 p2=>⟨ρ,h2,ι2,at2,(step at2 p2).mono fun z H3 Z=>Z.g fun v Z=>Z.g fun h3 Z=>Z.g fun ι3 Z=>Z.g fun at3 Z=>Z.g fun e3 Z=>Z.g fun r3 p3=>?_⟩⟩;have p3:ai (zx X E) RE ι3 h3 H3 (match h3[i]? with
   |some (.ag kvs)=>if Tw.isKey u=true then .ok ((Tw.bH u kvs).getD v) h3 else .bad
   |_=>.bad) Q:=p3
  have same:ι3 i=ι1 i:=(e3.same i (Nat.lt_of_lt_of_le hi e2.len)).trans (e2.same i hi);cases ej:h3[i]? with
  |none=>rw[ej] at p3;exact p3.elim
  |some oj=>
   rw[ej] at p3;cases oj with
   |ag kvs=>
    dsimp only at p3;obtain⟨hk,p3⟩:=ai.ite p3;rw[<-same];exact zL at3.hr ej (r2.keep (e3.keeps at2.hr)) r3 hk p3
   |_=>exact p3.elim
theorem uH{ι:Nat->Addr}{n:Nat}{H:L2.Hp}:∀{ws:List Tw.W}{xs:List V}{us:List Value}{ts:List Tw.S},aL X.K ι n H ws xs->Vals xs us->Tw.texts ws=some ts->
  StrsAre us (ts.map fun t=>⟨t.toArray⟩)/\∀t∈ts,m8 t
 |_,_,_,ts,.nil,.nil,e=>by cases e;exact⟨.nil,fun _ h=>nomatch h⟩
 |w::ws,_,_,ts,.cons a r,.cons rv rvs,e=>by
  cases a with
  |str x hx=>
   have e:(Tw.texts ws).map (x:: ·)=some ts:=e;cases e2:Tw.texts ws with
   |none=>rw[e2] at e;cases e
   |some ts'=>
    rw[e2] at e;cases e;obtain⟨h1,h2⟩:=uH r rvs e2;obtain⟨t,rfl⟩:=rv;refine⟨.cons _ t h1,fun y hy=>?_⟩;rcases List.mem_cons.mp hy with rfl|hy
    .exact hx
    .exact h2 y hy
  |_=>cases e
theorem join_eq(sep:Tw.S):∀ts:List Tw.S,Str.join (⟨sep.toArray⟩:Str) (ts.map fun t=>⟨t.toArray⟩)=(⟨(Tw.fu sep ts).toArray⟩:Str)
 |[]=>rfl
 |[x]=>rfl
 |x::y::r=>by
  have ih:=join_eq sep (y::r);rw[List.map_cons,List.map_cons,join_cons_cons];rw[List.map_cons] at ih;rw[ih,qB,qB];rfl
theorem uF{sep:Tw.S}(hs:m8 sep):∀{ts:List Tw.S},(∀t∈ts,m8 t)->m8 (Tw.fu sep ts)
 |[],_=>fun c hc=>nomatch hc
 |[x],h=>by simpa [Tw.fu] using h x (by simp)
 |x::y::r,h=>fun c hc=>by
  have ih:=uF hs (ts:=y::r) fun t ht=>h t (List.mem_cons_of_mem _ ht);rw[Tw.fu] at hc
  .rcases List.mem_append.mp hc with hc|hc
   .rcases List.mem_append.mp hc with hc|hc
    .exact h x (by simp) c hc
    .exact hs c hc
   .exact ih c hc
  .intro z;cases z
theorem Gj(ts:List Tw.S):((ts.map fun t=>(⟨t.toArray⟩:Str)).map (·.length)).sum=(ts.map (·.length)).sum:=by
 induction ts with
 |nil=>rfl
 |cons t r ih=>simp only[List.map_cons,List.sum_cons,str_len,ih]
theorem Gq:Jx X "str.join" (fun x xs H Q=>∃(ι:Nat->Addr) (n:Nat) (ws:List Tw.W) (p:Addr) (ys:List V) (sep:Tw.S) (ts:List Tw.S),x=.str ⟨sep.toArray⟩/\xs=[.ref p]/\bx X.K H p ys/\aL X.K ι n H ws ys/\Tw.texts ws=some ts/\
  (ts.map (·.length)).sum+ts.length * sep.length<=Tw.SZ/\Q (.str ⟨(Tw.fu sep ts).toArray⟩) H):=by
 intro pins s σ H x xs v us Q I rx rs ⟨ι,n,ws,p,ys,sep,ts,ex,exs,sq,rr,et,hz,q⟩;subst ex exs;obtain⟨t,rfl⟩:=rx;obtain⟨u,rfl,ru⟩:=vals1 rs;cases ru;obtain⟨its,rv,pl,_⟩:=I.list sq;obtain⟨h1,h2⟩:=uH rr rv et;refine join_list pl.isList (by simpa using h1) ?_ fun t' k=>?_
 .rw[Gj,List.length_map,str_len];exact hz
 .have e:Txt.join (⟨sep.toArray⟩:Str) (ts.map fun t=>⟨t.toArray⟩)=(⟨(Tw.fu sep ts).toArray⟩:Str):=(PySem.StrLaws.glued_eq_join _ _).trans (join_eq sep ts);rw[e];exact⟨.str ⟨(Tw.fu sep ts).toArray⟩,H,I.tok _,⟨_,rfl⟩,q⟩
theorem Jj(me:Me X o "join" apos [e] cpos)(hst:starEach [e] X.env=[(false,eval e X.env)])(ho:PE X o (tE (zx X E) da))(he:PE X e (tE (zx X E) db)):
  PE X (.Call (.Attribute o "join" apos) [e] [] cpos) (tE (zx X E) (vh .join da db)):=by
 refine PE.imp (yt PySem.F.plainAttrs_str PySem.F.slot_str_join PySem.F.type_str_join Gq ho (bX he cK hst) me.base me.ko me.line hst rfl) fun σ H Q Z=>Z.g fun ρ Z=>Z.g fun h Z=>Z.g fun ι Z=>Z.g fun at' p=>?_;refine⟨ρ,h,ι,at',(step at' p).mono fun x H1 Z=>Z.g fun w Z=>Z.g fun h1 Z=>Z.g fun ι1 Z=>Z.g fun at1 Z=>Z.g fun e1 Z=>Z.g fun r1 p1=>?_⟩;obtain⟨hc,p1⟩:=ai.ite p1;cases r1 with
 |str sep hsep=>
  refine⟨rfl,ρ,h1,ι1,at1,(step at1 p1).mono fun y H2 Z=>Z.g fun u Z=>Z.g fun h2 Z=>Z.g fun ι2 Z=>Z.g fun at2 Z=>Z.g fun e2 Z=>Z.g fun r2 p2=>?_⟩;have p3:ai (zx X E) RE ι2 h2 H2 (match Tw.items h2 u with
   |some ys=>match Tw.texts ys with
    |some ts=>if (ts.map (·.length)).sum+ts.length * sep.length<=Tw.SZ then .ok (.str (Tw.fu sep ts)) h2 else .bad
    |none=>.bad
   |none=>.bad) Q:=p2
  cases ei:Tw.items h2 u with
  |none=>rw[ei] at p3;exact p3.elim
  |some ws=>
   rw[ei] at p3;dsimp only at p3;cases et:Tw.texts ws with
   |none=>rw[et] at p3;exact p3.elim
   |some ts=>
    rw[et] at p3;dsimp only at p3;by_cases c:(ts.map (·.length)).sum+ts.length * sep.length<=Tw.SZ
    .rw[if_pos c] at p3;clear p2;cases r2 with
     | @ref i hi=>
      have ei:Tw.aZ h2 i=some ws:=ei;obtain⟨ys,sq,rr⟩:=at2.hr.at ei;have okt:∀t∈ts,m8 t:=by
       have key:∀{ws:List Tw.W}{ys:List V}{ts:List Tw.S},aL X.K ι2 h2.length H2 ws ys->Tw.texts ws=some ts->∀t∈ts,m8 t:=by
        intro ws ys ts rr et
        induction ws generalizing ys ts with
        |nil=>cases et;intro t ht;cases ht
        |cons w ws ih=>
         cases rr with
         |cons a rr=>
          cases a with
          |str x hx=>
           have et:(Tw.texts ws).map (x:: ·)=some ts:=et;cases e2:Tw.texts ws with
           |none=>rw[e2] at et;cases et
           |some ts'=>
            rw[e2] at et;cases et;intro t ht;rcases List.mem_cons.mp ht with rfl|ht
            .exact hx
            .exact ih rr e2 t ht
          |_=>cases et
       exact key rr et
      exact⟨ι2,h2.length,ws,_,ys,sep,ts,rfl,rfl,sq,rr,et,c,ai.self (a:=Tw.W.str (Tw.fu sep ts)) p3 at2.hr (RW.str _ (uF hsep okt))⟩
     |_=>cases ei
    .rw[if_neg c] at p3;exact p3.elim
 |_=>cases hc
theorem Jg:PE X (.Dict [] [] pos) (tE (zx X E) fun _ h=>Tw.new (.ag []) h):=
 PE.imp C9 fun σ H Q Z=>Z.g fun ρ Z=>Z.g fun h Z=>Z.g fun ι Z=>Z.g fun at' p=>p.ag at'.hr .nil
end
def bQ(K:Zk)(ι:Nat->Addr)(h:Tw.Hp)(H:L2.Hp)(m:Tw.R Tw.Fl)(D:Ends):Prop:=match m with
 |.ok (.next ρ) h'=>∀ι' H' σ',Ext ι h H ι' h' H'->At K ι' h' H' ρ σ'->D.nx σ' H'
 |.ok (.brk ρ) h'=>∀ι' H' σ',Ext ι h H ι' h' H'->At K ι' h' H' ρ σ'->D.bk σ' H'
 |.ok (.cont ρ) h'=>∀ι' H' σ',Ext ι h H ι' h' H'->At K ι' h' H' ρ σ'->D.ct σ' H'
 |.ok (.ret w) h'=>∀ι' H' v,Ext ι h H ι' h' H'->HR K ι' h' H'->RW K.K ι' h'.length H' w v->D.rt v H'
 |.aD a h'=>∀ι' H',Ext ι h H ι' h' H'->HR K ι' h' H'->K.ex (.ref (ι' a)) none H'
 |.bad=>False
noncomputable def c9(K:Zk)(d:Tw.Env->Tw.Hp->Tw.R Tw.Fl):TS:=fun D σ H=>∃ρ h ι,At K ι h H ρ σ/\bQ K ι h H (d ρ h) D
section
variable {K:Zk}{α β:Type}{R:Rl α β}{ι ι1:Nat->Addr}{h h1:Tw.Hp}{H H1:L2.Hp}{ρ:Tw.Env}{σ:L2.St}
theorem bQ.later{m:Tw.R Tw.Fl}{D:Ends}(p:bQ K ι h H m D)(e:Ext ι h H ι1 h1 H1):bQ K ι1 h1 H1 m D:=by
 cases m with
 |ok f h'=>cases f<;>exact fun ι' H' σ' e'=>p ι' H' σ' (e.trans e')
 |aD a h'=>exact fun ι' H' e' r=>p ι' H' (e.trans e') r
 |bad=>exact p
theorem fH{m:Tw.R α}{k:α->Tw.Hp->Tw.R Tw.Fl}{D:Ends}(a:At K ι h H ρ σ)(p:bQ K ι h H (m.bind k) D):
  ai K R ι h H m (fun x H1=>∃w h1 ι1,At K ι1 h1 H1 ρ σ/\Ext ι h H ι1 h1 H1/\R K.K ι1 h1.length H1 w x/\bQ K ι1 h1 H1 (k w h1) D):=by
 cases m with
 |ok w h1=>exact fun ι' H' b e r q=>⟨w,h1,ι',a.later e r,e,q,bQ.later p e⟩
 |aD=>exact p
 |bad=>exact p
theorem At.set{w:Tw.W}{v:V}(a:At K ι h H ρ σ)(r:RW K.K ι h.length H w v)(i:Nat):At K ι h H (ρ.set i (some w)) (σ.set i (some v)) where
 hr:=a.hr
 len:=by rw[List.length_set,List.length_set];exact a.len
 st:=fun j u e=>by
  by_cases z:i=j
  .subst z;have hi:i<ρ.length:=by
    have:=(List.getElem?_eq_some_iff.mp e).1;simpa using this
   rw[List.getElem?_set_self hi] at e;cases e;exact⟨v,List.getElem?_set_self (by rw[a.len];exact hi),r⟩
  .rw[List.getElem?_set_ne z] at e;obtain⟨v',h1,h2⟩:=a.st j u e;exact⟨v',by rw[List.getElem?_set_ne z];exact h1,h2⟩
theorem bQ.next{D:Ends}(p:bQ K ι h H (.ok (.next ρ) h) D)(a:At K ι h H ρ σ):D.nx σ H:=p ι H σ (Ext.refl _ _ _) a
end
section
variable {X:Cx}{E:XK}{a b c e o:Expr}{pos pos':Pos}{da db dc:Tw.Env->Tw.Hp->Tw.R Tw.W}
theorem IL(ha:PE X a (tE (zx X E) da))(hs:swapsWith a none pos.line X.env=pure false):PS X (.Expr a pos) (c9 (zx X E) fun ρ h=>(da ρ h).bind fun _ h=>.ok (.next ρ) h):=
 PS.imp (wj ha hs) fun D σ H Z=>Z.g fun ρ Z=>Z.g fun h Z=>Z.g fun ι Z=>Z.g fun at' p=>⟨ρ,h,ι,at',(fH at' p).mono fun x H1 Z=>Z.g fun w Z=>Z.g fun h1 Z=>Z.g fun ι1 Z=>Z.g fun at1 Z=>Z.g fun e1 Z=>Z.g fun r1 p1=>p1.next at1⟩
theorem LW(ha:PE X a (tE (zx X E) da)):PS X (.Return (some a) pos) (c9 (zx X E) fun ρ h=>(da ρ h).bind fun x h=>.ok (.ret x) h):=
 PS.imp (Bm ha) fun D σ H Z=>Z.g fun ρ Z=>Z.g fun h Z=>Z.g fun ι Z=>Z.g fun at' p=>⟨ρ,h,ι,at',(fH at' p).mono fun x H1 Z=>Z.g fun w Z=>Z.g fun h1 Z=>Z.g fun ι1 Z=>Z.g fun at1 Z=>Z.g fun e1 Z=>Z.g fun r1 p1=>p1 ι1 H1 x (Ext.refl _ _ _) at1.hr r1⟩
theorem Ke:PS X (.Return none pos) (c9 (zx X E) fun _ h=>.ok (.ret .ah) h):=
 PS.imp FQ fun D σ H Z=>Z.g fun ρ Z=>Z.g fun h Z=>Z.g fun ι Z=>Z.g fun at' p=>p ι H .ah (Ext.refl _ _ _) at'.hr .ah
theorem Kp:PS X (.Pass pos) (c9 (zx X E) fun ρ h=>.ok (.next ρ) h):=PS.imp E5 fun D σ H Z=>Z.g fun ρ Z=>Z.g fun h Z=>Z.g fun ι Z=>Z.g fun at' p=>p.next at'
theorem Lw:PS X (.Break pos) (c9 (zx X E) fun ρ h=>.ok (.brk ρ) h):=PS.imp B7 fun D σ H Z=>Z.g fun ρ Z=>Z.g fun h Z=>Z.g fun ι Z=>Z.g fun at' p=>p ι H σ (Ext.refl _ _ _) at'
theorem Jl:PS X (.Continue pos) (c9 (zx X E) fun ρ h=>.ok (.cont ρ) h):=PS.imp vA fun D σ H Z=>Z.g fun ρ Z=>Z.g fun h Z=>Z.g fun ι Z=>Z.g fun at' p=>p ι H σ (Ext.refl _ _ _) at'
theorem Mg{i:Nat}{x:Str}(hN:X.N.Nodup)(hi:X.N[i]?=some x)(hx:Loc X.env.scope x)(ha:PE X a (tE (zx X E) da))(hs:swapsWith a (some (.Name x pos')) pos.line X.env=pure false)(hf:X.fn x=true):
  PS X (.Assign [.Name x pos'] a pos) (c9 (zx X E) fun ρ h=>(da ρ h).bind fun w h=>.ok (.next (ρ.set i (some w))) h):=
 PS.imp (J4 hN hi hx ha hs (.inl hf)) fun D σ H Z=>Z.g fun ρ Z=>Z.g fun h Z=>Z.g fun ι Z=>Z.g fun at' p=>⟨ρ,h,ι,at',(fH at' p).mono fun y H1 Z=>Z.g fun w Z=>Z.g fun h1 Z=>Z.g fun ι1 Z=>Z.g fun at1 Z=>Z.g fun e1 Z=>Z.g fun r1 p1=>p1.next (at1.set r1 i)⟩
theorem Px{sa sb:List Stmt}{ta tb:Tw.Env->Tw.Hp->Tw.R Tw.Fl}(hc:PT X c (tT (zx X E) dc))(ha:eB X sa (c9 (zx X E) ta))(hb:eB X sb (c9 (zx X E) tb)):
  PS X (.If c sa sb pos) (c9 (zx X E) fun ρ h=>(dc ρ h).bind fun x h=>match Tw.truth h x with
   |some true=>ta ρ h
   |some false=>tb ρ h
   |none=>.bad):=by
 refine PS.imp (Mb hc ha hb) fun D σ H Z=>Z.g fun ρ Z=>Z.g fun h Z=>Z.g fun ι Z=>Z.g fun at' p=>⟨ρ,h,ι,at',?_⟩;simp only[dT];dsimp only at p;cases e0:dc ρ h with
 |bad=>rw[e0] at p;exact p.elim
 |aD=>rw[e0] at p;exact p
 |ok w h1=>
  simp only[e0,Tw.R.ak] at p⊢;cases e:Tw.truth h1 w with
  |none=>rw[e] at p;exact p.elim
  |some k=>
   rw[e] at p;intro ι' H' k' e1 r1 q;cases q;cases k with
   |true=>rw[if_pos rfl];exact⟨ρ,h1,ι',at'.later e1 r1,bQ.later p e1⟩
   |false=>rw[if_neg (by decide)];exact⟨ρ,h1,ι',at'.later e1 r1,bQ.later p e1⟩
theorem Hj:eB X [] (c9 (zx X E) fun ρ h=>.ok (.next ρ) h):=eB.imp xj fun D σ H Z=>Z.g fun ρ Z=>Z.g fun h Z=>Z.g fun ι Z=>Z.g fun at' p=>p.next at'
theorem E3{st:Stmt}{rest:List Stmt}{t u:Tw.Env->Tw.Hp->Tw.R Tw.Fl}(h1:PS X st (c9 (zx X E) t))(h2:eB X rest (c9 (zx X E) u)):
  eB X (st::rest) (c9 (zx X E) fun ρ h=>(t ρ h).bind fun f h=>match f with
   |.next ρ=>u ρ h
   |f=>.ok f h):=by
 refine eB.imp (oP h1 h2) fun D σ H Z=>Z.g fun ρ Z=>Z.g fun h Z=>Z.g fun ι Z=>Z.g fun at' p=>⟨ρ,h,ι,at',?_⟩;dsimp only at p;cases e:t ρ h with
 |bad=>rw[e] at p;exact p.elim
 |aD=>rw[e] at p;exact p
 |ok f h1=>
  simp only[e,Tw.R.ak] at p;cases f with
  |next ρ1=>exact fun ι' H' σ' e1 a1=>⟨ρ1,h1,ι',a1,bQ.later p e1⟩
  |ret w=>exact p
  |brk ρ1=>exact p
  |cont ρ1=>exact p
theorem set_dict(hu:X.A.units+1<cLine):m6 X (fun o i v H Q=>∃a H',o=.ref a/\qO H a i v H'/\Q H'):=by intro pins s σ H o i v ov iv u Q I ro ri rv ⟨a,H',eo,g,q⟩;subst eo;cases ro;exact zf hu I g ri rv fun s4 I4=>⟨H',I4,q⟩
theorem m6.or{t t':uN}(h1:m6 X t)(h2:m6 X t'):m6 X (fun o i v H Q=>t o i v H Q\/t' o i v H Q):=by
 intro pins s σ H o i v ov iv u Q I ro ri rv q;rcases q with q|q
 .exact h1 pins s σ H o i v ov iv u Q I ro ri rv q
 .exact h2 pins s σ H o i v ov iv u Q I ro ri rv q
noncomputable def K0:uN:=fun o i v H Q=>Eu o i v H Q\/∃a H',o=.ref a/\qO H a i v H'/\Q H'
theorem uc{ι:Nat->Addr}{h:Tw.Hp}{H:L2.Hp}{wo wk wv:Tw.W}{o k v:V}{ρ:Tw.Env}{σ:L2.St}{D:Ends}
  (a:At (zx X E) ι h H ρ σ) (ro:RW X.K ι h.length H wo o) (rk:RW X.K ι h.length H wk k) (rv:RW X.K ι h.length H wv v) (p:bQ (zx X E) ι h H ((Tw.iQ wo wk wv h).bind fun _ h=>.ok (.next ρ) h) D):
  K0 o k v H fun H'=>D.nx σ H':=by
 cases ro with
 | @ref i hi=>
  cases ei:h[i]? with
  |none=>simp only[Tw.iQ,ei] at p;exact p.elim
  |some ob=>
   cases ob with
   |lst ws=>
    obtain⟨xs,q1,q2⟩:=a.hr.lst ei;cases rk with
    |int n=>
     simp only[Tw.iQ,ei] at p;cases e2:Tw.gu ws.length n with
     |none=>rw[e2] at p;exact p.elim
     |some j=>
      rw[e2] at p;refine .inl ⟨_,xs,n,j,rfl,rfl,q1,by rw[<-q2.length,<-A1];exact e2,?_⟩;obtain⟨hr',ex⟩:=a.hr.put (o:=.lst (xs.set j v)) (u:=.lst (ws.set j wv)) ei rfl rfl (fun _ z=>nomatch z) fun H' kp z=>⟨xs.set j v,z,(q2.set rv j).keep kp⟩;exact p ι _ σ ex (a.later ex hr')
    |_=>simp only[Tw.iQ,ei] at p;exact p.elim
   |ag kvs=>
    obtain⟨xs,q1,q2⟩:=a.hr.ag ei;have p:bQ (zx X E) ι h H ((if Tw.isKey wk=true/\kvs.length<Tw.SZ then (.ok () (h.set i (.ag (Tw.dput wk wv kvs))):Tw.R Unit) else .bad).bind fun _ h=>.ok (.next ρ) h) D:=by simp only[Tw.iQ,ei] at p;cases wk<;>exact p
    by_cases c:Tw.isKey wk=true/\kvs.length<Tw.SZ
    .rw[if_pos c] at p;obtain⟨q,rfl⟩:=gn rk c.1;refine .inr ⟨_,_,rfl,qO.k q1 (by rw[<-q2.length,eJ];exact c.2),?_⟩;obtain⟨hr',ex⟩:=a.hr.put (o:=.dK (putK xs q v)) (u:=.ag (Tw.dput wk wv kvs)) ei rfl rfl (fun _ z=>nomatch z) fun H' kp z=>⟨_,z,((q2.put rk rv).keep kp)⟩;exact p ι _ σ ex (a.later ex hr')
    .rw[if_neg c] at p;exact p.elim
   |bE ws=>simp only[Tw.iQ,ei] at p;cases wk<;>exact p.elim
   |ins _ _=>simp only[Tw.iQ,ei] at p;cases wk<;>exact p.elim
   |aD _ _=>simp only[Tw.iQ,ei] at p;cases wk<;>exact p.elim
 |_=>exact p.elim
end
section
variable {X:Cx}{E:XK}{a b c e o k:Expr}{pos pos':Pos}{da db dc dv:Tw.Env->Tw.Hp->Tw.R Tw.W}
theorem As(v x y:Expr)(p:Pos)(l:Nat)(env:Env):swapsWithSole [.Subscript x y p] v l env=pure false:=by cases v<;>rfl
theorem xD(v x y:Expr)(p:Pos)(env:Env):swappedStores [.Subscript x y p] v env=pure none:=by cases v<;>rfl
theorem LL(hu:X.A.units+1<cLine)(hv:PE X a (tE (zx X E) dv))(ho:PE X o (tE (zx X E) da))(hk:PE X k (tE (zx X E) db))
  (has:∀v,assign (.Subscript o k pos') X.env v=(do
   let ov <-holding [v] (eval o X.env)
   let iv <-holding [v,ov] (eval k X.env)
   standAt pos'
   holding [v,ov,iv] (setItem ov iv v)
   release [v,ov,iv] [])):
  PS X (.Assign [.Subscript o k pos'] a pos) (c9 (zx X E) fun ρ h=>(dv ρ h).bind fun v h=>(da ρ h).bind fun x h=>(db ρ h).bind fun y h=>(Tw.iQ x y v h).bind fun _ h=>.ok (.next ρ) h):=by
 refine PS.imp (Ab hv (Jv ho hk (m6.or set_list (set_dict hu)) has) (As _ _ _ _ _ _) (xD _ _ _ _ _)) fun D σ H Z=>Z.g fun ρ Z=>Z.g fun h Z=>Z.g fun ι Z=>Z.g fun at' p=>?_;refine⟨ρ,h,ι,at',(fH at' p).mono fun v H1 Z=>Z.g fun wv Z=>Z.g fun h1 Z=>Z.g fun ι1 Z=>Z.g fun at1 Z=>Z.g fun e1 Z=>Z.g fun r1 p1=>⟨ρ,h1,ι1,at1,(fH at1 p1).mono fun x H2 Z=>Z.g fun wo Z=>Z.g fun h2 Z=>Z.g fun ι2 Z=>Z.g fun at2 Z=>Z.g fun e2 Z=>Z.g fun r2 p2=>⟨ρ,h2,ι2,at2,(fH at2 p2).mono fun y H3 Z=>Z.g fun wk Z=>Z.g fun h3 Z=>Z.g fun ι3 Z=>Z.g fun at3 Z=>Z.g fun e3 Z=>Z.g fun r3 p3=>?_⟩⟩⟩;exact uc at3 (r2.keep (e3.keeps at2.hr)) r3 ((r1.keep (e2.keeps at1.hr)).keep (e3.keeps at2.hr)) p3
theorem PI.or{tg iter:Expr}{w w':TI}(h1:PI X tg iter w)(h2:PI X tg iter w'):PI X tg iter (fun σ H R=>w σ H R\/w' σ H R):=by
 intro pins s σ H R I q;rcases q with q|q
 .exact h1 pins s σ H R I q
 .exact h2 pins s σ H R I q
def yL(K:Zk)(t:Tw.Tg)(g:TG):Prop:=∀(ι:Nat->Addr)(h:Tw.Hp)(H:L2.Hp)(ρ ρ1:Tw.Env)(σ:L2.St)(w:Tw.W)(x:V)(Q:L2.St->L2.Hp->Prop),At K ι h H ρ σ->RW K.K ι h.length H w x->Tw.eZ t w ρ=some ρ1->
 (∀σ1,At K ι h H ρ1 σ1->Q σ1 H)->g x σ H Q
theorem Jw(K:Zk)(i:Nat):yL K (.var i) (fD i):=fun ι h H ρ ρ1 σ w x Q a r e q=>by
 cases e;exact q _ (a.set r i)
theorem Ax(K:Zk)(i j:Nat):yL K (.two i j) (yR K.K 2 (kZ (fD i) (kZ (fD j) yf))):=fun ι h H ρ ρ1 σ w x Q a r e q=>by
 cases r with
 | @tup ad xs ws ea ra=>
  cases ra with
  |nil=>cases e
  |cons r1 ra=>
   cases ra with
   |nil=>cases e
   |cons r2 ra=>
    cases ra with
    |nil=>
     cases e;exact⟨ad,_,rfl,TupAt.sq ea,rfl,_,_,rfl,_,_,rfl,rfl,q _ ((a.set r1 i).set r2 j)⟩
    |cons r3 ra=>cases e
 |_=>cases e
theorem rZ{K:Zk}{ι:Nat->Addr}{h:Tw.Hp}{H:L2.Hp}{m:Tw.R Tw.Fl}{go:Tw.Env->Tw.Hp->Tw.R Tw.Fl}{D:Ends}{N:L2.St->L2.Hp->Prop}
  (p:bQ K ι h H (m.bind fun f h=>match f with
   |.next σ=>go σ h
   |.cont σ=>go σ h
   |.brk σ=>.ok (.next σ) h
   |.ret w=>.ok (.ret w) h) D)
  (hN:∀ρ h1 ι1 H1 σ1,Ext ι h H ι1 h1 H1->At K ι1 h1 H1 ρ σ1->bQ K ι1 h1 H1 (go ρ h1) D->N σ1 H1):bQ K ι h H m {D with nx:=N,ct:=N,bk:=D.nx}:=by
 cases m with
 |bad=>exact p
 |aD=>exact p
 |ok f h1=>
  cases f with
  |next ρ=>exact fun ι' H' σ' e a=>hN ρ h1 ι' H' σ' e a (bQ.later p e)
  |cont ρ=>exact fun ι' H' σ' e a=>hN ρ h1 ι' H' σ' e a (bQ.later p e)
  |brk ρ=>exact p
  |ret w=>exact p
theorem wV{α:Type}{ws:List α}{i:Nat}{w:α}(e:ws[i]?=some w):ws.drop i=w::ws.drop (i+1):=by obtain⟨hi,e⟩:=List.getElem?_eq_some_iff.mp e;rw[List.drop_eq_getElem_cons hi,e]
end
def kC(T:Bool)(h:Heap)(it a:Addr)(k:Nat):Prop:=match T with
 |true=>h.IsTupleIter it a k
 |false=>h.IsListIter it a k
def nh(T:Bool)(h:Heap)(a:Addr)(xs:Array Value):Prop:=match T with
 |true=>h.IsTuple a xs
 |false=>h.IsList a xs
theorem kC.at{T:Bool}{h h':Heap}{it a:Addr}{k:Nat}(x:kC T h it a k)(e:∀o,h.get? it=some o->h'.get? it=some o):kC T h' it a k:=by
 cases T with
 |true=>exact Heap.IsTupleIter.at x e
 |false=>exact Heap.IsListIter.at x e
theorem nh.at{T:Bool}{h h':Heap}{a:Addr}{xs:Array Value}(x:nh T h a xs)(e:∀o,h.get? a=some o->h'.get? a=some o):nh T h' a xs:=by
 cases T with
 |true=>exact Heap.IsTuple.at x e
 |false=>exact Heap.IsList.at x e
theorem kC.there{T:Bool}{h:Heap}{it a:Addr}{k:Nat}(x:kC T h it a k):∃o,h.get? it=some o/\∀v,o.data≠.cell v:=by
 cases T with
 |true=>obtain⟨o,e,_,d⟩:=x;exact⟨o,e,fun v z=>by rw[d] at z;cases z⟩
 |false=>obtain⟨o,e,_,d⟩:=x;exact⟨o,e,fun v z=>by rw[d] at z;cases z⟩
section
variable {prog:Program}{w:World}{A:Around}{E:Value->Shared->Prop}{s:Shared}{it t:Addr}{i:Nat}{xs:Array Value}
theorem Dg{x:Value}{Q:Value->Shared->Prop}(hit:s.heap.IsTupleIter it t i)(ht:s.heap.IsTuple t xs)(hx:xs[i]?=some x)(hQ:∀h',h'.IsTupleIter it t (i+1)->Heap.SameBut it s.heap h'->Q x {s with heap:=h'}):
  wpAny (model prog w) A (Builtin.SmallTypes.nextOf (.ref it)) Q E s:=by
 have tI:=hit.typeIs;obtain⟨oI,gI,cI,dI⟩:=hit;obtain⟨oT,gT,cT,nT,dT⟩:=ht;rw[Builtin.SmallTypes.nextOf];apply wpAny_bind;refine wpAny_callSpecial?_slot (name:=Str.ofString "__next__") tI F.slot_tuple_iterator_next ?_;refine wpAny_call_entry F.slot_tuple_iterator_next tI F.entry_tuple_iterator_next ?_ (F.args_tuple_iterator_next_1 _);show wpAny _ _ (field (.ref it) 0 >>= _) _ _ _;refine wpAny_bind (wpAny_field gI dI (x:=Value.ref t) rfl ?_);show wpAny _ _ (ite ((Value.ref t== Value.none)=true) _ _) _ _ _;refine (if_neg Bool.false_ne_true:ite ((Value.ref t== Value.none)=true) _ _=_)▸?_;show wpAny _ _ (field (.ref it) 1 >>= _) _ _ _;refine wpAny_bind (wpAny_field gI dI (x:=Value.int i 0) rfl ?_);show wpAny _ _ (seqItems? (.ref t) >>= _) _ _ _;refine wpAny_bind (wpAny_seqItems gT dT ?_);simp only[hx,Int.toNat_natCast];refine wpAny_bind (wpAny_setField gI dI (by simp) (wpAny_pure ⟨x,rfl,?_⟩));refine wpAny_pure (hQ _ ⟨_,Heap.get?_update_self _ gI (Obj.isFreed_of_fields (Obj.data_mapFields dI _)),(Obj.cls_mapFields ..).trans cI,?_⟩ (Heap.SameBut.update ..));rw[Obj.data_mapFields dI];simp[rawInt]
theorem CW{Q:Value->Shared->Prop}(hh:A.handled=none)(hit:s.heap.IsTupleIter it t i)(ht:s.heap.IsTuple t xs)(hx:xs[i]?=none)
  (hE:∀h' e,Heap.ExtBut it s.heap h'->(∃o,h'.get? e=some o/\o.cls=.type "StopIteration")->E (.ref e) {s with heap:=h'}):wpAny (model prog w) A (Builtin.SmallTypes.nextOf (.ref it)) Q E s:=by
 have tI:=hit.typeIs;obtain⟨oI,gI,cI,dI⟩:=hit;obtain⟨oT,gT,cT,nT,dT⟩:=ht;rw[Builtin.SmallTypes.nextOf];apply wpAny_bind;refine wpAny_callSpecial?_slot (name:=Str.ofString "__next__") tI F.slot_tuple_iterator_next ?_;refine wpAny_call_entry F.slot_tuple_iterator_next tI F.entry_tuple_iterator_next ?_ (F.args_tuple_iterator_next_1 _);show wpAny _ _ (field (.ref it) 0 >>= _) _ _ _;refine wpAny_bind (wpAny_field gI dI (x:=Value.ref t) rfl ?_);show wpAny _ _ (ite ((Value.ref t== Value.none)=true) _ _) _ _ _;refine (if_neg Bool.false_ne_true:ite ((Value.ref t== Value.none)=true) _ _=_)▸?_;show wpAny _ _ (field (.ref it) 1 >>= _) _ _ _;refine wpAny_bind (wpAny_field gI dI (x:=Value.int i 0) rfl ?_);show wpAny _ _ (seqItems? (.ref t) >>= _) _ _ _;refine wpAny_bind (wpAny_seqItems gT dT ?_);simp only[hx,Int.toNat_natCast];refine wpAny_bind (wpAny_rule (wpAny_bind (wpAny_setField gI dI (by simp) ?_)));show wpAny _ _ (newExc (.type "StopIteration") [] >>= raiseNew) _ _ _;apply wpAny_bind;rw[newExc,newTuple];apply wpAny_bind;refine wpAny_newObj_type ?_ (by size_fits);refine wpAny_bind (m:=firstArgMember _ _) (wpAny_of_eq (a:=Value.none) (by simp only[firstArgMember];rfl) ?_);refine wpAny_newObj_type ?_ (by size_fits);rw[raiseNew];refine wpAny_bind (wpAny_handled ?_);rw[show A.in1.handled=none from hh];refine wpAny_bind (wpAny_pure (wpAny_throw (hE _ _ ?_ ⟨_,Heap.get?_push_size _ rfl,rfl⟩)));exact ((Heap.SameBut.update ..).extBut.push _).push _
theorem Gz{T:Bool}{x:Value}{Q:Value->Shared->Prop}(hit:kC T s.heap it t i)(ht:nh T s.heap t xs)(hx:xs[i]?=some x)(hQ:∀h',kC T h' it t (i+1)->Heap.SameBut it s.heap h'->Q x {s with heap:=h'}):
  wpAny (model prog w) A (Builtin.SmallTypes.nextOf (.ref it)) Q E s:=by
 cases T with
 |true=>exact Dg hit ht hx hQ
 |false=>exact wpAny_nextOf_list_item hit ht hx hQ
theorem yX{T:Bool}{Q:Value->Shared->Prop}(hh:A.handled=none)(hit:kC T s.heap it t i)(ht:nh T s.heap t xs)(hx:xs[i]?=none)
  (hE:∀h' e,Heap.ExtBut it s.heap h'->(∃o,h'.get? e=some o/\o.cls=.type "StopIteration")->E (.ref e) {s with heap:=h'}):wpAny (model prog w) A (Builtin.SmallTypes.nextOf (.ref it)) Q E s:=by
 cases T with
 |true=>exact CW hh hit ht hx hE
 |false=>exact wpAny_nextOf_list_end hh hit ht hx hE
end
section
variable {prog:Program}{w:World}{A:Around}{E:Value->Shared->Prop}{s:Shared}{z TI TO i1 i2 l1 l2:Addr}{k:Nat}{xs ys:Array Value}{T1 T2:Bool}
end
noncomputable def wq(T:Bool)(a:Addr):Obj:={cls:=.type (match T with|true=> "tuple_iterator" | false=> "list_iterator"),data:=.fields #[.ref a,.int 0 0]}
section
variable {prog:Program}{w:World}{A:Around}{E:Value->Shared->Prop}{s:Shared}{l1 l2:Addr}{xs ys:Array Value}{T1 T2:Bool}
theorem JS(T:Bool)(h:Heap)(a:Addr):kC T (h.push (wq T a)) h.objs.size a 0:=by
 cases T with
 |true=>exact⟨_,Heap.get?_push_size _ rfl,rfl,rfl⟩
 |false=>exact⟨_,Heap.get?_push_size _ rfl,rfl,rfl⟩
end
section
variable {X:Cx}{E:XK}{pins:List (Addr×Obj)}{σ:L2.St}{H:L2.Hp}{s:Shared}{h':Heap}{fp:List Addr}
theorem qC{t':Nat}(I:Inv X pins σ H s)(hf:∀b∈fp,eO X pins H b)(k:∀b o,b∉fp->s.heap.get? b=some o->h'.get? b=some o):Inv X pins σ H {s with heap:=h',toks:=t'}:=by
 have nf:∀b u,H b=some u->b∉fp:=fun b u e z=>by rw[(hf b z).1] at e;cases e
 have u:Un (bK X.stack) fp H H s.heap h':=
  ⟨fun b o e _ _ h2=>k b o h2 e,fun b o e _ _ h2=>⟨o.slots,k b o h2 e⟩,fun _ _ _ n _=>n,fun b o e h2=>⟨o,k b o h2 e⟩,fun _ _ q=>q,fun _ _ _ q=>q,fun _ ps q=>⟨#[],by rw[q];simp⟩⟩
 have ao:cq X.prog X.w H h':=fun b v e=>(I.ao b v e).eV (fun c w hc q=>k c w (by
  rcases hc with z|z
  .rw[z];exact nf _ _ e
  .exact nf _ _ z) q) (fun _ q=>q) fun _ _ q=>q
 exact I.call (g':=s.gens) (d':=s.drawn) (t':=t') u ao I.bare fun b hb=>⟨(hf b hb).2.2.2.1,(hf b hb).2.1,(hf b hb).2.2.2.2.1,(hf b hb).2.2.2.2.2⟩
theorem Fo{t':Nat}{a:Addr}{xs:List V}(I:Inv X pins σ H s)(hf:∀b∈fp,eO X pins H b)(k:∀b o,b∉fp->s.heap.get? b=some o->h'.get? b=some o)(ha:s.heap.objs.size<=a)(new:bJ X.prog X.w (upd H a (.tup xs)) h' a (.tup xs)):
  Inv X pins σ (upd H a (.tup xs)) {s with heap:=h',toks:=t'}:=by
 have hn:H a=none:=I.ao.fresh ha;have nf:∀b u,H b=some u->b∉fp:=fun b u e z=>by rw[(hf b z).1] at e;cases e
 have u:Un (bK X.stack) fp H (upd H a (.tup xs)) s.heap h':=
  ⟨fun b o e _ _ h2=>k b o h2 e,fun b o e _ _ h2=>⟨o.slots,k b o h2 e⟩,fun b o e n _=>by rw[aq (Nat.ne_of_lt (Nat.lt_of_lt_of_le (Heap.lt_size e) ha))];exact n,fun b o e h2=>⟨o,k b o h2 e⟩,
   fun b ys q=>by rw[aq (bV q hn)];exact q,fun b o v q=>by rw[aq (bV q hn)];exact q,fun b ps q=>⟨#[],by rw[aq (bV q hn),q];simp⟩⟩
 have ao:cq X.prog X.w (upd H a (.tup xs)) h':=fun b v e=>by
  by_cases z:b=a
  .subst z;rw[aJ] at e;cases e;exact new
  .rw[aq z] at e;refine (I.ao b v e).eV (fun c w hc q=>k c w ?_ q) (fun c q=>by rw[aq (bV q hn)];exact q) fun c ys q=>by rw[aq (bV q hn)];exact q
   rcases hc with z|z
   .rw[z];exact nf _ _ e
   .exact nf _ _ z
 exact I.call (g':=s.gens) (d':=s.drawn) (t':=t') u ao I.bare fun b hb=>⟨(hf b hb).2.2.2.1,(hf b hb).2.1,(hf b hb).2.2.2.2.1,(hf b hb).2.2.2.2.2⟩
end
def nU(T:Bool)(K:PySem.W.Frag)(H:L2.Hp)(a:Addr)(xs:List V):Prop:=match T with
 |true=>df K H a xs
 |false=>bx K H a xs
theorem nU.ob{T:Bool}{X:Cx}{pins:List (Addr×Obj)}{σ:L2.St}{H:L2.Hp}{s:Shared}{a:Addr}{xs:List V}(I:Inv X pins σ H s)(q:nU T X.K H a xs):∃its,Vals xs its/\nh T s.heap a its.toArray:=by
 cases T with
 |true=>obtain⟨its,rv,p,hz⟩:=I.tuple q;exact⟨its,rv,show s.heap.IsTuple a its.toArray from p⟩
 |false=>obtain⟨its,rv,p,hz⟩:=I.list q;exact⟨its,rv,p.isList⟩
theorem nU.inj{T:Bool}{X:Cx}{pins:List (Addr×Obj)}{σ:L2.St}{H:L2.Hp}{s:Shared}{a:Addr}{xs ys:List V}(I:Inv X pins σ H s)(q:nU T X.K H a xs)(q':nU T X.K H a ys):xs=ys:=by
 cases T with
 |true=>exact I.rV q q'
 |false=>exact I.oJ q q'
end TwS
namespace TwS
open PySem L2 PyProof.Rows
open AutoSeq1 (wpAny_loadPart')
theorem FG(T:Bool){prog:Program}{w:World}{A:Around}(hh:A.handled=none)(it l:Addr)(hne:l≠it)(xs:Array Value):
  Draws prog w A it [it,l] xs.size (fun i v=>xs[i]?=some v) (fun i h=>kC T h it l i/\nh T h l xs) where
 live:=fun _ _ st=>let ⟨o,ho,_⟩:=st.1.there;⟨o,ho⟩
 frame:=fun _ _ _ st hk=>⟨st.1.at fun o e=>hk it (by simp) o e,st.2.at fun o e=>hk l (by simp) o e⟩
 item:=fun i s Q E hi st hQ=>by
  refine Gz st.1 st.2 (x:=xs[i]) (by simp[hi]) fun h' q1 q2=>?_;exact hQ _ h' s.toks (by simp[hi]) ⟨q1,st.2.at fun o e=>q2.extBut l o hne e⟩ q2
 done:=fun s Q E st hE=>yX hh st.1 st.2 (by simp) hE
theorem EY(T:Bool){prog:Program}{w:World}{A:Around}(hh:A.handled=none)(it l:Addr)(xs:Array Value)(k:Nat)(hk:xs[k]?=none):
  Draws prog w A it [it,l] k (fun _ _=>False) (fun i h=>i=k/\kC T h it l k/\nh T h l xs) where
 live:=fun _ _ st=>let ⟨o,ho,_⟩:=st.2.1.there;⟨o,ho⟩
 frame:=fun _ _ _ st hk=>⟨st.1,st.2.1.at fun o e=>hk it (by simp) o e,st.2.2.at fun o e=>hk l (by simp) o e⟩
 item:=fun i s Q E hi st hQ=>absurd st.1 (Nat.ne_of_lt hi)
 done:=fun s Q E st hE=>yX hh st.2.1 st.2.2 hk hE
theorem Dq(T:Bool)(l:Addr)(xs:Array Value):
  Meets (Builtin.«enumerate.__new__» ⟨[.type "enumerate",.ref l],[]⟩) (fun _ R s=>nh T s.heap l xs/\
   R (.ok (.ret (.ref (s.heap.push (wq T l)).objs.size))) {s with heap:=(s.heap.push (wq T l)).push {cls:=.type "enumerate",data:=.fields #[.none,.bool false,.ref s.heap.objs.size,rawInt 0,.none,.none]}}):=
 .of_wp fun prog w A R s h=>by
  obtain⟨hp,g,d,tk,os⟩:=s;obtain⟨b1,h⟩:=h;have su:=sub_enumerate;cases T with
  |true=>
   have p1:Heap.IsTuple (Shared.heap ⟨hp,g,d,tk,os⟩) l xs:=b1;obtain⟨o,ho,_⟩:=id b1
   wp_walk using wpAny_loadPart' ho
   refine wpAny_stack_any fun st=>wpAny_pure ?_;split
   .rename_i c _ _ _ _ _;cases (c== Value.type "enumerate")<;>(wp_walk using wpAny_loadPart' ho,wpAny_pyIter_tuple p1;exact⟨_,rfl,h⟩)
   .wp_walk using wpAny_loadPart' ho,wpAny_pyIter_tuple p1
    exact⟨_,rfl,h⟩
  |false=>
   have p1:Heap.IsList (Shared.heap ⟨hp,g,d,tk,os⟩) l xs:=b1;obtain⟨o,ho,_⟩:=id b1
   wp_walk using wpAny_loadPart' ho
   refine wpAny_stack_any fun st=>wpAny_pure ?_;split
   .rename_i c _ _ _ _ _;cases (c== Value.type "enumerate")<;>(wp_walk using wpAny_loadPart' ho,wpAny_pyIter_list p1;exact⟨_,rfl,h⟩)
   .wp_walk using wpAny_loadPart' ho,wpAny_pyIter_list p1
    exact⟨_,rfl,h⟩
section
variable {prog:Program}{w:World}{A:Around}{E:Value->Shared->Prop}{s:Shared}{l:Addr}{xs:Array Value}{T:Bool}
theorem J9{Q:Value->Shared->Prop}(b:nh T s.heap l xs)
  (h:∀h',IsEnum h' (s.heap.objs.size+1) s.heap.objs.size 0 .none->kC T h' s.heap.objs.size l 0->(∀c o,s.heap.get? c=some o->h'.get? c=some o)->Q (.ref (s.heap.objs.size+1)) {s with heap:=h'}):
  wpAny (model prog w) A (call (.type "enumerate") [.ref l]) Q E s:=by
 refine callType_new F.called_enumerate (by decide) (F.typeCall_enumerate_1 _) (F.newCall_enumerate_1 _) (fun obj=>F.args_object_init_2 obj _) F.entry_enumerate_new (Dq T l xs) ⟨b,?_⟩;have n1:(s.heap.push (wq T l)).objs.size=s.heap.objs.size+1:=Heap.size_push ..;have g1:((s.heap.push (wq T l)).push {cls:=.type "enumerate",data:=.fields #[.none,.bool false,.ref s.heap.objs.size,rawInt 0,.none,.none]}).get? (s.heap.push (wq T l)).objs.size=some _:=Heap.get?_push_size _ rfl;show _/\_;rw[n1] at g1⊢;exact⟨⟨_,g1,rfl⟩,h _ g1 ((JS T s.heap l).at fun o=>Heap.get?_push_of_some _) fun c o e=>Heap.get?_push_of_some _ (Heap.get?_push_of_some _ e)⟩
end
noncomputable def DN(K:PySem.W.Frag)(T:Bool)(a:Addr):It:=
 ⟨fun i H=>∃xs x,nU T K H a xs/\xs[i]?=some x,
  fun i H v H'=>∃t x,v=.ref t/\H t=none/\H'=upd H t (.tup [.int i,x])/\∀xs,nU T K H a xs->xs[i]?=some x,
  fun i H=>∃xs,nU T K H a xs/\xs.length<=i⟩
theorem zt{P:Program}{w:World}{K:PySem.W.Frag}{es:List Expr}{n:Nat}{p:Pos}{T:Bool}{e it a:Addr}(ne:e≠it)(nae:a≠e)(nai:a≠it):
  Turn P w K (.Tuple es n p) (DN K T a) [e,it] e (fun i h=>(∃old,IsEnum h e it i old)/\kC T h it a i) where
 mem:=by simp
 obj:=fun i h Z c hc=>by
  obtain⟨⟨old,he⟩,h1⟩:=Z;simp only[List.mem_cons,List.not_mem_nil,or_false] at hc;rcases hc with rfl|rfl
  .exact⟨_,he,fun v q=>nomatch q⟩
  .exact h1.there
 keep:=fun i h h' Z k=>by
  obtain⟨⟨old,he⟩,h1⟩:=Z;exact⟨⟨old,k _ (by simp) _ he⟩,h1.at fun o=>k _ (by simp) o⟩
 item:=by
  intro X hP hw hK hc i pins s σ H E I hf Z hg;subst hP hw hK;obtain⟨xs,x,q1,ex⟩:=hg;obtain⟨⟨old,he⟩,h1⟩:=Z;obtain⟨us,r1,b1⟩:=q1.ob I;obtain⟨u,hu,ru⟩:=r1.get ex;have hlt:i<us.toArray.size:=by simpa using (List.getElem?_eq_some_iff.mp hu).1
  refine wpAny_pyNext_enum_itemD (FG T (A:=X.A.in1) (show X.A.in1.handled=none from I.ok.hd hc) it a nai us.toArray) he ⟨h1,b1⟩ hlt ne (by simp[ne,nae.symm]) fun y h' tk hy ho hs' ht hsz hk=>⟨_,rfl,?_⟩;have ey:y=u:=by have hy:us.toArray[i]?=some y:=hy;simp only[List.getElem?_toArray] at hy;rw[hu] at hy;exact (Option.some.inj hy).symm
  subst ey;refine wpAny_letOwnedTupleGo_enum ho fun g' eg sg=>?_;have lt:∀{c o},s.heap.get? c=some o->c≠s.heap.objs.size:=fun e=>Nat.ne_of_lt (Heap.lt_size e);have kg:∀c o,c∉ [e,it]->s.heap.get? c=some o->g'.get? c=some o:=fun c o hc e1=>by
   simp only[List.mem_cons,List.not_mem_nil,or_false,not_or] at hc;exact sg.extBut c o hc.1 (hk c o hc.1 hc.2 e1)
  have tg:g'.get? s.heap.objs.size=some {cls:=.type "tuple",data:=.seq #[.int i tk,y]}:=sg.extBut _ _ (lt he).symm ht;have I':Inv X pins σ (upd H s.heap.objs.size (.tup [.int i,x])) {s with heap:=g',toks:=tk+1}:=Fo I hf kg (Nat.le_refl _) ⟨by simp[sizeLine_eq],[.int i tk,y],.cons ⟨tk,rfl⟩ (.cons ru .nil),_,tg,rfl,_,rfl⟩;refine⟨.ref s.heap.objs.size,_,I',rfl,⟨_,x,rfl,I.ao.fresh (Nat.le_refl _),rfl,fun xs' p1=>?_⟩,⟨⟨y,eg⟩,hs'.1.at fun o=>sg.extBut _ o ne.symm⟩,fun c hc=>?_⟩
  .rw[nU.inj I p1 q1];exact ex
  .have f:=hf c hc;have:∃o,s.heap.get? c=some o:=by
    simp only[List.mem_cons,List.not_mem_nil,or_false] at hc;rcases hc with rfl|rfl
    .exact⟨_,he⟩
    .obtain⟨o,e1,_⟩:=h1.there;exact⟨o,e1⟩
   obtain⟨o,e1⟩:=this;rw[aq (lt e1)];exact f.1
 done:=by
  intro X hP hw hK hc i pins s σ H E I hf Z hg;subst hP hw hK;obtain⟨xs,q1,hend⟩:=hg;obtain⟨⟨old,he⟩,h1⟩:=Z;obtain⟨us,r1,b1⟩:=q1.ob I;have l1:=r1.length;refine wpAny_pyNext_enum_endD (EY T (A:=X.A.in1) (show X.A.in1.handled=none from I.ok.hd hc) it a us.toArray i (by simp;omega)) he ⟨rfl,h1,b1⟩ fun h' kh=>⟨rfl,?_⟩;exact qC (t':=s.toks) I hf fun c o hc e1=>by
   simp only[List.mem_cons,List.not_mem_nil,or_false,not_or] at hc;exact kh c o hc.2 e1
 self:=fun _ _ _ _ _ Z h=>let ⟨⟨_,he⟩,_⟩:=Z;wpAny_pyIter_enum he h
section
variable {X:Cx}{E:XK}{a:Expr}{p pos p1:Pos}{es:List Expr}{n:Nat}
theorem L9{T:Bool}{s:Shared}{c:Addr}{xs:Array Value}(q:nh T s.heap c xs):c<s.heap.objs.size:=by
 cases T with
 |true=>obtain⟨o,e,_⟩:=q;exact Heap.lt_size e
 |false=>obtain⟨o,e,_⟩:=q;exact Heap.lt_size e
theorem vW(T:Bool){ta:TA}(hg:Gl X "enumerate")(hm:X.mg "enumerate" = none)(ha:PA X [a] ta)(hs:starEach [a] X.env=[(false,eval a X.env)]):
  PI X (.Tuple es n p1) (.Call (.Name "enumerate" p) [a] [] pos) (fun σ H R=>ta σ H fun vs H1=>∃c,vs=[.ref c]/\(∃xs,nU T X.K H1 c xs)/\R (DN X.K T c) H1):=by
 intro pins s σ H R I h;refine Call_ (mJ I hg hm PyProof.Rows.boot_enumerate (PyProof.Rows.callWith_type1 (aC (ha pos pins s σ H _ I h) fun us s1 ⟨vs,H1,I1,r1,c,e,⟨xs,q1⟩,q⟩=>?_) (by rw[hs];rfl) (by rfl)) (by decide) (by decide));subst e;obtain⟨u,rfl,ru⟩:=vals1 r1;cases ru;obtain⟨as,_,b1⟩:=q1.ob I1;refine J9 b1 fun h' he hi k=>?_;refine wpAny_pyIter_enum he ?_;have I2:Inv X pins σ H1 {s1 with heap:=h',toks:=s1.toks}:=I1.kept (t':=s1.toks) k;have lt:=L9 (s:=s1) b1;refine⟨_,_,_,_,H1,rfl,I2,zt (T:=T) (Nat.ne_of_gt (Nat.lt_succ_self _)) (Nat.ne_of_lt (Nat.lt_succ_of_lt lt)) (Nat.ne_of_lt lt),⟨⟨_,he⟩,hi⟩,fun c' hc'=>?_,q⟩;have le:s1.heap.objs.size<=c':=by
  simp only[List.mem_cons,List.not_mem_nil,or_false] at hc';rcases hc' with rfl|rfl
  .exact Nat.le_add_right _ _
  .exact Nat.le_refl _
 exact I1.oE le (I1.ao.fresh le)
end
end TwS
namespace TwS
open PySem L2 PyProof.Rows
noncomputable def Kg(K:PySem.W.Frag)(a:Addr)(n:Nat):It:=
 ⟨fun i H=>∃xs x,i<n/\bx K H a xs/\xs[n-1-i]?=some x,fun i H x H'=>H'=H/\∀xs,bx K H a xs->xs[n-1-i]?=some x,fun i _=>n<=i⟩
theorem Ci{P:Program}{w:World}{K:PySem.W.Frag}{tg:Expr}(a it:Addr)(n:Nat):Turn P w K tg (Kg K a n) [it] it (fun i h=>i<=n/\h.IsRevIter it a ((n:Int)-1-i)) where
 mem:=by simp
 obj:=fun i h Z c hc=>by
  have e:c=it:=by simpa using hc
  subst e;obtain⟨_,o,e,c,d⟩:=Z;exact⟨o,e,fun v q=>by rw[d] at q;cases q⟩
 keep:=fun i h h' Z k=>⟨Z.1,Z.2.at fun o e=>k it (by simp) o e⟩
 item:=by
  intro X hP hw hK hc i pins s σ H E I hf Z hg;subst hP hw hK;obtain⟨xs,x,hi,hq,hx⟩:=hg;obtain⟨us,rv,pl,hz⟩:=I.list hq;obtain⟨u,hu,ru⟩:=rv.get hx;obtain⟨_,hit⟩:=Z;have e1:(n:Int)-1-(i:Int)=((n-1-i:Nat):Int):=by omega
  rw[e1] at hit;refine wpAny_pyNext_rev_item hit pl.isList (x:=u) (by simpa using hu) fun h' hit' hs'=>⟨u,rfl,?_⟩;have e2:((n-1-i:Nat):Int)-1=(n:Int)-1-((i+1:Nat):Int):=by omega
  rw[e2] at hit';obtain⟨o,ho,hc',hd⟩:=id hit';refine tu (n:= "list_reverseiterator") ho hc' hd (by decide) ?_;have I':Inv X pins σ H {s with heap:=h',toks:=s.toks}:=qC I hf fun c o hc e=>hs'.extBut c o (fun z=>hc (by simp[z])) e;refine⟨x,H,I',ru,⟨rfl,fun xs' q=>?_⟩,⟨hi,hit'⟩,fun c hc=>(hf c hc).1⟩;rw[I.oJ q hq];exact hx
 done:=by
  intro X hP hw hK hc i pins s σ H E I hf Z hg;subst hP hw hK;have hg:n<=i:=hg;obtain⟨hle,hit⟩:=Z;have e1:(n:Int)-1-(i:Int)= -1:=by omega
  rw[e1] at hit;refine wpAny_pyNext_rev_end (I.ok.hd hc) hit fun h' kh=>⟨rfl,?_⟩;exact qC (t':=s.toks) I hf fun c o hc e=>kh c o (fun z=>hc (by simp[z])) e
 self:=fun _ _ _ _ _ Z h=>wpAny_pyIter_revIter Z.2 h
section
variable {X:Cx}{a:Expr}{p pos:Pos}{tg:Expr}
theorem C1:bootBuiltins "reversed" = some (.type "reversed"):=by decide+kernel
theorem IQ{ta:TA}(hg:Gl X "reversed")(hm:X.mg "reversed" = none)(ha:PA X [a] ta)(hs:starEach [a] X.env=[(false,eval a X.env)]):
  PI X tg (.Call (.Name "reversed" p) [a] [] pos) (fun σ H R=>ta σ H fun vs H1=>∃c xs,vs=[.ref c]/\bx X.K H1 c xs/\R (Kg X.K c xs.length) H1):=by
 intro pins s σ H R I h;refine Call_ (mJ I hg hm C1 (PyProof.Rows.callWith_type1 (aC (ha pos pins s σ H _ I h) fun us s1 Z=>Z.g fun vs Z=>Z.g fun H1 Z=>Z.g fun I1 Z=>Z.g fun r1 Z=>Z.g fun c Z=>Z.g fun xs Z=>Z.g fun e Z=>Z.g fun q1 q=>?_) (by rw[hs];rfl) (by rfl)) (by decide) (by decide));subst e;obtain⟨u,rfl,ru⟩:=vals1 r1;cases ru;obtain⟨as,rv,pl,hz⟩:=I1.list q1;refine call_reversed_list pl.isList ?_;have hit:Heap.IsRevIter (s1.heap.push (revObj c ((as.toArray.size:Int)-1))) s1.heap.objs.size c ((as.toArray.size:Int)-1):=⟨_,Heap.get?_push_size _ rfl,rfl,rfl⟩;refine wpAny_pyIter_revIter hit ?_;have I2:Inv X pins σ H1 {s1 with heap:=s1.heap.push (revObj c ((as.toArray.size:Int)-1)),toks:=s1.toks}:=I1.kept (t':=s1.toks) fun b o e=>Heap.get?_push_of_some _ e;have el:as.toArray.size=xs.length:=by rw[List.size_toArray];exact rv.length.symm
 refine⟨_,_,_,_,H1,rfl,I2,Ci c _ xs.length,⟨Nat.zero_le _,by rw[show (xs.length:Int)-1-((0:Nat):Int)=(as.toArray.size:Int)-1 by rw[el];simp];exact hit⟩,fun c' hc'=>?_,q⟩;have le:c'=s1.heap.objs.size:=by simpa using hc'
 subst le;exact I1.oE (Nat.le_refl _) (I1.ao.fresh (Nat.le_refl _))
end
theorem mI{α β:Type}{M:Model}{A:Around}{v:α}{Q:α->Shared->Prop}{E:Value->Shared->Prop}{s:Shared}{t:Sem β}{Q':β->Shared->Prop}{E':Value->Shared->Prop}(h:wpAny M A (pure v) Q E s)(k:Q v s->wpAny M A t Q' E' s):wpAny M A t Q' E' s:=
 fun Γ p hΓ=>k (h Γ p hΓ) Γ p hΓ
section
variable {prog:Program}{w:World}{A:Around}{s:Shared}{R:Result->Shared->Prop}{E:Value->Shared->Prop}
variable {I:Addr}
end
section
variable {prog:Program}{w:World}{A:Around}{s:Shared}{E:Value->Shared->Prop}{I:Addr}
end
noncomputable def dn(X:Cx):Cx:={X with A:=X.A.in1}
theorem Inv.GB{X:Cx}{pins:List (Addr×Obj)}{σ:L2.St}{H:L2.Hp}{s:Shared}(I:L2.Inv X pins σ H s):L2.Inv (dn X) pins σ H s:=
 ⟨⟨I.ok.mod,I.ok.kind,I.ok.glob,I.ok.blt,I.ok.above,I.ok.inj,I.ok.has,I.ok.qm,I.ok.hd,I.ok.frames,I.ok.rF,I.ok.wI,I.ok.bs,I.ok.kQ,I.ok.kX,I.ok.mr,I.ok.fQ,I.ok.mR⟩,I.os,I.bare,I.base,I.loc,I.cell,I.free,I.dJ,I.pin,I.ao,I.len⟩
theorem Inv.out{X:Cx}{pins:List (Addr×Obj)}{σ:L2.St}{H:L2.Hp}{s:Shared}(ok:X.Ok)(I:L2.Inv (dn X) pins σ H s):L2.Inv X pins σ H s:=
 ⟨ok,I.os,I.bare,I.base,I.loc,I.cell,I.free,I.dJ,I.pin,I.ao,I.len⟩
section
variable {X:Cx}{pins:List (Addr×Obj)}{σ:L2.St}
end
section
variable {prog:Program}{w:World}{A:Around}{E:Value->Shared->Prop}{s:Shared}{e it a:Addr}{i:Nat}{xs:Array Value}{T:Bool}
end
section
variable {X:Cx}{E:XK}{a b:Expr}{p pos p1 pos2:Pos}{es:List Expr}{n:Nat}{da db:Tw.Env->Tw.Hp->Tw.R Tw.W}
end
section
variable {K:Zk}{ι ι1:Nat->Addr}{h h1:Tw.Hp}{H H1:L2.Hp}{ρ:Tw.Env}{σ:L2.St}{a:Addr}
def fL(ι:Nat->Addr)(h:Tw.Hp)(a:Addr):Prop:=∀(i:Nat)(o:Tw.O),h[i]?=some o->dZ o=true->ι i≠a
theorem fL.later(al:fL ι h a)(e:Ext ι h H ι1 h1 H1)(ha:H a≠none):fL ι1 h1 a:=fun i o ei m z=>by
 by_cases hi:i<h.length
 .obtain⟨o',eo⟩:∃o',h[i]?=some o':=⟨_,List.getElem?_eq_getElem hi⟩;rw[e.same i hi] at z;exact al i o' eo (by rw[<-e.fz i o' o eo ei];exact m) z
 .exact ha (by rw[<-z];exact e.new i (Nat.not_lt.mp hi) (jS ei))
theorem HR.other{u o:HO}(r:HR K ι h H)(al:fL ι h a)(ha:H a=some u)(n1:∀xs,u≠.tup xs)(n2:∀o v,u≠.bE o v)(n3:∀gs,u≠.xd gs:=by intro _ z;cases z)(n4:∀φ,u≠.ext φ:=by intro _ z;cases z):HR K ι h (upd H a o):=by
 have kp:Keeps ι h.length H ι h.length (upd H a o):=⟨Nat.le_refl _,fun _ _=>rfl,fun b xs e=>by
  rw[aq (fun z=>by rw[z,ha] at e;cases e;exact n1 _ rfl)];exact e⟩
 refine⟨fun i v q=>?_,r.inj⟩;by_cases m:dZ v=true
 .exact (r.obj i v q).keep kp fun w e hw z=>by
   rw[aq]
   .exact z
   .rcases hw with rfl|⟨gs,rfl⟩
    .exact al i v q m
    .intro y;rw[y,ha] at z;cases z;exact n3 _ rfl
 .cases v with
  |bE ws=>
   obtain⟨xs,sq,rr⟩:=r.obj i _ q;rcases sq with ⟨o',sq⟩|sq
   .refine⟨xs,.inl ⟨o',?_⟩,rr.keep kp⟩;rw[aq (fun z=>by rw[z,ha] at sq;cases sq;exact n2 _ _ rfl)];exact sq
   .exact⟨xs,.inr sq,rr.keep kp⟩
  |aD c fs=>
   obtain⟨C,dx,gs,q0,q1,q2,q3⟩:=r.obj i _ q;refine⟨C,dx,gs,q0,?_,?_,q3.keep kp⟩
   .rw[aq (fun z=>by rw[z,ha] at q1;cases q1;exact n4 _ rfl)];exact q1
   .rw[aq (fun z=>by rw[z,ha] at q2;cases q2;exact n3 _ rfl)];exact q2
  |_=>exact absurd rfl m
theorem Ext.other{u o:HO}(e:Ext ι h H ι1 h1 H1)(ha:H a=none)(ha1:H1 a=some u):Ext ι h H ι1 h1 (upd H1 a o):=
 ⟨e.len,e.same,fun b v q n=>by rw[aq (bV q ha)];exact e.fr b v q n,e.new,fun b q=>e.wt b (nq b q),e.fz⟩
theorem HR.adopt{u:Tw.O}{o:HO}(r:HR K ι h H)(al:fL ι h a)(ha:H a=some o)(m:dZ u=true)(ro:∀ι' n',Keeps ι h.length H ι' n' H->RO K ι' n' H a u):HR K (eT ι h.length a) (h++[u]) H:=by
 have hl:(h++[u]).length=h.length+1:=by simp
 have kp:Keeps ι h.length H (eT ι h.length a) (h++[u]).length H:=⟨by omega,fun i hi=>cw hi,fun _ _ e=>e⟩;have two:∀{i:Nat}{v:Tw.O},(h++[u])[i]?=some v->(i<h.length/\h[i]?=some v)\/(i=h.length/\v=u):=fun {i v} e=>by
  have hi:=jS e;by_cases z:i<h.length
  .rw[List.getElem?_append_left z] at e;exact .inl ⟨z,e⟩
  .have z':i=h.length:=by omega
   subst z';simp at e;exact .inr ⟨rfl,e.symm⟩
 refine⟨fun i v q=>?_,fun i j v w q1 q2 m1 m2 z=>?_⟩
 .rcases two q with ⟨hi,q⟩|⟨rfl,rfl⟩
  .rw[cw hi];exact (r.obj i v q).keep kp fun _ _ _ e=>e
  .rw[cE];exact ro _ _ kp
 .rcases two q1 with ⟨hi,p1⟩|⟨ei,ev⟩<;>rcases two q2 with ⟨hj,p2⟩|⟨ej,ew⟩
  .rw[cw hi,cw hj] at z;exact r.inj i j v w p1 p2 m1 m2 z
  .rw[cw hi,ej,cE] at z;exact absurd z (al i v p1 m1)
  .rw[ei,cE,cw hj] at z;exact absurd z.symm (al j w p2 m2)
  .rw[ei,ej]
theorem Ext.adopt{u:Tw.O}(e:Ext ι h H ι1 h1 H1)(ha:H a=none):Ext ι h H (eT ι1 h1.length a) (h1++[u]) H1:=by
 have hl:(h1++[u]).length=h1.length+1:=by simp
 refine⟨by have:=e.len;omega,fun i hi=>(cw (Nat.lt_of_lt_of_le hi e.len)).trans (e.same i hi),e.fr,fun i g1 g2=>?_,e.wt,fun i o v q1 q2=>?_⟩
 .by_cases hi:i<h1.length
  .rw[cw hi];exact e.new i g1 hi
  .have:i=h1.length:=by omega
   subst this;rw[cE];exact ha
 .have hi:=Nat.lt_of_lt_of_le (jS q1) e.len;rw[List.getElem?_append_left hi] at q2;exact e.fz i o v q1 q2
end
noncomputable def nextOf(src:Tw.Src)(i:Nat)(h:Tw.Hp):Option (Option Tw.W):=match src with
 |.fix ws=>some ws[i]?
 |.at a _=>(Tw.aZ h a).map fun ys=>ys[i]?
 |.rv a n=>if i<n then (match Tw.aZ h a with|none=>none|some ys=>(ys[n-1-i]?).map some) else some none
 |.ea a _=>(Tw.aZ h a).map fun ys=>(ys[i]?).map fun x=>.tup [.int i,x]
def fF(K:PySem.W.Frag)(J:It)(src:Tw.Src)(ι:Nat->Addr)(q:Nat)(H:L2.Hp):Prop:=
 (∃ad xs ws,J=Kn K ad/\src=.fix ws/\TupAt K H ad xs/\aL K ι q H ws xs)\/(∃lo n,J=EB lo n/\src=.fix (Tw.upTo lo n))\/(∃i n b,J=G0 K b/\b=ι i/\src=.at i n/\i<q)\/
 False\/
 (∃ad xs ws,J=DN K true ad/\src=.fix (Tw.fK 0 ws)/\TupAt K H ad xs/\aL K ι q H ws xs)\/
 (∃i n b,J=Kg K b n/\b=ι i/\src=.rv i n/\i<q)\/(∃i n b,J=DN K false b/\b=ι i/\src=.ea i n/\i<q)
theorem fF.later{K:PySem.W.Frag}{J:It}{src:Tw.Src}{ι ι1:Nat->Addr}{q q1:Nat}{H H1:L2.Hp}(f:fF K J src ι q H)(k:Keeps ι q H ι1 q1 H1):fF K J src ι1 q1 H1:=by
 rcases f with ⟨ad,xs,ws,e1,e2,e3,r⟩|f|⟨i,n,b,e1,e2,e3,hi⟩|f4|⟨ad,xs,ws,e1,e2,e3,r⟩|⟨i,n,b,e1,e2,e3,hi⟩|⟨i,n,b,e1,e2,e3,hi⟩
 .exact .inl ⟨ad,xs,ws,e1,e2,k.yG e3,r.keep k⟩
 .exact .inr (.inl f)
 .exact .inr (.inr (.inl ⟨i,n,b,e1,e2.trans (k.same i hi).symm,e3,Nat.lt_of_lt_of_le hi k.le⟩))
 .exact f4.elim
 .exact .inr (.inr (.inr (.inr (.inl ⟨ad,xs,ws,e1,e2,k.yG e3,r.keep k⟩))))
 .exact .inr (.inr (.inr (.inr (.inr (.inl ⟨i,n,b,e1,e2.trans (k.same i hi).symm,e3,Nat.lt_of_lt_of_le hi k.le⟩)))))
 .exact .inr (.inr (.inr (.inr (.inr (.inr ⟨i,n,b,e1,e2.trans (k.same i hi).symm,e3,Nat.lt_of_lt_of_le hi k.le⟩)))))
theorem nc:∀(ws:List Tw.W)(k:Int)(i:Nat),(Tw.fK k ws)[i]?=(ws[i]?).map fun x=>.tup [.int (k+i),x]
 |[],_,_=>by simp[Tw.fK]
 |w::ws,k,0=>by simp[Tw.fK]
 |w::ws,k,i+1=>by
  simp only[Tw.fK,List.getElem?_cons_succ];rw[nc ws (k+1) i,show k+1+(i:Int)=k+((i+1:Nat):Int) by push_cast;omega]
theorem qA:∀(n:Nat)(lo:Int)(i:Nat),(Tw.upTo lo n)[i]?=if i<n then some (.int (lo+i)) else none
 |0,_,_=>by simp[Tw.upTo]
 |n+1,lo,0=>by simp[Tw.upTo]
 |n+1,lo,i+1=>by
  simp only[Tw.upTo,List.getElem?_cons_succ];rw[qA n (lo+1) i];by_cases h:i<n
  .rw[if_pos h,if_pos (by omega)]
   congr 2
   push_cast;omega
  .rw[if_neg h,if_neg (by omega)]
theorem i8{K:Zk}{J:It}{src:Tw.Src}{ι:Nat->Addr}{h:Tw.Hp}{H:L2.Hp}(r:HR K ι h H)(f:fF K.K J src ι h.length H)(i:Nat):
  nextOf src i h=none\/(J.stop i H/\nextOf src i h=some none)\/
   ∃w,nextOf src i h=some (some w)/\J.go i H/\∀x H',J.DG i H x H'->HR K ι h H'/\Ext ι h H ι h H'/\RW K.K ι h.length H' w x:=by
 have eV:∀{w x},RW K.K ι h.length H w x->HR K ι h H/\Ext ι h H ι h H/\RW K.K ι h.length H w x:=fun q=>⟨r,Ext.refl _ _ _,q⟩;rcases f with ⟨ad,xs,ws,rfl,rfl,e3,rr⟩|⟨lo,n,rfl,rfl⟩|⟨j,n,b,rfl,rfl,rfl,hi⟩|f4|⟨ad,xs,ws,rfl,rfl,e3,rr⟩|⟨j,n,b,rfl,rfl,rfl,hi⟩|⟨j,n,b,rfl,rfl,rfl,hi⟩
 .cases hw:ws[i]? with
  |none=>exact .inr (.inl ⟨⟨xs,e3.sq,by rw[<-rr.length];exact List.getElem?_eq_none_iff.mp hw⟩,by simp[nextOf,hw]⟩)
  |some w=>
   obtain⟨v,hv,rv⟩:=rr.get hw;refine .inr (.inr ⟨w,by simp[nextOf,hw],⟨xs,v,e3.sq,hv⟩,fun x H' Z=>Z.g fun eH hx=>?_⟩);have:=hx xs e3.sq;rw[hv] at this;cases this;subst eH;exact eV rv
 .by_cases hi:i<n
  .refine .inr (.inr ⟨.int (lo+i),by simp[nextOf,qA,hi],hi,fun x H' Z=>Z.g fun eH hx=>?_⟩);subst eH hx;exact eV (.int _)
  .exact .inr (.inl ⟨Nat.not_lt.mp hi,by simp[nextOf,qA,hi]⟩)
 .cases e:Tw.aZ h j with
  |none=>exact .inl (by simp[nextOf,e])
  |some ws=>
   obtain⟨xs,sq,rr⟩:=r.at e;cases hw:ws[i]? with
   |none=>exact .inr (.inl ⟨⟨xs,sq,by rw[<-rr.length];exact List.getElem?_eq_none_iff.mp hw⟩,by simp[nextOf,e,hw]⟩)
   |some w=>
    obtain⟨v,hv,rv⟩:=rr.get hw;refine .inr (.inr ⟨w,by simp[nextOf,e,hw],⟨xs,v,sq,hv⟩,fun x H' Z=>Z.g fun eH hx=>?_⟩);have:=hx xs sq;rw[hv] at this;cases this;subst eH;exact eV rv
 .exact f4.elim
 .cases hw:ws[i]? with
  |none=>exact .inr (.inl ⟨⟨xs,e3.sq,by rw[<-rr.length];exact List.getElem?_eq_none_iff.mp hw⟩,by show some (Tw.fK 0 ws)[i]?=_;rw[nc,hw];rfl⟩)
  |some w=>
   obtain⟨v,hv,rv⟩:=rr.get hw;refine .inr (.inr ⟨.tup [.int i,w],by show some (Tw.fK 0 ws)[i]?=_;rw[nc,hw];simp,⟨xs,v,e3.sq,hv⟩,fun x H' hx=>?_⟩);obtain⟨tt,x',rfl,fresh,rfl,hxy⟩:=hx;have g1:=hxy xs e3.sq;rw[hv] at g1;cases g1;obtain⟨r4,x4⟩:=r.grow (o:=.tup [.int i,v]) fresh;exact⟨r4,x4,.tup (.inl aJ) (.cons (.int _) (.cons (rv.keep (x4.keeps r)) .nil))⟩
 .by_cases hin:i<n
  .cases e:Tw.aZ h j with
   |none=>exact .inl (by simp[nextOf,e,hin])
   |some ws=>
    obtain⟨xs,sq,rr⟩:=r.at e;cases hw:ws[n-1-i]? with
    |none=>exact .inl (by simp[nextOf,e,hin,hw])
    |some w=>
     obtain⟨v,hv,rv⟩:=rr.get hw;refine .inr (.inr ⟨w,by simp[nextOf,e,hin,hw],⟨xs,v,hin,sq,hv⟩,fun x H' Z=>Z.g fun eH hx=>?_⟩);have:=hx xs sq;rw[hv] at this;cases this;subst eH;exact eV rv
  .exact .inr (.inl ⟨Nat.not_lt.mp hin,by simp[nextOf,hin]⟩)
 .cases e:Tw.aZ h j with
  |none=>exact .inl (by simp[nextOf,e])
  |some ws=>
   obtain⟨xs,sq,rr⟩:=r.at e;cases hw:ws[i]? with
   |none=>exact .inr (.inl ⟨⟨xs,sq,by rw[<-rr.length];exact List.getElem?_eq_none_iff.mp hw⟩,by simp[nextOf,e,hw]⟩)
   |some w=>
    obtain⟨v,hv,rv⟩:=rr.get hw;refine .inr (.inr ⟨.tup [.int i,w],by simp[nextOf,e,hw],⟨xs,v,sq,hv⟩,fun x H' hx=>?_⟩);obtain⟨tt,x',rfl,fresh,rfl,hxy⟩:=hx;have g1:=hxy xs sq;rw[hv] at g1;cases g1;obtain⟨r4,x4⟩:=r.grow (o:=.tup [.int i,v]) fresh;exact⟨r4,x4,.tup (.inl aJ) (.cons (.int _) (.cons (rv.keep (x4.keeps r)) .nil))⟩
def cnt(src:Tw.Src)(i m:Nat):Prop:=match src with
 |.fix ws=>m=ws.length-i
 |.rv _ n=>m=n-i
 |_=>True
noncomputable def jC:Tw.Src->Nat
 |.fix ws=>ws.length
 |.at _ n=>n
 |.rv _ n=>n
 |.ea _ n=>n
theorem rE(src:Tw.Src):cnt src 0 (jC src):=by cases src<;>simp[cnt,jC]
theorem ux{src:Tw.Src}{i m:Nat}(h:cnt src i (m+1)):cnt src (i+1) m:=by cases src<;>simp only[cnt] at h⊢<;>first|trivial|omega
noncomputable def wk(src:Tw.Src)(k:Tw.W->List Tw.W->Tw.Hp->Tw.R (List Tw.W))(i m:Nat)(acc:List Tw.W)(h:Tw.Hp):Tw.R (List Tw.W):=match src with
 |.fix ws=>Tw.gf k (ws.drop i) acc h
 |.at a _=>Tw.cz a k m i acc h
 |.rv _ _=>.bad
 |.ea a _=>Tw.cy a k m i acc h
theorem CT(src:Tw.Src)(k:Tw.W->List Tw.W->Tw.Hp->Tw.R (List Tw.W))(h:Tw.Hp):Tw.walk src k h=wk src k 0 (jC src) [] h:=by cases src<;>rfl
theorem EI{src:Tw.Src}{k:Tw.W->List Tw.W->Tw.Hp->Tw.R (List Tw.W)}{i m:Nat}{acc:List Tw.W}{h:Tw.Hp}(hm:cnt src i m):
  wk src k i m acc h=.bad\/(nextOf src i h=some none/\wk src k i m acc h=.ok acc h)\/∃w m',nextOf src i h=some (some w)/\m=m'+1/\wk src k i m acc h=(k w acc h).bind fun acc h=>wk src k (i+1) m' acc h:=by
 cases src with
 |fix ws=>
  have hm:m=ws.length-i:=hm;cases hw:ws[i]? with
  |none=>
   have hl:=List.getElem?_eq_none_iff.mp hw;refine .inr (.inl ⟨by simp[nextOf,hw],?_⟩);show Tw.gf k (ws.drop i) acc h=_;rw[List.drop_eq_nil_of_le hl];rfl
  |some w=>
   have hl:=(List.getElem?_eq_some_iff.mp hw).1;refine .inr (.inr ⟨w,ws.length-(i+1),by simp[nextOf,hw],by omega,?_⟩);show Tw.gf k (ws.drop i) acc h=_;rw[wV hw];rfl
 | «at» a n=>
  cases e:Tw.aZ h a with
  |none=>refine .inl ?_;show Tw.cz a k m i acc h=_;unfold Tw.cz;rw[e]
  |some ws=>
   cases hw:ws[i]? with
   |none=>refine .inr (.inl ⟨by simp[nextOf,e,hw],?_⟩);show Tw.cz a k m i acc h=_;unfold Tw.cz;simp only[e,hw]
   |some w=>
    cases m with
    |zero=>refine .inl ?_;show Tw.cz a k 0 i acc h=_;unfold Tw.cz;simp only[e,hw]
    |succ m=>
     refine .inr (.inr ⟨w,m,by simp[nextOf,e,hw],rfl,?_⟩);show Tw.cz a k (m+1) i acc h=_
     conv=>lhs;unfold Tw.cz
     simp only[e,hw];rfl
 |rv a n=>exact .inl rfl
 |ea a n=>
  cases e:Tw.aZ h a with
  |none=>refine .inl ?_;show Tw.cy a k m i acc h=_;unfold Tw.cy;rw[e]
  |some ws=>
   cases hw:ws[i]? with
   |none=>refine .inr (.inl ⟨by simp[nextOf,e,hw],?_⟩);show Tw.cy a k m i acc h=_;unfold Tw.cy;simp only[e,hw]
   |some w=>
    cases m with
    |zero=>refine .inl ?_;show Tw.cy a k 0 i acc h=_;unfold Tw.cy;simp only[e,hw]
    |succ m=>
     refine .inr (.inr ⟨.tup [.int i,w],m,by simp[nextOf,e,hw],rfl,?_⟩);show Tw.cy a k (m+1) i acc h=_
     conv=>lhs;unfold Tw.cy
     simp only[e,hw];rfl
theorem FO{K:Zk}{J:It}{src:Tw.Src}{ι:Nat->Addr}{h:Tw.Hp}{H:L2.Hp}(r:HR K ι h H)(f:fF K.K J src ι h.length H)(k:Tw.W->List Tw.W->Tw.Hp->Tw.R (List Tw.W))(i m:Nat)(acc:List Tw.W)(hm:cnt src i m):
  wk src k i m acc h=.bad\/(J.stop i H/\wk src k i m acc h=.ok acc h)\/
   ∃w m',m=m'+1/\J.go i H/\(∀x H',J.DG i H x H'->HR K ι h H'/\Ext ι h H ι h H'/\RW K.K ι h.length H' w x)/\cnt src (i+1) m'/\wk src k i m acc h=(k w acc h).bind fun acc h=>wk src k (i+1) m' acc h:=by
 rcases EI (k:=k) (acc:=acc) (h:=h) hm with e|⟨e1,e2⟩|⟨w,m',e1,e2,e3⟩
 .exact .inl e
 .rcases i8 r f i with q|⟨st,q⟩|⟨w,q,_⟩
  .rw[e1] at q;cases q
  .exact .inr (.inl ⟨st,e2⟩)
  .rw[e1] at q;cases q
 .rcases i8 r f i with q|⟨st,q⟩|⟨w',q,go,hy⟩
  .rw[e1] at q;cases q
  .rw[e1] at q;cases q
  .rw[e1] at q;cases q;exact .inr (.inr ⟨w,m',e2,go,hy,ux (by rw[<-e2];exact hm),e3⟩)
noncomputable def cY(env:Env):List (Str×NameKind)->List (Str×Addr)->List (Str×Addr)
 |[],cs=>cs
 |(n,k)::r,cs=>cY env r (if k== .free then (n,(env.cells.lookup n).getD 0)::cs else cs)
theorem yJ{scope:Scope}{env:Env}(h:∀y∈scope.names,y.2=.free->∃c,env.cells.lookup y.1=some c):closureFor scope env=pure (cY env scope.names []):=by
 have key:∀(names:List (Str×NameKind))(cs:List (Str×Addr)),(∀y∈names,y.2=.free->∃c,env.cells.lookup y.1=some c)->
   (forIn (m:=Sem) names cs fun x r=>match x with
    |(name,kind)=>if (kind== NameKind.free)=true then do let c <-cellOf env name;pure (ForInStep.yield ((name,c)::r)) else pure (ForInStep.yield r))=pure (cY env names cs):=by
  intro names
  induction names with
  |nil=>intro cs _;rfl
  |cons y r ih=>
   intro cs h;obtain⟨n,k⟩:=y;have ih:=fun cs=>ih cs fun z hz=>h z (List.mem_cons_of_mem _ hz);rw[List.forIn_cons];by_cases hk:k=.free
   .subst hk;obtain⟨c,hc⟩:=h (n,.free) List.mem_cons_self rfl;have e:cellOf env n=pure c:=by unfold cellOf;rw[hc]
    have t:cY env ((n,NameKind.free)::r) cs=cY env r ((n,c)::cs):=by rw[cY,hc];rfl
    rw[t,<-ih];dsimp only;rw[e];rfl
   .have hb:(k== NameKind.free)=false:=by simpa using hk
    have t:cY env ((n,k)::r) cs=cY env r cs:=by rw[cY,hb];rfl
    rw[t,<-ih];dsimp only;rw[hb];rfl
 unfold closureFor;have k2:=key scope.names [] h;exact (congrArg (fun m:Sem (List (Str×Addr))=>m >>= fun cs=>pure cs) k2).trans rfl
theorem rM{env:Env}:∀{names:List (Str×NameKind)}{cs:List (Str×Addr)}{y:Str}{c:Addr},(cY env names cs).lookup y=some c->
  cs.lookup y=some c\/((y,NameKind.free)∈names/\(env.cells.lookup y).getD 0=c)
 |[],cs,y,c,e=>.inl e
 |(n,k)::r,cs,y,c,e=>by
  rw[cY] at e;rcases rM e with e|⟨h1,h2⟩
  .by_cases hk:k=.free
   .subst hk;rw[if_pos (by rfl),List.lookup_cons] at e;by_cases hy:(y== n)=true
    .rw[hy] at e;have:y=n:=by simpa using hy
     subst this;cases e;exact .inr ⟨List.mem_cons_self,rfl⟩
    .rw[Bool.not_eq_true] at hy;rw[hy] at e;exact .inl e
   .rw[if_neg (by simpa using hk)] at e;exact .inl e
  .exact .inr ⟨List.mem_cons_of_mem _ h1,h2⟩
theorem oQ{env:Env}:∀{names:List (Str×NameKind)}{cs:List (Str×Addr)}{y:Str},((y,NameKind.free)∈names\/∃c,cs.lookup y=some c)->∃c,(cY env names cs).lookup y=some c
 |[],cs,y,h=>by
  rcases h with h|h
  .cases h
  .exact h
 |(n,k)::r,cs,y,h=>by
  rw[cY];refine oQ ?_;rcases h with h|⟨c,h⟩
  .rcases List.mem_cons.mp h with h|h
   .cases h;refine .inr ⟨(env.cells.lookup n).getD 0,?_⟩;rw[if_pos (by rfl),List.lookup_cons];simp
   .exact .inl h
  .refine .inr ?_;by_cases hk:(k== NameKind.free)=true
   .rw[if_pos hk,List.lookup_cons];by_cases hy:(y== n)=true
    .rw[hy];exact⟨_,rfl⟩
    .rw[Bool.not_eq_true] at hy;rw[hy];exact⟨c,h⟩
   .rw[if_neg hk];exact⟨c,h⟩
noncomputable def bW(N:List Str)(x:List Str):List Str:=(N.map fun y=>if y∈x then ("" : Str) else y)++x
structure eY(N:List Str)(outer:Scope)(x:List Str)(sc:Scope):Prop where
 kind:sc.kind=.function
 Rn:outer.kind=.function
 vd:∀y∈sc.names,y.2≠.cell
 locs:∀y∈sc.names,y.2=.local->sc.names.lookup y.1=some .local
 sF:∀y∈x,sc.names.lookup y=some .local
 only:∀y k,sc.names.lookup y=some k->k=.local->y∈N->y∈x
 free:∀y∈sc.names,y.2=.free->outer.names.lookup y.1=some .cell\/outer.names.lookup y.1=some .free
 JP:sc.names.lookup ("" : Str)=none
noncomputable def aX(X:Cx)(scope:Scope)(C:Addr)(x:List Str)(s:Shared)(H:L2.Hp)(pins:List (Addr×Obj))(fp:List Addr):Cx:=
 {X with N:=bW X.N x,aI:=s,j4:=H,env:=compEnvC scope (cY X.env scope.names []) C X.env,outer:=X.stack,stack:=X.stack,ex:=fp,fn:=fun _=>false,pn:=X.pn++pins,xe:=fun _ _=>False}
theorem lookup_mem{l:List (Str×NameKind)}{y:Str}{k:NameKind}(h:l.lookup y=some k):(y,k)∈l:=PySem.mem_of_lookup h
theorem gR{env:Env}{y:Str}{k:NameKind}:∀{names:List (Str×NameKind)},(names.map fun (n,k)=>if (k== NameKind.free&&env.scope.kind== .function&&env.kindOf n== some .cell) then (n,NameKind.cell) else (n,k)).lookup y=some k->
  ∃k',names.lookup y=some k'/\(k=k'\/(k=.cell/\k'=.free))
 |[],h=>by simp at h
 |(n,j)::r,h=>by
  rw[List.map_cons,List.lookup_cons] at h;by_cases hc:(j== NameKind.free&&env.scope.kind== .function&&env.kindOf n== some .cell)=true
  .rw[if_pos hc] at h;by_cases hy:(y== n)=true
   .simp only[hy] at h;cases h;refine⟨j,by rw[List.lookup_cons,hy],.inr ⟨rfl,?_⟩⟩;simp only[Bool.and_eq_true,beq_iff_eq] at hc;exact hc.1.1
   .rw[Bool.not_eq_true] at hy;simp only[hy] at h;obtain⟨k',h1,h2⟩:=gR h;exact⟨k',by rw[List.lookup_cons,hy];exact h1,h2⟩
  .rw[if_neg hc] at h;by_cases hy:(y== n)=true
   .simp only[hy] at h;cases h;exact⟨_,by rw[List.lookup_cons,hy],.inl rfl⟩
   .rw[Bool.not_eq_true] at hy;simp only[hy] at h;obtain⟨k',h1,h2⟩:=gR h;exact⟨k',by rw[List.lookup_cons,hy];exact h1,h2⟩
section
variable {X:Cx}{E:XK}{pins:List (Addr×Obj)}{σ:L2.St}{H:L2.Hp}{s:Shared}{scope:Scope}{x:List Str}
theorem v9(I:Inv X pins σ H s)(cs:eY X.N X.env.scope x scope):∀y∈scope.names,y.2=.free->∃c,X.env.cells.lookup y.1=some c:=fun y hy hf=>by
 rcases cs.free y hy hf with h|h
 .exact I.ok.has y.1 (.inl h)
 .exact I.ok.has y.1 (.inr h)
theorem fe(I:Inv X pins σ H s)(cs:eY X.N X.env.scope x scope){y:Str}{c:Addr}(e:(cY X.env scope.names []).lookup y=some c):X.env.cells.lookup y=some c:=by
 rcases rM e with e|⟨h1,h2⟩
 .simp at e
 .obtain⟨c',hc⟩:=v9 I cs _ h1 rfl;dsimp only at hc;rw[hc] at h2⊢;cases h2;rfl
theorem zU{h':Heap}{t':Nat}(I:Inv X pins σ H s)(cs:eY X.N X.env.scope x scope){fp:List Addr}(hf:∀b∈fp,eO X pins H b)(hlt:∀b∈fp,b<s.heap.objs.size)
  (ns:h'.Ns s.heap.objs.size fun _=>none) (kp:∀b o,s.heap.get? b=some o->h'.get? b=some o):
  Inv (aX X scope s.heap.objs.size x s H pins fp) [] (σ++List.replicate x.length none) H {s with heap:=h',toks:=t'} where
 ok:={
  mod:=I.ok.mod
  kind:=cs.kind
  glob:=I.ok.glob
  blt:=I.ok.blt
  above:=Nat.le_refl _
  inj:=fun y z c h1 h2=>I.ok.inj y z c (fe I cs h1) (fe I cs h2)
  has:=fun y hy=>by
   have hy:(relabel scope X.env).names.lookup y=some .cell\/(relabel scope X.env).names.lookup y=some .free:=hy;refine oQ (.inl ?_);have fr:∀k,(k=.cell\/k=.free)->(relabel scope X.env).names.lookup y=some k->(y,NameKind.free)∈scope.names:=fun k hk e=>by
    obtain⟨k',e',h⟩:=gR (env:=X.env) e;have m:=lookup_mem e';rcases h with h|⟨_,h⟩
    .subst h;rcases hk with hk|hk
     .exact absurd hk (cs.vd _ m)
     .rw[<-hk];exact m
    .rw[<-h];exact m
   rcases hy with hy|hy
   .exact fr _ (.inl rfl) hy
   .exact fr _ (.inr rfl) hy
  qm:=fun y c h=>nomatch h
  hd:=I.ok.hd
  frames:=I.ok.frames
  rF:=.inl rfl
  wI:=fun b hb=>⟨Nat.ne_of_lt (hlt b hb),fun y c e=>(hf b hb).2.2.2.2.1 y c (fe I cs e)⟩
  bs:=I.bs
  kQ:=Nat.le_trans I.ok.kQ I.sz
  kX:=fun b o e z=>by
   rcases (hf b z).2.2.2.1 with w|w
   .exact I.ok.kX b o e w
   .exact absurd (Nat.lt_of_lt_of_le (Heap.lt_size e) (Nat.le_trans I.ok.kQ w)) (Nat.lt_irrefl _)
  mr:=fun b hb z=>by
   rcases List.mem_cons.mp (I.kB b z) with w|w
   .exact (hf b hb).2.1 w
   .exact (hf b hb).2.2.1 w
  fQ:=I.stack
  mR:=I.kM}
 os:=rfl
 bare:=I.bare
 base:=Un.kept kp
 loc:=by
  refine⟨_,ns,fun i y v e1 e2 e3=>?_⟩;have hl:i<σ.length:=by
   rcases Nat.lt_or_ge i σ.length with z|z
   .exact z
   .rw[List.getElem?_append_right z,List.getElem?_replicate] at e2;split at e2<;>cases e2
  rw[List.getElem?_append_left hl] at e2;have hN:i<X.N.length:=by rw[<-I.len];exact hl
  have e1:(bW X.N x)[i]?=some y:=e1;unfold bW at e1;rw[List.getElem?_append_left (by simpa using hN),List.getElem?_map,List.getElem?_eq_getElem hN] at e1;have e1:(if X.N[i]∈x then ("" : Str) else X.N[i])=y:=by simpa using e1
  have hv:∃k,(relabel scope X.env).names.lookup y=some k:=by
   rcases e3 with e3|e3|e3
   .exact⟨_,e3⟩
   .exact⟨_,e3⟩
   .exact⟨_,e3⟩
  obtain⟨k,hk⟩:=hv;obtain⟨k',hk',hkk⟩:=gR (env:=X.env) hk;by_cases hx:X.N[i]∈x
  .rw[if_pos hx] at e1;rw[<-e1,cs.JP] at hk';cases hk'
  .rw[if_neg hx] at e1;have yN:y∈X.N:=by rw[<-e1];exact List.getElem_mem _
   have hfree:k'=.free/\(k=.cell\/k=.free):=by
    have hne:k'≠.local:=fun z=>hx (by rw[e1];exact cs.only y k' hk' z yN);have hnc:k'≠.cell:=fun z=>cs.vd _ (lookup_mem hk') z;rcases e3 with e3|e3|e3
    .have e3:(relabel scope X.env).names.lookup y=some .local:=e3;rw[hk] at e3;cases e3;rcases hkk with z|⟨z,_⟩
     .exact absurd z.symm hne
     .cases z
    .have e3:(relabel scope X.env).names.lookup y=some .cell:=e3;rw[hk] at e3;cases e3;rcases hkk with z|⟨_,z⟩
     .exact absurd z.symm hnc
     .exact⟨z,.inl rfl⟩
    .have e3:(relabel scope X.env).names.lookup y=some .free:=e3;rw[hk] at e3;cases e3;rcases hkk with z|⟨z,_⟩
     .exact⟨z.symm,.inr rfl⟩
     .cases z
   have m:=lookup_mem hk';rw[hfree.1] at m;have ui:iX X.env.scope y:=by
    rcases cs.free _ m rfl with z|z
    .exact .inr (.inl z)
    .exact .inr (.inr z)
   obtain⟨mm,hns,hl⟩:=I.loc;obtain⟨u,ru,lk⟩:=hl i y v (by rw[List.getElem?_eq_getElem hN,e1]) e2 ui;refine⟨u,ru,.inr ⟨?_,?_⟩⟩
   .rcases hfree.2 with z|z
    .exact .inl (by rw[<-z];exact hk)
    .exact .inr (by rw[<-z];exact hk)
   .rcases lk with ⟨z,_⟩|⟨_,c,ec,hc⟩
    .exfalso;have z:X.env.scope.names.lookup y=some .local:=z;rcases cs.free _ m rfl with w|w
     .have w:X.env.scope.names.lookup y=some .cell:=w;rw[z] at w;cases w
     .have w:X.env.scope.names.lookup y=some .free:=w;rw[z] at w;cases w
    .obtain⟨c',ec'⟩:=oQ (env:=X.env) (names:=scope.names) (cs:=[]) (y:=y) (.inl m);have:=fe I cs ec';rw[ec] at this;cases this;refine⟨c,ec',?_⟩;obtain⟨o,ho,hd⟩:=hc;exact⟨o,kp _ _ ho,hd⟩
 cell:=fun y c e=>by
  obtain⟨v,o,ho,hd⟩:=I.cell y c (fe I cs e);exact⟨v,o,kp _ _ ho,hd⟩
 free:=I.ao.fresh (Nat.le_refl _)
 dJ:=fun y c e=>I.dJ y c (fe I cs e)
 pin:=fun p hp=>by
  have hp:p∈(X.pn++pins)++[]:=hp;rw[List.append_nil] at hp;obtain⟨h1,h2,h3,h4,h5⟩:=I.pin p hp;refine⟨kp _ _ h1,h2,Nat.ne_of_lt (Heap.lt_size h1),fun z=>?_,h5⟩;rcases List.mem_cons.mp (I.kB p.1 z) with w|w
  .exact h3 w
  .exact h4 w
 ao:=I.ao.kept kp
 len:=by show (σ++List.replicate x.length none).length=(bW X.N x).length;unfold bW;simp[I.len]
end
noncomputable abbrev tI(K:Zk)(d:Tw.Env->Tw.Hp->Tw.R Tw.Src):TI:=tG K (fun K ι n H src J=>fF K J src ι n H) d
section
variable {X:Cx}{E:XK}{a b:Expr}{pos:Pos}{da db:Tw.Env->Tw.Hp->Tw.R Tw.W}
theorem PI.imp{tg iter:Expr}{w w':TI}(p:PI X tg iter w)(f:∀σ H R,w' σ H R->w σ H R):PI X tg iter w':=fun pins s σ H R I q=>p pins s σ H R I (f σ H R q)
theorem K4{tg:Expr}(ha:PE X a (tE (zx X E) da)):PI X tg a (tI (zx X E) fun ρ h=>(da ρ h).bind fun x h=>Tw.R.of (Tw.src h x) h):=by
 refine PI.imp (PI.or (F7 ha) (KC ha)) fun σ H R Z=>Z.g fun ρ Z=>Z.g fun h Z=>Z.g fun ι Z=>Z.g fun at' p=>?_;dsimp only at p;cases e0:da ρ h with
 |bad=>rw[e0] at p;exact p.elim
 |aD=>rw[e0] at p;refine .inr ⟨ρ,h,ι,at',?_⟩;rw[e0];exact p
 |ok w h1=>
  rw[e0] at p;simp only[Tw.R.ak] at p;cases w with
  |tup ws=>
   refine .inr ⟨ρ,h,ι,at',?_⟩;rw[e0];intro ι1 H1 x e1 r1 rx;cases rx with
   | @tup ad xs _ ea ra=>exact⟨ad,rfl,⟨xs,TupAt.sq ea⟩,p ι1 H1 _ e1 r1 (.inl ⟨ad,xs,ws,rfl,rfl,ea,ra⟩)⟩
  |ref i=>
   cases e2:Tw.aZ h1 i with
   |none=>
    have:Tw.src h1 (.ref i)=none:=by
     unfold Tw.aZ at e2;simp only[Tw.src];split at e2
     .cases e2
     .cases e2
     .rfl
    rw[this] at p;exact p.elim
   |some ws0=>
    have:Tw.src h1 (.ref i)=some (.at i ws0.length):=by
     unfold Tw.aZ at e2;simp only[Tw.src];split at e2
     .cases e2;rfl
     .cases e2;rfl
     .cases e2
    rw[this] at p;refine .inl ⟨ρ,h,ι,at',?_⟩;rw[e0];intro ι1 H1 x e1 r1 rx;cases rx with
    |ref hi=>
     obtain⟨xs0,sq0,_⟩:=r1.at e2;exact⟨_,rfl,⟨xs0,sq0⟩,p ι1 H1 _ e1 r1 (.inr (.inr (.inl ⟨i,_,_,rfl,rfl,rfl,hi⟩)))⟩
  |_=>exact p.elim
theorem Mf{tg:Expr}{p1 pos2:Pos}(hgl:Gl X "range")(hm:X.mg "range" = none)(ha:PE X a (tE (zx X E) da))(hst:starEach [a] X.env=[(false,eval a X.env)]):
  PI X tg (.Call (.Name "range" p1) [a] [] pos2) (tI (zx X E) fun ρ h=>(da ρ h).bind fun x h=>match x with
   |.int j=>if Tw.fA j then .ok (.fix (Tw.upTo 0 j.toNat)) h else .bad
   |_=>.bad):=by
 refine PI.imp (Ao hgl hm (bX ha cK hst) hst) fun σ H R Z=>Z.g fun ρ Z=>Z.g fun h Z=>Z.g fun ι Z=>Z.g fun at' p=>?_;refine⟨ρ,h,ι,at',(step at' p).mono fun x H1 Z=>Z.g fun w Z=>Z.g fun h1 Z=>Z.g fun ι1 Z=>Z.g fun at1 Z=>Z.g fun e1 Z=>Z.g fun r1 p1=>?_⟩;cases r1 with
 |int j=>
  dsimp only at p1;by_cases c:Tw.fA j=true
  .rw[if_pos c] at p1;simp only[Tw.fA,Bool.and_eq_true,decide_eq_true_eq] at c;exact⟨j,rfl,c.1,c.2,ai.self (a:=Tw.Src.fix (Tw.upTo 0 j.toNat)) p1 at1.hr (.inr (.inl ⟨0,j.toNat,rfl,rfl⟩))⟩
  .rw[if_neg c] at p1;exact p1.elim
 |_=>exact p1.elim
end
theorem si{k:Tw.W->List Tw.W->Tw.Hp->Tw.R (List Tw.W)}(hk:∀w acc h acc' h',k w acc h=.ok acc' h'->acc.length<=acc'.length):
  ∀(ws acc:List Tw.W)(h:Tw.Hp)(acc':List Tw.W)(h':Tw.Hp),Tw.gf k ws acc h=.ok acc' h'->acc.length<=acc'.length
 |[],acc,h,acc',h',e=>by cases e;exact Nat.le_refl _
 |w::ws,acc,h,acc',h',e=>by
  rw[Tw.gf] at e;cases e1:k w acc h with
  |bad=>rw[e1] at e;cases e
  |aD=>rw[e1] at e;cases e
  |ok acc1 h1=>
   rw[e1] at e;exact Nat.le_trans (hk _ _ _ _ _ e1) (si hk ws acc1 h1 acc' h' e)
theorem Ak{a:Nat}{k:Tw.W->List Tw.W->Tw.Hp->Tw.R (List Tw.W)}(hk:∀w acc h acc' h',k w acc h=.ok acc' h'->acc.length<=acc'.length):
  ∀(m i:Nat)(acc:List Tw.W)(h:Tw.Hp)(acc':List Tw.W)(h':Tw.Hp),Tw.cz a k m i acc h=.ok acc' h'->acc.length<=acc'.length:=by
 intro m
 induction m with
 |zero=>
  intro i acc h acc' h' e;unfold Tw.cz at e;split at e
  .cases e
  .split at e
   .cases e;exact Nat.le_refl _
   .cases e
 |succ m ih=>
  intro i acc h acc' h' e;unfold Tw.cz at e;split at e
  .cases e
  .split at e
   .cases e;exact Nat.le_refl _
   .next w _=>
    dsimp only at e;cases e1:k w acc h with
    |bad=>rw[e1] at e;cases e
    |aD=>rw[e1] at e;cases e
    |ok acc1 h1=>
     rw[e1] at e;exact Nat.le_trans (hk _ _ _ _ _ e1) (ih (i+1) acc1 h1 acc' h' e)
theorem zG{a:Nat}{k:Tw.W->List Tw.W->Tw.Hp->Tw.R (List Tw.W)}(hk:∀w acc h acc' h',k w acc h=.ok acc' h'->acc.length<=acc'.length):
  ∀(m i:Nat)(acc:List Tw.W)(h:Tw.Hp)(acc':List Tw.W)(h':Tw.Hp),Tw.cy a k m i acc h=.ok acc' h'->acc.length<=acc'.length:=by
 intro m
 induction m with
 |zero=>
  intro i acc h acc' h' e;unfold Tw.cy at e;split at e
  .cases e
  .split at e
   .cases e;exact Nat.le_refl _
   .cases e
 |succ m ih=>
  intro i acc h acc' h' e;unfold Tw.cy at e;split at e
  .cases e
  .split at e
   .cases e;exact Nat.le_refl _
   .next w _=>
    dsimp only at e;cases e1:k (.tup [.int i,w]) acc h with
    |bad=>rw[e1] at e;cases e
    |aD=>rw[e1] at e;cases e
    |ok acc1 h1=>
     rw[e1] at e;exact Nat.le_trans (hk _ _ _ _ _ e1) (ih (i+1) acc1 h1 acc' h' e)
theorem I8{src:Tw.Src}{k:Tw.W->List Tw.W->Tw.Hp->Tw.R (List Tw.W)}(hk:∀w acc h acc' h',k w acc h=.ok acc' h'->acc.length<=acc'.length){i m:Nat}{acc acc':List Tw.W}{h h':Tw.Hp}
  (e:wk src k i m acc h=.ok acc' h'):acc.length<=acc'.length:=by
 cases src with
 |fix ws=>exact si hk _ _ _ _ _ e
 | «at» a n=>exact Ak hk _ _ _ _ _ _ e
 |rv a n=>cases e
 |ea a n=>exact zG hk _ _ _ _ _ _ e
noncomputable def b9(un:Tw.W->Option (List Tw.W))(c:Tw.Env->Tw.Hp->Tw.R (Option Tw.W))(elt:Tw.Env->Tw.Hp->Tw.R Tw.W)(σ:Tw.Env)(x:Tw.W)(acc:List Tw.W)(h:Tw.Hp):Tw.R (List Tw.W):=match un x with
 |none=>.bad
 |some ws=>(c (σ++ws.map some) h).dN.bind fun t h=>match Tw.qu h t with
  |none=>.bad
  |some true=>(elt (σ++ws.map some) h).dN.bind fun y h=>.ok (acc++[y]) h
  |some false=>.ok acc h
noncomputable def zP(w:Tw.W):Option (List Tw.W):=some [w]
noncomputable def lX:Tw.W->Option (List Tw.W)
 |.tup [u,v]=>some [u,v]
 |_=>none
theorem sC(elt:Tw.Env->Tw.Hp->Tw.R Tw.W)(σ:Tw.Env):Tw.fT elt σ=b9 lX (fun _ h=>.ok none h) elt σ:=by
 funext x acc h;unfold Tw.fT b9
 match x with
 |.tup [u,v]=>rfl
 |.tup []=>rfl
 |.tup [_]=>rfl
 |.tup (_::_::_::_)=>rfl
 |.ah=>rfl
 |.bl _=>rfl
 |.int _=>rfl
 |.str _=>rfl
 |.ref _=>rfl
 |.lst _=>rfl
theorem AK{un:Tw.W->Option (List Tw.W)}{dc:Tw.Env->Tw.Hp->Tw.R (Option Tw.W)}{de:Tw.Env->Tw.Hp->Tw.R Tw.W}{ρ:Tw.Env}(w:Tw.W)(acc:List Tw.W)(h:Tw.Hp)(acc':List Tw.W)(h':Tw.Hp)(e:b9 un dc de ρ w acc h=.ok acc' h'):acc.length<=acc'.length:=by
 unfold b9 at e;cases e0:un w with
 |none=>rw[e0] at e;cases e
 |some ws=>
  rw[e0] at e;dsimp only at e;cases e1:dc (ρ++ws.map some) h with
  |bad=>rw[e1] at e;cases e
  |aD=>rw[e1] at e;cases e
  |ok t h1=>
   rw[e1] at e;simp only[Tw.R.kn,Tw.R.ak] at e;split at e
   .cases e
   .cases e2:de (ρ++ws.map some) h1 with
    |bad=>rw[e2] at e;cases e
    |aD=>rw[e2] at e;cases e
    |ok y h2=>rw[e2] at e;cases e;simp
   .cases e;exact Nat.le_refl _
theorem rB{k:Tw.W->List Tw.W->Tw.Hp->Tw.R (List Tw.W)}(hk:∀w acc h a h',k w acc h≠.aD a h'):∀(ws acc:List Tw.W)(h:Tw.Hp)(a:Nat)(h':Tw.Hp),Tw.gf k ws acc h≠.aD a h'
 |[],acc,h,a,h',e=>by cases e
 |w::ws,acc,h,a,h',e=>by
  rw[Tw.gf] at e;cases e1:k w acc h with
  |bad=>rw[e1] at e;cases e
  |aD b g=>exact hk _ _ _ _ _ e1
  |ok acc1 h1=>rw[e1] at e;exact rB hk ws acc1 h1 a h' e
theorem Am{a:Nat}{k:Tw.W->List Tw.W->Tw.Hp->Tw.R (List Tw.W)}(hk:∀w acc h a h',k w acc h≠.aD a h'):∀(m i:Nat)(acc:List Tw.W)(h:Tw.Hp)(b:Nat)(h':Tw.Hp),Tw.cz a k m i acc h≠.aD b h':=by
 intro m
 induction m with
 |zero=>
  intro i acc h b h' e;unfold Tw.cz at e;split at e
  .cases e
  .split at e<;>cases e
 |succ m ih=>
  intro i acc h b h' e;unfold Tw.cz at e;split at e
  .cases e
  .split at e
   .cases e
   .next w _=>
    dsimp only at e;cases e1:k w acc h with
    |bad=>rw[e1] at e;cases e
    |aD c g=>exact hk _ _ _ _ _ e1
    |ok acc1 h1=>rw[e1] at e;exact ih (i+1) acc1 h1 b h' e
theorem AI{a:Nat}{k:Tw.W->List Tw.W->Tw.Hp->Tw.R (List Tw.W)}(hk:∀w acc h a h',k w acc h≠.aD a h'):∀(m i:Nat)(acc:List Tw.W)(h:Tw.Hp)(b:Nat)(h':Tw.Hp),Tw.cy a k m i acc h≠.aD b h':=by
 intro m
 induction m with
 |zero=>
  intro i acc h b h' e;unfold Tw.cy at e;split at e
  .cases e
  .split at e<;>cases e
 |succ m ih=>
  intro i acc h b h' e;unfold Tw.cy at e;split at e
  .cases e
  .split at e
   .cases e
   .next w _=>
    dsimp only at e;cases e1:k (.tup [.int i,w]) acc h with
    |bad=>rw[e1] at e;cases e
    |aD c g=>exact hk _ _ _ _ _ e1
    |ok acc1 h1=>rw[e1] at e;exact ih (i+1) acc1 h1 b h' e
theorem mV{un:Tw.W->Option (List Tw.W)}{dc:Tw.Env->Tw.Hp->Tw.R (Option Tw.W)}{de:Tw.Env->Tw.Hp->Tw.R Tw.W}{ρ:Tw.Env}(w:Tw.W)(acc:List Tw.W)(h:Tw.Hp)(a:Nat)(h':Tw.Hp):b9 un dc de ρ w acc h≠.aD a h':=by
 intro e;unfold b9 at e;split at e
 .cases e
 .next ws _=>
  cases e1:dc (ρ++ws.map some) h with
  |bad=>rw[e1] at e;cases e
  |aD=>rw[e1] at e;cases e
  |ok t h1=>
   rw[e1] at e;simp only[Tw.R.kn,Tw.R.ak] at e;split at e
   .cases e
   .cases e2:de (ρ++ws.map some) h1<;>rw[e2] at e<;>cases e
   .cases e
theorem Io{src:Tw.Src}{un:Tw.W->Option (List Tw.W)}{dc:Tw.Env->Tw.Hp->Tw.R (Option Tw.W)}{de:Tw.Env->Tw.Hp->Tw.R Tw.W}{ρ:Tw.Env}{i m:Nat}{acc:List Tw.W}{h h':Tw.Hp}{a:Nat}:wk src (b9 un dc de ρ) i m acc h≠.aD a h':=by
 cases src with
 |fix ws=>exact rB mV _ _ _ _ _
 | «at» b n=>exact Am mV _ _ _ _ _ _
 |rv b n=>exact fun e=>nomatch e
 |ea b n=>exact AI mV _ _ _ _ _ _
theorem At.Ld{K:Zk}{ι:Nat->Addr}{h:Tw.Hp}{H:L2.Hp}{ρ:Tw.Env}{σ:L2.St}{ws:List Tw.W}{vs:List V}(a:At K ι h H ρ σ)(r:aL K.K ι h.length H ws vs):At K ι h H (ρ++ws.map some) (σ++vs.map some) where
 hr:=a.hr
 len:=by simp[a.len,r.length]
 st:=fun i u e=>by
  rcases Nat.lt_or_ge i ρ.length with hi|hi
  .rw[List.getElem?_append_left hi] at e;rw[List.getElem?_append_left (by rw[a.len];exact hi)];exact a.st i u e
  .rw[List.getElem?_append_right hi,List.getElem?_map] at e;rw[List.getElem?_append_right (by rw[a.len];exact hi),a.len,List.getElem?_map];cases q:ws[i-ρ.length]? with
   |none=>rw[q] at e;cases e
   |some w=>
    rw[q] at e;cases e;obtain⟨v,hv,rv⟩:=r.get q;exact⟨v,by rw[hv];rfl,rv⟩
theorem HR.ex{K:PySem.W.Frag}{mg:Str->Option Value}{E E':XK}{ι:Nat->Addr}{h:Tw.Hp}{H:L2.Hp}(r:HR ⟨K,mg,E⟩ ι h H):HR ⟨K,mg,E'⟩ ι h H:=⟨fun i o e=>by
 have q:=r.obj i o e;cases o<;>exact q,r.inj⟩
theorem At.ex{K:PySem.W.Frag}{mg:Str->Option Value}{E E':XK}{ι:Nat->Addr}{h:Tw.Hp}{H:L2.Hp}{ρ:Tw.Env}{σ:L2.St}(a:At ⟨K,mg,E⟩ ι h H ρ σ):At ⟨K,mg,E'⟩ ι h H ρ σ:=⟨a.hr.ex,a.len,a.st⟩
def kH(K:Zk)(n k:Nat)(g:TG)(un:Tw.W->Option (List Tw.W)):Prop:=∀(ι:Nat->Addr)(h:Tw.Hp)(H:L2.Hp)(σ os:L2.St)(w:Tw.W)(v:V)(ws:List Tw.W)(Q:L2.St->L2.Hp->Prop),
 σ.length=n->os.length=k->RW K.K ι h.length H w v->un w=some ws->(∀vs,aL K.K ι h.length H ws vs->vs.length=k->Q (σ++vs.map some) H)->g v (σ++os) H Q
theorem uC(K:Zk)(n:Nat):kH K n 1 (fD n) zP:=fun ι h H σ os w v ws Q h1 h2 r e q=>by
 cases e
 match os,h2 with
 |[o],_=>
  show Q _ H;rw[<-h1,List.set_append_right _ _ (Nat.le_refl _)];simpa using q [v] (.cons r .nil) rfl
theorem vy(K:Zk)(n:Nat):kH K n 2 (yR K.K 2 (kZ (fD n) (kZ (fD (n+1)) yf))) lX:=fun ι h H σ os w v ws Q h1 h2 r e q=>by
 cases r with
 | @tup ad xs us ea ra=>
  cases ra with
  |nil=>cases e
  |cons r1 ra=>
   cases ra with
   |nil=>cases e
   |cons r2 ra=>
    cases ra with
    |nil=>
     cases e
     match os,h2 with
     |[o1,o2],_=>
      refine⟨ad,_,rfl,ea.sq,rfl,_,_,rfl,_,_,rfl,rfl,?_⟩;rw[<-h1,List.set_append_right _ _ (Nat.le_refl _),List.set_append_right _ _ (Nat.le_succ _)];simpa using q _ (.cons r1 (.cons r2 .nil)) rfl
    |cons r3 ra=>cases e
 |_=>cases e
section
variable {X:Cx}{E:XK}{pins:List (Addr×Obj)}{σ σ':L2.St}{H Hc:L2.Hp}{s s1:Shared}{scope:Scope}{x:List Str}{fp:List Addr}
theorem sO{h':Heap}(I:Inv X pins σ H s)(hf:∀b∈fp,eO X pins H b)(J:Inv (aX X scope s.heap.objs.size x s H pins fp) [] σ' Hc s1)(hs:Heap.SameBut s.heap.objs.size s1.heap h'):Inv X pins σ Hc {s1 with heap:=h'}:=by
 have ne:∀b o,s.heap.get? b=some o->b≠s.heap.objs.size:=fun b o e=>Nat.ne_of_lt (Heap.lt_size e);have to':∀b o,b≠s.heap.objs.size->s1.heap.get? b=some o->h'.get? b=some o:=fun b o n e=>hs.extBut b o n e;have B:=J.base;have hC:Hc s.heap.objs.size=none:=J.free;have u:Un (bK X.stack) fp H Hc s.heap h':=by
  refine⟨fun b o e n h1 h2=>to' b o (ne b o e) (B.keep b o e n h1 h2),fun b o e n h1 h2=>?_,B.free,fun b o e h2=>?_,B.fq,B.eP,B.fh⟩
  .obtain⟨sl,q⟩:=B.slot b o e n h1 h2;exact⟨sl,to' b _ (ne b o e) q⟩
  .obtain⟨o',q⟩:=B.there b o e h2;exact⟨o',to' b o' (ne b o e) q⟩
 have ao:cq X.prog X.w Hc h':=fun b v e=>by
  refine (J.ao b v e).eV (fun c w hc q=>to' c w ?_ q) (fun _ q=>q) fun _ _ q=>q;rcases hc with z|z
  .rw[z];intro z';rw[z',hC] at e;cases e
  .intro z';rw[z',hC] at z;cases z
 have os:s1.os=s.os:=J.os;obtain⟨hh,g,d,t,os'⟩:=s1;cases os;have fin:=L2.Inv.call (s:=s) (h':=h') (g':=g) (d':=d) (t':=t) (ch:=fp) I u ao J.bare fun b hb=>⟨(hf b hb).2.2.2.1,(hf b hb).2.1,(hf b hb).2.2.2.2.1,(hf b hb).2.2.2.2.2⟩;exact fin
end
def p0(X:Cx)(scope:Scope)(x:List Str)(ifs:List Expr)(dc:Tw.Env->Tw.Hp->Tw.R (Option Tw.W)):Prop:=
 (ifs=[]/\∀ρ h,dc ρ h=.ok none h)\/∃c d,ifs=[c]/\(∀ρ h,dc ρ h=(d ρ h).bind fun w h=>.ok (some w) h)/\∀C s H pins fp,PT (aX X scope C x s H pins fp) c (tT (zx X E0) d)
section
variable {X:Cx}{E:XK}{elt iter tg:Expr}{x:List Str}{pos:Pos}{g:TG}{un:Tw.W->Option (List Tw.W)}{ifs:List Expr}{scope:Scope}{dit:Tw.Env->Tw.Hp->Tw.R Tw.Src}{dc:Tw.Env->Tw.Hp->Tw.R (Option Tw.W)}{de:Tw.Env->Tw.Hp->Tw.R Tw.W}
theorem Ek{pins:List (Addr×Obj)}{s3:Shared}{H3 Hc:L2.Hp}{fp:List Addr}{σ:L2.St}(I:Inv X pins σ H3 s3)(cs:eY X.N X.env.scope x scope)(f3:∀b∈fp,eO X pins H3 b)(lt3:∀b∈fp,b<s3.heap.objs.size)(fz:∀b∈fp,Hc b=none):
  ∀b∈fp,eO (aX X scope s3.heap.objs.size x s3 H3 pins fp) [] Hc b:=fun b hb=>by
 obtain⟨_,f1,f2,_,f4,f5⟩:=f3 b hb;refine⟨fz b hb,Nat.ne_of_lt (lt3 b hb),fun z=>?_,.inl hb,fun y c e=>f4 y c (fe I cs e),fun p hp=>?_⟩
 .rcases List.mem_cons.mp (I.kB b z) with w|w
  .exact f1 w
  .exact f2 w
 .have hp:p∈(X.pn++pins)++[]:=hp;rw[List.append_nil] at hp;exact f5 p hp
theorem tJ{K K':Zk}{α β γ δ:Type}{R:Rl α β}{R':Rl γ δ}{ι ι0:Nat->Addr}{h h0:Tw.Hp}{H H0:L2.Hp}{m:Tw.R α}{k:α->Tw.Hp->Tw.R γ}{Q:δ->L2.Hp->Prop}(p:ai K R' ι0 h0 H0 (m.dN.bind k) Q):
  ai K' R ι h H m (fun b H'=>∃a h' ι',m=.ok a h'/\Ext ι h H ι' h' H'/\HR K' ι' h' H'/\R K'.K ι' h'.length H' a b):=by
 cases m with
 |ok w h1=>exact fun ι' H' b e r q=>⟨w,h1,ι',rfl,e,r,q⟩
 |aD=>exact p.elim
 |bad=>exact p
theorem vi{K:Zk}{α β γ δ:Type}{R':Rl γ δ}{ι0:Nat->Addr}{h0:Tw.Hp}{H0:L2.Hp}{m:Tw.R α}{f:α->Tw.Hp->Tw.R β}{g:β->Tw.Hp->Tw.R γ}{Q:δ->L2.Hp->Prop}(p:ai K R' ι0 h0 H0 ((m.bind f).bind g) Q):ai K R' ι0 h0 H0 (m.bind fun a h=>(f a h).bind g) Q:=by cases m<;>exact p
theorem yH{prog:Program}{w:World}{A:Around}{R:Result->Shared->Prop}{s:Shared}{elt target iter:Expr}{ifs:List Expr}{scope:Scope}{pos:Pos}{it acc:Value}{env:Env}(I:Nat->Shared->Prop)
  (turn:∀n s,I n s->wpAny (model prog w) A (pyNext it) (fun r s1=>match r with
   |none=>R (.ok .next) s1
   |some v=>wpAny (model prog w) A (letOwnedTupleGo target it v) (fun _ sg=>wpAny (model prog w) A (assign target env v) (fun _ s2=>
     wpAny (model prog w) A (forIn ifs true fun c r=>if r=true then do let ok <-isTrue c env (eval c env);pure (ForInStep.yield ok) else pure (ForInStep.yield r)) (fun ok s3=>
      if ok=true then wpAny (model prog w) A (eval elt env) (fun x s4=>
       wpAny (model prog w) A (call (.builtin "list.append") [acc,x]) (fun _ s5=>∃m,m<n/\I m s5) (fun _ _=>False) s4) (fun _ _=>False) s3
      else ∃m,m<n/\I m s3) (fun _ _=>False) s2) (fun _ _=>False) sg) (fun _ _=>False) s1) (fun _ _=>False) s)
  (n:Nat) (h:I n s):codeAny (model prog w) A (.compLoop (.ListComp elt [⟨target,iter,ifs,0⟩] scope pos) 0 it acc env) R s:=by
 have no:∀{α:Type}{t:Sem α}{Q1:α->Shared->Prop}{E1:Value->Shared->Prop}{s0:Shared},wpAny (model prog w) A t Q1 (fun _ _=>False) s0->wpAny (model prog w) A t Q1 E1 s0:=fun h=>wpAny_mono h (fun _ _ q=>q) fun _ _ f=>f.elim;refine codeAny_loop rfl I (fun n s hI=>?_) n h;show wpAny _ A ((compTurn (.ListComp elt [⟨target,iter,ifs,0⟩] scope pos) 0 it acc env).onRaise (fun x=>do noteFrame x env;theTreesLotGoes x)) _ _ s;refine wpAny_noted ?_;rw[compTurn_list];refine wpAny_bind (wpAny_standAt (wpAny_bind (aC (no (turn n s hI)) fun r s1 h1=>?_)));cases r with
 |none=>exact wpAny_pure h1
 |some v=>
  refine wpAny_bind (aC (no h1) fun _ sg hg=>wpAny_bind (aC (no hg) fun _ s2 h2=>wpAny_bind (aC (no h2) fun ok s3 h3=>?_)));cases ok with
  |false=>exact wpAny_pure ⟨rfl,h3⟩
  |true=>exact wpAny_bind (wpAny_bind (aC (no h3) fun x s4 h4=>wpAny_bind (aC (no h4) fun _ s5 h5=>wpAny_pure (wpAny_pure ⟨rfl,h5⟩))))
theorem Keeps.trans{ι ι1 ι2:Nat->Addr}{n n1 n2:Nat}{H H1 H2:L2.Hp}(a:Keeps ι n H ι1 n1 H1)(b:Keeps ι1 n1 H1 ι2 n2 H2):Keeps ι n H ι2 n2 H2:=
 ⟨Nat.le_trans a.le b.le,fun i hi=>(b.same i (Nat.lt_of_lt_of_le hi a.le)).trans (a.same i hi),fun c xs e=>b.tup c xs (a.tup c xs e)⟩
theorem yc{pins:List (Addr×Obj)}{s3:Shared}{H2 H3:L2.Hp}{fp:List Addr}{σ:L2.St}{ρ:Tw.Env}{ι1:Nat->Addr}{h1:Tw.Hp}{D it:Addr}{tn:Nat->Heap->Prop}{J:It}{src:Tw.Src}{Q:VK}{h4:Heap}{t4:Nat}
  (hc:X.calm=true) (cs:eY X.N X.env.scope x scope) (hpg:∀C s H pins fp,PG (aX X scope C x s H pins fp) tg g) (hbd:kH (zx X E) X.N.length x.length g un) (hel:∀C s H pins fp,PE (aX X scope C x s H pins fp) elt (tE (zx X E0) de)) (hts:p0 X scope x ifs dc)
  (I3:Inv X pins σ H3 s3) (hD:H3 D=some (.lst [])) (fresh:H2 D=none) (x3:Ext ι1 h1 H2 ι1 h1 H3) (at3:At (zx X E) ι1 h1 H3 ρ σ) (al3:fL ι1 h1 D) (fd3:fF X.K J src ι1 h1.length H3)
  (p1:ai (zx X E) RE ι1 h1 H2 ((wk src (b9 un dc de ρ) 0 (jC src) [] h1).bind Tw.dq) Q) (T:Turn X.prog X.w X.K tg J fp it tn) (st3:tn 0 s3.heap) (f3:∀b∈fp,eO X pins H3 b) (lt3:∀b∈fp,b<s3.heap.objs.size)
  (ns:h4.Ns s3.heap.objs.size fun _=>none) (kp:∀b o,s3.heap.get? b=some o->h4.get? b=some o)
  {RR:Result->Shared->Prop} (hR:∀s1 Hc σ',Inv (aX X scope s3.heap.objs.size x s3 H3 pins fp) [] σ' Hc s1->Q (.ref D) Hc->RR (.ok .next) s1):
  codeAny (model X.prog X.w) X.A (.compStart (.ListComp elt [⟨tg,iter,ifs,0⟩] scope pos) 0 (.ref it) (.ref D) (compEnvC scope (cY X.env scope.names []) s3.heap.objs.size X.env))
   RR {s3 with heap:=h4,toks:=t4}:=by
 have I4:Inv (aX X scope s3.heap.objs.size x s3 H3 pins fp) [] (σ++List.replicate x.length none) H3 {s3 with heap:=h4,toks:=t4}:=zU I3 cs f3 lt3 ns kp;have st4:tn 0 h4:=T.keep 0 _ _ st3 fun b _ o e=>kp b o e;have loop:codeAny (model X.prog X.w) X.A (.compLoop (.ListComp elt [⟨tg,iter,ifs,0⟩] scope pos) 0 (.ref it) (.ref D) (compEnvC scope (cY X.env scope.names []) s3.heap.objs.size X.env))
   RR {s3 with heap:=h4,toks:=t4}:=by
  refine yH (fun n s'=>∃i acc ys hh ι' Hc o,Inv (aX X scope s3.heap.objs.size x s3 H3 pins fp) [] (σ++o) Hc s'/\o.length=x.length/\tn i s'.heap/\(∀b∈fp,Hc b=none)/\Hc D=some (.lst ys)/\fL ι' hh D/\
   At (zx X E) ι' hh Hc ρ σ/\Ext ι1 h1 H2 ι' hh Hc/\aL X.K ι' hh.length Hc acc ys/\fF X.K J src ι' hh.length Hc/\cnt src i n/\
   ai (zx X E) RE ι1 h1 H2 ((wk src (b9 un dc de ρ) i n acc hh).bind Tw.dq) Q) ?_ (jC src)
   ⟨0,[],[],h1,ι1,H3,_,I4,by simp,st4,fun b hb=>(f3 b hb).1,hD,al3,at3,x3,.nil,fd3,rE src,p1⟩
  rintro n s' ⟨i,acc,ys,hh,ι',Hc0,o,J1,lo,tn1,fz,hDc0,al0,at50,ex0,rr0,fd0,hm,pp⟩
  have fpo:=Ek (Hc:=Hc0) I3 cs f3 lt3 fz;rcases FO at50.hr fd0 (b9 un dc de ρ) i n acc hm with bad|⟨stop,e⟩|⟨w,m,em,go,hy,hm',e⟩
  .rw[bad] at pp;exact pp.elim
  . -- the end
   refine aC (T.done (aX X scope s3.heap.objs.size x s3 H3 pins fp) rfl rfl rfl hc i [] s' _ Hc0 _ J1 fpo tn1 stop) fun r s1 Z=>Z.g fun er J2=>?_;subst er;rw[e] at pp;refine hR s1 Hc0 _ J2 ?_;have pp:ai (zx X E) RE ι1 h1 H2 (if acc.length<=Tw.SZ then Tw.new (.lst acc) hh else .bad) Q:=pp;by_cases c:acc.length<=Tw.SZ
   .rw[if_pos c] at pp;have hr':=at50.hr.adopt (u:=.lst acc) al0 hDc0 rfl fun ι'' n'' k=>⟨ys,hDc0,rr0.keep k⟩;have z:RW X.K (eT ι' hh.length D) (hh++[Tw.O.lst acc]).length Hc0 (.ref hh.length) (.ref (eT ι' hh.length D hh.length)):=.ref (by simp);rw[cE] at z;exact pp _ _ _ (ex0.adopt fresh) hr' z
   .rw[if_neg c] at pp;exact pp.elim
  . -- a turn
   subst em;refine aC (T.item (aX X scope s3.heap.objs.size x s3 H3 pins fp) rfl rfl rfl hc i [] s' _ Hc0 _ J1 fpo tn1 go) fun r s1 Z=>Z.g fun u Z=>Z.g fun er hl=>?_;subst er;refine aC hl fun _ s1 Z=>Z.g fun v Z=>Z.g fun Hc Z=>Z.g fun J2 Z=>Z.g fun rv Z=>Z.g fun yl Z=>Z.g fun tn2 fz2=>?_;obtain⟨ry,xy,rw'⟩:=hy v Hc yl;have ky:=xy.keeps at50.hr;have hDc:Hc D=some (.lst ys):=xy.fr D _ hDc0 al0;have al:fL ι' hh D:=al0;have at5:At (zx X E) ι' hh Hc ρ σ:=at50.later xy ry;have ex:=ex0.trans xy;have rr:=rr0.keep ky;have fd:=fd0.later ky;have fpo:=Ek (Hc:=Hc) I3 cs f3 lt3 fz2;have J3:=J2.pinned fpo (T.obj _ _ tn2);rw[e] at pp;have pp:=vi pp;have pp':=pp;obtain⟨ws,eu⟩:∃ws,un w=some ws:=by
    cases eu:un w with
    |none=>rw[show b9 un dc de ρ w acc hh=.bad by unfold b9;rw[eu]] at pp';exact pp'.elim
    |some ws=>exact⟨ws,rfl⟩
   have q0:b9 un dc de ρ w acc hh=((dc (ρ++ws.map some) hh).dN.bind fun t h=>match Tw.qu h t with
     |none=>.bad
     |some true=>(de (ρ++ws.map some) h).dN.bind fun y h=>.ok (acc++[y]) h
     |some false=>.ok acc h):=by
    unfold b9;rw[eu]<;>rfl
   rw[q0] at pp';refine wpAny_mono (hpg _ _ _ _ _ _ s1 _ Hc v u (fun σ2 H2'=>∃vs,aL X.K ι' hh.length Hc ws vs/\vs.length=x.length/\σ2=σ++vs.map some/\H2'=Hc) J3 rv (hbd ι' hh Hc σ o w v ws _ I3.len lo rw' eu fun vs q1 q2=>⟨vs,q1,q2,rfl,rfl⟩)) (fun _ sa Z=>Z.g fun σ2 Z=>Z.g fun Ha Z=>Z.g fun Ja Z=>Z.g fun vs Z=>Z.g fun rws Z=>Z.g fun lvs Z=>Z.g fun e1 e2=>?_) fun _ _ f=>f.elim;subst e1 e2;have at6:At (zx X E) ι' hh Ha (ρ++ws.map some) (σ++vs.map some):=at5.Ld rws;have back:∀{Hb:L2.Hp}{sb:Shared}{acc':List Tw.W}{ys':List V}{hb:Tw.Hp}{ι2:Nat->Addr},Inv (aX X scope s3.heap.objs.size x s3 H3 pins fp) ([]++ji fp s1.heap) (σ++vs.map some) Hb sb->Hb D=some (.lst ys')->fL ι2 hb D->
     HR (zx X E) ι2 hb Hb->Ext ι1 h1 H2 ι2 hb Hb->Keeps ι' hh.length Ha ι2 hb.length Hb->aL X.K ι2 hb.length Hb acc' ys'->ai (zx X E) RE ι1 h1 H2 ((wk src (b9 un dc de ρ) (i+1) m acc' hb).bind Tw.dq) Q->
     ∃k,k<m+1/\∃i acc ys hh ι' Hc o,Inv (aX X scope s3.heap.objs.size x s3 H3 pins fp) [] (σ++o) Hc sb/\o.length=x.length/\tn i sb.heap/\(∀b∈fp,Hc b=none)/\Hc D=some (.lst ys)/\fL ι' hh D/\
      At (zx X E) ι' hh Hc ρ σ/\Ext ι1 h1 H2 ι' hh Hc/\aL X.K ι' hh.length Hc acc ys/\fF X.K J src ι' hh.length Hc/\cnt src i k/\
      ai (zx X E) RE ι1 h1 H2 ((wk src (b9 un dc de ρ) i k acc hh).bind Tw.dq) Q:=fun {Hb sb acc' ys' hb ι2} Jb hDb alb rb exb kb rrb pb=>by
    refine⟨m,Nat.lt_succ_self _,i+1,acc',ys',hb,ι2,Hb,vs.map some,Jb.jn,by rw[List.length_map];exact lvs,T.keep _ _ _ tn2 fun b hb o e=>(Jb.pin (b,o) (List.mem_append_right _ (List.mem_append_right _ (gy hb e)))).1,fun b hb=>?_,hDb,alb,⟨rb,at5.len,fun j u q=>?_⟩,exb,rrb,fd.later kb,hm',pb⟩
    .obtain⟨o,e,d⟩:=T.obj _ _ tn2 b hb;exact (Jb.pin (b,o) (List.mem_append_right _ (List.mem_append_right _ (gy hb e)))).2.1
    .obtain⟨v',q1,q2⟩:=at5.st j u q;exact⟨v',q1,q2.keep kb⟩
   have elem:∀{Hb:L2.Hp}{sb:Shared}{hb:Tw.Hp}{ι2:Nat->Addr},Inv (aX X scope s3.heap.objs.size x s3 H3 pins fp) ([]++ji fp s1.heap) (σ++vs.map some) Hb sb->Ext ι' hh Ha ι2 hb Hb->HR (zx X E) ι2 hb Hb->
     ai (zx X E) RE ι1 h1 H2 (((de (ρ++ws.map some) hb).dN.bind fun y h=>(.ok (acc++[y]) h:Tw.R (List Tw.W))).bind fun acc h=>(wk src (b9 un dc de ρ) (i+1) m acc h).bind Tw.dq) Q->
     wpAny (model X.prog X.w) X.A (eval elt (compEnvC scope (cY X.env scope.names []) s3.heap.objs.size X.env)) (fun xq s₄=>
      wpAny (model X.prog X.w) X.A (call (.builtin "list.append") [.ref D,xq]) (fun _ s₅=>∃k,k<m+1/\∃i acc ys hh ι' Hc o,Inv (aX X scope s3.heap.objs.size x s3 H3 pins fp) [] (σ++o) Hc s₅/\o.length=x.length/\tn i s₅.heap/\(∀b∈fp,Hc b=none)/\Hc D=some (.lst ys)/\fL ι' hh D/\
      At (zx X E) ι' hh Hc ρ σ/\Ext ι1 h1 H2 ι' hh Hc/\aL X.K ι' hh.length Hc acc ys/\fF X.K J src ι' hh.length Hc/\cnt src i k/\
      ai (zx X E) RE ι1 h1 H2 ((wk src (b9 un dc de ρ) i k acc hh).bind Tw.dq) Q) (fun _ _=>False) s₄) (fun _ _=>False) sb:=fun {Hb sb hb ι2} Jb eb rb pb=>by
    have atb:At (zx X E) ι2 hb Hb (ρ++ws.map some) (σ++vs.map some):=at6.later eb rb;have pb':=vi pb;refine aC (hel _ _ _ _ _ _ sb _ Hb _ Jb ⟨_,hb,ι2,atb.ex,tJ pb'⟩) fun xv s4 Z=>Z.g fun y Z=>Z.g fun Hd Z=>Z.g fun Jd Z=>Z.g fun ry Z=>Z.g fun yw Z=>Z.g fun hd Z=>Z.g fun ι3 Z=>Z.g fun ed Z=>Z.g fun exd Z=>Z.g fun rd rwd=>?_;have rd:HR (zx X E) ι3 hd Hd:=rd.ex;rw[ed] at pb';have pb':ai (zx X E) RE ι1 h1 H2 ((wk src (b9 un dc de ρ) (i+1) m (acc++[yw]) hd).bind Tw.dq) Q:=pb';have e3:Ext ι' hh Ha ι3 hd Hd:=eb.trans exd;have hDd:Hd D=some (.lst ys):=e3.fr D _ hDc al;have ald:fL ι3 hd D:=al.later e3 (by rw[hDc];exact fun z=>nomatch z);have hlen:acc.length+1<=Tw.SZ:=by
     cases q:wk src (b9 un dc de ρ) (i+1) m (acc++[yw]) hd with
     |bad=>rw[q] at pb';exact pb'.elim
     |aD=>exact absurd q Io
     |ok acc' h'=>
      rw[q] at pb';have pb':ai (zx X E) RE ι1 h1 H2 (if acc'.length<=Tw.SZ then Tw.new (.lst acc') h' else .bad) Q:=pb';by_cases c:acc'.length<=Tw.SZ
      .have:=I8 AK q;rw[List.length_append,List.length_singleton] at this;omega
      .rw[if_neg c] at pb';exact pb'.elim
    have kd:Keeps ι3 hd.length Hd ι3 hd.length (upd Hd D (.lst (ys++[y]))):=⟨Nat.le_refl _,fun _ _=>rfl,fun b xs e=>by
     rw[aq (fun z=>by rw[z,hDd] at e;cases e)];exact e⟩
    refine aC (rS (X:=aX X scope s3.heap.objs.size x s3 H3 pins fp) _ s4 _ Hd (.ref D) [y] (.ref D) [xv] (fun _ Hn=>Hn=upd Hd D (.lst (ys++[y]))) Jd rfl (.cons ry .nil) ⟨D,ys,y,rfl,rfl,hDd,?_,rfl⟩) fun _ s5 Z=>Z.g fun _ Z=>Z.g fun Hn Z=>Z.g fun Jn Z=>Z.g fun _ eHn=>?_
    .rw[<-rr.length,eJ];omega
    .subst eHn;have kk:Keeps ι' hh.length Ha ι3 hd.length (upd Hd D (.lst (ys++[y]))):=(e3.keeps at5.hr).trans kd;exact back Jn aJ ald (rd.other ald hDd (fun _ z=>nomatch z) fun _ _ z=>nomatch z) ((ex.trans e3).other fresh hDd) kk ((rr.keep kk).append (.cons (rwd.keep kd) .nil)) pb'
   rcases hts with ⟨rfl,hd0⟩|⟨c,d,rfl,hd1,hpt⟩
   .refine wpAny_tests_nil ?_;rw[if_pos rfl];refine elem Ja (Ext.refl _ _ _) at5.hr ?_;rw[hd0] at pp';exact pp'
   .refine wpAny_tests_one ?_;rw[hd1] at pp';have pt:ai (zx X E) RE ι1 h1 H2 ((dT d (ρ++ws.map some) hh).dN.bind fun b h=>((match b with
      |true=>(de (ρ++ws.map some) h).dN.bind fun y h=>(.ok (acc++[y]) h:Tw.R (List Tw.W))
      |false=>.ok acc h).bind fun acc h=>(wk src (b9 un dc de ρ) (i+1) m acc h).bind Tw.dq)) Q:=by
     cases q:d (ρ++ws.map some) hh with
     |bad=>rw[q] at pp';exact pp'.elim
     |aD=>rw[q] at pp';exact pp'.elim
     |ok u hu=>
      rw[q] at pp';simp only[dT,q,Tw.R.ak,Tw.R.kn,Tw.qu] at pp'⊢;cases q2:Tw.truth hu u with
      |none=>rw[q2] at pp';exact pp'.elim
      |some b=>
       rw[q2] at pp';cases b<;>exact pp'
    refine aC (hpt _ _ _ _ _ _ sa _ Ha _ Ja ⟨_,hh,ι',at6.ex,tJ pt⟩) fun bb s4 Z=>Z.g fun Hd Z=>Z.g fun Jd Z=>Z.g fun b Z=>Z.g fun hd Z=>Z.g fun ι3 Z=>Z.g fun ed Z=>Z.g fun exd Z=>Z.g fun rd eb=>?_;have rd:HR (zx X E) ι3 hd Hd:=rd.ex;rw[ed] at pt;have eb:b=bb:=eb;subst eb;cases b with
    |true=>
     rw[if_pos rfl];exact elem Jd exd rd pt
    |false=>
     rw[if_neg (by decide)];exact back Jd (exd.fr D _ hDc al) (al.later exd (by rw[hDc];exact fun z=>nomatch z)) rd (ex.trans exd) (exd.keeps at5.hr) (rr.keep (exd.keeps at5.hr)) pt
 exact codeAny_compStart_list loop (T.self _ 0 _ _ _ st4 loop)
end
section
variable {X:Cx}{E:XK}{elt iter tg:Expr}{x:List Str}{pos:Pos}{g:TG}{un:Tw.W->Option (List Tw.W)}{ifs:List Expr}{scope:Scope}{dit:Tw.Env->Tw.Hp->Tw.R Tw.Src}{dc:Tw.Env->Tw.Hp->Tw.R (Option Tw.W)}{de:Tw.Env->Tw.Hp->Tw.R Tw.W}
noncomputable def k8(un:Tw.W->Option (List Tw.W))(dit:Tw.Env->Tw.Hp->Tw.R Tw.Src)(dc:Tw.Env->Tw.Hp->Tw.R (Option Tw.W))(de:Tw.Env->Tw.Hp->Tw.R Tw.W):Tw.Env->Tw.Hp->Tw.R Tw.W:=
 fun ρ h=>(dit ρ h).bind fun s h=>(Tw.walk s (b9 un dc de ρ) h).bind Tw.dq
theorem wY{use:Option (Value->Sem Unit)}{pins:List (Addr×Obj)}{s:Shared}{σ:L2.St}{H:L2.Hp}{Q:VK}{QQ:Value->Shared->Prop}(I:Inv X pins σ H s)
  (hc:X.calm=true) (cs:eY X.N X.env.scope x scope) (hpg:∀C s H pins fp,PG (aX X scope C x s H pins fp) tg g) (hbd:kH (zx X E) X.N.length x.length g un) (hi:PI X tg iter (tI (zx X E) dit)) (hs:∀v,foldedSetIterable iter X.env v=pure v)
  (hel:∀C s H pins fp,PE (aX X scope C x s H pins fp) elt (tE (zx X E0) de)) (hts:p0 X scope x ifs dc) (q:tE (zx X E) (k8 un dit dc de) σ H Q)
  (hR:∀s3 H3 fp D,Inv X pins σ H3 s3->(∀b∈fp,eO X pins H3 b)->∀s1 Hc σ',Inv (aX X scope s3.heap.objs.size x s3 H3 pins fp) [] σ' Hc s1->Q (.ref D) Hc->compPost (model X.prog X.w) X.A X.xe use QQ (.ref D) s3.heap.objs.size (.ok .next) s1):
  wpAny (model X.prog X.w) X.A (comprehension (.ListComp elt [⟨tg,iter,ifs,0⟩] scope pos) scope X.env (firstIterPos [⟨tg,iter,ifs,0⟩] pos) (newList []) false (eval iter X.env) use) QQ X.xe s:=by
 obtain⟨ρ,h,ι,at',p⟩:=q;refine wpAny_comprehension_free rfl hs (yJ (v9 I cs)) cs.kind cs.locs (aC (hi pins s σ H (fun J H'=>∃src h1 ι1,At (zx X E) ι1 h1 H' ρ σ/\Ext ι h H ι1 h1 H'/\fF X.K J src ι1 h1.length H'/\ai (zx X E) RE ι1 h1 H' ((Tw.walk src (b9 un dc de ρ) h1).bind Tw.dq) Q) I ⟨ρ,h,ι,at',?_⟩) fun xv s1 h1=>aC h1 fun it s2 h2=>?_)
 .exact step at' p
 .obtain⟨it',fp,tn,J,H2,rfl,I2,T,tn0,fpo,src,h1',ι1,at1,e1,fd,p1⟩:=h2;have hf:H2 s2.heap.objs.size=none:=I2.ao.fresh (Nat.le_refl _);have I3:Inv X pins σ (upd H2 s2.heap.objs.size (.lst [])) {s2 with heap:=s2.heap.push {cls:=.type "list",data:=.seq #[]},toks:=s2.toks}:=
   I2.laid (fun b u e=>Heap.get?_push_of_some _ e) (Nat.le_refl _) ⟨Nat.zero_le _,[],0,.nil,Heap.get?_push_size _ rfl⟩
  have lt2:∀b∈fp,b<s2.heap.objs.size:=fun b hb=>by
   obtain⟨o,e,_⟩:=T.obj _ _ tn0 b hb;exact Heap.lt_size e
  have f3:∀b∈fp,eO X pins (upd H2 s2.heap.objs.size (.lst [])) b:=fun b hb=>by
   obtain⟨g0,g1⟩:=fpo b hb;exact⟨by rw[aq (Nat.ne_of_lt (lt2 b hb))];exact g0,g1⟩
  refine wpAny_newObj_type (wpAny_newFunctionEnv cs.vd (by intro y hy;simp at hy) (fun h₁ hns₁ hsb₁=>?_) cs.kind);dsimp only at hns₁ hsb₁⊢;obtain⟨r3,x3⟩:=at1.hr.grow (o:=.lst []) hf;have al:fL ι1 h1' s2.heap.objs.size:=fun i o ei m z=>by
   obtain⟨u,q,_,_⟩:=at1.hr.there ei m;rw[z,hf] at q;cases q
  rw[CT] at p1;have sz:(s2.heap.push {cls:=.type "list",data:=.seq ([]:List Value).toArray}).objs.size=s2.heap.objs.size+1:=Heap.size_push _ _;exact yc (h4:=h₁) hc cs hpg hbd hel hts I3 aJ hf x3 (at1.later x3 r3) al (fd.later (x3.keeps at1.hr)) p1 T (T.keep 0 _ _ tn0 fun b _ o e=>Heap.get?_push_of_some _ e) f3 (fun b hb=>by
    show b<(s2.heap.push _).objs.size;rw[sz];exact Nat.lt_succ_of_lt (lt2 b hb)) hns₁
   (fun b o e=>hsb₁.extBut b o (Nat.ne_of_lt (Heap.lt_size e)) (Heap.get?_push_of_some _ e)) (hR _ _ fp _ I3 f3)
theorem AS(hc:X.calm=true)(cs:eY X.N X.env.scope x scope)(hpg:∀C s H pins fp,PG (aX X scope C x s H pins fp) tg g)(hbd:kH (zx X E) X.N.length x.length g un)(hi:PI X tg iter (tI (zx X E) dit))(hs:∀v,foldedSetIterable iter X.env v=pure v)
  (hel:∀C s H pins fp,PE (aX X scope C x s H pins fp) elt (tE (zx X E0) de)) (hts:p0 X scope x ifs dc):
  PE X (.ListComp elt [⟨tg,iter,ifs,0⟩] scope pos) (tE (zx X E) (k8 un dit dc de)):=by
 intro pins s σ H Q I q;rw[eval_ListComp];refine wY (use:=none) I hc cs hpg hbd hi hs hel hts q fun s3 H3 fp D I3 f3 s1 Hc σ' J q=>?_;obtain⟨mm,hns2,_⟩:=J.loc;exact⟨mm,hns2,fun h' hs'=>⟨.ref D,Hc,sO I3 f3 J hs',rfl,q⟩⟩
theorem zV{i:Nat}{y:Str}{py spos:Pos}(hc:X.calm=true)(cs:eY X.N X.env.scope x scope)(hpg:∀C s H pins fp,PG (aX X scope C x s H pins fp) tg g)(hbd:kH (zx X E) X.N.length x.length g un)(hi:PI X tg iter (tI (zx X E) dit))(hs:∀v,foldedSetIterable iter X.env v=pure v)
  (hel:∀C s H pins fp,PE (aX X scope C x s H pins fp) elt (tE (zx X E0) de)) (hts:p0 X scope x ifs dc) (hN:X.N.Nodup) (hy:X.N[i]?=some y) (hl:X.env.scope.names.lookup y=some .local)
  (hsw:swapsWith (.ListComp elt [⟨tg,iter,ifs,0⟩] scope pos) (some (.Name y py)) spos.line X.env=pure true):
  PS X (.Assign [.Name y py] (.ListComp elt [⟨tg,iter,ifs,0⟩] scope pos) spos) (c9 (zx X E) fun ρ h=>(k8 un dit dc de ρ h).bind fun w h=>.ok (.next (ρ.set i (some w))) h):=by
 intro pins s σ H D I ⟨ρ,h,ι,at',p⟩;rw[exec_Assign_Name_used _ _ _ _ hsw];refine wpAny_bind (wpAny_standAt (wpAny_bind ?_));show wpAny _ _ (do let _ <-comprehension (.ListComp elt [⟨tg,iter,ifs,0⟩] scope pos) scope X.env (firstIterPos [⟨tg,iter,ifs,0⟩] pos) (newList []) false (eval iter X.env) (some (assign (.Name y py) X.env))) _ _ s;refine wpAny_bind (aC (wY (use:=some (assign (.Name y py) X.env)) (QQ:=fun _ s'=>SP X pins D .next s') (Q:=fun v H1=>D.nx (σ.set i (some v)) H1) I hc cs hpg hbd hi hs hel hts ⟨ρ,h,ι,at',(fH at' p).mono fun v H1 Z=>Z.g6 fun w h1 ι1 at1 e1 r1 p1=>p1.next (at1.set r1 i)⟩ fun s3 H3 fp A I3 f3 s1 Hc σ' J q=>?_) fun _ s' hq=>wpAny_pure (wpAny_pure hq));have I1:Inv X pins σ Hc s1:=sO I3 f3 J (Heap.SameBut.refl _ _);have hC:eO X pins Hc s3.heap.objs.size:=I3.oE (Nat.le_refl _) J.free;obtain⟨mm,⟨o,es,ep,ho,hr⟩,_⟩:=J.loc;have I2:Inv X (pins++ji [s3.heap.objs.size] s1.heap) σ Hc s1:=I1.pinned (fun b hb=>by
   rw[List.mem_singleton] at hb;subst hb;exact hC) fun b hb=>by
  rw[List.mem_singleton] at hb;subst hb;exact⟨o,ho,fun v z=>by rw[hr.1] at z;cases z⟩
 refine aC ((kP (i:=i) (pos:=py) hN hy (.inl hl) (.inr hl):PG X (.Name y py) (fD i)) _ s1 σ Hc (.ref A) (.ref A) (fun σ2 H2=>σ2=σ.set i (some (.ref A))/\H2=Hc) I2 rfl ⟨rfl,rfl⟩) fun _ s2 Z=>Z.g4 fun σ2 H2 J2 e1 e2=>?_;subst e1 e2;have ho2:s2.heap.get? s3.heap.objs.size=some o:=(J2.pin (_,o) (List.mem_append_right _ (List.mem_append_right _ (gy (List.mem_singleton.mpr rfl) ho)))).1;refine⟨mm,⟨o,es,ep,ho2,hr⟩,fun h' hs'=>?_⟩;have J3:=J2.jn;have nm:∀{b:Addr},b∉ [s3.heap.objs.size]->b≠s3.heap.objs.size:=fun hb z=>hb (List.mem_singleton.mpr z);have hf2:H2 s3.heap.objs.size=none:=hC.1;have u:Un (bK X.stack) [s3.heap.objs.size] H2 H2 s2.heap h':=
  ⟨fun b o e _ _ h2=>hs'.extBut b o (nm h2) e,fun b o e _ _ h2=>⟨o.slots,hs'.extBut b o (nm h2) e⟩,fun b o _ n _=>n,fun b o e h2=>⟨o,hs'.extBut b o (nm h2) e⟩,fun _ _ q=>q,fun _ _ _ q=>q,fun _ ps q=>⟨#[],by rw[q];simp⟩⟩
 have ao:cq X.prog X.w H2 h':=fun b v e=>by
  refine (J3.ao b v e).eV (fun c w hc q=>hs'.extBut c w ?_ q) (fun _ q=>q) fun _ _ q=>q;rcases hc with z|z
  .rw[z];intro z';rw[z',hf2] at e;cases e
  .intro z';rw[z',hf2] at z;cases z
 have fin:=J3.call (h':=h') (g':=s2.gens) (d':=s2.drawn) (t':=s2.toks) (ch:=[s3.heap.objs.size]) u ao J3.bare fun b hb=>by
  rw[List.mem_singleton] at hb;subst hb;exact⟨hC.2.2.2.1,hC.2.1,hC.2.2.2.2.1,hC.2.2.2.2.2⟩
 exact⟨_,_,fin,q⟩
end
noncomputable abbrev DE:=Tw.Env->Tw.Hp->Tw.R Tw.W
noncomputable def zS:List (DE×DE)->Tw.Env->Tw.Hp->Tw.R (List Tw.W)
 |[],_,h=>.ok [] h
 |(dk,dv)::r,ρ,h=>(dk ρ h).bind fun x h=>(dv ρ h).bind fun y h=>(zS r ρ h).bind fun xs h=>.ok (x::y::xs) h
section
variable {K:Zk}
end
noncomputable def O0(prs:List (DE×DE)):DE:=fun ρ h=>(zS prs ρ h).bind fun xs h=>match Tw.nJ xs [] with
 |some kvs=>Tw.new (.ag kvs) h
 |none=>.bad
noncomputable def tk(src:Tw.Src)(t:Tw.Tg)(k:Tw.Env->Tw.Hp->Tw.R Tw.Fl)(i m:Nat)(ρ:Tw.Env)(h:Tw.Hp):Tw.R Tw.Fl:=match src with
 |.fix ws=>Tw.cW t k (ws.drop i) ρ h
 |.at a _=>Tw.bo a t k m i ρ h
 |.rv a _=>Tw.cM a t k m ρ h
 |.ea a _=>Tw.fc a t k m i ρ h
theorem CQ(src:Tw.Src)(t:Tw.Tg)(k:Tw.Env->Tw.Hp->Tw.R Tw.Fl)(ρ:Tw.Env)(h:Tw.Hp):Tw.turns src t k ρ h=tk src t k 0 (jC src) ρ h:=by cases src<;>rfl
theorem Gk{src:Tw.Src}{t:Tw.Tg}{k:Tw.Env->Tw.Hp->Tw.R Tw.Fl}{i m:Nat}{ρ:Tw.Env}{h:Tw.Hp}(hm:cnt src i m):
  tk src t k i m ρ h=.bad\/(nextOf src i h=some none/\tk src t k i m ρ h=.ok (.next ρ) h)\/∃w m',nextOf src i h=some (some w)/\m=m'+1/\tk src t k i m ρ h=Tw.turn t k w ρ h fun ρ h=>tk src t k (i+1) m' ρ h:=by
 cases src with
 |fix ws=>
  have hm:m=ws.length-i:=hm;cases hw:ws[i]? with
  |none=>
   have hl:=List.getElem?_eq_none_iff.mp hw;refine .inr (.inl ⟨by simp[nextOf,hw],?_⟩);show Tw.cW t k (ws.drop i) ρ h=_;rw[List.drop_eq_nil_of_le hl];rfl
  |some w=>
   have hl:=(List.getElem?_eq_some_iff.mp hw).1;refine .inr (.inr ⟨w,ws.length-(i+1),by simp[nextOf,hw],by omega,?_⟩);show Tw.cW t k (ws.drop i) ρ h=_;rw[wV hw];rfl
 | «at» a n=>
  cases e:Tw.aZ h a with
  |none=>refine .inl ?_;show Tw.bo a t k m i ρ h=_;unfold Tw.bo;rw[e]
  |some ws=>
   cases hw:ws[i]? with
   |none=>refine .inr (.inl ⟨by simp[nextOf,e,hw],?_⟩);show Tw.bo a t k m i ρ h=_;unfold Tw.bo;simp only[e,hw]
   |some w=>
    cases m with
    |zero=>refine .inl ?_;show Tw.bo a t k 0 i ρ h=_;unfold Tw.bo;simp only[e,hw]
    |succ m=>
     refine .inr (.inr ⟨w,m,by simp[nextOf,e,hw],rfl,?_⟩);show Tw.bo a t k (m+1) i ρ h=_
     conv=>lhs;unfold Tw.bo
     simp only[e,hw];rfl
 |rv a n=>
  have hm:m=n-i:=hm;cases m with
  |zero=>exact .inr (.inl ⟨by simp[nextOf];omega,rfl⟩)
  |succ m=>
   have hi:i<n:=by omega
   have em:n-1-i=m:=by omega
   cases e:Tw.aZ h a with
   |none=>refine .inl ?_;show Tw.cM a t k (m+1) ρ h=_;unfold Tw.cM;rw[e]
   |some ws=>
    cases hw:ws[m]? with
    |none=>refine .inl ?_;show Tw.cM a t k (m+1) ρ h=_;unfold Tw.cM;simp only[e,hw]
    |some w=>
     refine .inr (.inr ⟨w,m,by simp[nextOf,e,hi,em,hw],rfl,?_⟩);show Tw.cM a t k (m+1) ρ h=_
     conv=>lhs;unfold Tw.cM
     simp only[e,hw];rfl
 |ea a n=>
  cases e:Tw.aZ h a with
  |none=>refine .inl ?_;show Tw.fc a t k m i ρ h=_;unfold Tw.fc;rw[e]
  |some ws=>
   cases hw:ws[i]? with
   |none=>refine .inr (.inl ⟨by simp[nextOf,e,hw],?_⟩);show Tw.fc a t k m i ρ h=_;unfold Tw.fc;simp only[e,hw]
   |some w=>
    cases m with
    |zero=>refine .inl ?_;show Tw.fc a t k 0 i ρ h=_;unfold Tw.fc;simp only[e,hw]
    |succ m=>
     refine .inr (.inr ⟨.tup [.int i,w],m,by simp[nextOf,e,hw],rfl,?_⟩);show Tw.fc a t k (m+1) i ρ h=_
     conv=>lhs;unfold Tw.fc
     simp only[e,hw];rfl
theorem zh{X:Cx}{E:XK}{tg iter:Expr}{body:List Stmt}{pos:Pos}{g:TG}{t:Tw.Tg}{dit:Tw.Env->Tw.Hp->Tw.R Tw.Src}{tb:Tw.Env->Tw.Hp->Tw.R Tw.Fl}(hp:PassesOwn (model X.prog X.w) X.A X.env X.xe)(hc:X.calm=true)(hi:PI X tg iter (tI (zx X E) dit))(hg:PG X tg g)(ht:yL (zx X E) t g)
  (hb:eB X body (c9 (zx X E) tb)) (hs:∀x,foldedSetIterable iter X.env x=pure x):
  PS X (.For tg iter body [] pos) (c9 (zx X E) fun ρ h=>(dit ρ h).bind fun s h=>Tw.turns s t tb ρ h):=by
 refine PS.imp (Ji hp hc hi hg hb hs) fun D σ H Z=>Z.g fun ρ Z=>Z.g fun h Z=>Z.g fun ι Z=>Z.g fun at' p=>⟨ρ,h,ι,at',(fH at' p).mono fun J H1 Z=>Z.g fun src Z=>Z.g fun h1 Z=>Z.g fun ι1 Z=>Z.g fun at1 Z=>Z.g fun e1 Z=>Z.g fun fd p1=>?_⟩;rw[CQ] at p1;refine⟨fun i m σ' H'=>∃ρ h ι,At (zx X E) ι h H' ρ σ'/\fF X.K J src ι h.length H'/\cnt src i m/\bQ (zx X E) ι h H' (tk src t tb i m ρ h) D,⟨jC src,ρ,h1,ι1,at1,fd,rE src,p1⟩,?_⟩
 rintro i m σ2 H2 ⟨ρ2,h2,ι2,at2,fd2,hm,p2⟩
 rcases Gk (t:=t) (k:=tb) (ρ:=ρ2) (h:=h2) hm with e|⟨e1,e⟩|⟨w,m',e1,rfl,e⟩
 .rw[e] at p2;exact p2.elim
 .rw[e] at p2;rcases i8 at2.hr fd2 i with q|⟨st,q⟩|⟨w,q,_⟩
  .rw[e1] at q;cases q
  .exact .inl ⟨st,p2.next at2⟩
  .rw[e1] at q;cases q
 .rw[e,Tw.turn] at p2;rcases i8 at2.hr fd2 i with q|⟨st,q⟩|⟨w',q,go,hy⟩
  .rw[e1] at q;cases q
  .rw[e1] at q;cases q
  .rw[e1] at q;cases q;refine .inr ⟨go,fun σ' H'=>∃ρ h ι,At (zx X E) ι h H' ρ σ'/\fF X.K J src ι h.length H'/\cnt src (i+1) m'/\bQ (zx X E) ι h H' (tk src t tb (i+1) m' ρ h) D,fun σ' H' q=>⟨m',Nat.lt_succ_self _,q⟩,fun x H' hx=>?_⟩;obtain⟨ry,xy,rv⟩:=hy x H' hx;have aty:=at2.later xy ry;cases es:Tw.eZ t w ρ2 with
   |none=>rw[es] at p2;exact p2.elim
   |some ρ3=>
    rw[es] at p2;dsimp only at p2;exact ht ι2 h2 _ ρ2 ρ3 σ2 w x _ aty rv es fun σ3 at3=>⟨ρ3,h2,ι2,at3,rZ (bQ.later p2 xy) fun ρ4 h4 ι4 H4 σ4 e4 at4 p4=>⟨ρ4,h4,ι4,at4,fd2.later ((xy.trans e4).keeps at2.hr),ux hm,p4⟩⟩
section
variable {X:Cx}{E:XK}{a b:Expr}{p pos p1:Pos}{es:List Expr}{n:Nat}{da db:Tw.Env->Tw.Hp->Tw.R Tw.W}
theorem GR(hgl:Gl X "enumerate")(hm:X.mg "enumerate" = none)(ha:PE X a (tE (zx X E) da))(hst:starEach [a] X.env=[(false,eval a X.env)]):
  PI X (.Tuple es n p1) (.Call (.Name "enumerate" p) [a] [] pos) (tI (zx X E) fun ρ h=>(da ρ h).bind fun x h=>match x with
   |.tup xs=>.ok (.fix (Tw.fK 0 xs)) h
   |.ref a=>match h[a]? with
    |some (.lst xs)=>.ok (.ea a xs.length) h
    |_=>.bad
   |_=>.bad):=by
 refine PI.imp (PI.or (vW true hgl hm (bX ha cK hst) hst) (vW false hgl hm (bX ha cK hst) hst)) fun σ H R Z=>Z.g fun ρ Z=>Z.g fun h Z=>Z.g fun ι Z=>Z.g fun at' p=>?_;dsimp only at p;cases e0:da ρ h with
 |bad=>rw[e0] at p;exact p.elim
 |aD=>rw[e0] at p;refine .inr ⟨ρ,h,ι,at',?_⟩;rw[e0];exact p
 |ok w h1=>
  rw[e0] at p;simp only[Tw.R.ak] at p;cases w with
  |tup ws=>
   refine .inl ⟨ρ,h,ι,at',?_⟩;rw[e0];intro ι1 H1 x e1 r1 rx;cases rx with
   | @tup ad xs _ ea ra=>exact⟨ad,rfl,⟨xs,ea.sq⟩,p ι1 H1 _ e1 r1 (.inr (.inr (.inr (.inr (.inl ⟨ad,xs,ws,rfl,rfl,ea,ra⟩)))))⟩
  |ref i=>
   dsimp only at p;cases ei:h1[i]? with
   |none=>rw[ei] at p;exact p.elim
   |some o=>
    rw[ei] at p;cases o with
    |lst ws=>
     refine .inr ⟨ρ,h,ι,at',?_⟩;rw[e0];intro ι1 H1 x e1 r1 rx;cases rx with
     |ref hi=>
      obtain⟨xs,q1,q2⟩:=r1.lst ei;exact⟨_,rfl,⟨xs,bx.of q1⟩,p ι1 H1 _ e1 r1 (.inr (.inr (.inr (.inr (.inr (.inr ⟨i,_,_,rfl,rfl,rfl,hi⟩))))))⟩
    |_=>exact p.elim
  |_=>exact p.elim
theorem LQ{tg:Expr}(hgl:Gl X "reversed")(hm:X.mg "reversed" = none)(ha:PE X a (tE (zx X E) da))(hst:starEach [a] X.env=[(false,eval a X.env)]):
  PI X tg (.Call (.Name "reversed" p) [a] [] pos) (tI (zx X E) fun ρ h=>(da ρ h).bind fun x h=>match x with
   |.ref a=>match h[a]? with
    |some (.lst xs)=>.ok (.rv a xs.length) h
    |_=>.bad
   |_=>.bad):=by
 refine PI.imp (IQ hgl hm (bX ha cK hst) hst) fun σ H R Z=>Z.g fun ρ Z=>Z.g fun h Z=>Z.g fun ι Z=>Z.g fun at' p=>?_;refine⟨ρ,h,ι,at',(step at' p).mono fun x H1 Z=>Z.g fun w Z=>Z.g fun h1 Z=>Z.g fun ι1 Z=>Z.g fun at1 Z=>Z.g fun e1 Z=>Z.g fun r1 p1=>?_⟩;cases r1 with
 | @ref i hi=>
  dsimp only at p1;cases ei:h1[i]? with
  |none=>rw[ei] at p1;exact p1.elim
  |some o=>
   rw[ei] at p1;cases o with
   |lst ws=>
    obtain⟨xs,q1,q2⟩:=at1.hr.lst ei;refine⟨_,xs,rfl,bx.of q1,?_⟩;rw[<-q2.length];exact ai.self (a:=Tw.Src.rv i ws.length) p1 at1.hr (.inr (.inr (.inr (.inr (.inr (.inl ⟨i,_,_,rfl,rfl,rfl,hi⟩))))))
   |_=>exact p1.elim
 |_=>exact p1.elim
end
noncomputable def aG:Expr->Bool
 |.Name .. => true | .Constant .. => true | .Tuple .. => true | .List .. => true | .Dict .. => true | .BinOp .. => true | .Compare .. => true | .BoolOp .. => true
 |.UnaryOp .. => true | .IfExp .. => true | .Subscript .. => true | .Call .. => true | .Attribute .. => true | .ListComp .. => true
 |_=>false
noncomputable def qt:Expr->Bool
 |.ListComp .. => true
 |_=>false
noncomputable def je:Expr->Bool
 |.Call (.Name _ _) [] [] _=>false
 |_=>true
noncomputable def DY:Expr->Bool
 |.UnaryOp .Not _ _=>false | .BoolOp .. => false | .IfExp .. => false | .Compare .. => false
 |_=>true
section
variable {a b:Expr}{es:List Expr}{env:Env}
theorem bu(h:aG a=true):starEach (a::es) env=(false,eval a env)::starEach es env:=by cases a<;>first|rfl|cases h
theorem ur(h:aG b=true):qQ b:=by cases b<;>first|(intro _ _;rfl)|cases h
theorem vF(o:CmpOp)(h:aG b=true):behindInMarks o b=false:=by cases b<;>first|rfl|cases h
theorem dM(h:aG b=true):∀x,foldedSetIterable b env x=pure x:=by cases b<;>first|(intro _;rfl)|cases h
theorem iz{t:Option Expr}{l:Nat}(h:aG a=true)(hn:qt a=false):swapsWith a t l env=pure false:=by cases a<;>first|rfl|exact absurd (show false=true from h) Bool.false_ne_true|exact absurd (show false=true from hn) Bool.false_ne_true|exact absurd (show true=false from hn) (by decide)
theorem lD{m:Str}(h:aG a=true)(hn:je a=true):attributeBase a m env (eval a env)=eval a env:=by
 cases a with
 |Call f as ks p=>
  cases f with
  |Name x q=>
   cases as with
   |nil=>
    cases ks with
    |nil=>cases hn
    |cons _ _=>rfl
   |cons _ _=>rfl
  |_=>rfl
 |_=>first|rfl|cases h
theorem zZ(h:aG a=true)(hn:DY a=true)(whole:Sem Value):isTrue a env whole=(do let v <-whole;standAt a.pos;holding [v] (truthy v)):=by
 cases a with
 |UnaryOp o x p=>
  cases o with
  |Not=>cases hn
  |_=>rfl
 |_=>first|rfl|exact absurd (show false=true from h) Bool.false_ne_true|exact absurd (show false=true from hn) Bool.false_ne_true|exact absurd (show true=false from hn) (by decide)
end
noncomputable abbrev Sc:=List (Str×NameKind)
noncomputable def yD(sc:Sc)(x:Str):Bool:=match sc.lookup x with
 |some .local=>true|some .cell=>true|some .free=>true
 |_=>false
noncomputable def hV(sc:Sc)(x:Str):Bool:=match sc.lookup x with
 |some .local=>true|some .cell=>true
 |_=>false
noncomputable def DL(sc:Sc)(x:Str):Bool:=match sc.lookup x with
 |some .cell=>true|some .free=>true
 |_=>false
noncomputable def jL(sc:Sc)(x:Str):Bool:=match sc.lookup x with
 |some .globalImplicit=>true
 |_=>false
structure ff(sc:Sc)(N:List Str)(X:Cx):Prop where
 n:X.N=N
 kind:X.env.scope.kind=.function
 ui:∀x,yD sc x=true->iX X.env.scope x
 gl:∀x,jL sc x=true->Gl X x
 cf:∀x,DL sc x=true->X.env.scope.names.lookup x=some .cell\/X.env.scope.names.lookup x=some .free
theorem kO{scope:Scope}{env:Env}{y:Str}{k:NameKind}:∀{names:List (Str×NameKind)},names.lookup y=some k->
  (names.map fun (n,k)=>if (k== NameKind.free&&env.scope.kind== .function&&env.kindOf n== some .cell) then (n,NameKind.cell) else (n,k)).lookup y=some k\/
  (k=.free/\(names.map fun (n,k)=>if (k== NameKind.free&&env.scope.kind== .function&&env.kindOf n== some .cell) then (n,NameKind.cell) else (n,k)).lookup y=some .cell)
 |[],h=>by simp at h
 |(n,j)::r,h=>by
  rw[List.lookup_cons] at h;by_cases hy:(y== n)=true
  .simp only[hy] at h;cases h;rw[List.map_cons];dsimp only;by_cases hc:(k== NameKind.free&&env.scope.kind== .function&&env.kindOf n== some .cell)=true
   .refine .inr ⟨?_,?_⟩
    .simp only[Bool.and_eq_true,beq_iff_eq] at hc;exact hc.1.1
    .rw[if_pos hc,List.lookup_cons];simp only[hy]
   .refine .inl ?_;rw[if_neg hc,List.lookup_cons];simp only[hy]
  .rw[Bool.not_eq_true] at hy;simp only[hy] at h;rw[List.map_cons];dsimp only;have ih:=kO (scope:=scope) (env:=env) h;by_cases hc:(j== NameKind.free&&env.scope.kind== .function&&env.kindOf n== some .cell)=true
   .rw[if_pos hc,List.lookup_cons];simp only[hy];exact ih
   .rw[if_neg hc,List.lookup_cons];simp only[hy];exact ih
theorem jz{scope:Scope}{env:Env}{y:Str}{k:NameKind}(h:scope.names.lookup y=some k):(relabel scope env).names.lookup y=some k\/(k=.free/\(relabel scope env).names.lookup y=some .cell):=
 kO (scope:=scope) h
theorem ff.comp{X:Cx}{scope:Scope}{C:Addr}{x:List Str}{s:Shared}{H:L2.Hp}{pins:List (Addr×Obj)}{fp:List Addr}(hk:scope.kind=.function):
  ff scope.names (bW X.N x) (aX X scope C x s H pins fp) where
 n:=rfl
 kind:=hk
 ui:=fun y hy=>by
  show iX (relabel scope X.env) y;unfold yD at hy;cases e:scope.names.lookup y with
  |none=>rw[e] at hy;cases hy
  |some k=>
   rcases jz (env:=X.env) e with q|⟨_,q⟩
   .rw[e] at hy;cases k with
    | «local» => exact .inl q
    |cell=>exact .inr (.inl q)
    |free=>exact .inr (.inr q)
    |_=>cases hy
   .exact .inr (.inl q)
 gl:=fun y hy=>by
  show (relabel scope X.env).names.lookup y=some .globalImplicit;unfold jL at hy;cases e:scope.names.lookup y with
  |none=>rw[e] at hy;cases hy
  |some k=>
   rw[e] at hy;cases k with
   |globalImplicit=>
    rcases jz (env:=X.env) e with q|⟨q,_⟩
    .exact q
    .cases q
   |_=>cases hy
 cf:=fun y hy=>by
  show (relabel scope X.env).names.lookup y=some .cell\/(relabel scope X.env).names.lookup y=some .free;unfold DL at hy;cases e:scope.names.lookup y with
  |none=>rw[e] at hy;cases hy
  |some k=>
   rw[e] at hy;rcases jz (env:=X.env) e with q|⟨_,q⟩
   .cases k with
    |cell=>exact .inl q
    |free=>exact .inr q
    |_=>cases hy
   .exact .inl q
noncomputable def yz(N:List Str)(sc:Sc)(x:List Str)(scope:Scope):Bool:=
 decide (scope.kind=.function)&&scope.names.all (fun y=>(match y.2 with
  |.cell=>false
  |.local=>(match scope.names.lookup y.1 with|some .local=>true|_=>false)&&(x.contains y.1 || !(N.contains y.1))
  |.free=>DL sc y.1
  |_=>true)&&!(y.1== ("" : Str)))&&x.all (fun y=>match scope.names.lookup y with|some .local=>true|_=>false)
theorem pL{N:List Str}{sc:Sc}{x:List Str}{scope:Scope}{X:Cx}(S:ff sc N X)(h:yz N sc x scope=true):eY X.N X.env.scope x scope:=by
 unfold yz at h;simp only[Bool.and_eq_true,decide_eq_true_eq,List.all_eq_true] at h;obtain⟨⟨h1,h2⟩,h3⟩:=h;have sF:∀y∈x,scope.names.lookup y=some .local:=fun y hy=>by
  have h3:=h3 y hy;cases e:scope.names.lookup y with
  |none=>rw[e] at h3;cases h3
  |some k=>rw[e] at h3;cases k<;>first|rfl|cases h3
 refine⟨h1,S.kind,fun y hy z=>?_,fun y hy z=>?_,sF,fun y k e z hN=>?_,fun y hy z=>?_,?_⟩
 .obtain⟨q,_⟩:=h2 y hy;rw[z] at q;cases q
 .obtain⟨q,_⟩:=h2 y hy;rw[z] at q;simp only[Bool.and_eq_true] at q;cases e:scope.names.lookup y.1 with
  |none=>rw[e] at q;cases q.1
  |some k=>rw[e] at q;cases k<;>first|rfl|cases q.1
 .subst z;obtain⟨q,_⟩:=h2 (y,.local) (PySem.mem_of_lookup e);simp only[Bool.and_eq_true,Bool.or_eq_true,Bool.not_eq_true'] at q;rcases q.2 with q|q
  .rw[List.contains_eq_mem] at q;simpa using q
  .rw[S.n] at hN;rw[List.contains_eq_mem] at q;exact absurd hN (by simpa using q)
 .obtain⟨q,_⟩:=h2 y hy;rw[z] at q;exact S.cf _ q
 .cases e:scope.names.lookup ("" : Str) with
  |none=>rfl
  |some k=>
   obtain⟨_,q⟩:=h2 ("",k) (PySem.mem_of_lookup e);simp at q
theorem str_inj{x y:Tw.S}:((⟨x.toArray⟩:Str)=⟨y.toArray⟩)↔x=y:=by
 constructor
 .intro h;have:=congrArg (fun s:Str=>s.cps.toList) h;simpa using this
 .intro h;rw[h]
section
variable {K:PySem.W.Frag}{ι:Nat->Addr}{n:Nat}{H:L2.Hp}
theorem str_beq(x y:Tw.S):((⟨x.toArray⟩:Str)== ⟨y.toArray⟩)=(x== y):=by
 by_cases h:x=y
 .subst h;simp
 .rw[beq_eq_false_iff_ne.mpr h];exact beq_eq_false_iff_ne.mpr fun z=>h (str_inj.mp z)
theorem RF.look{x:Tw.S}:∀{fs:List (Tw.S×Tw.W)}{gs:List (Str×V)},RF K ι n H fs gs->(fs.lookup x=none/\gs.lookup ⟨x.toArray⟩=none)\/∃w v,fs.lookup x=some w/\gs.lookup ⟨x.toArray⟩=some v/\RW K ι n H w v
 |_,_,.nil=>.inl ⟨rfl,rfl⟩
 |_,_,.cons (x:=y) (w:=w) (v:=v) a r=>by
  rw[List.lookup_cons,List.lookup_cons,str_beq];cases e:x== y with
  |true=>exact .inr ⟨w,v,rfl,rfl,a⟩
  |false=>exact RF.look r
theorem RF.put{x:Tw.S}{w:Tw.W}{v:V}(a:RW K ι n H w v):∀{fs:List (Tw.S×Tw.W)}{gs:List (Str×V)},RF K ι n H fs gs->RF K ι n H (Tw.eW x w fs) (cX ⟨x.toArray⟩ v gs)
 |_,_,.nil=>.cons a .nil
 |_,_,.cons (x:=y) b r=>by
  unfold Tw.eW L2.cX;by_cases e:y=x
  .subst e;rw[if_pos rfl,if_pos rfl];exact .cons a r
  .rw[if_neg e,if_neg (fun z=>e (str_inj.mp z))];exact .cons b (RF.put a r)
end
theorem dQ{env:Env}:∀{ys:List Expr},ys.all aG=true->starEach ys env=ys.map fun y=>(false,eval y env)
 |[],_=>rfl
 |y::r,h=>by
  rw[List.all_cons,Bool.and_eq_true] at h;rw[bu h.1,dQ h.2,List.map_cons]
section
variable {X:Cx}{E:XK}{a b c o e f:Expr}{pos apos cpos pos':Pos}{da db dc dv:Tw.Env->Tw.Hp->Tw.R Tw.W}
theorem HR.ins{K:Zk}{ι:Nat->Addr}{h:Tw.Hp}{H:L2.Hp}(r:HR K ι h H){i:Nat}{c:Tw.S}{fs:List (Tw.S×Tw.W)}(e:h[i]?=some (.ins c fs)):
  ∃C dx gs,(K.mg ⟨c.toArray⟩=some (.ref C)/\GoodC K.K C)/\H (ι i)=some (.ins C dx gs)/\RF K.K ι h.length H fs gs:=r.obj i _ e
theorem K9{x:Tw.S}(hx:(⟨x.toArray⟩:Str)∈wQ)(hb:attributeBase a ⟨x.toArray⟩ X.env (eval a X.env)=eval a X.env)(ha:PE X a (tE (zx X E) da)):
  PE X (.Attribute a ⟨x.toArray⟩ pos) (tE (zx X E) fun ρ h=>(da ρ h).bind fun w h=>Tw.R.of (Tw.field w x h) h):=by
 refine PE.imp (He ha hb) fun σ H Q Z=>Z.g fun ρ Z=>Z.g fun h Z=>Z.g fun ι Z=>Z.g fun at' p=>⟨ρ,h,ι,at',(step at' p).mono fun v H1 Z=>Z.g fun w Z=>Z.g fun h1 Z=>Z.g fun ι1 Z=>Z.g fun at1 Z=>Z.g fun e1 Z=>Z.g fun r1 p1=>?_⟩;cases r1 with
 | @ref i hi=>
  cases ei:h1[i]? with
  |none=>simp only[Tw.field,ei] at p1;exact p1.elim
  |some ob=>
   cases ob with
   |ins c fs=>
    simp only[Tw.field,ei] at p1;obtain⟨C,dx,gs,⟨_,gc⟩,q1,q2⟩:=at1.hr.ins ei;rcases q2.look (x:=x) with ⟨z,_⟩|⟨u,v,z1,z2,z3⟩
    .rw[z] at p1;exact p1.elim
    .rw[z1] at p1;exact⟨_,C,dx,gs,v,rfl,q1,gc.cls,gc.no _ hx,z2,ai.self (a:=u) p1 at1.hr z3⟩
   |_=>simp only[Tw.field,ei] at p1;exact p1.elim
 |_=>exact p1.elim
theorem Je{x:Tw.S}(hx:(⟨x.toArray⟩:Str)∈wQ)(hv:PE X b (tE (zx X E) dv))(ho:PE X o (tE (zx X E) da))(hs:swapsWith b (some (.Attribute o ⟨x.toArray⟩ pos')) pos.line X.env=pure false):
  PS X (.Assign [.Attribute o ⟨x.toArray⟩ pos'] b pos) (c9 (zx X E) fun ρ h=>(dv ρ h).bind fun v h=>(da ρ h).bind fun w h=>(Tw.putField w x v h).bind fun _ h=>.ok (.next ρ) h):=by
 refine PS.imp (Iv ho hv hs) fun D σ H Z=>Z.g fun ρ Z=>Z.g fun h Z=>Z.g fun ι Z=>Z.g fun at' p=>⟨ρ,h,ι,at',(fH at' p).mono fun y H1 Z=>Z.g fun wy Z=>Z.g fun h1 Z=>Z.g fun ι1 Z=>Z.g fun at1 Z=>Z.g fun e1 Z=>Z.g fun r1 p1=>⟨ρ,h1,ι1,at1,(fH at1 p1).mono fun z H2 Z=>Z.g fun w Z=>Z.g fun h2 Z=>Z.g fun ι2 Z=>Z.g fun at2 Z=>Z.g fun e2 Z=>Z.g fun r2 p2=>?_⟩⟩;cases r2 with
 | @ref i hi=>
  cases ei:h2[i]? with
  |none=>simp only[Tw.putField,ei] at p2;exact p2.elim
  |some ob=>
   cases ob with
   |ins c fs=>
    simp only[Tw.putField,ei] at p2;obtain⟨C,dx,gs,⟨mc,gc⟩,q1,q2⟩:=at2.hr.ins ei;by_cases cc:fs.length<1000
    .rw[if_pos cc] at p2;refine⟨_,C,dx,gs,rfl,q1,gc.cls,gc.no _ hx,by rw[<-q2.length];exact cc,?_⟩;have ry:=r1.keep (e2.keeps at1.hr);obtain⟨hr',ex⟩:=at2.hr.put (o:=.ins C dx (cX ⟨x.toArray⟩ y gs)) (u:=.ins c (Tw.eW x wy fs)) ei rfl rfl (fun _ z=>nomatch z) fun H' kp z=>⟨C,dx,_,⟨mc,gc⟩,z,((q2.keep kp).put (ry.keep kp))⟩;exact p2 ι2 _ σ ex (at2.later ex hr')
    .rw[if_neg cc] at p2;exact p2.elim
   |_=>simp only[Tw.putField,ei] at p2;exact p2.elim
 |_=>exact p2.elim
theorem wO{C:Addr}{cn:Tw.S}{F:List Tw.W->Tw.Hp->Tw.R Tw.W}(hm:X.mg ⟨cn.toArray⟩=some (.ref C))(gc:GoodC X.K C){ι1:Nat->Addr}{h1:Tw.Hp}{H1:L2.Hp}{ws:List Tw.W}{vs:List V}{Q:VK}(r:HR (zx X E) ι1 h1 H1)(rs:aL X.K ι1 h1.length H1 ws vs)
  (p:ai (zx X E) RE ι1 h1 H1 ((F (.ref h1.length::ws) (h1++[.ins cn []])).bind fun r h'=>match r with
   |.ah=>.ok (.ref h1.length) h'
   |_=>.bad) Q) (x dx:Addr) (hx:H1 x=none) (hdx:H1 dx=none) (ne:dx≠x):
  fk X.K X.mg F (.ref x::(vs++[])) (upd (upd H1 dx (.own x)) x (.ins C dx [])) (fun v H2=>v=.ah/\Q (.ref x) H2) E:=by
 obtain⟨r2,x2⟩:=r.grow (o:=.own x) hdx;have hx2:upd H1 dx (.own x) x=none:=by rw[aq ne.symm];exact hx
 obtain⟨r3,x3⟩:=r2.new (o:=.ins C dx []) (u:=.ins cn []) hx2 rfl fun ι' n' H' kp z=>⟨C,dx,[],⟨hm,gc⟩,z,.nil⟩;have x23:=x2.trans x3;have p':=ai.later p x23;refine⟨.ref h1.length::ws,_,_,r3,.cons ?_ (by rw[List.append_nil];exact rs.keep (x23.keeps r)),?_⟩
 .have z:RW X.K (eT ι1 h1.length x) (h1++[Tw.O.ins cn []]).length (upd (upd H1 dx (.own x)) x (.ins C dx [])) (.ref h1.length) (.ref (eT ι1 h1.length x h1.length)):=.ref (by simp);rw[cE] at z;exact z
 .cases e:F (.ref h1.length::ws) (h1++[.ins cn []]) with
  |bad=>rw[e] at p';exact p'.elim
  |aD a h'=>rw[e] at p';exact p'
  |ok u h2=>
   rw[e] at p';simp only[Tw.R.ak] at p';cases u with
   |ah=>
    intro ι4 H4 b e4 r4 rb;cases rb;refine⟨rfl,?_⟩;have hl:h1.length<(h1++[Tw.O.ins cn []]).length:=by simp
    have z:RW X.K ι4 h2.length H4 (.ref h1.length) (.ref (ι4 h1.length)):=.ref (Nat.lt_of_lt_of_le hl e4.len);rw[e4.same _ hl,cE] at z;exact p' ι4 H4 _ e4 r4 z
   |_=>exact p'.elim
theorem Pe{CX:eE}{k n:Nat}{C g:Addr}{fd:FuncData}{ps:List Str}{F:List Tw.W->Tw.Hp->Tw.R Tw.W}{cn:Tw.S}{p:Pos}{es:List Expr}{ds:Tw.Env->Tw.Hp->Tw.R (List Tw.W)}(M:Mk X.K C g)(gc:GoodC X.K C)
  (G:bU X.prog X.w X.K X.mg X.base CX k g fd ps (fk X.K X.mg F)) (hx:Passes CX X E) (hr:bI (k+1) X.A) (hg:Gl X ⟨cn.toArray⟩) (hm:X.mg ⟨cn.toArray⟩=some (.ref C)) (hb:Binds X.K fd ps [])
  (hs:PA X es (tA (zx X E) n ds)) (hd:((⟨cn.toArray⟩:Str)== ("__debug__" : Str))=false) (hpl:es.all aG=true):
  PE X (.Call (.Name ⟨cn.toArray⟩ p) es [] pos) (tE (zx X E) fun ρ h=>(ds ρ h).bind fun xs h=>(F (.ref h.length::xs) (h++[.ins cn []])).bind fun r h'=>match r with
   |.ah=>.ok (.ref h.length) h'
   |_=>.bad):=by
 cases es with
 |nil=>
  intro pins s σ H Q I ⟨ρ,h,ι,at',p⟩;have z:=hs ⟨0,0,0,0⟩ pins s σ H (fun vs H1=>∀x dx,H1 x=none->H1 dx=none->dx≠x->fk X.K X.mg F (.ref x::(vs++[])) (upd (upd H1 dx (.own x)) x (.ins C dx [])) (fun v H2=>v=.ah/\Q (.ref x) H2) E) I
   ⟨ρ,h,ι,at',(step at' p).mono fun xs H1 ⟨ws,h1,ι1,at1,e1,r1,p1⟩ x dx q1 q2 q3=>wO hm gc at1.hr r1.1 p1 x dx q1 q2 q3⟩
  refine wpAny_Call_Name_kw (ie I hg hm ?_ hd);refine PySem.W.callWith_K0 I.cR M.kp ?_;have z:wpAny (model X.prog X.w) X.A (pure []) _ _ s:=z;refine mI (v:=[]) z fun Z=>Z.g fun vs Z=>Z.g fun H1 Z=>Z.g fun I1 Z=>Z.g fun r1 q=>?_;cases r1;exact u9 (us:=[]) M G hr hb .nil hx I1 .nil q
 |cons e es=>
  refine PE.imp (Ff (dvs:=[]) (ds:=[]) (E:=E) M G hr hg hm hb .nil hx hs hd (bu (by rw[List.all_cons,Bool.and_eq_true] at hpl;exact hpl.1)) ?_) fun σ H Q Z=>Z.g fun ρ Z=>Z.g fun h Z=>Z.g fun ι Z=>Z.g fun at' p=>⟨ρ,h,ι,at',(step at' p).mono fun xs H1 ⟨ws,h1,ι1,at1,e1,r1,p1⟩ x dx q1 q2 q3=>wO hm gc at1.hr r1.1 p1 x dx q1 q2 q3⟩;rw[dQ (by rw[List.all_cons,Bool.and_eq_true] at hpl;exact hpl.2)];simp[backTo]
theorem my{m:Str}{es:List Expr}{env:Env}(hb:attributeBase o m env (eval o env)=eval o env)
  (hf:methodCallForm (es.length+([]:List Keyword).length) (backTo pos (starEach es env)) (backToKw pos (keywordEach [] env))=true) (hl:(apos.endLine== pos.line)=true):
  eval (.Call (.Attribute o m apos) es [] pos) env=(do
   let ov <-eval o env
   standAt apos.atName
   let (f,first) <-holding [ov] (getMethod ov m (do return (<-importBound o env).getD true))
   callWith pos f first (backTo pos (starEach es env)) (backToKw pos (keywordEach [] env))):=by
 rw[arm_eval_Call,hb];unfold methodCall calleeOf methodCallPos;rw[hf,hl];rfl
theorem Le{CX:eE}{k n:Nat}{C g:Addr}{fd:FuncData}{ps:List Str}{F:List Tw.W->Tw.Hp->Tw.R Tw.W}{cn m:Tw.S}{es:List Expr}{ds:Tw.Env->Tw.Hp->Tw.R (List Tw.W)}(hme:Meth X.K C ⟨m.toArray⟩ g)
  (G:bU X.prog X.w X.K X.mg X.base CX k g fd ps (fk X.K X.mg F)) (hx:Passes CX X E) (hr:bI k X.A) (hm:X.mg ⟨cn.toArray⟩=some (.ref C)) (gc:GoodC X.K C) (hb:Binds X.K fd ps [])
  (ho:PE X o (tE (zx X E) da)) (hs:PA X es (tA (zx X E) n ds)) (me:Me X o ⟨m.toArray⟩ apos es cpos) (hpl:es.all aG=true):
  PE X (.Call (.Attribute o ⟨m.toArray⟩ apos) es [] cpos) (tE (zx X E) fun ρ h=>(da ρ h).bind fun x h=>if Tw.dH x cn m h then (ds ρ h).bind fun xs h=>F (x::xs) h else .bad):=by
 have fin:∀σ H Q,tE (zx X E) (fun ρ h=>(da ρ h).bind fun x h=>if Tw.dH x cn m h then (ds ρ h).bind fun xs h=>F (x::xs) h else .bad) σ H Q->tF C ⟨m.toArray⟩ (fk X.K X.mg F) [] E (tE (zx X E) da) (tA (zx X E) n ds) σ H Q:=fun σ H Q Z=>Z.g fun ρ Z=>Z.g fun h Z=>Z.g fun ι Z=>Z.g fun at' p=>by
  refine⟨ρ,h,ι,at',(step at' p).mono fun x H1 Z=>Z.g fun w Z=>Z.g fun h1 Z=>Z.g fun ι1 Z=>Z.g fun at1 Z=>Z.g fun e1 Z=>Z.g fun r1 p1=>?_⟩;obtain⟨c1,pp⟩:=ai.ite p1;clear p1;cases r1 with
  | @ref i hi=>
   cases ei:h1[i]? with
   |none=>simp[Tw.dH,ei] at c1
   |some ob=>
    cases ob with
    |ins c' fs=>
     simp only[Tw.dH,ei,Bool.and_eq_true,decide_eq_true_eq] at c1;obtain⟨rfl,c2⟩:=c1;obtain⟨C',dx,gs,⟨mc,gc'⟩,q1,q2⟩:=at1.hr.ins ei;have ec:C'=C:=by have mc:X.mg ⟨c'.toArray⟩=some (.ref C'):=mc;rw[hm] at mc;cases mc;rfl
     subst ec;refine⟨_,dx,gs,rfl,q1,?_,ρ,h1,ι1,at1,(step at1 pp).mono fun xs H2 Z=>Z.g fun ws Z=>Z.g fun h2 Z=>Z.g fun ι2 Z=>Z.g fun at2 Z=>Z.g fun e2 Z=>Z.g fun r2 p2=>?_⟩
     .rcases q2.look (x:=m) with ⟨_,z⟩|⟨u,v,z,_⟩
      .exact z
      .rw[z] at c2;cases c2
     .rw[List.append_nil];exact⟨_,h2,ι2,at2.hr,.cons ((RW.ref hi).keep (e2.keeps at1.hr)) r2.1,p2⟩
    |_=>simp[Tw.dH,ei] at c1
  |_=>cases c1
 have ht:=my (apos:=apos) (pos:=cpos) me.base me.ko me.line;cases es with
 |nil=>
  intro pins s σ H Q I h;have q:=fin σ H Q h;refine PySem.W.methodCall_KW (aC (ho pins s σ H _ I q) fun u s1 Z=>Z.g fun x Z=>Z.g fun H1 Z=>Z.g fun I1 Z=>Z.g fun rx Z=>Z.g fun a Z=>Z.g fun dx Z=>Z.g fun fs Z=>Z.g fun ex Z=>Z.g fun ea Z=>Z.g fun l q=>?_) ht;subst ex;obtain rfl:u=Value.ref a:=rx;refine lh I1 ea gc.cls hme l ?_;have z:wpAny (model X.prog X.w) X.A (pure []) _ _ s1:=hs ⟨0,0,0,0⟩ pins s1 σ H1 _ I1 q;refine mI (v:=[]) z fun Z=>Z.g fun vs Z=>Z.g fun H2 Z=>Z.g fun I2 Z=>Z.g fun r2 q2=>?_;cases r2;exact PySem.W.callWith_K0 (first:=[.ref a]) I2.cR hme.kp (mW (us:=[.ref a]) (vs:=[.ref a]) G hr hb .nil hx I2 (.cons rfl .nil) q2)
 |cons e es=>
  refine PE.imp (E2 (dvs:=[]) (ds:=[]) (E:=E) ho gc.cls hme G hr hb .nil hx hs (bu (by rw[List.all_cons,Bool.and_eq_true] at hpl;exact hpl.1)) ?_ ht) fin;rw[dQ (by rw[List.all_cons,Bool.and_eq_true] at hpl;exact hpl.2)];simp[backTo]
end
noncomputable abbrev ay{α:Type}{p:α->Bool}{x:Option α}(e:x.any p=true):∃a,x=some a/\p a=true:=PySem.W.any_some e
theorem bS{α:Type}{l:List α}(h:l.isEmpty=true):l=[]:=List.isEmpty_iff.mp h
theorem pU{α:Type}{l:List α}(h:l.isEmpty=false):∃x r,l=x::r:=by
 cases l with
 |nil=>cases h
 |cons x r=>exact⟨x,r,rfl⟩
theorem dv{c:Prop}[Decidable c]{α:Type}{f:c->Option α}{r:α}(h:(if h:c then f h else none)=some r):∃hc,f hc=some r:=by
 by_cases hc:c
 .rw[dif_pos hc] at h;exact⟨hc,h⟩
 .rw[dif_neg hc] at h;cases h
noncomputable def wG(e:Expr)(h:e.ctorIdx=23):Option (Str):=Expr.Name.elim (motive_1:=fun _=>Option (Str)) e h fun x p=>some x
noncomputable def bz(e:Expr):Option (Str):=if h:e.ctorIdx=23 then wG e h else none
theorem aH{e:Expr}{r:Str}(h:bz e=some r):∃p,e=.Name r p:=
 let ⟨c,h⟩:=dv h
 Expr.Name.elim (motive_1:=fun e=>∀c,wG e c=some r->∃p,e=.Name r p) e c (fun x p _ h=>by cases h;exact⟨p,rfl⟩) c h
noncomputable def vc(e:Expr)(h:e.ctorIdx=19):Option (Const):=Expr.Constant.elim (motive_1:=fun _=>Option (Const)) e h fun x k p=>some x
noncomputable def wA(e:Expr):Option (Const):=if h:e.ctorIdx=19 then vc e h else none
theorem vC{e:Expr}{r:Const}(h:wA e=some r):∃k p,e=.Constant r k p:=
 let ⟨c,h⟩:=dv h
 Expr.Constant.elim (motive_1:=fun e=>∀c,vc e c=some r->∃k p,e=.Constant r k p) e c (fun x k p _ h=>by cases h;exact⟨k,p,rfl⟩) c h
noncomputable def AQ(e:Expr)(h:e.ctorIdx=25):Option (List Expr):=Expr.Tuple.elim (motive_1:=fun _=>Option (List Expr)) e h fun x k p=>some x
noncomputable def pf(e:Expr):Option (List Expr):=if h:e.ctorIdx=25 then AQ e h else none
theorem iK{e:Expr}{r:List Expr}(h:pf e=some r):∃k p,e=.Tuple r k p:=
 let ⟨c,h⟩:=dv h
 Expr.Tuple.elim (motive_1:=fun e=>∀c,AQ e c=some r->∃k p,e=.Tuple r k p) e c (fun x k p _ h=>by cases h;exact⟨k,p,rfl⟩) c h
noncomputable def Bu(e:Expr)(h:e.ctorIdx=24):Option (List Expr):=Expr.List.elim (motive_1:=fun _=>Option (List Expr)) e h fun x p=>some x
noncomputable def Dr(e:Expr):Option (List Expr):=if h:e.ctorIdx=24 then Bu e h else none
theorem Az{e:Expr}{r:List Expr}(h:Dr e=some r):∃p,e=.List r p:=
 let ⟨c,h⟩:=dv h
 Expr.List.elim (motive_1:=fun e=>∀c,Bu e c=some r->∃p,e=.List r p) e c (fun x p _ h=>by cases h;exact⟨p,rfl⟩) c h
noncomputable def v7(e:Expr)(h:e.ctorIdx=6):Option (List (Option Expr)×List Expr):=Expr.Dict.elim (motive_1:=fun _=>Option (List (Option Expr)×List Expr)) e h fun ks vs p=>some (ks,vs)
noncomputable def zA(e:Expr):Option (List (Option Expr)×List Expr):=if h:e.ctorIdx=6 then v7 e h else none
theorem ya{e:Expr}{r:List (Option Expr)×List Expr}(h:zA e=some r):∃p,e=.Dict r.1 r.2 p:=
 let ⟨c,h⟩:=dv h
 Expr.Dict.elim (motive_1:=fun e=>∀c,v7 e c=some r->∃p,e=.Dict r.1 r.2 p) e c (fun ks vs p _ h=>by cases h;exact⟨p,rfl⟩) c h
noncomputable def Aw(e:Expr)(h:e.ctorIdx=2):Option (Expr×Operator×Expr):=Expr.BinOp.elim (motive_1:=fun _=>Option (Expr×Operator×Expr)) e h fun x o y p=>some (x,o,y)
noncomputable def DI(e:Expr):Option (Expr×Operator×Expr):=if h:e.ctorIdx=2 then Aw e h else none
theorem zy{e:Expr}{r:Expr×Operator×Expr}(h:DI e=some r):∃p,e=.BinOp r.1 r.2.1 r.2.2 p:=
 let ⟨c,h⟩:=dv h
 Expr.BinOp.elim (motive_1:=fun e=>∀c,Aw e c=some r->∃p,e=.BinOp r.1 r.2.1 r.2.2 p) e c (fun x o y p _ h=>by cases h;exact⟨p,rfl⟩) c h
noncomputable def zW(e:Expr)(h:e.ctorIdx=15):Option (Expr×List CmpOp×List Expr):=Expr.Compare.elim (motive_1:=fun _=>Option (Expr×List CmpOp×List Expr)) e h fun x os ys p=>some (x,os,ys)
noncomputable def xN(e:Expr):Option (Expr×List CmpOp×List Expr):=if h:e.ctorIdx=15 then zW e h else none
theorem sd{e:Expr}{r:Expr×List CmpOp×List Expr}(h:xN e=some r):∃p,e=.Compare r.1 r.2.1 r.2.2 p:=
 let ⟨c,h⟩:=dv h
 Expr.Compare.elim (motive_1:=fun e=>∀c,zW e c=some r->∃p,e=.Compare r.1 r.2.1 r.2.2 p) e c (fun x os ys p _ h=>by cases h;exact⟨p,rfl⟩) c h
noncomputable def wc(e:Expr)(h:e.ctorIdx=0):Option (BoolOp×List Expr×Pos):=Expr.BoolOp.elim (motive_1:=fun _=>Option (BoolOp×List Expr×Pos)) e h fun o xs p=>some (o,xs,p)
noncomputable def vq(e:Expr):Option (BoolOp×List Expr×Pos):=if h:e.ctorIdx=0 then wc e h else none
theorem qy{e:Expr}{r:BoolOp×List Expr×Pos}(h:vq e=some r):e=.BoolOp r.1 r.2.1 r.2.2:=
 let ⟨c,h⟩:=dv h
 Expr.BoolOp.elim (motive_1:=fun e=>∀c,wc e c=some r->e=.BoolOp r.1 r.2.1 r.2.2) e c (fun o xs p _ h=>by cases h;exact rfl) c h
noncomputable def EA(e:Expr)(h:e.ctorIdx=3):Option (UnaryOp×Expr):=Expr.UnaryOp.elim (motive_1:=fun _=>Option (UnaryOp×Expr)) e h fun o x p=>some (o,x)
noncomputable def Ks(e:Expr):Option (UnaryOp×Expr):=if h:e.ctorIdx=3 then EA e h else none
theorem Cq{e:Expr}{r:UnaryOp×Expr}(h:Ks e=some r):∃p,e=.UnaryOp r.1 r.2 p:=
 let ⟨c,h⟩:=dv h
 Expr.UnaryOp.elim (motive_1:=fun e=>∀c,EA e c=some r->∃p,e=.UnaryOp r.1 r.2 p) e c (fun o x p _ h=>by cases h;exact⟨p,rfl⟩) c h
noncomputable def Dt(e:Expr)(h:e.ctorIdx=5):Option (Expr×Expr×Expr):=Expr.IfExp.elim (motive_1:=fun _=>Option (Expr×Expr×Expr)) e h fun z x y p=>some (z,x,y)
noncomputable def HK(e:Expr):Option (Expr×Expr×Expr):=if h:e.ctorIdx=5 then Dt e h else none
theorem B3{e:Expr}{r:Expr×Expr×Expr}(h:HK e=some r):∃p,e=.IfExp r.1 r.2.1 r.2.2 p:=
 let ⟨c,h⟩:=dv h
 Expr.IfExp.elim (motive_1:=fun e=>∀c,Dt e c=some r->∃p,e=.IfExp r.1 r.2.1 r.2.2 p) e c (fun z x y p _ h=>by cases h;exact⟨p,rfl⟩) c h
noncomputable def AY(e:Expr)(h:e.ctorIdx=21):Option (Expr×Expr):=Expr.Subscript.elim (motive_1:=fun _=>Option (Expr×Expr)) e h fun x y p=>some (x,y)
noncomputable def lQ(e:Expr):Option (Expr×Expr):=if h:e.ctorIdx=21 then AY e h else none
theorem jT{e:Expr}{r:Expr×Expr}(h:lQ e=some r):∃p,e=.Subscript r.1 r.2 p:=
 let ⟨c,h⟩:=dv h
 Expr.Subscript.elim (motive_1:=fun e=>∀c,AY e c=some r->∃p,e=.Subscript r.1 r.2 p) e c (fun x y p _ h=>by cases h;exact⟨p,rfl⟩) c h
noncomputable def Bh(e:Expr)(h:e.ctorIdx=26):Option (Option Expr×Option Expr×Option Expr):=Expr.Slice.elim (motive_1:=fun _=>Option (Option Expr×Option Expr×Option Expr)) e h fun l u s p=>some (l,u,s)
noncomputable def DX(e:Expr):Option (Option Expr×Option Expr×Option Expr):=if h:e.ctorIdx=26 then Bh e h else none
theorem Ae{e:Expr}{r:Option Expr×Option Expr×Option Expr}(h:DX e=some r):∃p,e=.Slice r.1 r.2.1 r.2.2 p:=
 let ⟨c,h⟩:=dv h
 Expr.Slice.elim (motive_1:=fun e=>∀c,Bh e c=some r->∃p,e=.Slice r.1 r.2.1 r.2.2 p) e c (fun l u s p _ h=>by cases h;exact⟨p,rfl⟩) c h
noncomputable def xo(e:Expr)(h:e.ctorIdx=16):Option (Expr×List Expr×List Keyword×Pos):=Expr.Call.elim (motive_1:=fun _=>Option (Expr×List Expr×List Keyword×Pos)) e h fun f as ks p=>some (f,as,ks,p)
noncomputable def pM(e:Expr):Option (Expr×List Expr×List Keyword×Pos):=if h:e.ctorIdx=16 then xo e h else none
theorem lM{e:Expr}{r:Expr×List Expr×List Keyword×Pos}(h:pM e=some r):e=.Call r.1 r.2.1 r.2.2.1 r.2.2.2:=
 let ⟨c,h⟩:=dv h
 Expr.Call.elim (motive_1:=fun e=>∀c,xo e c=some r->e=.Call r.1 r.2.1 r.2.2.1 r.2.2.2) e c (fun f as ks p _ h=>by cases h;exact rfl) c h
noncomputable def w9(e:Expr)(h:e.ctorIdx=20):Option (Expr×Str×Pos):=Expr.Attribute.elim (motive_1:=fun _=>Option (Expr×Str×Pos)) e h fun v x p=>some (v,x,p)
noncomputable def ju(e:Expr):Option (Expr×Str×Pos):=if h:e.ctorIdx=20 then w9 e h else none
theorem gL{e:Expr}{r:Expr×Str×Pos}(h:ju e=some r):e=.Attribute r.1 r.2.1 r.2.2:=
 let ⟨c,h⟩:=dv h
 Expr.Attribute.elim (motive_1:=fun e=>∀c,w9 e c=some r->e=.Attribute r.1 r.2.1 r.2.2) e c (fun v x p _ h=>by cases h;exact rfl) c h
noncomputable def wX(e:Expr)(h:e.ctorIdx=8):Option (Expr×List Comprehension×Scope×Pos):=Expr.ListComp.elim (motive_1:=fun _=>Option (Expr×List Comprehension×Scope×Pos)) e h fun y g scope p=>some (y,g,scope,p)
noncomputable def tV(e:Expr):Option (Expr×List Comprehension×Scope×Pos):=if h:e.ctorIdx=8 then wX e h else none
theorem i9{e:Expr}{r:Expr×List Comprehension×Scope×Pos}(h:tV e=some r):e=.ListComp r.1 r.2.1 r.2.2.1 r.2.2.2:=
 let ⟨c,h⟩:=dv h
 Expr.ListComp.elim (motive_1:=fun e=>∀c,wX e c=some r->e=.ListComp r.1 r.2.1 r.2.2.1 r.2.2.2) e c (fun y g scope p _ h=>by cases h;exact rfl) c h
noncomputable def tw:BoolOp->Bool
 |.And=>true
 |.Or=>false
noncomputable def DC:UnaryOp->Bool
 |.Not=>true
 |_=>false
theorem Aq{o:UnaryOp}(h:DC o=true):o=.Not:=by cases o<;>first|rfl|cases h
noncomputable def il{α:Type}:List α->Option α
 |[x]=>some x
 |_=>none
theorem cS{α:Type}{l:List α}{x:α}(h:il l=some x):l=[x]:=by rcases l with _|⟨a,_|⟨b,r⟩⟩<;>first|(cases h;rfl)|cases h
noncomputable def xM{α:Type}:List α->Option (α×α)
 |[x,y]=>some (x,y)
 |_=>none
theorem lS{α:Type}{l:List α}{r:α×α}(h:xM l=some r):l=[r.1,r.2]:=by rcases l with _|⟨a,_|⟨b,_|⟨c,q⟩⟩⟩<;>first|(cases h;rfl)|cases h
noncomputable def n5{α:Type}:List α->Option (α×List α)
 |x::r=>some (x,r)
 |[]=>none
theorem eK{α:Type}{l:List α}{r:α×List α}(h:n5 l=some r):l=r.1::r.2:=by cases l<;>first|(cases h;rfl)|cases h
noncomputable def mZ(e:Expr):Option (Str×List Expr):=(pM e).bind fun r=>if r.2.2.1.isEmpty then (bz r.1).map fun x=>(x,r.2.1) else none
theorem gi{e:Expr}{r:Str×List Expr}(h:mZ e=some r):∃p q,e=.Call (.Name r.1 p) r.2 [] q:=by
 obtain⟨⟨f,as,ks,q⟩,e1,e2⟩:=Option.bind_eq_some_iff.mp h;have z:=lM e1;dsimp only at e2 z;cases ks with
 |cons _ _=>cases e2
 |nil=>
  obtain⟨x,e3,rfl⟩:=Option.map_eq_some_iff.mp e2;obtain⟨p,rfl⟩:=aH e3;exact⟨p,q,z⟩
noncomputable def uE(e:Expr):Option (Expr×Str×Pos×List Expr×Pos):=(pM e).bind fun r=>if r.2.2.1.isEmpty then (ju r.1).map fun a=>(a.1,a.2.1,a.2.2,r.2.1,r.2.2.2) else none
theorem lP{e:Expr}{r:Expr×Str×Pos×List Expr×Pos}(h:uE e=some r):e=.Call (.Attribute r.1 r.2.1 r.2.2.1) r.2.2.2.1 [] r.2.2.2.2:=by
 obtain⟨⟨f,as,ks,q⟩,e1,e2⟩:=Option.bind_eq_some_iff.mp h;have z:=lM e1;dsimp only at e2 z;cases ks with
 |cons _ _=>cases e2
 |nil=>
  obtain⟨a,e3,rfl⟩:=Option.map_eq_some_iff.mp e2;rw[gL e3] at z;exact z
noncomputable def xK(g:List Comprehension):Option (Expr×Expr×List Expr):=(il g).bind fun c=>match c with
 |⟨t,it,ifs,n⟩=>if n=0 then some (t,it,ifs) else none
theorem jG{g:List Comprehension}{r:Expr×Expr×List Expr}(h:xK g=some r):g=[⟨r.1,r.2.1,r.2.2,0⟩]:=by
 obtain⟨⟨t,it,ifs,n⟩,e1,e2⟩:=Option.bind_eq_some_iff.mp h;rw[cS e1];dsimp only at e2;by_cases c:n=0
 .rw[if_pos c] at e2;cases e2;rw[c]
 .rw[if_neg c] at e2;cases e2
noncomputable def An(e:Stmt)(h:e.ctorIdx=24):Option (Expr):=Stmt.Expr.elim (motive_2:=fun _=>Option (Expr)) e h fun x p=>some x
noncomputable def sZ(e:Stmt):Option (Expr):=if h:e.ctorIdx=24 then An e h else none
theorem mH{e:Stmt}{r:Expr}(h:sZ e=some r):∃p,e=.Expr r p:=
 let ⟨c,h⟩:=dv h
 Stmt.Expr.elim (motive_2:=fun e=>∀c,An e c=some r->∃p,e=.Expr r p) e c (fun x p _ h=>by cases h;exact⟨p,rfl⟩) c h
noncomputable def Eh(e:Stmt)(h:e.ctorIdx=3):Option (Option Expr):=Stmt.Return.elim (motive_2:=fun _=>Option (Option Expr)) e h fun x p=>some x
noncomputable def yV(e:Stmt):Option (Option Expr):=if h:e.ctorIdx=3 then Eh e h else none
theorem oY{e:Stmt}{r:Option Expr}(h:yV e=some r):∃p,e=.Return r p:=
 let ⟨c,h⟩:=dv h
 Stmt.Return.elim (motive_2:=fun e=>∀c,Eh e c=some r->∃p,e=.Return r p) e c (fun x p _ h=>by cases h;exact⟨p,rfl⟩) c h
noncomputable def DD(e:Stmt)(h:e.ctorIdx=5):Option (List Expr×Expr×Pos):=Stmt.Assign.elim (motive_2:=fun _=>Option (List Expr×Expr×Pos)) e h fun ts v p=>some (ts,v,p)
noncomputable def CG(e:Stmt):Option (List Expr×Expr×Pos):=if h:e.ctorIdx=5 then DD e h else none
theorem ue{e:Stmt}{r:List Expr×Expr×Pos}(h:CG e=some r):e=.Assign r.1 r.2.1 r.2.2:=
 let ⟨c,h⟩:=dv h
 Stmt.Assign.elim (motive_2:=fun e=>∀c,DD e c=some r->e=.Assign r.1 r.2.1 r.2.2) e c (fun ts v p _ h=>by cases h;exact rfl) c h
noncomputable def Kt(e:Stmt)(h:e.ctorIdx=12):Option (Expr×List Stmt×List Stmt):=Stmt.If.elim (motive_2:=fun _=>Option (Expr×List Stmt×List Stmt)) e h fun x ys zs p=>some (x,ys,zs)
noncomputable def oa(e:Stmt):Option (Expr×List Stmt×List Stmt):=if h:e.ctorIdx=12 then Kt e h else none
theorem FC{e:Stmt}{r:Expr×List Stmt×List Stmt}(h:oa e=some r):∃p,e=.If r.1 r.2.1 r.2.2 p:=
 let ⟨c,h⟩:=dv h
 Stmt.If.elim (motive_2:=fun e=>∀c,Kt e c=some r->∃p,e=.If r.1 r.2.1 r.2.2 p) e c (fun x ys zs p _ h=>by cases h;exact⟨p,rfl⟩) c h
noncomputable def Ex(e:Stmt)(h:e.ctorIdx=9):Option (Expr×Expr×List Stmt×List Stmt):=Stmt.For.elim (motive_2:=fun _=>Option (Expr×Expr×List Stmt×List Stmt)) e h fun t i ys zs p=>some (t,i,ys,zs)
noncomputable def GG(e:Stmt):Option (Expr×Expr×List Stmt×List Stmt):=if h:e.ctorIdx=9 then Ex e h else none
theorem C5{e:Stmt}{r:Expr×Expr×List Stmt×List Stmt}(h:GG e=some r):∃p,e=.For r.1 r.2.1 r.2.2.1 r.2.2.2 p:=
 let ⟨c,h⟩:=dv h
 Stmt.For.elim (motive_2:=fun e=>∀c,Ex e c=some r->∃p,e=.For r.1 r.2.1 r.2.2.1 r.2.2.2 p) e c (fun t i ys zs p _ h=>by cases h;exact⟨p,rfl⟩) c h
noncomputable def Bd(e:Stmt)(h:e.ctorIdx=25):Option (Unit):=Stmt.Pass.elim (motive_2:=fun _=>Option (Unit)) e h fun p=>some ()
noncomputable def Dv(e:Stmt):Option (Unit):=if h:e.ctorIdx=25 then Bd e h else none
theorem Br{e:Stmt}{r:Unit}(h:Dv e=some r):∃p,e=.Pass p:=
 let ⟨c,h⟩:=dv h
 Stmt.Pass.elim (motive_2:=fun e=>∀c,Bd e c=some r->∃p,e=.Pass p) e c (fun p _ h=>by cases h;exact⟨p,rfl⟩) c h
noncomputable def Ez(e:Stmt)(h:e.ctorIdx=26):Option (Unit):=Stmt.Break.elim (motive_2:=fun _=>Option (Unit)) e h fun p=>some ()
noncomputable def Iw(e:Stmt):Option (Unit):=if h:e.ctorIdx=26 then Ez e h else none
theorem CC{e:Stmt}{r:Unit}(h:Iw e=some r):∃p,e=.Break p:=
 let ⟨c,h⟩:=dv h
 Stmt.Break.elim (motive_2:=fun e=>∀c,Ez e c=some r->∃p,e=.Break p) e c (fun p _ h=>by cases h;exact⟨p,rfl⟩) c h
noncomputable def AA(e:Stmt)(h:e.ctorIdx=27):Option (Unit):=Stmt.Continue.elim (motive_2:=fun _=>Option (Unit)) e h fun p=>some ()
noncomputable def DR(e:Stmt):Option (Unit):=if h:e.ctorIdx=27 then AA e h else none
theorem Bj{e:Stmt}{r:Unit}(h:DR e=some r):∃p,e=.Continue p:=
 let ⟨c,h⟩:=dv h
 Stmt.Continue.elim (motive_2:=fun e=>∀c,AA e c=some r->∃p,e=.Continue p) e c (fun p _ h=>by cases h;exact⟨p,rfl⟩) c h
noncomputable def DU(e:Stmt)(h:e.ctorIdx=7):Option (Expr×Operator×Expr):=Stmt.AugAssign.elim (motive_2:=fun _=>Option (Expr×Operator×Expr)) e h fun t o v p=>some (t,o,v)
noncomputable def KH(e:Stmt):Option (Expr×Operator×Expr):=if h:e.ctorIdx=7 then DU e h else none
theorem C8{e:Stmt}{r:Expr×Operator×Expr}(h:KH e=some r):∃p,e=.AugAssign r.1 r.2.1 r.2.2 p:=
 let ⟨c,h⟩:=dv h
 Stmt.AugAssign.elim (motive_2:=fun e=>∀c,DU e c=some r->∃p,e=.AugAssign r.1 r.2.1 r.2.2 p) e c (fun t o v p _ h=>by cases h;exact⟨p,rfl⟩) c h
noncomputable def DO(e:Stmt)(h:e.ctorIdx=11):Option (Expr×List Stmt×List Stmt):=Stmt.While.elim (motive_2:=fun _=>Option (Expr×List Stmt×List Stmt)) e h fun x ys zs p=>some (x,ys,zs)
noncomputable def Hf(e:Stmt):Option (Expr×List Stmt×List Stmt):=if h:e.ctorIdx=11 then DO e h else none
theorem BA{e:Stmt}{r:Expr×List Stmt×List Stmt}(h:Hf e=some r):∃p,e=.While r.1 r.2.1 r.2.2 p:=
 let ⟨c,h⟩:=dv h
 Stmt.While.elim (motive_2:=fun e=>∀c,DO e c=some r->∃p,e=.While r.1 r.2.1 r.2.2 p) e c (fun x ys zs p _ h=>by cases h;exact⟨p,rfl⟩) c h
noncomputable def wR(e:Stmt)(h:e.ctorIdx=16):Option (Option Expr×Option Expr):=Stmt.Raise.elim (motive_2:=fun _=>Option (Option Expr×Option Expr)) e h fun x c p=>some (x,c)
noncomputable def zw(e:Stmt):Option (Option Expr×Option Expr):=if h:e.ctorIdx=16 then wR e h else none
theorem yU{e:Stmt}{r:Option Expr×Option Expr}(h:zw e=some r):∃p,e=.Raise r.1 r.2 p:=
 let ⟨c,h⟩:=dv h
 Stmt.Raise.elim (motive_2:=fun e=>∀c,wR e c=some r->∃p,e=.Raise r.1 r.2 p) e c (fun x c p _ h=>by cases h;exact⟨p,rfl⟩) c h
noncomputable def DF(e:Stmt)(h:e.ctorIdx=17):Option (List Stmt×List ExceptHandler×List Stmt×List Stmt):=Stmt.Try.elim (motive_2:=fun _=>Option (List Stmt×List ExceptHandler×List Stmt×List Stmt)) e h fun b hs o f p=>some (b,hs,o,f)
noncomputable def Kv(e:Stmt):Option (List Stmt×List ExceptHandler×List Stmt×List Stmt):=if h:e.ctorIdx=17 then DF e h else none
theorem BQ{e:Stmt}{r:List Stmt×List ExceptHandler×List Stmt×List Stmt}(h:Kv e=some r):∃p,e=.Try r.1 r.2.1 r.2.2.1 r.2.2.2 p:=
 let ⟨c,h⟩:=dv h
 Stmt.Try.elim (motive_2:=fun e=>∀c,DF e c=some r->∃p,e=.Try r.1 r.2.1 r.2.2.1 r.2.2.2 p) e c (fun b hs o f p _ h=>by cases h;exact⟨p,rfl⟩) c h
noncomputable def C7:List ExceptHandler->Option (Str×Str×Stmt)
 |[h]=>match h with
  |.ExceptHandler t n b _=>t.bind fun e=>(bz e).bind fun x=>n.bind fun y=>(il b).map fun s=>(x,y,s)
 |_=>none
theorem Dd{l:List ExceptHandler}{r:Str×Str×Stmt}(h:C7 l=some r):∃p q,l=[.ExceptHandler (some (.Name r.1 p)) (some r.2.1) [r.2.2] q]:=by
 rcases l with _|⟨⟨t,n,b,q⟩,_|⟨h2,l⟩⟩
 .cases h
 .obtain⟨e,rfl,h⟩:=Option.bind_eq_some_iff.mp h;obtain⟨x,e1,h⟩:=Option.bind_eq_some_iff.mp h;obtain⟨y,rfl,h⟩:=Option.bind_eq_some_iff.mp h;obtain⟨s,e2,rfl⟩:=Option.map_eq_some_iff.mp h;obtain⟨p,rfl⟩:=aH e1;rw[cS e2];exact⟨p,q,rfl⟩
 .cases h
theorem u4{f:Str}{v:V}:∀{gs:List (Str×V)},f∉gs.map (·.1)->cX f v gs=gs++[(f,v)]
 |[],_=>rfl
 |(k,x)::r,h=>by
  have h1:¬ k=f:=fun z=>h (by simp[z]);have h2:f∉r.map (·.1):=fun z=>h (by simp[z]);unfold cX;rw[if_neg h1,u4 h2];rfl
def Ar(K:PySem.W.Frag):Nat->List Str->TS
 |_,[]=>xV
 |j,p::ps=>CU (tX K j p) (Ar K (j+1) ps)
theorem uT{K:PySem.W.Frag}{C e dx:Addr}{D:Ends}{σ:L2.St}(c:XC K C)(h0:σ[0]?=some (some (.ref e))):∀(ps:List Str)(us:List V)(j:Nat)(gs:List (Str×V))(H:L2.Hp),us.length=ps.length->(∀i u,us[i]?=some u->σ[j+i]?=some (some u))->(∀p∈ps,bh K C p)->ps.Nodup->
  (∀p∈ps,p∉gs.map (·.1))->gs.length+ps.length<=1000->H e=some (fM C (some dx) e)->H dx=some (.xd gs)->dx≠e->D.nx σ (upd H dx (.xd (gs++ps.zip us)))->Ar K j ps D σ H
 |[],us,j,gs,H,hl,hs,hn,nd,ng,hz,he,hd,ne,q=>by
  show D.nx σ H;have:upd H dx (.xd (gs++([]:List Str).zip us))=H:=by
   funext b;unfold upd;by_cases z:b=dx
   .subst z;simp[hd]
   .simp[z]
  rw[this] at q;exact q
 |p::ps,[],j,gs,H,hl,_,_,_,_,_,_,_,_,_=>by cases hl
 |p::ps,u::us,j,gs,H,hl,hs,hn,nd,ng,hz,he,hd,ne,q=>by
  have np:=ng p (by simp);have nd':=List.nodup_cons.mp nd;refine⟨e,u,C,h0,by simpa using hs 0 u rfl,c,hn p (by simp),.inr ⟨dx,gs,he,hd,by simp at hz;omega,?_⟩⟩;rw[u4 np];refine uT c h0 ps us (j+1) (gs++[(p,u)]) _ (by simpa using hl) (fun i v hv=>by rw[show j+1+i=j+(i+1) by omega];exact hs (i+1) v (by simpa using hv)) (fun p' hp=>hn p' (by simp[hp])) nd'.2 (fun p' hp=>?_) (by simp at hz⊢;omega) (by rw[aq (Ne.symm ne)];exact he) aJ ne ?_
  .have:=ng p' (by simp[hp]);simp only[List.map_append,List.mem_append,List.map_cons,List.map_nil,List.mem_singleton]
   rintro (z|z)
   .exact this z
   .subst z;exact nd'.1 hp
  .rw[nM];simpa using q
noncomputable def kG(K:PySem.W.Frag)(fs:List Str):Sp:=fun vs H Q _=>∃e C us,vs=.ref e::us/\us.length=fs.length/\XC K C/\(∀f∈fs,bh K C f)/\H e=some (fM C none e)/\∀dx,H dx=none->dx≠e->Q .ah (upd (upd H dx (.xd (fs.zip us))) e (fM C (some dx) e))
theorem kG.len{K:PySem.W.Frag}{sf:Str}{fs:List Str}:∀vs H Q E,kG K fs vs H Q E->vs.length=(sf::fs).length:=fun vs H Q E Z=>Z.g fun e Z=>Z.g fun C Z=>Z.g fun us Z=>Z.g fun h1 Z=>Z.g fun h2 _=>by subst h1;simp[h2]
noncomputable def okN(x:Str):Bool:=!(x== ("__debug__" : Str))&&!(x== ("__classdict__" : Str))
noncomputable def Kh(s:Stmt):Option (Str×Str×Str):=(CG s).bind fun r=>(il r.1).bind fun t=>(ju t).bind fun q=>(bz q.1).bind fun a=>(bz r.2.1).map fun y=>(a,q.2.1,y)
theorem CS{s:Stmt}{r:Str×Str×Str}(h:Kh s=some r):∃p1 p2 p3 p4,s=.Assign [.Attribute (.Name r.1 p1) r.2.1 p2] (.Name r.2.2 p3) p4:=by obtain⟨⟨ts,v,p4⟩,e1,h⟩:=Option.bind_eq_some_iff.mp h;obtain⟨t,e2,h⟩:=Option.bind_eq_some_iff.mp h;obtain⟨⟨w,f,p2⟩,e3,h⟩:=Option.bind_eq_some_iff.mp h;obtain⟨a,e4,h⟩:=Option.bind_eq_some_iff.mp h;obtain⟨y,e5,rfl⟩:=Option.map_eq_some_iff.mp h;obtain⟨p1,z1⟩:=aH e4;obtain⟨p3,z2⟩:=aH e5;have z3:=gL e3;have z4:=cS e2;have z5:=ue e1;dsimp only at z1 z2 z3 z4 z5⊢;exact⟨p1,p2,p3,p4,by rw[z5,z4,z3,z1,z2]⟩
def nL(sf:Str):List Str->List Stmt->Bool
 |[],ss=>ss.isEmpty
 |p::ps,ss=>(n5 ss).any fun r=>(Kh r.1).any fun q=>decide (q.1=sf)&&decide (q.2.1=p)&&decide (q.2.2=p)&&okN p&&nL sf ps r.2
theorem okN.d{x:Str}(h:okN x=true):(x== ("__debug__" : Str))=false/\(x== ("__classdict__" : Str))=false:=by unfold okN at h;simpa using h
section
variable {X:Cx}
theorem uD{sf:Str}(h0:X.N[0]?=some sf)(v0:iX X.env.scope sf)(o0:okN sf=true):∀(ps:List Str)(ss:List Stmt)(j:Nat),nL sf ps ss=true->(∀i p,ps[i]?=some p->X.N[j+i]?=some p)->(∀p∈ps,iX X.env.scope p)->eB X ss (Ar X.K j ps)
 |[],ss,j,h,_,_=>by
  unfold nL at h;rw[bS h];exact xj
 |p::ps,ss,j,h,hN,hv=>by
  unfold nL at h;replace h:=ay h;obtain⟨⟨s,r⟩,e1,h⟩:=h;obtain rfl:=eK e1;replace h:=ay h;obtain⟨⟨a,f,y⟩,e2,h⟩:=h;obtain⟨p1,p2,p3,p4,z⟩:=CS e2;dsimp only at z h⊢;simp only[Bool.and_eq_true,decide_eq_true_eq] at h;obtain⟨⟨⟨⟨rfl,rfl⟩,rfl⟩,ho⟩,hr⟩:=h;rw[z];exact oP (Pw h0 v0 (by simpa using hN 0 _ rfl) (hv _ (by simp)) (okN.d o0).1 (okN.d o0).2 (okN.d ho).1 (okN.d ho).2) (uD h0 v0 o0 ps r (j+1) hr (fun i q hq=>by rw[show j+1+i=j+(i+1) by omega];exact hN (i+1) q (by simpa using hq)) fun q hq=>hv q (by simp[hq]))
structure m7(K:PySem.W.Frag)(R f:Addr):Prop where
 ga:PySem.W.specialIn K (.ref R) "__getattribute__" = some (some (.builtin "type.__getattribute__"))
 rd:PySem.W.readsIn K R (.type "type")=true
 at_:PySem.W.findCls K (.ref R) (.type "type") "__init__" = some (.val (.ref f))
 kp:PySem.W.keepIn K (.ref f)=true
theorem Fs{CX:eE}{k:Nat}{f R:Addr}{fd:FuncData}{ps:List Str}{sp:Sp}{E:XK}{x:Str}{p pos apos:Pos}{e:Expr}{es:List Expr}{t:TA}(B:m7 X.K R f)(F:bU X.prog X.w X.K X.mg X.base CX k f fd ps sp)(hr:bI k X.A)(hg:Gl X x)(hm:X.mg x=some (.ref R))(hb:Binds X.K fd ps [])(hx:Passes CX X E)(ha:PA X (e::es) t)
  (hdb:(x== ("__debug__" : Str))=false) (hst:starEach (e::es) X.env=(false,eval e X.env)::starEach es X.env) (hpl:(backTo pos (starEach es X.env)).any (·.1)=false) {pl:Sem Bool}
  (ht:eval (.Call (.Attribute (.Name x p) "__init__" apos) (e::es) [] pos) X.env=(do
   let ov <-eval (.Name x p) X.env
   standAt apos.atName
   let (f,first) <-holding [ov] (getMethod ov "__init__" pl)
   callWith pos f first (backTo pos (starEach (e::es) X.env)) (backToKw pos (keywordEach [] X.env)))):
  PE X (.Call (.Attribute (.Name x p) "__init__" apos) (e::es) [] pos) (xr sp [] E t):=by
 intro pins s σ H Q I h;refine PySem.W.methodCall_KW (pl:=pl) (ie I hg hm (PySem.W.method_cls I.cR B.ga (PySem.W.cls_value I.cR B.rd B.at_ rfl ?_)) hdb) ht;have I1:=I.tok (s.toks+1);refine PySem.W.callWith_K (first:=[]) (h₀:=X.base) I.ok.mod.p7 B.kp (aC (ha pos pins _ σ H _ I1 h) fun us s2 Z=>Z.g4 fun vs H2 I2 r q2=>⟨I2.cR,?_⟩) hst hpl;exact mW (us:=us) (vs:=vs) F hr hb .nil hx I2 r q2
end
def uP(d:Stmt)(N:List Str):Bool:=match N with
 |sf::p::ps=>decide ((aj d).kind=.function)&&!(aj d).isCoroutine&&!(aj d).isGenerator&&decide N.Nodup&&N.all (fun x=>decide ((aj d).names.lookup x=some .local))&&(aj d).names.all (fun y=>decide (y.2≠.free))&&N.all okN&&decide (ps.length<=100)&&nL sf (p::ps) (bR d)
 |_=>false
section
variable {P:Program}{w:World}{K:PySem.W.Frag}{mg:Str->Option Value}{base:Heap}
theorem fj{N:List Str}{vs:List V}{i:Nat}{v:V}(h:vs[i]?=some v):(start N vs)[i]?=some (some v):=by unfold L2.start;have hi:i<vs.length:=(List.getElem?_eq_some_iff.mp h).1;rw[List.getElem?_append_left (by simpa using hi),List.getElem?_map,h];rfl
theorem uu{k:Nat}{x qual:Str}{st:Stmt}{f:Addr}{fd:FuncData}{sf p:Str}{ps:List Str}(F:qj K x qual st f fd)(h:uP st (sf::p::ps)=true):bU P w K mg base (dG P w) (k+1) f fd (sf::p::ps) (kG K (p::ps)):=by
 unfold uP at h;simp only[Bool.and_eq_true,decide_eq_true_eq,Bool.not_eq_true',List.all_eq_true] at h;obtain⟨⟨⟨⟨⟨⟨⟨⟨h1,h2⟩,h3⟩,h4⟩,h5⟩,h6⟩,h7⟩,hz⟩,h8⟩:=h;have S:jc (sf::p::ps) (sf::p::ps) (aj st):=⟨h1,h2,h3,h4,List.take_length,fun y hy=>.inl (h5 y hy),h6⟩;obtain⟨oc,od,kV,doc,pm,an,cdv,ct,osl,rfl,lk,hcd⟩:=F.ex;refine xS lk hcd S kG.len fun A outer s H vs Q E hr Z=>Z.g6 fun e C us e1 e2 c Z=>Z.g fun n Z=>Z.g fun he q=>⟨Ar K 1 (p::ps),?_,?_⟩
 .exact uD (X:=j3 (dG P w) P w K mg base (sf::p::ps) qual (aj st) f cdv A outer s H E) rfl (.inl (h5 sf (by simp))) (h7 sf (by simp)) (p::ps) _ 1 h8 (fun i q hq=>by rw[show 1+i=i+1 by omega];exact hq) fun q hq=>.inl (h5 q (List.mem_cons_of_mem _ hq))
 .subst e1;cases us with
  |nil=>cases e2
  |cons u us=>
   have nd:=List.nodup_cons.mp (List.nodup_cons.mp h4).2;refine⟨e,u,C,fj rfl,fj rfl,c,n p (by simp),.inl ⟨he,fun dx z1 z2=>?_⟩⟩;refine uT (dx:=dx) c (fj rfl) ps us 2 [(p,u)] _ (by simpa using e2) (fun i v hv=>fj (by rw[show 2+i=i+2 by omega];simpa using hv)) (fun p' hp=>n p' (by simp[hp])) nd.2 (fun p' hp=>?_) (by simp;omega) aJ (by rw[aq z2,aJ]) z2 ?_
   .simp;intro z;subst z;exact nd.1 hp
   .have:=q dx z1 z2;rw[zQ z2];simpa using this
noncomputable def IK(s:Stmt):Option (Str×Str×Pos×Str×Str×Pos):=(sZ s).bind fun e=>(uE e).bind fun q=>(bz q.1).bind fun a=>(xM q.2.2.2.1).bind fun z=>(bz z.1).bind fun b=>(bz z.2).map fun c=>(a,q.2.1,q.2.2.1,b,c,q.2.2.2.2)
theorem Dc{s:Stmt}{r:Str×Str×Pos×Str×Str×Pos}(h:IK s=some r):∃p1 p2 p3 p4,s=.Expr (.Call (.Attribute (.Name r.1 p1) r.2.1 r.2.2.1) [.Name r.2.2.2.1 p2,.Name r.2.2.2.2.1 p3] [] r.2.2.2.2.2) p4:=by obtain⟨e,e1,h⟩:=Option.bind_eq_some_iff.mp h;obtain⟨⟨v,m,ap,as,cp⟩,e2,h⟩:=Option.bind_eq_some_iff.mp h;obtain⟨a,e3,h⟩:=Option.bind_eq_some_iff.mp h;obtain⟨⟨x,y⟩,e4,h⟩:=Option.bind_eq_some_iff.mp h;obtain⟨b,e5,h⟩:=Option.bind_eq_some_iff.mp h;obtain⟨c,e6,rfl⟩:=Option.map_eq_some_iff.mp h;obtain⟨p4,z1⟩:=mH e1;have z2:=lP e2;obtain⟨p1,z3⟩:=aH e3;have z4:=lS e4;obtain⟨p2,z5⟩:=aH e5;obtain⟨p3,z6⟩:=aH e6;dsimp only at z1 z2 z3 z4 z5 z6⊢;exact⟨p1,p2,p3,p4,by rw[z1,z2,z3,z4,z5,z6]⟩
def yq(r:Str)(d:Stmt)(N:List Str):Bool:=match N with
 |sf::p::ps=>decide ((aj d).kind=.function)&&!(aj d).isCoroutine&&!(aj d).isGenerator&&decide N.Nodup&&N.all (fun x=>decide ((aj d).names.lookup x=some .local))&&(aj d).names.all (fun y=>decide (y.2≠.free))&&N.all okN&&decide (ps.length<=100)&&decide ((aj d).names.lookup r=some .globalImplicit)&&okN r&&
  ((n5 (bR d)).any fun t=>(IK t.1).any fun q=>decide (q.1=r)&&decide (q.2.1=("__init__" : Str))&&decide (q.2.2.2.1=sf)&&decide (q.2.2.2.2.1=p)&&(q.2.2.1.endLine== q.2.2.2.2.2.line)&&nL sf ps t.2)
 |_=>false
theorem Cd{k:Nat}{x qual r:Str}{st:Stmt}{f g R:Addr}{fd fb:FuncData}{sf p sb pb:Str}{ps:List Str}(F:qj K x qual st f fd)(h:yq r st (sf::p::ps)=true)(hm:mg r=some (.ref R))(B:m7 K R g)(G:bU P w K mg base (dG P w) k g fb [sb,pb] (kG K [p]))(hb:Binds K fb [sb,pb] []):
  bU P w K mg base (dG P w) (k+1) f fd (sf::p::ps) (kG K (p::ps)):=by
 unfold yq at h;simp only[Bool.and_eq_true,decide_eq_true_eq,Bool.not_eq_true',List.all_eq_true] at h;obtain⟨⟨⟨⟨⟨⟨⟨⟨⟨⟨h1,h2⟩,h3⟩,h4⟩,h5⟩,h6⟩,h7⟩,hz⟩,hg⟩,hr0⟩,h8⟩:=h;have S:jc (sf::p::ps) (sf::p::ps) (aj st):=⟨h1,h2,h3,h4,List.take_length,fun y hy=>.inl (h5 y hy),h6⟩;obtain⟨oc,od,kV,doc,pm,an,cdv,ct,osl,rfl,lk,hcd⟩:=F.ex
 .replace h8:=ay h8;obtain⟨⟨s0,rest⟩,g1,h8⟩:=h8;replace h8:=ay h8;obtain⟨⟨a,m,ap,b,c,cp⟩,g2,h8⟩:=h8;obtain⟨p1,p2,p3,ep,g3⟩:=Dc g2;have hbody:=eK g1;dsimp only at g3 hbody h8;rw[g3] at hbody;simp only[Bool.and_eq_true,decide_eq_true_eq] at h8;obtain⟨⟨⟨⟨⟨rfl,rfl⟩,rfl⟩,rfl⟩,hl⟩,h9⟩:=h8;refine xS lk hcd S kG.len fun A outer s H vs Q E hr Z=>Z.g6 fun e C us e1 e2 c' Z=>Z.g fun n Z=>Z.g fun he q=>⟨CU (Dx (xr (kG K [c]) [] E (lu (uz 0) (lu (uz 1) tS)))) (Ar K 2 ps),?_,?_⟩
  .rw[hbody];have v0:iX (aj st) b:=.inl (h5 b (by simp));have v1:iX (aj st) c:=.inl (h5 c (by simp));have ha:PA (j3 (dG P w) P w K mg base (b::c::ps) qual (aj st) f cdv A outer s H E) [.Name b p2,.Name c p3] (lu (uz 0) (lu (uz 1) tS)):=
    bX (kf rfl v0 (okN.d (h7 b (by simp))).1 (okN.d (h7 b (by simp))).2) (bX (kf rfl v1 (okN.d (h7 c (by simp))).1 (okN.d (h7 c (by simp))).2) cK rfl) rfl
   refine oP (wj (Fs B G hr hg hm hb (DT rfl rfl rfl rfl) ha (okN.d hr0).1 rfl rfl (my (apos:=ap) (pos:=cp) rfl rfl hl)) rfl) (uD (X:=j3 (dG P w) P w K mg base (b::c::ps) qual (aj st) f cdv A outer s H E) rfl v0 (h7 b (by simp)) ps _ 2 h9 (fun i q hq=>by rw[show 2+i=i+2 by omega];exact hq) fun q hq=>.inl (h5 q (List.mem_cons_of_mem _ (List.mem_cons_of_mem _ hq))))
  .subst e1;cases us with
   |nil=>cases e2
   |cons u us=>
    have nd:=List.nodup_cons.mp (List.nodup_cons.mp h4).2;refine⟨.ref e,fj rfl,u,fj rfl,e,C,[u],rfl,rfl,c',fun f hf=>n f (by simp at hf;simp[hf]),he,fun dx z1 z2=>?_⟩;refine uT (dx:=dx) c' (fj rfl) ps us 2 [(c,u)] _ (by simpa using e2) (fun i v hv=>fj (by rw[show 2+i=i+2 by omega];simpa using hv)) (fun p' hp=>n p' (by simp[hp])) nd.2 (fun p' hp=>?_) (by simp;omega) aJ (by rw[aq z2,aJ];rfl) z2 ?_
    .simp;intro z;subst z;exact nd.1 hp
    .have:=q dx z1 z2;rw[zQ z2];simpa using this
end
section
variable {prog:Program}{w:World}{A:Around}{R:Result->Shared->Prop}{E:Value->Shared->Prop}{h:Heap}{g:Array GenState}{d:Drawn}{t:Nat}{os:OsState}{M:Model}
variable {nm q:Str}{C N:Addr}{bs bm:List Value}{hdct:Bool}{sn:List Str}{sub:List Value}{ab:Bool}{col:Option Bool}{dd:Option Addr}{k0 k1 k2 k3 k5:Option Value}{Bn newId inN:String}{bmN:List Value}
structure nK(C:Addr)(bm:List Value)(Bn:String):Prop where
 b:(Value.ref C::bm).contains (.type Bn)=true
 e:(Value.ref C::bm).contains (.type "BaseException")=true
 a:(Value.ref C::bm).contains (.type "AttributeError")=false
 n:(Value.ref C::bm).contains (.type "NameError")=false
theorem Gh{rest:List Value}{Q:Unit->Shared->Prop}(F:ExcBaseFacts Bn newId inN bmN)(m:nK C bm Bn)(hC:h.get? C=some (excClassObj nm q C N bs bm hdct sn sub ab col dd k0 k1 k2 k3 k5 newId))(hq:Q () ⟨h,g,d,t,os⟩):
  wpAny M A (checkBuiltinCall newId ⟨.ref C::rest,[]⟩) Q E ⟨h,g,d,t,os⟩:=by
 have z:=F.noStar;have c:=m.b;simp only[checkBuiltinCall,F.newKind,F.newSplit,F.newRow];repeat (first|refine wpAny_loadPart_at hC ?_|(refine wpAny_isSubtype_exc hC ?_;rw[c])|refine wpAny_staticBase_exc hC ?_|refine wpAny_madeBy_exc hC ?_|simp only[bne_self_eq_false,Bool.false_eq_true,if_false]|wp_step)
 exact hq
noncomputable abbrev gO(us:List Value):Obj:={cls:=.type "tuple",data:=.seq us.toArray}
noncomputable abbrev fR(C t:Addr):Obj:={cls:=.ref C,data:=.fields #[.ref t,.none,.none,.none,.bool false,.none]}
theorem L5{rest:List Value}(F:ExcBaseFacts Bn newId inN bmN)(m:nK C bm Bn)(hC:h.get? C=some (excClassObj nm q C N bs bm hdct sn sub ab col dd k0 k1 k2 k3 k5 newId))
  (hq:R (.ok (.ret (.ref (h.objs.size+1)))) ⟨(h.push (gO rest)).push (fR C h.objs.size),g,d,t,os⟩) (hr:rest.length<=sizeLine):codeAny (model prog w) A (.builtin newId ⟨.ref C::rest,[]⟩) R ⟨h,g,d,t,os⟩:=by
 have z:=F.ends;have cb:=m.b;have ca:=m.a;have cn:=m.n;refine codeAny_builtinAt F.entry ?_;unfold Builtin.«BaseException.__new__»;refine PySem.wpAt_bind ?_;show PySem.wpAt _ _ _ (stack >>= _) _ _ _;refine PySem.wpAt_bind (PySem.wpAt_stack fun p below=>PySem.wpAt_of_wpAny ?_)
 wp_walk
 refine PySem.wpAt_of_wpAny ?_;rw[F.owner];repeat (first|with_reducible refine wpAny_madeHere_exc F.canon hC ?_|with_reducible refine wpAny_loadPart_at hC ?_|(with_reducible refine wpAny_isSubtype_exc hC ?_;first|rw[cb]|rw[ca]|rw[cn])|wp_step)
 show R _ _;rw[Heap.size_push];exact hq
theorem GV{K:PySem.W.Frag}{rest:List Value}{f:Addr}{Q:Fin->Shared->Prop}(X:K.In h)(F:ExcBaseFacts Bn newId inN bmN)(m:nK C bm Bn)(hC:h.get? C=some (excClassObj nm q C N bs bm hdct sn sub ab col dd k0 k1 k2 k3 k5 newId))
  (hi:PySem.W.findIn K (.ref C) "__init__" = some (some (.ref f))) (hf:PySem.W.isFn K (.ref f)=true) (hr:rest.length<=sizeLine)
  (hq:wpAny (model prog w) A (call (.ref f) (.ref (h.objs.size+1)::rest)) (fun r s'=>r=.none/\Q (.done (.ret (.ref (h.objs.size+1)))) s') E ⟨(h.push (gO rest)).push (fR C h.objs.size),g,d,t,os⟩):
  wpAny (model prog w) A (Builtin.«type.__call__» ⟨.ref C::rest,[]⟩) Q E ⟨h,g,d,t,os⟩:=by
 repeat (first|with_reducible refine wpAny_loadPart_at hC ?_|with_reducible refine wpAny_madeBy_exc hC ?_|wp_step)
 refine codeAny_call_builtin_code (Code.quiet_builtin _ F.quiet) (Gh F m hC ?_);refine L5 F m hC ?_ hr;show wpAny _ _ _ _ _ _;have kp:∀b o,h.get? b=some o->((h.push (gO rest)).push (fR C h.objs.size)).get? b=some o:=fun b o e=>Heap.get?_push_of_some _ (Heap.get?_push_of_some _ e);have hC1:=kp _ _ hC;have X1:K.In ((h.push (gO rest)).push (fR C h.objs.size)):=X.keeps kp;have he:((h.push (gO rest)).push (fR C h.objs.size)).get? (h.objs.size+1)=some (fR C h.objs.size):=by
  have:=Heap.get?_push_size (h.push (gO rest)) (o:=fR C h.objs.size) rfl
  rwa [Heap.size_push] at this
 have cC:(Value.ref C::bm).contains (.ref C)=true:=by simp
 unfold isInstance;repeat (first|with_reducible refine wpAny_loadPart_at he ?_|(with_reducible refine wpAny_isSubtype_exc hC1 ?_;rw[cC])|wp_step)
 show wpAny _ _ (typeLookup (.ref C) _) _ _ _;refine (PySem.W.looks_findIn X1 hi).at ?_;refine wpAny_holding (wpAny_bind ((PySem.W.bind_fn X1 _ (beq_iff_eq.mp hf)).at ?_));refine wpAny_bind (wpAny_mono hq (fun r s' z=>?_) fun _ _ x=>x);obtain⟨rfl,z⟩:=z
 wp_walk
 exact z
theorem x_call{K:PySem.W.Frag}{rest:List Value}{f:Addr}{Q:Value->Shared->Prop}(X:K.In h)(F:ExcBaseFacts Bn newId inN bmN)(m:nK C bm Bn)(hC:h.get? C=some (excClassObj nm q C N bs bm hdct sn sub ab col dd k0 k1 k2 k3 k5 newId))
  (hi:PySem.W.findIn K (.ref C) "__init__" = some (some (.ref f))) (hf:PySem.W.isFn K (.ref f)=true) (hr:rest.length<=sizeLine)
  (hq:wpAny (model prog w) (A.under (.builtin "type.__call__" ⟨.ref C::rest,[]⟩)) (call (.ref f) (.ref (h.objs.size+1)::rest)) (fun r s'=>r=.none/\Q (.ref (h.objs.size+1)) s') E ⟨(h.push (gO rest)).push (fR C h.objs.size),g,d,t,os⟩):
  wpAny (model prog w) A (call (.ref C) rest) Q E ⟨h,g,d,t,os⟩:=by
 have f1:=tc_lookup;have f2:=tc_bind (.ref C);have hT:(⟨h,g,d,t,os⟩:Shared).TypeIs (.ref C) "type" := ⟨_,hC,rfl⟩;refine wpAny_call (codeAny_of_tree ?_);show wpAny _ _ (callAny (.ref C) _) _ _ _;repeat (any_goals (first|assumption|with_reducible refine wpAny_loadPart_at hC ?_|wp_step))
 refine⟨rfl,?_⟩;exact codeAny_call_builtin_at (Code.quiet_builtin _ (by decide+kernel)) entry_typeCall (wpAny_check_type_call_sub hC (GV X F m hC hi hf hr hq))
theorem Hz{env:Env}{s:Shared}{x:Sem Value}{Q:Flow->Shared->Prop}(m:nK C bm Bn)(hh:A.handled=none)
  (h:wpAny M A x (fun v s1=>∃e oe vs,v=.ref e/\s1.heap.get? C=some (excClassObj nm q C N bs bm hdct sn sub ab col dd k0 k1 k2 k3 k5 newId)/\s1.heap.get? e=some oe/\oe.cls=.ref C/\oe.data=.fields vs/\vs[1]?=some .none/\E (.ref e) s1) E s):wpAny M A (raiseStmt env (some x) none) Q E s:=by
 have cB:=m.e;unfold raiseStmt;refine wpAny_bind (wpAny_mono h (fun v s1 z=>?_) fun _ _ x=>x);obtain⟨e,⟨oc,od,oda,osl⟩,vs,rfl,hC,he,hc,hd,h1,hE⟩:=z;simp only at hc hd;subst hc hd;obtain⟨hp,g,d,tk,os⟩:=s1;repeat (first|with_reducible refine wpAny_loadPart_at he ?_|with_reducible refine wpAny_loadPart_at hC ?_|(with_reducible refine wpAny_isSubtype_exc hC ?_;rw[cB])|wp_step)
 rw[h1];refine wpAny_pure ?_;rw[if_neg (by decide)];exact wpAny_pure (wpAny_raiseNew_none hh hE)
end
structure tN(K:PySem.W.Frag)(C f:Addr):Prop where
 obj:∃(nm q:Str) (N:Addr) (bs bm:List Value) (hdct:Bool) (sn:List Str) (sub:List Value) (ab:Bool) (col:Option Bool) (dd:Option Addr) (k0 k1 k2 k3 k5:Option Value),
  K.lookup C=some (excClassObj nm q C N bs bm hdct sn sub ab col dd k0 k1 k2 k3 k5 "ValueError.__new__")/\nK C bm "ValueError"
 init:PySem.W.findIn K (.ref C) "__init__" = some (some (.ref f))
 fn:PySem.W.isFn K (.ref f)=true
 kp:PySem.W.keepIn K (.ref C)=true
section
variable {X:Cx}{pins:List (Addr×Obj)}{σ:L2.St}{H:L2.Hp}{s:Shared}{C f:Addr}{E:XK}
theorem LR{k:Nat}{fd:FuncData}{ps fs:List Str}{us:List Value}{vs:List V}{Q:Value->Shared->Prop}(M:tN X.K C f)(c:XC X.K C)(n:∀g∈fs,bh X.K C g)(F:bU X.prog X.w X.K X.mg X.base (dG X.prog X.w) k f fd ps (kG X.K fs))(hr:bI (k+1) X.A)(hb:Binds X.K fd ps [])(I:Inv X pins σ H s)(r:Vals vs us)(hl:vs.length=fs.length)(hz:vs.length<=1000)
  (h:∀e dx s' oe ws,H e=none->H dx=none->dx≠e->Fly0 X.prog X.w (bK X.stack) H s e C dx (upd (upd H dx (.xd (fs.zip vs))) e (pP C dx e)) s'->s'.heap.get? e=some oe->oe.cls=.ref C->oe.data=.fields ws->ws[1]?=some .none->Q (.ref e) s'):
  wpAny (model X.prog X.w) X.A (call (.ref C) us) Q X.xe s:=by
 obtain⟨nm,q,N,bs,bm,hdct,sn,sub,ab,col,dd,k0,k1,k2,k3,k5,lk,mo⟩:=M.obj;obtain⟨hp,g,d,t,os⟩:=s;have hus:us.length=fs.length:=r.length.symm.trans hl;have kp:∀b o,hp.get? b=some o->((hp.push (gO us)).push (fR C hp.objs.size)).get? b=some o:=fun b o e=>Heap.get?_push_of_some _ (Heap.get?_push_of_some _ e);have he:((hp.push (gO us)).push (fR C hp.objs.size)).get? (hp.objs.size+1)=some (fR C hp.objs.size):=by
  have:=Heap.get?_push_size (hp.push (gO us)) (o:=fR C hp.objs.size) rfl
  rwa [Heap.size_push] at this
 have hf:H (hp.objs.size+1)=none:=I.ao.fresh (Nat.le_succ _);have ok:bJ X.prog X.w (upd H (hp.objs.size+1) (fM C none (hp.objs.size+1))) ((hp.push (gO us)).push (fR C hp.objs.size)) (hp.objs.size+1) (fM C none (hp.objs.size+1)):=fM.ok he rfl rfl rfl rfl;have I2:Inv X pins σ (upd H (hp.objs.size+1) (fM C none (hp.objs.size+1))) ⟨(hp.push (gO us)).push (fR C hp.objs.size),g,d,t,os⟩:=I.laid (a:=hp.objs.size+1) (o:=fM C none (hp.objs.size+1)) (h':=(hp.push (gO us)).push (fR C hp.objs.size)) (t':=t) kp (Nat.le_succ _) ok;have zP:Un (bK X.stack) [] H (upd H (hp.objs.size+1) (fM C none (hp.objs.size+1))) hp ((hp.push (gO us)).push (fR C hp.objs.size)):=Un.laid kp (Nat.le_succ _) hf;refine x_call I.cR PySem.F.excBase_ValueError mo (I.cR _ _ lk) M.init M.fn (by rw[hus,<-hl,sizeLine_eq];omega) ?_;have r2:Vals (V.ref (hp.objs.size+1)::vs) (Value.ref (hp.objs.size+1)::us):=.cons rfl r;have hq:kG X.K fs (V.ref (hp.objs.size+1)::vs) (upd H (hp.objs.size+1) (fM C none (hp.objs.size+1))) (fun v H3=>v=.ah/\∃dx,H dx=none/\dx≠hp.objs.size+1/\H3=upd (upd H dx (.xd (fs.zip vs))) (hp.objs.size+1) (fM C (some dx) (hp.objs.size+1))) E0:=
  ⟨_,C,vs,rfl,hl,c,n,aJ,fun dx z1 z2=>⟨rfl,dx,by rw[aq z2] at z1;exact z1,z2,Ck z2⟩⟩
 have hln:(Value.ref (hp.objs.size+1)::us++[]).length=ps.length:=by have e:=r2.length;rw[F.len _ _ _ _ hq] at e;rw[List.append_nil];exact e.symm
 refine wpAny_call (codeAny_mono (F.run _ X.stack _ _ ⟨Value.ref (hp.objs.size+1)::us,[]⟩ (Value.ref (hp.objs.size+1)::us) _ _ E0 (hr.make C us []) (I2.yh.make C us []) (by have:=hb _ (Value.ref (hp.objs.size+1)::us) I2.cR hln;rwa [List.append_nil] at this) r2 hq) fun rr s' hq'=>?_);cases rr with
 |error e=>exact (dG.never _ _ _ _ _ hq').elim
 |ok fl=>
  cases fl with
  |next=>exact False.elim hq'
  |brk=>exact False.elim hq'
  |cont=>exact False.elim hq'
  |ret u=>
   obtain⟨v,H3,os3,bare3,un3,hok3,rv,ev,dx,z1,z2,e3⟩:=hq';subst ev;refine⟨rv,?_⟩;have t3:H3 (hp.objs.size+1)=some (fM C (some dx) (hp.objs.size+1)):=by rw[e3,aJ]
   obtain⟨⟨oe,ws,a1,a2,a3,a4,a5⟩,_,_⟩:=hok3 _ _ t3;have h4:upd (upd H dx (.xd (fs.zip vs))) (hp.objs.size+1) (pP C dx (hp.objs.size+1))=upd H3 (hp.objs.size+1) (pP C dx (hp.objs.size+1)):=by rw[e3,nM]
   have un:=zP.trans un3;have nx:∀b u,H3 b=some u->(∀φ,u≠.ext φ)->b≠hp.objs.size+1:=fun b u q n z=>by rw[z,t3] at q;cases q;exact n _ rfl
   refine h _ dx s' oe ws hf z1 z2 ⟨os3,bare3,?_,?_,aJ,Heap.get?_none_of_le (Nat.le_succ _)⟩ a1 a2 a4 a5
   .rw[h4];refine⟨un.keep,un.slot,fun b o q n hx=>?_,un.there,fun b xs q=>?_,fun b o u q=>?_,fun b ps q=>?_⟩
    .rw[aq (Nat.ne_of_lt (Nat.lt_succ_of_lt (Heap.lt_size q)))];exact un.free b o q n hx
    .have:=un.fq b xs q;rw[aq (nx b _ this fun _ z=>nomatch z)];exact this
    .have:=un.eP b o u q;rw[aq (nx b _ this fun _ z=>nomatch z)];exact this
    .obtain⟨m,this⟩:=un.fh b ps q;exact⟨m,by rw[aq (nx b _ this fun _ z=>nomatch z)];exact this⟩
   .rw[h4];intro a o q;by_cases z:a=hp.objs.size+1
    .subst z;rw[aJ] at q;cases q;exact⟨⟨oe,ws,a1,a2,a3,a4⟩,⟨oe,a1⟩,fun h1 h2 ⟨o,vs,a,b⟩ k=>⟨o,vs,k o a,b⟩⟩
    .rw[aq z] at q;refine (hok3 a o q).eV (fun b u _ r=>r) (fun b hb=>?_) fun b xs hb=>?_
     .rw[aq (nx b _ hb fun _ z=>nomatch z)];exact hb
     .rw[aq (nx b _ hb fun _ z=>nomatch z)];exact hb
noncomputable def G9(C:Addr)(fs:List Str)(E:XK)(t:TA):TS:=fun _ σ H=>t σ H fun vs H1=>vs.length=fs.length/\∀e dx,H1 e=none->H1 dx=none->dx≠e->E (.ref e) none (upd (upd H1 dx (.xd (fs.zip vs))) e (pP C dx e))
theorem Cr{k:Nat}{fd:FuncData}{ps fs:List Str}{x:Str}{np cpos pos:Pos}{e:Expr}{es:List Expr}{t:TA}(hx:X.ex=[])(hs:X.stack=X.env::X.outer)(hfm:X.env.frame=some X.env.locals)(hxe:X.xe=p6 X E)
  (M:tN X.K C f) (c:XC X.K C) (n:∀g∈fs,bh X.K C g) (hz:fs.length<=1000) (F:bU X.prog X.w X.K X.mg X.base (dG X.prog X.w) k f fd ps (kG X.K fs)) (hr:bI (k+1) X.A) (hg:Gl X x) (hm:X.mg x=some (.ref C)) (hb:Binds X.K fd ps [])
  (ha:PA X (e::es) t) (hdb:(x== ("__debug__" : Str))=false) (hst:starEach (e::es) X.env=(false,eval e X.env)::starEach es X.env) (hpl:(backTo cpos (starEach es X.env)).any (·.1)=false):
  PS X (.Raise (some (.Call (.Name x np) (e::es) [] cpos)) none pos) (G9 C fs E t):=by
 intro pins s σ H D I h;obtain⟨nm,q,N,bs,bm,hdct,sn,sub,ab,col,dd,k0,k1,k2,k3,k5,lk,mo⟩:=id M.obj;have key:wpAny (model X.prog X.w) X.A (eval (.Call (.Name x np) (e::es) [] cpos) X.env) (fun v s1=>∃e oe vs,v=.ref e/\s1.heap.get? C=some (excClassObj nm q C N bs bm hdct sn sub ab col dd k0 k1 k2 k3 k5 "ValueError.__new__")/\s1.heap.get? e=some oe/\oe.cls=.ref C/\oe.data=.fields vs/\vs[1]?=some .none/\X.xe (.ref e) s1) X.xe s:=by refine wpAny_Call_Name_kw (ie I hg hm ?_ hdb);refine PySem.W.callWith_K (h₀:=X.base) I.ok.mod.p7 M.kp (aC (ha cpos pins s σ H _ I h) fun us s1 Z=>Z.g4 fun vs H1 I1 r Z=>Z.g fun q1 q2=>⟨I1.cR,?_⟩) hst hpl;refine LR M c n F hr hb I1 r q1 (by omega) fun ea dx s2 oe ws z1 z2 z3 F2 a1 a2 a3 a4=>⟨ea,oe,ws,rfl,?_,a1,a2,a3,a4,HY hx hs hfm hxe I1 F2 a1 a3 a4 (q2 ea dx z1 z2 z3)⟩;exact (F2.inv I1).cR _ _ lk
 rw[arm_exec_Raise];exact wpAny_bind (wpAny_standAt (Hz mo hr.hd (wpAny_bind (wpAny_mono key (fun v s1 z=>wpAny_bind (wpAny_standAt (wpAny_pure z))) fun _ _ z=>z))))
end
noncomputable abbrev hX(X:Cx)(v:Value):Cx:={X with A:=X.A.mark (some v),calm:=false,xe:=fun _ _=>False}
section
variable {X:Cx}{pins:List (Addr×Obj)}{σ:L2.St}{H:L2.Hp}{s:Shared}
theorem Inv.mark(I:Inv X pins σ H s)(v:Value):Inv (hX X v) pins σ H s:=
 ⟨⟨I.ok.mod,I.ok.kind,I.ok.glob,I.ok.blt,I.ok.above,I.ok.inj,I.ok.has,I.ok.qm,fun z=>(nomatch z),I.ok.frames,I.ok.rF,I.ok.wI,I.ok.bs,I.ok.kQ,I.ok.kX,I.ok.mr,I.ok.fQ,I.ok.mR⟩,I.os,I.bare,I.base,I.loc,I.cell,I.free,I.dJ,I.pin,I.ao,I.len⟩
theorem Inv.unmark{v:Value}(I:Inv (hX X v) pins σ H s)(hd:X.calm=true->X.A.handled=none):Inv X pins σ H s:=
 ⟨⟨I.ok.mod,I.ok.kind,I.ok.glob,I.ok.blt,I.ok.above,I.ok.inj,I.ok.has,I.ok.qm,hd,I.ok.frames,I.ok.rF,I.ok.wI,I.ok.bs,I.ok.kQ,I.ok.kX,I.ok.mr,I.ok.fQ,I.ok.mR⟩,I.os,I.bare,I.base,I.loc,I.cell,I.free,I.dJ,I.pin,I.ao,I.len⟩
noncomputable def Mn(K:PySem.W.Frag)(j:Nat)(f:Str):TE:=fun σ H Q=>∃e C dx gs v,σ[j]?=some (some (.ref e))/\XC K C/\bh K C f/\H e=some (pP C dx e)/\H dx=some (.xd gs)/\gs.lookup f=some v/\Q v H
theorem LO{y f:Str}{p1 p2:Pos}{j:Nat}(hj:X.N[j]?=some y)(vj:iX X.env.scope y)(oj:okN y=true):PE X (.Attribute (.Name y p1) f p2) (Mn X.K j f):=by intro pins s σ H Q I ⟨e,C,dx,gs,v,q0,c,n,he,hd,hl,q⟩;refine xm rfl (aC (kf hj vj (okN.d oj).1 (okN.d oj).2 pins s σ H (fun x' H1=>x'=.ref e/\H1=H) I ⟨_,q0,rfl,rfl⟩) fun ov s1 Z=>Z.g4 fun x' H1 I1 rx Z=>Z.g fun e1 e2=>?_);subst e1 e2;obtain rfl:ov=Value.ref e:=rx;obtain⟨⟨o,vs,a1,a2,a3,a4⟩,_,_⟩:=I1.ao e _ he;obtain⟨mA,n1,r1⟩:=I1.ao dx _ hd;obtain⟨od,ho,lk⟩:=rQ n1;obtain⟨u,hu,ru⟩:=dC.some_of (v:=v) (o:=mA f) (by rw[<-hl];exact r1 f);exact LJ I1.cR ⟨a1,a2,by unfold PySem.W.notCls;rw[a4],by rw[a3];exact ho⟩ c n (by rw[lk,hu]) (sE ru) ⟨v,_,I1.tok _,ru,q⟩
def yS(K:PySem.W.Frag)(j:Nat):List Str->TA
 |[]=>tS
 |f::r=>lu (Mn K j f) (yS K j r)
noncomputable def IH(e:Expr):Option (Str×Str):=(ju e).bind fun q=>(bz q.1).map fun a=>(a,q.2.1)
theorem BM{e:Expr}{r:Str×Str}(h:IH e=some r):∃p1 p2,e=.Attribute (.Name r.1 p1) r.2 p2:=by obtain⟨⟨v,g,p2⟩,e1,h⟩:=Option.bind_eq_some_iff.mp h;obtain⟨a,e2,rfl⟩:=Option.map_eq_some_iff.mp h;obtain⟨p1,z⟩:=aH e2;have z1:=gL e1;dsimp only at z z1⊢;exact⟨p1,p2,by rw[z1,z]⟩
def pW(y:Str):List Tw.S->List Expr->Bool
 |[],es=>es.isEmpty
 |f::fs,es=>(n5 es).any fun r=>(IH r.1).any fun q=>decide (q.1=y)&&decide (q.2=⟨f.toArray⟩)&&pW y fs r.2
theorem Bq{y:Str}{j:Nat}(hj:X.N[j]?=some y)(vj:iX X.env.scope y)(oj:okN y=true):∀(fs:List Tw.S)(es:List Expr),pW y fs es=true->PA X es (yS X.K j (fs.map fun f=>⟨f.toArray⟩))
 |[],es,h=>by
  unfold pW at h;rw[bS h];exact cK
 |f::fs,es,h=>by
  unfold pW at h;replace h:=ay h;obtain⟨⟨e,r⟩,e1,h⟩:=h;obtain rfl:=eK e1;replace h:=ay h;obtain⟨⟨a,g⟩,e2,h⟩:=h;obtain⟨p1,p2,z⟩:=BM e2;dsimp only at z h⊢;simp only[Bool.and_eq_true,decide_eq_true_eq] at h;obtain⟨⟨rfl,rfl⟩,h⟩:=h;rw[z];exact bX (LO hj vj oj) (Bq hj vj oj fs _ h) rfl
noncomputable def i6(gs:List (Str×V)):List Str->Option (List V)
 |[]=>some []
 |x::r=>match gs.lookup x,i6 gs r with
  |some w,some ws=>some (w::ws)
  |_,_=>none
theorem w5{K:PySem.W.Frag}{j:Nat}{e C dx:Addr}{gs:List (Str×V)}{σ:L2.St}{H:L2.Hp}(h0:σ[j]?=some (some (.ref e)))(c:XC K C)(he:H e=some (pP C dx e))(hd:H dx=some (.xd gs)):∀(fs:List Str)(vs:List V)(Q:List V->L2.Hp->Prop),(∀f∈fs,bh K C f)->i6 gs fs=some vs->Q vs H->yS K j fs σ H Q
 |[],vs,Q,_,g,q=>by
  cases g;exact q
 |f::fs,vs,Q,n,g,q=>by
  unfold i6 at g;cases h1:gs.lookup f with
  |none=>rw[h1] at g;cases g
  |some v=>
   cases h2:i6 gs fs with
   |none=>rw[h1,h2] at g;cases g
   |some ws=>
    rw[h1,h2] at g;cases g;exact⟨e,C,dx,gs,v,h0,c,n f (by simp),he,hd,h1,w5 h0 c he hd fs ws _ (fun f' hf=>n f' (by simp[hf])) h2 q⟩
theorem Al{n:Str}{j:Nat}{pos:Pos}{M:Model}{A:Around}{E:Value->Shared->Prop}{Q:Unit->Shared->Prop}(I:Inv X pins σ H s)(hN:X.N.Nodup)(hj:X.N[j]?=some n)(hl:X.env.scope.names.lookup n=some .local)
  (h:∀s',Inv X pins (σ.set j none) H s'->Q () s'):wpAny M A (do bindName X.env n .none;unbindBehindTheSuite X.env n pos) Q E s:=by
 have hp:(X.env.scope.kind== .class || (X.env.scope.kind== .module&&X.env.locals != X.env.globals))=false:=by rw[I.ok.kind];rfl
 have hk:X.env.kindOf n=some .local:=hl;refine wpAny_bind (wpAny_bindName (jw (v:=.ah) I hN hj (.inl hl) rfl (fun s1 I1=>?_) (.inr hl)));obtain⟨m,hn,lo⟩:=I1.loc;have jl:j<σ.length:=by rw[I.len];exact (List.getElem?_eq_some_iff.mp hj).1
 have hm:∃u,m n=some u:=by
  obtain⟨u,_,l⟩:=lo j n .ah hj (by rw[List.getElem?_set_self jl]) (.inl hl);rcases l with ⟨_,z⟩|⟨z,_⟩
  .exact⟨u,z⟩
  .rw[hk] at z;rcases z with z|z<;>cases z
 obtain⟨u,hm⟩:=hm;unfold unbindBehindTheSuite;refine wpAny_onRaise ?_;unfold unbindName;refine wpAny_bind (wpAny_point (wpAny_bind ?_));unfold deleteName;simp only[hk,hp];rw[if_neg (by decide)];refine wpAny_bind (wpAny_nsDel_keeps hn fun h2 v hn2 hs=>?_);rw[hm];simp only[Option.isSome_some,Bool.not_true,Bool.false_eq_true,if_false,if_true];refine wpAny_pure (wpAny_point (h _ ?_));have above:=I1.ok.above;have ne:∀b o,X.aI.heap.get? b=some o->b≠X.env.locals:=fun b o e=>Nat.ne_of_lt (Nat.lt_of_lt_of_le (Heap.lt_size e) above);have nZ:∀y c,X.env.cells.lookup y=some c->c≠X.env.locals:=fun y c e z=>by
  obtain⟨w',oc,hoc,hcd⟩:=I1.cell y c e;obtain⟨ol,es,ep,hol,hld,_⟩:=hn;rw[z,hol] at hoc;cases hoc;rw[hld] at hcd;cases hcd
 refine⟨I1.ok,I1.os,I1.bare,⟨fun b o e n hb hx=>(hs.2 b (ne b o e)).trans (I1.base.keep b o e n hb hx),fun b o e n hb hx=>?_,I1.base.free,fun b o e hx=>?_,I1.base.fq,I1.base.eP,I1.base.fh⟩,⟨_,hn2,fun i y v' e1 e2 e3=>?_⟩,fun y c e=>?_,I1.free,I1.dJ,fun p hp=>?_,fun a o q=>?_,by simpa using I.len⟩
 .obtain⟨sl,q⟩:=I1.base.slot b o e n hb hx;exact⟨sl,(hs.2 b (ne b o e)).trans q⟩
 .obtain⟨o',q⟩:=I1.base.there b o e hx;exact⟨o',(hs.2 b (ne b o e)).trans q⟩
 .by_cases z:i=j
  .subst z;rw[List.getElem?_set_self jl] at e2;cases e2
  .rw[List.getElem?_set_ne (Ne.symm z)] at e2;have ny:y≠n:=fun w=>z (by subst w;exact oH hN e1 hj);obtain⟨u',r',l⟩:=lo i y v' e1 (by rw[List.getElem?_set_ne (Ne.symm z)];exact e2) e3;refine⟨u',r',?_⟩;rcases l with ⟨k1,k2⟩|⟨k1,c,k2,k3⟩
   .exact .inl ⟨k1,by show (if y=n then v else m y)=some u';rw[if_neg ny];exact k2⟩
   .exact .inr ⟨k1,c,k2,k3.sameBut hs (nZ y c k2)⟩
 .obtain⟨w',z⟩:=I1.cell y c e;exact⟨w',z.sameBut hs (nZ y c e)⟩
 .obtain⟨e,n1,n2,n3,d⟩:=I1.pin p hp;exact⟨(hs.2 p.1 n2).trans e,n1,n2,n3,d⟩
 .have nt:∀b u,H b=some u->b≠X.env.locals:=fun b u e z=>by rw[z,I1.free] at e;cases e
  refine (I1.ao a o q).eV (fun b u hb r=>(hs.2 b ?_).trans r) (fun _ q=>q) fun _ _ q=>q;rcases hb with rfl|hb
  .exact nt b o q
  .exact nt b _ hb
theorem BB{CX:eE}{k:Nat}{f C:Addr}{fd:FuncData}{ps:List Str}{sp:Sp}{E:XK}{m:Str}{pos apos:Pos}{e o:Expr}{es:List Expr}{ta:TE}{t:TA}{pl:Sem Bool}{Q:VK}{xe:Value->Shared->Prop}(I:Inv X pins σ H s)(he:PE X.kr o ta)(c:om X.K C)(hm:Meth X.K C m f)
  (F:bU X.prog X.w X.K X.mg X.base CX k f fd ps sp) (hr:bI k X.A) (hb:Binds X.K fd ps []) (ha:PA X.kr (e::es) t) (hst:starEach (e::es) X.env=(false,eval e X.env)::starEach es X.env) (hpl:(backTo pos (starEach es X.env)).any (·.1)=false)
  (ht:eval (.Call (.Attribute o m apos) (e::es) [] pos) X.env=(do
   let ov <-eval o X.env
   standAt apos.atName
   let (f,first) <-holding [ov] (getMethod ov m pl)
   callWith pos f first (backTo pos (starEach (e::es) X.env)) (backToKw pos (keywordEach [] X.env))))
  (hx:∀H1 s1 ex s',Inv X pins σ H1 s1->CX X.stack H1 s1 E ex s'->xe ex s') (h:tF C m sp [] E ta t σ H Q):
  wpAny (model X.prog X.w) X.A (eval (.Call (.Attribute o m apos) (e::es) [] pos) X.env) (EP X pins σ Q) xe s:=by
 refine PySem.W.methodCall_KW (pl:=pl) (wpAny_mono (he pins s σ H _ (I.kT _) h) (fun u s1 Z=>Z.g fun x Z=>Z.g fun H1 Z=>Z.g fun I1 Z=>Z.g fun rx Z=>Z.g fun a Z=>Z.g fun dx Z=>Z.g fun fs Z=>Z.g fun ex Z=>Z.g fun ea Z=>Z.g fun l q=>?_) fun _ _ z=>False.elim z) ht;subst ex;obtain rfl:u=Value.ref a:=rx;have J1:Inv X pins σ H1 s1:=I1.mQ;refine lh J1 ea c hm l ?_;refine PySem.W.callWith_K (first:=[.ref a]) (h₀:=X.base) I.ok.mod.p7 hm.kp (wpAny_mono (ha pos pins s1 σ H1 _ I1 q) (fun us s2 Z=>Z.g fun vs Z=>Z.g fun H2 Z=>Z.g fun I2 Z=>Z.g fun r q2=>⟨(I2.mQ:Inv X pins σ H2 s2).cR,?_⟩) fun _ _ z=>False.elim z) hst hpl;have J2:Inv X pins σ H2 s2:=I2.mQ;dsimp only at q2;rw[List.append_nil] at q2;have r2:Vals (V.ref a::vs) (Value.ref a::us):=.cons rfl r;have hl:(Value.ref a::us++[]).length=ps.length:=by rw[List.append_nil,<-r2.length];exact F.len _ _ _ _ q2
 refine wpAny_call (codeAny_mono (F.run X.A X.stack s2 H2 ⟨Value.ref a::us,[]⟩ (Value.ref a::us) (V.ref a::vs) Q E hr J2.yh (by have:=hb s2 (Value.ref a::us) J2.cR hl;rwa [List.append_nil] at this) r2 q2) fun r s' hq=>?_);cases r with
 |error e=>exact hx H2 s2 e s' J2 hq
 |ok fl=>
  cases fl with
  |ret u=>exact J2.after hq
  |next=>exact False.elim hq
  |brk=>exact False.elim hq
  |cont=>exact False.elim hq
theorem Bi{ea C dx:Addr}{H':L2.Hp}{s':Shared}{x n:Str}{p hp:Pos}{j:Nat}{b₀:Stmt}{suite:List Stmt}{t:TS}{Q:Flow->Shared->Prop}(I:Inv X pins σ H s)(hs:X.stack=X.env::X.outer)(hfm:X.env.frame=some X.env.locals)(F:iM X.prog X.w (bK X.stack) H s ea C dx .none H' s')
  (hg:Gl X x) (hm:X.mg x=some (.ref C)) (hdb:(x== ("__debug__" : Str))=false) (hxm:PySem.W.exmOne X.K (.ref C) (.ref C)=some true) (hN:X.N.Nodup) (hj:X.N[j]?=some n) (hl:X.env.scope.names.lookup n=some .local)
  (hb:∀v,eB (hX X v) (b₀::suite) t) (D:Ends) (ht:t D (σ.set j (some (.ref ea))) H') (hD:∀f s2,SP X pins D f s2->wpAny (model X.prog X.w) X.A (do bindName X.env n .none;unbindBehindTheSuite X.env n hp) (fun _ s3=>Q f s3) X.xe s2):
  wpAny (model X.prog X.w) X.A (noteFrame (.ref ea) X.env) (fun _ s2=>wpAny (model X.prog X.w) X.A (setFlight (.ref ea) none) (fun _ s3=>wpAny (model X.prog X.w) X.A (handleBy (.ref ea) X.env [.ExceptHandler (some (.Name x p)) (some n) (b₀::suite) hp]) Q X.xe s3) X.xe s2) X.xe s':=by
 have J:=F.toFly0.inv I;have fr:=J.kM;have st:=J.stack;have fm:=J.ok.frames;have fr0:=fr;rw[hs] at fr st fm F;refine F.note (base:=X.base) fm st hfm fr fun s2 F2=>F2.land fr fun s3 F3=>?_;rw[<-hs] at F3;have I3:=F3.toFly0.inv I;obtain⟨oe,vs,T,oT,ts,a1,_⟩:=id F3.tb;have cls:∀s4,iM X.prog X.w (bK X.stack) H s ea C dx .none H' s4->PySem.W.Looks (model X.prog X.w) s4.heap (typeOf (.ref ea)) (.ref C):=fun s4 F4=>by
  obtain⟨⟨o,ws,b1,b2,_⟩,_,_⟩:=F4.ao ea _ F4.tr;exact b2▸(PySem.W.Looks.ld b1).andThen .now
 refine wpAny_handleBy_cons (codeAny_handlers_test (ie (X:=hX X (.ref ea)) (Inv.mark I3 _) hg hm ?_ hdb)) (by intro q;cases q);refine (PySem.W.exm_one I3.cR (cls s3 F3) hxm).here ?_;refine codeAny_handlers_suite_as (F3.land fr0 fun s4 F4=>?_);have I4:=F4.toFly0.inv I;refine jw (X:=hX X (.ref ea)) (v:=.ref ea) (Inv.mark I4 _) hN hj (.inl hl) rfl (fun s5 I5=>?_) (.inr hl);refine wpAny_mono (hb _ pins s5 _ H' D I5 ht) (fun f s6 z=>hD f s6 ?_) fun _ _ z=>False.elim z;cases f with
 |next=>obtain⟨σ',H'',J,q⟩:=z;exact⟨σ',H'',Inv.unmark J I.ok.hd,q⟩
 |brk=>obtain⟨σ',H'',J,q⟩:=z;exact⟨σ',H'',Inv.unmark J I.ok.hd,q⟩
 |cont=>obtain⟨σ',H'',J,q⟩:=z;exact⟨σ',H'',Inv.unmark J I.ok.hd,q⟩
 |ret u=>obtain⟨v,σ',H'',J,r,q⟩:=z;exact⟨v,σ',H'',Inv.unmark J I.ok.hd,r,q⟩
end
abbrev IsT(h:Heap)(a:Addr)(D:List (Str×Addr)):Prop:=KTD.TabOf (fun d v=>v=.ref d) h a D
section
variable {prog:Program}{w:World}{A:Around}{E:Value->Shared->Prop}{s:Shared}{a:Addr}{D:List (Str×Addr)}{k:Str}{tk:Tok}
theorem IsT.ty(T:IsT s.heap a D):s.TypeIs (.ref a) "dict" := let ⟨_,o,_,_,ho,hc,_⟩:=T;⟨o,ho,hc.1⟩
theorem uY{Q:Option Value->Shared->Prop}(T:IsT s.heap a D)(h:Q ((KTD.datumAt k D).map Value.ref) {s with toks:=s.toks+1}):wpAny (model prog w) A (dictGet a (.str k tk)) Q E s:=by
 obtain⟨_,o,es,ep,ho,hc,hd,hr⟩:=T;unfold dictGet
 try with_reducible refine wpAny_holding ?_
 refine wpAny_bind (wpAny_pyHash_str (wpAny_bind (KTD.kt_dictFind_strs (s:={s with toks:=s.toks+1}) ho hd (by obtain⟨l⟩:=es;simpa using hr.exact) ?_)));have q:Q (findBy (fun k v=>v.isStr k) es k) {s with toks:=s.toks+1}:=by
  rw[show findBy (fun k v=>v.isStr k) es k=(es.toList.find? fun e=>e.key.isStr k).map (·.val) by obtain⟨l⟩:=es;simp[findBy]];cases z:KTD.datumAt k D with
  |some d=>
   obtain⟨v,hv,rfl⟩:=hr.find_some z;rw[hv];rw[z] at h;exact h
  |none=>rw[hr.find_none z];rw[z] at h;exact h
 rw[findBy_of_findIdx?] at q;cases i:es.findIdx? fun e=>e.key.isStr k with
 |none=>rw[i] at q;exact wpAny_pure q
 |some i'=>rw[i] at q;exact wpAny_bind (wpAny_dictEntries (s:={s with toks:=s.toks+1}) ho hd (wpAny_pure q))
theorem CP{Q:Value->Shared->Prop}{d:Addr}(T:IsT s.heap a D)(hk:KTD.datumAt k D=some d)(h:Q (.ref d) {s with toks:=s.toks+1}):wpAny (model prog w) A (getItem (.ref a) (.str k tk)) Q E s:=by
 unfold getItem
 try with_reducible refine wpAny_holding ?_
 refine wpAny_bind (wpAny_sequenceKey T.ty (by decide) ?_);refine wpAny_bind (wpAny_callSpecial?_slot (name:=Str.ofString "__getitem__") T.ty slot_dict_getitem (wpAny_call_entry slot_dict_getitem T.ty entry_dict_getitem ?_ (args_dict_getitem _ _)));show wpAny _ _ (dictGet a (.str k tk) >>= _) _ _ s;refine wpAny_bind (uY T ?_);rw[hk];exact wpAny_pure ⟨_,rfl,wpAny_pure h⟩
theorem Ho{Q:Value->Shared->Prop}(T:IsT s.heap a D)(h:Q (.bool (KTD.inKeys k D)) {s with toks:=s.toks+1}):wpAny (model prog w) A (compareOp .In (.str k tk) (.ref a)) Q E s:=by
 show wpAny _ _ (do return .bool (<-contains (.ref a) (.str k tk))) Q E s;refine wpAny_bind ?_;unfold contains
 try with_reducible refine wpAny_holding ?_
 refine wpAny_bind (wpAny_specialOf T.ty slot_dict_contains.lookup ?_);show wpAny _ _ (if (some (Value.builtin "dict.__contains__")== some Value.none)=true then _ else _) _ E s;rw[if_neg (by rw[beq_builtin_none];exact Bool.false_ne_true)];refine wpAny_bind (wpAny_callSpecialUnlessNone?_slot (name:=Str.ofString "__contains__") T.ty slot_dict_contains (wpAny_call_entry slot_dict_contains T.ty entry_dict_contains ?_ (args_dict_contains _ _)));show wpAny _ _ (dictGet a (.str k tk) >>= _) _ _ s;refine wpAny_bind (uY T ?_);cases z:KTD.datumAt k D with
 |some d=>
  rw[show KTD.inKeys k D=true by rw[<-KTD.isSome_datumAt,z];rfl] at h;show wpAny _ _ (ret (.bool true)) _ _ _;exact wpAny_pure ⟨_,rfl,wpAny_truthy_bool (wpAny_pure h)⟩
 |none=>
  rw[show KTD.inKeys k D=false by rw[<-KTD.isSome_datumAt,z];rfl] at h;show wpAny _ _ (Builtin.Dict.pendingKey? a (.str k tk) >>= _) _ _ _;exact wpAny_bind (wpAny_pendingKey_other T.1 (wpAny_pure ⟨_,rfl,wpAny_truthy_bool (wpAny_pure h)⟩))
end
def lr(K:PySem.W.Frag)(a:Addr)(D:List (Str×Addr)):Prop:=∀h:Heap,K.In h->IsT h a D
section
variable {X:Cx}{E:XK}{a b c e y:Expr}{pos p1 p2:Pos}{da db dk:Tw.Env->Tw.Hp->Tw.R Tw.W}{t:Addr}{D:List (Str×Addr)}
theorem Ju(T:lr X.K t D):mx X (fun x y H Q=>∃s d,x=.ref t/\y=.str s/\KTD.datumAt s D=some d/\Q (.ref d) H):=by intro value slice pins s σ H x y v u Q I rx ry ⟨z,d,ex,ey,hk,q⟩ hs;subst ex ey;cases rx;obtain⟨tk,rfl⟩:=(show ∃t,u=Value.str z t from ry);have T':=T s.heap I.cR;exact tail_any (ops:=[.str z tk,.ref t]) T'.ty slot_dict_getitem.lookup (CP T' hk ⟨.ref d,H,I.tok _,rfl,q⟩) hs
theorem tW(T:lr X.K t D):cN X (compareOp .In) (fun x y H Q=>∃s,x=.str s/\y=.ref t/\Q (.bl (KTD.inKeys s D)) H):=by intro pins s σ H x y v u Q I rx ry ⟨z,ex,ey,q⟩;subst ex ey;cases ry;obtain⟨tk,rfl⟩:=(show ∃t,v=Value.str z t from rx);exact Ho (T s.heap I.cR) ⟨.bl _,H,I.tok _,rfl,q⟩
theorem IC{CX:eE}{n:Nat}{G:Str}{g:List (Tw.S×Nat)}{C:Tw.Or}{e:Expr}{es:List Expr}{ds:Tw.Env->Tw.Hp->Tw.R (List Tw.W)}(hg:Gl X G)(hm:X.mg G=some (.ref t))(hd:(G== ("__debug__" : Str))=false)(T:lr X.K t D)
  (own:∀s f,g.lookup s=some f->∃ga k fd ps,KTD.datumAt ⟨s.toArray⟩ D=some ga/\bU X.prog X.w X.K X.mg X.base CX k ga fd ps (fk X.K X.mg (C f))/\bI k X.A/\PySem.W.keepIn X.K (.ref ga)=true/\Binds X.K fd ps [])
  (hx:Passes CX X E) (hy:PE X y (tE (zx X E) dk)) (hpy:aG y=true) (hs:PA X (e::es) (tA (zx X E) n ds)) (hpl:(e::es).all aG=true):
  PE X (.Call (.Subscript (.Name G p1) y p2) (e::es) [] pos) (tE (zx X E) fun ρ h=>(dk ρ h).bind fun x h=>match Tw.pick g x with
   |some f=>(ds ρ h).bind fun xs h=>C f xs h
   |none=>.bad):=by
 have hf:PE X (.Subscript (.Name G p1) y p2) _:=Dz (Ju T) (qH (v:=.ref t) hg hm rfl hd) hy (ur hpy);have hst:starEach (e::es) X.env=(false,eval e X.env)::starEach es X.env:=bu (by rw[List.all_cons,Bool.and_eq_true] at hpl;exact hpl.1);intro pins s σ H Q I ⟨ρ,h,ι,at',p⟩;refine Call_ (aC (hf pins s σ H (fun v H1=>∃f ga k fd ps w h1 ι1,v=.ref ga/\bU X.prog X.w X.K X.mg X.base CX k ga fd ps (fk X.K X.mg (C f))/\bI k X.A/\PySem.W.keepIn X.K (.ref ga)=true/\Binds X.K fd ps []/\
   At (zx X E) ι1 h1 H1 ρ σ/\ai (zx X E) RE ι1 h1 H1 ((ds ρ h1).bind fun xs h=>C f xs h) Q/\w=f) I ⟨ρ,h,ι,at',(step at' p).mono fun x H1 Z=>Z.g fun w Z=>Z.g fun h1 Z=>Z.g fun ι1 Z=>Z.g fun at1 Z=>Z.g fun e1 Z=>Z.g fun r1 p1=>?_⟩) fun fv s1 Z=>Z.g fun v Z=>Z.g fun H1 Z=>Z.g fun I1 Z=>Z.g fun rv Z=>Z.g fun f Z=>Z.g fun ga Z=>Z.g fun k Z=>Z.g fun fd Z=>Z.g fun ps Z=>Z.g fun w Z=>Z.g fun h1 Z=>Z.g fun ι1 Z=>Z.g fun ev Z=>Z.g fun G' Z=>Z.g fun hr Z=>Z.g fun hk Z=>Z.g fun hb Z=>Z.g fun at1 Z=>Z.g fun p1 _=>?_)
 .cases r1 with
  |str z hz=>
   cases ef:Tw.pick g (.str z) with
   |none=>rw[ef] at p1;exact p1.elim
   |some f=>
    rw[ef] at p1;obtain⟨ga,k,fd,ps,z1,z2,z3,z4,z5⟩:=own z f ef;exact⟨_,ga,rfl,rfl,z1,f,ga,k,fd,ps,f,h1,ι1,rfl,z2,z3,z4,z5,at1,p1,rfl⟩
  |_=>exact p1.elim
 .subst ev;cases rv;refine PySem.W.callWith_K (h₀:=X.base) I.ok.mod.p7 hk (aC (hs pos pins s1 σ H1 _ I1 ⟨ρ,h1,ι1,at1,step at1 p1⟩) fun us s2 Z=>Z.g fun vs Z=>Z.g fun H2 Z=>Z.g fun I2 Z=>Z.g fun r2 Z=>Z.g fun ws Z=>Z.g fun h2 Z=>Z.g fun ι2 Z=>Z.g fun at2 Z=>Z.g fun e2 Z=>Z.g fun rr p2=>⟨I2.cR,?_⟩) hst ?_
  .exact mW (ds:=[]) (dvs:=[]) G' hr hb .nil hx I2 r2 (by rw[List.append_nil];exact⟨ws,h2,ι2,at2.hr,rr.1,p2⟩)
  .rw[dQ (by rw[List.all_cons,Bool.and_eq_true] at hpl;exact hpl.2)];simp[backTo]
theorem Ly{G:Str}{g:List Tw.S}(hg:Gl X G)(hm:X.mg G=some (.ref t))(hd:(G== ("__debug__" : Str))=false)(T:lr X.K t D)(hk:∀s:Tw.S,KTD.inKeys ⟨s.toArray⟩ D=g.contains s)(hy:PE X y (tE (zx X E) dk)):
  PE X (.Compare y [.In] [.Name G p1] pos) (tE (zx X E) fun ρ h=>(dk ρ h).bind fun x h=>match x with
   |.str s=>.ok (.bl (g.contains s)) h
   |_=>.bad)/\PT X (.Compare y [.In] [.Name G p1] pos) (tT (zx X E) fun ρ h=>(dk ρ h).bind fun x h=>match x with
   |.str s=>.ok (.bl (g.contains s)) h
   |_=>.bad):=by
 have fin:∀σ H Q,tE (zx X E) (fun ρ h=>(dk ρ h).bind fun x h=>match x with
   |.str s=>.ok (.bl (g.contains s)) h
   |_=>.bad) σ H Q->v8 (fun x y H Q=>∃s,x=.str s/\y=.ref t/\Q (.bl (KTD.inKeys s D)) H) (tE (zx X E) dk) (tC (.ref t)) σ H Q:=fun σ H Q Z=>Z.g fun ρ Z=>Z.g fun h Z=>Z.g fun ι Z=>Z.g fun at' p=>by
  refine⟨ρ,h,ι,at',(step at' p).mono fun x H1 Z=>Z.g fun w Z=>Z.g fun h1 Z=>Z.g fun ι1 Z=>Z.g fun at1 Z=>Z.g fun e1 Z=>Z.g fun r1 p1=>?_⟩;cases r1 with
  |str z hz=>exact⟨_,rfl,rfl,by rw[hk];exact ai.self (a:=Tw.W.bl (g.contains z)) p1 at1.hr (.bl _)⟩
  |_=>exact p1.elim
 have hG:PE X (.Name G p1) (tC (.ref t)):=qH (v:=.ref t) hg hm rfl hd;refine⟨PE.imp (wD (tW T) hy hG rfl) fin,?_⟩;refine PT.imp (wM (tW T) hy hG rfl) fun σ H Q Z=>Z.g fun ρ Z=>Z.g fun h Z=>Z.g fun ι Z=>Z.g fun at' p=>?_;simp only[dT,bind_assoc] at p;refine⟨ρ,h,ι,at',(step at' p).mono fun x H1 Z=>Z.g fun w Z=>Z.g fun h1 Z=>Z.g fun ι1 Z=>Z.g fun at1 Z=>Z.g fun e1 Z=>Z.g fun r1 p1=>?_⟩;cases r1 with
 |str z hz=>exact⟨_,rfl,rfl,_,rfl,by rw[hk];exact ai.self (a:=g.contains z) p1 at1.hr rfl⟩
 |_=>exact p1.elim
theorem aL.rev{K:PySem.W.Frag}{ι:Nat->Addr}{n:Nat}{H:L2.Hp}:∀{ws:List Tw.W}{vs:List V},aL K ι n H ws vs->aL K ι n H ws.reverse vs.reverse
 |_,_,.nil=>.nil
 |_,_,.cons a r=>by
  rw[List.reverse_cons,List.reverse_cons];exact (aL.rev r).append (.cons a .nil)
noncomputable def DH(m:Tw.Mt)(da:Tw.Env->Tw.Hp->Tw.R Tw.W):Tw.Env->Tw.Hp->Tw.R Tw.W:=fun ρ h=>(da ρ h).bind fun x h=>if Tw.j8 m x h then Tw.method m x [] h else .bad
theorem xk{m:Tw.Mt}(hm:m=.rev\/m=.pop\/m=.index){w:Tw.W}{h:Tw.Hp}(e:Tw.j8 m w h=true):∃i ws,w=.ref i/\h[i]?=some (.lst ws):=by
 have e:Tw.j8 .append w h=true:=by rcases hm with rfl|rfl|rfl<;>cases w<;>exact e
 exact Be e
theorem Mi{o:Expr}{apos cpos:Pos}(hb:attributeBase o "reverse" X.env (eval o X.env)=eval o X.env)(hl:(apos.endLine== cpos.line)=true)(ho:PE X o (tE (zx X E) da)):
  PE X (.Call (.Attribute o "reverse" apos) [] [] cpos) (tE (zx X E) (DH .rev da)):=by
 refine PE.imp (JI PySem.F.plainAttrs_list PySem.F.slot_list_reverse PySem.F.type_list_reverse xT ho hb hl) fun σ H Q Z=>Z.g fun ρ Z=>Z.g fun h Z=>Z.g fun ι Z=>Z.g fun at' p=>?_;unfold DH at p;refine⟨ρ,h,ι,at',(step at' p).mono fun x H1 Z=>Z.g fun w Z=>Z.g fun h1 Z=>Z.g fun ι1 Z=>Z.g fun at1 Z=>Z.g fun e1 Z=>Z.g fun r1 p1=>?_⟩;obtain⟨c1,pp⟩:=ai.ite p1;clear p1;obtain⟨i,ws,rfl,ei⟩:=xk (.inl rfl) c1;cases r1;obtain⟨xs,q1,q2⟩:=at1.hr.lst ei;refine⟨.inl ⟨rfl,xs,bx.of q1⟩,_,xs,rfl,rfl,q1,?_⟩
 .simp only[Tw.method,ei] at pp;obtain⟨hr',ex⟩:=at1.hr.put (o:=.lst xs.reverse) (u:=.lst ws.reverse) ei rfl rfl (fun _ z=>nomatch z) fun H' kp z=>⟨_,z,(q2.rev).keep kp⟩;exact pp ι1 _ .ah ex hr' .ah
noncomputable def G1:V->List V->L2.Hp->VK->Prop:=fun x vs H Q=>∃(l:Addr) (xs:List V) (k:Key) (j:Nat),x=.ref l/\vs=[kV k]/\H l=some (.lst xs)/\(∀y∈xs,∃z,y=kV z)/\xs[j]?=some (kV k)/\(∀m,m<j->xs[m]?≠some (kV k))/\Q (.int j) H
theorem uX{A:Around}{s:Shared}{z k:Key}{y u:Value}(hy:RelV (kV z) y)(hu:RelV (kV k) u):SeqAt.EqAt A s y u (gF k y)/\gF k y=decide (z=k):=by
 cases z with
 |inl i=>
  obtain⟨t,rfl⟩:=(show ∃t,y=Value.int i t from hy);cases k with
  |inl j=>obtain⟨t',rfl⟩:=(show ∃t,u=Value.int j t from hu);exact⟨SeqAt.EqAt.int_int i t j t',by rw[tP];rfl⟩
  |inr x=>obtain⟨t',rfl⟩:=(show ∃t,u=Value.str x t from hu);exact⟨SeqAt.EqAt.int_str i t x t',by rw[t8];rfl⟩
 |inr x=>
  obtain⟨t,rfl⟩:=(show ∃t,y=Value.str x t from hy);cases k with
  |inl j=>obtain⟨t',rfl⟩:=(show ∃t,u=Value.int j t from hu);exact⟨SeqAt.EqAt.str_int x t j t',by rw[uZ];rfl⟩
  |inr x'=>
   obtain⟨t',rfl⟩:=(show ∃t,u=Value.str x' t from hu);have e:gF (.inr x') (.str x t)=(x== x'):=rfl;exact⟨by rw[e];exact SeqAt.EqAt.str_str x t x' t',by rw[e,vv];by_cases z:x=x'<;>simp[z]⟩
theorem Dp:ID X "list.index" G1:=by
 intro pins s σ H x vs v us Q I rx rv ⟨l,xs,k,j,ex,ev,hH,hall,hj,hno,q⟩;subst ex ev;cases rx;obtain⟨u,rfl,ru⟩:=rv.one;obtain⟨Z,its,n,r,hl,e⟩:=I.qM hH;have alS:∀{i:Nat}{y:Value},its[i]?=some y->∃z,RelV (kV z) y/\xs[i]?=some (kV z):=fun {i y} hy=>by
  have hi:i<xs.length:=by rw[hl];exact (List.getElem?_eq_some_iff.mp hy).1
  obtain⟨z,hz⟩:=hall _ (List.getElem_mem hi);have hx:xs[i]?=some (kV z):=by rw[List.getElem?_eq_getElem hi,hz]
  obtain⟨u',hu,ru'⟩:=r.get hx;rw[hy] at hu;cases hu;exact⟨z,ru',hx⟩
 have hjl:j<its.toArray.size:=by rw[List.size_toArray,<-hl];exact (List.getElem?_eq_some_iff.mp hj).1
 have size:xs.length<=16777216:=by rw[<-sizeLine_eq];exact Z
 refine call_meets F.slot_list_index ⟨_,e,rfl⟩ F.entry_list_index (F.args_list_index_2 _ _) (SeqAt.list_indexAt l its.toArray n none #[] u (gF k) j hjl (by have:j<xs.length:=(List.getElem?_eq_some_iff.mp hj).1;omega) ?_ ?_) ⟨e,?_,?_⟩
 .obtain⟨z,e1,e2⟩:=alS (i:=j) (y:=its.toArray[j]) (by simp);rw[hj] at e2;rw[(uX (A:=X.A) (s:=s) e1 ru).2];exact decide_eq_true (AH (Option.some.inj e2)).symm
 .intro m hm hlt;obtain⟨z,e1,e2⟩:=alS (i:=m) (y:=its.toArray[m]) (by simp);rw[(uX (A:=X.A) (s:=s) e1 ru).2];exact decide_eq_false fun q=>hno m hlt (by rw[e2,q])
 .intro y hy;obtain⟨i,hi,rfl⟩:=List.getElem_of_mem (by simpa using hy);obtain⟨z,e1,e2⟩:=alS (i:=i) (y:=its[i]) (by simp);exact (uX e1 ru).1
 .exact⟨.int j,H,I.tok _,⟨_,rfl⟩,q⟩
theorem u0{K:PySem.W.Frag}{ι:Nat->Addr}{n:Nat}{H:L2.Hp}{u:Tw.W}{k:Key}(b:RW K ι n H u (kV k)):∀{ys:List Tw.W}{zs:List V}{j:Nat},aL K ι n H ys zs->ys.all Tw.isKey=true->Tw.eh u ys=some j->zs[j]?=some (kV k)/\(∀m,m<j->zs[m]?≠some (kV k))
 |_,_,j,.nil,_,h=>by simp[Tw.eh] at h
 |y::ys,z::zs,j,.cons a r,ha,h=>by
  rw[List.all_cons,Bool.and_eq_true] at ha;obtain⟨q,rfl⟩:=gn a ha.1;unfold Tw.eh at h;rw[um a b] at h;by_cases c:q=k
  .subst c;simp at h;subst h;exact⟨rfl,fun m hm=>absurd hm (Nat.not_lt_zero _)⟩
  .rw[decide_eq_false c] at h;simp only[Bool.false_eq_true,if_false] at h;obtain⟨j',h1,rfl⟩:=Option.map_eq_some_iff.mp h;obtain⟨q1,q2⟩:=u0 b r ha.2 h1;refine⟨by simpa using q1,fun m hm=>?_⟩;cases m with
   |zero=>exact fun e=>c (AH (Option.some.inj e))
   |succ m=>simpa using q2 m (by omega)
theorem uO{K:PySem.W.Frag}{ι:Nat->Addr}{n:Nat}{H:L2.Hp}:∀{ys:List Tw.W}{zs:List V},aL K ι n H ys zs->ys.all Tw.isKey=true->∀v∈zs,∃q,v=kV q
 |_,_,.nil,_=>fun v hv=>by simp at hv
 |y::ys,z::zs,.cons a r,h=>fun v hv=>by
  rw[List.all_cons,Bool.and_eq_true] at h;rcases List.mem_cons.mp hv with rfl|hv
  .exact gn a h.1
  .exact uO r h.2 v hv
theorem F0{o e:Expr}{apos cpos:Pos}(me:Me X o "index" apos [e] cpos)(hst:starEach [e] X.env=[(false,eval e X.env)])(ho:PE X o (tE (zx X E) da))(he:PE X e (tE (zx X E) db)):
  PE X (.Call (.Attribute o "index" apos) [e] [] cpos) (tE (zx X E) (vh .index da db)):=by
 refine PE.imp (yt PySem.F.plainAttrs_list PySem.F.slot_list_index PySem.F.type_list_index Dp ho (bX he cK hst) me.base me.ko me.line hst rfl) fun σ H Q Z=>Z.g fun ρ Z=>Z.g fun h Z=>Z.g fun ι Z=>Z.g fun at' p=>?_;unfold vh at p;refine⟨ρ,h,ι,at',(step at' p).mono fun x H1 Z=>Z.g fun w Z=>Z.g fun h1 Z=>Z.g fun ι1 Z=>Z.g fun at1 Z=>Z.g fun e1 Z=>Z.g fun r1 p1=>?_⟩;obtain⟨c1,pp⟩:=ai.ite p1;clear p1;obtain⟨i,ws,rfl,ei⟩:=xk (.inr (.inr rfl)) c1;cases r1 with
 |ref hi=>
  obtain⟨xs,q1,q2⟩:=at1.hr.lst ei;refine⟨.inl ⟨rfl,xs,bx.of q1⟩,ρ,h1,ι1,at1,(step at1 pp).mono fun y H2 Z=>Z.g fun u Z=>Z.g fun h2 Z=>Z.g fun ι2 Z=>Z.g fun at2 Z=>Z.g fun e2 Z=>Z.g fun r2 p2=>?_⟩;have same:ι2 i=ι1 i:=e2.same i hi;cases ej:h2[i]? with
  |none=>simp only[Tw.method,ej] at p2;exact p2.elim
  |some oj=>
   cases oj with
   |lst ys=>
    simp only[Tw.method,ej] at p2;obtain⟨zs,z1,z2⟩:=at2.hr.lst ej;by_cases c:(Tw.isKey u&&ys.all Tw.isKey)=true
    .rw[if_pos c] at p2;simp only[Bool.and_eq_true] at c;obtain⟨k,rfl⟩:=gn r2 c.1;cases eo:Tw.eh u ys with
     |none=>rw[eo] at p2;exact p2.elim
     |some j=>
      rw[eo] at p2;obtain⟨g1,g2⟩:=u0 r2 z2 c.2 eo;rw[same] at z1;exact⟨_,zs,k,j,rfl,rfl,z1,uO z2 c.2,g1,g2,ai.self (a:=Tw.W.int j) p2 at2.hr (.int _)⟩
    .rw[if_neg c] at p2;exact p2.elim
   |_=>simp only[Tw.method,ej] at p2;exact p2.elim
end
section
variable {X:Cx}{E:XK}{a b c e:Expr}{pos pos' p1 p2 pos2:Pos}{da db dc:Tw.Env->Tw.Hp->Tw.R Tw.W}
noncomputable def isCall:Expr->Bool
 |.Call .. => true
 |_=>false
theorem Bp{x y:Expr}{k:Nat}{p:Pos}{l:Nat}{env:Env}(h:isCall a=true):swapsWithSole [.Tuple [x,y] k p] a l env=pure false:=by cases a<;>first|rfl|cases h
theorem vL{x y:Expr}{k:Nat}{p:Pos}{env:Env}(h:isCall a=true):swappedStores [.Tuple [x,y] k p] a env=pure none:=by cases a<;>first|rfl|cases h
theorem GJ{x y:Expr}{k:Nat}{p:Pos}{g:TG}{i j:Nat}(hg:PG X (.Tuple [x,y] k p) g)(ht:yL (zx X E) (.two i j) g)(ha:PE X a (tE (zx X E) da))(hc:isCall a=true):
  PS X (.Assign [.Tuple [x,y] k p] a pos) (c9 (zx X E) fun ρ h=>(da ρ h).bind fun x h=>match x with
   |.tup [u,v]=>.ok (.next ((ρ.set i (some u)).set j (some v))) h
   |_=>.bad):=by
 refine PS.imp (Ab ha hg (Bp hc) (vL hc)) fun D σ H ⟨ρ,h,ι,at',p⟩=>⟨ρ,h,ι,at',(fH at' p).mono fun x H1 ⟨w,h1,ι1,at1,e1,r1,p1⟩=>?_⟩;split at p1
 .next u v=>exact ht ι1 h1 H1 ρ _ σ (.tup [u,v]) x _ at1 r1 rfl fun σ1 at2=>p1.next at2
 .exact p1.elim
theorem Ls{i:Nat}{x:Str}(hN:X.N.Nodup)(hi:X.N[i]?=some x)(hx:Loc X.env.scope x)(hf:X.fn x=true)(ha:PE X a (tE (zx X E) da)):
  PS X (.AugAssign (.Name x pos') .Add a pos) (c9 (zx X E) fun ρ h=>match ρ[i]? with
   |some (some (.int n))=>(da ρ h).bind fun y h=>match y with
    |.int b=>Tw.R.of ((Tw.binI .add n b).map fun c=>.next (ρ.set i (some (.int c)))) h
    |_=>.bad
   |_=>.bad):=by
 refine PS.imp (Hm hN hi hx ha Kx (.inl hf)) fun D σ H Z=>Z.g fun ρ Z=>Z.g fun h Z=>Z.g fun ι Z=>Z.g fun at' p=>?_;dsimp only at p;split at p
 .next n en=>
  obtain⟨v,hv,rv⟩:=at'.st i _ en;cases rv;refine⟨_,hv,ρ,h,ι,at',(fH at' p).mono fun y H1 Z=>Z.g fun w Z=>Z.g fun h1 Z=>Z.g fun ι1 Z=>Z.g fun at1 Z=>Z.g fun e1 Z=>Z.g fun r1 p1=>?_⟩;cases r1 with
  |int b=>exact⟨n,b,rfl,rfl,p1.next (at1.set (.int _) i)⟩
  |_=>exact p1.elim
 .exact p.elim
theorem LH{body:List Stmt}{tb:Tw.Env->Tw.Hp->Tw.R Tw.Fl}{n:Nat}(hp:PassesOwn (model X.prog X.w) X.A X.env X.xe)(hc:PT X c (tT (zx X E) dc))(hb:eB X body (c9 (zx X E) tb)):
  PS X (.While c body [] pos) (c9 (zx X E) fun ρ h=>Tw.g8 dc tb n ρ h):=by
 refine PS.imp (BI hp hc hb) fun D σ H Z=>Z.g fun ρ Z=>Z.g fun h Z=>Z.g fun ι Z=>Z.g fun at' p=>?_;refine⟨fun m σ H=>∃ρ h ι,At (zx X E) ι h H ρ σ/\bQ (zx X E) ι h H (Tw.g8 dc tb m ρ h) D,⟨n,ρ,h,ι,at',p⟩,?_⟩
 rintro m σ2 H2 ⟨ρ2,h2,ι2,at2,p2⟩
 cases m with
 |zero=>exact p2.elim
 |succ m=>
  unfold Tw.g8 at p2;refine⟨ρ2,h2,ι2,at2,?_⟩;simp only[dT];cases e0:dc ρ2 h2 with
  |bad=>rw[e0] at p2;exact p2.elim
  |aD=>rw[e0] at p2;exact p2
  |ok w h3=>
   simp only[e0,Tw.R.ak] at p2⊢;cases et:Tw.truth h3 w with
   |none=>rw[et] at p2;exact p2.elim
   |some k=>
    rw[et] at p2;intro ι3 H3 k' e3 r3 q;cases q;have at3:=at2.later e3 r3;cases k with
    |false=>rw[if_neg (by decide)];exact (bQ.later p2 e3).next at3
    |true=>
     rw[if_pos rfl];refine⟨fun σ H=>∃ρ h ι,At (zx X E) ι h H ρ σ/\bQ (zx X E) ι h H (Tw.g8 dc tb m ρ h) D,fun σ' H' q=>⟨m,Nat.lt_succ_self _,q⟩,ρ2,h3,ι3,at3,?_⟩;exact rZ (go:=Tw.g8 dc tb m) (bQ.later p2 e3) fun ρ4 h4 ι4 H4 σ4 e4 at4 p4=>⟨ρ4,h4,ι4,at4,p4⟩
end
inductive Fk where
 |fn (x:Str)
 |me (c m:Tw.S)
 deriving DecidableEq
structure Cfg where
 fns:List Fk
 tabs:List (Str×List (Tw.S×Nat)):=[]
 keys:List (Str×List Tw.S):=[]
 cons:List (Str×Tw.W):=[]
 ia:List (Tw.S×List Tw.S):=[]
mutual
noncomputable def same:Tw.W->Tw.W->Bool
 |.ah,.ah=>true
 |.bl a,.bl b=>decide (a=b)
 |.int a,.int b=>decide (a=b)
 |.str a,.str b=>decide (a=b)
 |.tup xs,.tup ys=>nv xs ys
 |_,_=>false
noncomputable def nv:List Tw.W->List Tw.W->Bool
 |[],[]=>true
 |x::xs,y::ys=>same x y&&nv xs ys
 |_,_=>false
end
mutual
theorem wb:∀(x y:Tw.W),same x y=true->x=y
 |.ah,y,h=>by cases y<;>first|rfl|(simp[same] at h)
 |.bl a,y,h=>by cases y<;>simp[same] at h;rw[h]
 |.int a,y,h=>by cases y<;>simp[same] at h;rw[h]
 |.str a,y,h=>by cases y<;>simp[same] at h;rw[h]
 |.tup xs,y,h=>by
  cases y with
  |tup ys=>rw[same] at h;rw[ud xs ys h]
  |_=>simp[same] at h
 |.ref a,y,h=>by cases y<;>simp[same] at h
 |.lst a,y,h=>by cases y<;>simp[same] at h
theorem ud:∀(xs ys:List Tw.W),nv xs ys=true->xs=ys
 |[],[],_=>rfl
 |[],_::_,h=>by simp[nv] at h
 |_::_,[],h=>by simp[nv] at h
 |x::xs,y::ys,h=>by
  rw[nv,Bool.and_eq_true] at h;rw[wb x y h.1,ud xs ys h.2]
end
noncomputable def BE(cf:Cfg)(x:Str)(w:Tw.W):Bool:=match cf.cons.lookup x with
 |some u=>same u w
 |none=>false
noncomputable def fJ:Tw.S:=[95,95,105,110,105,116,95,95]
noncomputable def NZ:Tw.Op->Operator
 |.add=>.Add | .sub=>.Sub | .mul=>.Mult | .fdiv=>.FloorDiv | .mod=>.Mod | .pow=>.Pow
noncomputable def Ee:Tw.Cp->CmpOp
 |.eq=>.Eq | .ne=>.NotEq | .lt=>.Lt | .le=>.LtE | .gt=>.Gt | .ge=>.GtE | .isin=>.In | .notin=>.NotIn | .isN=>.Is | .notN=>.IsNot
noncomputable def Ih:Tw.W->Const->Bool
 |.ah,.none=>true
 |.bl b,.bool c=>b== c
 |.int i,.int j=>decide (i=j)
 |.str x,.str y=>decide (y.cps.toList=x)&&x.all (fun c=>decide (c<0x110000))
 |_,_=>false
noncomputable def bN:Tw.B->Str
 |.len=> "len" | .list=> "list" | .tuple=> "tuple" | .dict=> "dict" | .int=> "int" | .listE=> "" | .listR=> "" | .dictP=> "dict" | .listS=> "list"
noncomputable def mN:Tw.Mt->Str
 |.append=> "append" | .get=> "get" | .join=> "join" | .index=> "index" | .pop=> "pop" | .rev=> "reverse"
noncomputable def MQ:Tw.Cp->Bool
 |.eq | .ne | .isin | .notin | .isN | .notN=>true
 |_=>false
noncomputable def ko:Tw.Mt->Nat->Bool
 |.append,1=>true | .get,1=>true | .get,2=>true | .join,1=>true | .index,1=>true | .rev,0=>true
 |_,_=>false
noncomputable def HB:Expr->Bool
 |.IfExp .. => false
 |_=>true
def eM(e:Expr):Bool:=aG e&&HB e
noncomputable def oh(x:Str):Bool:=!(x== ("__debug__" : Str))
theorem iL{x:Str}(h:oh x=true):(x== ("__debug__" : Str))=false:=by unfold oh at h;simpa using h
noncomputable def isNil:Tw.Es->Bool
 |.nil=>true
 |_=>false
mutual
noncomputable def aB(cf:Cfg)(sc:Sc)(N:List Str):Tw.E->Expr->Bool
 |.var i,e=>(bz e).any fun x=>decide (N[i]?=some x)&&yD sc x&&oh x&&!(x== ("__classdict__" : Str))
 |.cst w,e=>(wA e).any (fun c=>Ih w c) || (bz e).any fun x=>jL sc x&&oh x&&BE cf x w
 |.tup es,e=>(pf e).any fun xs=>c4 cf sc N es xs&&decide (xs.length<=1000)
 |.lst es,e=>(Dr e).any fun xs=>c4 cf sc N es xs&&decide (xs.length<=1000)
 |.ag es,e=>(zA e).any fun r=>r.1.isEmpty&&r.2.isEmpty&&isNil es
 |.bin op a b,e=>(DI e).any fun r=>decide (r.2.1=NZ op)&&aB cf sc N a r.1&&aB cf sc N b r.2.2
 |.cmp op a b,e=>(xN e).any fun r=>MQ op&&decide (r.2.1=[Ee op])&&(il r.2.2).any fun y=>aG y&&aB cf sc N a r.1&&aB cf sc N b y
 |.and a b,e=>(vq e).any fun r=>tw r.1&&(n5 r.2.1).any fun q=>(n5 q.2).any fun s=>eM q.1&&aB cf sc N a q.1&&(if s.2.isEmpty then eM s.1&&aB cf sc N b s.1 else aB cf sc N b (.BoolOp .And (s.1::s.2) r.2.2))
 |.or a b,e=>(vq e).any fun r=>!(tw r.1)&&(n5 r.2.1).any fun q=>(n5 q.2).any fun s=>eM q.1&&aB cf sc N a q.1&&(if s.2.isEmpty then eM s.1&&aB cf sc N b s.1 else aB cf sc N b (.BoolOp .Or (s.1::s.2) r.2.2))
 |.not a,e=>(Ks e).any fun r=>DC r.1&&eM r.2&&aB cf sc N a r.2
 |.ite c a b,e=>(HK e).any fun r=>eM r.1&&aB cf sc N c r.1&&aB cf sc N a r.2.1&&aB cf sc N b r.2.2
 |.idx a b,e=>(lQ e).any fun r=>aG r.2&&aB cf sc N a r.1&&aB cf sc N b r.2
 |.sl a lo hi,e=>(lQ e).any fun r=>(DX r.2).any fun s=>s.2.2.isNone&&aB cf sc N a r.1&&pq cf sc N lo s.1&&pq cf sc N hi s.2.1
 |.call f es,e=>(mZ e).any fun r=>decide (cf.fns[f]?=some (.fn r.1))&&jL sc r.1&&oh r.1&&!(r.2.isEmpty)&&c4 cf sc N es r.2
 |.blt b a,e=>(mZ e).any fun r=>(il r.2).any fun y=>match b with
  |.listR=>false
  |.listE=>false
  |b=>decide (r.1=bN b)&&decide (b≠.int)&&jL sc r.1&&aG y&&aB cf sc N a y
 |.c7 m o es,e=>(uE e).any fun r=>decide (r.2.1=mN m)&&ko m r.2.2.2.1.length&&(r.2.2.1.endLine== r.2.2.2.2.line)&&aG r.1&&je r.1&&aB cf sc N o r.1&&c4 cf sc N es r.2.2.2.1
 |.Bx a t,_=>false
 |.comp el it c,e=>(tV e).any fun r=>(xK r.2.1).any fun g=>(bz g.1).any fun x=>yz N sc [x] r.2.2.1&&decide (bW N [x]).Nodup&&aG g.2.1&&kc cf sc N false it g.2.1&&aB cf r.2.2.1.names (bW N [x]) el r.1&&
   (match c with
    |.none=>g.2.2.isEmpty
    |.some _=>false)
 |.fY el it,e=>(tV e).any fun r=>(xK r.2.1).any fun g=>g.2.2.isEmpty&&(pf g.1).any fun ts=>(xM ts).any fun q=>(bz q.1).any fun x=>(bz q.2).any fun z=>yz N sc [x,z] r.2.2.1&&decide (bW N [x,z]).Nodup&&aG g.2.1&&kc cf sc N true it g.2.1&&aB cf r.2.2.1.names (bW N [x,z]) el r.1
 |.bad,_=>true
 |.fld a x,e=>(ju e).any fun r=>decide (r.2.1=⟨x.toArray⟩)&&wQ.contains r.2.1&&aG r.1&&je r.1&&aB cf sc N a r.1
 |.mk c f es,e=>(mZ e).any fun r=>decide (r.1=⟨c.toArray⟩)&&decide (cf.fns[f]?=some (.me c fJ))&&jL sc r.1&&oh r.1&&c4 cf sc N es r.2
 |.own o c m f es,e=>(uE e).any fun r=>decide (r.2.1=⟨m.toArray⟩)&&decide (cf.fns[f]?=some (.me c m))&&decide (m≠fJ)&&(r.2.2.1.endLine== r.2.2.2.2.line)&&decide (r.2.2.2.1.length<20)&&aG r.1&&je r.1&&aB cf sc N o r.1&&c4 cf sc N es r.2.2.2.1
 |.oF g k es,e=>(pM e).any fun r=>r.2.2.1.isEmpty&&!(r.2.1.isEmpty)&&(lQ r.1).any fun s=>(bz s.1).any fun x=>decide (cf.tabs.lookup x=some g)&&jL sc x&&oh x&&aG s.2&&aB cf sc N k s.2&&c4 cf sc N es r.2.1
 |.wL k g,e=>(xN e).any fun r=>decide (r.2.1=[.In])&&(il r.2.2).any fun y=>(bz y).any fun x=>decide (cf.keys.lookup x=some g)&&jL sc x&&oh x&&aB cf sc N k r.1
noncomputable def c4(cf:Cfg)(sc:Sc)(N:List Str):Tw.Es->List Expr->Bool
 |.nil,xs=>xs.isEmpty
 |.cons e es,xs=>(n5 xs).any fun r=>aG r.1&&aB cf sc N e r.1&&c4 cf sc N es r.2
noncomputable def pq(cf:Cfg)(sc:Sc)(N:List Str):Tw.Eo->Option Expr->Bool
 |.none,o=>o.isNone
 |.some e,o=>o.any fun x=>aB cf sc N e x
noncomputable def kc(cf:Cfg)(sc:Sc)(N:List Str)(tp:Bool):Tw.It->Expr->Bool
 |.seq a,e=>aB cf sc N a e
 |.fN a,e=>(mZ e).any fun r=>(il r.2).any fun y=>decide (r.1=("range" : Str))&&jL sc r.1&&aG y&&aB cf sc N a y
 |.yr a b,_=>false
 |.zip a b,_=>false
 |.enum a,e=>(mZ e).any fun r=>(il r.2).any fun y=>tp&&decide (r.1=("enumerate" : Str))&&jL sc r.1&&aG y&&aB cf sc N a y
 |.rev a,e=>(mZ e).any fun r=>(il r.2).any fun y=>decide (r.1=("reversed" : Str))&&jL sc r.1&&aG y&&aB cf sc N a y
end
noncomputable def cO:List Str:=["len", "list", "tuple", "dict", "int", "str", "bool", "isinstance", "range", "zip", "enumerate", "reversed"]
structure jI(cf:Cfg)(C:Tw.Or)(CX:eE)(E:XK)(X:Cx):Prop where
 calm:X.calm=true
 units:X.A.units+100<cLine
 own:∀f x,cf.fns[f]?=some (.fn x)->∃k g fd ps,bU X.prog X.w X.K X.mg X.base CX k g fd ps (fk X.K X.mg (C f))/\bI k X.A/\X.mg x=some (.ref g)/\PySem.W.keepIn X.K (.ref g)=true/\Binds X.K fd ps []
 me:∀f c m,cf.fns[f]?=some (.me c m)->∃k g fd ps A,bU X.prog X.w X.K X.mg X.base CX k g fd ps (fk X.K X.mg (C f))/\bI (k+1) X.A/\X.mg ⟨c.toArray⟩=some (.ref A)/\GoodC X.K A/\(m=fJ->Mk X.K A g)/\(m≠fJ->Meth X.K A ⟨m.toArray⟩ g)/\Binds X.K fd ps []
 tab:∀x g,cf.tabs.lookup x=some g->∃t D,X.mg x=some (.ref t)/\lr X.K t D/\(∀s f,g.lookup s=some f->∃y ga,cf.fns[f]?=some (.fn y)/\X.mg y=some (.ref ga)/\KTD.datumAt (⟨s.toArray⟩:Str) D=some ga)
 key:∀x g,cf.keys.lookup x=some g->∃t D,X.mg x=some (.ref t)/\lr X.K t D/\∀s:Tw.S,KTD.inKeys (⟨s.toArray⟩:Str) D=g.contains s
 con:∀x w,cf.cons.lookup x=some w->∃v u,X.mg x=some u/\RelV v u/\∀ι n H,RW X.K ι n H w v
 blt:∀x∈cO,X.mg x=none
 pass:Passes CX X E
 never:∀outer H s e s',¬ CX outer H s E0 e s'
theorem jI.comp{cf:Cfg}{C:Tw.Or}{CX:eE}{E:XK}{X:Cx}(r:jI cf C CX E X){scope:Scope}{c:Addr}{x:List Str}{s:Shared}{H:L2.Hp}{pins:List (Addr×Obj)}{fp:List Addr}:jI cf C CX E0 (aX X scope c x s H pins fp):=
 ⟨r.calm,r.units,r.own,r.me,r.tab,r.key,r.con,r.blt,fun _ _ _ _ _ _ _ h=>(r.never _ _ _ _ _ h).elim,r.never⟩
theorem jI.kr{cf:Cfg}{C:Tw.Or}{CX:eE}{E:XK}{X:Cx}(r:jI cf C CX E X):jI cf C CX E0 X.kr:=
 ⟨r.calm,r.units,r.own,r.me,r.tab,r.key,r.con,r.blt,fun _ _ _ _ _ _ _ h=>(r.never _ _ _ _ _ h).elim,r.never⟩
theorem jR:plainId "dict.update.loop" = true:=by decide+kernel
theorem sG:entryFor table "dict.update.loop" = some Builtin.«dict.update.loop» := entryFor_of_fast (by kernel_rfl)
theorem Fh:typeLookup (.type "list") "keys" = pure none:=by rw[typeLookup_type,builtinLookup_eq_fast];kernel_rfl
theorem Ai{prog:Program}{w:World}{A:Around}{E:Value->Shared->Prop}{s:Shared}{a:Addr}{xs:Array Value}{k:Nat}{Q:Option Value->Shared->Prop}
  (hx:s.heap.get? a=some {cls:=.type "list",data:=.seq xs k}) (hA:A.handled=none)
  (h:∀h' tk,(∀b o,s.heap.get? b=some o->h'.get? b=some o)->Q none {s with heap:=h',toks:=tk}):
  wpAny (model prog w) A (getAttr? (.ref a) "keys") Q E s:=by
 obtain⟨hp,g,d,tk,os⟩:=s;have hT:∀tk',(⟨hp,g,d,tk',os⟩:Shared).TypeIs (.ref a) "list" := fun _=>⟨_,hx,rfl⟩;have f1:=sub_AttributeError;have f3:=F.slot_list_getattribute.lookup;have f4:=F.slot_list_getattribute.bind (.ref a);have f5:=am_list_getattr_none;unfold getAttr? getAttrBy? getAttrBy;repeat (any_goals (first|assumption|exact hT _|((with_reducible show wpAny _ _ (call (Value.builtin "list.__getattribute__") _ _) _ _ _);refine call_meets F.slot_list_getattribute (hT _) am_entry_list_getattribute (F.args_list_getattribute_2 _ _) (meets_getattribute_miss_list a xs k #[] "keys" _ Fh (by decide) (by size_fits)) ⟨hx,hA,fun h' tk' e hx'=>?_⟩)|wp_step))
 obtain⟨t',u',he⟩:=hx'.there;show wpAny _ _ (getattributeRaised _ _ _ _ _ _ _) _ _ _;unfold getattributeRaised;repeat (any_goals (first|assumption|wp_step))
 exact h _ _ hx'.keeps
def Pr(K:PySem.W.Frag)(H:L2.Hp):List V->List (Key×V)->Prop
 |[],[]=>True
 |x::xs,(k,v)::ps=>(∃t,x=.ref t/\TupAt K H t [kV k,v])/\Pr K H xs ps
 |_,_=>False
theorem Pr.upd{K:PySem.W.Frag}{H:L2.Hp}{d:Addr}{o:HO}(hd:∀xs,H d≠some (.tup xs)):∀{xs:List V}{ps:List (Key×V)},Pr K H xs ps->Pr K (upd H d o) xs ps
 |[],[],_=>trivial
 |x::xs,(k,v)::ps,⟨⟨t,e,ta⟩,r⟩=>⟨⟨t,e,ta.imp (fun z=>(aq (fun q=>hd _ (q▸z))).trans z) id⟩,Pr.upd hd r⟩
section
variable {X:Cx}{pins:List (Addr×Obj)}{σ:L2.St}
theorem Lu{H:L2.Hp}{s:Shared}{a:Addr}{kvs:List (Key×V)}{k:Key}{v:V}{u r:Value}{A:Around}{E:Value->Shared->Prop}{Q:Unit->Shared->Prop}(I:L2.Inv X pins σ H s)(e:H a=some (.dK kvs))(l:kvs.length<sizeLine)(ry:RelV (kV k) u)(rv:RelV v r)(h:∀s',L2.Inv X pins σ (upd H a (.dK (putK kvs k v))) s'->(∀b o,b≠a->s.heap.get? b=some o->s'.heap.get? b=some o)->Q () s'):
  wpAny (model X.prog X.w) A (dictSet a u r) Q E s:=by
 obtain⟨z,hd,vs,rel,dd⟩:=xU I.ao e;have hz:vs.length<=sizeLine:=by rw[<-rel.length];exact z
 have hl:(putK kvs k v).length<=sizeLine:=by have:=iF kvs k v;omega
 refine wpAny_dictSet_pairs (hsz:=hz) (jU ry) dd fun h' dd' hs=>h _ ?_ fun b o hb e=>(hs.2 b hb).trans e;have he:∃q,h'.get? a=some q:=let ⟨q,_,_,hq,_⟩:=dd';⟨q,hq⟩
 exact qT I (by rw[e];exact True.intro) hs he (qg hl hd (rel.put k rv) dd')
noncomputable def nN(kvs:List (Key×V)):List (Key×V)->List (Key×V)
 |[]=>kvs
 |(k,v)::r=>nN (putK kvs k v) r
theorem Ce{ys:List V}{a it d:Addr}(hc:X.calm=true):∀(rest pre:List V)(ps kvs:List (Key×V))(H:L2.Hp)(s:Shared)(i:Int)(tk:Tok),ys=pre++rest->L2.Inv (dn X) pins σ H s->s.heap.IsListIter it a pre.length->eO (dn X) pins H it->H a=some (.lst ys)->H d=some (.dK kvs)->kvs.length+rest.length<=sizeLine->Pr X.K H rest ps->
  codeAny (model X.prog X.w) X.A (.builtin "dict.update.loop" ⟨[.ref d,.ref it,.int i tk,.none],[]⟩) (fun r s2=>r=.ok (.ret .none)/\L2.Inv (dn X) pins σ (upd H d (.dK (nN kvs ps))) s2) s:=by
 intro rest;have T:=sP (P:=X.prog) (w:=X.w) (K:=X.K) (tg:=.Name "x" default) a it
 induction rest with
 |nil=>
  intro pre ps kvs H s i tk ey I Z hf ha hd hl hp;cases ps with
  |cons _ _=>exact hp.elim
  |nil=>
   refine codeAny_builtin sG ?_;rw[Around.under_plainId jR _];unfold Builtin.«dict.update.loop»;refine wpAny_bind (aC (T.done (dn X) rfl rfl rfl hc pre.length pins s σ H _ I (fun b hb=>by rw[List.mem_singleton.mp hb];exact hf) Z ⟨ys,bx.of ha,by rw[ey];simp⟩) fun r s1 Y=>Y.g fun er I1=>?_);subst er;have e:upd H d (.dK (nN kvs []))=H:=by
    funext b;unfold upd;split
    .rename_i z;rw[z,hd];rfl
    .rfl
   rw[e];exact wpAny_bind (wpAny_pure (wpAny_pure ⟨rfl,I1⟩))
 |cons x rest ih=>
  intro pre ps kvs H s i tk ey I Z hf ha hd hl hp;cases ps with
  |nil=>exact hp.elim
  |cons kv ps=>
   obtain⟨k,v⟩:=kv;obtain⟨⟨t,ex,ta⟩,hp'⟩:=hp;refine codeAny_builtin sG ?_;rw[Around.under_plainId jR _];unfold Builtin.«dict.update.loop»;have hx:ys[pre.length]?=some x:=by rw[ey];simp
   refine wpAny_bind (aC (T.item (dn X) rfl rfl rfl hc pre.length pins s σ H _ I (fun b hb=>by rw[List.mem_singleton.mp hb];exact hf) Z ⟨ys,x,bx.of ha,hx⟩) fun r s1 Y=>Y.g fun u Y=>Y.g fun er hg=>?_);subst er;have hg:wpAny (model X.prog X.w) (dn X).A (pure ()) _ _ s1:=hg;refine mI (v:=()) hg fun⟨x',H',I1,rx,⟨eH,yl⟩,Z1,fz⟩=>?_;subst eH;have:x'=x:=by have:=yl ys (bx.of ha);rw[hx] at this;exact (Option.some.inj this).symm
   subst this;subst ex;cases rx;obtain⟨its,rv,tp,_⟩:=I1.tuple ta.sq;obtain⟨o,e1,e2,n,e3⟩:=tp;cases rv with
   | @cons _ u1 _ us r1 rv=>
    cases rv with
    | @cons _ u2 _ us r2 rv=>
     cases rv;refine wpAny_bind (wpAny_holding (wpAny_bind (wpAny_tryCatch ?_)));unfold Builtin.Dict.pairItems;refine wpAny_bind (wpAny_typeOf ⟨o,e1,e2⟩ ?_);rw[if_pos (by decide)];refine wpAny_bind ?_;unfold seqItems?;refine wpAny_bind (wpAny_load e1 ?_);rw[e3];refine wpAny_pure (wpAny_pure ?_);have ne:it≠d:=fun z=>by have:=hf.1;rw[z,hd] at this;cases this
     show wpAny _ _ (holding [u1,u2] (dictSet d u1 u2)) _ _ _;simp only[List.length_cons] at hl;refine wpAny_holding (Lu (X:=dn X) I1 hd (by omega) r1 r2 fun s2 I2 kp=>?_);have ad:a≠d:=fun z=>by rw[z,hd] at ha;cases ha
     have lp:=iF kvs k v;have hz:=ih (pre++[.ref t]) ps (putK kvs k v) (upd H' d (.dK (putK kvs k v))) s2 (i+1) 0 (by rw[ey];simp) I2 (by
      have:(pre++[V.ref t]).length=pre.length+1:=by simp
      rw[this];exact Z1.at fun o e=>kp it o ne e) ⟨by rw[aq ne];exact hf.1,hf.2⟩ (by rw[aq ad];exact ha) aJ (by omega) (hp'.upd fun xs z=>by rw[hd] at z;cases z)
     rw[nM] at hz;exact wpAny_pure ⟨plainId_quiet jR _,hz⟩
theorem yd(hc:X.calm=true):c6 X (.type "dict") (fun xs H Q=>∃a ys ps,xs=[V.ref a]/\H a=some (.lst ys)/\Pr X.K H ys ps/\∀l,H l=none->Q (.ref l) (upd H l (.dK (nN [] ps)))):=by
 intro pins s σ H xs us Q I r ⟨a,ys,ps,ex,ea,hp,q⟩;subst ex;obtain⟨u,rfl,ru⟩:=vals1 r;cases ru;obtain⟨Z,its,n,rr,hl',e⟩:=I.qM ea;refine callType_codes (Q₁:=fun obj s₁=>obj=.ref s.heap.objs.size/\s₁={s with heap:=s.heap.push {cls:=.type "dict",data:=.dict #[]}}) F.kt_called_dict (F.kt_typeCall_dict_1 _) F.entry_dict_init (kt_code_dict_new _ ⟨rfl,rfl⟩) ?_
 rintro obj s₁ ⟨rfl,rfl⟩
 have hnew:(s.heap.push {cls:=.type "dict",data:=.dict #[]}).DictOf (bD X.prog X.w) s.heap.objs.size []:=Heap.DictOf.new s.heap;have kp:∀b o,s.heap.get? b=some o->(s.heap.push {cls:=.type "dict",data:=.dict #[]}).get? b=some o:=fun b o e=>Heap.get?_push_of_some _ e;have I1:L2.Inv X pins σ (upd H s.heap.objs.size (.dK [])) {s with heap:=s.heap.push {cls:=.type "dict",data:=.dict #[]}}:=I.laid (a:=s.heap.objs.size) (o:=.dK []) (t':=s.toks) kp (Nat.le_refl _) (qg (Nat.zero_le _) (beq_eq_false_iff_ne.mpr (Ne.symm (Nat.ne_of_lt I.big))) .nil hnew);have hn:H s.heap.objs.size=none:=I.ao.fresh (Nat.le_refl _);have na:a≠s.heap.objs.size:=fun z=>by rw[z,hn] at ea;cases ea
 refine⟨hnew.typeIs,F.args_dict_init_2 _ _,?_⟩;unfold Builtin.«dict.__init__»;refine wpAny_bind ?_;unfold Builtin.Dict.selfAndRest;refine wpAny_bind (wpAny_notOrdered_dict hnew.typeIs ?_);show wpAny _ _ (pure (s.heap.objs.size,[Value.ref a])) _ _ _;refine wpAny_pure ?_;show wpAny _ _ (Builtin.Dict.updateFrom "dict.__init__" s.heap.objs.size (.ref a) [] .none) _ _ _;unfold Builtin.Dict.updateFrom;refine wpAny_bind (wpAny_typeOf ⟨_,kp _ _ e,rfl⟩ ?_);rw[if_pos (by decide)];refine wpAny_bind (Ai (kp _ _ e) (I.ok.hd hc) fun h' tk k2=>?_);rw[if_pos (by rfl)];refine wpAny_bind (wpAny_rule ?_);have I2:L2.Inv X pins σ (upd H s.heap.objs.size (.dK [])) {s with heap:=h',toks:=tk}:=I1.kept (t':=tk) k2;refine wpAny_bind (wpAny_pyIter_list (items:=its.toArray) ⟨_,k2 _ _ (kp _ _ e),rfl,n,rfl⟩ ?_);have k3:∀b o,h'.get? b=some o->(h'.push {cls:=.type "list_iterator",data:=.fields #[.ref a,.int 0 0]}).get? b=some o:=fun b o e=>Heap.get?_push_of_some _ e;have I3:L2.Inv X pins σ (upd H s.heap.objs.size (.dK [])) {s with heap:=h'.push {cls:=.type "list_iterator",data:=.fields #[.ref a,.int 0 0]},toks:=tk}:=I2.kept (t':=tk) k3;have f0:eO X pins (upd H s.heap.objs.size (.dK [])) h'.objs.size:=I2.oE (Nat.le_refl _) (I2.ao.fresh (Nat.le_refl _));refine wpAny_pure ⟨plainId_quiet jR _,codeAny_mono (Ce (X:=dn X) (ys:=ys) (a:=a) (it:=h'.objs.size) (d:=s.heap.objs.size) hc ys [] ps [] _ _ 0 0 rfl (Inv.GB (Inv.GB I3)) ⟨_,Heap.get?_push_size _ rfl,rfl,rfl⟩ f0 (by rw[aq na];exact ea) aJ (by simpa using Z) (hp.upd fun xs z=>by rw[hn] at z;cases z)) fun r s2 Z=>Z.g fun er I4=>?_⟩;subst er;rw[nM] at I4;exact⟨rfl,.ref s.heap.objs.size,_,Inv.out I.ok (Inv.out (Inv.GB I).ok I4),rfl,q _ hn⟩
theorem wm:∀{xs:List V}{us:List Value},xs.length=us.length->(∀(j:Nat)(v:Value),us[j]?=some v->∃x,xs[j]?=some x/\RelV x v)->Vals xs us
 |[],[],_,_=>.nil
 |x::xs,u::us,l,h=>.cons (by obtain⟨y,e,r⟩:=h 0 u rfl;cases e;exact r) (wm (by simpa using l) fun j v e=>by
  obtain⟨y,e,r⟩:=h (j+1) v (by simpa using e);exact⟨y,by simpa using e,r⟩)
theorem xu(hc:X.calm=true):c6 X (.type "list") (fun xs H Q=>∃x:Str,xs=[V.str x]/\x.cps.size<=sizeLine/\∀l,H l=none->Q (.ref l) (upd H l (.lst (x.cps.toList.map fun c=>V.str ⟨#[c]⟩)))):=by
 intro pins s σ H xs us Q I r ⟨x,ex,hz,q⟩;subst ex;obtain⟨u,rfl,ru⟩:=vals1 r;obtain⟨t,rfl⟩:=(show ∃t,u=Value.str x t from ru);refine call_list_str (hn:=hz) (I.ok.hd hc) x t fun h' tk acc c hk hS hi=>?_;have rv:Vals (x.cps.toList.map fun c=>V.str ⟨#[c]⟩) acc.toList:=wm (by simp[hi.1]) fun j v e=>by
  obtain⟨c,t,e1,e2⟩:=hi.2 j v (by rw[<-Array.getElem?_toList];exact e);subst e2;exact⟨V.str ⟨#[c]⟩,by rw[List.getElem?_map,Array.getElem?_toList,e1];rfl,⟨t,rfl⟩⟩
 exact⟨.ref s.heap.objs.size,_,I.laid (a:=s.heap.objs.size) (o:=.lst _) (t':=tk) hk (Nat.le_refl _) ⟨by simpa using hz,acc.toList,c,rv,by simpa using hS⟩,rfl,q _ (I.ao.fresh (Nat.le_refl _))⟩
end
section
variable {X:Cx}{E:XK}
theorem zd{K:PySem.W.Frag}{ι:Nat->Addr}{n:Nat}{H:L2.Hp}:∀{xs:List Tw.W}{zs:List V}{acc kvs:List (Tw.W×Tw.W)}{as:List (Key×V)},aL K ι n H xs zs->RD K ι n H acc as->Tw.vo acc xs=some kvs->∃ps,Pr K H zs ps/\RD K ι n H kvs (nN as ps)
 |_,_,_,_,_,.nil,d,e=>by
  simp at e;subst e;exact⟨[],trivial,d⟩
 |_,_,acc,kvs,as,.cons a r,d,e=>by
  cases a with
  | @tup t ys ws ta rr=>
   cases rr with
   |nil=>simp at e
   |cons b rr=>
    cases rr with
    |nil=>simp at e
    |cons b' rr=>
     cases rr with
     |cons _ _=>simp at e
     |nil=>
      simp only[Tw.vo] at e;split at e
      .rename_i hk;obtain⟨q,rfl⟩:=gn b hk;obtain⟨ps,p1,p2⟩:=zd r (d.put b b') e;exact⟨(q,_)::ps,⟨⟨t,rfl,ta⟩,p1⟩,p2⟩
      .cases e
  |_=>simp at e
theorem B5(ι:Nat->Addr)(h:Tw.Hp)(H:L2.Hp)(w:Tw.W)(x:V)(Q:VK)(r:HR (zx X E) ι h H)(rx:RW X.K ι h.length H w x)(p:ai (zx X E) RE ι h H (Tw.builtin .dictP w h) Q):
  ∃a ys ps,[x]=[V.ref a]/\H a=some (.lst ys)/\Pr X.K H ys ps/\∀l,H l=none->Q (.ref l) (upd H l (.dK (nN [] ps))):=by
 unfold Tw.builtin at p;dsimp only at p;cases rx with
 | @ref k hk=>
  dsimp only at p;cases ei:h[k]? with
  |none=>rw[ei] at p;exact p.elim
  |some o=>
   rw[ei] at p;cases o with
   |lst ws=>
    dsimp only at p;obtain⟨xs,q1,q2⟩:=r.obj k _ ei;by_cases c:ws.length<=1000
    .rw[if_pos c] at p;cases ep:Tw.vo [] ws with
     |none=>rw[ep] at p;exact p.elim
     |some kvs=>
      rw[ep] at p;obtain⟨ps,p1,p2⟩:=zd q2 .nil ep;exact⟨_,xs,ps,rfl,q1,p1,p.ag r p2⟩
    .rw[if_neg c] at p;exact p.elim
   |_=>exact p.elim
 |_=>exact p.elim
theorem signs{K:PySem.W.Frag}{ι:Nat->Addr}{n:Nat}{H:L2.Hp}:∀{z:Tw.S},m8 z->aL K ι n H (z.map fun c=>.str [c]) (z.map fun c=>V.str ⟨#[c]⟩)
 |[],_=>.nil
 |c::z,h=>.cons (.str [c] fun d hd=>by rw[List.mem_singleton.mp hd];exact h c List.mem_cons_self) (signs fun d hd=>h d (List.mem_cons_of_mem _ hd))
theorem BK(ι:Nat->Addr)(h:Tw.Hp)(H:L2.Hp)(w:Tw.W)(x:V)(Q:VK)(r:HR (zx X E) ι h H)(rx:RW X.K ι h.length H w x)(p:ai (zx X E) RE ι h H (Tw.builtin .listS w h) Q):
  ∃z:Str,[x]=[V.str z]/\z.cps.size<=sizeLine/\∀l,H l=none->Q (.ref l) (upd H l (.lst (z.cps.toList.map fun c=>V.str ⟨#[c]⟩))):=by
 unfold Tw.builtin at p;dsimp only at p;cases rx with
 |str z hz=>
  dsimp only at p;by_cases c:z.length<=1000/\z.all (fun c=>decide (c<128))=true
  .rw[if_pos c] at p;refine⟨_,rfl,?_,p.lst r (signs hz)⟩;have:=c.1;simp only[List.size_toArray,sizeLine_eq];omega
  .rw[if_neg c] at p;exact p.elim
 |_=>exact p.elim
end
section
variable {cf:Cfg}{C:Tw.Or}{CX:eE}{E:XK}
def SE(C:Tw.Or)(E:XK)(X:Cx)(t:Tw.E)(e:Expr):Prop:=PE X e (tE (zx X E) (Tw.ae C t))/\(eM e=true->PT X e (tT (zx X E) (Tw.ae C t)))
theorem zN{e:Expr}(h:eM e=true):aG e=true:=by unfold eM at h;rw[Bool.and_eq_true] at h;exact h.1
theorem SE.val{X:Cx}{t:Tw.E}{e:Expr}(h:PE X e (tE (zx X E) (Tw.ae C t)))(hv:DY e=true):SE C E X t e:=⟨h,fun hp=>ES h (zZ (zN hp) hv)⟩
theorem JH{X:Cx}{w:Tw.W}{c:Const}{k:Nat}{p:Pos}(h:Ih w c=true):SE C E X (.cst w) (.Constant c k p):=by
 refine SE.val ?_ rfl;rw[show Tw.ae C (.cst w)=fun _ h=>.ok w h from by funext ρ h;rw[Tw.eI]];cases w with
 |ah=>cases c<;>first|exact qk H8 fun _ _ _=>.ah|exact absurd (show false=true from h) Bool.false_ne_true
 |bl b=>
  cases c with
  |bool b'=>
   have h:(b== b')=true:=h;rw[beq_iff_eq] at h;subst h;exact qk Lj fun _ _ _=>.bl _
  |_=>exact absurd (show false=true from h) Bool.false_ne_true
 |int i=>
  cases c with
  |int j=>
   have h:decide (i=j)=true:=h;rw[decide_eq_true_eq] at h;subst h;exact qk Gy fun _ _ _=>.int _
  |_=>exact absurd (show false=true from h) Bool.false_ne_true
 |str x=>
  cases c with
  |str y=>
   have h:(decide (y.cps.toList=x)&&x.all (fun c=>decide (c<0x110000)))=true:=h;simp only[Bool.and_eq_true,decide_eq_true_eq,List.all_eq_true] at h;obtain⟨rfl,h2⟩:=h;obtain⟨y⟩:=y;exact qk JR fun ι n H=>by
    have:=RW.str (K:=X.K) (ι:=ι) (n:=n) (H:=H) y.toList h2;simpa using this
  |_=>exact absurd (show false=true from h) Bool.false_ne_true
 |_=>exact absurd (show false=true from h) Bool.false_ne_true
theorem Ky{X:Cx}(R:jI cf C CX E X){w:Tw.W}{x:Str}{p:Pos}(hg:Gl X x)(hd:(x== ("__debug__" : Str))=false)(h:BE cf x w=true):SE C E X (.cst w) (.Name x p):=by
 unfold BE at h;cases e:cf.cons.lookup x with
 |none=>rw[e] at h;exact absurd h Bool.false_ne_true
 |some u=>
  rw[e] at h;have e2:=wb u w h;subst e2;obtain⟨v,val,hm,rv,rw'⟩:=R.con x u e;refine SE.val ?_ rfl;rw[show Tw.ae C (.cst u)=fun _ h=>.ok u h from by funext ρ h;rw[Tw.eI]];exact qk (qH hg hm rv hd) rw'
theorem PT.bool{X:Cx}{op:BoolOp}{xs:List Expr}{p:Pos}{t:TT}(h:PT X (.BoolOp op xs p) t):PW X (.BoolOp op xs p) t:=fun _=>h
theorem no{P:Prop}(h:false=true):P:=absurd h Bool.false_ne_true
theorem Ku{X:Cx}(R:jI cf C CX E X){op:Tw.Cp}{a b:Tw.E}{x y:Expr}{p:Pos}(ha:SE C E X a x)(hb:SE C E X b y)(hp:aG y=true)(hc:MQ op=true):SE C E X (.cmp op a b) (.Compare x [Ee op] [y] p):=by
 have hu:X.A.units+1<cLine:=by have:=R.units;omega
 have key:∀{r:R2},cN X (compareOp (Ee op)) r->(∀(ι:Nat->Addr)(h:Tw.Hp)(H:L2.Hp)(w u:Tw.W)(x y:V)(k:Bool)(Q:VK),HR (zx X E) ι h H->RW X.K ι h.length H w x->RW X.K ι h.length H u y->Tw.cmp op w u h=some k->Q (.bl k) H->r x y H Q)->SE C E X (.cmp op a b) (.Compare x [Ee op] [y] p):=fun {r} ho hr=>by
  have z:=Hg (pos:=p) (op:=op) ho hr ha.1 hb.1 (vF _ hp);have e:Tw.ae C (.cmp op a b)=fun ρ h=>(Tw.ae C a ρ h).bind fun x h=>(Tw.ae C b ρ h).bind fun y h=>Tw.R.of ((Tw.cmp op x y h).map .bl) h:=by funext ρ h;rw[Tw.Gp]
  unfold SE;rw[e];exact⟨z.1,fun _=>z.2⟩
 cases op with
 |eq=>exact key (Jf (E:=E) R.units) P0
 |ne=>exact key (Hr (E:=E) R.units) Oh
 |lt=>exact no hc
 |le=>exact no hc
 |gt=>exact no hc
 |ge=>exact no hc
 |isin=>exact key (KA hu) Oc
 |notin=>exact key (zX hu) FE
 |isN=>exact key Im Lx
 |notN=>exact key EM HF
theorem Hk{X:Cx}{op:Tw.Op}{a b:Tw.E}{x y:Expr}{p:Pos}(ha:SE C E X a x)(hb:SE C E X b y):SE C E X (.bin op a b) (.BinOp x (NZ op) y p):=by
 refine SE.val ?_ rfl;rw[show Tw.ae C (.bin op a b)=fun ρ h=>(Tw.ae C a ρ h).bind fun x h=>(Tw.ae C b ρ h).bind fun y h=>Tw.bin op x y h from by funext ρ h;rw[Tw.rm]];cases op with
 |add=>exact Lo ha.1 hb.1
 |sub=>exact LF ha.1 hb.1
 |mul=>exact Lm ha.1 hb.1
 |fdiv=>exact J0 ha.1 hb.1
 |mod=>exact Ll ha.1 hb.1
 |pow=>exact LV ha.1 hb.1
theorem AO{X:Cx}{a b:Tw.E}{x y:Expr}{r:List Expr}{p:Pos}(ha:SE C E X a x)(hx:eM x=true)(hb:PE X (.BoolOp .And (y::r) p) (tE (zx X E) (Tw.ae C b)))(hw:PW X (.BoolOp .And (y::r) p) (tT (zx X E) (Tw.ae C b))):
  SE C E X (.and a b) (.BoolOp .And (x::y::r) p):=by
 have e:Tw.ae C (.and a b)=yv (Tw.ae C a) (Tw.ae C b):=by funext ρ h;rw[Tw.E4];rfl
 unfold SE;rw[e];exact⟨LZ ha.1 hb,fun _=>(w_and (ha.2 hx) hw).pt⟩
theorem Ec{X:Cx}{a b:Tw.E}{x y:Expr}{r:List Expr}{p:Pos}(ha:SE C E X a x)(hx:eM x=true)(hb:PE X (.BoolOp .Or (y::r) p) (tE (zx X E) (Tw.ae C b)))(hw:PW X (.BoolOp .Or (y::r) p) (tT (zx X E) (Tw.ae C b))):
  SE C E X (.or a b) (.BoolOp .Or (x::y::r) p):=by
 have e:Tw.ae C (.or a b)=Ep (Tw.ae C a) (Tw.ae C b):=by funext ρ h;rw[Tw.Hv];rfl
 unfold SE;rw[e];exact⟨Pj ha.1 hb,fun _=>(w_or (ha.2 hx) hw).pt⟩
theorem KL{X:Cx}{a:Tw.E}{x:Expr}{p:Pos}(ha:SE C E X a x)(hx:eM x=true):SE C E X (.not a) (.UnaryOp .Not x p):=by
 have e:Tw.ae C (.not a)=fun ρ h=>(Tw.ae C a ρ h).bind fun x h=>Tw.R.of ((Tw.truth h x).map fun b=>.bl (!b)) h:=by funext ρ h;rw[Tw.FN]
 unfold SE;rw[e];have z:=Mc (pos:=p) ha.1 (ha.2 hx);exact⟨z.1,fun _=>z.2⟩
theorem Ir{X:Cx}(R:jI cf C CX E X){b:Tw.B}{a:Tw.E}{y:Expr}{p pos:Pos}(hb:b≠.int)(hb1:b≠.listE)(hb2:b≠.listR)(hg:Gl X (bN b))(ha:SE C E X a y)(hy:aG y=true):SE C E X (.blt b a) (.Call (.Name (bN b) p) [y] [] pos):=by
 refine SE.val ?_ rfl;rw[show Tw.ae C (.blt b a)=fun ρ h=>(Tw.ae C a ρ h).bind fun x h=>Tw.builtin b x h from by funext ρ h;rw[Tw.FP]];have hst:starEach [y] X.env=(false,eval y X.env)::starEach [] X.env:=bu hy;cases b with
 |len=>exact nu (Cu AU hg (R.blt _ (by simp[cO,bN])) PySem.boot_len (bX ha.1 cK hst) (by decide) (by decide) hst rfl) GN
 |list=>exact nu (iO (xB R.calm) hg (R.blt _ (by simp[cO,bN])) PyProof.Rows.boot_list (bX ha.1 cK hst) (by decide) (by decide) hst rfl) FZ
 |tuple=>exact nu (iO zE hg (R.blt _ (by simp[cO,bN])) PyProof.Rows.boot_tuple (bX ha.1 cK hst) (by decide) (by decide) hst rfl) Cb
 |dict=>exact nu (iO yF hg (R.blt _ (by simp[cO,bN])) PyProof.Rows.boot_dict (bX ha.1 cK hst) (by decide) (by decide) hst rfl) EG
 |int=>exact absurd rfl hb
 |dictP=>exact nu (iO (yd R.calm) hg (R.blt _ (by simp[cO,bN])) PyProof.Rows.boot_dict (bX ha.1 cK hst) (by decide) (by decide) hst rfl) B5
 |listS=>exact nu (iO (xu R.calm) hg (R.blt _ (by simp[cO,bN])) PyProof.Rows.boot_list (bX ha.1 cK hst) (by decide) (by decide) hst rfl) BK
 |listE=>exact absurd rfl hb1
 |listR=>exact absurd rfl hb2
theorem tD{X:Cx}{v:Expr}{x:Str}{ap cp:Pos}{ys:List Expr}(hv:aG v=true)(hn:je v=true)(hl:(ap.endLine== cp.line)=true)(hst:starEach ys X.env=ys.map fun y=>(false,eval y X.env))(hy:ys.length<20):Me X v x ap ys cp:=by refine⟨lD hv hn,?_,hl⟩;rw[hst];simp only[backTo,List.map_map,Bool.and_eq_true];refine⟨⟨by simp,rfl⟩,?_⟩;rw[decide_eq_true_eq];show ys.length+0+0<30;omega
end
section
variable {cf:Cfg}{C:Tw.Or}{CX:eE}{E:XK}
theorem w4{X:Cx}{a:Tw.E}{x:Expr}{p:Pos}(ha:SE C E X a x)(hx:eM x=true)(op:BoolOp):PE X (.BoolOp op [x] p) (tE (zx X E) (Tw.ae C a))/\PW X (.BoolOp op [x] p) (tT (zx X E) (Tw.ae C a)):=by
 refine⟨II ha.1,?_⟩;cases op with
 |And=>exact FH (ha.2 hx)
 |Or=>exact Iy (ha.2 hx)
theorem oC(N:List Str)(x:List Str)(i:Nat):(bW N x)[N.length+i]?=x[i]?:=by unfold bW;rw[List.getElem?_append_right (by simp)];simp
theorem vg{X:Cx}{scope:Scope}{x:Str}{px:Pos}(hnd:(bW X.N [x]).Nodup)(cs:eY X.N X.env.scope [x] scope):∀C s H pins fp,PG (aX X scope C [x] s H pins fp) (.Name x px) (fD X.N.length):=fun C s H pins fp=>
 kP hnd (show (bW X.N [x])[X.N.length]?=some x by have:=oC X.N [x] 0;simpa using this) (.inl (lookup_relabel_local (cs.sF x (by simp)))) (.inr (lookup_relabel_local (cs.sF x (by simp))))
theorem u6{X:Cx}{scope:Scope}{x y:Str}{px py pt:Pos}{k:Nat}(hc:X.calm=true)(hnd:(bW X.N [x,y]).Nodup)(cs:eY X.N X.env.scope [x,y] scope):
  ∀C s H pins fp,PG (aX X scope C [x,y] s H pins fp) (.Tuple [.Name x px,.Name y py] k pt) (yR X.K 2 (kZ (fD X.N.length) (kZ (fD (X.N.length+1)) yf))):=fun C s H pins fp=>
 uy hc (ir (kP hnd (show (bW X.N [x,y])[X.N.length]?=some x by have:=oC X.N [x,y] 0;simpa using this) (.inl (lookup_relabel_local (cs.sF x (by simp)))) (.inr (lookup_relabel_local (cs.sF x (by simp)))))
  (ir (kP hnd (show (bW X.N [x,y])[X.N.length+1]?=some y by have:=oC X.N [x,y] 1;simpa using this) (.inl (lookup_relabel_local (cs.sF y (by simp)))) (.inr (lookup_relabel_local (cs.sF y (by simp))))) qD))
theorem A7{o:BoolOp}(h:tw o=true):o=.And:=by cases o<;>first|rfl|cases h
theorem De{o:BoolOp}(h:tw o=false):o=.Or:=by cases o<;>first|rfl|cases h
theorem cn{sc:Sc}{N:List Str}{ys:List Expr}(h:c4 cf sc N .nil ys=true):ys=[]:=by rw[c4.eq_def] at h;exact bS h
theorem cc{sc:Sc}{N:List Str}{t:Tw.E}{ts:Tw.Es}{ys:List Expr}(h:c4 cf sc N (.cons t ts) ys=true):∃y r,ys=y::r/\aG y=true/\aB cf sc N t y=true/\c4 cf sc N ts r=true:=by rw[c4.eq_def] at h;dsimp only at h;replace h:=ay h;obtain⟨⟨x,r⟩,e1,h⟩:=h;simp only[Bool.and_eq_true] at h;exact⟨x,r,eK e1,h.1.1,h.1.2,h.2⟩
theorem OK(m:Tw.Mt)(o:Tw.E):Tw.ae C (.c7 m o .nil)=DH m (Tw.ae C o):=by
 funext ρ h;rw[Tw.nG];unfold DH
 congr 1
theorem Ou(m:Tw.Mt)(o e1:Tw.E):Tw.ae C (.c7 m o (.cons e1 .nil))=vh m (Tw.ae C o) (Tw.ae C e1):=by
 funext ρ h;rw[Tw.nG];unfold vh
 congr 1
 funext x h
 congr 1
 rw[Tw.bZ];cases Tw.ae C e1 ρ h with
 |ok a h=>simp
 |_=>rfl
theorem PU(m:Tw.Mt)(o e1 e2:Tw.E):Tw.ae C (.c7 m o (.cons e1 (.cons e2 .nil)))=IX m (Tw.ae C o) (Tw.ae C e1) (Tw.ae C e2):=by
 funext ρ h;rw[Tw.nG];unfold IX
 congr 1
 funext x h
 congr 1
 rw[Tw.bZ];cases Tw.ae C e1 ρ h with
 |ok a h=>
  simp only[Tw.R.ak,Tw.bZ];cases Tw.ae C e2 ρ h with
  |ok a h=>simp
  |_=>rfl
 |_=>rfl
mutual
theorem aR:∀(t:Tw.E){E:XK}{sc:Sc}{N:List Str}{X:Cx}{e:Expr},jI cf C CX E X->ff sc N X->aB cf sc N t e=true->SE C E X t e
 |.var i,E,sc,N,X,e,R,S,h=>by
  rw[aB.eq_def] at h;dsimp only at h;replace h:=ay h;obtain⟨x,e1,h⟩:=h;obtain⟨p,rfl⟩:=aH e1;simp only[Bool.and_eq_true,decide_eq_true_eq,Bool.not_eq_true'] at h;refine SE.val ?_ rfl;rw[show Tw.ae C (.var i)=fun ρ h=>(match ρ[i]? with|some (some w)=>.ok w h|_=>.bad) from by funext ρ h;rw[Tw.bq]<;>rfl];exact Lq (by rw[S.n];exact h.1.1.1) (S.ui x h.1.1.2) (iL h.1.2) h.2
 |.cst w,E,sc,N,X,e,R,S,h=>by
  rw[aB.eq_def] at h;dsimp only at h;replace h:=(Bool.or_eq_true _ _).mp h;rcases h with h|h
  .replace h:=ay h;obtain⟨c,e1,h⟩:=h;obtain⟨k,p,rfl⟩:=vC e1;exact JH h
  .replace h:=ay h;obtain⟨x,e1,h⟩:=h;obtain⟨p,rfl⟩:=aH e1;simp only[Bool.and_eq_true] at h;exact Ky R (S.gl _ h.1.1) (iL h.1.2) h.2
 |.tup es,E,sc,N,X,e,R,S,h=>by
  rw[aB.eq_def] at h;dsimp only at h;replace h:=ay h;obtain⟨xs,e1,h⟩:=h;obtain⟨k,p,rfl⟩:=iK e1;simp only[Bool.and_eq_true,decide_eq_true_eq] at h;obtain⟨_,z⟩:=i3 es R S h.1;refine SE.val ?_ rfl;rw[show Tw.ae C (.tup es)=fun ρ h=>(Tw.bc C es ρ h).bind fun xs h=>.ok (.tup xs) h from by funext ρ h;rw[Tw.kz]];exact K7 z (by rw[sizeLine_eq];omega)
 |.lst es,E,sc,N,X,e,R,S,h=>by
  rw[aB.eq_def] at h;dsimp only at h;replace h:=ay h;obtain⟨xs,e1,h⟩:=h;obtain⟨p,rfl⟩:=Az e1;simp only[Bool.and_eq_true,decide_eq_true_eq] at h;obtain⟨_,z⟩:=i3 es R S h.1;refine SE.val ?_ rfl;rw[show Tw.ae C (.lst es)=fun ρ h=>(Tw.bc C es ρ h).bind fun xs h=>Tw.new (.lst xs) h from by funext ρ h;rw[Tw.wH]];exact La z (by rw[sizeLine_eq];omega)
 |.ag es,E,sc,N,X,e,R,S,h=>by
  rw[aB.eq_def] at h;dsimp only at h;replace h:=ay h;obtain⟨⟨ks,vs⟩,e1,h⟩:=h;obtain⟨p,rfl⟩:=ya e1;simp only[Bool.and_eq_true] at h;obtain⟨⟨h1,h2⟩,h3⟩:=h;obtain rfl:=bS (show ks.isEmpty=true from h1);obtain rfl:=bS (show vs.isEmpty=true from h2);cases es with
  |cons _ _=>exact no h3
  |nil=>
   refine SE.val ?_ rfl;have e:Tw.ae C (.ag .nil)=O0 []:=by funext ρ h;rw[Tw.Fz,Tw.cH];rfl
   rw[e];exact Jg
 |.bin op a b,E,sc,N,X,e,R,S,h=>by
  rw[aB.eq_def] at h;dsimp only at h;replace h:=ay h;obtain⟨⟨x,o,y⟩,e1,h⟩:=h;obtain⟨p,rfl⟩:=zy e1;simp only[Bool.and_eq_true,decide_eq_true_eq] at h;obtain⟨⟨rfl,h1⟩,h2⟩:=h;exact Hk (aR a R S h1) (aR b R S h2)
 |.cmp op a b,E,sc,N,X,e,R,S,h=>by
  rw[aB.eq_def] at h;dsimp only at h;replace h:=ay h;obtain⟨⟨x,os,ys⟩,e1,h⟩:=h;obtain⟨p,rfl⟩:=sd e1;simp only[Bool.and_eq_true,decide_eq_true_eq] at h;obtain⟨⟨hc,rfl⟩,h⟩:=h;replace h:=ay h;obtain⟨y,e2,h⟩:=h;obtain rfl:=cS e2;simp only[Bool.and_eq_true] at h;exact Ku R (aR a R S h.1.2) (aR b R S h.2) h.1.1 hc
 |.and a b,E,sc,N,X,e,R,S,h=>by
  rw[aB.eq_def] at h;dsimp only at h;replace h:=ay h;obtain⟨⟨o,xs,p⟩,e1,h⟩:=h;obtain rfl:=qy e1;simp only[Bool.and_eq_true] at h;obtain⟨h0,h⟩:=h;obtain rfl:=A7 h0;replace h:=ay h;obtain⟨⟨x,r⟩,e2,h⟩:=h;obtain rfl:=eK e2;replace h:=ay h;obtain⟨⟨y,r⟩,e3,h⟩:=h;obtain rfl:=eK e3;simp only[Bool.and_eq_true] at h;obtain⟨⟨h0,h1⟩,h2⟩:=h;cases c:r.isEmpty with
  |true=>
   obtain rfl:=bS c;have h2:(eM y&&aB cf sc N b y)=true:=h2;rw[Bool.and_eq_true] at h2;have z:=w4 (p:=p) (aR b R S h2.2) h2.1 .And;exact AO (aR a R S h1) h0 z.1 z.2
  |false=>
   rw[c,if_neg (by decide)] at h2;have z:=aR b R S h2;exact AO (aR a R S h1) h0 z.1 (PT.bool (z.2 rfl))
 |.or a b,E,sc,N,X,e,R,S,h=>by
  rw[aB.eq_def] at h;dsimp only at h;replace h:=ay h;obtain⟨⟨o,xs,p⟩,e1,h⟩:=h;obtain rfl:=qy e1;simp only[Bool.and_eq_true,Bool.not_eq_true'] at h;obtain⟨h0,h⟩:=h;obtain rfl:=De h0;replace h:=ay h;obtain⟨⟨x,r⟩,e2,h⟩:=h;obtain rfl:=eK e2;replace h:=ay h;obtain⟨⟨y,r⟩,e3,h⟩:=h;obtain rfl:=eK e3;simp only[Bool.and_eq_true] at h;obtain⟨⟨h0,h1⟩,h2⟩:=h;cases c:r.isEmpty with
  |true=>
   obtain rfl:=bS c;have h2:(eM y&&aB cf sc N b y)=true:=h2;rw[Bool.and_eq_true] at h2;have z:=w4 (p:=p) (aR b R S h2.2) h2.1 .Or;exact Ec (aR a R S h1) h0 z.1 z.2
  |false=>
   rw[c,if_neg (by decide)] at h2;have z:=aR b R S h2;exact Ec (aR a R S h1) h0 z.1 (PT.bool (z.2 rfl))
 |.not a,E,sc,N,X,e,R,S,h=>by
  rw[aB.eq_def] at h;dsimp only at h;replace h:=ay h;obtain⟨⟨o,x⟩,e1,h⟩:=h;obtain⟨p,rfl⟩:=Cq e1;simp only[Bool.and_eq_true] at h;obtain⟨⟨h0,h1⟩,h2⟩:=h;obtain rfl:=Aq h0;exact KL (aR a R S h2) h1
 |.ite c a b,E,sc,N,X,e,R,S,h=>by
  rw[aB.eq_def] at h;dsimp only at h;replace h:=ay h;obtain⟨⟨z,x,y⟩,e1,h⟩:=h;obtain⟨p,rfl⟩:=B3 e1;simp only[Bool.and_eq_true] at h;obtain⟨⟨⟨h0,h1⟩,h2⟩,h3⟩:=h;refine⟨?_,fun z=>?_⟩
  .rw[show Tw.ae C (.ite c a b)=fun ρ h=>(Tw.ae C c ρ h).bind fun x h=>match Tw.truth h x with
    |some true=>Tw.ae C a ρ h
    |some false=>Tw.ae C b ρ h
    |none=>.bad from by funext ρ h;rw[Tw.vU]<;>rfl]
   exact LP ((aR c R S h1).2 h0) (aR a R S h2).1 (aR b R S h3).1
  .simp[eM,HB] at z
 |.idx a b,E,sc,N,X,e,R,S,h=>by
  rw[aB.eq_def] at h;dsimp only at h;replace h:=ay h;obtain⟨⟨x,y⟩,e1,h⟩:=h;obtain⟨p,rfl⟩:=jT e1;simp only[Bool.and_eq_true] at h;refine SE.val ?_ rfl;rw[show Tw.ae C (.idx a b)=fun ρ h=>(Tw.ae C a ρ h).bind fun x h=>(Tw.ae C b ρ h).bind fun y h=>Tw.idx x y h from by funext ρ h;rw[Tw.kK]];exact K6 (by have:=R.units;omega) (aR a R S h.1.2).1 (aR b R S h.2).1 (ur h.1.1)
 |.sl a lo hi,E,sc,N,X,e,R,S,h=>by
  rw[aB.eq_def] at h;dsimp only at h;replace h:=ay h;obtain⟨⟨x,y⟩,e1,h⟩:=h;obtain⟨p,rfl⟩:=jT e1;replace h:=ay h;obtain⟨⟨l,u,s⟩,e2,h⟩:=h;obtain⟨p2,rfl⟩:=Ae e2;simp only[Bool.and_eq_true,Option.isNone_iff_eq_none] at h;obtain⟨⟨⟨rfl,h1⟩,h2⟩,h3⟩:=h;refine SE.val ?_ rfl;rw[show Tw.ae C (.sl a lo hi)=fun ρ h=>(Tw.ae C a ρ h).bind fun x h=>(Tw.dD C lo ρ h).bind fun l h=>(Tw.dD C hi ρ h).dN.bind fun u h=>Tw.slice x l u h from by funext ρ h;rw[Tw.Gw]];exact Fp (aR a R S h1).1 (Ey lo R S h2) (Ey hi R S h3)
 |.call f es,E,sc,N,X,e,R,S,h=>by
  rw[aB.eq_def] at h;dsimp only at h;replace h:=ay h;obtain⟨⟨x,as⟩,e1,h⟩:=h;obtain⟨p,pos,rfl⟩:=gi e1;simp only[Bool.and_eq_true,decide_eq_true_eq,Bool.not_eq_true'] at h;obtain⟨⟨⟨⟨h0,h1⟩,h2⟩,hn⟩,h3⟩:=h;obtain⟨y,ys,rfl⟩:=pU hn;obtain⟨hp,z⟩:=i3 es R S h3;obtain⟨k,g,fd,ps,G,hr,hm,hk,hb⟩:=R.own f x h0;refine SE.val ?_ rfl;rw[show Tw.ae C (.call f es)=fun ρ h=>(Tw.bc C es ρ h).bind fun xs h=>C f xs h from by funext ρ h;rw[Tw.ic]];have hp':aG y=true/\ys.all aG=true:=by rw[List.all_cons,Bool.and_eq_true] at hp;exact hp
  refine s_call G R.pass hr (S.gl x h1) hm hk hb z (iL h2) (bu hp'.1) ?_;rw[dQ hp'.2];simp[backTo]
 |.blt b a,E,sc,N,X,e,R,S,h=>by
  rw[aB.eq_def] at h;dsimp only at h;replace h:=ay h;obtain⟨⟨x,as⟩,e1,h⟩:=h;obtain⟨p,pos,rfl⟩:=gi e1;replace h:=ay h;obtain⟨y,e2,h⟩:=h;obtain rfl:=cS e2;split at h
  .exact no h
  .exact no h
  .next n1 n2=>
   simp only[Bool.and_eq_true,decide_eq_true_eq] at h;obtain⟨⟨⟨⟨rfl,hb⟩,h2⟩,h3⟩,h4⟩:=h;exact Ir R hb n2 n1 (S.gl _ h2) (aR a R S h4) h3
 |.c7 m o es,E,sc,N,X,e,R,S,h=>by
  rw[aB.eq_def] at h;dsimp only at h;replace h:=ay h;obtain⟨⟨v,x,ap,ys,cp⟩,e1,h⟩:=h;obtain rfl:=lP e1;simp only[Bool.and_eq_true,decide_eq_true_eq] at h;obtain⟨⟨⟨⟨⟨⟨rfl,h1⟩,h2⟩,h3⟩,h4⟩,h5⟩,h6⟩:=h;have ho:=(aR o R S h5).1;have hu:X.A.units+1<cLine:=by have:=R.units;omega
  refine SE.val ?_ rfl;cases es with
  |nil=>
   obtain rfl:=cn h6;rw[OK];cases m with
   |rev=>exact Mi (lD h3 h4) h2 ho
   |_=>exact no h1
  |cons t1 es=>
   obtain⟨y,r,rfl,p1,q1,q2⟩:=cc h6;cases es with
   |nil=>
    obtain rfl:=cn q2;have hst:starEach [y] X.env=[(false,eval y X.env)]:=bu p1;have he:=(aR t1 R S q1).1;have me:Me X v (mN m) ap [y] cp:=tD h3 h4 h2 (by rw[hst];rfl) (by simp);rw[Ou];cases m with
    |append=>exact Dh me hst ho he
    |get=>exact HN hu me (by rw[hst];rfl) ho he
    |join=>exact Jj me hst ho he
    |index=>exact F0 me hst ho he
    |_=>exact no h1
   |cons t2 es=>
    obtain⟨y2,r,rfl,p2,q4,q3⟩:=cc q2;cases es with
    |nil=>
     obtain rfl:=cn q3;have hst2:starEach [y2] X.env=[(false,eval y2 X.env)]:=bu p2;have hst:starEach [y,y2] X.env=[(false,eval y X.env),(false,eval y2 X.env)]:=by rw[bu p1,hst2]
     have me:Me X v (mN m) ap [y,y2] cp:=tD h3 h4 h2 (by rw[hst];rfl) (by simp);rw[PU];cases m with
     |get=>exact IJ hu me (by rw[hst];rfl) ho (aR t1 R S q1).1 (aR t2 R S q4).1
     |_=>exact no h1
    |cons e3 es=>
     obtain⟨y3,r,rfl,_⟩:=cc q3;cases m<;>exact no h1
 |.Bx a t,E,sc,N,X,e,R,S,h=>by
  rw[aB.eq_def] at h;exact no h
 |.comp el it c,E,sc,N,X,e,R,S,h=>by
  rw[aB.eq_def] at h;dsimp only at h;replace h:=ay h;obtain⟨⟨y,gs,scope,pos⟩,e1,h⟩:=h;obtain rfl:=i9 e1;replace h:=ay h;obtain⟨⟨tg,iter,ifs⟩,e2,h⟩:=h;obtain rfl:=jG e2;replace h:=ay h;obtain⟨x,e3,h⟩:=h;obtain⟨px,rfl⟩:=aH e3;simp only[Bool.and_eq_true,decide_eq_true_eq] at h;obtain⟨⟨⟨⟨⟨h0,h1⟩,h2⟩,h3⟩,h4⟩,h5⟩:=h;have cs:=pL S h0;have hk:scope.kind=.function:=cs.kind;have hnd:(bW X.N [x]).Nodup:=by rw[S.n];exact h1
  have sees:∀{Cc:Addr}{s:Shared}{H:L2.Hp}{pins:List (Addr×Obj)}{fp:List Addr},ff scope.names (bW N [x]) (aX X scope Cc [x] s H pins fp):=fun {Cc s H pins fp}=>by
   have z:=ff.comp (X:=X) (scope:=scope) (C:=Cc) (x:=[x]) (s:=s) (H:=H) (pins:=pins) (fp:=fp) hk;rw[S.n] at z;exact z
  refine SE.val ?_ rfl;have hev:Tw.ae C (.comp el it c)=k8 zP (Tw.bM C it) (Tw.dD C c) (Tw.ae C el):=by funext ρ h;rw[Tw.ij];rfl
  rw[hev];refine AS R.calm cs (vg hnd cs) (uC _ _) (qX it R S h3 (fun z=>nomatch z)) (dM h2) (fun Cc s H pins fp=>(aR el R.comp sees h4).1) ?_;cases c with
  |none=>
   obtain rfl:=bS (show ifs.isEmpty=true from h5);exact .inl ⟨rfl,fun ρ h=>by rw[Tw.mS]⟩
  |some d=>exact no h5
 |.fY el it,E,sc,N,X,e,R,S,h=>by
  rw[aB.eq_def] at h;dsimp only at h;replace h:=ay h;obtain⟨⟨y,gs,scope,pos⟩,e1,h⟩:=h;obtain rfl:=i9 e1;replace h:=ay h;obtain⟨⟨tg,iter,ifs⟩,e2,h⟩:=h;obtain rfl:=jG e2;rw[Bool.and_eq_true] at h;obtain⟨hi,h⟩:=h;obtain rfl:=bS (show ifs.isEmpty=true from hi);replace h:=ay h;obtain⟨ts,e3,h⟩:=h;obtain⟨kt,pt,rfl⟩:=iK e3;replace h:=ay h;obtain⟨⟨n1,n2⟩,e4,h⟩:=h;obtain rfl:=lS e4;replace h:=ay h;obtain⟨x,e5,h⟩:=h;obtain⟨px,rfl⟩:=aH e5;replace h:=ay h;obtain⟨x2,e6,h⟩:=h;obtain⟨px2,rfl⟩:=aH e6;simp only[Bool.and_eq_true,decide_eq_true_eq] at h;obtain⟨⟨⟨⟨h0,h1⟩,h2⟩,h3⟩,h4⟩:=h;have cs:=pL S h0;have hk:scope.kind=.function:=cs.kind;have hnd:(bW X.N [x,x2]).Nodup:=by rw[S.n];exact h1
  have sees:∀{Cc:Addr}{s:Shared}{H:L2.Hp}{pins:List (Addr×Obj)}{fp:List Addr},ff scope.names (bW N [x,x2]) (aX X scope Cc [x,x2] s H pins fp):=fun {Cc s H pins fp}=>by
   have z:=ff.comp (X:=X) (scope:=scope) (C:=Cc) (x:=[x,x2]) (s:=s) (H:=H) (pins:=pins) (fp:=fp) hk;rw[S.n] at z;exact z
  refine SE.val ?_ rfl;have hev:Tw.ae C (.fY el it)=k8 lX (Tw.bM C it) (fun _ h=>.ok none h) (Tw.ae C el):=by
   funext ρ h;rw[Tw.gp];unfold k8
   congr 1
   funext s h;rw[sC]
  rw[hev];exact AS R.calm cs (u6 R.calm hnd cs) (vy _ _) (qX it R S h3 (fun _=>⟨_,_,_,rfl⟩)) (dM h2) (fun Cc s H pins fp=>(aR el R.comp sees h4).1) (.inl ⟨rfl,fun _ _=>rfl⟩)
 |.bad,E,sc,N,X,e,R,S,h=>by
  refine⟨?_,fun _=>?_⟩
  .rw[show Tw.ae C .bad=fun _ _=>.bad from by funext ρ h;rw[Tw.qP]];exact fun pins s σ H Q I Z=>Z.g fun ρ Z=>Z.g fun h Z=>Z.g fun ι Z=>Z.g fun at' p=>p.elim
  .rw[show Tw.ae C .bad=fun _ _=>.bad from by funext ρ h;rw[Tw.qP]];exact fun pins s σ H Q I Z=>Z.g fun ρ Z=>Z.g fun h Z=>Z.g fun ι Z=>Z.g fun at' p=>p.elim
 |.fld a x,E,sc,N,X,e,R,S,h=>by
  rw[aB.eq_def] at h;dsimp only at h;replace h:=ay h;obtain⟨⟨v,y,p⟩,e1,h⟩:=h;obtain rfl:=gL e1;simp only[Bool.and_eq_true,decide_eq_true_eq] at h;obtain⟨⟨⟨⟨rfl,h1⟩,h2⟩,h3⟩,h4⟩:=h;refine SE.val ?_ rfl;rw[show Tw.ae C (.fld a x)=fun ρ h=>(Tw.ae C a ρ h).bind fun w h=>Tw.R.of (Tw.field w x h) h from by funext ρ h;rw[Tw.qY]];exact K9 (by rw[List.contains_eq_mem] at h1;simpa using h1) (lD h2 h3) (aR a R S h4).1
 |.mk c f es,E,sc,N,X,e,R,S,h=>by
  rw[aB.eq_def] at h;dsimp only at h;replace h:=ay h;obtain⟨⟨x,ys⟩,e1,h⟩:=h;obtain⟨p,pos,rfl⟩:=gi e1;simp only[Bool.and_eq_true,decide_eq_true_eq] at h;obtain⟨⟨⟨⟨rfl,h0⟩,h1⟩,h2⟩,h3⟩:=h;obtain⟨hp,z⟩:=i3 es R S h3;obtain⟨k,g,fd,ps,A,G,hr,hm,gc,hmk,_,hb⟩:=R.me f c fJ h0;refine SE.val ?_ rfl;rw[show Tw.ae C (.mk c f es)=fun ρ h=>(Tw.bc C es ρ h).bind fun xs h=>(C f (.ref h.length::xs) (h++[.ins c []])).bind fun r h'=>match r with
   |.ah=>.ok (.ref h.length) h'
   |_=>.bad from by funext ρ h;rw[Tw.Kf]<;>rfl]
  exact Pe (hmk rfl) gc G R.pass hr (S.gl _ h1) hm hb z (iL h2) hp
 |.own o c m f es,E,sc,N,X,e,R,S,h=>by
  rw[aB.eq_def] at h;dsimp only at h;replace h:=ay h;obtain⟨⟨v,x,ap,ys,cp⟩,e1,h⟩:=h;obtain rfl:=lP e1;simp only[Bool.and_eq_true,decide_eq_true_eq] at h;obtain⟨⟨⟨⟨⟨⟨⟨⟨rfl,h0⟩,h1⟩,h2⟩,h3⟩,h4⟩,h5⟩,h6⟩,h7⟩:=h;obtain⟨hp,z⟩:=i3 es R S h7;obtain⟨k,g,fd,ps,A,G,hr,hm,gc,_,hme,hb⟩:=R.me f c m h0;refine SE.val ?_ rfl;rw[show Tw.ae C (.own o c m f es)=fun ρ h=>(Tw.ae C o ρ h).bind fun x h=>if Tw.dH x c m h then (Tw.bc C es ρ h).bind fun xs h=>C f (x::xs) h else .bad from by funext ρ h;rw[Tw.Gb]];exact Le (hme h1) G R.pass (hr.mono (Nat.le_succ k)) hm gc hb (aR o R S h6).1 z (tD h4 h5 h2 (dQ hp) h3) hp
 |.oF g k es,E,sc,N,X,e,R,S,h=>by
  rw[aB.eq_def] at h;dsimp only at h;replace h:=ay h;obtain⟨⟨fn,as,ks,pos⟩,e1,h⟩:=h;obtain rfl:=lM e1;simp only[Bool.and_eq_true,Bool.not_eq_true'] at h;obtain⟨⟨hk0,hn⟩,h⟩:=h;obtain rfl:=bS (show ks.isEmpty=true from hk0);obtain⟨z,zs,rfl⟩:=pU (show as.isEmpty=false from hn);replace h:=ay h;obtain⟨⟨s1,y⟩,e2,h⟩:=h;obtain⟨p2,rfl⟩:=jT (show lQ fn=some (s1,y) from e2);replace h:=ay h;obtain⟨x,e3,h⟩:=h;obtain⟨p1,rfl⟩:=aH (show bz s1=some x from e3);simp only[Bool.and_eq_true,decide_eq_true_eq] at h;obtain⟨⟨⟨⟨⟨h0,h1⟩,h2⟩,h3⟩,h4⟩,h5⟩:=h;obtain⟨hp,Z⟩:=i3 es R S h5;obtain⟨t,D,hm,T,hg⟩:=R.tab x g h0;refine SE.val ?_ rfl;rw[show Tw.ae C (.oF g k es)=fun ρ h=>(Tw.ae C k ρ h).bind fun x h=>match Tw.pick g x with
   |some f=>(Tw.bc C es ρ h).bind fun xs h=>C f xs h
   |none=>.bad from by funext ρ h;rw[Tw.tM]<;>rfl]
  refine IC (S.gl x h1) hm (iL h2) T (fun s f e=>?_) R.pass (aR k R S h4).1 h3 Z hp;obtain⟨yy,ga,q1,q2,q3⟩:=hg s f e;obtain⟨k',g2,fd,ps,G,hr,hm',hk',hb⟩:=R.own f yy q1;have eg:g2=ga:=by rw[hm'] at q2;exact Value.ref.inj (Option.some.inj q2)
  subst eg;exact⟨g2,k',fd,ps,q3,G,hr,hk',hb⟩
 |.wL k g,E,sc,N,X,e,R,S,h=>by
  rw[aB.eq_def] at h;dsimp only at h;replace h:=ay h;obtain⟨⟨y,os,ys⟩,e1,h⟩:=h;obtain⟨pos,rfl⟩:=sd e1;simp only[Bool.and_eq_true,decide_eq_true_eq] at h;obtain⟨rfl,h⟩:=h;replace h:=ay h;obtain⟨z,e2,h⟩:=h;obtain rfl:=cS e2;replace h:=ay h;obtain⟨x,e3,h⟩:=h;obtain⟨p,rfl⟩:=aH e3;simp only[Bool.and_eq_true,decide_eq_true_eq] at h;obtain⟨⟨⟨h0,h1⟩,h2⟩,h3⟩:=h;obtain⟨t,D,hm,T,hk⟩:=R.key x g h0;have z:=Ly (p1:=p) (pos:=pos) (g:=g) (S.gl x h1) hm (iL h2) T hk (aR k R S h3).1;have hev:Tw.ae C (.wL k g)=fun ρ h=>(Tw.ae C k ρ h).bind fun x h=>match x with
   |.str s=>.ok (.bl (g.contains s)) h
   |_=>.bad:=by funext ρ h;rw[Tw.qG]<;>rfl
  unfold SE;rw[hev];exact⟨z.1,fun _=>z.2⟩
theorem i3:∀(ts:Tw.Es){E:XK}{sc:Sc}{N:List Str}{X:Cx}{es:List Expr},jI cf C CX E X->ff sc N X->c4 cf sc N ts es=true->es.all aG=true/\PA X es (tA (zx X E) es.length (Tw.bc C ts))
 |.nil,E,sc,N,X,es,R,S,h=>by
  rw[c4.eq_def] at h;dsimp only at h;obtain rfl:=bS h;refine⟨rfl,?_⟩;rw[show Tw.bc C .nil=fun _ h=>.ok [] h from by funext ρ h;rw[Tw.cH]];exact Li
 |.cons t ts,E,sc,N,X,es,R,S,h=>by
  rw[c4.eq_def] at h;dsimp only at h;replace h:=ay h;obtain⟨⟨x,r⟩,e1,h⟩:=h;obtain rfl:=eK e1;simp only[Bool.and_eq_true] at h;obtain⟨⟨h0,h1⟩,h2⟩:=h;obtain⟨z1,z2⟩:=i3 ts R S h2;refine⟨by rw[List.all_cons,h0,z1];rfl,?_⟩;rw[show Tw.bc C (.cons t ts)=fun ρ h=>(Tw.ae C t ρ h).bind fun x h=>(Tw.bc C ts ρ h).bind fun xs h=>.ok (x::xs) h from by funext ρ h;rw[Tw.bZ]];exact GD (aR t R S h1).1 z2 (bu h0)
theorem Ey:∀(t:Tw.Eo){E:XK}{sc:Sc}{N:List Str}{X:Cx}{o:Option Expr},jI cf C CX E X->ff sc N X->pq cf sc N t o=true->PO X o (zR (zx X E) (Tw.dD C t))
 |.none,E,sc,N,X,o,R,S,h=>by
  rw[pq.eq_def] at h;dsimp only at h;obtain rfl:=Option.isNone_iff_eq_none.mp h;rw[show Tw.dD C .none=fun _ h=>.ok none h from by funext ρ h;rw[Tw.mS]];exact BU
 |.some t,E,sc,N,X,o,R,S,h=>by
  rw[pq.eq_def] at h;dsimp only at h;replace h:=ay h;obtain⟨x,rfl,h⟩:=h;rw[show Tw.dD C (.some t)=fun ρ h=>(Tw.ae C t ρ h).bind fun x h=>.ok (some x) h from by funext ρ h;rw[Tw.zT]];exact BF (aR t R S h).1
theorem qX:∀(t:Tw.It){E:XK}{sc:Sc}{N:List Str}{X:Cx}{tp:Bool}{tg e:Expr},jI cf C CX E X->ff sc N X->kc cf sc N tp t e=true->(tp=true->∃es n p,tg=.Tuple es n p)->PI X tg e (tI (zx X E) (Tw.bM C t))
 |.seq a,E,sc,N,X,tp,tg,e,R,S,h,ht=>by
  rw[kc.eq_def] at h;dsimp only at h;rw[show Tw.bM C (.seq a)=fun ρ h=>(Tw.ae C a ρ h).bind fun x h=>Tw.R.of (Tw.src h x) h from by funext ρ h;rw[Tw.cV]];exact K4 (aR a R S h).1
 |.fN a,E,sc,N,X,tp,tg,e,R,S,h,ht=>by
  rw[kc.eq_def] at h;dsimp only at h;replace h:=ay h;obtain⟨⟨x,as⟩,e1,h⟩:=h;obtain⟨p,pos,rfl⟩:=gi e1;replace h:=ay h;obtain⟨y,e2,h⟩:=h;obtain rfl:=cS e2;simp only[Bool.and_eq_true,decide_eq_true_eq] at h;obtain⟨⟨⟨rfl,h1⟩,h2⟩,h3⟩:=h;rw[show Tw.bM C (.fN a)=fun ρ h=>(Tw.ae C a ρ h).bind fun x h=>match x with
   |.int j=>if Tw.fA j then .ok (.fix (Tw.upTo 0 j.toNat)) h else .bad
   |_=>.bad from by funext ρ h;rw[Tw.BP]<;>rfl]
  exact Mf (S.gl _ h1) (R.blt _ (by simp[cO])) (aR a R S h3).1 (bu h2)
 |.yr a b,E,sc,N,X,tp,tg,e,R,S,h,ht=>by
  rw[kc.eq_def] at h;exact no h
 |.zip a b,E,sc,N,X,tp,tg,e,R,S,h,ht=>by
  rw[kc.eq_def] at h;exact no h
 |.enum a,E,sc,N,X,tp,tg,e,R,S,h,ht=>by
  rw[kc.eq_def] at h;dsimp only at h;replace h:=ay h;obtain⟨⟨x,as⟩,e1,h⟩:=h;obtain⟨p,pos,rfl⟩:=gi e1;replace h:=ay h;obtain⟨y,e2,h⟩:=h;obtain rfl:=cS e2;simp only[Bool.and_eq_true,decide_eq_true_eq] at h;obtain⟨⟨⟨⟨h0,rfl⟩,h1⟩,h2⟩,h3⟩:=h;obtain⟨es,n,p,rfl⟩:=ht h0;rw[show Tw.bM C (.enum a)=fun ρ h=>(Tw.ae C a ρ h).bind fun x h=>match x with
   |.tup xs=>.ok (.fix (Tw.fK 0 xs)) h
   |.ref a=>match h[a]? with
    |some (.lst xs)=>.ok (.ea a xs.length) h
    |_=>.bad
   |_=>.bad from by funext ρ h;rw[Tw.Bl]<;>rfl]
  exact GR (S.gl _ h1) (R.blt _ (by simp[cO])) (aR a R S h3).1 (bu h2)
 |.rev a,E,sc,N,X,tp,tg,e,R,S,h,ht=>by
  rw[kc.eq_def] at h;dsimp only at h;replace h:=ay h;obtain⟨⟨x,as⟩,e1,h⟩:=h;obtain⟨p,pos,rfl⟩:=gi e1;replace h:=ay h;obtain⟨y,e2,h⟩:=h;obtain rfl:=cS e2;simp only[Bool.and_eq_true,decide_eq_true_eq] at h;obtain⟨⟨⟨rfl,h1⟩,h2⟩,h3⟩:=h;rw[show Tw.bM C (.rev a)=fun ρ h=>(Tw.ae C a ρ h).bind fun x h=>match x with
   |.ref a=>match h[a]? with
    |some (.lst xs)=>.ok (.rv a xs.length) h
    |_=>.bad
   |_=>.bad from by funext ρ h;rw[Tw.oA]<;>rfl]
  exact LQ (S.gl _ h1) (R.blt _ (by simp[cO])) (aR a R S h3).1 (bu h2)
end
end
noncomputable abbrev str(x:Tw.S):Str:=⟨x.toArray⟩
def xH(X:Cx)(c:Tw.S)(fs:List Tw.S):Prop:=∃C f k fd ps,X.mg (str c)=some (.ref C)/\tN X.K C f/\XC X.K C/\(∀g∈fs.map str,bh X.K C g)/\fs.length<=1000/\
 bU X.prog X.w X.K X.mg X.base (dG X.prog X.w) k f fd ps (kG X.K (fs.map str))/\bI (k+1) X.A/\Binds X.K fd ps []/\PySem.W.exmOne X.K (.ref C) (.ref C)=some true
theorem RF.zip{K:PySem.W.Frag}{ι:Nat->Addr}{n:Nat}{H:L2.Hp}:∀{xs:List Tw.S}{ws:List Tw.W}{vs:List V},aL K ι n H ws vs->ws.length=xs.length->RF K ι n H (xs.zip ws) ((xs.map str).zip vs)
 |[],_,_,.nil,_=>.nil
 |x::xs,_,_,.cons a r,h=>.cons a (RF.zip r (by simpa using h))
 |[],_,_,.cons _ _,h=>by cases h
 |_::_,_,_,.nil,h=>by cases h
section
variable {X:Cx}{E:XK}
theorem FT{c:Tw.S}{xs:List Tw.S}{np cpos pos:Pos}{e:Expr}{es:List Expr}{n:Nat}{ds:Tw.Env->Tw.Hp->Tw.R (List Tw.W)}(hx:X.ex=[])(hs:X.stack=X.env::X.outer)(hfm:X.env.frame=some X.env.locals)(hxe:X.xe=p6 X E)(ok:xH X c xs)(hg:Gl X (str c))
  (ha:PA X (e::es) (tA (zx X E) n ds)) (hdb:(str c== ("__debug__" : Str))=false) (hst:starEach (e::es) X.env=(false,eval e X.env)::starEach es X.env) (hpl:(backTo cpos (starEach es X.env)).any (·.1)=false):
  PS X (.Raise (some (.Call (.Name (str c) np) (e::es) [] cpos)) none pos) (c9 (zx X E) fun ρ h=>(ds ρ h).bind fun ws h=>Tw.jd c xs ws h):=by
 obtain⟨C,f,k,fd,ps,hm,M,xc,na,hz,F,hr,hb,_⟩:=ok;refine PS.imp (Cr hx hs hfm hxe M xc na (by simpa using hz) F hr hg hm hb ha hdb hst hpl) fun D σ H Z=>Z.g fun ρ Z=>Z.g fun h Z=>Z.g fun ι Z=>Z.g fun at' p=>⟨ρ,h,ι,at',(fH at' p).mono fun vs H1 Z=>Z.g fun ws Z=>Z.g fun h1 Z=>Z.g fun ι1 Z=>Z.g fun at1 Z=>Z.g fun e1 Z=>Z.g fun r1 p1=>?_⟩;unfold Tw.jd at p1;by_cases c1:ws.length=xs.length
 .rw[if_pos c1] at p1;refine⟨by rw[<-r1.1.length,c1];simp,fun ea dx z1 z2 z3=>?_⟩;obtain⟨r2,e2⟩:=at1.hr.grow (o:=.xd ((xs.map str).zip vs)) z2;have z1':upd H1 dx (.xd ((xs.map str).zip vs)) ea=none:=by rw[aq (Ne.symm z3)];exact z1
  obtain⟨r3,e3⟩:=r2.Ip (u:=.aD c (xs.zip ws)) (o:=pP C dx ea) z1' fun ι' n' H' kp fr eq=>⟨C,dx,(xs.map str).zip vs,hm,eq,fr _ _ aJ,((RF.zip r1.1 c1).keep (e2.keeps at1.hr)).keep kp⟩;have:=p1 _ _ (e2.trans e3) r3;rw[cE] at this;exact this
 .rw[if_neg c1] at p1;exact p1.elim
theorem sy{gs:List (Str×V)}:∀{fs:List Str}{vs:List V},i6 gs fs=some vs->vs.length=fs.length
 |[],vs,e=>by cases e;rfl
 |f::fs,vs,e=>by
  unfold i6 at e;cases h1:gs.lookup f with
  |none=>rw[h1] at e;cases e
  |some v=>
   cases h2:i6 gs fs with
   |none=>rw[h1,h2] at e;cases e
   |some ws=>rw[h1,h2] at e;cases e;simp[sy h2]
noncomputable def yQ(N:List Str)(sc:Sc)(hn:Str)(fs:List Tw.S)(md:Option Nat)(b:Stmt):Bool:=match md with
 |none=>(yV b).any fun o=>o.any fun e=>(pf e).any fun es=>pW hn fs es
 |some _=>false
theorem RF.j7{K:PySem.W.Frag}{ι:Nat->Addr}{n:Nat}{H:L2.Hp}{gs:List (Tw.S×Tw.W)}{hs:List (Str×V)}(r:RF K ι n H gs hs):∀(fs:List Tw.S)(ws:List Tw.W),Tw.j7 gs fs=some ws->∃vs,i6 hs (fs.map str)=some vs/\aL K ι n H ws vs
 |[],ws,e=>by cases e;exact⟨[],rfl,.nil⟩
 |f::fs,ws,e=>by
  unfold Tw.j7 at e;rcases r.look (x:=f) with ⟨z,_⟩|⟨w,v,z1,z2,z3⟩
  .rw[z] at e;cases e
  .cases e2:Tw.j7 gs fs with
   |none=>rw[z1,e2] at e;cases e
   |some us=>
    rw[z1,e2] at e;cases e;obtain⟨vs,q1,q2⟩:=RF.j7 r fs us e2;refine⟨v::vs,?_,.cons z3 q2⟩;show (match hs.lookup (str f),i6 hs (fs.map str) with|some w,some ws=>some (w::ws)|_,_=>none)=_;rw[show hs.lookup (str f)=some v from z2,q1]
theorem LK{cn m x:Tw.S}{j k nA:Nat}{fs xs:List Tw.S}{md:Option Nat}{C g:Addr}{fd:FuncData}{ps:List Str}{F:List Tw.W->Tw.Hp->Tw.R Tw.W}{da:Tw.Env->Tw.Hp->Tw.R Tw.W}{ds:Tw.Env->Tw.Hp->Tw.R (List Tw.W)}{o e:Expr}{es:List Expr}{apos cpos ep np hp pos:Pos}{hn:Str}{b:Stmt}
  (hx:X.ex=[]) (hs:X.stack=X.env::X.outer) (hfm:X.env.frame=some X.env.locals) (hme:Meth X.K C (str m) g) (G:bU X.prog X.w X.K X.mg X.base (dG X.prog X.w) k g fd ps (fk X.K X.mg F)) (hr:bI k X.A) (hm:X.mg (str cn)=some (.ref C)) (gc:GoodC X.K C) (hb:Binds X.K fd ps [])
  (ho:PE X.kr o (tE (zx X.kr E0) da)) (ha:PA X.kr (e::es) (tA (zx X.kr E0) nA ds)) (me:Me X o (str m) apos (e::es) cpos) (hpl:(e::es).all aG=true)
  (ok:xH X x xs) (hfs:∀f∈fs,f∈xs) (hfl:fs.length<=1000) (hg:Gl X (str x)) (hdb:(str x== ("__debug__" : Str))=false) (hN:X.N.Nodup) (hj:X.N[j]?=some hn) (hl:X.env.scope.names.lookup hn=some .local) (oj:okN hn=true) (hH:yQ X.N X.env.scope.names hn fs md b=true):
  PS X (.Try [.Expr (.Call (.Attribute o (str m) apos) (e::es) [] cpos) ep] [.ExceptHandler (some (.Name (str x) np)) (some hn) [b] hp] [] [] pos) (c9 (zx X E) fun ρ h=>(da ρ h).dN.bind fun w h=>if Tw.dH w cn m h then (ds ρ h).dN.bind fun ws h=>Tw.kx x j fs md ρ (F (w::ws) h) else .bad):=by
 obtain⟨Cx,fI,kI,fdI,psI,hmx,M,xc,na,hz,FI,hrI,hbI,hxm⟩:=ok;intro pins s σ H D I ⟨ρ,h,ι,at',p⟩;dsimp only at p;cases e0:da ρ h with
 |bad=>rw[e0] at p;exact p.elim
 |aD=>rw[e0] at p;exact p.elim
 |ok w h1=>
  simp only[e0,Tw.R.kn,Tw.R.ak] at p;cases c1:Tw.dH w cn m h1 with
  |false=>rw[c1,if_neg (by decide)] at p;exact p.elim
  |true=>
   rw[c1,if_pos rfl] at p;cases e1:ds ρ h1 with
   |bad=>rw[e1] at p;exact p.elim
   |aD=>rw[e1] at p;exact p.elim
   |ok ws h2=>
    simp only[e1,Tw.R.kn,Tw.R.ak] at p;have jl:j<σ.length:=by rw[I.len];exact (List.getElem?_eq_some_iff.mp hj).1
    let EE:XK:=fun v _ H'=>∃a h3 ι3,F (w::ws) h2=.aD a h3/\v=.ref (ι3 a)/\Ext ι h H ι3 h3 H'/\HR (zx X E) ι3 h3 H'
    have rd:tF C (str m) (fk X.K X.mg F) [] EE (tE (zx X.kr E0) da) (tA (zx X.kr E0) nA ds) σ H (fun _ H'=>(∃u h3 ι3,F (w::ws) h2=.ok u h3/\Ext ι h H ι3 h3 H'/\HR (zx X E) ι3 h3 H')):=by
     refine⟨ρ,h,ι,at'.ex,?_⟩;rw[e0];intro ι1 H1 v ex1 r1 q1;have at1:At (zx X E) ι1 h1 H1 ρ σ:=at'.later ex1 (HR.ex (E':=E) r1);cases q1 with
     | @ref i hi=>
      cases ei:h1[i]? with
      |none=>simp[Tw.dH,ei] at c1
      |some ob=>
       cases ob with
       |ins c' gs=>
        simp only[Tw.dH,ei,Bool.and_eq_true,decide_eq_true_eq] at c1;obtain⟨rfl,c2⟩:=c1;obtain⟨C',dx,gs',⟨mc,gc'⟩,q1,q2⟩:=at1.hr.ins ei;have ec:C'=C:=by have mc:X.mg (str c')=some (.ref C'):=mc;rw[hm] at mc;cases mc;rfl
        subst ec;refine⟨_,dx,gs',rfl,q1,?_,ρ,h1,ι1,at1.ex,?_⟩
        .rcases q2.look (x:=m) with ⟨_,z⟩|⟨u,v,z,_⟩
         .exact z
         .rw[z] at c2;cases c2
        .rw[e1];intro ι2 H2 vs ex2 r2 q2';rw[List.append_nil];refine⟨.ref i::ws,h2,ι2,HR.ex (E':=EE) r2,.cons ((RW.ref hi).keep (ex2.keeps at1.hr)) q2'.1,?_⟩;cases eF:F (.ref i::ws) h2 with
         |bad=>rw[eF] at p;exact p.elim
         |ok u h3=>exact fun ι3 H3 b' ex3 r3 _=>⟨u,h3,ι3,rfl,(ex1.trans ex2).trans ex3,HR.ex (E':=E) r3⟩
         |aD a h3=>exact fun ι3 H3 ex3 r3=>⟨a,h3,ι3,eF,rfl,(ex1.trans ex2).trans ex3,HR.ex (E':=E) r3⟩
       |_=>simp[Tw.dH,ei] at c1
     |_=>cases c1
    have ht:=my (apos:=apos) (pos:=cpos) me.base me.ko me.line;refine wpAny_Try_except (wpAny_execs_cons (wpAny_Expr_any (aC (BB (E:=EE) I ho gc.cls hme G hr hb ha (bu (by rw[List.all_cons,Bool.and_eq_true] at hpl;exact hpl.1)) ?_ ht (fun H1 s1 ex s2 J z=>?_) rd) fun v s1 Z=>Z.g fun x' Z=>Z.g fun H1 Z=>Z.g fun I1 Z=>Z.g fun r1 Z=>Z.g fun u Z=>Z.g fun h3 Z=>Z.g fun ι3 Z=>Z.g fun eF Z=>Z.g fun ex3 r3=>?_) I.quiet (iz (a:=.Call (.Attribute o (str m) apos) (e::es) [] cpos) rfl rfl)))
    .rw[dQ (by rw[List.all_cons,Bool.and_eq_true] at hpl;exact hpl.2)];simp[backTo]
    .obtain⟨ea,C',dx,H',rfl,Fl,a,h3,ι3,eF,ev,ex3,r3⟩:=z;cases ev;rw[eF] at p;simp only[Tw.kx] at p;cases ea':h3[a]? with
     |none=>rw[ea'] at p;exact p.elim
     |some ob=>
      rw[ea'] at p;cases ob with
      |aD c gs=>
       dsimp only at p;by_cases cx:c=x
       .rw[if_pos cx] at p;subst cx;obtain⟨C0,dx0,gs',m0,t0,d0,rf⟩:=r3.obj a _ ea';have em:C0=Cx:=by
         have m0:X.mg (str c)=some (.ref C0):=m0;rw[hmx] at m0;cases m0;rfl
        subst em;have ei:C'=C0/\dx=dx0:=by obtain⟨⟨o1,v1,b1,b2,b3,_⟩,_,_⟩:=Fl.ao _ _ Fl.tr;obtain⟨⟨o2,v2,c1,c2,c3,_⟩,_,_⟩:=Fl.ao _ _ t0;rw[b1] at c1;cases c1;rw[b2] at c2;rw[b3] at c3;cases c2;cases c3;exact⟨rfl,rfl⟩
        obtain⟨rfl,rfl⟩:=ei;cases eg:Tw.j7 gs fs with
        |none=>rw[eg] at p;exact p.elim
        |some us=>
         rw[eg] at p;obtain⟨vs,g1,g2⟩:=rf.j7 fs us eg;have nas:∀f∈fs.map str,bh X.K C' f:=fun f hf=>by
          obtain⟨f0,h0,rfl⟩:=List.mem_map.mp hf;exact na _ (List.mem_map.mpr ⟨f0,hfs f0 h0,rfl⟩)
         have at3:At (zx X E) ι3 h3 H' ρ σ:=at'.later ex3 r3;have sj:(σ.set j (some (V.ref (ι3 a))))[j]?=some (some (.ref (ι3 a))):=List.getElem?_set_self jl;have lenv:vs.length<=sizeLine:=by rw[sy g1,List.length_map,sizeLine_eq];omega
         cases md with
         |none=>
          unfold yQ at hH;dsimp only at hH
          .replace hH:=ay hH;obtain⟨o',w1,hH⟩:=hH;obtain⟨rp,rfl⟩:=oY w1;replace hH:=ay hH;obtain⟨e',rfl,hH⟩:=hH;replace hH:=ay hH;obtain⟨es',w3,hH⟩:=hH;obtain⟨kt,tp,rfl⟩:=iK w3;refine Bi (t:=KG (Hl (yS X.K j (fs.map str)))) J hs hfm Fl hg hmx hdb hxm hN hj hl (fun v=>Fj (Bm (A9 (Bq (X:=hX X v) hj (.inl hl) oj fs es' hH)))) {nx:=fun _ _=>False,rt:=D.rt} ?_ fun f s3 z=>?_
           .refine w5 sj xc t0 d0 (fs.map str) vs _ nas g1 ⟨lenv,fun a' za=>?_⟩;obtain⟨r4,e4⟩:=r3.grow (o:=.tup vs) za;exact p ι3 _ _ (ex3.trans e4) r4 (.tup (.inl aJ) (g2.keep (e4.keeps r3)))
           .cases f with
            |ret u=>obtain⟨v,σ',H'',K1,r,q⟩:=z;exact Al K1 hN hj hl fun s4 K2=>⟨v,_,H'',K2,r,q⟩
            |next=>obtain⟨_,_,_,q⟩:=z;exact q.elim
            |brk=>obtain⟨_,_,_,q⟩:=z;exact q.elim
            |cont=>obtain⟨_,_,_,q⟩:=z;exact q.elim
         |some i=>unfold yQ at hH;cases hH
       .rw[if_neg cx] at p;exact p.elim
      |_=>exact p.elim
    .rw[eF] at p;exact wpAny_execs_nil (wpAny_execs_nil ⟨σ,H1,I1,p ι3 H1 σ ex3 (at'.later ex3 r3)⟩)
end
noncomputable def tR(e:Expr):Option (Str×Str):=(pf e).bind fun ts=>(xM ts).bind fun q=>(bz q.1).bind fun x=>(bz q.2).map fun y=>(x,y)
theorem tK{e:Expr}{r:Str×Str}(h:tR e=some r):∃p1 p2 k p,e=.Tuple [.Name r.1 p1,.Name r.2 p2] k p:=by obtain⟨ts,e1,h⟩:=Option.bind_eq_some_iff.mp h;obtain⟨⟨a,b⟩,e2,h⟩:=Option.bind_eq_some_iff.mp h;obtain⟨x,e3,h⟩:=Option.bind_eq_some_iff.mp h;obtain⟨y,e4,rfl⟩:=Option.map_eq_some_iff.mp h;obtain⟨k,p,z1⟩:=iK e1;have z2:=lS e2;obtain⟨p1,z3⟩:=aH e3;obtain⟨p2,z4⟩:=aH e4;dsimp only at z1 z2 z3 z4⊢;exact⟨p1,p2,k,p,by rw[z1,z2,z3,z4]⟩
noncomputable def u3(s:Stmt):Option (Expr×Expr):=(CG s).bind fun r=>(il r.1).map fun t=>(t,r.2.1)
theorem lT{s:Stmt}{r:Expr×Expr}(h:u3 s=some r):∃p,s=.Assign [r.1] r.2 p:=by obtain⟨⟨ts,v,p⟩,e1,h⟩:=Option.bind_eq_some_iff.mp h;obtain⟨t,e2,rfl⟩:=Option.map_eq_some_iff.mp h;have z1:=ue e1;have z2:=cS e2;dsimp only at z1 z2⊢;exact⟨p,by rw[z1,z2]⟩
noncomputable def QM(sc:Sc)(N:List Str)(t:Tw.Tg)(tg:Expr):Bool:=match t with
 |.var i=>(bz tg).any fun x=>decide (N[i]?=some x)&&hV sc x
 |.two i j=>(tR tg).any fun r=>decide (N[i]?=some r.1)&&hV sc r.1&&decide (N[j]?=some r.2)&&hV sc r.2
noncomputable def isTup(e:Expr):Bool:=decide (e.ctorIdx=25)
mutual
noncomputable def eR(cf:Cfg)(sc:Sc)(N:List Str):Tw.St->Stmt->Bool
 |.expr e,s=>(sZ s).any fun x=>aG x&&!(qt x)&&aB cf sc N e x
 |.ret e,s=>(yV s).any fun o=>o.any fun x=>aB cf sc N e x
 |.uw,s=>(yV s).any fun o=>o.isNone
 |.set i e,s=>(u3 s).any fun r=>(bz r.1).any fun y=>decide (N[i]?=some y)&&hV sc y&&aG r.2&&aB cf sc N e r.2
 |.put o k e,s=>(u3 s).any fun r=>(lQ r.1).any fun q=>aG q.2&&aB cf sc N o q.1&&aB cf sc N k q.2&&aB cf sc N e r.2
 |.iff c a b,s=>(oa s).any fun r=>eM r.1&&aB cf sc N c r.1&&i5 cf sc N a r.2.1&&i5 cf sc N b r.2.2
 |.for t it b,s=>(GG s).any fun r=>r.2.2.2.isEmpty&&aG r.2.1&&kc cf sc N (isTup r.1) it r.2.1&&i5 cf sc N b r.2.2.1&&QM sc N t r.1
 |.pass,s=>(Dv s).isSome
 |.brk,s=>(Iw s).isSome
 |.cont,s=>(DR s).isSome
 |.bad,_=>true
 |.eS i j e,s=>(u3 s).any fun r=>(tR r.1).any fun q=>decide (N[i]?=some q.1)&&hV sc q.1&&decide (N[j]?=some q.2)&&hV sc q.2&&isCall r.2&&aB cf sc N e r.2
 |.eQ o x e,s=>(u3 s).any fun r=>(ju r.1).any fun q=>decide (q.2.1=⟨x.toArray⟩)&&wQ.contains q.2.1&&aG r.2&&!(qt r.2)&&aB cf sc N o q.1&&aB cf sc N e r.2
 |.aug i op e,s=>(KH s).any fun r=>(bz r.1).any fun x=>decide (op=.add)&&decide (r.2.1=.Add)&&decide (N[i]?=some x)&&hV sc x&&aB cf sc N e r.2.2
 |.vZ c b,s=>(Hf s).any fun r=>r.2.2.isEmpty&&eM r.1&&aB cf sc N c r.1&&i5 cf sc N b r.2.1
 |.raise c xs es,s=>(zw s).any fun r=>r.2.isNone&&r.1.any fun e=>(mZ e).any fun q=>!(q.2.isEmpty)&&decide (q.1=str c)&&decide (cf.ia.lookup c=some xs)&&jL sc q.1&&oh q.1&&c4 cf sc N es q.2
 |.qF o c m f es x j fs md,s=>(Kv s).any fun r=>r.2.2.1.isEmpty&&r.2.2.2.isEmpty&&(il r.1).any fun s1=>(sZ s1).any fun e=>(uE e).any fun q=>(C7 r.2.1).any fun h=>!(q.2.2.2.1.isEmpty)&&decide (q.2.1=str m)&&decide (cf.fns[f]?=some (.me c m))&&decide (m≠fJ)&&(q.2.2.1.endLine== q.2.2.2.2.line)&&decide (q.2.2.2.1.length<20)&&aG q.1&&je q.1&&aB cf sc N o q.1&&c4 cf sc N es q.2.2.2.1&&
   decide (h.1=str x)&&(cf.ia.lookup x).any (fun xs=>fs.all fun f=>decide (f∈xs))&&decide (fs.length<=100)&&jL sc h.1&&oh h.1&&decide (N[j]?=some h.2.1)&&decide (sc.lookup h.2.1=some .local)&&okN h.2.1&&yQ N sc h.2.1 fs md h.2.2
noncomputable def i5(cf:Cfg)(sc:Sc)(N:List Str):List Tw.St->List Stmt->Bool
 |[],ss=>ss.isEmpty
 |t::ts,ss=>(n5 ss).any fun r=>eR cf sc N t r.1&&i5 cf sc N ts r.2
end
structure m5(cf:Cfg)(C:Tw.Or)(CX:eE)(E:XK)(sc:Sc)(N:List Str)(X:Cx):Prop where
 dh:jI cf C CX E X
 sees:ff sc N X
 same:X.env.scope.names=sc
 nd:N.Nodup
 fn:∀x,X.fn x=true
 pass:PassesOwn (model X.prog X.w) X.A X.env X.xe
 block:X.env.blockKind=.function
 ex:X.ex=[]
 st:X.stack=X.env::X.outer
 fm:X.env.frame=some X.env.locals
 xe:X.xe=p6 X E
 cx:CX=dG X.prog X.w
 err:∀c fs,cf.ia.lookup c=some fs->xH X c fs
section
variable {cf:Cfg}{C:Tw.Or}{CX:eE}{E:XK}{sc:Sc}{N:List Str}{X:Cx}
theorem m5.loc(R:m5 cf C CX E sc N X){x:Str}(h:hV sc x=true):Loc X.env.scope x:=by
 unfold hV at h;rw[<-R.same] at h;cases e:X.env.scope.names.lookup x with
 |none=>rw[e] at h;exact no h
 |some k=>
  rw[e] at h;cases k with
  | «local» => exact .inl e
  |cell=>exact .inr e
  |_=>exact no h
theorem m5.zz(R:m5 cf C CX E sc N X){i:Nat}{x:Str}{p:Pos}(h1:N[i]?=some x)(h2:hV sc x=true):PG X (.Name x p) (fD i):=
 kP (by rw[R.sees.n];exact R.nd) (by rw[R.sees.n];exact h1) (R.loc h2) (.inl (R.fn x))
theorem yM{o k:Expr}{pos':Pos}{env:Env}(hk:aG k=true)(v:Value):assign (.Subscript o k pos') env v=(do
   let ov <-holding [v] (eval o env)
   let iv <-holding [v,ov] (eval k env)
   standAt pos'
   holding [v,ov,iv] (setItem ov iv v)
   release [v,ov,iv] []):=by
 cases k<;>first|rfl|exact absurd (show false=true from hk) Bool.false_ne_true
theorem GW(R:m5 cf C CX E sc N X){i:Nat}{e:Tw.E}{y:Str}{py p:Pos}{x:Expr}(h1:N[i]?=some y)(h2:hV sc y=true)(h3:aG x=true)(h4:aB cf sc N e x=true):
  PS X (.Assign [.Name y py] x p) (c9 (zx X E) fun ρ h=>(Tw.ae C e ρ h).bind fun w h=>.ok (.next (ρ.set i (some w))) h):=by
 have plain:swapsWith x (some (.Name y py)) p.line X.env=pure false->PS X (.Assign [.Name y py] x p) (c9 (zx X E) fun ρ h=>(Tw.ae C e ρ h).bind fun w h=>.ok (.next (ρ.set i (some w))) h):=fun hs=>
  Mg (by rw[R.sees.n];exact R.nd) (by rw[R.sees.n];exact h1) (R.loc h2) (aR e R.dh R.sees h4).1 hs (R.fn y)
 by_cases hc:qt x=true
 .cases x with
  |ListComp elt gens scope pos=>
   have hsw:swapsWith (.ListComp elt gens scope pos) (some (.Name y py)) p.line X.env=pure (X.env.blockKind== .function&&X.env.kindOf y== some .local&&py.line== pos.line&&!(scope.names.any fun (n,k)=>n== y&&(k== .local || k== .cell))):=rfl;cases hb:(X.env.blockKind== .function&&X.env.kindOf y== some .local&&py.line== pos.line&&!(scope.names.any fun (n,k)=>n== y&&(k== .local || k== .cell))) with
   |false=>rw[hb] at hsw;exact plain hsw
   |true=>
    rw[hb] at hsw;have hl:X.env.scope.names.lookup y=some .local:=by simp only[Bool.and_eq_true,beq_iff_eq] at hb;exact hb.1.1.2
    cases e with
    |comp el it c=>
     rw[aB.eq_def] at h4;dsimp only at h4
     .replace h4:=ay h4;obtain⟨⟨yy,gs,scope,pos⟩,e1,h4⟩:=h4;cases i9 e1;replace h4:=ay h4;obtain⟨⟨tg,iter,ifs⟩,e2,h4⟩:=h4;obtain rfl:=jG e2;replace h4:=ay h4;obtain⟨xx,e3,h4⟩:=h4;obtain⟨px,rfl⟩:=aH e3;simp only[Bool.and_eq_true,decide_eq_true_eq] at h4;obtain⟨⟨⟨⟨⟨h0,h1'⟩,h2'⟩,h3'⟩,h4⟩,h5⟩:=h4;have S:=R.sees;have cs:=pL S h0;have hk:scope.kind=.function:=cs.kind;have hnd:(bW X.N [xx]).Nodup:=by rw[S.n];exact h1'
      have sees:∀{Cc:Addr}{s:Shared}{H:L2.Hp}{pins:List (Addr×Obj)}{fp:List Addr},ff scope.names (bW N [xx]) (aX X scope Cc [xx] s H pins fp):=fun {Cc s H pins fp}=>by
       have z:=ff.comp (X:=X) (scope:=scope) (C:=Cc) (x:=[xx]) (s:=s) (H:=H) (pins:=pins) (fp:=fp) hk;rw[S.n] at z;exact z
      have hev:Tw.ae C (.comp el it c)=k8 zP (Tw.bM C it) (Tw.dD C c) (Tw.ae C el):=by funext ρ h;rw[Tw.ij];rfl
      rw[hev];refine zV R.dh.calm cs (vg hnd cs) (uC _ _) (qX it R.dh S h3' (fun z=>nomatch z)) (dM h2') (fun Cc s H pins fp=>(aR el R.dh.comp sees h4).1) ?_ (by rw[S.n];exact R.nd) (by rw[S.n];exact h1) hl hsw;cases c with
      |none=>
       obtain rfl:=bS (show ifs.isEmpty=true from h5);exact .inl ⟨rfl,fun ρ h=>by rw[Tw.mS]⟩
      |some d=>exact no h5
    |fY el it=>
     rw[aB.eq_def] at h4;dsimp only at h4
     .replace h4:=ay h4;obtain⟨⟨yy,gs,scope,pos⟩,e1,h4⟩:=h4;cases i9 e1;replace h4:=ay h4;obtain⟨⟨tg,iter,ifs⟩,e2,h4⟩:=h4;obtain rfl:=jG e2;rw[Bool.and_eq_true] at h4;obtain⟨hi,h4⟩:=h4;obtain rfl:=bS (show ifs.isEmpty=true from hi);replace h4:=ay h4;obtain⟨ts,e3,h4⟩:=h4;obtain⟨kt,pt,rfl⟩:=iK e3;replace h4:=ay h4;obtain⟨⟨n1,n2⟩,e4,h4⟩:=h4;obtain rfl:=lS e4;replace h4:=ay h4;obtain⟨xx,e5,h4⟩:=h4;obtain⟨px,rfl⟩:=aH e5;replace h4:=ay h4;obtain⟨x2,e6,h4⟩:=h4;obtain⟨px2,rfl⟩:=aH e6;simp only[Bool.and_eq_true,decide_eq_true_eq] at h4;obtain⟨⟨⟨⟨h0,h1'⟩,h2'⟩,h3'⟩,h4⟩:=h4;have S:=R.sees;have cs:=pL S h0;have hk:scope.kind=.function:=cs.kind;have hnd:(bW X.N [xx,x2]).Nodup:=by rw[S.n];exact h1'
      have sees:∀{Cc:Addr}{s:Shared}{H:L2.Hp}{pins:List (Addr×Obj)}{fp:List Addr},ff scope.names (bW N [xx,x2]) (aX X scope Cc [xx,x2] s H pins fp):=fun {Cc s H pins fp}=>by
       have z:=ff.comp (X:=X) (scope:=scope) (C:=Cc) (x:=[xx,x2]) (s:=s) (H:=H) (pins:=pins) (fp:=fp) hk;rw[S.n] at z;exact z
      have hev:Tw.ae C (.fY el it)=k8 lX (Tw.bM C it) (fun _ h=>.ok none h) (Tw.ae C el):=by
       funext ρ h;rw[Tw.gp];unfold k8
       congr 1
       funext s h;rw[sC]
      rw[hev];exact zV R.dh.calm cs (u6 R.dh.calm hnd cs) (vy _ _) (qX it R.dh S h3' (fun _=>⟨_,_,_,rfl⟩)) (dM h2') (fun Cc s H pins fp=>(aR el R.dh.comp sees h4).1) (.inl ⟨rfl,fun _ _=>rfl⟩) (by rw[S.n];exact R.nd) (by rw[S.n];exact h1) hl hsw
    |bad=>
     refine fun pins s σ H D I Z=>Z.g fun ρ Z=>Z.g fun h Z=>Z.g fun ι Z=>Z.g fun at' p=>?_;simp only[Tw.qP] at p;exact p.elim
    |_=>rw[aB.eq_def] at h4;first|exact no h4|exact (no_comp h4).elim
  |_=>exact no hc
 .exact plain (iz h3 (by simpa using hc))
mutual
theorem OA(R:m5 cf C CX E sc N X):∀(t:Tw.St){s:Stmt},eR cf sc N t s=true->PS X s (c9 (zx X E) (Tw.aW C t))
 |.expr e,s,h=>by
  rw[eR.eq_def] at h;dsimp only at h;replace h:=ay h;obtain⟨x,e1,h⟩:=h;obtain⟨p,rfl⟩:=mH e1;simp only[Bool.and_eq_true,Bool.not_eq_true'] at h;rw[show Tw.aW C (.expr e)=fun ρ h=>(Tw.ae C e ρ h).bind fun _ h=>.ok (.next ρ) h from by funext ρ h;rw[Tw.uB]];exact IL (aR e R.dh R.sees h.2).1 (iz h.1.1 h.1.2)
 |.ret e,s,h=>by
  rw[eR.eq_def] at h;dsimp only at h;replace h:=ay h;obtain⟨o,e1,h⟩:=h;obtain⟨p,rfl⟩:=oY e1;replace h:=ay h;obtain⟨x,rfl,h⟩:=h;rw[show Tw.aW C (.ret e)=fun ρ h=>(Tw.ae C e ρ h).bind fun x h=>.ok (.ret x) h from by funext ρ h;rw[Tw.ki]];exact LW (aR e R.dh R.sees h).1
 |.uw,s,h=>by
  rw[eR.eq_def] at h;dsimp only at h;replace h:=ay h;obtain⟨o,e1,h⟩:=h;obtain⟨p,rfl⟩:=oY e1;obtain rfl:=Option.isNone_iff_eq_none.mp h;rw[show Tw.aW C .uw=fun ρ h=>.ok (.ret .ah) h from by funext ρ h;rw[Tw.BY]];exact Ke
 |.set i e,s,h=>by
  rw[eR.eq_def] at h;dsimp only at h;replace h:=ay h;obtain⟨⟨t,v⟩,e1,h⟩:=h;obtain⟨p,rfl⟩:=lT e1;replace h:=ay h;obtain⟨y,e2,h⟩:=h;obtain⟨py,rfl⟩:=aH (show bz t=some y from e2);simp only[Bool.and_eq_true,decide_eq_true_eq] at h;rw[show Tw.aW C (.set i e)=fun ρ h=>(Tw.ae C e ρ h).bind fun x h=>.ok (.next (ρ.set i (some x))) h from by funext ρ h;rw[Tw.xi]];exact GW R h.1.1.1 h.1.1.2 h.1.2 h.2
 |.put o k e,s,h=>by
  rw[eR.eq_def] at h;dsimp only at h;replace h:=ay h;obtain⟨⟨t,v⟩,e1,h⟩:=h;obtain⟨p,rfl⟩:=lT e1;replace h:=ay h;obtain⟨⟨x,y⟩,e2,h⟩:=h;obtain⟨p2,rfl⟩:=jT (show lQ t=some (x,y) from e2);simp only[Bool.and_eq_true] at h;rw[show Tw.aW C (.put o k e)=fun ρ h=>(Tw.ae C e ρ h).bind fun v h=>(Tw.ae C o ρ h).bind fun x h=>(Tw.ae C k ρ h).bind fun y h=>(Tw.iQ x y v h).bind fun _ h=>.ok (.next ρ) h from by funext ρ h;rw[Tw.Gf]];exact LL (by have:=R.dh.units;omega) (aR e R.dh R.sees h.2).1 (aR o R.dh R.sees h.1.1.2).1 (aR k R.dh R.sees h.1.2).1 (yM h.1.1.1)
 |.iff c a b,s,h=>by
  rw[eR.eq_def] at h;dsimp only at h;replace h:=ay h;obtain⟨⟨x,ys,zs⟩,e1,h⟩:=h;obtain⟨p,rfl⟩:=FC e1;simp only[Bool.and_eq_true] at h;rw[show Tw.aW C (.iff c a b)=fun ρ h=>(Tw.ae C c ρ h).bind fun x h=>match Tw.truth h x with
   |some true=>Tw.au C a ρ h
   |some false=>Tw.au C b ρ h
   |none=>.bad from by funext ρ h;rw[Tw.ig]<;>rfl]
  exact Px ((aR c R.dh R.sees h.1.1.2).2 h.1.1.1) (kU R a h.1.2) (kU R b h.2)
 |.for t it b,s,h=>by
  rw[eR.eq_def] at h;dsimp only at h;replace h:=ay h;obtain⟨⟨tg,iter,ys,zs⟩,e1,h⟩:=h;obtain⟨p,rfl⟩:=C5 e1;rw[show Tw.aW C (.for t it b)=fun ρ h=>(Tw.bM C it ρ h).bind fun s h=>Tw.turns s t (Tw.au C b) ρ h from by funext ρ h;rw[Tw.bB]];simp only[Bool.and_eq_true] at h;obtain⟨⟨⟨⟨hz,h0⟩,h1⟩,h2⟩,h3⟩:=h;obtain rfl:=bS (show zs.isEmpty=true from hz);cases t with
  |var i=>
   replace h3:=ay h3;obtain⟨x,e2,h3⟩:=h3;obtain⟨px,rfl⟩:=aH (show bz tg=some x from e2);simp only[Bool.and_eq_true,decide_eq_true_eq] at h3;exact zh R.pass R.dh.calm (qX it R.dh R.sees h1 (fun z=>nomatch z)) (R.zz h3.1 h3.2) (Jw _ _) (kU R b h2) (dM h0)
  |two i j=>
   replace h3:=ay h3;obtain⟨⟨x,y⟩,e2,h3⟩:=h3;obtain⟨p1,p2,kt,pt,rfl⟩:=tK (show tR tg=some (x,y) from e2);simp only[Bool.and_eq_true,decide_eq_true_eq] at h3;exact zh R.pass R.dh.calm (qX it R.dh R.sees h1 (fun _=>⟨_,_,_,rfl⟩)) (uy R.dh.calm (ir (R.zz h3.1.1.1 h3.1.1.2) (ir (R.zz h3.1.2 h3.2) qD))) (Ax _ _ _) (kU R b h2) (dM h0)
 |.pass,s,h=>by
  rw[eR.eq_def] at h;dsimp only at h;obtain⟨_,e1⟩:=Option.isSome_iff_exists.mp h;obtain⟨p,rfl⟩:=Br e1;rw[show Tw.aW C .pass=fun ρ h=>.ok (.next ρ) h from by funext ρ h;rw[Tw.B2]];exact Kp
 |.brk,s,h=>by
  rw[eR.eq_def] at h;dsimp only at h;obtain⟨_,e1⟩:=Option.isSome_iff_exists.mp h;obtain⟨p,rfl⟩:=CC e1;rw[show Tw.aW C .brk=fun ρ h=>.ok (.brk ρ) h from by funext ρ h;rw[Tw.EL]];exact Lw
 |.cont,s,h=>by
  rw[eR.eq_def] at h;dsimp only at h;obtain⟨_,e1⟩:=Option.isSome_iff_exists.mp h;obtain⟨p,rfl⟩:=Bj e1;rw[show Tw.aW C .cont=fun ρ h=>.ok (.cont ρ) h from by funext ρ h;rw[Tw.CZ]];exact Jl
 |.bad,s,h=>by
  rw[show Tw.aW C .bad=fun _ _=>.bad from by funext ρ h;rw[Tw.Fm]];exact fun pins s σ H D I Z=>Z.g fun ρ Z=>Z.g fun h Z=>Z.g fun ι Z=>Z.g fun at' p=>p.elim
 |.eS i j e,s,h=>by
  rw[eR.eq_def] at h;dsimp only at h;replace h:=ay h;obtain⟨⟨t,v⟩,e1,h⟩:=h;obtain⟨p,rfl⟩:=lT e1;replace h:=ay h;obtain⟨⟨x,y⟩,e2,h⟩:=h;obtain⟨p1,p2,kt,pt,rfl⟩:=tK (show tR t=some (x,y) from e2);simp only[Bool.and_eq_true,decide_eq_true_eq] at h;obtain⟨⟨⟨⟨⟨h1,h2⟩,h3⟩,h4⟩,h5⟩,h6⟩:=h;rw[show Tw.aW C (.eS i j e)=fun ρ h=>(Tw.ae C e ρ h).bind fun x h=>match x with
   |.tup [u,v]=>.ok (.next ((ρ.set i (some u)).set j (some v))) h
   |_=>.bad from by funext ρ h;rw[Tw.oS]<;>rfl]
  exact GJ (uy R.dh.calm (ir (R.zz h1 h2) (ir (R.zz h3 h4) qD))) (Ax _ _ _) (aR e R.dh R.sees h6).1 h5
 |.eQ o x e,s,h=>by
  rw[eR.eq_def] at h;dsimp only at h;replace h:=ay h;obtain⟨⟨t,z⟩,e1,h⟩:=h;obtain⟨p,rfl⟩:=lT e1;replace h:=ay h;obtain⟨⟨v,y,p2⟩,e2,h⟩:=h;obtain rfl:=gL (show ju t=some (v,y,p2) from e2);simp only[Bool.and_eq_true,decide_eq_true_eq,Bool.not_eq_true'] at h;obtain⟨⟨⟨⟨⟨rfl,h1⟩,h2⟩,h3⟩,h4⟩,h5⟩:=h;rw[show Tw.aW C (.eQ o x e)=fun ρ h=>(Tw.ae C e ρ h).bind fun v h=>(Tw.ae C o ρ h).bind fun w h=>(Tw.putField w x v h).bind fun _ h=>.ok (.next ρ) h from by funext ρ h;rw[Tw.B9]];exact Je (by rw[List.contains_eq_mem] at h1;simpa using h1) (aR e R.dh R.sees h5).1 (aR o R.dh R.sees h4).1 (iz h2 h3)
 |.aug i op e,s,h=>by
  rw[eR.eq_def] at h;dsimp only at h;replace h:=ay h;obtain⟨⟨t,o,z⟩,e1,h⟩:=h;obtain⟨p,rfl⟩:=C8 e1;replace h:=ay h;obtain⟨x,e2,h⟩:=h;obtain⟨p2,rfl⟩:=aH (show bz t=some x from e2);simp only[Bool.and_eq_true,decide_eq_true_eq] at h;obtain⟨⟨⟨⟨rfl,rfl⟩,h1⟩,h2⟩,h3⟩:=h;rw[show Tw.aW C (.aug i .add e)=fun ρ h=>match ρ[i]? with
   |some (some (.int n))=>(Tw.ae C e ρ h).bind fun y h=>match y with
    |.int b=>Tw.R.of ((Tw.binI .add n b).map fun c=>.next (ρ.set i (some (.int c)))) h
    |_=>.bad
   |_=>.bad from by funext ρ h;rw[Tw.EJ]<;>rfl]
  exact Ls (by rw[R.sees.n];exact R.nd) (by rw[R.sees.n];exact h1) (R.loc h2) (R.fn _) (aR e R.dh R.sees h3).1
 |.vZ c b,s,h=>by
  rw[eR.eq_def] at h;dsimp only at h;replace h:=ay h;obtain⟨⟨x,ys,zs⟩,e1,h⟩:=h;obtain⟨p,rfl⟩:=BA e1;simp only[Bool.and_eq_true] at h;obtain⟨⟨⟨hz,h0⟩,h1⟩,h2⟩:=h;obtain rfl:=bS (show zs.isEmpty=true from hz);rw[show Tw.aW C (.vZ c b)=fun ρ h=>Tw.g8 (Tw.ae C c) (Tw.au C b) Tw.FU ρ h from by funext ρ h;rw[Tw.qU]];exact LH R.pass ((aR c R.dh R.sees h1).2 h0) (kU R b h2)
 |.raise c xs es,s,h=>by
  rw[eR.eq_def] at h;dsimp only at h;replace h:=ay h;obtain⟨⟨o,cs⟩,e1,h⟩:=h;obtain⟨p,rfl⟩:=yU e1;rw[Bool.and_eq_true] at h;obtain⟨hn,h⟩:=h;obtain rfl:=Option.isNone_iff_eq_none.mp (show cs.isNone=true from hn);replace h:=ay h;obtain⟨e,z,h⟩:=h;obtain rfl:o=some e:=z;replace h:=ay h;obtain⟨⟨x,ys⟩,e3,h⟩:=h;obtain⟨np,cp,rfl⟩:=gi e3;simp only[Bool.and_eq_true,decide_eq_true_eq,Bool.not_eq_true'] at h;obtain⟨⟨⟨⟨⟨hy,rfl⟩,h1⟩,h2⟩,h3⟩,h4⟩:=h;obtain⟨y,ys,rfl⟩:=pU hy;rw[show Tw.aW C (.raise c xs es)=fun ρ h=>(Tw.bc C es ρ h).bind fun ws h=>Tw.jd c xs ws h from by funext ρ h;rw[Tw.rY]];obtain⟨hp,z⟩:=i3 es R.dh R.sees h4;rw[List.all_cons,Bool.and_eq_true] at hp;exact FT R.ex R.st R.fm R.xe (R.err c xs h1) (R.sees.gl _ h2) z (iL h3) (bu hp.1) (by rw[dQ hp.2];simp[backTo])
 |.qF o c m f es x j fs md,s,h=>by
  rw[eR.eq_def] at h;dsimp only at h;replace h:=ay h;obtain⟨⟨bd,hs,oe,fb⟩,e1,h⟩:=h;obtain⟨p,rfl⟩:=BQ e1;rw[Bool.and_eq_true,Bool.and_eq_true] at h;obtain⟨⟨w1,w2⟩,h⟩:=h;obtain rfl:=bS (show oe.isEmpty=true from w1);obtain rfl:=bS (show fb.isEmpty=true from w2);replace h:=ay h;obtain⟨s1,e2,h⟩:=h;obtain rfl:=cS (show il bd=some s1 from e2);replace h:=ay h;obtain⟨ex,e3,h⟩:=h;obtain⟨ep,rfl⟩:=mH e3;replace h:=ay h;obtain⟨⟨v,a,ap,as,cp⟩,e4,h⟩:=h;obtain rfl:=lP e4;replace h:=ay h;obtain⟨⟨hx,hn,b⟩,e5,h⟩:=h;obtain⟨hpx,hpp,rfl⟩:=Dd (show C7 hs=some (hx,hn,b) from e5);simp only[Bool.and_eq_true,decide_eq_true_eq,Bool.not_eq_true'] at h;obtain⟨⟨⟨⟨⟨⟨⟨⟨⟨⟨⟨⟨⟨⟨⟨⟨⟨⟨hy,rfl⟩,h1⟩,h2⟩,h3⟩,h4⟩,h5⟩,h6⟩,h7⟩,h8⟩,rfl⟩,h9⟩,h10⟩,h11⟩,h12⟩,h13⟩,h14⟩,h15⟩,h16⟩:=h;obtain⟨y,ys,rfl⟩:=pU hy;rw[show Tw.aW C (.qF o c m f es x j fs md)=fun ρ h=>(Tw.ae C o ρ h).dN.bind fun w h=>if Tw.dH w c m h then (Tw.bc C es ρ h).dN.bind fun ws h=>Tw.kx x j fs md ρ (C f (w::ws) h) else .bad from by funext ρ h;rw[Tw.uI]];have cx:=R.cx;subst cx;obtain⟨k,g,fd,ps,A,G,hr,hm,gc,_,hme,hb⟩:=R.dh.me f c m h1;have S0:ff sc N X.kr:=⟨R.sees.n,R.sees.kind,R.sees.ui,R.sees.gl,R.sees.cf⟩;obtain⟨hp,z⟩:=i3 es R.dh.kr S0 h8;obtain⟨xs,e9,h9⟩:=ay h9;simp only[List.all_eq_true,decide_eq_true_eq] at h9;exact LK R.ex R.st R.fm (hme h2) G (hr.mono (Nat.le_succ k)) hm gc hb (aR o R.dh.kr S0 h7).1 z (tD h5 h6 h3 (dQ hp) h4) hp (R.err x xs e9) h9 (by omega) (R.sees.gl _ h11) (iL h12) (by rw[R.sees.n];exact R.nd) (by rw[R.sees.n];exact h13) (by rw[R.same];exact h14) h15 (by rw[R.sees.n,R.same];exact h16)
theorem kU(R:m5 cf C CX E sc N X):∀(ts:List Tw.St){ss:List Stmt},i5 cf sc N ts ss=true->eB X ss (c9 (zx X E) (Tw.au C ts))
 |[],ss,h=>by
  rw[i5.eq_def] at h;dsimp only at h;obtain rfl:=bS h;rw[show Tw.au C []=fun ρ h=>.ok (.next ρ) h from by funext ρ h;rw[Tw.aK]];exact Hj
 |t::ts,ss,h=>by
  rw[i5.eq_def] at h;dsimp only at h;replace h:=ay h;obtain⟨⟨s,r⟩,e1,h⟩:=h;obtain rfl:=eK e1;simp only[Bool.and_eq_true] at h;rw[show Tw.au C (t::ts)=fun ρ h=>(Tw.aW C t ρ h).bind fun f h=>match f with
   |.next ρ=>Tw.au C ts ρ h
   |f=>.ok f h from by funext ρ h;rw[Tw.bj]<;>rfl]
  exact E3 (OA R t h.1) (kU R ts h.2)
end
end
structure aT where
 key:Fk
 name:Str
 qual:Str
 st:Stmt
 N:List Str
 ps:List Str
def yP(cf:Cfg)(d:aT)(fn:Tw.Fn):Bool:=
 decide ((aj d.st).kind=.function)&&!(aj d.st).isCoroutine&&!(aj d.st).isGenerator&&decide d.N.Nodup&&decide (d.N.take d.ps.length=d.ps)&&
 d.ps.all (hV (aj d.st).names)&&(aj d.st).names.all (fun y=>decide (y.2≠.free))&&decide (fn.ps=d.ps.length)&&decide (fn.ns=d.N.length)&&i5 cf (aj d.st).names d.N fn.body (bR d.st)
noncomputable def Eg(K:PySem.W.Frag)(mg:Str->Option Value)(g:Addr):Fk->Prop
 |.fn x=>mg x=some (.ref g)
 |.me c m=>∃A,mg ⟨c.toArray⟩=some (.ref A)/\GoodC K A/\(m=fJ->Mk K A g)/\(m≠fJ->Meth K A ⟨m.toArray⟩ g)
structure jJ(K:PySem.W.Frag)(mg:Str->Option Value)(d:aT)(g:Addr)(fd:FuncData):Prop where
 F:qj K d.name d.qual d.st g fd
 m:Eg K mg g d.key
 b:∀us:List Value,us.length=d.ps.length->bindArgs fd ⟨us,[]⟩=pure (d.ps.zip us)
def TabAt(K:PySem.W.Frag)(mg:Str->Option Value)(fns:List Fk)(x:Str)(g:List (Tw.S×Nat)):Prop:=
 ∃t D,mg x=some (.ref t)/\lr K t D/\(∀s f,g.lookup s=some f->∃y ga,fns[f]?=some (.fn y)/\mg y=some (.ref ga)/\KTD.datumAt (⟨s.toArray⟩:Str) D=some ga)
def mO(K:PySem.W.Frag)(mg:Str->Option Value)(x:Str)(g:List Tw.S):Prop:=∃t D,mg x=some (.ref t)/\lr K t D/\∀s:Tw.S,KTD.inKeys (⟨s.toArray⟩:Str) D=g.contains s
def pR(K:PySem.W.Frag)(mg:Str->Option Value)(x:Str)(w:Tw.W):Prop:=∃v u,mg x=some u/\RelV v u/\∀ι n H,RW K ι n H w v
structure lH(K:PySem.W.Frag)(mg:Str->Option Value)(c:Tw.S)(fs:List Tw.S):Prop where
 ex:∃C f fd sf x qual st,mg (str c)=some (.ref C)/\tN K C f/\XC K C/\(∀g∈fs.map str,bh K C g)/\PySem.W.exmOne K (.ref C) (.ref C)=some true/\qj K x qual st f fd/\Binds K fd (sf::fs.map str) []/\fs.length<=100/\
  (uP st (sf::fs.map str)=true\/∃r R g gd gx gq gs sb p ps,fs.map str=p::ps/\yq r st (sf::fs.map str)=true/\mg r=some (.ref R)/\m7 K R g/\qj K gx gq gs g gd/\uP gs [sb,p]=true/\Binds K gd [sb,p] [])
theorem lH.ok{P:Program}{w:World}{K:PySem.W.Frag}{mg:Str->Option Value}{base:Heap}{c:Tw.S}{fs:List Tw.S}(E:lH K mg c fs):∃C f fd ps,mg (str c)=some (.ref C)/\tN K C f/\XC K C/\(∀g∈fs.map str,bh K C g)/\fs.length<=1000/\
  bU P w K mg base (dG P w) 2 f fd ps (kG K (fs.map str))/\Binds K fd ps []/\PySem.W.exmOne K (.ref C) (.ref C)=some true:=by
 obtain⟨C,f,fd,sf,x,qual,st,h1,h2,h3,h4,h5,F,hb,hl,h⟩:=E.ex;refine⟨C,f,fd,sf::fs.map str,h1,h2,h3,h4,by omega,?_,hb,h5⟩;rcases h with h|⟨r,R,g,gd,gx,gq,gs,sb,p,ps,e,hB,hm,B,G,gA,gb⟩
 .cases e:fs.map str with
  |nil=>rw[e] at h;cases h
  |cons p ps=>rw[e] at h;exact uu F h
 .rw[e] at hB⊢;exact Cd F hB hm B (uu (k:=0) G gA) gb
section
variable {P:Program}{w:World}{K:PySem.W.Frag}{mg:Str->Option Value}{base:Heap}{cf:Cfg}{C:Tw.Or}
theorem qj.Q7{x qual:Str}{st:Stmt}{f:Addr}{fd:FuncData}{N ps:List Str}{k:Nat}{sp:Sp}(F:qj K x qual st f fd)(S:jc N ps (aj st))(len:∀vs H Q E,sp vs H Q E->vs.length=ps.length)
  (hb:∀(cdv:Value)(A:Around)(outer:List Env)(s:Shared)(H:L2.Hp)(vs:List V)(Q:VK)(E:XK),bI k (A.deeper (envOfC qual (aj st) s.heap.objs.size f cdv))->sp vs H Q E->
   ∃t,eB (j3 (dG P w) P w K mg base N qual (aj st) f cdv A outer s H E) (bR st) t/\t {nx:=fun _ H'=>Q .ah H',rt:=Q} (start N vs) H):bU P w K mg base (dG P w) (k+1) f fd ps sp:=by
 obtain⟨oc,od,kV,doc,pm,an,cdv,ct,osl,rfl,lk,hcd⟩:=F.ex;exact xS lk hcd S len fun A outer s H vs Q E hr hsp=>hb cdv A outer s H vs Q E hr hsp
theorem Cn{K:Zk}{ι:Nat->Addr}{h:Tw.Hp}{H:L2.Hp}{ws:List Tw.W}{vs:List V}{N:List Str}(r:HR K ι h H)(rw':aL K.K ι h.length H ws vs)(hl:vs.length<=N.length):
  At K ι h H (ws.map some++List.replicate (N.length-ws.length) none) (start N vs):=by
 refine⟨r,?_,fun i w e=>?_⟩
 .unfold L2.start;simp only[List.length_append,List.length_map,List.length_replicate,rw'.length]
 .have hi:i<ws.length:=by
   by_cases hi:i<ws.length
   .exact hi
   .rw[List.getElem?_append_right (by simpa using hi),List.getElem?_replicate] at e;split at e<;>cases e
  rw[List.getElem?_append_left (by simpa using hi),List.getElem?_map] at e;cases e1:ws[i]? with
  |none=>rw[e1] at e;cases e
  |some u=>
   rw[e1] at e;cases e;obtain⟨v,g1,g2⟩:=rw'.get e1;refine⟨v,?_,g2⟩;unfold L2.start;rw[List.getElem?_append_left (by rw[List.length_map,<-rw'.length];exact hi),List.getElem?_map,g1];rfl
theorem Lr{k:Nat}{d:aT}{fn:Tw.Fn}{g:Addr}{fd:FuncData}(D:jJ K mg d g fd)(h:yP cf d fn=true)(hb:∀x∈cO,mg x=none)
  (own:∀f kk,cf.fns[f]?=some kk->∃g fd ps,bU P w K mg base (dG P w) k g fd ps (fk K mg (C f))/\Eg K mg g kk/\PySem.W.keepIn K (.ref g)=true/\Binds K fd ps [])
  (tab:∀x g,cf.tabs.lookup x=some g->TabAt K mg cf.fns x g) (key:∀x g,cf.keys.lookup x=some g->mO K mg x g) (con:∀x w,cf.cons.lookup x=some w->pR K mg x w) (err:∀c fs,cf.ia.lookup c=some fs->lH K mg c fs) (hk2:2<=k):
  bU P w K mg base (dG P w) (k+2) g fd d.ps (fk K mg (Tw.bg C fn)):=by
 unfold yP at h;simp only[Bool.and_eq_true,decide_eq_true_eq,Bool.not_eq_true',List.all_eq_true] at h;obtain⟨⟨⟨⟨⟨⟨⟨⟨⟨h1,h2⟩,h3⟩,h4⟩,h5⟩,h6⟩,h7⟩,h8⟩,h9⟩,h10⟩:=h;have S:jc d.N d.ps (aj d.st):=⟨h1,h2,h3,h4,h5,fun x hx=>by
  have z:=h6 x hx;unfold hV at z;cases e:(aj d.st).names.lookup x with
  |none=>rw[e] at z;exact no z
  |some k=>
   rw[e] at z;cases k with
   | «local» => exact .inl rfl
   |cell=>exact .inr rfl
   |_=>exact no z,h7⟩
 have hpl:d.ps.length<=d.N.length:=by have:=congrArg List.length h5;rw[List.length_take] at this;omega
 have len:∀vs H Q E,fk K mg (Tw.bg C fn) vs H Q E->vs.length=d.ps.length:=fun vs H Q E Z=>Z.g fun ws Z=>Z.g fun h Z=>Z.g fun ι Z=>Z.g fun hr Z=>Z.g fun rr p=>by
  unfold Tw.bg at p;by_cases c:ws.length=fn.ps
  .rw[<-rr.length,c,h8]
  .rw[if_neg c] at p;exact p.elim
 refine qj.Q7 D.F S len fun cdv A outer s H vs Q E hr hsp=>⟨c9 ⟨K,mg,E⟩ (Tw.au C fn.body),?_,?_⟩
 .have R:m5 cf C (dG P w) E (aj d.st).names d.N (j3 (dG P w) P w K mg base d.N d.qual (aj d.st) g cdv A outer s H E):=by
   refine⟨⟨rfl,?_,fun f x e=>?_,fun f c m e=>?_,tab,key,con,hb,DT rfl rfl rfl rfl,dG.never⟩,⟨rfl,h1,fun x hx=>?_,fun x hx=>?_,fun x hx=>?_⟩,rfl,h4,fun _=>rfl,PassesOwn.leaving,?_,rfl,rfl,rfl,rfl,rfl,fun c fs e=>?_⟩
   .have:=hr.un;show (A.deeper (envOfC d.qual (aj d.st) s.heap.objs.size g cdv)).units+100<cLine;omega
   .obtain⟨g',fd',ps',z1,z2,z3,z4⟩:=own f (.fn x) e;exact⟨k,g',fd',ps',z1,hr.mono (Nat.le_succ k),z2,z3,z4⟩
   .obtain⟨g',fd',ps',z1,⟨A',y1,y2,y3,y4⟩,z3,z4⟩:=own f (.me c m) e;exact⟨k,g',fd',ps',A',z1,hr,y1,y2,y3,y4,z4⟩
   .show iX (aj d.st) x;unfold yD at hx;cases e:(aj d.st).names.lookup x with
    |none=>rw[e] at hx;exact no hx
    |some k=>
     rw[e] at hx;cases k with
     | «local» => exact .inl e
     |cell=>exact .inr (.inl e)
     |free=>exact .inr (.inr e)
     |_=>exact no hx
   .show (aj d.st).names.lookup x=some .globalImplicit;unfold jL at hx;cases e:(aj d.st).names.lookup x with
    |none=>rw[e] at hx;exact no hx
    |some k=>
     rw[e] at hx;cases k with
     |globalImplicit=>rfl
     |_=>exact no hx
   .show (aj d.st).names.lookup x=some .cell\/(aj d.st).names.lookup x=some .free;unfold DL at hx;cases e:(aj d.st).names.lookup x with
    |none=>rw[e] at hx;exact no hx
    |some k=>
     rw[e] at hx;cases k with
     |cell=>exact .inl rfl
     |free=>exact .inr rfl
     |_=>exact no hx
   .show Env.blockKind (envOfC d.qual (aj d.st) s.heap.objs.size g cdv)=.function;unfold Env.blockKind;have hk:(envOfC d.qual (aj d.st) s.heap.objs.size g cdv).scope.kind=.function:=h1;rw[hk];exact ite_self _
   .obtain⟨C',f,fd',ps',e1,e2,e3,e4,e5,e6,e7,e8⟩:=(err c fs e).ok (P:=P) (w:=w) (base:=base);exact⟨C',f,2,fd',ps',e1,e2,e3,e4,e5,e6,hr.mono (by omega),e7,e8⟩
  exact kU R fn.body h10
 .obtain⟨ws,h,ι,hr',rr,p⟩:=hsp;unfold Tw.bg at p;by_cases c:ws.length=fn.ps
  .rw[if_pos c] at p;refine⟨_,h,ι,Cn (K:=⟨K,mg,E⟩) (N:=d.N) hr' rr (by rw[<-rr.length,c,h8];exact hpl),?_⟩;rw[show d.N.length-ws.length=fn.ns-fn.ps by rw[h9,c]];cases e:Tw.au C fn.body (ws.map some++List.replicate (fn.ns-fn.ps) none) h with
   |bad=>rw[e] at p;exact p.elim
   |aD=>rw[e] at p;exact p
   |ok fl h'=>
    rw[e] at p;cases fl with
    |next ρ=>exact fun ι' H' σ' ex a=>p ι' H' .ah ex a.hr .ah
    |ret u=>exact p
    |brk ρ=>exact p.elim
    |cont ρ=>exact p.elim
  .rw[if_neg c] at p;exact p.elim
def jm(cf:Cfg):List aT->List Tw.Fn->Bool
 |[],[]=>true
 |d::ds,f::fs=>yP cf d f&&jm cf ds fs
 |_,_=>false
theorem rD{cf:Cfg}:∀{ds:List aT}{fs:List Tw.Fn},jm cf ds fs=true->∀{i:Nat}{d:aT},ds[i]?=some d->∃f,fs[i]?=some f/\yP cf d f=true
 |[],[],_,i,d,e=>by simp at e
 |[],_::_,h,_,_,_=>by exact no h
 |_::_,[],h,_,_,_=>by exact no h
 |a::ds,f::fs,h,0,d,e=>by
  rw[jm,Bool.and_eq_true] at h;simp at e;subst e;exact⟨f,rfl,h.1⟩
 |a::ds,f::fs,h,i+1,d,e=>by
  rw[jm,Bool.and_eq_true] at h;obtain⟨f',z1,z2⟩:=rD h.2 (i:=i) (d:=d) (by simpa using e);exact⟨f',by simpa using z1,z2⟩
theorem Fb{Ds:List aT}{T:List Tw.Fn}{tabs:List (Str×List (Tw.S×Nat))}{keys:List (Str×List Tw.S)}{cons:List (Str×Tw.W)}{ia:List (Tw.S×List Tw.S)}(h:jm ⟨Ds.map (·.key),tabs,keys,cons,ia⟩ Ds T=true)(hD:∀d∈Ds,∃g fd,jJ K mg d g fd)(hb:∀x∈cO,mg x=none)
  (hT:∀x g,tabs.lookup x=some g->TabAt K mg (Ds.map (·.key)) x g) (hK:∀x g,keys.lookup x=some g->mO K mg x g) (hC:∀x w,cons.lookup x=some w->pR K mg x w) (hE:∀c fs,ia.lookup c=some fs->lH K mg c fs):
  ∀(k i:Nat)(d:aT),Ds[i]?=some d->∀g fd,jJ K mg d g fd->bU P w K mg base (dG P w) (2 * k+4) g fd d.ps (fk K mg (Tw.run T k i)):=by
 intro k
 induction k with
 |zero=>
  intro i d e g fd D;have bad:∀vs H Q E,¬ fk K mg (Tw.run T 0 i) vs H Q E:=fun vs H Q E Z=>Z.g fun ws Z=>Z.g fun h Z=>Z.g fun ι Z=>Z.g fun hr Z=>Z.g fun rr p=>p.elim;exact⟨fun vs H Q E q=>(bad vs H Q E q).elim,fun A outer s H args us vs Q E _ _ _ _ q=>(bad vs H Q E q).elim⟩
 |succ k ih=>
  intro i d e g fd D;obtain⟨f,z1,z2⟩:=rD h e;have er:Tw.run T (k+1) i=Tw.bg (Tw.run T k) f:=by funext xs hh;show (match T[i]? with|some fn=>Tw.bg (Tw.run T k) fn xs hh|none=>.bad)=_;rw[z1]
  rw[er,show 2 * (k+1)+4=(2 * k+4)+2 by omega];refine Lr D z2 hb (fun j x ex=>?_) hT hK hC hE (by omega);have ex:(Ds.map (·.key))[j]?=some x:=ex;rw[List.getElem?_map] at ex;cases ed:Ds[j]? with
  |none=>rw[ed] at ex;cases ex
  |some d'=>
   rw[ed] at ex;cases ex;obtain⟨g',fd',D'⟩:=hD d' (List.mem_of_getElem? ed);exact⟨g',fd',d'.ps,ih j d' ed g' fd' D',D'.m,D'.F.kp,.all D'.b⟩
end
end TwS
namespace TwS
open PySem PySem.W PyProof.Rows
noncomputable def nC(bt:String->Option Builtin)(p:Program)(w:World)(low:Nat)(nt:Option Value):Nat->SharedT->Thread->Option SharedT
 |0,_,_=>none
 |n+1,s,t=>match through t with
  |true=>some s
  |false=>match stepOk low nt t with
   |false=>none
   |true=>match stepT (denote bt) p w s t with
    |some (s',t')=>nC bt p w low nt n s' t'
    |none=>none
theorem yb{bt:String->Option Builtin}{p:Program}{w:World}{low:Nat}{nt:Option Value}:∀{n:Nat}{s r:SharedT}{t:Thread},nC bt p w low nt n s t=some r->topRun bt p w low nt n s.abs t=some r.abs:=by
 intro n
 induction n with
 |zero=>intro s r t h;cases h
 |succ n ih=>
  intro s r t h;rw[nC] at h;rw[topRun];cases a:through t with
  |true=>rw[a] at h;cases h;rfl
  |false=>
   rw[a] at h;cases b:stepOk low nt t with
   |false=>rw[b] at h;cases h
   |true=>
    rw[b] at h;cases c:stepT (denote bt) p w s t with
    |none=>rw[c] at h;cases h
    |some q=>
     obtain⟨s',t'⟩:=q;rw[c] at h;rw[stepT_spec c];exact ih h
noncomputable def grow:List Obj->BT->Nat->Option (BT×Nat)
 |[],t,n=>some (t,n)
 |o::l,t,n=>match ((t.ins n o).get n).isSome with
  |true=>grow l (t.ins n o) (n+1)
  |false=>none
theorem uj{life:Life}:∀{l:List Obj}{t t':BT}{n n':Nat}{xs:List Obj},(absHeap t n life).objs.toList=xs->grow l t n=some (t',n')->absHeap t' n' life=⟨(xs++l).toArray,life⟩
 |[],t,t',n,n',xs,e,h=>by
  cases h;subst e;show Heap.mk _ _=Heap.mk _ _;simp[absHeap]
 |o::l,t,t',n,n',xs,e,h=>by
  rw[grow] at h;cases c:((t.ins n o).get n).isSome with
  |false=>rw[c] at h;cases h
  |true=>
   rw[c] at h;have z:=uj (life:=life) (xs:=xs++[o]) (by rw[absHeap_ins (life:=life) c];exact (Array.toList_push (xs:=(absHeap t n life).objs) (x:=o)).trans (by rw[e])) h;rw[z,List.append_assoc];rfl
noncomputable def sW{α:Type}(p:Program)(N:Nat)(F:Shared->α)(w:World):Option α:=(fencedOpening treeTable p w N).bind fun aI=>match aI.heap.isNs mainGlobals&&aI.gens.size== 0 with
 |false=>none
 |true=>(grow aI.heap.objs.toList .nil 0).bind fun T=>(nC treeTable p w aI.heap.objs.size (aI.heap.nsMap mainGlobals "__annotations__") N ⟨T.1,T.2,aI.heap.life,aI.gens,aI.drawn,aI.toks,aI.os⟩ (topStub p)).bind fun s₁=>
  match staticsOk (importedModules p.main.body) aI.heap s₁.abs.heap&&namesBound p s₁.abs.heap&&gensDone s₁.abs&&laidKept aI.heap s₁.abs.heap with
   |true=>some (F s₁.abs)
   |false=>none
theorem wZ{α:Type}{p:Program}{N:Nat}{F:Shared->α}{w:World}{r:α}(h:sW p N F w=some r):(openEnds treeTable p w N).map F=some r:=by
 unfold sW at h;unfold openEnds;cases a:fencedOpening treeTable p w N with
 |none=>rw[a] at h;cases h
 |some aI=>
  rw[a] at h;simp only[Option.bind_some] at h⊢;unfold topFrom;cases b:(aI.heap.isNs mainGlobals&&aI.gens.size== 0) with
  |false=>rw[b] at h;cases h
  |true=>
   rw[b] at h;dsimp only at h⊢;cases c:grow aI.heap.objs.toList .nil 0 with
   |none=>rw[c] at h;cases h
   |some T=>
    rw[c] at h;simp only[Option.bind_some] at h;obtain⟨s₁,e1,e2⟩:=Option.bind_eq_some_iff.mp h;have z:=uj (life:=aI.heap.life) (xs:=[]) (by rfl) c;have e3:=yb e1;have ea:(⟨T.1,T.2,aI.heap.life,aI.gens,aI.drawn,aI.toks,aI.os⟩:SharedT).abs=aI:=by show Shared.mk _ _ _ _ _=_;rw[z];simp
    rw[ea] at e3;rw[e3];simp only[Option.bind_some];cases d:(staticsOk (importedModules p.main.body) aI.heap s₁.abs.heap&&namesBound p s₁.abs.heap&&gensDone s₁.abs&&laidKept aI.heap s₁.abs.heap) with
    |false=>rw[d] at e2;cases e2
    |true=>rw[d] at e2;cases e2;rfl
end TwS
namespace TwS
open PySem L2 PyProof.Rows
theorem aM{K:PySem.W.Frag}{h:Heap}{mg:Str->Option Value}{x:Str}{st:Stmt}{N ps:List Str}{f:Addr}{od an:Option Addr}{sl:Array (Option Value)}{oc kV dc pm cd ct:Value}(X:K.In h)(G:h.Ns mainGlobals mg)(l:K.lookup f=some ⟨oc,od,.func (PySem.W.fnOf x x (cD st) (bR st) (aj st) .none kV dc pm an cd ct),sl⟩)(b:∀(kV doc pm:Value)(an:Option Addr)(cdv ct:Value)(us:List Value),us.length=ps.length->bindArgs (PySem.W.fnOf x x (cD st) (bR st) (aj st) .none kV doc pm an cdv ct) ⟨us,[]⟩=pure (ps.zip us))(a:PySem.W.nsIn K mainGlobals x=some (some (.ref f)):=by kernel_rfl)(c:PySem.W.codeIn K cd x=true:=by kernel_rfl)(k:PySem.W.keepIn K (.ref f)=true:=by kernel_rfl):
  ∃g fd,jJ K mg ⟨.fn x,x,x,st,N,ps⟩ g fd:=
 have F:=mq (st:=st) l c k
 ⟨f,_,F,PySem.W.mg_of X G a,fun us hl=>b _ _ _ _ _ _ us hl⟩
theorem Q2{P:List Value->Prop}(h:P []):∀us:List Value,us.length=0->P us:=fun us hl=>by cases us with|nil=>exact h|cons _ _=>cases hl
theorem nV{P:List Value->Prop}(h:∀a0,P [a0]):∀us:List Value,us.length=1->P us:=fun us hl=>by cases us with|nil=>cases hl|cons a r=>exact Q2 (P:=fun r=>P (a::r)) (h a) r (Nat.succ.inj hl)
theorem jK{P:List Value->Prop}(h:∀a0 a1,P [a0,a1]):∀us:List Value,us.length=2->P us:=fun us hl=>by cases us with|nil=>cases hl|cons a r=>exact nV (P:=fun r=>P (a::r)) (fun b0=>h a b0) r (Nat.succ.inj hl)
theorem gP{P:List Value->Prop}(h:∀a0 a1 a2,P [a0,a1,a2]):∀us:List Value,us.length=3->P us:=fun us hl=>by cases us with|nil=>cases hl|cons a r=>exact jK (P:=fun r=>P (a::r)) (fun b0 b1=>h a b0 b1) r (Nat.succ.inj hl)
theorem lY{P:List Value->Prop}(h:∀a0 a1 a2 a3,P [a0,a1,a2,a3]):∀us:List Value,us.length=4->P us:=fun us hl=>by cases us with|nil=>cases hl|cons a r=>exact gP (P:=fun r=>P (a::r)) (fun b0 b1 b2=>h a b0 b1 b2) r (Nat.succ.inj hl)
theorem Bv{P:List Value->Prop}(h:∀a0 a1 a2 a3 a4,P [a0,a1,a2,a3,a4]):∀us:List Value,us.length=5->P us:=fun us hl=>by cases us with|nil=>cases hl|cons a r=>exact lY (P:=fun r=>P (a::r)) (fun b0 b1 b2 b3=>h a b0 b1 b2 b3) r (Nat.succ.inj hl)
theorem G6{P:List Value->Prop}(h:∀a0 a1 a2 a3 a4 a5,P [a0,a1,a2,a3,a4,a5]):∀us:List Value,us.length=6->P us:=fun us hl=>by cases us with|nil=>cases hl|cons a r=>exact Bv (P:=fun r=>P (a::r)) (fun b0 b1 b2 b3 b4=>h a b0 b1 b2 b3 b4) r (Nat.succ.inj hl)
theorem Ro{P:List Value->Prop}(h:∀a0 a1 a2 a3 a4 a5 a6,P [a0,a1,a2,a3,a4,a5,a6]):∀us:List Value,us.length=7->P us:=fun us hl=>by cases us with|nil=>cases hl|cons a r=>exact G6 (P:=fun r=>P (a::r)) (fun b0 b1 b2 b3 b4 b5=>h a b0 b1 b2 b3 b4 b5) r (Nat.succ.inj hl)
theorem oZ{β:Type}{P:Str->β->Prop}:∀x g,([]:List (Str×β)).lookup x=some g->P x g:=fun _ _ e=>nomatch e
theorem gr{β:Type}{P:Str->β->Prop}{y:Str}{b:β}{r:List (Str×β)}(h:P y b)(k:∀x g,r.lookup x=some g->P x g):∀x g,((y,b)::r).lookup x=some g->P x g:=by
 intro x g e;rw[List.lookup_cons] at e;cases c:x== y with
 |true=>rw[c] at e;cases e;rw[show x=y by simpa using c];exact h
 |false=>rw[c] at e;exact k x g e
noncomputable def clsAt(s:Stmt)(j:Nat):Stmt:=match s with
 |.ClassDef _ _ _ b _ _ _ _ _ _ _=>b.getD j (.Pass ⟨0,0,0,0⟩)
 |s=>s
theorem qK{K:PySem.W.Frag}{C:Addr}(g1:PySem.W.plainGet K C Str.empty=true:=by kernel_rfl)(g2:PySem.W.hasDictIn K C=true:=by kernel_rfl)(g3:PySem.W.plainOver K C=true:=by kernel_rfl)(g4:PySem.W.findIn K (.ref C) "__setattr__" = some (some (.builtin "object.__setattr__")):=by kernel_rfl)(a0:PySem.W.findIn K (.ref C) "shelf" = some none:=by kernel_rfl)(a1:PySem.W.findIn K (.ref C) "free" = some none:=by kernel_rfl)(a2:PySem.W.findIn K (.ref C) "needs" = some none:=by kernel_rfl)(a3:PySem.W.findIn K (.ref C) "bound" = some none:=by kernel_rfl)(a4:PySem.W.findIn K (.ref C) "definitions" = some none:=by kernel_rfl)(a5:PySem.W.findIn K (.ref C) "numbers" = some none:=by kernel_rfl)(a6:PySem.W.findIn K (.ref C) "kind" = some none:=by kernel_rfl)(a7:PySem.W.findIn K (.ref C) "core" = some none:=by kernel_rfl)(a8:PySem.W.findIn K (.ref C) "whole_kind" = some none:=by kernel_rfl)(a9:PySem.W.findIn K (.ref C) "part" = some none:=by kernel_rfl)(a10:PySem.W.findIn K (.ref C) "around" = some none:=by kernel_rfl):GoodC K C:=by refine⟨⟨g1,g2,g3,g4⟩,?_⟩;unfold wQ;simp only[List.forall_mem_cons];exact⟨a0,a1,a2,a3,a4,a5,a6,a7,a8,a9,a10,fun _ h=>nomatch h⟩
theorem qE{K:PySem.W.Frag}{h:Heap}{mg:Str->Option Value}{cn:Tw.S}{qual:Str}{st:Stmt}{N ps:List Str}{C f:Addr}{od an:Option Addr}{sl:Array (Option Value)}{oc kV dc pm cd ct:Value}(X:K.In h)(G:h.Ns mainGlobals mg)(l:K.lookup f=some ⟨oc,od,.func (PySem.W.fnOf "__init__" qual (cD st) (bR st) (aj st) .none kV dc pm an cd ct),sl⟩)(g:GoodC K C)(b:∀(kV doc pm:Value)(an:Option Addr)(cdv ct:Value)(us:List Value),us.length=ps.length->bindArgs (PySem.W.fnOf "__init__" qual (cD st) (bR st) (aj st) .none kV doc pm an cdv ct) ⟨us,[]⟩=pure (ps.zip us))(a:PySem.W.nsIn K mainGlobals ⟨cn.toArray⟩=some (some (.ref C)):=by kernel_rfl)(m2:PySem.W.findIn K (.ref C) "__init__" = some (some (.ref f)):=by kernel_rfl)(c:PySem.W.codeIn K cd qual=true:=by kernel_rfl)(k:PySem.W.keepIn K (.ref f)=true:=by kernel_rfl)(m1:PySem.W.makesIn K C=true:=by kernel_rfl)(m3:PySem.W.isFn K (.ref f)=true:=by kernel_rfl)(m4:PySem.W.keepIn K (.ref C)=true:=by kernel_rfl):
  ∃g fd,jJ K mg ⟨.me cn fJ, "__init__",qual,st,N,ps⟩ g fd:=
 have F:=mq (st:=st) l c k
 ⟨f,_,F,⟨C,PySem.W.mg_of X G a,g,fun _=>⟨m1,m2,m3,m4⟩,fun z=>absurd rfl z⟩,fun us hl=>b _ _ _ _ _ _ us hl⟩
theorem j0{K:PySem.W.Frag}{h:Heap}{mg:Str->Option Value}{cn mn:Tw.S}{name qual:Str}{st:Stmt}{N ps:List Str}{C f:Addr}{od an:Option Addr}{sl:Array (Option Value)}{oc kV dc pm cd ct:Value}(X:K.In h)(G:h.Ns mainGlobals mg)(l:K.lookup f=some ⟨oc,od,.func (PySem.W.fnOf name qual (cD st) (bR st) (aj st) .none kV dc pm an cd ct),sl⟩)(g:GoodC K C)(b:∀(kV doc pm:Value)(an:Option Addr)(cdv ct:Value)(us:List Value),us.length=ps.length->bindArgs (PySem.W.fnOf name qual (cD st) (bR st) (aj st) .none kV doc pm an cdv ct) ⟨us,[]⟩=pure (ps.zip us))(a:PySem.W.nsIn K mainGlobals ⟨cn.toArray⟩=some (some (.ref C)):=by kernel_rfl)(m2:PySem.W.findIn K (.ref C) ⟨mn.toArray⟩=some (some (.ref f)):=by kernel_rfl)(c:PySem.W.codeIn K cd qual=true:=by kernel_rfl)(k:PySem.W.keepIn K (.ref f)=true:=by kernel_rfl)(m3:PySem.W.isFn K (.ref f)=true:=by kernel_rfl)(ni:mn≠fJ:=by decide):
  ∃g fd,jJ K mg ⟨.me cn mn,name,qual,st,N,ps⟩ g fd:=
 have F:=mq (st:=st) l c k
 ⟨f,_,F,⟨C,PySem.W.mg_of X G a,g,fun z=>absurd z ni,fun _=>⟨m2,m3,k⟩⟩,fun us hl=>b _ _ _ _ _ _ us hl⟩
inductive lG(K:PySem.W.Frag):List DictEntry->List (Tw.S×Str)->Prop
 |nil:lG K [] []
 |cons {hash:Int}{tk:Tok}{a:Addr}{s:Tw.S}{y:Str}{es:List DictEntry}{l:List (Tw.S×Str)}:PySem.W.nsIn K mainGlobals y=some (some (.ref a))->lG K es l->lG K (⟨hash,.str ⟨s.toArray⟩ tk,.ref a⟩::es) ((s,y)::l)
noncomputable def oR(es:List DictEntry):List (Str×Addr):=es.map fun e=>(match e.key with | .str x _=>x|_=> "",match e.val with | .ref a=>a|_=>0)
theorem EU{K:PySem.W.Frag}{es:List DictEntry}{l:List (Tw.S×Str)}(h:lG K es l):KTD.Rows (fun d v=>v=Value.ref d) es (oR es):=by
 induction h with
 |nil=>exact .nil
 |cons _ _ ih=>exact .cons rfl rfl ih
theorem vN{K:PySem.W.Frag}{h:Heap}{mg:Str->Option Value}(X:K.In h)(G:h.Ns mainGlobals mg){es:List DictEntry}{l:List (Tw.S×Str)}(r:lG K es l):∀{s:Tw.S}{y:Str},l.lookup s=some y->∃ga,mg y=some (.ref ga)/\KTD.datumAt (⟨s.toArray⟩:Str) (oR es)=some ga:=by
 induction r with
 |nil=>intro s y e;simp at e
 | @cons hash tk a s' y' es l h1 _ ih=>
  intro s y el;rw[List.lookup_cons] at el;show ∃ga,mg y=some (.ref ga)/\(if decide ((⟨s.toArray⟩:Str)=⟨s'.toArray⟩)=true then some a else KTD.datumAt (⟨s.toArray⟩:Str) (oR es))=some ga;by_cases c:s=s'
  .subst c;simp only[beq_self_eq_true] at el;cases el;exact⟨a,PySem.W.mg_of X G h1,by simp⟩
  .rw[beq_eq_false_iff_ne.mpr c] at el;obtain⟨ga,q1,q2⟩:=ih el;exact⟨ga,q1,by rw[if_neg (by simpa using fun z=>c (str_inj.mp z))];exact q2⟩
theorem Bw{K:PySem.W.Frag}{es:List DictEntry}{l:List (Tw.S×Str)}(r:lG K es l)(s:Tw.S):KTD.inKeys (⟨s.toArray⟩:Str) (oR es)=(l.map (·.1)).contains s:=by
 induction r with
 |nil=>rfl
 | @cons hash tk a s' y' es l h1 _ ih=>
  show (decide ((⟨s.toArray⟩:Str)=⟨s'.toArray⟩) || KTD.inKeys (⟨s.toArray⟩:Str) (oR es))=_;rw[ih,List.map_cons,List.contains_cons]
  congr 1
  by_cases c:s=s'
  .subst c;simp
  .rw[beq_eq_false_iff_ne.mpr c];simpa using fun z=>c (str_inj.mp z)
noncomputable def G8(fns:List Fk)(g:List (Tw.S×Nat))(l:List (Tw.S×Str)):Bool:=g.all fun p=>match l.lookup p.1 with
 |some y=>decide (fns[p.2]?=some (.fn y))
 |none=>false
theorem tQ{s:Tw.S}{f:Nat}:∀{g:List (Tw.S×Nat)},g.lookup s=some f->(s,f)∈g
 |[],e=>by simp at e
 |(a,b)::g,e=>by
  rw[List.lookup_cons] at e;cases c:s== a with
  |true=>
   rw[c] at e;cases e;have:s=a:=by simpa using c
   subst this;exact List.mem_cons_self
  |false=>rw[c] at e;exact List.mem_cons_of_mem _ (tQ e)
theorem BD{fns:List Fk}{g:List (Tw.S×Nat)}{l:List (Tw.S×Str)}(h:G8 fns g l=true){s:Tw.S}{f:Nat}(e:g.lookup s=some f):∃y,l.lookup s=some y/\fns[f]?=some (.fn y):=by
 have m:=tQ e;have z:=(List.all_eq_true.mp h) _ m;dsimp only at z;cases q:l.lookup s with
 |none=>rw[q] at z;exact no z
 |some y=>rw[q] at z;exact⟨y,rfl,by simpa using z⟩
theorem zc{K:PySem.W.Frag}{h:Heap}{mg:Str->Option Value}{x:Str}{t:Addr}{od:Option Addr}{es:Array DictEntry}{ep:Nat}{sl:Array (Option Value)}{fns:List Fk}{g:List (Tw.S×Nat)}{ks:List Tw.S}(l:List (Tw.S×Str))(X:K.In h)(G:h.Ns mainGlobals mg)
  (a:PySem.W.nsIn K mainGlobals x=some (some (.ref t))) (lk:K.lookup t=some ⟨.type "dict",od,.dict es ep,sl⟩) (ex:(⟨.type "dict",od,.dict es ep,sl⟩:Obj).ExactDict) (hs:(t== sysModules)=false) (r:lG K es.toList l) (n:G8 fns g l=true) (nk:ks=l.map (·.1)):TabAt K mg fns x g/\mO K mg x ks:=by
 have T:lr K t (oR es.toList):=fun h' X'=>⟨hs,_,es,ep,X' _ _ lk,ex,rfl,EU r⟩;refine⟨⟨t,oR es.toList,PySem.W.mg_of X G a,T,fun s f e=>?_⟩,t,_,PySem.W.mg_of X G a,T,fun s=>by rw[Bw r,nk]⟩;obtain⟨y,q1,q2⟩:=BD n e;obtain⟨ga,q3,q4⟩:=vN X G r q1;exact⟨y,ga,q2,q3,q4⟩
theorem zo{K:PySem.W.Frag}{h:Heap}{mg:Str->Option Value}{x:Str}{t:Addr}{od:Option Addr}{z:Tw.S}{tk:Tok}{n:Nat}{sl:Array (Option Value)}(X:K.In h)(G:h.Ns mainGlobals mg)
  (a:PySem.W.nsIn K mainGlobals x=some (some (.ref t))) (lk:K.lookup t=some ⟨.type "tuple",od,.seq #[.str ⟨z.toArray⟩ tk] n,sl⟩) (hz:z.all (fun c=>decide (c<0x110000))=true):pR K mg x (.tup [.str z]):=by
 refine⟨.ref t,.ref t,PySem.W.mg_of X G a,rfl,fun ι n' H=>.tup (xs:=[.str ⟨z.toArray⟩]) (.inr ⟨_,_,n,lk,rfl,rfl,by show 1<=sizeLine;rw[sizeLine_eq];decide,.cons ⟨tk,rfl⟩ .nil⟩) (.cons (.str z ?_) .nil)⟩;intro c hc;have:=(List.all_eq_true.mp hz) c hc;simpa using this
theorem Jc{K:PySem.W.Frag}{h:Heap}{mg:Str->Option Value}(X:K.In h)(G:h.Ns mainGlobals mg)(z0:PySem.W.nsIn K mainGlobals "len" = some none:=by kernel_rfl)(z1:PySem.W.nsIn K mainGlobals "list" = some none:=by kernel_rfl)(z2:PySem.W.nsIn K mainGlobals "tuple" = some none:=by kernel_rfl)(z3:PySem.W.nsIn K mainGlobals "dict" = some none:=by kernel_rfl)(z4:PySem.W.nsIn K mainGlobals "int" = some none:=by kernel_rfl)(z5:PySem.W.nsIn K mainGlobals "str" = some none:=by kernel_rfl)(z6:PySem.W.nsIn K mainGlobals "bool" = some none:=by kernel_rfl)(z7:PySem.W.nsIn K mainGlobals "isinstance" = some none:=by kernel_rfl)(z8:PySem.W.nsIn K mainGlobals "range" = some none:=by kernel_rfl)(z9:PySem.W.nsIn K mainGlobals "zip" = some none:=by kernel_rfl)(z10:PySem.W.nsIn K mainGlobals "enumerate" = some none:=by kernel_rfl)(z11:PySem.W.nsIn K mainGlobals "reversed" = some none:=by kernel_rfl):∀x∈cO,mg x=none:=by unfold cO;simp only[List.forall_mem_cons];exact⟨PySem.W.mg_none_of X G z0,PySem.W.mg_none_of X G z1,PySem.W.mg_none_of X G z2,PySem.W.mg_none_of X G z3,PySem.W.mg_none_of X G z4,PySem.W.mg_none_of X G z5,PySem.W.mg_none_of X G z6,PySem.W.mg_none_of X G z7,PySem.W.mg_none_of X G z8,PySem.W.mg_none_of X G z9,PySem.W.mg_none_of X G z10,PySem.W.mg_none_of X G z11,fun _ h=>nomatch h⟩
theorem Jz{K:PySem.W.Frag}{h:Heap}{mg:Str->Option Value}{c:Tw.S}{fs:List Tw.S}{C f R g:Addr}{sf sb r qual gq p:Str}{ps:List Str}{st gs:Stmt}{od an od' an':Option Addr}{sl sl':Array (Option Value)}{oc kV dc pm cd ct oc' kV' dc' pm' cd' ct':Value}(X:K.In h)(G:h.Ns mainGlobals mg)
  (a:PySem.W.nsIn K mainGlobals (str c)=some (some (.ref C))) (M:tN K C f) (xc:XC K C) (na:∀g∈fs.map str,bh K C g) (ex:PySem.W.exmOne K (.ref C) (.ref C)=some true)
  (l:K.lookup f=some ⟨oc,od,.func (PySem.W.fnOf "__init__" qual (cD st) (bR st) (aj st) .none kV dc pm an cd ct),sl⟩) (c1:PySem.W.codeIn K cd qual=true) (k1:PySem.W.keepIn K (.ref f)=true)
  (b1:∀(kV doc pm:Value)(an:Option Addr)(cdv ct:Value)(us:List Value),us.length=(sf::fs.map str).length->bindArgs (PySem.W.fnOf "__init__" qual (cD st) (bR st) (aj st) .none kV doc pm an cdv ct) ⟨us,[]⟩=pure ((sf::fs.map str).zip us))
  (hl:fs.length<=100) (ef:fs.map str=p::ps) (cB:yq r st (sf::fs.map str)=true) (ar:PySem.W.nsIn K mainGlobals r=some (some (.ref R))) (B:m7 K R g)
  (l':K.lookup g=some ⟨oc',od',.func (PySem.W.fnOf "__init__" gq (cD gs) (bR gs) (aj gs) .none kV' dc' pm' an' cd' ct'),sl'⟩) (c2:PySem.W.codeIn K cd' gq=true) (cA:uP gs [sb,p]=true)
  (b2:∀(kV doc pm:Value)(an:Option Addr)(cdv ct:Value)(us:List Value),us.length=2->bindArgs (PySem.W.fnOf "__init__" gq (cD gs) (bR gs) (aj gs) .none kV doc pm an cdv ct) ⟨us,[]⟩=pure ([sb,p].zip us)):lH K mg c fs:=
 ⟨C,f,_,sf,_,qual,st,PySem.W.mg_of X G a,M,xc,na,ex,mq (st:=st) l c1 k1,.all (b1 _ _ _ _ _ _),hl,.inr ⟨r,R,g,_,_,gq,gs,sb,p,ps,ef,cB,PySem.W.mg_of X G ar,B,mq (st:=gs) l' c2 B.kp,cA,.all (b2 _ _ _ _ _ _)⟩⟩
theorem B8{P:Tw.S->List Tw.S->Prop}:∀c fs,([]:List (Tw.S×List Tw.S)).lookup c=some fs->P c fs:=fun _ _ e=>nomatch e
theorem Av{P:Tw.S->List Tw.S->Prop}{y:Tw.S}{b:List Tw.S}{r:List (Tw.S×List Tw.S)}(h:P y b)(k:∀c fs,r.lookup c=some fs->P c fs):∀c fs,((y,b)::r).lookup c=some fs->P c fs:=by
 intro x g e;rw[List.lookup_cons] at e;cases c:x== y with
 |true=>rw[c] at e;cases e;rw[show x=y by simpa using c];exact h
 |false=>rw[c] at e;exact k x g e
theorem t7{K:PySem.W.Frag}{ι:Nat->Addr}{n:Nat}{H:L2.Hp}:∀ns:List Int,aL K ι n H (ns.map Tw.W.int) (ns.map V.int)
 |[]=>.nil
 |i::r=>.cons (.int i) (t7 r)
theorem BN{T:List Tw.Fn}{Ds:List aT}{tabs:List (Str×List (Tw.S×Nat))}{keys:List (Str×List Tw.S)}{cons:List (Str×Tw.W)}{ia:List (Tw.S×List Tw.S)}{i k:Nat}{st:Stmt}{N:List Str}{l:PySem.W.OpenLaw}{q:Program}{loose:List Str}{XP:(Str->Option Value)->Heap->Prop}{YP:World->Heap->Prop}{d:DefRec}{K:Params->PySem.W.Frag}{x:Str}
  (hc:jm ⟨Ds.map (·.key),tabs,keys,cons,ia⟩ Ds T=true) (hi:Ds[i]?=some ⟨.fn "law", "law", "law",st,N,[x]⟩) (hn:l.most=some 63) (hdf:d.params.defaults=[])
  (hY:∀(w:World)(h:Heap),YP w h->(K w.params).In h) (hd:d.name= "law")
  (F:∀(w:World)(mg:Str->Option Value)(h:Heap),(K w.params).In h->h.Ns mainGlobals mg->(∀d∈Ds,∃g fd,jJ (K w.params) mg d g fd)/\(∀x∈cO,mg x=none)/\(∀x g,tabs.lookup x=some g->TabAt (K w.params) mg (Ds.map (·.key)) x g)/\(∀x g,keys.lookup x=some g->mO (K w.params) mg x g)/\(∀x w',cons.lookup x=some w'->pR (K w.params) mg x w')/\∀c fs,ia.lookup c=some fs->lH (K w.params) mg c fs)
  (hr:bI (2 * k+4) callerA) (law:∀ns:List Int,ns.length<=63->∃h',Tw.run T k i [.ref 0] [.bE (ns.map .int)]=.ok (.bl true) h'):
  PySem.W.WalkO q loose XP YP l.row.toRowW d [] (fun f vs=>PySem.call f vs):=by
 refine L2.FK (n:=63) (k:=2 * k+4) (x:=x) (K:=K) (CX:=fun w=>dG l.prog w) (sp:=fun w vs H Q E=>∃(ns:List Int) (a:Addr),ns.length<=63/\vs=[.ref a]/\rK (K w.params) H a (ns.map V.int)/\∀H',Q (.bl true) H') hn (by decide) hdf hr hY (fun w mg fa h KX G hmg=>?_) (fun w H a ns hl hO hS=>?_) fun w H s e s' z=>dG.never _ _ _ _ _ z
 .obtain⟨hD,hb,hT,hK,hC,hE⟩:=F w mg h KX G;obtain⟨g,fd,D⟩:=hD _ (List.mem_of_getElem? hi);rw[hd] at hmg;have dm:mg "law" = some (.ref g):=D.m;have e:Value.ref fa=Value.ref g:=Option.some.inj (hmg.symm.trans dm);cases e;refine⟨fd,fun s u=>?_,fun base _ _=>(Fb hc hD hb hT hK hC hE k i _ hi _ fd D).imp fun vs H Q E Z=>Z.g4 fun ns a hl ev Z=>Z.g fun sq q=>?_⟩
  .exact .of_eq (D.b [u] rfl)
  .subst ev;obtain⟨h',e⟩:=law ns hl;refine⟨[.ref 0],[.bE (ns.map .int)],fun _=>a,⟨fun j o ej=>?_,fun j j' o u ej ej' m=>?_⟩,.cons (.ref (by simp)) .nil,?_⟩
   .cases j with
    |zero=>simp at ej;subst ej;exact⟨_,sq,t7 ns⟩
    |succ j=>simp at ej
   .cases j with
    |zero=>simp at ej;subst ej;cases m
    |succ j=>simp at ej
   .rw[e];intro ι' H' b _ _ r;cases r;exact q H'
 .refine⟨ns,a,hl,rfl,?_,fun _=>rfl⟩;rcases hS with (h|h)|h
  .rcases hO a with z|⟨o,xs,z⟩
   .rw[h] at z;cases z
   .rw[h] at z;cases z
  .exact .inl h
  .exact .inr h
end TwS
namespace Tw
theorem aF{h:Hp}{a:Nat}{o:O}(x:List O)(e:h[a]?=some o):(h++x)[a]?=some o:=by
 have:a<h.length:=by
  rcases Nat.lt_or_ge a h.length with q|q
  .exact q
  .rw[List.getElem?_eq_none q] at e;cases e
 rw[List.getElem?_append_left this];exact e
theorem bF{h:Hp}{a:Nat}{o:O}(e:h[a]?=some o):a<h.length:=by
 rcases Nat.lt_or_ge a h.length with q|q
 .exact q
 .rw[List.getElem?_eq_none q] at e;cases e
@[simp] theorem dY(h:Hp)(o:O):(h++[o])[h.length]?=some o:=by simp
theorem aS{h:Hp}{a b:Nat}{o u:O}(n:a≠b)(e:h[b]?=some u):(h.set a o)[b]?=some u:=by rw[List.getElem?_set_ne n];exact e
theorem aV{h:Hp}{a:Nat}{o u:O}(e:h[a]?=some u):(h.set a o)[a]?=some o:=by rw[List.getElem?_set_self (bF e)]
structure Ext(p:Nat)(h h':Hp):Prop where
 len:h.length<=h'.length
 keep:∀q o,h[q]?=some o->q≠p->h'[q]?=some o
theorem Ext.refl(p:Nat)(h:Hp):Ext p h h:=⟨Nat.le_refl _,fun _ _ e _=>e⟩
theorem Ext.trans{p:Nat}{h h1 h2:Hp}(a:Ext p h h1)(b:Ext p h1 h2):Ext p h h2:=
 ⟨Nat.le_trans a.len b.len,fun q o e n=>b.keep q o (a.keep q o e n) n⟩
theorem Ext.app(p:Nat)(h:Hp)(x:List O):Ext p h (h++x):=⟨by simp,fun _ _ e _=>aF x e⟩
theorem Ext.set(p:Nat)(h:Hp)(o:O):Ext p h (h.set p o):=⟨by simp,fun _ _ e n=>aS (Ne.symm n) e⟩
section
variable {C:Or}{σ σ':Env}{h h' h2:Hp}{s:St}{r a b:List St}{c:E}{w:W}{i:Nat}{z:R Fl}
theorem ax(e:aW C s σ h=.ok (.next σ') h')(k:au C r σ' h'=z):au C (s::r) σ h=z:=by rw[bj,e];exact k
theorem Aa(e:aW C s σ h=.ok (.ret w) h'):au C (s::r) σ h=.ok (.ret w) h':=by rw[bj,e];rfl
theorem aw(e:ae C c σ h=.ok w h')(k:au C r (σ.set i (some w)) h'=z):au C (.set i c::r) σ h=z:=by rw[bj,xi,e];exact k
theorem aE(e:ae C c σ h=.ok w h'):au C (.ret c::r) σ h=.ok (.ret w) h':=by rw[bj,ki,e];rfl
theorem aP(e:ae C c σ h=.ok (.bl false) h')(k:au C r σ h'=z):au C (.iff c a []::r) σ h=z:=by rw[bj,ig,e];show (au C [] σ h').bind _=_;rw[aK];exact k
theorem jB(e:ae C c σ h=.ok (.bl true) h')(k:au C a σ h'=.ok (.ret w) h2):au C (.iff c a b::r) σ h=.ok (.ret w) h2:=by rw[bj,ig,e];show (au C a σ h').bind _=_;rw[k];rfl
theorem qh{h3:Hp}(e:ae C c σ h=.ok (.bl true) h')(k1:au C a σ h'=.ok (.next σ') h3)(k:au C r σ' h3=z):au C (.iff c a b::r) σ h=z:=by rw[bj,ig,e];show (au C a σ h').bind _=_;rw[k1];exact k
theorem dr{j:Nat}{u v:W}(e:ae C c σ h=.ok (.tup [u,v]) h')(k:au C r ((σ.set i (some u)).set j (some v)) h'=z):au C (.eS i j c::r) σ h=z:=by rw[bj,oS,e];exact k
theorem aQ{f:Fn}{xs:List W}(σ:Env)(l:xs.length=f.ps)(eσ:xs.map some++List.replicate (f.ns-f.ps) none=σ)(e:au C f.body σ h=.ok (.ret w) h'):bg C f xs h=.ok w h':=by unfold bg;rw[if_pos l,eσ,e];rfl
theorem jf{f:Fn}{xs:List W}(σ:Env)(l:xs.length=f.ps)(eσ:xs.map some++List.replicate (f.ns-f.ps) none=σ)(e:au C f.body σ h=.ok (.next σ') h'):bg C f xs h=.ok .ah h':=by unfold bg;rw[if_pos l,eσ,e];rfl
end
theorem uU(h:Hp)(n:Nat):∀ns:List Int,iW h n (ns.map W.int)=some (ns.map W.int)
 |[]=>by simp[iW]
 |x::r=>by simp[iW,rd,uU h n r]
structure Gen(p:Nat)(h:Hp):Prop where
 ex:∃(a c:Int) (l:Nat) (ns:List Int),h[p]?=some (.lst [.int a,.ref l,.int c])/\h[l]?=some (.lst (ns.map W.int))/\l<p
theorem Gen.ext{p:Nat}{h:Hp}(g:Gen p h)(x:List O):Gen p (h++x):=by obtain⟨a,c,l,ns,e1,e2,e3⟩:=g.ex;exact⟨a,c,l,ns,aF x e1,aF x e2,e3⟩
noncomputable def By:Fn:=⟨2,3,[
 .set 2 (.ite (.cmp .ne (.idx (.var 0) (.cst (.int 1))) (.lst .nil)) (.idx (.idx (.var 0) (.cst (.int 1))) (.bin .mod (.idx (.var 0) (.cst (.int 2))) (.blt .len (.idx (.var 0) (.cst (.int 1)))))) (.cst (.int 0))),
 .put (.var 0) (.cst (.int 0)) (.bin .mod (.bin .add (.bin .add (.bin .mul (.idx (.var 0) (.cst (.int 0))) (.cst (.int 48271))) (.bin .mul (.var 2) (.cst (.int 69621)))) (.cst (.int 11))) (.cst (.int 2147483647))),
 .put (.var 0) (.cst (.int 2)) (.bin .add (.idx (.var 0) (.cst (.int 2))) (.cst (.int 1))),
 .ret (.bin .mod (.bin .fdiv (.idx (.var 0) (.cst (.int 0))) (.cst (.int 7))) (.var 1))]⟩
theorem dw{α:Type}(xs:List α)(i:Nat)(h:i<xs.length):bG xs (i:Int)=some xs[i]:=by
 have e1:(0:Int)<=(i:Int):=by omega
 have e2:(i:Int)<(xs.length:Int):=by omega
 simp[bG,gu,e1,e2,List.getElem?_eq_getElem h]
theorem Fe{α:Type}(xs:List α)(c:Int)(h:0<xs.length):∃x,x∈xs/\bG xs (c % (xs.length:Int))=some x:=by
 have e1:0<=c % (xs.length:Int):=Int.emod_nonneg _ (by omega);have e2:c % (xs.length:Int)<(xs.length:Int):=Int.emod_lt_of_pos _ (by omega);have e3:(c % (xs.length:Int)).toNat<xs.length:=by omega
 refine⟨xs[(c % (xs.length:Int)).toNat],List.getElem_mem _,?_⟩;have:=dw xs _ e3;rw[show (((c % (xs.length:Int)).toNat:Nat):Int)=c % (xs.length:Int) by omega] at this;exact this
@[simp] theorem Dy{α:Type}(x:α)(xs:List α):bG (x::xs) 0=some x:=by
 have:((0:Nat):Int)<((xs.length:Int)+1):=by omega
 simp[bG,gu]
@[simp] theorem Rm{α:Type}(x y:α)(xs:List α):bG (x::y::xs) 1=some y:=by have:=dw (x::y::xs) 1 (by simp);simpa using this
@[simp] theorem Lf{α:Type}(x y z:α)(xs:List α):bG (x::y::z::xs) 2=some z:=by have:=dw (x::y::z::xs) 2 (by simp);simpa using this
@[simp] theorem Qf:gu 3 0=some 0:=rfl
@[simp] theorem Qc:gu 3 2=some 2:=rfl
@[simp] theorem OX:small 48271=true:=by decide
@[simp] theorem Pg:small 69621=true:=by decide
theorem Fv{C:Or}{p:Nat}{h:Hp}(g:Gen p h){m:Int}(hm:0<m):
  ∃v h',bg C By [.ref p,.int m] h=.ok (.int v) h'/\0<=v/\v<m/\Ext p h h'/\Gen p h':=by
 obtain⟨a,c,l,ns,e1,e2,e3⟩:=g.ex;have f1:=aF [O.lst []] e1;have f2:=aF [O.lst []] e2;have key:∃x:Int,ae C (.ite (.cmp .ne (.idx (.var 0) (.cst (.int 1))) (.lst .nil)) (.idx (.idx (.var 0) (.cst (.int 1))) (.bin .mod (.idx (.var 0) (.cst (.int 2))) (.blt .len (.idx (.var 0) (.cst (.int 1)))))) (.cst (.int 0)))
   [some (.ref p),some (.int m),none] h=.ok (.int x) (h++[O.lst []]):=by
  cases ns with
  |nil=>
   refine⟨0,?_⟩;simp[e1,f2,cm,bP]
  |cons n r=>
   obtain⟨x,hx,ex⟩:=Fe ((n::r).map W.int) c (by simp);obtain⟨y,_,rfl⟩:=List.mem_map.mp hx;refine⟨y,?_⟩;have pos:(0:Int)<(r.length:Int)+1:=by omega
   have t:=uU (h++[O.lst []]) 59 r;simp only[List.map_cons] at e2 f2 ex;simp only[List.length_cons,List.length_map] at ex;push_cast at ex;simp[e1,f1,f2,t,pos,ex,cm,bP]
 obtain⟨x,ex⟩:=key;have g1:=aV (o:=O.lst [.int ((a * 48271+x * 69621+11) % 2147483647),.ref l,.int c]) f1;have g2:=aV (o:=O.lst [.int ((a * 48271+x * 69621+11) % 2147483647),.ref l,.int (c+1)]) g1;have g3:=aS (o:=O.lst [.int ((a * 48271+x * 69621+11) % 2147483647),.ref l,.int c]) (Nat.ne_of_gt e3) f2;have g4:=aS (o:=O.lst [.int ((a * 48271+x * 69621+11) % 2147483647),.ref l,.int (c+1)]) (Nat.ne_of_gt e3) g3;refine⟨(((a * 48271+x * 69621+11) % 2147483647) / 7) % m,(((h++[O.lst []]).set p (.lst [.int ((a * 48271+x * 69621+11) % 2147483647),.ref l,.int c]))).set p (.lst [.int ((a * 48271+x * 69621+11) % 2147483647),.ref l,.int (c+1)]),?_,Int.emod_nonneg _ (by omega),Int.emod_lt_of_pos _ hm,?_,?_⟩
 .exact aQ [some (.ref p),some (.int m),none] rfl rfl (aw ex (ax (σ':=[some (.ref p),some (.int m),some (.int x)]) (h':=(h++[O.lst []]).set p (.lst [.int ((a * 48271+x * 69621+11) % 2147483647),.ref l,.int c])) (by simp[f1]) (ax (σ':=[some (.ref p),some (.int m),some (.int x)]) (by simp[g1, -List.set_set];rfl) (aE (by simp[g2,hm, -List.set_set])))))
 .exact ((Ext.app p h _).trans (Ext.set p _ _)).trans (Ext.set p _ _)
 .exact⟨_,_,_,_,g2,g4,e3⟩
inductive Kd where
 |num|tru|row (k:Kd)|pair (a b:Kd)|work (a b:Kd)|any (x:S)|gap (n:Int)
 deriving DecidableEq
noncomputable abbrev iq:S:=[110,117,109,98,101,114]
noncomputable abbrev cL:S:=[116,114,117,116,104]
noncomputable abbrev jo:S:=[114,111,119]
noncomputable abbrev k9:S:=[112,97,105,114]
noncomputable abbrev aN:S:=[119,111,114,107]
noncomputable abbrev br:S:=[97,110,121]
noncomputable abbrev yB:S:=[103,97,112]
noncomputable def Kd.af:Kd->W
 |.num=>.tup [.str iq]
 |.tru=>.tup [.str cL]
 |.row k=>.tup [.str jo,k.af]
 |.pair a b=>.tup [.str k9,a.af,b.af]
 |.work a b=>.tup [.str aN,a.af,b.af]
 |.any x=>.tup [.str br,.str x]
 |.gap n=>.tup [.str yB,.int n]
noncomputable def Kd.depth:Kd->Nat
 |.row k=>k.depth+1
 |.pair a b=>max a.depth b.depth+1
 |.work a b=>max a.depth b.depth+1
 |_=>0
theorem run_eq{T:List Fn}{f:Nat}{fn:Fn}(e:T[f]?=some fn)(k:Nat)(xs:List W)(h:Hp):run T (k+1) f xs h=bg (run T k) fn xs h:=by simp[run,e]
theorem GX{α:Type}(xs:List α)(i:Int)(h0:0<=i)(h:i<(xs.length:Int)):∃x,x∈xs/\bG xs i=some x:=by
 have e3:i.toNat<xs.length:=by omega
 refine⟨xs[i.toNat],List.getElem_mem _,?_⟩;have:=dw xs _ e3;rw[show ((i.toNat:Nat):Int)=i by omega] at this;exact this
def Draws(p:Nat)(h:Hp)(r:R W)(P:W->Prop):Prop:=∃w h',r=.ok w h'/\P w/\Ext p h h'/\Gen p h'
abbrev Km(C:Or)(nx p:Nat):Prop:=∀(m:Int)(h:Hp),Gen p h->0<m->∃v h',C nx [.ref p,.int m] h=.ok (.int v) h'/\0<=v/\v<m/\Ext p h h'/\Gen p h'
theorem Ft{T:List Fn}{nx:Nat}(hn:T[nx]?=some By)(k p:Nat):Km (run T (k+1)) nx p:=fun m h g hm=>by
 rw[run_eq hn];exact Fv g hm
noncomputable abbrev yk:S:=[97,98,99,100,101,102,103,104,105,106,107,108,109,110,111,112,113,114,115,116,117,118,119,120,121,122]
noncomputable def AB(nx:Nat):Fn:=⟨1,2,[
 .set 1 (.cst (.str [97,98,99,100,101,102,103,104,105,106,107,108,109,110,111,112,113,114,115,116,117,118,119,120,121,122])),
 .ret (.c7 .join (.cst (.str [])) (.cons (.comp (.idx (.var 1) (.call nx (.cons (.var 0) (.cons (.cst (.int 26)) .nil)))) (.fN (.bin .add (.cst (.int 1)) (.call nx (.cons (.var 0) (.cons (.cst (.int 8)) .nil))))) .none) .nil))]⟩
theorem og:∀(n:Nat)(lo:Int),(upTo lo n).length=n
 |0,_=>rfl
 |n+1,lo=>by simp[upTo,og n]
theorem mU:∀ys:List Nat,texts (ys.map fun c=>W.str [c])=some (ys.map fun c=>[c])
 |[]=>by simp
 |c::r=>by simp[mU r]
theorem sD:∀ys:List S,fu [] ys=ys.flatten
 |[]=>rfl
 |[x]=>by simp
 |x::y::r=>by simp[fu,sD (y::r)]
theorem n8:∀ys:List Nat,(ys.map fun c=>[c]).flatten=ys
 |[]=>rfl
 |c::r=>by simp[n8 r]
theorem Gen.Hw{p:Nat}{h:Hp}(g:Gen p h):p≠h.length:=by obtain⟨_,_,_,_,e,_⟩:=g.ex;exact fun z=>absurd (bF e) (by rw[<-z];omega)
theorem rX{p:Nat}{k:W->List W->Hp->R (List W)}
  (hk:∀x acc h,Gen p h->∃c h',k x acc h=.ok (acc++[W.str [c]]) h'/\Ext p h h'/\Gen p h'):
  ∀(l:List W)(acc:List W)(h:Hp),Gen p h->∃(ys:List Nat) (h':Hp),gf k l acc h=.ok (acc++ys.map fun c=>W.str [c]) h'/\ys.length=l.length/\Ext p h h'/\Gen p h'
 |[],acc,h,g=>⟨[],h,by simp,rfl,Ext.refl p h,g⟩
 |x::l,acc,h,g=>by
  obtain⟨c,h1,e1,x1,g1⟩:=hk x acc h g;obtain⟨ys,h2,e2,l2,x2,g2⟩:=rX hk l (acc++[W.str [c]]) h1 g1;exact⟨c::ys,h2,by simp[e1,e2],by simp[l2],x1.trans x2,g2⟩
theorem FR{C:Or}{nx p:Nat}(sv:Km C nx p)(h:Hp)(g:Gen p h):
  ∃x h',bg C (AB nx) [.ref p] h=.ok (.str x) h'/\x.length<=8/\Ext p h h'/\Gen p h':=by
 obtain⟨v,h1,r1,a1,b1,x1,g1⟩:=sv 8 h g (by decide);obtain⟨ys,h2,e2,l2,x2,g2⟩:=rX (p:=p) (k:=iB (dD C .none) (ae C (.idx (.var 1) (.call nx (.cons (.var 0) (.cons (.cst (.int 26)) .nil))))) [some (W.ref p),some (W.str yk)]) (fun x acc h g=>by
  obtain⟨v,h1,r1,a1,b1,x1,g1⟩:=sv 26 h g (by decide);obtain⟨c,hc,ec⟩:=GX yk v a1 b1;exact⟨c,h1,by simp[iB,r1,ec,SZ],x1,g1⟩) (upTo 0 (1+v).toNat) [] h1 g1
 rw[og] at l2;have hr:fA (1+v)=true:=by simp[fA];omega
 have ly:ys.length<=8:=by omega
 refine⟨ys,h2++[.lst (ys.map fun c=>W.str [c])],?_,ly,(x1.trans x2).trans (Ext.app _ _ _),g2.ext _⟩;have z1:ys.length<=SZ:=Nat.le_trans ly (by decide);have ei:bM C (.fN (.bin .add (.cst (.int 1)) (.call nx (.cons (.var 0) (.cons (.cst (.int 8)) .nil))))) [some (W.ref p),some (W.str yk)] h=.ok (.fix (upTo 0 (1+v).toNat)) h1:=by simp[r1,hr]
 have ec:ae C (.comp (.idx (.var 1) (.call nx (.cons (.var 0) (.cons (.cst (.int 26)) .nil)))) (.fN (.bin .add (.cst (.int 1)) (.call nx (.cons (.var 0) (.cons (.cst (.int 8)) .nil))))) .none) [some (W.ref p),some (W.str yk)] h=.ok (.ref h2.length) (h2++[.lst (ys.map fun c=>W.str [c])]):=by rw[ij,ei,R.ak];simp only[walk];rw[e2];simp[dq,z1]
 unfold bg AB;have z2:((ys.map fun c=>[c]).map (·.length)).sum=ys.length:=by
  clear ec ei e2 l2 z1 ly
  induction ys with
  |nil=>rfl
  |cons c r ih=>simp only[List.map_cons,List.sum_cons,ih,List.length_cons,List.length_nil];omega
 simp only[List.map_map] at z2;simp[ec,z1,z2,mU,sD,n8]
theorem rL{h:Hp}{q:Nat}{xs:List W}(e:h[q]?=some (.lst xs)):bP h (.ref q)=none:=by simp[bP,e]
theorem qR(x:S):∀l:List S,((l.map W.str).any fun z=>bp z (.str x))=decide (x∈l)
 |[]=>by simp
 |y::r=>by
  simp only[List.map_cons,List.any_cons,qR x r,j2,List.mem_cons];by_cases e:y=x<;>by_cases f:x∈r<;>simp[e,f]<;>simp_all [eq_comm]
theorem oV:∀l:List S,(l.map W.str).all flat=true
 |[]=>rfl
 |x::r=>by simp[oV r]
theorem jV{h:Hp}{q:Nat}{l:List S}(e:h[q]?=some (.lst (l.map W.str)))(x:S):isIn (.str x) (.ref q) h=some (decide (x∈l)):=by unfold isIn;rw[rL e];have:=oV l;simp only[t6,items,e,qR,this];simp
theorem ua(x:S)(l:List S)(h:Hp):isIn (.str x) (.tup (l.map W.str)) h=some (decide (x∈l)):=by unfold isIn;have:=oV l;simp only[bP,t6,qR,this];simp
theorem Fu(k:Kd):∃x r,k.af=.tup (x::r):=by cases k<;>simp[Kd.af]
structure aA(h h':Hp):Prop where
 len:h.length<=h'.length
 keep:∀(q:Nat)(o:O),h[q]?=some o->h'[q]?=some o
theorem aA.refl(h:Hp):aA h h:=⟨Nat.le_refl _,fun _ _ e=>e⟩
theorem aA.trans{h h1 h2:Hp}(a:aA h h1)(b:aA h1 h2):aA h h2:=⟨Nat.le_trans a.len b.len,fun q o e=>b.keep q o (a.keep q o e)⟩
theorem aA.app(h:Hp)(x:List O):aA h (h++x):=⟨by simp,fun _ _ e=>aF x e⟩
theorem aA.gen{p:Nat}{h h':Hp}(g:Gen p h)(x:aA h h'):Gen p h':=by obtain⟨a,c,l,ns,e1,e2,e3⟩:=g.ex;exact⟨a,c,l,ns,x.keep _ _ e1,x.keep _ _ e2,e3⟩
theorem aA.ext{h h':Hp}(g:aA h h')(p:Nat):Ext p h h':=⟨g.len,fun q o e _=>g.keep q o e⟩
mutual
noncomputable def W.pure:W->Bool
 |.tup xs=>f9 xs
 |.ref _=>false
 |.lst _=>false
 |_=>true
noncomputable def f9:List W->Bool
 |[]=>true
 |x::xs=>x.pure&&f9 xs
end
mutual
theorem w8(h:Hp):∀(w:W)(n:Nat),w.pure=true->w.deep<=n->rd h n w=some w
 |.ah,n,_,_=>by simp
 |.bl _,n,_,_=>by simp
 |.int _,n,_,_=>by simp
 |.str _,n,_,_=>by simp
 |.ref _,n,p,_=>by simp[W.pure] at p
 |.lst _,n,p,_=>by simp[W.pure] at p
 |.tup xs,0,_,d=>by simp[W.deep] at d
 |.tup xs,n+1,p,d=>by
  simp only[W.pure] at p;simp only[W.deep] at d;simp[uM h xs n p (by omega)]
theorem uM(h:Hp):∀(xs:List W)(n:Nat),f9 xs=true->dS xs<=n->iW h n xs=some xs
 |[],n,_,_=>by simp
 |x::xs,n,p,d=>by
  simp only[f9,Bool.and_eq_true] at p;simp only[dS] at d;simp[w8 h x n p.1 (by omega),uM h xs n p.2 (by omega)]
end
mutual
theorem uf:∀(w:W),w.pure=true->bp w w=true
 |.ah,_=>by simp
 |.bl _,_=>by simp
 |.int _,_=>by simp
 |.str _,_=>by simp
 |.ref _,p=>by simp[W.pure] at p
 |.lst _,p=>by simp[W.pure] at p
 |.tup xs,p=>by
  simp only[W.pure] at p;simp[rW xs p]
theorem rW:∀(xs:List W),f9 xs=true->m9 xs xs=true
 |[],_=>by simp
 |x::xs,p=>by
  simp only[f9,Bool.and_eq_true] at p;simp[uf x p.1,rW xs p.2]
end
theorem xC(h:Hp){w:W}(p:w.pure=true):bP h w=none:=by cases w<;>simp[bP]<;>simp[W.pure] at p
theorem kR(h:Hp){w:W}(p:w.pure=true)(d:w.deep<=60):cm h w w=some true:=by simp[cm,xC h p,w8 h w 60 p d,uf w p]
theorem hW:∀k:Kd,k.af.pure=true
 |.num=>rfl
 |.tru=>rfl
 |.any _=>rfl
 |.gap _=>rfl
 |.row k=>by simp[Kd.af,W.pure,f9,hW k]
 |.pair a b=>by simp[Kd.af,W.pure,f9,hW a,hW b]
 |.work a b=>by simp[Kd.af,W.pure,f9,hW a,hW b]
theorem ik:∀k:Kd,k.af.deep<=k.depth+1
 |.num=>by simp[Kd.af,W.deep,dS]
 |.tru=>by simp[Kd.af,W.deep,dS]
 |.any _=>by simp[Kd.af,W.deep,dS]
 |.gap _=>by simp[Kd.af,W.deep,dS]
 |.row k=>by have:=ik k;simp[Kd.af,W.deep,dS,Kd.depth];omega
 |.pair a b=>by have:=ik a;have:=ik b;simp[Kd.af,W.deep,dS,Kd.depth];omega
 |.work a b=>by have:=ik a;have:=ik b;simp[Kd.af,W.deep,dS,Kd.depth];omega
theorem dO(x y:S):nz (.str x) (.str y)=decide (x=y):=by simp[nz,Bool.beq_eq_decide_eq]
def StrKeys(kvs:List (W×W)):Prop:=∀kv∈kvs,∃x,kv.1=.str x
theorem AD{kvs:List (W×W)}(h:StrKeys kvs)(x:S)(v:W):StrKeys (dput (.str x) v kvs):=by
 induction kvs with
 |nil=>intro kv hkv;simp at hkv;subst hkv;exact⟨x,rfl⟩
 |cons a r ih=>
  obtain⟨j,u⟩:=a;simp only[dput];split
  .intro kv hkv;rcases List.mem_cons.mp hkv with rfl|hkv
   .exact h (j,u) List.mem_cons_self
   .exact h _ (List.mem_cons_of_mem _ hkv)
  .intro kv hkv;rcases List.mem_cons.mp hkv with rfl|hkv
   .exact h _ List.mem_cons_self
   .exact ih (fun q hq=>h q (List.mem_cons_of_mem _ hq)) kv hkv
theorem yY{kvs:List (W×W)}(h:StrKeys kvs)(x y:S)(v:W):bH (.str x) (dput (.str y) v kvs)=if y=x then some v else bH (.str x) kvs:=by
 induction kvs with
 |nil=>simp only[dput,bH,dO];by_cases e:y=x<;>simp[e]
 |cons a r ih=>
  obtain⟨j,u⟩:=a;obtain⟨z,hz⟩:=h _ List.mem_cons_self;simp only at hz;subst hz;have ih:=ih fun q hq=>h q (List.mem_cons_of_mem _ hq);simp only[dput,dO];by_cases e1:z=y
  .subst e1;simp only[decide_true,if_true,bH,dO];by_cases e2:z=x<;>simp[e2]
  .simp only[e1,decide_false,Bool.false_eq_true,if_false,bH,dO,ih];by_cases e2:z=x
   .subst e2;simp[Ne.symm e1]
   .simp[e2]
theorem uL(k v:W):∀kvs:List (W×W),(dput k v kvs).length<=kvs.length+1
 |[]=>by simp
 |(j,u)::r=>by
  simp only[dput];split
  .simp
  .have:=uL k v r;simp;omega
theorem lj{a:Nat}{t:Tg}{k:Env->Hp->R Fl}{xs:List W}(P:Nat->Env->Hp->Prop)(hl:∀i σ h,P i σ h->aZ h a=some xs)
  (step:∀i σ h x,P i σ h->xs[i]?=some x->∃σ1,eZ t x σ=some σ1/\∃σ' h',k σ1 h=.ok (.next σ') h'/\P (i+1) σ' h'):
  ∀n i σ h,i+n=xs.length->P i σ h->∃σ' h',bo a t k n i σ h=.ok (.next σ') h'/\P xs.length σ' h':=by
 intro n
 induction n with
 |zero=>
  intro i σ h e p;have ei:i=xs.length:=by omega
  refine⟨σ,h,?_,ei▸p⟩;unfold bo;have:xs[i]?=none:=List.getElem?_eq_none (by omega);simp only[hl i σ h p,this]
 |succ n ih=>
  intro i σ h e p;have hx:xs[i]?=some xs[i]:=List.getElem?_eq_getElem (by omega);obtain⟨σ1,e1,σ2,h2,e2,p2⟩:=step i σ h _ p hx;obtain⟨σ3,h3,e3,p3⟩:=ih (i+1) σ2 h2 (by omega) p2;refine⟨σ3,h3,?_,p3⟩;unfold bo;simp only[hl i σ h p,hx,turn,e1,e2,R.ak,e3]
noncomputable def kF:Fn:=⟨1,1,[
 .iff (.cmp .isin (.idx (.var 0) (.cst (.int 0))) (.tup (.cons (.cst (.str [114,111,119])) (.cons (.cst (.str [112,97,105,114])) (.cons (.cst (.str [119,111,114,107])) .nil))))) [.ret (.sl (.var 0) (.some (.cst (.int 1))) .none)] [],
 .ret (.tup .nil)]⟩
noncomputable def gw:Kd->List Kd
 |.row k=>[k]
 |.pair a b=>[a,b]
 |.work a b=>[a,b]
 |_=>[]
theorem wa(C:Or)(h:Hp)(x:S)(r:List W)(b:Bool)(e:decide (x∈ [jo,k9,aN])=b):ae C (.cmp .isin (.idx (.var 0) (.cst (.int 0))) (.tup (.cons (.cst (.str [114,111,119])) (.cons (.cst (.str [112,97,105,114])) (.cons (.cst (.str [119,111,114,107])) .nil))))) [some (.tup (.str x::r))] h=.ok (.bl b) h:=by have t:=ua x [jo,k9,aN] h;rw[e] at t;simp only[List.map_cons,List.map_nil] at t;simp[t]
theorem FF(C:Or)(h:Hp)(x:W)(r:List W)(l:r≠ []):ae C (.sl (.var 0) (.some (.cst (.int 1))) .none) [some (.tup (x::r))] h=.ok (.tup r) h:=by
 have:¬ (min 1 (r.length+1)=0):=by omega
 simp[cut,aO]
theorem jk(C:Or)(kd:Kd)(h:Hp):bg C kF [kd.af] h=.ok (.tup ((gw kd).map Kd.af)) h:=by
 have no:∀(x:S)(r:List W),decide (x∈ [jo,k9,aN])=false->bg C kF [.tup (.str x::r)] h=.ok (.tup []) h:=fun x r e=>aQ [some (.tup (.str x::r))] rfl rfl (aP (wa C h x r _ e) (aE (by simp)));have yes:∀(x:S)(r:List W),decide (x∈ [jo,k9,aN])=true->r≠ []->bg C kF [.tup (.str x::r)] h=.ok (.tup r) h:=fun x r e l=>aQ [some (.tup (.str x::r))] rfl rfl (jB (wa C h x r _ e) (aE (FF C h _ r l)));cases kd with
 |num=>exact no _ _ (by decide)
 |tru=>exact no _ _ (by decide)
 |any x=>exact no _ _ (by decide)
 |gap n=>exact no _ _ (by decide)
 |row a=>exact yes _ _ (by decide) (by simp)
 |pair a b=>exact yes _ _ (by decide) (by simp)
 |work a b=>exact yes _ _ (by decide) (by simp)
noncomputable def iS(l:List S)(x:S):List S:=if x∈l then l else l++[x]
noncomputable def Kd.put:Kd->List S->List S
 |.row k,l=>k.put l
 |.pair a b,l=>b.put (a.put l)
 |.work a b,l=>b.put (a.put l)
 |.any x,l=>iS l x
 |_,l=>l
noncomputable def di(l:List S):List (W×W):=l.map fun x=>(.str x,.bl true)
theorem zb(x:S):∀l:List S,dput (.str x) (.bl true) (di l)=di (iS l x)
 |[]=>by simp[di,iS]
 |y::r=>by
  have ih:=zb x r;simp only[di,List.map_cons,dput,dO] at ih⊢;by_cases e:y=x
  .subst e;simp[iS]
  .rw[if_neg (by simp[e]),ih];unfold iS;by_cases m:x∈r
   .simp[m]
   .have:x≠y:=fun z=>e z.symm;simp[m,this]
theorem Cg(l:List S)(x:S):(iS l x).length<=l.length+1:=by unfold iS;split<;>simp
theorem wB:∀(kd:Kd)(l:List S),(kd.put l).length<=l.length+2 ^ kd.depth:=by
 intro kd
 induction kd with
 |any x=>intro l;have:=Cg l x;simpa [Kd.put,Kd.depth] using this
 |row a ih=>intro l;have:=ih l;simp only[Kd.put,Kd.depth,Nat.pow_succ];omega
 |pair a b iha ihb=>
  intro l;have h1:=iha l;have h2:=ihb (a.put l);have c1:2 ^ a.depth<=2 ^ (max a.depth b.depth):=Nat.pow_le_pow_right (by decide) (by omega);have c2:2 ^ b.depth<=2 ^ (max a.depth b.depth):=Nat.pow_le_pow_right (by decide) (by omega);simp only[Kd.put,Kd.depth,Nat.pow_succ];omega
 |work a b iha ihb=>
  intro l;have h1:=iha l;have h2:=ihb (a.put l);have c1:2 ^ a.depth<=2 ^ (max a.depth b.depth):=Nat.pow_le_pow_right (by decide) (by omega);have c2:2 ^ b.depth<=2 ^ (max a.depth b.depth):=Nat.pow_le_pow_right (by decide) (by omega);simp only[Kd.put,Kd.depth,Nat.pow_succ];omega
 |_=>intro l;simp[Kd.put]
noncomputable def kD(self:Nat):List St:=[.expr (.call self (.cons (.var 2) (.cons (.var 1) .nil)))]
def Er(pt self:Nat):Fn:=⟨2,3,[
 .iff (.cmp .eq (.idx (.var 0) (.cst (.int 0))) (.cst (.str [97,110,121]))) [.put (.var 1) (.idx (.var 0) (.cst (.int 1))) (.cst (.bl true))] [],
 .for (.var 2) (.seq (.call pt (.cons (.var 0) .nil))) (kD self)]⟩
theorem oN{h:Hp}{q:Nat}{o:O}(e:h[q]?=some o):h.set q o=h:=by
 apply List.ext_getElem?;intro i;by_cases z:q=i
 .subst z;rw[List.getElem?_set_self (bF e),e]
 .rw[List.getElem?_set_ne z]
theorem sX(C:Or)(h:Hp)(x:S)(r:List W)(o:Option W)(u:Option W)(b:Bool)(e:decide (x=br)=b):ae C (.cmp .eq (.idx (.var 0) (.cst (.int 0))) (.cst (.str [97,110,121]))) [some (.tup (.str x::r)),o,u] h=.ok (.bl b) h:=by subst e;simp
theorem tf{C:Or}{pt self:Nat}{σ:Env}{h:Hp}{w:W}{ws:List W}(s0:σ[0]?=some (some w))(e:C pt [w] h=.ok (.tup ws) h):aW C (.for (.var 2) (.seq (.call pt (.cons (.var 0) .nil))) (kD self)) σ h=cW (.var 2) (au C (kD self)) ws σ h:=by rw[bB];simp[s0,e]
theorem xp{C:Or}{self q:Nat}{h h':Hp}{x w:W}{o:Option W}(e:C self [x,.ref q] h=.ok .ah h'):au C (kD self) [some w,some (.ref q),some x] h=.ok (.next [some w,some (.ref q),some x]) h':=by simp[kD,e]
theorem uc{T:List Fn}{pt self q:Nat}(hp:T[pt]?=some kF)(hs:T[self]?=some (Er pt self)):
  ∀(kd:Kd)(k:Nat)(h:Hp)(l:List S),kd.depth+2<=k->l.length+2 ^ kd.depth<=SZ->h[q]?=some (.ag (di l))->run T k self [kd.af,.ref q] h=.ok .ah (h.set q (.ag (di (kd.put l)))):=by
 have none_:∀(kd:Kd)(x:S)(r:List W)(k:Nat)(h:Hp),kd.af=.tup (.str x::r)->decide (x=br)=false->gw kd=[]->run T (k+2) self [kd.af,.ref q] h=.ok .ah h:=by intro kd x r k h e1 e2 e3;have p:=jk (run T k) kd h;rw[<-run_eq hp,e3] at p;rw[run_eq hs];rw[e1] at p⊢;exact jf [some (.tup (.str x::r)),some (.ref q),none] rfl rfl (aP (sX _ h x r _ _ _ e2) (ax (tf rfl p) rfl))
 have two:∀(kd:Kd)(x:S)(a b:Kd)(k:Nat)(h h1 h2:Hp),kd.af=.tup [.str x,a.af,b.af]->decide (x=br)=false->gw kd=[a,b]->run T (k+1) self [a.af,.ref q] h=.ok .ah h1->run T (k+1) self [b.af,.ref q] h1=.ok .ah h2->run T (k+2) self [kd.af,.ref q] h=.ok .ah h2:=by intro kd x a b k h h1 h2 e1 e2 e3 ra rb;have p:=jk (run T k) kd h;rw[<-run_eq hp,e3] at p;rw[run_eq hs];rw[e1] at p⊢;refine jf [some (.tup [.str x,a.af,b.af]),some (.ref q),none] rfl rfl (σ':=[some (.tup [.str x,a.af,b.af]),some (.ref q),some b.af]) (aP (sX _ h x _ _ _ _ e2) (ax (σ':=[some (.tup [.str x,a.af,b.af]),some (.ref q),some b.af]) (h':=h2) ((tf rfl p).trans ?_) rfl));simp only[List.map_cons,List.map_nil,cW,turn,eZ,List.set_cons_succ,List.set_cons_zero,xp (o:=none) ra,xp (o:=none) rb,R.ak]
 intro kd
 induction kd with
 |num=>intro k h l hk hl e;obtain⟨k,rfl⟩:∃j,k=j+2:=⟨k-2,by omega⟩;rw[none_ .num _ _ k h rfl (by decide) rfl];simp[Kd.put,oN e]
 |tru=>intro k h l hk hl e;obtain⟨k,rfl⟩:∃j,k=j+2:=⟨k-2,by omega⟩;rw[none_ .tru _ _ k h rfl (by decide) rfl];simp[Kd.put,oN e]
 |gap n=>intro k h l hk hl e;obtain⟨k,rfl⟩:∃j,k=j+2:=⟨k-2,by omega⟩;rw[none_ (.gap n) _ _ k h rfl (by decide) rfl];simp[Kd.put,oN e]
 |any x=>
  intro k h l hk hl e;obtain⟨k,rfl⟩:∃j,k=j+2:=⟨k-2,by omega⟩;have p:=jk (run T k) (.any x) (h.set q (.ag (di (iS l x))));rw[<-run_eq hp] at p;rw[run_eq hs];have hl':(di l).length<SZ:=by simp[di,Kd.depth] at hl⊢;omega
  exact jf [some (.tup [.str br,.str x]),some (.ref q),none] rfl rfl (qh (sX _ h br _ _ _ _ (by decide)) (h3:=h.set q (.ag (di (iS l x)))) (σ':=[some (.tup [.str br,.str x]),some (.ref q),none]) (by simp[e,zb,hl']) (ax (tf rfl p) rfl))
 |row a iha=>
  intro k h l hk hl e;simp only[Kd.depth,Nat.pow_succ] at hk hl;obtain⟨k,rfl⟩:∃j,k=j+2:=⟨k-2,by omega⟩;have p:=jk (run T k) (.row a) h;rw[<-run_eq hp] at p;have h1:=iha (k+1) h l (by omega) (by omega) e;rw[run_eq hs];refine jf [some (.tup [.str jo,a.af]),some (.ref q),none] rfl rfl (σ':=[some (.tup [.str jo,a.af]),some (.ref q),some a.af]) (aP (sX _ h jo _ _ _ _ (by decide)) (ax (σ':=[some (.tup [.str jo,a.af]),some (.ref q),some a.af]) (h':=h.set q (.ag (di (a.put l)))) ((tf rfl p).trans ?_) rfl));simp only[gw,List.map_cons,List.map_nil,cW,turn,eZ,List.set_cons_succ,List.set_cons_zero,xp (o:=none) h1,R.ak]
 |pair a b iha ihb=>
  intro k h l hk hl e;have c1:2 ^ a.depth<=2 ^ (max a.depth b.depth):=Nat.pow_le_pow_right (by decide) (by omega);have c2:2 ^ b.depth<=2 ^ (max a.depth b.depth):=Nat.pow_le_pow_right (by decide) (by omega);simp only[Kd.depth,Nat.pow_succ] at hk hl;obtain⟨k,rfl⟩:∃j,k=j+2:=⟨k-2,by omega⟩;have pl:=wB a l;have z:=two (.pair a b) _ a b k h _ _ rfl (by decide) rfl (iha (k+1) h l (by omega) (by omega) e) (ihb (k+1) (h.set q (.ag (di (a.put l)))) (a.put l) (by omega) (by omega) (aV e));rw[List.set_set] at z;exact z
 |work a b iha ihb=>
  intro k h l hk hl e;have c1:2 ^ a.depth<=2 ^ (max a.depth b.depth):=Nat.pow_le_pow_right (by decide) (by omega);have c2:2 ^ b.depth<=2 ^ (max a.depth b.depth):=Nat.pow_le_pow_right (by decide) (by omega);simp only[Kd.depth,Nat.pow_succ] at hk hl;obtain⟨k,rfl⟩:∃j,k=j+2:=⟨k-2,by omega⟩;have pl:=wB a l;have z:=two (.work a b) _ a b k h _ _ rfl (by decide) rfl (iha (k+1) h l (by omega) (by omega) e) (ihb (k+1) (h.set q (.ag (di (a.put l)))) (a.put l) (by omega) (by omega) (aV e));rw[List.set_set] at z;exact z
noncomputable def w6(pn:Nat):Fn:=⟨1,2,[
 .set 1 (.ag .nil),
 .expr (.call pn (.cons (.var 0) (.cons (.var 1) .nil))),
 .ret (.blt .list (.var 1))]⟩
theorem uR{T:List Fn}{pt pn self:Nat}(hp:T[pt]?=some kF)(hs:T[pn]?=some (Er pt pn))(hn:T[self]?=some (w6 pn))(kd:Kd)(k:Nat)(h:Hp)(hk:kd.depth+3<=k)(hl:2 ^ kd.depth<=SZ):
  run T k self [kd.af] h=.ok (.ref (h.length+1)) (h++[.ag (di (kd.put [])),.lst ((kd.put []).map W.str)]):=by
 obtain⟨k,rfl⟩:∃j,k=j+1:=⟨k-1,by omega⟩;have p:=uc (q:=h.length) hp hs kd k (h++[.ag (di [])]) [] (by omega) (by simpa using hl) (by simp);simp only[di,List.map_nil] at p;rw[run_eq hn];unfold bg w6;have e1:(h++[O.ag []]).set h.length (O.ag (di (kd.put [])))=h++[O.ag (di (kd.put []))]:=by rw[List.set_append_right _ _ (Nat.le_refl _)];simp
 simp only[di] at e1;simp[p,e1,di,List.map_map,Function.comp_def]
noncomputable abbrev Es.c:=@Es.cons
noncomputable abbrev Es.n:=Es.nil
end Tw
namespace K14
open Tw
noncomputable abbrev ip:Nat:=0
noncomputable abbrev jE:Nat:=1
noncomputable abbrev f6:Nat:=2
noncomputable abbrev dU:Nat:=3
noncomputable abbrev iZ:Nat:=4
noncomputable abbrev gZ:Nat:=5
noncomputable abbrev fV:Nat:=6
noncomputable abbrev tj:Nat:=7
noncomputable abbrev mT:Nat:=8
noncomputable abbrev dX:Nat:=9
noncomputable abbrev gK:Nat:=10
noncomputable abbrev gQ:Nat:=11
noncomputable abbrev fO:Nat:=12
noncomputable abbrev fo:Nat:=13
noncomputable abbrev jx:Nat:=14
noncomputable abbrev dR:Nat:=15
noncomputable abbrev fG:Nat:=16
noncomputable abbrev eU:Nat:=17
noncomputable abbrev cU:Nat:=18
noncomputable abbrev bY:Nat:=19
noncomputable abbrev aY:Nat:=20
noncomputable abbrev f7:Nat:=21
noncomputable abbrev iG:Nat:=22
noncomputable abbrev dP:Nat:=23
noncomputable abbrev jX:Nat:=24
noncomputable abbrev i7:Nat:=25
noncomputable abbrev iI:Nat:=26
noncomputable abbrev iw:Nat:=27
noncomputable abbrev gz:Nat:=28
noncomputable abbrev oB:Nat:=29
noncomputable abbrev gM:Nat:=30
noncomputable abbrev jY:Nat:=31
noncomputable abbrev jP:Nat:=32
noncomputable abbrev lB:Nat:=33
noncomputable abbrev dz:Nat:=34
noncomputable abbrev jO:Nat:=35
noncomputable abbrev b8:Nat:=36
noncomputable abbrev ck:Nat:=37
noncomputable abbrev gk:Nat:=38
noncomputable abbrev fZ:Nat:=39
noncomputable abbrev cZ:Nat:=40
noncomputable abbrev kY:Nat:=41
noncomputable abbrev lq:Nat:=42
noncomputable abbrev gS:Nat:=43
noncomputable abbrev gU:Nat:=44
noncomputable abbrev gY:Nat:=45
noncomputable abbrev eC:Nat:=46
noncomputable abbrev gG:Nat:=47
noncomputable abbrev hZ:Nat:=48
noncomputable abbrev cF:Nat:=49
noncomputable abbrev kS:Nat:=50
noncomputable abbrev oz:Nat:=51
noncomputable abbrev mX:Nat:=52
noncomputable abbrev eG:Nat:=53
noncomputable abbrev DK:Nat:=54
noncomputable abbrev q0:E:=.cst (.str [119,111,114,107])
noncomputable abbrev q1:E:=.cst (.str [102,117,110])
noncomputable abbrev q2:E:=.cst (.str [110,97,109,101])
noncomputable abbrev q3:E:=.cst (.str [99,97,108,108])
noncomputable abbrev q4:E:=.cst (.str [114,111,119])
noncomputable abbrev q5:E:=.cst (.str [110,117,109,98,101,114])
noncomputable abbrev q6:E:=.cst (.str [120])
noncomputable abbrev q7:E:=.cst (.str [112,97,105,114])
noncomputable abbrev q8:E:=.cst (.str [97,110,121])
noncomputable abbrev q9:E:=.cst (.str [121])
noncomputable abbrev AF:E:=.cst (.str [98,111,116,104])
noncomputable abbrev xn:E:=.cst (.str [116,114,117,116,104])
noncomputable abbrev Ap:E:=.cst (.str [103,97,112])
noncomputable abbrev yW:E:=.cst (.str [114,111,119,111,102])
noncomputable abbrev Ew:E:=.cst (.str [121,101,115])
noncomputable abbrev wU:E:=.cst (.str [114])
noncomputable abbrev IU:E:=.cst (.str [102,111,108,100])
noncomputable abbrev DP:E:=.cst (.str [116])
noncomputable abbrev Mw:E:=.cst (.str [108,105,107,101])
noncomputable def wu:Fn:=⟨1,1,[
 .iff (.cmp .isin (.idx (.var 0) (.cst (.int 0))) (.tup (.c q4 (.c q7 (.c q0 .n))))) [.ret (.sl (.var 0) (.some (.cst (.int 1))) .none)] [],
 .ret (.tup .n)]⟩
noncomputable def vw:Fn:=⟨2,2,[
 .ret (.call dU (.c (.var 0) (.c q8 (.c (.var 1) .n))))]⟩
noncomputable def lV:Fn:=⟨2,2,[
 .ret (.call dU (.c (.var 0) (.c Ap (.c (.var 1) .n))))]⟩
noncomputable def lZ:List St:=[.set 4 (.bin .add (.var 4) (.tup (.c (.call dU (.c (.var 5) (.c (.var 1) (.c (.var 2) .n)))) .n)))]
noncomputable def lR:Fn:=⟨3,6,[
 .iff (.cmp .eq (.idx (.var 0) (.cst (.int 0))) (.var 1)) [.ret (.c7 .get (.var 2) (.c (.idx (.var 0) (.cst (.int 1))) (.c (.var 0) .n)))] [],
 .set 3 (.call ip (.c (.var 0) .n)),
 .iff (.cmp .eq (.var 3) (.tup .n)) [.ret (.var 0)] [],
 .set 4 (.tup (.c (.idx (.var 0) (.cst (.int 0))) .n)),
 .for (.var 5) (.seq (.var 3)) lZ,
 .ret (.var 4)]⟩
noncomputable def pN:Fn:=⟨2,3,[
 .iff (.cmp .eq (.idx (.var 0) (.cst (.int 0))) Ap) [.ret (.cmp .notin (.idx (.var 0) (.cst (.int 1))) (.var 1))] [],
 .bad,
 .bad]⟩
noncomputable def pS:Fn:=⟨1,2,[
 .set 1 (.ag .n),
 .expr (.call fV (.c (.var 0) (.c (.var 1) .n))),
 .ret (.blt .list (.var 1))]⟩
noncomputable def rh:List St:=[.expr (.call fV (.c (.var 2) (.c (.var 1) .n)))]
noncomputable def n6:Fn:=⟨2,3,[
 .iff (.cmp .eq (.idx (.var 0) (.cst (.int 0))) q8) [.put (.var 1) (.idx (.var 0) (.cst (.int 1))) (.cst (.bl true))] [],
 .for (.var 2) (.seq (.call ip (.c (.var 0) .n))) rh]⟩
noncomputable def DZ:Fn:=⟨3,7,[
 .iff (.cmp .eq (.idx (.var 0) (.cst (.int 0))) Ap) [.ret (.call mT (.c (.idx (.var 0) (.cst (.int 1))) (.c (.var 1) (.c (.var 2) .n))))] [],
 .bad,
 .bad,
 .bad,
 .bad,
 .bad,
 .bad]⟩
noncomputable def rA:Fn:=⟨3,4,[
 .iff (.cmp .ne (.c7 .get (.var 2) (.c (.var 0) (.c (.var 1) .n))) (.var 1)) [.bad] [],
 .set 3 (.blt .dict (.var 2)),
 .put (.var 3) (.var 0) (.var 1),
 .ret (.var 3)]⟩
noncomputable def iU:List St:=[.set 3 (.call dX (.c (.var 2) (.c (.var 1) .n))),.iff (.cmp .notN (.var 3) (.cst .ah)) [.bad] []]
noncomputable def p5:Fn:=⟨2,4,[
 .iff (.cmp .eq (.idx (.var 0) (.cst (.int 0))) q0) [.bad] [],
 .iff (.and (.cmp .eq (.idx (.var 0) (.cst (.int 0))) q8) (.cmp .notin (.idx (.var 0) (.cst (.int 1))) (.var 1))) [.bad] [],
 .for (.var 2) (.seq (.call ip (.c (.var 0) .n))) iU,
 .ret (.cst .ah)]⟩
noncomputable def pB:Fn:=⟨2,2,[
 .iff (.cmp .isin (.idx (.var 0) (.cst (.int 0))) (.tup (.c q5 (.c xn .n)))) [.bad] [],
 .iff (.cmp .eq (.idx (.var 0) (.cst (.int 0))) q4) [.bad] [],
 .iff (.cmp .eq (.idx (.var 0) (.cst (.int 0))) q7) [.ret (.tup (.c (.cst (.str [108,105,107,101,112,97,105,114])) (.c (.call gK (.c (.idx (.var 0) (.cst (.int 1))) (.c (.var 1) .n))) (.c (.call gK (.c (.idx (.var 0) (.cst (.int 2))) (.c (.var 1) .n))) .n))))] [],
 .ret (.idx (.var 1) (.idx (.var 0) (.cst (.int 1))))]⟩
noncomputable def jW:Fn:=⟨1,1,[
 .ret (.tup (.c q0 (.c (.var 0) (.c (.tup (.c q0 (.c (.var 0) (.c (.cst (.tup [(.str [116,114,117,116,104])])) .n)))) .n))))]⟩
noncomputable def dW:List St:=[.set 6 (.call gQ (.c (.tup (.c q8 (.c (.var 5) .n))) .n)),.eQ (.var 0) [99,111,114,101] (.tup (.c q1 (.c (.var 6) (.c (.fld (.var 0) [99,111,114,101]) .n)))),.eQ (.var 0) [119,104,111,108,101,95,107,105,110,100] (.tup (.c q0 (.c (.var 6) (.c (.fld (.var 0) [119,104,111,108,101,95,107,105,110,100]) .n))))]
noncomputable def iY:Fn:=⟨5,7,[
 .eQ (.var 0) [102,114,101,101] (.blt .list (.var 1)),
 .eQ (.var 0) [110,101,101,100,115] (.blt .list (.var 2)),
 .eQ (.var 0) [107,105,110,100] (.var 3),
 .eQ (.var 0) [99,111,114,101] (.var 4),
 .eQ (.var 0) [119,104,111,108,101,95,107,105,110,100] (.var 3),
 .for (.var 5) (.rev (.fld (.var 0) [110,101,101,100,115])) dW]⟩
noncomputable def jj:Fn:=⟨5,5,[
 .eQ (.var 0) [115,104,101,108,102] (.var 1),
 .eQ (.var 0) [102,114,101,101] (.var 2),
 .eQ (.var 0) [110,101,101,100,115] (.var 3),
 .eQ (.var 0) [98,111,117,110,100] (.var 4)]⟩
noncomputable def jr:Fn:=⟨3,3,[
 .ret (.mk [83,99,111,112,101] fo (.c (.fld (.var 0) [115,104,101,108,102]) (.c (.fld (.var 0) [102,114,101,101]) (.c (.fld (.var 0) [110,101,101,100,115]) (.c (.bin .add (.tup (.c (.tup (.c (.var 1) (.c (.var 2) .n))) .n)) (.fld (.var 0) [98,111,117,110,100])) .n)))))]⟩
noncomputable def eN:E:=(.var 2)
noncomputable def gm:Fn:=⟨2,2,[
 .ret (.cmp .isin (.var 1) (.fY eN (.seq (.fld (.var 0) [98,111,117,110,100]))))]⟩
noncomputable def fP:E:=(.var 3)
noncomputable def ib:Fn:=⟨2,3,[
 .set 2 (.c7 .index (.fY fP (.seq (.fld (.var 0) [98,111,117,110,100]))) (.c (.var 1) .n)),
 .ret (.tup (.c (.tup (.c (.cst (.str [118,97,114])) (.c (.var 2) .n))) (.c (.idx (.idx (.fld (.var 0) [98,111,117,110,100]) (.var 2)) (.cst (.int 1))) .n)))]⟩
noncomputable def hJ:Fn:=⟨3,4,[
 .set 3 (.call dX (.c (.var 1) (.c (.fld (.var 0) [110,101,101,100,115]) .n))),
 .iff (.cmp .notN (.var 3) (.cst .ah)) [.bad] [],
 .ret (.call gK (.c (.var 1) (.c (.own (.var 0) [83,99,111,112,101] [108,105,107,101,110,101,115,115,101,115,95,103,105,118,101,110] cU .n) .n)))]⟩
noncomputable def cv:List St:=[.put (.var 1) (.var 3) (.tup (.c (.cst (.str [118,97,114])) (.c (.var 2) .n))),.aug 2 .add (.cst (.int 1))]
noncomputable def fg:Fn:=⟨1,4,[
 .set 1 (.ag .n),
 .set 2 (.blt .len (.fld (.var 0) [98,111,117,110,100])),
 .for (.var 3) (.rev (.fld (.var 0) [110,101,101,100,115])) cv,
 .ret (.var 1)]⟩
noncomputable def mM:Fn:=⟨3,3,[
 .ret (.oF [([110,117,109,98,101,114],iG),([121,101,115],dP),([110,111],dP),([110,97,109,101],b8),([99,97,108,108],b8),([116,111,108,100],jX),([98,111,116,104],iI),([102,111,108,100],jY),([108,101,116],lB),([115,117,109],dz),([108,101,115,115],dz),([108,105,107,101],jO)] (.idx (.var 0) (.cst (.int 0))) (.c (.var 0) (.c (.var 1) (.c (.var 2) .n))))]⟩
noncomputable def jH:Fn:=⟨4,4,[
 .iff (.wL (.idx (.var 0) (.cst (.int 0))) [[110,97,109,101],[102,117,110],[99,97,108,108],[98,111,116,104],[114,111,119,111,102],[97,104,101,97,100],[105,102],[108,101,116]]) [.ret (.oF [([110,97,109,101],ck),([102,117,110],i7),([99,97,108,108],ck),([98,111,116,104],iw),([114,111,119,111,102],gz),([97,104,101,97,100],gM),([105,102],jP)] (.idx (.var 0) (.cst (.int 0))) (.c (.var 0) (.c (.var 1) (.c (.var 2) (.c (.var 3) .n)))))] [],
 .ret (.call f7 (.c (.var 0) (.c (.var 1) (.c (.var 2) (.c (.var 3) .n)))))]⟩
noncomputable def mf:Fn:=⟨4,6,[
 .eS 4 5 (.call bY (.c (.var 0) (.c (.var 2) (.c (.var 3) .n)))),
 .iff (.cmp .ne (.var 5) (.var 1)) [.bad] [],
 .ret (.var 4)]⟩
noncomputable def j9:Fn:=⟨3,3,[
 .ret (.tup (.c (.var 0) (.c (.cst (.tup [(.str [110,117,109,98,101,114])])) .n)))]⟩
noncomputable def i4:Fn:=⟨3,3,[
 .ret (.tup (.c (.var 0) (.c (.cst (.tup [(.str [116,114,117,116,104])])) .n)))]⟩
noncomputable def gJ:List St:=[.iff (.cmp .notin (.var 3) (.fld (.var 2) [102,114,101,101])) [.bad] []]
noncomputable def mK:Fn:=⟨3,4,[
 .for (.var 3) (.seq (.call gZ (.c (.idx (.var 0) (.cst (.int 2))) .n))) gJ,
 .ret (.tup (.c (.call aY (.c (.idx (.var 0) (.cst (.int 1))) (.c (.idx (.var 0) (.cst (.int 2))) (.c (.bin .add (.var 1) (.tup (.c (.cst (.int 0)) .n))) (.c (.var 2) .n))))) (.c (.idx (.var 0) (.cst (.int 2))) .n)))]⟩
noncomputable def pC:Fn:=⟨4,5,[
 .iff (.cmp .ne (.idx (.var 1) (.cst (.int 0))) q0) [.bad] [],
 .set 4 (.call aY (.c (.idx (.var 0) (.cst (.int 2))) (.c (.idx (.var 1) (.cst (.int 2))) (.c (.bin .add (.var 2) (.tup (.c (.cst (.int 0)) .n))) (.c (.own (.var 3) [83,99,111,112,101] [98,105,110,100] jx (.c (.idx (.var 0) (.cst (.int 1))) (.c (.idx (.var 1) (.cst (.int 1))) .n))) .n))))),
 .ret (.tup (.c q1 (.c (.idx (.var 1) (.cst (.int 1))) (.c (.var 4) .n))))]⟩
noncomputable def rT:Fn:=⟨3,7,[
 .eS 3 4 (.call bY (.c (.idx (.var 0) (.cst (.int 1))) (.c (.bin .add (.var 1) (.tup (.c (.cst (.int 0)) .n))) (.c (.var 2) .n)))),
 .eS 5 6 (.call bY (.c (.idx (.var 0) (.cst (.int 2))) (.c (.bin .add (.var 1) (.tup (.c (.cst (.int 1)) .n))) (.c (.var 2) .n)))),
 .ret (.tup (.c (.tup (.c AF (.c (.var 3) (.c (.var 5) .n)))) (.c (.tup (.c q7 (.c (.var 4) (.c (.var 6) .n)))) .n)))]⟩
noncomputable def n9:Fn:=⟨4,6,[
 .iff (.cmp .ne (.idx (.var 1) (.cst (.int 0))) q7) [.bad] [],
 .set 4 (.call aY (.c (.idx (.var 0) (.cst (.int 1))) (.c (.idx (.var 1) (.cst (.int 1))) (.c (.bin .add (.var 2) (.tup (.c (.cst (.int 0)) .n))) (.c (.var 3) .n))))),
 .set 5 (.call aY (.c (.idx (.var 0) (.cst (.int 2))) (.c (.idx (.var 1) (.cst (.int 2))) (.c (.bin .add (.var 2) (.tup (.c (.cst (.int 1)) .n))) (.c (.var 3) .n))))),
 .ret (.tup (.c AF (.c (.var 4) (.c (.var 5) .n))))]⟩
noncomputable def pQ:E:=(.call aY (.c (.var 6) (.c (.idx (.var 1) (.cst (.int 1))) (.c (.bin .add (.var 2) (.tup (.c (.var 5) .n))) (.c (.var 3) .n)))))
noncomputable def jD:Fn:=⟨4,5,[
 .iff (.cmp .eq (.idx (.var 1) (.cst (.int 0))) q4) [.set 4 (.fY pQ (.enum (.idx (.var 0) (.cst (.int 1))))),.ret (.call oB (.c (.var 4) (.c (.idx (.var 1) (.cst (.int 1))) .n)))] [],
 .bad,
 .bad]⟩
noncomputable def vQ:List St:=[.bad]
noncomputable def oX:Fn:=⟨2,4,[
 .set 2 (.tup (.c (.cst (.str [110,111,110,101])) (.c (.var 1) .n))),
 .for (.var 3) (.rev (.var 0)) vQ,
 .ret (.var 2)]⟩
noncomputable def mL:Fn:=⟨4,6,[
 .iff (.cmp .ne (.idx (.var 1) (.cst (.int 0))) q4) [.bad] [],
 .set 4 (.call aY (.c (.idx (.var 0) (.cst (.int 1))) (.c (.idx (.var 1) (.cst (.int 1))) (.c (.bin .add (.var 2) (.tup (.c (.cst (.int 0)) .n))) (.c (.var 3) .n))))),
 .set 5 (.call aY (.c (.idx (.var 0) (.cst (.int 2))) (.c (.var 1) (.c (.bin .add (.var 2) (.tup (.c (.cst (.int 1)) .n))) (.c (.var 3) .n))))),
 .ret (.tup (.c (.cst (.str [109,111,114,101])) (.c (.var 4) (.c (.var 5) .n))))]⟩
noncomputable def rG:Fn:=⟨3,8,[
 .eS 3 4 (.call bY (.c (.idx (.var 0) (.cst (.int 1))) (.c (.bin .add (.var 1) (.tup (.c (.cst (.int 0)) .n))) (.c (.var 2) .n)))),
 .iff (.cmp .ne (.idx (.var 4) (.cst (.int 0))) q4) [.bad] [],
 .eS 5 6 (.call bY (.c (.idx (.var 0) (.cst (.int 2))) (.c (.bin .add (.var 1) (.tup (.c (.cst (.int 1)) .n))) (.c (.var 2) .n)))),
 .set 7 (.call aY (.c (.idx (.var 0) (.cst (.int 3))) (.c (.tup (.c q0 (.c (.idx (.var 4) (.cst (.int 1))) (.c (.tup (.c q0 (.c (.var 6) (.c (.var 6) .n)))) .n)))) (.c (.bin .add (.var 1) (.tup (.c (.cst (.int 2)) .n))) (.c (.var 2) .n))))),
 .ret (.tup (.c (.tup (.c IU (.c (.var 3) (.c (.var 5) (.c (.var 7) .n))))) (.c (.var 6) .n)))]⟩
noncomputable def rO:Fn:=⟨4,7,[
 .set 4 (.call aY (.c (.idx (.var 0) (.cst (.int 1))) (.c (.cst (.tup [(.str [116,114,117,116,104])])) (.c (.bin .add (.var 2) (.tup (.c (.cst (.int 0)) .n))) (.c (.var 3) .n))))),
 .set 5 (.call aY (.c (.idx (.var 0) (.cst (.int 2))) (.c (.var 1) (.c (.bin .add (.var 2) (.tup (.c (.cst (.int 1)) .n))) (.c (.var 3) .n))))),
 .set 6 (.call aY (.c (.idx (.var 0) (.cst (.int 3))) (.c (.var 1) (.c (.bin .add (.var 2) (.tup (.c (.cst (.int 2)) .n))) (.c (.var 3) .n))))),
 .ret (.tup (.c (.cst (.str [105,102])) (.c (.var 4) (.c (.var 5) (.c (.var 6) .n)))))]⟩
noncomputable def u5:Fn:=⟨3,7,[
 .eS 3 4 (.call bY (.c (.idx (.var 0) (.cst (.int 2))) (.c (.bin .add (.var 1) (.tup (.c (.cst (.int 0)) .n))) (.c (.var 2) .n)))),
 .bad,
 .bad]⟩
noncomputable def mi:Fn:=⟨3,5,[
 .set 3 (.call aY (.c (.idx (.var 0) (.cst (.int 1))) (.c (.cst (.tup [(.str [110,117,109,98,101,114])])) (.c (.bin .add (.var 1) (.tup (.c (.cst (.int 0)) .n))) (.c (.var 2) .n))))),
 .set 4 (.call aY (.c (.idx (.var 0) (.cst (.int 2))) (.c (.cst (.tup [(.str [110,117,109,98,101,114])])) (.c (.bin .add (.var 1) (.tup (.c (.cst (.int 1)) .n))) (.c (.var 2) .n))))),
 .ret (.tup (.c (.tup (.c (.idx (.var 0) (.cst (.int 0))) (.c (.var 3) (.c (.var 4) .n)))) (.c (.ite (.cmp .eq (.idx (.var 0) (.cst (.int 0))) (.cst (.str [115,117,109]))) (.cst (.tup [(.str [110,117,109,98,101,114])])) (.cst (.tup [(.str [116,114,117,116,104])]))) .n)))]⟩
noncomputable def sL:Fn:=⟨3,6,[
 .eS 3 4 (.call bY (.c (.idx (.var 0) (.cst (.int 1))) (.c (.bin .add (.var 1) (.tup (.c (.cst (.int 0)) .n))) (.c (.var 2) .n)))),
 .set 5 (.call aY (.c (.idx (.var 0) (.cst (.int 2))) (.c (.var 4) (.c (.bin .add (.var 1) (.tup (.c (.cst (.int 1)) .n))) (.c (.var 2) .n))))),
 .ret (.tup (.c (.tup (.c q3 (.c (.tup (.c q3 (.c (.own (.var 2) [83,99,111,112,101] [108,105,107,101,110,101,115,115,95,111,102] eU (.c (.var 4) (.c (.var 1) .n))) (.c (.var 3) .n)))) (.c (.var 5) .n)))) (.c (.cst (.tup [(.str [116,114,117,116,104])])) .n)))]⟩
noncomputable def j5:Fn:=⟨3,3,[
 .ret (.call gk (.c (.var 0) (.c (.cst .ah) (.c (.var 1) (.c (.var 2) .n)))))]⟩
noncomputable def mh:Fn:=⟨4,6,[
 .eS 4 5 (.call gk (.c (.var 0) (.c (.var 1) (.c (.var 2) (.c (.var 3) .n))))),
 .iff (.cmp .ne (.var 5) (.var 1)) [.bad] [],
 .ret (.var 4)]⟩
noncomputable def eL:E:=(.cmp .eq (.idx (.var 5) (.cst (.int 0))) q3)
noncomputable def j6:List St:=[.expr (.c7 .append (.var 4) (.c (.tup (.c (.idx (.var 5) (.cst (.int 2))) (.c (.var 6) .n))) .n)),.set 5 (.idx (.var 5) (.cst (.int 1))),.set 6 (.bin .add (.var 6) (.tup (.c (.cst (.int 0)) .n)))]
noncomputable def k4:Fn:=⟨4,9,[
 .set 4 (.lst .n),
 .set 5 (.var 0),
 .set 6 (.var 2),
 .vZ eL j6,
 .expr (.c7 .rev (.var 4) .n),
 .iff (.cmp .ne (.idx (.var 5) (.cst (.int 0))) q2) [.bad] [.iff (.own (.var 3) [83,99,111,112,101] [105,115,95,98,111,117,110,100] dR (.c (.idx (.var 5) (.cst (.int 1))) .n)) [.eS 7 8 (.own (.var 3) [83,99,111,112,101] [118,97,114,95,111,102] fG (.c (.idx (.var 5) (.cst (.int 1))) .n))] [.ret (.call cZ (.c (.idx (.var 5) (.cst (.int 1))) (.c (.var 6) (.c (.var 4) (.c (.var 1) (.c (.var 2) (.c (.var 3) .n)))))))]],
 .ret (.call fZ (.c (.var 7) (.c (.var 8) (.c (.var 4) (.c (.var 3) .n)))))]⟩
noncomputable def gj:List St:=[.iff (.cmp .ne (.idx (.var 1) (.cst (.int 0))) q0) [.bad] [],.set 0 (.tup (.c q3 (.c (.var 0) (.c (.call aY (.c (.var 4) (.c (.idx (.var 1) (.cst (.int 1))) (.c (.bin .add (.var 5) (.tup (.c (.cst (.int 1)) .n))) (.c (.var 3) .n))))) .n)))),.set 1 (.idx (.var 1) (.cst (.int 2)))]
noncomputable def iR:Fn:=⟨4,6,[
 .for (.two 4 5) (.seq (.var 2)) gj,
 .ret (.tup (.c (.var 0) (.c (.var 1) .n)))]⟩
noncomputable def bT:E:=(.tup (.c (.var 15) (.c (.tup (.c Ap (.c (.var 14) .n))) .n)))
noncomputable def dF:List St:=[.iff (.cmp .eq (.idx (.var 8) (.cst (.int 0))) Ap) [.bad] [],.iff (.cmp .ne (.idx (.var 8) (.cst (.int 0))) q0) [.bad] [],.eS 13 9 (.call kY (.c (.var 11) (.c (.idx (.var 8) (.cst (.int 1))) (.c (.var 9) (.c (.bin .add (.var 12) (.tup (.c (.cst (.int 1)) .n))) (.c (.var 5) .n)))))),.expr (.c7 .append (.var 10) (.c (.var 13) .n)),.set 8 (.idx (.var 8) (.cst (.int 2)))]
noncomputable def dE:List St:=[.set 13 (.tup (.c q3 (.c (.var 13) (.c (.var 11) .n))))]
noncomputable def g9:Fn:=⟨6,14,[
 .iff (.cmp .notin (.var 0) (.fld (.fld (.var 5) [115,104,101,108,102]) [110,117,109,98,101,114,115])) [.raise [85,110,98,111,117,110,100] [[112,108,97,99,101],[110,97,109,101]] (.c (.var 1) (.c (.var 0) .n))] [],
 .set 6 (.idx (.fld (.fld (.var 5) [115,104,101,108,102]) [110,117,109,98,101,114,115]) (.var 0)),
 .set 7 (.idx (.fld (.fld (.var 5) [115,104,101,108,102]) [100,101,102,105,110,105,116,105,111,110,115]) (.var 6)),
 .set 8 (.call jE (.c (.fld (.var 7) [107,105,110,100]) (.c (.blt .dictP (.fY bT (.enum (.fld (.var 7) [102,114,101,101])))) .n))),
 .set 9 (.ag .n),
 .set 10 (.lst .n),
 .for (.two 11 12) (.seq (.var 2)) dF,
 .set 9 (.call lq (.c (.var 8) (.c (.var 3) (.c (.var 9) (.c (.var 4) .n))))),
 .set 13 (.call gS (.c (.var 6) (.c (.var 7) (.c (.var 9) (.c (.var 1) (.c (.var 5) .n)))))),
 .for (.var 11) (.seq (.var 10)) dE,
 .ret (.tup (.c (.var 13) (.c (.call f6 (.c (.var 8) (.c (.var 9) .n))) .n)))]⟩
noncomputable def pv:Fn:=⟨5,9,[
 .set 5 (.call f6 (.c (.var 1) (.c (.var 2) .n))),
 .iff (.not (.call iZ (.c (.var 1) (.c (.var 2) .n)))) [.bad] [],
 .eS 6 7 (.call bY (.c (.var 0) (.c (.var 3) (.c (.var 4) .n)))),
 .set 8 (.call tj (.c (.var 1) (.c (.var 7) (.c (.var 2) .n)))),
 .iff (.cmp .isN (.var 8) (.cst .ah)) [.bad] [],
 .ret (.tup (.c (.var 6) (.c (.var 8) .n)))]⟩
noncomputable def pJ:Fn:=⟨4,5,[
 .iff (.cmp .isN (.var 1) (.cst .ah)) [.iff (.call iZ (.c (.var 0) (.c (.var 2) .n))) [.bad] [],.ret (.var 2)] [],
 .set 4 (.call tj (.c (.var 0) (.c (.var 1) (.c (.var 2) .n)))),
 .iff (.cmp .isN (.var 4) (.cst .ah)) [.bad] [],
 .ret (.var 4)]⟩
noncomputable def eX:E:=(.idx (.var 2) (.var 8))
noncomputable def mF:List St:=[.bad,.bad]
noncomputable def jN:Fn:=⟨5,8,[
 .set 5 (.tup (.c (.cst (.str [100,101,102])) (.c (.var 0) (.c (.blt .tuple (.comp eX (.fN (.blt .len (.fld (.var 1) [102,114,101,101]))) .none)) .n)))),
 .for (.var 6) (.seq (.fld (.var 1) [110,101,101,100,115])) mF,
 .ret (.var 5)]⟩
noncomputable def jy:Fn:=⟨1,1,[
 .eQ (.var 0) [100,101,102,105,110,105,116,105,111,110,115] (.lst .n),
 .eQ (.var 0) [110,117,109,98,101,114,115] (.ag .n)]⟩
noncomputable def mY:Fn:=⟨6,7,[
 .iff (.cmp .isin (.var 1) (.fld (.var 0) [110,117,109,98,101,114,115])) [.bad] [],
 .expr (.call hZ (.c (.var 2) (.c (.var 3) (.c (.var 4) .n)))),
 .set 6 (.call aY (.c (.var 5) (.c (.var 4) (.c (.tup .n) (.c (.mk [83,99,111,112,101] fo (.c (.var 0) (.c (.var 2) (.c (.var 3) (.c (.tup .n) .n))))) .n))))),
 .put (.fld (.var 0) [110,117,109,98,101,114,115]) (.var 1) (.blt .len (.fld (.var 0) [100,101,102,105,110,105,116,105,111,110,115])),
 .expr (.c7 .append (.fld (.var 0) [100,101,102,105,110,105,116,105,111,110,115]) (.c (.mk [68,101,102,105,110,105,116,105,111,110] fO (.c (.var 2) (.c (.var 3) (.c (.var 4) (.c (.var 6) .n))))) .n))]⟩
noncomputable def iV:Fn:=⟨2,2,[
 .ret (.call bY (.c (.var 1) (.c (.tup .n) (.c (.own (.var 0) [83,104,101,108,102] [111,117,116,115,105,100,101] gG .n) .n))))]⟩
noncomputable def gB:Fn:=⟨1,1,[
 .ret (.mk [83,99,111,112,101] fo (.c (.var 0) (.c (.lst .n) (.c (.lst .n) (.c (.tup .n) .n)))))]⟩
noncomputable def nS:List St:=[.iff (.cmp .notin (.var 4) (.var 0)) [.bad] []]
noncomputable def nO:List St:=[.iff (.cmp .notin (.var 4) (.var 3)) [.bad] []]
noncomputable def nP:List St:=[.iff (.cmp .notin (.var 5) (.var 0)) [.bad] []]
noncomputable def km:Fn:=⟨3,6,[
 .set 3 (.call gZ (.c (.var 2) .n)),
 .for (.var 4) (.seq (.var 3)) nS,
 .for (.var 4) (.seq (.var 0)) nO,
 .for (.var 5) (.seq (.var 1)) nP]⟩
noncomputable def uV:Fn:=⟨2,3,[
 .set 2 (.ite (.cmp .ne (.idx (.var 0) (.cst (.int 1))) (.lst .n)) (.idx (.idx (.var 0) (.cst (.int 1))) (.bin .mod (.idx (.var 0) (.cst (.int 2))) (.blt .len (.idx (.var 0) (.cst (.int 1)))))) (.cst (.int 0))),
 .put (.var 0) (.cst (.int 0)) (.bin .mod (.bin .add (.bin .add (.bin .mul (.idx (.var 0) (.cst (.int 0))) (.cst (.int 48271))) (.bin .mul (.var 2) (.cst (.int 69621)))) (.cst (.int 11))) (.cst (.int 2147483647))),
 .put (.var 0) (.cst (.int 2)) (.bin .add (.idx (.var 0) (.cst (.int 2))) (.cst (.int 1))),
 .ret (.bin .mod (.bin .fdiv (.idx (.var 0) (.cst (.int 0))) (.cst (.int 7))) (.var 1))]⟩
noncomputable def vD:E:=(.idx (.var 1) (.call cF (.c (.var 0) (.c (.cst (.int 26)) .n))))
noncomputable def tU:Fn:=⟨1,2,[
 .set 1 (.cst (.str [97,98,99,100,101,102,103,104,105,106,107,108,109,110,111,112,113,114,115,116,117,118,119,120,121,122])),
 .ret (.c7 .join (.cst (.str [])) (.c (.comp vD (.fN (.bin .add (.cst (.int 1)) (.call cF (.c (.var 0) (.c (.cst (.int 8)) .n))))) .none) .n))]⟩
noncomputable def iA:E:=(.bin .add (.bin .add (.var 1) q6) (.var 17))
noncomputable def iD:E:=(.bin .add (.bin .add (.var 17) q6) (.var 1))
noncomputable def oy:Fn:=⟨1,17,[
 .set 1 (.sl (.call kS (.c (.var 0) .n)) .none (.some (.cst (.int 6)))),
 .set 2 (.blt .listS (.cst (.str [97,98,99,100,101,102,103,104,105,106,107]))),
 .set 3 (.ite (.cmp .eq (.call cF (.c (.var 0) (.c (.cst (.int 2)) .n))) (.cst (.int 0))) (.comp iA (.seq (.var 2)) .none) (.comp iD (.seq (.var 2)) .none)),
 .set 4 (.sl (.call kS (.c (.var 0) .n)) .none (.some (.cst (.int 7)))),
 .set 5 (.bin .add (.var 4) (.cst (.str [107]))),
 .set 6 (.tup (.c q8 (.c (.var 4) .n))),
 .set 7 (.tup (.c q8 (.c (.var 5) .n))),
 .set 8 (.tup (.c q2 (.c q6 .n))),
 .set 9 (.tup (.c q2 (.c q9 .n))),
 .set 10 (.tup (.c q1 (.c q9 (.c (.tup (.c q1 (.c DP (.c (.tup (.c (.cst (.str [105,102])) (.c (.tup (.c Mw (.c (.var 8) (.c (.var 9) .n)))) (.c (.tup (.c Ew .n)) (.c (.tup (.c q2 (.c DP .n))) .n))))) .n)))) .n)))),
 .set 11 (.tup (.c q1 (.c q9 (.c (.tup (.c q1 (.c DP (.c (.tup (.c (.cst (.str [97,104,101,97,100])) (.c (.tup (.c q3 (.c (.var 8) (.c (.var 9) .n)))) (.c (.tup (.c q2 (.c DP .n))) .n)))) .n)))) .n)))),
 .set 12 (.tup (.c (.cst (.str [116,111,108,100])) (.c (.tup (.c yW (.c (.tup .n) .n))) (.c (.tup (.c q4 (.c (.var 7) .n))) .n)))),
 .set 13 (.tup (.c q7 (.c (.var 6) (.c (.var 7) .n)))),
 .set 14 (.tup (.c xn .n)),
 .set 15 (.lst (.c (.tup (.c (.idx (.var 3) (.cst (.int 0))) (.c (.lst (.c (.var 4) .n)) (.c (.lst .n) (.c (.tup (.c q0 (.c (.var 6) (.c (.var 6) .n)))) (.c (.tup (.c q1 (.c q6 (.c (.var 8) .n)))) .n)))))) .n)),
 .expr (.c7 .append (.var 15) (.c (.tup (.c (.idx (.var 3) (.cst (.int 1))) (.c (.lst (.c (.var 5) (.c (.var 4) .n))) (.c (.lst .n) (.c (.tup (.c q0 (.c (.var 6) (.c (.tup (.c q0 (.c (.var 7) (.c (.var 13) .n)))) .n)))) (.c (.tup (.c q1 (.c q6 (.c (.tup (.c q1 (.c q9 (.c (.tup (.c AF (.c (.var 8) (.c (.var 9) .n)))) .n)))) .n)))) .n)))))) .n)),
 .set 16 (.tup (.c q1 (.c q6 (.c (.tup (.c q1 (.c wU (.c (.tup (.c IU (.c (.tup (.c q2 (.c wU .n))) (.c (.tup (.c (.cst (.str [110,111])) .n)) (.c (.var 10) .n))))) .n)))) .n)))),
 .expr (.c7 .append (.var 15) (.c (.tup (.c (.idx (.var 3) (.cst (.int 2))) (.c (.lst (.c (.var 4) .n)) (.c (.lst (.c (.var 4) .n)) (.c (.tup (.c q0 (.c (.var 6) (.c (.tup (.c q0 (.c (.tup (.c q4 (.c (.var 6) .n))) (.c (.var 14) .n)))) .n)))) (.c (.var 16) .n)))))) .n)),
 .set 16 (.tup (.c q1 (.c q6 (.c (.tup (.c q1 (.c wU (.c (.tup (.c IU (.c (.tup (.c q2 (.c wU .n))) (.c (.var 12) (.c (.var 11) .n))))) .n)))) .n)))),
 .expr (.c7 .append (.var 15) (.c (.tup (.c (.idx (.var 3) (.cst (.int 3))) (.c (.lst (.c (.var 4) (.c (.var 5) .n))) (.c (.lst .n) (.c (.tup (.c q0 (.c (.tup (.c q0 (.c (.var 6) (.c (.var 7) .n)))) (.c (.tup (.c q0 (.c (.tup (.c q4 (.c (.var 6) .n))) (.c (.tup (.c q4 (.c (.var 7) .n))) .n)))) .n)))) (.c (.var 16) .n)))))) .n)),
 .set 16 (.tup (.c q1 (.c q6 (.c (.tup (.c q1 (.c q9 (.c (.tup (.c Mw (.c (.var 8) (.c (.var 9) .n)))) .n)))) .n)))),
 .expr (.c7 .append (.var 15) (.c (.tup (.c (.idx (.var 3) (.cst (.int 4))) (.c (.lst (.c (.var 4) (.c (.var 5) .n))) (.c (.lst (.c (.var 5) (.c (.var 4) .n))) (.c (.tup (.c q0 (.c (.var 13) (.c (.tup (.c q0 (.c (.var 13) (.c (.var 14) .n)))) .n)))) (.c (.var 16) .n)))))) .n)),
 .set 16 (.tup (.c q1 (.c q6 (.c (.tup (.c (.cst (.str [115,117,109])) (.c (.var 8) (.c (.tup (.c q3 (.c (.tup (.c q2 (.c (.idx (.var 3) (.cst (.int 0))) .n))) (.c (.tup (.c q5 (.c (.bin .add (.cst (.int 1)) (.call cF (.c (.var 0) (.c (.cst (.int 9)) .n)))) .n))) .n)))) .n)))) .n)))),
 .expr (.c7 .append (.var 15) (.c (.tup (.c (.idx (.var 3) (.cst (.int 5))) (.c (.lst .n) (.c (.lst .n) (.c (.tup (.c q0 (.c (.tup (.c q5 .n)) (.c (.tup (.c q5 .n)) .n)))) (.c (.var 16) .n)))))) .n)),
 .ret (.bin .add (.var 15) (.call mX (.c (.var 3) (.c (.var 4) (.c (.var 5) .n)))))]⟩
noncomputable def sI:Fn:=⟨3,11,[
 .set 3 (.tup (.c q8 (.c (.var 1) .n))),
 .set 4 (.tup (.c q8 (.c (.var 2) .n))),
 .set 5 (.tup (.c q2 (.c q6 .n))),
 .set 6 (.tup (.c q2 (.c q9 .n))),
 .set 7 (.tup (.c q7 (.c (.var 3) (.c (.var 4) .n)))),
 .set 8 (.lst .n),
 .set 9 (.tup (.c q1 (.c q9 (.c (.tup (.c q1 (.c q6 (.c (.tup (.c q3 (.c (.var 6) (.c (.tup (.c q3 (.c (.var 6) (.c (.var 5) .n)))) .n)))) .n)))) .n)))),
 .expr (.c7 .append (.var 8) (.c (.tup (.c (.idx (.var 0) (.cst (.int 6))) (.c (.lst (.c (.var 1) .n)) (.c (.lst .n) (.c (.tup (.c q0 (.c (.tup (.c q0 (.c (.var 3) (.c (.var 3) .n)))) (.c (.tup (.c q0 (.c (.var 3) (.c (.var 3) .n)))) .n)))) (.c (.var 9) .n)))))) .n)),
 .expr (.c7 .append (.var 8) (.c (.tup (.c (.idx (.var 0) (.cst (.int 7))) (.c (.lst (.c (.var 2) .n)) (.c (.lst .n) (.c (.tup (.c q4 (.c (.var 4) .n))) (.c (.tup (.c yW (.c (.tup .n) .n))) .n)))))) .n)),
 .set 9 (.tup (.c q3 (.c (.tup (.c q3 (.c (.tup (.c q2 (.c (.idx (.var 0) (.cst (.int 2))) .n))) (.c (.tup (.c yW (.c (.tup (.c (.var 5) .n)) .n))) .n)))) (.c (.tup (.c q2 (.c wU .n))) .n)))),
 .set 10 (.tup (.c q4 (.c (.tup (.c q4 (.c (.var 3) .n))) .n))),
 .set 9 (.tup (.c q1 (.c q6 (.c (.tup (.c q1 (.c wU (.c (.var 9) .n)))) .n)))),
 .expr (.c7 .append (.var 8) (.c (.tup (.c (.idx (.var 0) (.cst (.int 8))) (.c (.lst (.c (.var 1) .n)) (.c (.lst (.c (.var 1) .n)) (.c (.tup (.c q0 (.c (.var 3) (.c (.tup (.c q0 (.c (.var 10) (.c (.tup (.c xn .n)) .n)))) .n)))) (.c (.var 9) .n)))))) .n)),
 .set 9 (.tup (.c q3 (.c (.tup (.c q2 (.c (.idx (.var 0) (.cst (.int 0))) .n))) (.c (.tup (.c q3 (.c (.tup (.c q2 (.c (.idx (.var 0) (.cst (.int 0))) .n))) (.c (.var 5) .n)))) .n)))),
 .expr (.c7 .append (.var 8) (.c (.tup (.c (.idx (.var 0) (.cst (.int 9))) (.c (.lst (.c (.var 2) (.c (.var 1) .n))) (.c (.lst .n) (.c (.tup (.c q0 (.c (.var 4) (.c (.tup (.c q0 (.c (.var 3) (.c (.var 3) .n)))) .n)))) (.c (.tup (.c q1 (.c q9 (.c (.tup (.c q1 (.c q6 (.c (.var 9) .n)))) .n)))) .n)))))) .n)),
 .set 9 (.tup (.c q1 (.c q6 (.c (.tup (.c q1 (.c q9 (.c (.tup (.c (.cst (.str [114,105,103,104,116])) (.c (.var 6) .n))) .n)))) .n)))),
 .expr (.c7 .append (.var 8) (.c (.tup (.c (.idx (.var 0) (.cst (.int 10))) (.c (.lst (.c (.var 1) (.c (.var 2) .n))) (.c (.lst .n) (.c (.tup (.c q0 (.c (.var 3) (.c (.tup (.c q0 (.c (.var 7) (.c (.var 4) .n)))) .n)))) (.c (.var 9) .n)))))) .n)),
 .ret (.var 8)]⟩
noncomputable def nY:Fn:=⟨2,3,[
 .qF (.var 0) [83,104,101,108,102] [119,114,105,116,101] eC (.c (.var 1) .n) [85,110,98,111,117,110,100] 2 [[112,108,97,99,101],[110,97,109,101]] none,
 .bad]⟩
noncomputable def vf:List St:=[.iff (.or (.cmp .eq (.var 9) (.cst (.int 2))) (.cmp .eq (.var 9) (.var 10))) [.iff (.and (.cmp .notin (.cst (.int 0)) (.idx (.var 4) (.var 10))) (.cmp .ne (.call eG (.c (.idx (.var 3) (.var 10)) (.c (.var 6) .n))) (.tup (.c (.tup (.c (.cst (.int 1)) (.c (.cst (.int 0)) .n))) (.c (.idx (.idx (.var 2) (.cst (.int 0))) (.cst (.int 0))) .n))))) [.bad] [],.iff (.or (.cmp .ne (.var 8) (.cst (.int 5))) (.cmp .isin (.cst (.int 0)) (.idx (.var 4) (.var 10)))) [.set 11 (.idx (.var 2) (.var 8)),.expr (.own (.idx (.var 3) (.var 10)) [83,104,101,108,102] [116,101,108,108] gY (.c (.idx (.var 11) (.cst (.int 0))) (.c (.blt .list (.idx (.var 11) (.cst (.int 1)))) (.c (.blt .list (.idx (.var 11) (.cst (.int 2)))) (.c (.idx (.var 11) (.cst (.int 3))) (.c (.idx (.var 11) (.cst (.int 4))) .n)))))),.put (.var 4) (.var 10) (.bin .add (.idx (.var 4) (.var 10)) (.lst (.c (.var 8) .n)))] []] []]
noncomputable def k7:List St:=[.set 9 (.call cF (.c (.var 1) (.c (.cst (.int 3)) .n))),.for (.var 10) (.fN (.cst (.int 2))) vf]
noncomputable def lJ:List St:=[.set 12 (.tup (.c (.cst (.str [108,101,116])) (.c (.cst (.str [119])) (.c (.tup (.c q2 (.c (.idx (.idx (.var 2) (.var 8)) (.cst (.int 0))) .n))) (.c (.tup (.c Ew .n)) .n))))),.iff (.and (.cmp .notin (.var 8) (.idx (.var 4) (.var 10))) (.cmp .ne (.call eG (.c (.idx (.var 3) (.var 10)) (.c (.var 12) .n))) (.tup (.c (.tup (.c (.cst (.int 0)) .n)) (.c (.idx (.idx (.var 2) (.var 8)) (.cst (.int 0))) .n))))) [.bad] []]
noncomputable def uJ:List St:=[.iff (.cmp .ne (.own (.idx (.var 3) (.var 10)) [83,104,101,108,102] [119,114,105,116,101] eC (.c (.var 6) .n)) (.tup (.c (.tup (.c AF (.c (.tup (.c Ew .n)) (.c (.var 13) .n)))) (.c (.var 7) .n)))) [.bad] []]
noncomputable def va:List St:=[.for (.var 8) (.fN (.cst (.int 8))) lJ,.iff (.cmp .isin (.cst (.int 0)) (.idx (.var 4) (.var 10))) [.set 13 (.tup (.c q3 (.c (.tup (.c (.cst (.str [100,101,102])) (.c (.c7 .index (.idx (.var 4) (.var 10)) (.c (.cst (.int 0)) .n)) (.c (.tup (.c (.tup (.c q5 .n)) .n)) .n)))) (.c (.var 5) .n)))),.for (.var 14) (.fN (.cst (.int 2))) uJ] []]
noncomputable def DW:Fn:=⟨1,15,[
 .set 1 (.lst (.c (.cst (.int 89)) (.c (.blt .list (.var 0)) (.c (.cst (.int 0)) .n)))),
 .set 2 (.call oz (.c (.var 1) .n)),
 .set 3 (.lst (.c (.mk [83,104,101,108,102] gU .n) (.c (.mk [83,104,101,108,102] gU .n) .n))),
 .set 4 (.lst (.c (.lst .n) (.c (.lst .n) .n))),
 .set 5 (.tup (.c q5 (.c (.call cF (.c (.var 1) (.c (.cst (.int 99)) .n))) .n))),
 .set 6 (.tup (.c AF (.c (.tup (.c Ew .n)) (.c (.tup (.c q3 (.c (.tup (.c q2 (.c (.idx (.idx (.var 2) (.cst (.int 0))) (.cst (.int 0))) .n))) (.c (.var 5) .n)))) .n)))),
 .set 7 (.tup (.c q7 (.c (.tup (.c xn .n)) (.c (.tup (.c q5 .n)) .n)))),
 .for (.var 8) (.seq (.lst (.c (.cst (.int 1)) (.c (.cst (.int 2)) (.c (.cst (.int 3)) (.c (.cst (.int 4)) (.c (.cst (.int 6)) (.c (.cst (.int 7)) (.c (.cst (.int 0)) (.c (.cst (.int 5)) .n)))))))))) k7,
 .for (.var 10) (.fN (.cst (.int 2))) va,
 .ret (.cst (.bl true))]⟩
noncomputable def T:List Fn:=[wu,vw,lV,lR,pN,pS,n6,DZ,rA,p5,pB,jW,iY,jj,jr,gm,ib,hJ,fg,mM,jH,mf,j9,i4,mK,pC,rT,n9,jD,oX,mL,rG,rO,u5,mi,sL,j5,mh,k4,iR,g9,pv,pJ,jN,jy,mY,iV,gB,km,uV,tU,oy,sI,nY,DW]
theorem EC:T[ip]?=some wu:=rfl
theorem BW:T[jE]?=some vw:=rfl
theorem sR:T[f6]?=some lV:=rfl
theorem lE:T[dU]?=some lR:=rfl
theorem xA:T[iZ]?=some pN:=rfl
theorem Ln:T[gZ]?=some pS:=rfl
theorem KP:T[fV]?=some n6:=rfl
theorem Lg:T[tj]?=some DZ:=rfl
theorem zq:T[mT]?=some rA:=rfl
theorem xR:T[dX]?=some p5:=rfl
theorem pI:T[gK]?=some pB:=rfl
theorem pZ:T[gQ]?=some jW:=rfl
theorem nQ:T[fO]?=some iY:=rfl
theorem uS:T[fo]?=some jj:=rfl
theorem vm:T[jx]?=some jr:=rfl
theorem oG:T[dR]?=some gm:=rfl
theorem qI:T[fG]?=some ib:=rfl
theorem mj:T[eU]?=some hJ:=rfl
theorem jh:T[cU]?=some fg:=rfl
theorem zK:T[bY]?=some mM:=rfl
theorem rJ:T[aY]?=some jH:=rfl
theorem sU:T[f7]?=some mf:=rfl
theorem vG:T[iG]?=some j9:=rfl
theorem pe:T[dP]?=some i4:=rfl
theorem zF:T[jX]?=some mK:=rfl
theorem xJ:T[i7]?=some pC:=rfl
theorem sk:T[iI]?=some rT:=rfl
theorem vB:T[iw]?=some n9:=rfl
theorem uW:T[gz]?=some jD:=rfl
theorem BV:T[oB]?=some oX:=rfl
theorem uk:T[gM]?=some mL:=rfl
theorem Ag:T[jY]?=some rG:=rfl
theorem Af:T[jP]?=some rO:=rfl
theorem CD:T[lB]?=some u5:=rfl
theorem sS:T[dz]?=some mi:=rfl
theorem zD:T[jO]?=some sL:=rfl
theorem ka:T[b8]?=some j5:=rfl
theorem iT:T[ck]?=some mh:=rfl
theorem lC:T[gk]?=some k4:=rfl
theorem lU:T[fZ]?=some iR:=rfl
theorem hU:T[cZ]?=some g9:=rfl
theorem yj:T[kY]?=some pv:=rfl
theorem qw:T[lq]?=some pJ:=rfl
theorem o7:T[gS]?=some jN:=rfl
theorem uQ:T[gU]?=some jy:=rfl
theorem tH:T[gY]?=some mY:=rfl
theorem lW:T[eC]?=some iV:=rfl
theorem pO:T[gG]?=some gB:=rfl
theorem qS:T[hZ]?=some km:=rfl
theorem OM:T[cF]?=some uV:=rfl
theorem BC:T[kS]?=some tU:=rfl
theorem CV:T[oz]?=some oy:=rfl
theorem Bb:T[mX]?=some sI:=rfl
theorem vK:T[eG]?=some nY:=rfl
theorem L7:T[DK]?=some DW:=rfl
noncomputable abbrev gD:S:=[83,99,111,112,101]
noncomputable abbrev fU:S:=[115,104,101,108,102]
noncomputable abbrev cP:S:=[102,114,101,101]
noncomputable abbrev b6:S:=[110,101,101,100,115]
noncomputable abbrev iP:S:=[98,111,117,110,100]
noncomputable abbrev az:S:=[110,97,109,101]
noncomputable abbrev ll:S:=[102,117,110]
noncomputable abbrev gN:S:=[98,111,116,104]
noncomputable abbrev iJ:S:=[114,111,119,111,102]
noncomputable abbrev pE:S:=[97,104,101,97,100]
noncomputable abbrev LX:S:=[109,111,114,101]
noncomputable abbrev Ef:S:=[110,111,110,101]
noncomputable abbrev fS:S:=[118,97,114]
noncomputable abbrev jt:S:=[121,101,115]
noncomputable abbrev JM:S:=[110,111]
noncomputable abbrev oa:S:=[105,102]
noncomputable abbrev uG:S:=[108,101,116]
noncomputable abbrev aU:S:=[99,97,108,108]
noncomputable abbrev tq:S:=[116,111,108,100]
noncomputable abbrev Cx:=List (S×Kd)
def bd(b:S×Kd):W:=.tup [.str b.1,b.2.af]
noncomputable abbrev dy:S:=[83,104,101,108,102]
noncomputable abbrev gW:S:=[100,101,102,105,110,105,116,105,111,110,115]
noncomputable abbrev gC:S:=[110,117,109,98,101,114,115]
noncomputable abbrev iE:S:=[68,101,102,105,110,105,116,105,111,110]
noncomputable abbrev nB:S:=[107,105,110,100]
noncomputable abbrev pX:S:=[99,111,114,101]
noncomputable abbrev qp:S:=[119,104,111,108,101,95,107,105,110,100]
structure Fx where
 fs:List S
 ns:List S
 told:List S
 z:Option (Nat×S)
noncomputable def bO(i:Int):List S->List (W×W)
 |[]=>[]
 |x::r=>(.str x,.int i)::bO (i+1) r
def k6(h:Hp)(r:Nat)(one:S):Prop:=
 ∃f e co wk,h[r]?=some (.ins iE [(cP,.ref f),(b6,.ref e),(nB,(Kd.work (.any one) (.any one)).af),(pX,co),(qp,wk)])/\h[f]?=some (.lst [.str one])/\h[e]?=some (.lst [])
theorem k6.grow{h h':Hp}{r:Nat}{one:S}(a:k6 h r one)(g:aA h h'):k6 h' r one:=
 let ⟨f,e,co,wk,x1,x2,x3⟩:=a;⟨f,e,co,wk,g.keep _ _ x1,g.keep _ _ x2,g.keep _ _ x3⟩
structure dA(h:Hp)(a d n:Nat)(rs:List Nat)(told:List S)(z:Option (Nat×S)):Prop where
 o:h[a]?=some (.ins dy [(gW,.ref d),(gC,.ref n)])
 l:h[d]?=some (.lst (rs.map W.ref))
 m:h[n]?=some (.ag (bO 0 told))
 e:rs.length=told.length
 z:∀i one,z=some (i,one)->∃r,rs[i]?=some r/\k6 h r one
theorem dA.grow{h h':Hp}{a d n:Nat}{rs:List Nat}{told:List S}{z:Option (Nat×S)}(s:dA h a d n rs told z)(g:aA h h'):dA h' a d n rs told z:=
 ⟨g.keep _ _ s.o,g.keep _ _ s.l,g.keep _ _ s.m,s.e,fun i one e=>let ⟨r,x,y⟩:=s.z i one e;⟨r,x,y.grow g⟩⟩
structure cG(h:Hp)(q:Nat)(sh:W)(fr nd:Nat)(fs:Fx)(Γ:Cx):Prop where
 o:h[q]?=some (.ins gD [(fU,sh),(cP,.ref fr),(b6,.ref nd),(iP,.tup (Γ.map bd))])
 f:h[fr]?=some (.lst (fs.fs.map W.str))
 n:h[nd]?=some (.lst (fs.ns.map W.str))
 d:∃a d n rs,sh=.ref a/\dA h a d n rs fs.told fs.z
theorem cG.grow{h h':Hp}{q:Nat}{sh:W}{fr nd:Nat}{fs:Fx}{Γ:Cx}(s:cG h q sh fr nd fs Γ)(g:aA h h'):cG h' q sh fr nd fs Γ:=
 ⟨g.keep _ _ s.o,g.keep _ _ s.f,g.keep _ _ s.n,let ⟨a,d,n,rs,x,y⟩:=s.d;⟨a,d,n,rs,x,y.grow g⟩⟩
theorem av{f:Nat}{fn:Fn}(e:T[f]?=some fn)(k:Nat)(xs:List W)(h:Hp):run T (k+1) f xs h=bg (run T k) fn xs h:=run_eq e k xs h
theorem ot(k:Nat)(h:Hp)(sh a b c:W):run T (k+1) fo [.ref h.length,sh,a,b,c] (h++[.ins gD []])=.ok .ah (h++[.ins gD [(fU,sh),(cP,a),(b6,b),(iP,c)]]):=by rw[av uS];unfold bg jj;simp[eW]
theorem CY(k:Nat){h:Hp}{q:Nat}{sh:W}{fr nd:Nat}{fs:Fx}{Γ:Cx}(s:cG h q sh fr nd fs Γ)(x:S)(a:Kd)(hl:Γ.length+1<=SZ):
  run T (k+2) jx [.ref q,.str x,a.af] h=.ok (.ref h.length) (h++[.ins gD [(fU,sh),(cP,.ref fr),(b6,.ref nd),(iP,.tup (((x,a)::Γ).map bd))]]):=by
 rw[av vm];unfold bg jr;have hl':1+Γ.length<=SZ:=by omega
 have i:=ot k h sh (.ref fr) (.ref nd) (.tup (((x,a)::Γ).map bd));simp only[List.map_cons,bd] at i;simp[s.o,hl',i,List.lookup,bd]
theorem cG.bind{h:Hp}{q:Nat}{sh:W}{fr nd:Nat}{fs:Fx}{Γ:Cx}(s:cG h q sh fr nd fs Γ)(x:S)(a:Kd):cG (h++[.ins gD [(fU,sh),(cP,.ref fr),(b6,.ref nd),(iP,.tup (((x,a)::Γ).map bd))]]) h.length sh fr nd fs ((x,a)::Γ):=
 ⟨by simp,aF _ s.f,aF _ s.n,(s.grow (aA.app _ _)).d⟩
theorem ou(elt:Env->Hp->R W)(σ:Env)(hk:∀(x:S)(a:Kd)(h:Hp),elt (σ++[some (.str x),some a.af]) h=.ok (.str x) h):∀(Γ:Cx)(acc:List W)(h:Hp),gf (fT elt σ) (Γ.map bd) acc h=.ok (acc++Γ.map fun b=>W.str b.1) h
 |[],acc,h=>by simp
 |b::Γ,acc,h=>by
  have ih:=ou elt σ hk Γ (acc++[W.str b.1]) h;have e:fT elt σ (bd b) acc h=.ok (acc++[W.str b.1]) h:=by simp[bd,fT,hk]
  simp only[List.map_cons,gf,e,R.ak,ih];simp
theorem EF(k:Nat){h:Hp}{q:Nat}{sh:W}{fr nd:Nat}{fs:Fx}{Γ:Cx}(s:cG h q sh fr nd fs Γ)(x:S)(hl:Γ.length<=SZ):
  run T (k+1) dR [.ref q,.str x] h=.ok (.bl (decide (x∈Γ.map (·.1)))) (h++[.lst ((Γ.map (·.1)).map W.str)]):=by
 rw[av oG];unfold bg gm;have w:=ou (ae (run T k) eN) [some (.ref q),some (.str x)] (fun y a h=>by simp[eN]) Γ [] h;have i:=jV (h:=h++[.lst ((Γ.map (·.1)).map W.str)]) (q:=h.length) (l:=Γ.map (·.1)) (by simp) x;simp only[List.map_map,Function.comp_def] at i;simp[s.o,List.lookup,gp,w,dq,hl,i,Function.comp_def]
noncomputable def dB(x:S):Cx->Option (Nat×Kd)
 |[]=>none
 |(y,a)::Γ=>if y=x then some (0,a) else (dB x Γ).map fun r=>(r.1+1,r.2)
theorem jQ{x:S}{a:Kd}:∀{Γ:Cx}{n:Nat},dB x Γ=some (n,a)->eh (.str x) (Γ.map fun b=>W.str b.1)=some n/\Γ[n]?=some (x,a)/\x∈Γ.map (·.1)
 |[],n,e=>by simp[dB] at e
 |(y,b)::Γ,n,e=>by
  unfold dB at e;by_cases c:y=x
  .subst c;simp at e;obtain⟨rfl,rfl⟩:=e;simp[eh]
  .rw[if_neg c] at e;cases g:dB x Γ with
   |none=>rw[g] at e;simp at e
   |some r=>
    rw[g] at e;simp at e;obtain⟨rfl,rfl⟩:=e;obtain⟨h1,h2,h3⟩:=jQ (Γ:=Γ) (n:=r.1) g;have c':¬ x=y:=fun z=>c z.symm;refine⟨by simp[eh,c,h1],by simpa using h2,?_⟩;rw[List.map_cons];exact List.mem_cons_of_mem _ h3
theorem xb:∀Γ:Cx,(Γ.map fun b=>W.str b.1).all isKey=true
 |[]=>rfl
 |b::Γ=>by simp[isKey,xb Γ]
theorem EV(k:Nat){h:Hp}{q:Nat}{sh:W}{fr nd:Nat}{fs:Fx}{Γ:Cx}(s:cG h q sh fr nd fs Γ){x:S}{n:Nat}{a:Kd}(e:dB x Γ=some (n,a))(hl:Γ.length<=SZ):
  run T (k+1) fG [.ref q,.str x] h=.ok (.tup [.tup [.str fS,.int n],a.af]) (h++[.lst ((Γ.map (·.1)).map W.str)]):=by
 obtain⟨h1,h2,h3⟩:=jQ e;rw[av qI];unfold bg ib;have w:=ou (ae (run T k) fP) [some (.ref q),some (.str x),none] (fun y a h=>by simp[fP]) Γ [] h;have o:=aF [O.lst ((Γ.map (·.1)).map W.str)] s.o;simp only[List.map_map,Function.comp_def] at o;have hn:n<Γ.length:=(List.getElem?_eq_some_iff.mp h2).1;have at1:bG (Γ.map bd) (n:Int)=some (bd (x,a)):=by rw[dw _ n (by simpa using hn)];have:=(List.getElem?_eq_some_iff.mp h2).2;simp[this]
 have m:method .index (.ref h.length) [.str x] (h++[O.lst (Γ.map fun b=>W.str b.1)])=.ok (.int n) (h++[O.lst (Γ.map fun b=>W.str b.1)]):=by
  have c:(isKey (.str x)&&(Γ.map fun b=>W.str b.1).all isKey)=true:=by rw[xb];rfl
  unfold method;simp only[dY,c,if_true,h1];rfl
 simp[-method,s.o,List.lookup,gp,w,dq,hl,Function.comp_def,m,o,at1,bd]
def Goes(fs:Fx)(Γ:Cx)(n:Nat)(f:W)(kd:Kd)(c:W):Prop:=
 ∀k,n<=k->∀(pl:List W)(q:Nat)(sh:W)(fr nd:Nat)(h:Hp),pl.length+n<=SZ->Γ.length+n<=SZ->cG h q sh fr nd fs Γ->∃h',run T k aY [f,kd.af,.tup pl,.ref q] h=.ok c h'/\aA h h'
def Comes(fs:Fx)(Γ:Cx)(n:Nat)(f:W)(kd:Kd)(c:W):Prop:=
 ∀k,n<=k->∀(pl:List W)(q:Nat)(sh:W)(fr nd:Nat)(h:Hp),pl.length+n<=SZ->Γ.length+n<=SZ->cG h q sh fr nd fs Γ->∃h',run T k bY [f,.tup pl,.ref q] h=.ok (.tup [c,kd.af]) h'/\aA h h'
section
variable {fs:Fx}{Γ:Cx}
theorem Goes.mono{n m:Nat}{f:W}{kd:Kd}{c:W}(g:Goes fs Γ n f kd c)(l:n<=m):Goes fs Γ m f kd c:=
 fun k hk pl q sh fr nd h hp hg s=>g k (by omega) pl q sh fr nd h (by omega) (by omega) s
theorem Comes.mono{n m:Nat}{f:W}{kd:Kd}{c:W}(g:Comes fs Γ n f kd c)(l:n<=m):Comes fs Γ m f kd c:=
 fun k hk pl q sh fr nd h hp hg s=>g k (by omega) pl q sh fr nd h (by omega) (by omega) s
noncomputable abbrev DV:List (S×Nat):=[([110,117,109,98,101,114],iG),([121,101,115],dP),([110,111],dP),([110,97,109,101],b8),([99,97,108,108],b8),([116,111,108,100],jX),([98,111,116,104],iI),([102,111,108,100],jY),([108,101,116],lB),([115,117,109],dz),([108,101,115,115],dz),([108,105,107,101],jO)]
theorem up_eq(k:Nat){t:S}{g:Nat}(e:DV.lookup t=some g)(r:List W)(a b:W)(h:Hp):run T (k+1) bY [.tup (.str t::r),a,b] h=run T k g [.tup (.str t::r),a,b] h:=by rw[av zK];unfold bg mM;have e':pick DV (.str t)=some g:=e;simp[-pick,e'];cases run T k g [W.tup (W.str t::r),a,b] h<;>simp
noncomputable abbrev ku:List S:=[[110,97,109,101],[102,117,110],[99,97,108,108],[98,111,116,104],[114,111,119,111,102],[97,104,101,97,100],[105,102],[108,101,116]]
noncomputable abbrev En:List (S×Nat):=[([110,97,109,101],ck),([102,117,110],i7),([99,97,108,108],ck),([98,111,116,104],iw),([114,111,119,111,102],gz),([97,104,101,97,100],gM),([105,102],jP)]
theorem down_eq(k:Nat){t:S}{g:Nat}(e:En.lookup t=some g)(m:t∈ku)(r:List W)(a b d:W)(h:Hp):run T (k+1) aY [.tup (.str t::r),a,b,d] h=run T k g [.tup (.str t::r),a,b,d] h:=by rw[av rJ];unfold bg jH;have e':pick En (.str t)=some g:=e;have m':ku.contains t=true:=List.contains_iff_mem.mpr m;simp only[List.length_cons,List.length_nil,if_true,bj,aK,ig,ki,qG,kK,bq,eI,tM,bZ,cH,List.map_cons,List.map_nil,List.cons_append,List.nil_append,List.replicate,List.getElem?_cons_zero,List.getElem?_cons_succ,R.ak,idx,Dy,R.cg,e',m',truth];cases run T k g [W.tup (W.str t::r),a,b,d] h<;>simp
theorem FY(k:Nat){t:S}(m:t∉ku)(r:List W)(a b d:W)(h:Hp):run T (k+1) aY [.tup (.str t::r),a,b,d] h=run T k f7 [.tup (.str t::r),a,b,d] h:=by
 rw[av rJ];unfold bg jH;have m':ku.contains t=false:=by
  cases z:ku.contains t with
  |false=>rfl
  |true=>exact absurd (List.contains_iff_mem.mp z) m
 simp only[List.length_cons,List.length_nil,if_true,bj,aK,ig,ki,qG,kK,bq,eI,ic,bZ,cH,List.map_cons,List.map_nil,List.cons_append,List.nil_append,List.replicate,List.getElem?_cons_zero,List.getElem?_cons_succ,R.ak,idx,Dy,R.cg,m',truth];cases run T k f7 [W.tup (W.str t::r),a,b,d] h<;>simp
theorem BJ{C:Or}{σ:Env}{h:Hp}{x y:S}{r:List W}{b:Bool}(s1:σ[1]?=some (some (.tup (.str x::r))))(e:(!decide (x=y))=b):ae C (.cmp .ne (.idx (.var 1) (.cst (.int 0))) (.cst (.str y))) σ h=.ok (.bl b) h:=by subst e;simp[s1]
theorem sM(i:Int):Comes fs Γ 2 (.tup [.str iq,.int i]) .num (.tup [.str iq,.int i]):=by intro k hk pl q sh fr nd h hp hg s;obtain⟨j,rfl⟩:∃j,k=j+2:=⟨k-2,by omega⟩;refine⟨h,?_,aA.refl h⟩;rw[up_eq (j+1) (g:=iG) rfl,av vG];unfold bg j9;simp[Kd.af]
theorem mB:Comes fs Γ 2 (.tup [.str jt]) .tru (.tup [.str jt]):=by intro k hk pl q sh fr nd h hp hg s;obtain⟨j,rfl⟩:∃j,k=j+2:=⟨k-2,by omega⟩;refine⟨h,?_,aA.refl h⟩;rw[up_eq (j+1) (g:=dP) rfl,av pe];unfold bg i4;simp[Kd.af]
theorem CO:Comes fs Γ 2 (.tup [.str JM]) .tru (.tup [.str JM]):=by intro k hk pl q sh fr nd h hp hg s;obtain⟨j,rfl⟩:∃j,k=j+2:=⟨k-2,by omega⟩;refine⟨h,?_,aA.refl h⟩;rw[up_eq (j+1) (g:=dP) rfl,av pe];unfold bg i4;simp[Kd.af]
theorem kA(h:Hp)(a:Kd)(ha:a.depth<=50):cm h a.af a.af=some true:=kR h (hW a) (by have:=ik a;omega)
theorem fw{n:Nat}{t:S}{r:List W}{kd:Kd}{c:W}(m:t∉ku)(hd:kd.depth<=50)(g:Comes fs Γ n (.tup (.str t::r)) kd c):Goes fs Γ (n+2) (.tup (.str t::r)) kd c:=by intro k hk pl q sh fr nd h hp hg s;obtain⟨j,rfl⟩:∃j,k=j+2:=⟨k-2,by omega⟩;obtain⟨h',e,x⟩:=g j (by omega) pl q sh fr nd h (by omega) (by omega) s;refine⟨h',?_,x⟩;rw[FY (j+1) m,av sU];have qq:=kA h' kd hd;exact aQ [some (.tup (.str t::r)),some (kd.af),some (.tup pl),some (.ref q),none,none] rfl rfl (dr (u:=c) (v:=kd.af) (h':=h') (by simp[e]) (aP (h':=h') (by simp[qq]) (aE (by simp))))
theorem Cy:Goes fs Γ 4 (.tup [.str jt]) .tru (.tup [.str jt]):=fw (by decide) (by decide) mB
theorem bL{n:Nat}{x:S}{a b:Kd}{f c:W}(h2:2<=n)(g:Goes fs ((x,a)::Γ) n f b c):Goes fs Γ (n+2) (.tup [.str ll,.str x,f]) (.work a b) (.tup [.str ll,a.af,c]):=by
 intro k hk pl q sh fr nd h hp hg s;obtain⟨j,rfl⟩:∃j,k=j+4:=⟨k-4,by omega⟩;have b1:=CY j s x a (by omega);obtain⟨h',e,y⟩:=g (j+2) (by omega) (pl++[.int 0]) h.length sh fr nd _ (by simp;omega) (by simp;omega) (s.bind x a);refine⟨h',?_,(aA.app h _).trans y⟩;have hp':pl.length+1<=SZ:=by omega
 simp only[List.map_cons] at e b1;rw[down_eq (j+3) (g:=i7) rfl (by decide),av xJ];have so:=s.o;exact aQ [some (.tup [.str ll,.str x,f]),some ((Kd.work a b).af),some (.tup pl),some (.ref q),none] rfl rfl (aP (BJ (x:=aN) rfl rfl) (aw (w:=c) (h':=h') (by simp[Kd.af,so,List.lookup,b1,e,hp']) (aE (by simp[Kd.af]))))
theorem zC{n:Nat}{a b:Kd}{f1 c1 f2 c2:W}(g1:Goes fs Γ n f1 a c1)(g2:Goes fs Γ n f2 b c2):Goes fs Γ (n+2) (.tup [.str gN,f1,f2]) (.pair a b) (.tup [.str gN,c1,c2]):=by
 intro k hk pl q sh fr nd h hp hg s;obtain⟨j,rfl⟩:∃j,k=j+2:=⟨k-2,by omega⟩;obtain⟨h1,e1,y1⟩:=g1 j (by omega) (pl++[.int 0]) q sh fr nd h (by simp;omega) (by omega) s;obtain⟨h2,e2,y2⟩:=g2 j (by omega) (pl++[.int 1]) q sh fr nd h1 (by simp;omega) (by omega) (s.grow y1);refine⟨h2,?_,y1.trans y2⟩;have hp':pl.length+1<=SZ:=by omega
 rw[down_eq (j+1) (g:=iw) rfl (by decide),av vB];exact aQ [some (.tup [.str gN,f1,f2]),some ((Kd.pair a b).af),some (.tup pl),some (.ref q),none,none] rfl rfl (aP (BJ (x:=k9) rfl rfl) (aw (w:=c1) (h':=h1) (by simp[Kd.af,e1,hp']) (aw (w:=c2) (h':=h2) (by simp[Kd.af,e2,hp']) (aE (by simp)))))
theorem xG{n:Nat}{a:Kd}{f1 c1 f2 c2:W}(g1:Goes fs Γ n f1 a c1)(g2:Goes fs Γ n f2 (.row a) c2):Goes fs Γ (n+2) (.tup [.str pE,f1,f2]) (.row a) (.tup [.str LX,c1,c2]):=by
 intro k hk pl q sh fr nd h hp hg s;obtain⟨j,rfl⟩:∃j,k=j+2:=⟨k-2,by omega⟩;obtain⟨h1,e1,y1⟩:=g1 j (by omega) (pl++[.int 0]) q sh fr nd h (by simp;omega) (by omega) s;obtain⟨h2,e2,y2⟩:=g2 j (by omega) (pl++[.int 1]) q sh fr nd h1 (by simp;omega) (by omega) (s.grow y1);refine⟨h2,?_,y1.trans y2⟩;have hp':pl.length+1<=SZ:=by omega
 simp only[Kd.af] at e2;rw[down_eq (j+1) (g:=gM) rfl (by decide),av uk];exact aQ [some (.tup [.str pE,f1,f2]),some ((Kd.row a).af),some (.tup pl),some (.ref q),none,none] rfl rfl (aP (BJ (x:=jo) rfl rfl) (aw (w:=c1) (h':=h1) (by simp[Kd.af,e1,hp']) (aw (w:=c2) (h':=h2) (by simp[Kd.af,e2,hp']) (aE (by simp)))))
theorem FD{n:Nat}{a:Kd}{f0 c0 f1 c1 f2 c2:W}(g0:Goes fs Γ n f0 .tru c0)(g1:Goes fs Γ n f1 a c1)(g2:Goes fs Γ n f2 a c2):Goes fs Γ (n+2) (.tup [.str oa,f0,f1,f2]) a (.tup [.str oa,c0,c1,c2]):=by
 intro k hk pl q sh fr nd h hp hg s;obtain⟨j,rfl⟩:∃j,k=j+2:=⟨k-2,by omega⟩;obtain⟨h0,e0,y0⟩:=g0 j (by omega) (pl++[.int 0]) q sh fr nd h (by simp;omega) (by omega) s;obtain⟨h1,e1,y1⟩:=g1 j (by omega) (pl++[.int 1]) q sh fr nd h0 (by simp;omega) (by omega) (s.grow y0);obtain⟨h2,e2,y2⟩:=g2 j (by omega) (pl++[.int 2]) q sh fr nd h1 (by simp;omega) (by omega) ((s.grow y0).grow y1);refine⟨h2,?_,(y0.trans y1).trans y2⟩;have hp':pl.length+1<=SZ:=by omega
 simp only[Kd.af] at e0;have a3:bG [W.str oa,f0,f1,f2] 3=some f2:=dw [W.str oa,f0,f1,f2] 3 (by simp);rw[down_eq (j+1) (g:=jP) rfl (by decide),av Af];exact aQ [some (.tup [.str oa,f0,f1,f2]),some (a.af),some (.tup pl),some (.ref q),none,none,none] rfl rfl (aw (w:=c0) (h':=h0) (by simp[e0,hp']) (aw (w:=c1) (h':=h1) (by simp[e1,hp']) (aw (w:=c2) (h':=h2) (by simp[e2,hp',a3]) (aE (by simp)))))
theorem vb(c:Env->Hp->R W)(b:Env->Hp->R Fl)(n:Nat)(σ:Env)(h:Hp):g8 c b (n+1) σ h=((c σ h).bind fun x h=>match truth h x with
  |some true=>(b σ h).bind fun f h=>match f with
   |.next σ=>g8 c b n σ h
   |.cont σ=>g8 c b n σ h
   |.brk σ=>.ok (.next σ) h
   |.ret w=>.ok (.ret w) h
  |some false=>.ok (.next σ) h
  |none=>.bad):=by rw[g8]<;>rfl
theorem Ei{c:Env->Hp->R W}{b:Env->Hp->R Fl}{σ:Env}{h h':Hp}{n:Nat}(hn:0<n)(e:c σ h=.ok (.bl false) h'):g8 c b n σ h=.ok (.next σ) h':=by obtain⟨m,rfl⟩:∃m,n=m+1:=⟨n-1,by omega⟩;rw[vb,e];simp
theorem xY{a:Nat}{t:Tg}{k:Env->Hp->R Fl}{σ:Env}{h:Hp}(e:h[a]?=some (.lst [])):bo a t k 0 0 σ h=.ok (.next σ) h:=by rw[bo];simp[aZ,e]
theorem qi(k:Nat){h:Hp}{q:Nat}{sh:W}{fr nd:Nat}(s:cG h q sh fr nd fs Γ)(x:S)(hl:Γ.length<=SZ):
  ∃h',run T (k+1) dR [.ref q,.str x] h=.ok (.bl (decide (x∈Γ.map (·.1)))) h'/\aA h h':=⟨_,EF k s x hl,aA.app _ _⟩
theorem zB(k:Nat){h:Hp}{q:Nat}{sh:W}{fr nd:Nat}(s:cG h q sh fr nd fs Γ){x:S}{n:Nat}{a:Kd}(e:dB x Γ=some (n,a))(hl:Γ.length<=SZ):
  ∃h',run T (k+1) fG [.ref q,.str x] h=.ok (.tup [.tup [.str fS,.int n],a.af]) h'/\aA h h':=⟨_,EV k s e hl,aA.app _ _⟩
theorem pk(j:Nat){x:S}{n:Nat}{a:Kd}(e:dB x Γ=some (n,a))(told:W)(pl:List W){q:Nat}{sh:W}{fr nd:Nat}{h:Hp}(hg:Γ.length<=SZ)(s:cG h q sh fr nd fs Γ):
  ∃h',run T (j+2) gk [.tup [.str az,.str x],told,.tup pl,.ref q] h=.ok (.tup [.tup [.str fS,.int n],a.af]) h'/\aA h h':=by
 obtain⟨_,_,m⟩:=jQ e;have s1:cG (h++[O.lst []]) q sh fr nd fs Γ:=s.grow (aA.app h _);obtain⟨h2,i1,g2⟩:=qi j s1 x hg;have s2:=s1.grow g2;obtain⟨h3,v1,g3⟩:=zB j s2 e hg;have l3:h3[h.length]?=some (.lst []):=g3.keep _ _ (g2.keep _ _ (dY h _));have w:run T (j+1) fZ [.tup [.str fS,.int n],a.af,.ref h.length,.ref q] h3=.ok (.tup [.tup [.str fS,.int n],a.af]) h3:=by rw[av lU];unfold bg iR;simp[bB,l3,xY l3]
 refine⟨h3,?_,(aA.app h _).trans (g2.trans g3)⟩;rw[av lC];have wh:=Ei (n:=FU) (c:=ae (run T (j+1)) eL) (b:=au (run T (j+1)) j6) (σ:=[some (.tup [.str az,.str x]),some told,some (.tup pl),some (.ref q),some (.ref h.length),some (.tup [.str az,.str x]),some (.tup pl),none,none]) (h:=h++[O.lst []]) (h':=h++[O.lst []]) (by decide) (by simp[eL]);have mm:decide (x∈Γ.map (·.1))=true:=by simpa using m
 rw[mm] at i1;have so1:=s1.o;have so2:=s2.o;exact aQ [some (.tup [.str az,.str x]),some told,some (.tup pl),some (.ref q),none,none,none,none,none] rfl rfl (aw (w:=.ref h.length) (h':=h++[O.lst []]) (by simp) (aw (w:=.tup [.str az,.str x]) (h':=h++[O.lst []]) (by simp) (aw (w:=.tup pl) (h':=h++[O.lst []]) (by simp) (ax (by rw[qU];exact wh) (ax (σ':=[some (.tup [.str az,.str x]),some told,some (.tup pl),some (.ref q),some (.ref h.length),some (.tup [.str az,.str x]),some (.tup pl),none,none]) (h':=h++[O.lst []]) (by simp) (ax (σ':=[some (.tup [.str az,.str x]),some told,some (.tup pl),some (.ref q),some (.ref h.length),some (.tup [.str az,.str x]),some (.tup pl),some (.tup [.str fS,.int n]),some a.af]) (h':=h3) (by simp[so1,i1,so2,v1,List.lookup]) (aE (by simp[w]))))))))
theorem cQ{x:S}{n:Nat}{a:Kd}(hd:a.depth<=50)(e:dB x Γ=some (n,a)):Goes fs Γ 4 (.tup [.str az,.str x]) a (.tup [.str fS,.int n]):=by intro k hk pl q sh fr nd h hp hg s;obtain⟨j,rfl⟩:∃j,k=j+4:=⟨k-4,by omega⟩;obtain⟨h',c,y⟩:=pk j e a.af pl (by omega) s;refine⟨h',?_,y⟩;rw[down_eq (j+3) (g:=ck) rfl (by decide),av iT];have qq:=kA h' a hd;exact aQ [some (.tup [.str az,.str x]),some (a.af),some (.tup pl),some (.ref q),none,none] rfl rfl (dr (u:=.tup [.str fS,.int n]) (v:=a.af) (h':=h') (by simp[c]) (aP (h':=h') (by simp[qq]) (aE (by simp))))
theorem jb{x:S}{n:Nat}{a:Kd}(e:dB x Γ=some (n,a)):Comes fs Γ 4 (.tup [.str az,.str x]) a (.tup [.str fS,.int n]):=by intro k hk pl q sh fr nd h hp hg s;obtain⟨j,rfl⟩:∃j,k=j+4:=⟨k-4,by omega⟩;obtain⟨h',c,y⟩:=pk j e .ah pl (by omega) s;refine⟨h',?_,y⟩;rw[up_eq (j+3) (g:=b8) rfl,av ka];unfold bg j5;simp[c]
theorem xE{n:Nat}{a b:Kd}{f1 c1 f2 c2:W}(g1:Comes fs Γ n f1 a c1)(g2:Comes fs Γ n f2 b c2):Comes fs Γ (n+2) (.tup [.str gN,f1,f2]) (.pair a b) (.tup [.str gN,c1,c2]):=by
 intro k hk pl q sh fr nd h hp hg s;obtain⟨j,rfl⟩:∃j,k=j+2:=⟨k-2,by omega⟩;obtain⟨h1,e1,y1⟩:=g1 j (by omega) (pl++[.int 0]) q sh fr nd h (by simp;omega) (by omega) s;obtain⟨h2,e2,y2⟩:=g2 j (by omega) (pl++[.int 1]) q sh fr nd h1 (by simp;omega) (by omega) (s.grow y1);refine⟨h2,?_,y1.trans y2⟩;have hp':pl.length+1<=SZ:=by omega
 rw[up_eq (j+1) (g:=iI) rfl,av sk];exact aQ [some (.tup [.str gN,f1,f2]),some (.tup pl),some (.ref q),none,none,none,none] rfl rfl (dr (u:=c1) (v:=a.af) (h':=h1) (by simp[e1,hp']) (dr (u:=c2) (v:=b.af) (h':=h2) (by simp[e2,hp']) (aE (by simp[Kd.af]))))
end
section
variable {fs:Fx}{Γ:Cx}
theorem FX(k:Nat){a:Nat}{h:Hp}(e:h[a]?=some (.lst []))(kd:W):run T (k+1) oB [.ref a,kd] h=.ok (.tup [.str Ef,kd]) h:=by rw[av BV];unfold bg oX;simp[bB,e,cM]
theorem qv{a:Kd}:Goes fs Γ 3 (.tup [.str iJ,.tup []]) (.row a) (.tup [.str Ef,a.af]):=by intro k hk pl q sh fr nd h hp hg s;obtain⟨j,rfl⟩:∃j,k=j+3:=⟨k-3,by omega⟩;have r:=FX j (dY h (.lst [])) a.af;refine⟨_,?_,aA.app h [.lst []]⟩;rw[down_eq (j+2) (g:=gz) rfl (by decide),av uW];unfold bg jD;simp[Kd.af,gp,dq,r]
theorem xP{t:Nat}(C:Or){a fr:Nat}{ns:List S}{h:Hp}(e:h[a]?=some (.lst (ns.map W.str)))(ef:h[fr]?=some (.lst (fs.fs.map W.str)))(q:Nat){c:S}{o1 o2:W}{r:List (S×W)}(eq:h[q]?=some (.ins c ((fU,o1)::(cP,.ref fr)::r)))(sub:∀x∈ns,x∈fs.fs)(A B:W):
  ∃o,bo a (.var 3) (au C gJ) ns.length 0 [some A,some B,some (.ref q),none] h=.ok (.next [some A,some B,some (.ref q),o]) h:=by
 obtain⟨σ',h',t,o,p1,p2⟩:=lj (xs:=ns.map W.str) (a:=a) (t:=.var 3) (k:=au C gJ) (fun _ σ h'=>∃o,σ=[some A,some B,some (.ref q),o]/\h'=h) (fun i σ h' ⟨_,_,z⟩=>by subst z;simp[aZ,e])
  (fun i σ h' x ⟨o,z1,z2⟩ ex=>by
   subst z1;subst z2;have:x∈ns.map W.str:=List.mem_of_getElem? ex;obtain⟨y,hy,rfl⟩:=List.mem_map.mp this;refine⟨_,rfl,[some A,some B,some (.ref q),some (.str y)],h',?_,_,rfl,rfl⟩;have i:=jV ef y;simp[gJ,eq,List.lookup,i,sub y hy]) ns.length 0 [some A,some B,some (.ref q),none] h (by simp) ⟨none,rfl,rfl⟩
 subst p1;subst p2;exact⟨o,t⟩
theorem xW{n:Nat}{a:Kd}{f c:W}(g:Goes fs Γ n f a c)(hn:a.depth+3<=n)(hd:2 ^ a.depth<=SZ)(sub:∀x∈a.put [],x∈fs.fs):Comes fs Γ (n+2) (.tup [.str tq,f,a.af]) a c:=by
 intro k hk pl q sh fr nd h hp hg s;obtain⟨j,rfl⟩:∃j,k=j+2:=⟨k-2,by omega⟩;have nm:=uR (T:=T) (pt:=ip) (pn:=fV) (self:=gZ) rfl rfl rfl a j h (by omega) hd;have y0:aA h (h++[.ag (di (a.put [])),.lst ((a.put []).map W.str)]):=aA.app _ _;have s0:=s.grow y0;obtain⟨h1,e1,y1⟩:=g j (by omega) (pl++[.int 0]) q sh fr nd _ (by simp;omega) (by omega) s0;have l1:(h++[.ag (di (a.put [])),.lst ((a.put []).map W.str)])[h.length+1]?=some (.lst ((a.put []).map W.str)):=by simp
 obtain⟨o,t⟩:=xP (t:=0) (run T j) l1 s0.f q (o2:=.ah) s0.o sub (.tup [.str tq,f,a.af]) (.tup pl);refine⟨h1,?_,y0.trans y1⟩;have hp':pl.length+1<=SZ:=by omega
 rw[up_eq (j+1) (g:=jX) rfl,av zF];unfold bg mK;simp only[bj,aK,bB,List.length_cons,List.length_nil,if_true,List.map_cons,List.map_nil,Nat.reduceSub,List.replicate,List.cons_append,List.nil_append,cV,ic,bZ,cH,kK,bq,eI,List.getElem?_cons_zero,List.getElem?_cons_succ,R.ak,idx,Lf,R.cg,nm,src,l1,turns,List.length_map,t];simp[e1,hp']
end
end K14
namespace Tw
section
variable {C:Or}{σ:Env}{h h':Hp}{s:St}{r b:List St}{c:E}{i a:Nat}{l:List St}
theorem wg(e:ae C c σ h=.aD a h'):au C (.ret c::r) σ h=.aD a h':=by rw[bj,ki,e];rfl
theorem Fc{h1:Hp}(e:ae C c σ h=.ok (.bl true) h1)(k:au C l σ h1=.aD a h'):au C (.iff c l b::r) σ h=.aD a h':=by rw[bj,ig,e];show (au C l σ h1).bind _=_;rw[k];rfl
theorem CA{x:S}{xs:List S}{es:Es}{ws:List W}(e:bc C es σ h=.ok ws h')(l:ws.length=xs.length):au C (.raise x xs es::r) σ h=.aD h'.length (h'++[.aD x (xs.zip ws)]):=by rw[bj,rY,e];simp[jd,l]
theorem Cs(e:aW C s σ h=.aD a h'):au C (s::r) σ h=.aD a h':=by rw[bj,e];rfl
theorem kL{f:Fn}{xs:List W}(σ:Env)(l:xs.length=f.ps)(eσ:xs.map some++List.replicate (f.ns-f.ps) none=σ)(e:au C f.body σ h=.aD a h'):bg C f xs h=.aD a h':=by unfold bg;rw[if_pos l,eσ,e];rfl
end
end Tw
namespace K14
open Tw
noncomputable abbrev pG:S:=[102,111,108,100]
noncomputable abbrev xw:S:=[115,117,109]
noncomputable abbrev pH:S:=[108,105,107,101]
noncomputable abbrev cJ:S:=[100,101,102]
noncomputable abbrev vz:S:=[85,110,98,111,117,110,100]
noncomputable abbrev mE:S:=[112,108,97,99,101]
section
variable {fs:Fx}{Γ:Cx}
theorem Ki{C:Or}{σ:Env}{h:Hp}{i:Nat}{x y:S}{r:List W}{b:Bool}(s1:σ[i]?=some (some (.tup (.str x::r))))(e:(!decide (x=y))=b):ae C (.cmp .ne (.idx (.var i) (.cst (.int 0))) (.cst (.str y))) σ h=.ok (.bl b) h:=by subst e;simp[s1]
theorem a3{α:Type}(x y z u:α):bG [x,y,z,u] 3=some u:=dw [x,y,z,u] 3 (by simp)
theorem qr{n:Nat}{a b:Kd}{f1 c1 f2 c2 f3 c3:W}(g1:Comes fs Γ n f1 (.row a) c1)(g2:Comes fs Γ n f2 b c2)(g3:Goes fs Γ n f3 (.work a (.work b b)) c3):Comes fs Γ (n+2) (.tup [.str pG,f1,f2,f3]) b (.tup [.str pG,c1,c2,c3]):=by
 intro k hk pl q sh fr nd h hp hg s;obtain⟨j,rfl⟩:∃j,k=j+2:=⟨k-2,by omega⟩;obtain⟨h1,e1,y1⟩:=g1 j (by omega) (pl++[.int 0]) q sh fr nd h (by simp;omega) (by omega) s;obtain⟨h2,e2,y2⟩:=g2 j (by omega) (pl++[.int 1]) q sh fr nd h1 (by simp;omega) (by omega) (s.grow y1);obtain⟨h3,e3,y3⟩:=g3 j (by omega) (pl++[.int 2]) q sh fr nd h2 (by simp;omega) (by omega) ((s.grow y1).grow y2);refine⟨h3,?_,(y1.trans y2).trans y3⟩;have hp':pl.length+1<=SZ:=by omega
 simp only[Kd.af] at e3;rw[up_eq (j+1) (g:=jY) rfl,av Ag];exact aQ [some (.tup [.str pG,f1,f2,f3]),some (.tup pl),some (.ref q),none,none,none,none,none] rfl rfl (dr (u:=c1) (v:=(Kd.row a).af) (h':=h1) (by simp[e1,hp']) (aP (Ki (x:=jo) rfl rfl) (dr (u:=c2) (v:=b.af) (h':=h2) (by simp[e2,hp']) (aw (w:=c3) (h':=h3) (by simp[e3,hp',a3,Kd.af]) (aE (by simp))))))
noncomputable def bA(hd:W):List W->W
 |[]=>hd
 |a::r=>.tup [.str aU,bA hd r,a]
noncomputable def kj:List W->List W->List (W×List W)
 |_,[]=>[]
 |pl,a::r=>(a,pl)::kj (pl++[.int 0]) r
noncomputable abbrev cl(z:W×List W):W:=.tup [z.1,.tup z.2]
theorem Ac:∀(rs pl:List W),∀z∈kj pl rs,z.2.length<=pl.length+rs.length
 |[],pl,z,hz=>by simp[kj] at hz
 |a::r,pl,z,hz=>by
  simp only[kj,List.mem_cons] at hz;rcases hz with rfl|hz
  .simp
  .have:=Ac r (pl++[.int 0]) z hz;simp only[List.length_append,List.length_cons,List.length_nil] at this⊢;omega
theorem zeros(pl:List W)(n:Nat):(pl++[W.int 0])++List.replicate n (W.int 0)=pl++List.replicate (n+1) (W.int 0):=by rw[List.append_assoc];rfl
theorem HV{c:Env->Hp->R W}{b:Env->Hp->R Fl}{σ σ':Env}{h h':Hp}{n:Nat}(e:c σ h=.ok (.bl true) h)(eb:b σ h=.ok (.next σ') h'):g8 c b (n+1) σ h=g8 c b n σ' h':=by rw[vb,e];simp[eb]
theorem vx(C:Or)(F told pl0 q hd:W){x:S}{r0:List W}(ehd:hd=.tup (.str x::r0))(nx:x≠aU){A:Nat}:∀(rs pl acc:List W)(h:Hp)(m:Nat),rs.length<m->h[A]?=some (.lst acc)->acc.length+rs.length<=SZ->pl.length+rs.length<=SZ->
  ∃h',g8 (ae C eL) (au C j6) m [some F,some told,some pl0,some q,some (.ref A),some (bA hd rs),some (.tup pl),none,none] h=.ok (.next [some F,some told,some pl0,some q,some (.ref A),some hd,some (.tup (pl++List.replicate rs.length (.int 0))),none,none]) h'/\Ext A h h'/\h'[A]?=some (.lst (acc++(kj pl rs).map cl))
 |[],pl,acc,h,m,hm,e,_,_=>by
  refine⟨h,?_,Ext.refl A h,by simpa [kj] using e⟩;rw[Ei (n:=m) (h':=h) (by omega) (by simp[eL,bA,ehd,nx])];simp[bA]
 |a::r,pl,acc,h,m,hm,e,l1,l2=>by
  obtain⟨m,rfl⟩:∃j,m=j+1:=⟨m-1,by omega⟩;simp only[List.length_cons] at hm l1 l2;obtain⟨h',t,x',e'⟩:=vx C F told pl0 q hd ehd nx r (pl++[.int 0]) (acc++[cl (a,pl)]) (h.set A (.lst (acc++[cl (a,pl)]))) m (by omega) (aV e) (by simp;omega) (by simp;omega);refine⟨h',?_,(Ext.set A h _).trans x',?_⟩
  .have lt:acc.length<SZ:=by omega
   have lp:pl.length+1<=SZ:=by omega
   rw[HV (σ':=[some F,some told,some pl0,some q,some (.ref A),some (bA hd r),some (.tup (pl++[.int 0])),none,none]) (h':=h.set A (.lst (acc++[cl (a,pl)]))) (by simp[eL,bA]) ?_,t,zeros]
   .rfl
   .exact ax (σ':=[some F,some told,some pl0,some q,some (.ref A),some (bA hd (a::r)),some (.tup pl),none,none]) (h':=h.set A (.lst (acc++[cl (a,pl)]))) (by simp[bA,e,lt]) (aw (w:=bA hd r) (h':=h.set A (.lst (acc++[cl (a,pl)]))) (by simp[bA]) (aw (w:=.tup (pl++[.int 0])) (h':=h.set A (.lst (acc++[cl (a,pl)]))) (by simp[lp]) (aK _ _ _)))
  .rw[e'];simp[kj]
inductive App(fs:Fx)(Γ:Cx)(n:Nat):W->Kd->List (W×List W)->W->Kd->Prop
 |nil {c:W}{kd:Kd}:App fs Γ n c kd [] c kd
 |cons {c c' f x:W}{a b kd:Kd}{pl:List W}{l:List (W×List W)}:Goes fs Γ n f a x->App fs Γ n (.tup [.str aU,c,x]) b l c' kd->App fs Γ n c (.work a b) ((f,pl)::l) c' kd
theorem ph{A:Nat}{t:Tg}{k:Env->Hp->R Fl}{n i:Nat}{σ:Env}{h:Hp}{ys:List W}(e:h[A]?=some (.lst ys))(hi:ys.length<=i):bo A t k n i σ h=.ok (.next σ) h:=by rw[bo];simp[aZ,e,List.getElem?_eq_none hi]
theorem qL{A:Nat}{t:Tg}{k:Env->Hp->R Fl}{n i:Nat}{σ:Env}{h:Hp}{ys:List W}{x:W}(e:h[A]?=some (.lst ys))(hx:ys[i]?=some x):bo A t k (n+1) i σ h=turn t k x σ h (bo A t k n (i+1)):=by rw[bo];simp[aZ,e,hx]
theorem IY{α β:Type}(f:α->β)(p:List α)(z:α)(l:List α):((p++z::l).map f)[p.length]?=some (f z):=by simp
theorem yA(j n:Nat)(hj:n<=j){q:Nat}{sh:W}{fr nd A:Nat}(hg:Γ.length+n<=SZ){c c':W}{kd kd':Kd}{l:List (W×List W)}(ap:App fs Γ n c kd l c' kd'):
  (∀z∈l,z.2.length+1+n<=SZ)->∀(p:List (W×List W))(o4 o5:Option W)(h:Hp),h[A]?=some (.lst ((p++l).map cl))->cG h q sh fr nd fs Γ->
  ∃o4' o5' h',bo A (.two 4 5) (au (run T j) gj) l.length p.length [some c,some kd.af,some (.ref A),some (.ref q),o4,o5] h=.ok (.next [some c',some kd'.af,some (.ref A),some (.ref q),o4',o5']) h'/\aA h h':=by
 induction ap with
 |nil=>intro _ p o4 o5 h e s;exact⟨o4,o5,h,ph e (by simp),aA.refl h⟩
 | @cons c c' f x a b kd pl l g _ ih=>
  intro hz p o4 o5 h e s;have hp:=hz _ List.mem_cons_self;simp only at hp;obtain⟨h1,e1,y1⟩:=g j hj (pl++[.int 1]) q sh fr nd h (by simp;omega) hg s;obtain⟨o4',o5',h2,e2,y2⟩:=ih (fun z hz'=>hz z (List.mem_cons_of_mem _ hz')) (p++[(f,pl)]) (some f) (some (.tup pl)) h1 (by rw[List.append_assoc];exact y1.keep _ _ e) (s.grow y1);refine⟨o4',o5',h2,?_,y1.trans y2⟩;have hp':pl.length+1<=SZ:=by omega
  have bd:au (run T j) gj [some c,some (Kd.work a b).af,some (.ref A),some (.ref q),some f,some (.tup pl)] h=.ok (.next [some (.tup [.str aU,c,x]),some b.af,some (.ref A),some (.ref q),some f,some (.tup pl)]) h1:=
   aP (Ki (x:=aN) rfl rfl) (aw (w:=.tup [.str aU,c,x]) (h':=h1) (by simp[Kd.af,e1,hp']) (aw (w:=b.af) (h':=h1) (by simp[Kd.af]) (aK _ _ _)))
  rw[List.length_cons,qL e (IY _ _ _ _)];simp only[turn,eZ,cl,List.set_cons_succ,List.set_cons_zero,bd,R.ak];rw[List.length_append] at e2;exact e2
theorem lO(j:Nat){rs:List W}{hd:W}{x:S}{r0:List W}(ehd:hd=.tup (.str x::r0))(nx:x≠aU)(told:W)(pl:List W)(q:Nat)(hr:rs.length<FU)(h:Hp)(hp:pl.length+rs.length<=SZ):
  ∃h1,aA h h1/\h1[h.length]?=some (.lst (((kj pl rs).reverse).map cl))/\∀z,au (run T j) (k4.body.drop 5) [some (bA hd rs),some told,some (.tup pl),some (.ref q),some (.ref h.length),some hd,some (.tup (pl++List.replicate rs.length (.int 0))),none,none] h1=z->au (run T j) k4.body [some (bA hd rs),some told,some (.tup pl),some (.ref q),none,none,none,none,none] h=z:=by
 obtain⟨h',t,x',e'⟩:=vx (run T j) (bA hd rs) told (.tup pl) (.ref q) hd ehd nx (A:=h.length) rs pl [] (h++[O.lst []]) FU hr (dY h _) (by simp;omega) hp;rw[List.nil_append] at e';have e2:=aV (o:=O.lst (((kj pl rs).reverse).map cl)) e';refine⟨h'.set h.length (.lst (((kj pl rs).reverse).map cl)),⟨?_,?_⟩,e2,?_⟩
 .have:=x'.len;simp at this⊢;omega
 .intro p o eo;have ne:h.length≠p:=fun z=>absurd (bF eo) (by omega);exact aS ne (x'.keep _ _ (aF _ eo) (Ne.symm ne))
 .intro z ez;have er:∀o4 o5 o6:Option W,aW (run T j) (.expr (.c7 .rev (.var 4) .nil)) [o4,o5,o6,some (.ref q),some (.ref h.length),some hd,some (.tup (pl++List.replicate rs.length (.int 0))),none,none] h'=.ok (.next [o4,o5,o6,some (.ref q),some (.ref h.length),some hd,some (.tup (pl++List.replicate rs.length (.int 0))),none,none]) (h'.set h.length (.lst (((kj pl rs).reverse).map cl))):=fun o4 o5 o6=>by
   rw[uB,nG,bq];simp only[List.getElem?_cons_succ,List.getElem?_cons_zero,R.ak,j8,e',cH,if_true,method,List.map_reverse]
  exact aw (w:=.ref h.length) (h':=h++[O.lst []]) (by simp) (aw (w:=bA hd rs) (h':=h++[O.lst []]) (by simp) (aw (w:=.tup pl) (h':=h++[O.lst []]) (by simp) (ax (by rw[qU];exact t) (ax (er _ _ _) ez))))
theorem Au(j n:Nat)(hj:n<=j){rs:List W}{c':W}{kd kd':Kd}{x:S}{m:Nat}(hr:rs.length<FU)(e:dB x Γ=some (m,kd))(told:W)(pl:List W)(ap:App fs Γ n (.tup [.str fS,.int m]) kd (kj pl rs).reverse c' kd'){q:Nat}{sh:W}{fr nd:Nat}{h:Hp}(hp:pl.length+rs.length+1+n<=SZ)(hg:Γ.length+n<=SZ)(s:cG h q sh fr nd fs Γ):
  ∃h',run T (j+2) gk [bA (.tup [.str az,.str x]) rs,told,.tup pl,.ref q] h=.ok (.tup [c',kd'.af]) h'/\aA h h':=by
 obtain⟨h1,y1,e1,k1⟩:=lO (j+1) (hd:=.tup [.str az,.str x]) rfl (by decide) told pl q hr h (by omega);have s1:=s.grow y1;obtain⟨_,_,mm⟩:=jQ e;obtain⟨h2,i2,y2⟩:=qi j s1 x (by omega);rw[decide_eq_true mm] at i2;have s2:=s1.grow y2;obtain⟨h3,v3,y3⟩:=zB j s2 e (by omega);have s3:=s2.grow y3;have l3:=y3.keep _ _ (y2.keep _ _ e1);obtain⟨o4,o5,h4,e4,y4⟩:=yA j n hj hg ap (fun z hz=>by have:=Ac rs pl z (List.mem_reverse.mp hz);omega) [] none none h3 l3 s3;have w:run T (j+1) fZ [.tup [.str fS,.int m],kd.af,.ref h.length,.ref q] h3=.ok (.tup [c',kd'.af]) h4:=by
  rw[av lU];exact aQ [some (.tup [.str fS,.int m]),some kd.af,some (.ref h.length),some (.ref q),none,none] rfl rfl (ax (σ':=[some c',some kd'.af,some (.ref h.length),some (.ref q),o4,o5]) (h':=h4) (by rw[bB];simp only[cV,bq,List.getElem?_cons_zero,List.getElem?_cons_succ,R.ak,src,l3,R.cg,turns,List.length_map];exact e4) (aE (by simp)))
 refine⟨h4,?_,((y1.trans y2).trans y3).trans y4⟩;have so1:=s1.o;have so2:=s2.o;rw[av lC];exact aQ [some (bA (.tup [.str az,.str x]) rs),some told,some (.tup pl),some (.ref q),none,none,none,none,none] rfl rfl (k1 _ (ax (h':=h3) (σ':=[some (bA (.tup [.str az,.str x]) rs),some told,some (.tup pl),some (.ref q),some (.ref h.length),some (.tup [.str az,.str x]),some (.tup (pl++List.replicate rs.length (.int 0))),some (.tup [.str fS,.int m]),some kd.af]) (by simp[so1,i2,so2,v3,List.lookup]) (aE (by simp[w]))))
theorem mG{n:Nat}{a:W}{rs:List W}{c':W}{kd kd':Kd}{x:S}{m:Nat}(hr:(a::rs).length<FU)(hd:kd'.depth<=50)(e:dB x Γ=some (m,kd))(ap:∀pl,App fs Γ n (.tup [.str fS,.int m]) kd (kj pl (a::rs)).reverse c' kd'):Goes fs Γ (n+rs.length+6) (bA (.tup [.str az,.str x]) (a::rs)) kd' c':=by intro k hk pl q sh fr nd h hp hg s;obtain⟨j,rfl⟩:∃j,k=j+4:=⟨k-4,by omega⟩;obtain⟨h',e,y⟩:=Au j n (by omega) hr e kd'.af pl (ap pl) (by simp only[List.length_cons];omega) (by omega) s;refine⟨h',?_,y⟩;have cr:bA (.tup [.str az,.str x]) (a::rs)=.tup [.str aU,bA (.tup [.str az,.str x]) rs,a]:=rfl;rw[cr] at e⊢;rw[down_eq (j+3) (g:=ck) rfl (by decide),av iT];have qq:=kA h' kd' hd;exact aQ [some (.tup [.str aU,bA (.tup [.str az,.str x]) rs,a]),some kd'.af,some (.tup pl),some (.ref q),none,none] rfl rfl (dr (u:=c') (v:=kd'.af) (h':=h') (by simp[e]) (aP (h':=h') (by simp[qq]) (aE (by simp))))
theorem AV{n:Nat}{f1 c1 f2 c2:W}(g1:Goes fs Γ n f1 .num c1)(g2:Goes fs Γ n f2 .num c2):Comes fs Γ (n+2) (.tup [.str xw,f1,f2]) .num (.tup [.str xw,c1,c2]):=by
 intro k hk pl q sh fr nd h hp hg s;obtain⟨j,rfl⟩:∃j,k=j+2:=⟨k-2,by omega⟩;obtain⟨h1,e1,y1⟩:=g1 j (by omega) (pl++[.int 0]) q sh fr nd h (by simp;omega) (by omega) s;obtain⟨h2,e2,y2⟩:=g2 j (by omega) (pl++[.int 1]) q sh fr nd h1 (by simp;omega) (by omega) (s.grow y1);refine⟨h2,?_,y1.trans y2⟩;have hp':pl.length+1<=SZ:=by omega
 simp only[Kd.af] at e1 e2;rw[up_eq (j+1) (g:=dz) rfl,av sS];exact aQ [some (.tup [.str xw,f1,f2]),some (.tup pl),some (.ref q),none,none] rfl rfl (aw (w:=c1) (h':=h1) (by simp[e1,hp']) (aw (w:=c2) (h':=h2) (by simp[e2,hp']) (aE (by simp[Kd.af]))))
def pK(fs:Fx)(Γ:Cx)(m:Nat)(kd:Kd)(L:W):Prop:=
 ∀k,m<=k->∀(pl:W)(q:Nat)(sh:W)(fr nd:Nat)(h:Hp),cG h q sh fr nd fs Γ->∃h',run T k eU [.ref q,kd.af,pl] h=.ok L h'/\aA h h'
theorem pV{n:Nat}{kd:Kd}{f1 c1 f2 c2 L:W}(l:pK fs Γ n kd L)(g1:Comes fs Γ n f1 kd c1)(g2:Goes fs Γ n f2 kd c2):Comes fs Γ (n+2) (.tup [.str pH,f1,f2]) .tru (.tup [.str aU,.tup [.str aU,L,c1],c2]):=by
 intro k hk pl q sh fr nd h hp hg s;obtain⟨j,rfl⟩:∃j,k=j+2:=⟨k-2,by omega⟩;obtain⟨h1,e1,y1⟩:=g1 j (by omega) (pl++[.int 0]) q sh fr nd h (by simp;omega) (by omega) s;obtain⟨h2,e2,y2⟩:=g2 j (by omega) (pl++[.int 1]) q sh fr nd h1 (by simp;omega) (by omega) (s.grow y1);have s2:=(s.grow y1).grow y2;obtain⟨h3,e3,y3⟩:=l j (by omega) (.tup pl) q sh fr nd h2 s2;refine⟨h3,?_,(y1.trans y2).trans y3⟩;have hp':pl.length+1<=SZ:=by omega
 have so:=s2.o;rw[up_eq (j+1) (g:=jO) rfl,av zD];exact aQ [some (.tup [.str pH,f1,f2]),some (.tup pl),some (.ref q),none,none,none] rfl rfl (dr (u:=c1) (v:=kd.af) (h':=h1) (by simp[e1,hp']) (aw (w:=c2) (h':=h2) (by simp[e2,hp']) (aE (by simp[so,List.lookup,e3,Kd.af]))))
end
def Lk(ns:List S):Kd->Prop
 |.any x=>x∈ns
 |.pair a b=>Lk ns a/\Lk ns b
 |_=>False
theorem sH(k:Nat)(kd:Kd)(h:Hp):run T (k+1) ip [kd.af] h=.ok (.tup ((gw kd).map Kd.af)) h:=by rw[av EC];exact jk (run T k) kd h
theorem rn(C:Or){nd:Nat}{h:Hp}(kw:W):∀(ws:List W),(∀w∈ws,C dX [w,.ref nd] h=.ok .ah h)->∀o2 o3:Option W,∃o2' o3',cW (.var 2) (au C iU) ws [some kw,some (.ref nd),o2,o3] h=.ok (.next [some kw,some (.ref nd),o2',o3']) h
 |[],_,o2,o3=>⟨o2,o3,rfl⟩
 |w::ws,e,o2,o3=>by
  obtain⟨a,b,ih⟩:=rn C kw ws (fun z hz=>e z (List.mem_cons_of_mem _ hz)) (some w) (some .ah);have e1:=e w List.mem_cons_self;refine⟨a,b,?_⟩;have bdy:au C iU [some kw,some (.ref nd),some w,o3] h=.ok (.next [some kw,some (.ref nd),some w,some .ah]) h:=aw (w:=.ah) (h':=h) (by simp[e1]) (aP (h':=h) (by simp) (aK _ _ _));simp only[cW,turn,eZ,List.set_cons_succ,List.set_cons_zero,bdy,R.ak,ih]
theorem wz(k:Nat)(kd:Kd){nd:Nat}{h:Hp}(o:∀w∈(gw kd).map Kd.af,run T (k+1) dX [w,.ref nd] h=.ok .ah h)(c1:ae (run T (k+1)) (.cmp .eq (.idx (.var 0) (.cst (.int 0))) (.cst (.str aN))) [some kd.af,some (.ref nd),none,none] h=.ok (.bl false) h)
  (c2:ae (run T (k+1)) (.and (.cmp .eq (.idx (.var 0) (.cst (.int 0))) (.cst (.str br))) (.cmp .notin (.idx (.var 0) (.cst (.int 1))) (.var 1))) [some kd.af,some (.ref nd),none,none] h=.ok (.bl false) h):run T (k+2) dX [kd.af,.ref nd] h=.ok .ah h:=by
 obtain⟨a,b,t⟩:=rn (run T (k+1)) kd.af _ o none none;have p:=sH k kd h;rw[av xR];refine aQ [some kd.af,some (.ref nd),none,none] rfl rfl (aP c1 (aP c2 (ax (σ':=[some kd.af,some (.ref nd),a,b]) (h':=h) ?_ (aE (by simp)))));rw[bB];simp only[cV,ic,bZ,cH,bq,List.getElem?_cons_zero,List.getElem?_cons_succ,R.ak,p,src,R.cg,turns,t]
theorem GO{ns:List S}{nd:Nat}{h:Hp}(e:h[nd]?=some (.lst (ns.map W.str))):∀(kd:Kd),Lk ns kd->∀k,kd.depth+2<=k->run T k dX [kd.af,.ref nd] h=.ok .ah h:=by
 intro kd
 induction kd with
 |any x=>
  intro l k hk;obtain⟨k,rfl⟩:∃j,k=j+2:=⟨k-2,by omega⟩;have i:=jV e x;have l:x∈ns:=l;exact wz k (.any x) (by simp[gw]) (by simp[Kd.af]) (by simp[Kd.af,i,l])
 |pair a b iha ihb=>
  intro l k hk;simp only[Kd.depth] at hk;have l1:=Nat.le_max_left a.depth b.depth;have l2:=Nat.le_max_right a.depth b.depth;obtain⟨k,rfl⟩:∃j,k=j+2:=⟨k-2,by omega⟩;have i1:=iha l.1 (k+1) (by omega);have i2:=ihb l.2 (k+1) (by omega);exact wz k (.pair a b) (by simp[gw,i1,i2]) (by simp[Kd.af]) (by simp[Kd.af])
 |_=>intro l;exact l.elim
noncomputable abbrev zi:S:=[108,105,107,101,112,97,105,114]
noncomputable def qV(G:S->W):Kd->W
 |.pair a b=>.tup [.str zi,qV G a,qV G b]
 |.any x=>G x
 |_=>.ah
theorem Et(C:Or)(h:Hp)(x:S)(r:List W)(g:Option W)(b:Bool)(e:decide (x∈ [iq,cL])=b):ae C (.cmp .isin (.idx (.var 0) (.cst (.int 0))) (.tup (.cons (.cst (.str [110,117,109,98,101,114])) (.cons (.cst (.str [116,114,117,116,104])) .nil)))) [some (.tup (.str x::r)),g] h=.ok (.bl b) h:=by have i:=ua x [iq,cL] h;rw[e] at i;simp only[List.map_cons,List.map_nil] at i;simp[i]
theorem JB{ns:List S}{G:S->W}{g:Nat}{h:Hp}{kvs:List (W×W)}(e:h[g]?=some (.ag kvs))(hG:∀x∈ns,bH (.str x) kvs=some (G x)):∀(kd:Kd),Lk ns kd->∀k,kd.depth+1<=k->run T k gK [kd.af,.ref g] h=.ok (qV G kd) h:=by
 intro kd
 induction kd with
 |any x=>
  intro l k hk;obtain⟨k,rfl⟩:∃j,k=j+1:=⟨k-1,by omega⟩;have i:=hG x l;rw[av pI];exact aQ [some (Kd.any x).af,some (.ref g)] rfl rfl (aP (Et _ _ br _ _ false rfl) (aP (h':=h) (by simp[Kd.af]) (aP (h':=h) (by simp[Kd.af]) (aE (by simp[Kd.af,e,i,qV])))))
 |pair a b iha ihb=>
  intro l k hk;simp only[Kd.depth] at hk;have l1:=Nat.le_max_left a.depth b.depth;have l2:=Nat.le_max_right a.depth b.depth;obtain⟨k,rfl⟩:∃j,k=j+1:=⟨k-1,by omega⟩;have i1:=iha l.1 k (by omega);have i2:=ihb l.2 k (by omega);rw[av pI];exact aQ [some (Kd.pair a b).af,some (.ref g)] rfl rfl (aP (Et _ _ k9 _ _ false rfl) (aP (h':=h) (by simp[Kd.af]) (jB (h':=h) (by simp[Kd.af]) (aE (by simp[Kd.af,i1,i2,qV])))))
 |_=>intro l;exact l.elim
def gv(r:Int):List S->List (W×W)
 |[]=>[]
 |x::l=>dput (.str x) (.tup [.str fS,.int (r+l.length)]) (gv r l)
theorem wF(r:Int):∀l:List S,StrKeys (gv r l)
 |[]=>fun kv h=>by simp[gv] at h
 |x::l=>AD (wF r l) x _
theorem AN(r:Int):∀l:List S,(gv r l).length<=l.length
 |[]=>Nat.le_refl _
 |x::l=>Nat.le_trans (uL _ _ _) (Nat.succ_le_succ (AN r l))
theorem A5(r:Int):∀(l:List S)(x:S),x∈l->∃w,bH (.str x) (gv r l)=some w
 |[],x,h=>by simp at h
 |y::l,x,h=>by
  unfold gv;rw[yY (wF r l)];by_cases c:y=x
  .exact⟨_,if_pos c⟩
  .rw[if_neg c];exact A5 r l x ((List.mem_cons.mp h).resolve_left (fun z=>c z.symm))
theorem sA(C:Or){q D nd:Nat}{ns:List S}{r:Int}(hl:ns.length<SZ)(nD:nd≠D):
  ∀(n:Nat)(o:Option W)(h:Hp),n<=ns.length->h[nd]?=some (.lst (ns.map W.str))->h[D]?=some (.ag (gv r (ns.drop n)))->
  ∃o' h',cM nd (.var 3) (au C cv) n [some (.ref q),some (.ref D),some (.int (r+(ns.drop n).length)),o] h=.ok (.next [some (.ref q),some (.ref D),some (.int (r+ns.length)),o']) h'/\h'[D]?=some (.ag (gv r ns))/\Ext D h h'
 |0,o,h,_,_,eD=>⟨o,h,by simp[cM],by simpa using eD,Ext.refl D h⟩
 |n+1,o,h,l,en,eD=>by
  have hn:n<ns.length:=by omega
  have d:ns.drop n=ns[n]::ns.drop (n+1):=List.drop_eq_getElem_cons hn;have e2:=aV (o:=O.ag (gv r (ns.drop n))) eD;obtain⟨o',h',t,eD',x⟩:=sA C (q:=q) hl nD n (some (.str ns[n])) (h.set D (.ag (gv r (ns.drop n)))) (by omega) (aS (Ne.symm nD) en) e2;refine⟨o',h',?_,eD',(Ext.set D h _).trans x⟩;have lt:(gv r (ns.drop (n+1))).length<SZ:=Nat.lt_of_le_of_lt (AN _ _) (by rw[List.length_drop];omega);have gd:gv r (ns.drop n)=dput (.str ns[n]) (.tup [.str fS,.int (r+(ns.drop (n+1)).length)]) (gv r (ns.drop (n+1))):=by rw[d,gv]
  have rl:r+((ns.drop (n+1)).length:Int)+1=r+(ns.drop n).length:=by rw[d,List.length_cons];push_cast;omega
  have bdy:au C cv [some (.ref q),some (.ref D),some (.int (r+(ns.drop (n+1)).length)),some (.str ns[n])] h=.ok (.next [some (.ref q),some (.ref D),some (.int (r+(ns.drop n).length)),some (.str ns[n])]) (h.set D (.ag (gv r (ns.drop n)))):=by
   refine ax (σ':=[some (.ref q),some (.ref D),some (.int (r+(ns.drop (n+1)).length)),some (.str ns[n])]) (h':=h.set D (.ag (gv r (ns.drop n)))) ?_ ?_
   .rw[gd];generalize gv r (ns.drop (n+1))=K at *;generalize ns[n]=z at *;generalize ((ns.drop (n+1)).length:Int)=m at *;simp[eD,lt]
   .rw[<-rl];generalize ((ns.drop (n+1)).length:Int)=m;simp
  rw[cM];simp only[aZ,en,List.getElem?_map,List.getElem?_eq_getElem hn,Option.map_some,turn,eZ,List.set_cons_succ,List.set_cons_zero,bdy,R.ak,t]
theorem Ga(k:Nat){fs:Fx}{Γ:Cx}{q:Nat}{sh:W}{fr nd:Nat}{h:Hp}(hl:fs.ns.length<SZ)(s:cG h q sh fr nd fs Γ):∃h',run T (k+1) cU [.ref q] h=.ok (.ref h.length) h'/\h'[h.length]?=some (.ag (gv Γ.length fs.ns))/\aA h h':=by have s1:=s.grow (aA.app h [O.ag []]);have nD:nd≠h.length:=fun z=>absurd (bF s.n) (by omega);obtain⟨o',h',t,eD,x⟩:=sA (run T k) (q:=q) (D:=h.length) (r:=Γ.length) hl nD fs.ns.length none (h++[O.ag []]) (Nat.le_refl _) s1.n (by simp[gv]);refine⟨h',?_,eD,⟨by have:=x.len;simp at this;omega,fun p o e=>x.keep _ _ (aF _ e) (fun z=>absurd (bF e) (by omega))⟩⟩;rw[av jh];rw[List.drop_length] at t;simp only[List.length_nil,Int.natCast_zero,Int.add_zero] at t;have so:=s1.o;have sn:=s1.n;refine aQ [some (.ref q),none,none,none] rfl rfl (aw (w:=.ref h.length) (h':=h++[O.ag []]) (by simp[nJ]) (aw (w:=.int Γ.length) (h':=h++[O.ag []]) (by simp[so,List.lookup]) (ax (σ':=[some (.ref q),some (.ref h.length),some (.int (Γ.length+fs.ns.length)),o']) (h':=h') ?_ (aE (by simp)))));rw[bB];simp only[oA,qY,bq,List.getElem?_cons_zero,List.getElem?_cons_succ,List.set_cons_succ,List.set_cons_zero,R.ak,field,so,List.lookup,R.cg];simp only[show (b6== fU)=false from rfl,show (b6== cP)=false from rfl,show (b6== b6)=true from rfl,R.cg,R.ak,sn,turns,List.length_map,t]
theorem A6{fs:Fx}{Γ:Cx}{kd:Kd}(hl:fs.ns.length<SZ)(l:Lk fs.ns kd):pK fs Γ (kd.depth+3) kd (qV (fun x=>(bH (.str x) (gv Γ.length fs.ns)).getD .ah) kd):=by intro k hk pl q sh fr nd h s;obtain⟨k,rfl⟩:∃j,k=j+2:=⟨k-2,by omega⟩;obtain⟨h1,e1,d1,y1⟩:=Ga k hl s;have u:=GO s.n kd l (k+1) (by omega);have li:=JB (ns:=fs.ns) (G:=fun x=>(bH (.str x) (gv Γ.length fs.ns)).getD .ah) d1 (fun x hx=>by obtain⟨w,e⟩:=A5 Γ.length fs.ns x hx;rw[e];rfl) kd l (k+1) (by omega);refine⟨h1,?_,y1⟩;have so:=s.o;rw[av mj];exact aQ [some (.ref q),some kd.af,some pl,none] rfl rfl (aw (w:=.ah) (h':=h) (by simp[so,List.lookup,u]) (aP (h':=h) (by simp) (aE (by simp[so,List.lookup,e1,li]))))
theorem vn{x:S}:∀(l:List S)(k:Int),x∉l->bH (.str x) (bO k l)=none
 |[],k,_=>rfl
 |y::l,k,n=>by
  have n1:¬ y=x:=fun z=>n (by simp[z]);simp only[bO,bH,dO,n1,decide_false,Bool.false_eq_true,if_false];exact vn l (k+1) fun z=>n (List.mem_cons_of_mem _ z)
theorem t9{x:S}:∀(l:List S)(k:Int)(i:Nat),l[i]?=some x->x∉l.take i->bH (.str x) (bO k l)=some (.int (k+i))
 |[],k,i,e,_=>by simp at e
 |y::l,k,0,e,_=>by simp at e;subst e;simp[bO]
 |y::l,k,i+1,e,n=>by
  simp only[List.take_succ_cons,List.mem_cons,not_or] at n;have n1:¬ y=x:=fun z=>n.1 z.symm;simp only[bO,bH,dO,n1,decide_false,Bool.false_eq_true,if_false];rw[t9 l (k+1) i (by simpa using e) n.2]
  congr 2;push_cast;omega
theorem xg{x:S}:∀(l:List S)(k:Int),x∉l->dput (.str x) (.int (k+l.length)) (bO k l)=bO k (l++[x])
 |[],k,_=>by simp[bO]
 |y::l,k,n=>by
  have n1:¬ y=x:=fun z=>n (by simp[z]);have ih:=xg l (k+1) fun z=>n (List.mem_cons_of_mem _ z);simp only[List.cons_append,bO,dput,dO,n1,decide_false,Bool.false_eq_true,if_false];rw[<-ih];congr 2;simp only[List.length_cons];push_cast;congr 1;omega
theorem wK:∀(l:List S)(k:Int),(bO k l).length=l.length
 |[],_=>rfl
 |x::l,k=>by simp[bO,wK l]
noncomputable abbrev g0:W:=.tup [.str yB,.int 0]
theorem zJ(k:Nat){F:Nat}{h:Hp}{kvs:List (W×W)}{w:W}(e:h[F]?=some (.ag kvs))(g:(bH (.int 0) kvs).getD g0=w):run T (k+2) f6 [g0,.ref F] h=.ok w h:=by
 have r:run T (k+1) dU [g0,.str yB,.ref F] h=.ok w h:=by rw[av lE];exact aQ [some g0,some (.str yB),some (.ref F),none,none,none] rfl rfl (jB (h':=h) (by simp) (aE (by simp[e,g])))
 rw[av sR];exact aQ [some g0,some (.ref F)] rfl rfl (aE (by simp[r]))
theorem AL(k:Nat){F:Nat}{h:Hp}{kvs:List (W×W)}{b:Bool}(e:h[F]?=some (.ag kvs))(g:(!(bH (.int 0) kvs).isSome)=b):run T (k+1) iZ [g0,.ref F] h=.ok (.bl b) h:=by
 have i:isIn (.int 0) (.ref F) h=some (bH (.int 0) kvs).isSome:=by simp[isIn,bP,e]
 rw[av xA];exact aQ [some g0,some (.ref F),none] rfl rfl (jB (h':=h) (by simp) (aE (by simp[i,g])))
theorem wC(k:Nat){F:Nat}{h:Hp}{kvs:List (W×W)}(kd:Kd)(hd:kd.depth<=50)(e:h[F]?=some (.ag kvs))(l:kvs.length<SZ)(g:(bH (.int 0) kvs).getD kd.af=kd.af):run T (k+2) tj [g0,kd.af,.ref F] h=.ok (.ref h.length) (h++[.ag (dput (.int 0) kd.af kvs)]):=by
 have r:run T (k+1) mT [.int 0,kd.af,.ref F] h=.ok (.ref h.length) (h++[.ag (dput (.int 0) kd.af kvs)]):=by have q:=kA h kd hd;rw[av zq];exact aQ [some (.int 0),some kd.af,some (.ref F),none] rfl rfl (aP (h':=h) (by simp[e,g,q]) (aw (w:=.ref h.length) (h':=h++[.ag kvs]) (by simp[e]) (ax (σ':=[some (.int 0),some kd.af,some (.ref F),some (.ref h.length)]) (h':=h++[.ag (dput (.int 0) kd.af kvs)]) (by simp[l]) (aE (by simp)))))
 rw[av Lg];exact aQ [some g0,some kd.af,some (.ref F),none,none,none,none] rfl rfl (jB (h':=h) (by simp) (aE (by simp[r])))
section
variable {fs:Fx}{Γ:Cx}
theorem Hq(k n:Nat)(hk:n<=k+2){F:Nat}{h:Hp}{f c:W}{kd:Kd}(hd:kd.depth<=50)(e:h[F]?=some (.ag []))(g:Comes fs Γ n f kd c)(pl:List W){q:Nat}{sh:W}{fr nd:Nat}(hp:pl.length+n<=SZ)(hg:Γ.length+n<=SZ)(s:cG h q sh fr nd fs Γ):
  ∃F' h',run T (k+3) kY [f,g0,.ref F,.tup pl,.ref q] h=.ok (.tup [c,.ref F']) h'/\h'[F']?=some (.ag [(.int 0,kd.af)])/\aA h h':=by
 have r1:=zJ k (w:=g0) e rfl;have r2:=AL (k+1) (b:=true) e rfl;obtain⟨h1,e1,y1⟩:=g (k+2) hk pl q sh fr nd h hp hg s;have r3:=wC k kd hd (y1.keep _ _ e) (show 0<SZ by decide) rfl;refine⟨h1.length,h1++[.ag [(.int 0,kd.af)]],?_,dY _ _,y1.trans (aA.app _ _)⟩;rw[av yj];exact aQ [some f,some g0,some (.ref F),some (.tup pl),some (.ref q),none,none,none,none] rfl rfl (aw (w:=g0) (h':=h) (by simp[r1]) (aP (h':=h) (by simp[r2]) (dr (u:=c) (v:=kd.af) (h':=h1) (by simp[e1]) (aw (w:=.ref h1.length) (h':=h1++[.ag [(.int 0,kd.af)]]) (by simp only[dput] at r3;simp[r3]) (aP (h':=h1++[.ag [(.int 0,kd.af)]]) (by simp) (aE (by simp)))))))
theorem Jp(k:Nat){F:Nat}{h:Hp}{kd:Kd}(hd:kd.depth<=50)(e:h[F]?=some (.ag [(.int 0,kd.af)]))(told pl:W)(ht:told=.ah\/told=kd.af):
  ∃F' h',run T (k+3) lq [g0,told,.ref F,pl] h=.ok (.ref F') h'/\h'[F']?=some (.ag [(.int 0,kd.af)])/\aA h h':=by
 rcases ht with rfl|rfl
 .have r2:=AL (k+1) (b:=false) e rfl;refine⟨F,h,?_,e,aA.refl h⟩;rw[av qw];exact aQ [some g0,some .ah,some (.ref F),some pl,none] rfl rfl (jB (h':=h) (by simp) (aP (h':=h) (by simp[r2]) (aE (by simp))))
 .have r3:=wC k kd hd e (show 1<SZ by decide) rfl;refine⟨h.length,h++[.ag [(.int 0,kd.af)]],?_,dY _ _,aA.app _ _⟩;obtain⟨z,r,ez⟩:=Fu kd;rw[av qw];refine aQ [some g0,some kd.af,some (.ref F),some pl,none] rfl rfl (aP (h':=h) (by rw[ez];simp) (aw (w:=.ref h.length) (h':=h++[.ag [(.int 0,kd.af)]]) (by simp only[dput] at r3;simp at r3;simp[r3]) (aP (h':=h++[.ag [(.int 0,kd.af)]]) (by simp) (aE (by simp)))))
theorem Js(k:Nat){F r q:Nat}{h:Hp}{kd:Kd}{one:S}(e:h[F]?=some (.ag [(.int 0,kd.af)]))(d:k6 h r one)(i:Int)(pl:W):∃h',run T (k+1) gS [.int i,.ref r,.ref F,pl,.ref q] h=.ok (.tup [.str cJ,.int i,.tup [kd.af]]) h'/\aA h h':=by
 obtain⟨f,nd,co,wk,d1,d2,d3⟩:=d;have hr:fA 1=true:=by decide
 have u1:upTo 0 1=[.int 0]:=rfl;have w:iB (dD (run T k) .none) (ae (run T k) eX) [some (.int i),some (.ref r),some (.ref F),some pl,some (.ref q),none,none,none] (.int 0) [] h=.ok [kd.af] h:=by simp[iB,eX,e]
 have e3:=aF [O.lst [kd.af]] d3;have o1:=aF [O.lst [kd.af]] d1;refine⟨h++[.lst [kd.af]],?_,aA.app _ _⟩;rw[av o7];refine aQ [some (.int i),some (.ref r),some (.ref F),some pl,some (.ref q),none,none,none] rfl rfl (aw (w:=.tup [.str cJ,.int i,.tup [kd.af]]) (h':=h++[.lst [kd.af]]) ?_ (ax (σ':=[some (.int i),some (.ref r),some (.ref F),some pl,some (.ref q),some (.tup [.str cJ,.int i,.tup [kd.af]]),none,none]) (h':=h++[.lst [kd.af]]) ?_ (aE (by simp))))
 .have sz:1<=SZ:=by decide
  simp[ij,d1,d2,List.lookup,hr,u1,w,dq,sz]
 .rw[bB];simp[o1,e3,List.lookup,ph e3]
theorem HL(k:Nat){F:Nat}{h:Hp}{one:S}(e:h[F]?=some (.ag [(.str one,g0)])):run T (k+3) jE [(Kd.work (.any one) (.any one)).af,.ref F] h=.ok (.tup [.str aN,g0,g0]) h:=by
 have ra:run T (k+1) dU [.tup [.str br,.str one],.str br,.ref F] h=.ok g0 h:=by rw[av lE];exact aQ [some (.tup [.str br,.str one]),some (.str br),some (.ref F),none,none,none] rfl rfl (jB (h':=h) (by simp) (aE (by simp[e])))
 have pr:=sH k (.work (.any one) (.any one)) h;simp only[Kd.af,gw,List.map_cons,List.map_nil] at pr;have rp:run T (k+2) dU [(Kd.work (.any one) (.any one)).af,.str br,.ref F] h=.ok (.tup [.str aN,g0,g0]) h:=by rw[av lE];unfold bg lR;simp[Kd.af,pr,bB,lZ,ra,cm,bP,SZ]
 rw[av BW];exact aQ [some (Kd.work (.any one) (.any one)).af,some (.ref F)] rfl rfl (aE (by simp[rp]))
theorem G7(k n:Nat)(k1:1<=k)(hk:n<=k+2){h:Hp}{A i:Nat}{x one:S}{f c:W}{kd:Kd}(hd:kd.depth<=50)(hz:fs.z=some (i,one))(hx:bH (.str x) (bO 0 fs.told)=some (.int i))(g:Comes fs Γ n f kd c)(pl npl:List W)(pl0 told:W)(ht:told=.ah\/told=kd.af){q:Nat}{sh:W}{fr nd:Nat}(hp:pl.length+1+n<=SZ)(hg:Γ.length+n<=SZ)(hA:h[A]?=some (.lst [cl (f,pl)]))(s:cG h q sh fr nd fs Γ):
  ∃h',run T (k+4) cZ [.str x,.tup npl,.ref A,told,pl0,.ref q] h=.ok (.tup [.tup [.str aU,.tup [.str cJ,.int i,.tup [kd.af]],c],kd.af]) h'/\aA h h':=by
 obtain⟨a,d,m,rs,esh,D⟩:=s.d;subst esh;have so:=s.o;have D0:=D.o;have Dl:=D.l;have Dm:=D.m;obtain⟨r,er,I⟩:=D.z i one hz;obtain⟨f0,e0,co,wk,I1,I2,I3⟩:=I;have isn:isIn (.str x) (.ref m) h=some true:=by simp[isIn,bP,Dm,hx]
 have at1:bG (rs.map W.ref) (i:Int)=some (.ref r):=by have hi:i<rs.length:=(List.getElem?_eq_some_iff.mp er).1;rw[dw _ i (by simpa using hi)];have:=(List.getElem?_eq_some_iff.mp er).2;simp[this]
 have wE:cy f0 (fT (ae (run T (k+3)) bT) [some (.str x),some (.tup npl),some (.ref A),some told,some pl0,some (.ref q),some (.int i),some (.ref r),none,none,none,none,none,none]) 1 0 [] h=.ok [.tup [.str one,g0]] h:=by
  rw[cy];simp only[aZ,I2,List.getElem?_cons_zero];have c:fT (ae (run T (k+3)) bT) [some (.str x),some (.tup npl),some (.ref A),some told,some pl0,some (.ref q),some (.int i),some (.ref r),none,none,none,none,none,none] (.tup [.int 0,.str one]) [] h=.ok [.tup [.str one,g0]] h:=by simp[fT,bT]
  simp only[Int.ofNat_zero,Int.natCast_zero,c,R.ak];rw[cy];simp[aZ,I2]
 have h2g:(h++[O.lst [.tup [.str one,g0]],O.ag [(.str one,g0)]])[h.length+1]?=some (.ag [(.str one,g0)]):=by simp
 have fl:run T (k+3) jE [(Kd.work (.any one) (.any one)).af,.ref (h.length+1)] (h++[O.lst [.tup [.str one,g0]],O.ag [(.str one,g0)]])=.ok (.tup [.str aN,g0,g0]) (h++[O.lst [.tup [.str one,g0]],O.ag [(.str one,g0)]]):=HL k h2g;have e3:ae (run T (k+3)) (.call jE (.cons (.fld (.var 7) [107,105,110,100]) (.cons (.blt .dictP (.fY bT (.enum (.fld (.var 7) [102,114,101,101])))) .nil))) [some (.str x),some (.tup npl),some (.ref A),some told,some pl0,some (.ref q),some (.int i),some (.ref r),none,none,none,none,none,none] h=.ok (.tup [.str aN,g0,g0]) (h++[O.lst [.tup [.str one,g0]],O.ag [(.str one,g0)]]):=by
  have sz:1<=SZ:=by decide
  simp[gp,I1,I2,List.lookup,wE,dq,sz,fl]
 have y2:aA h (h++[O.lst [.tup [.str one,g0]],O.ag [(.str one,g0)],O.ag [],O.lst []]):=aA.app _ _;have s2:=s.grow y2;have F2:(h++[O.lst [.tup [.str one,g0]],O.ag [(.str one,g0)],O.ag [],O.lst []])[h.length+2]?=some (.ag []):=by simp
 have C2:(h++[O.lst [.tup [.str one,g0]],O.ag [(.str one,g0)],O.ag [],O.lst []])[h.length+3]?=some (.lst []):=by simp
 obtain⟨F3,h3,r3,F3e,y3⟩:=Hq k n hk hd F2 g (pl++[.int 1]) (by simp;omega) hg s2;have C3:=y3.keep _ _ C2;have A3:=y3.keep _ _ (y2.keep _ _ hA);have C4:=aV (o:=O.lst [c]) C3;have nF:F3≠h.length+3:=fun z=>by rw[z] at F3e;rw[C3] at F3e;cases F3e
 have F4:=aS (o:=O.lst [c]) (Ne.symm nF) F3e;have nA:A≠h.length+3:=fun z=>absurd (bF hA) (by omega);have A4:=aS (o:=O.lst [c]) (Ne.symm nA) A3;have G4:aA h (h3.set (h.length+3) (.lst [c])):=⟨by have:=y3.len;simp at this⊢;omega,fun p o e=>aS (fun z=>absurd (bF e) (by omega)) (y3.keep _ _ (y2.keep _ _ e))⟩;obtain⟨F5,h5,r5,F5e,y5⟩:=Jp k hd F4 told pl0 ht;have I5:k6 h5 r one:=k6.grow (k6.grow ⟨f0,e0,co,wk,I1,I2,I3⟩ G4) y5;obtain⟨h6,r6,y6⟩:=Js (k+2) (q:=q) F5e I5 i (.tup npl);have C6:=y6.keep _ _ (y5.keep _ _ C4);have F6:=y6.keep _ _ F5e;have r7:=zJ (k+1) (w:=kd.af) F6 rfl;refine⟨h6,?_,(G4.trans y5).trans y6⟩;have hp':pl.length+1<=SZ:=by omega
 have lp:bo A (.two 11 12) (au (run T (k+3)) dF) 1 0 [some (.str x),some (.tup npl),some (.ref A),some told,some pl0,some (.ref q),some (.int i),some (.ref r),some (.tup [.str aN,g0,g0]),some (.ref (h.length+2)),some (.ref (h.length+3)),none,none,none] (h++[O.lst [.tup [.str one,g0]],O.ag [(.str one,g0)],O.ag [],O.lst []])=.ok (.next [some (.str x),some (.tup npl),some (.ref A),some told,some pl0,some (.ref q),some (.int i),some (.ref r),some g0,some (.ref F3),some (.ref (h.length+3)),some f,some (.tup pl),some c]) (h3.set (h.length+3) (.lst [c])):=by
  rw[qL (n:=0) (y2.keep _ _ hA) rfl];have bdy:au (run T (k+3)) dF [some (.str x),some (.tup npl),some (.ref A),some told,some pl0,some (.ref q),some (.int i),some (.ref r),some (.tup [.str aN,g0,g0]),some (.ref (h.length+2)),some (.ref (h.length+3)),some f,some (.tup pl),none] (h++[O.lst [.tup [.str one,g0]],O.ag [(.str one,g0)],O.ag [],O.lst []])=.ok (.next [some (.str x),some (.tup npl),some (.ref A),some told,some pl0,some (.ref q),some (.int i),some (.ref r),some g0,some (.ref F3),some (.ref (h.length+3)),some f,some (.tup pl),some c]) (h3.set (h.length+3) (.lst [c])):=by
   have sz:0<SZ:=by decide
   generalize hH:h++[O.lst [.tup [.str one,g0]],O.ag [(.str one,g0)],O.ag [],O.lst []]=H at *;refine aP (h':=H) (by simp) (aP (h':=H) (by simp) (dr (u:=c) (v:=.ref F3) (h':=h3) (by simp[r3,hp']) (ax (σ':=[some (.str x),some (.tup npl),some (.ref A),some told,some pl0,some (.ref q),some (.int i),some (.ref r),some (.tup [.str aN,g0,g0]),some (.ref F3),some (.ref (h.length+3)),some f,some (.tup pl),some c]) (h':=h3.set (h.length+3) (.lst [c])) (by simp[C3,sz]) (aw (w:=g0) (h':=h3.set (h.length+3) (.lst [c])) (by simp) (aK _ _ _)))))
  simp only[turn,eZ,cl,List.set_cons_succ,List.set_cons_zero,bdy,R.ak];exact ph A4 (by simp)
 have lc:bo (h.length+3) (.var 11) (au (run T (k+3)) dE) 1 0 [some (.str x),some (.tup npl),some (.ref A),some told,some pl0,some (.ref q),some (.int i),some (.ref r),some g0,some (.ref F5),some (.ref (h.length+3)),some f,some (.tup pl),some (.tup [.str cJ,.int i,.tup [kd.af]])] h6=.ok (.next [some (.str x),some (.tup npl),some (.ref A),some told,some pl0,some (.ref q),some (.int i),some (.ref r),some g0,some (.ref F5),some (.ref (h.length+3)),some c,some (.tup pl),some (.tup [.str aU,.tup [.str cJ,.int i,.tup [kd.af]],c])]) h6:=by rw[qL (n:=0) C6 rfl];have bdy:au (run T (k+3)) dE [some (.str x),some (.tup npl),some (.ref A),some told,some pl0,some (.ref q),some (.int i),some (.ref r),some g0,some (.ref F5),some (.ref (h.length+3)),some c,some (.tup pl),some (.tup [.str cJ,.int i,.tup [kd.af]])] h6=.ok (.next [some (.str x),some (.tup npl),some (.ref A),some told,some pl0,some (.ref q),some (.int i),some (.ref r),some g0,some (.ref F5),some (.ref (h.length+3)),some c,some (.tup pl),some (.tup [.str aU,.tup [.str cJ,.int i,.tup [kd.af]],c])]) h6:=aw (w:=.tup [.str aU,.tup [.str cJ,.int i,.tup [kd.af]],c]) (h':=h6) (by simp) (aK _ _ _);simp only[turn,eZ,List.set_cons_succ,List.set_cons_zero,bdy,R.ak];exact ph C6 (by simp)
 rw[av hU];refine aQ [some (.str x),some (.tup npl),some (.ref A),some told,some pl0,some (.ref q),none,none,none,none,none,none,none,none] rfl rfl (aP (h':=h) (by simp[so,D0,List.lookup,isn]) (aw (w:=.int i) (h':=h) (by simp[so,D0,Dm,List.lookup,hx]) (aw (w:=.ref r) (h':=h) (by simp[so,D0,Dl,List.lookup,at1]) (aw e3 (aw (w:=.ref (h.length+2)) (h':=h++[O.lst [.tup [.str one,g0]],O.ag [(.str one,g0)],O.ag []]) (by simp[nJ]) (aw (w:=.ref (h.length+3)) (h':=h++[O.lst [.tup [.str one,g0]],O.ag [(.str one,g0)],O.ag [],O.lst []]) (by simp) (ax (σ':=[some (.str x),some (.tup npl),some (.ref A),some told,some pl0,some (.ref q),some (.int i),some (.ref r),some g0,some (.ref F3),some (.ref (h.length+3)),some f,some (.tup pl),some c]) (h':=h3.set (h.length+3) (.lst [c])) ?_ (aw (w:=.ref F5) (h':=h5) (by simp[r5]) (aw (w:=.tup [.str cJ,.int i,.tup [kd.af]]) (h':=h6) (by simp[r6]) (ax (σ':=[some (.str x),some (.tup npl),some (.ref A),some told,some pl0,some (.ref q),some (.int i),some (.ref r),some g0,some (.ref F5),some (.ref (h.length+3)),some c,some (.tup pl),some (.tup [.str aU,.tup [.str cJ,.int i,.tup [kd.af]],c])]) (h':=h6) ?_ (aE (by simp[r7]))))))))))))
 .have hA2:=y2.keep _ _ hA;rw[bB];simp only[cV,bq,List.set_cons_succ,List.set_cons_zero,List.getElem?_cons_zero,List.getElem?_cons_succ,R.ak,src,hA2,R.cg,turns,List.length_cons,List.length_nil];exact lp
 .rw[bB];simp only[cV,bq,List.set_cons_succ,List.set_cons_zero,List.getElem?_cons_zero,List.getElem?_cons_succ,R.ak,src,C6,R.cg,turns,List.length_cons,List.length_nil];exact lc
end
section
variable {fs:Fx}{Γ:Cx}
theorem rq(k n:Nat)(k1:1<=k)(hk:n<=k+2){h:Hp}{i:Nat}{x one:S}{f c:W}{kd:Kd}(hd:kd.depth<=50)(hz:fs.z=some (i,one))(hx:bH (.str x) (bO 0 fs.told)=some (.int i))(nx:x∉Γ.map (·.1))(g:Comes fs Γ n f kd c)(pl:List W)(told:W)(ht:told=.ah\/told=kd.af){q:Nat}{sh:W}{fr nd:Nat}(hp:pl.length+1+n<=SZ)(hg:Γ.length+n<=SZ)(s:cG h q sh fr nd fs Γ):
  ∃h',run T (k+5) gk [.tup [.str aU,.tup [.str az,.str x],f],told,.tup pl,.ref q] h=.ok (.tup [.tup [.str aU,.tup [.str cJ,.int i,.tup [kd.af]],c],kd.af]) h'/\aA h h':=by
 obtain⟨h1,y1,e1,kk⟩:=lO (k+4) (rs:=[f]) (hd:=.tup [.str az,.str x]) rfl (by decide) told pl q (show 1<FU by decide) h (by simp;omega);have s1:=s.grow y1;obtain⟨h2,i2,y2⟩:=qi (k+3) s1 x (by omega);rw[decide_eq_false nx] at i2;have s2:=s1.grow y2;have A2:h2[h.length]?=some (.lst [cl (f,pl)]):=y2.keep _ _ e1;obtain⟨h3,r3,y3⟩:=G7 k n k1 hk hd hz hx g pl (pl++[.int 0]) (.tup pl) told ht hp hg A2 s2;refine⟨h3,?_,(y1.trans y2).trans y3⟩;have so1:=s1.o;have cr:bA (.tup [.str az,.str x]) [f]=.tup [.str aU,.tup [.str az,.str x],f]:=rfl;rw[cr] at kk;rw[av lC];refine aQ [some (.tup [.str aU,.tup [.str az,.str x],f]),some told,some (.tup pl),some (.ref q),none,none,none,none,none] rfl rfl (kk _ (Aa ?_));simp[so1,i2,List.lookup,r3]
theorem CN{n:Nat}{i:Nat}{x one:S}{f c:W}{kd:Kd}(hd:kd.depth<=50)(hz:fs.z=some (i,one))(hx:bH (.str x) (bO 0 fs.told)=some (.int i))(nx:x∉Γ.map (·.1))(g:Comes fs Γ n f kd c):Comes fs Γ (n+8) (.tup [.str aU,.tup [.str az,.str x],f]) kd (.tup [.str aU,.tup [.str cJ,.int i,.tup [kd.af]],c]):=by intro k hk pl q sh fr nd h hp hg s;obtain⟨j,rfl⟩:∃j,k=j+7:=⟨k-7,by omega⟩;obtain⟨h',e,y⟩:=rq j n (by omega) (by omega) hd hz hx nx g pl .ah (.inl rfl) (by omega) (by omega) s;refine⟨h',?_,y⟩;rw[up_eq (j+6) (g:=b8) rfl,av ka];exact aQ [some (.tup [.str aU,.tup [.str az,.str x],f]),some (.tup pl),some (.ref q)] rfl rfl (aE (by simp[e]))
theorem F8{n:Nat}{i:Nat}{x one:S}{f c:W}{kd:Kd}(hd:kd.depth<=50)(hz:fs.z=some (i,one))(hx:bH (.str x) (bO 0 fs.told)=some (.int i))(nx:x∉Γ.map (·.1))(g:Comes fs Γ n f kd c):Goes fs Γ (n+8) (.tup [.str aU,.tup [.str az,.str x],f]) kd (.tup [.str aU,.tup [.str cJ,.int i,.tup [kd.af]],c]):=by intro k hk pl q sh fr nd h hp hg s;obtain⟨j,rfl⟩:∃j,k=j+7:=⟨k-7,by omega⟩;obtain⟨h',e,y⟩:=rq j n (by omega) (by omega) hd hz hx nx g pl kd.af (.inr rfl) (by omega) (by omega) s;refine⟨h',?_,y⟩;have qq:=kA h' kd hd;rw[down_eq (j+6) (g:=ck) rfl (by decide),av iT];exact aQ [some (.tup [.str aU,.tup [.str az,.str x],f]),some kd.af,some (.tup pl),some (.ref q),none,none] rfl rfl (dr (u:=.tup [.str aU,.tup [.str cJ,.int i,.tup [kd.af]],c]) (v:=kd.af) (h':=h') (by simp[e]) (aP (h':=h') (by simp[qq]) (aE (by simp))))
def sJ(fs:Fx)(Γ:Cx)(n:Nat)(f:W)(way:List W)(x:S):Prop:=
 ∀k,n<=k->∀(pl:List W)(q:Nat)(sh:W)(fr nd:Nat)(h:Hp),pl.length+n<=SZ->Γ.length+n<=SZ->cG h q sh fr nd fs Γ->
  ∃a h',run T k bY [f,.tup pl,.ref q] h=.aD a h'/\aA h h'/\h'[a]?=some (.aD vz [(mE,.tup (pl++way)),(az,.str x)])
theorem uK{C:Or}{σ:Env}{h h':Hp}{c:E}{i j a:Nat}{r:List St}(e:ae C c σ h=.aD a h'):au C (.eS i j c::r) σ h=.aD a h':=by rw[bj,oS,e];rfl
theorem tO{rs:List W}{x:S}(hr:rs.length<FU)(nt:x∉fs.told)(nx:x∉Γ.map (·.1)):sJ fs Γ (rs.length+6) (bA (.tup [.str az,.str x]) rs) (List.replicate rs.length (.int 0)) x:=by
 intro k hk pl q sh fr nd h hp hg s;obtain⟨j,rfl⟩:∃j,k=j+4:=⟨k-4,by omega⟩;obtain⟨h1,y1,e1,kk⟩:=lO (j+1) (rs:=rs) (hd:=.tup [.str az,.str x]) rfl (by decide) .ah pl q hr h (by omega);have s1:=s.grow y1;obtain⟨h2,i2,y2⟩:=qi j s1 x (by omega);rw[decide_eq_false nx] at i2;have s2:=s1.grow y2;obtain⟨a,d,m,ds,esh,D⟩:=s2.d;subst esh;have so:=s2.o;have D0:=D.o;have isn:isIn (.str x) (.ref m) h2=some false:=by simp[isIn,bP,D.m,vn fs.told 0 nt]
 have dx:run T (j+1) cZ [.str x,.tup (pl++List.replicate rs.length (.int 0)),.ref h.length,.ah,.tup pl,.ref q] h2=.aD h2.length (h2++[.aD vz [(mE,.tup (pl++List.replicate rs.length (.int 0))),(az,.str x)]]):=by rw[av hU];exact kL [some (.str x),some (.tup (pl++List.replicate rs.length (.int 0))),some (.ref h.length),some .ah,some (.tup pl),some (.ref q),none,none,none,none,none,none,none,none] rfl rfl (Fc (h1:=h2) (by simp[so,D0,List.lookup,isn]) (CA (ws:=[.tup (pl++List.replicate rs.length (.int 0)),.str x]) (h':=h2) (by simp) rfl))
 refine⟨h2.length,_,?_,(y1.trans y2).trans (aA.app h2 _),dY _ _⟩;have so1:=s1.o;have ce:run T (j+2) gk [bA (.tup [.str az,.str x]) rs,.ah,.tup pl,.ref q] h=.aD h2.length (h2++[.aD vz [(mE,.tup (pl++List.replicate rs.length (.int 0))),(az,.str x)]]):=by rw[av lC];refine kL [some (bA (.tup [.str az,.str x]) rs),some .ah,some (.tup pl),some (.ref q),none,none,none,none,none] rfl rfl (kk _ (Cs ?_));generalize pl++List.replicate rs.length (W.int 0)=P at *;simp[so1,i2,List.lookup,dx]
 have cu:run T (j+3) b8 [bA (.tup [.str az,.str x]) rs,.tup pl,.ref q] h=.aD h2.length (h2++[.aD vz [(mE,.tup (pl++List.replicate rs.length (.int 0))),(az,.str x)]]):=by rw[av ka];exact kL [some (bA (.tup [.str az,.str x]) rs),some (.tup pl),some (.ref q)] rfl rfl (wg (by simp[ce]))
 cases rs with
 |nil=>rw[show bA (.tup [.str az,.str x]) []=.tup [.str az,.str x] from rfl] at cu⊢;rw[up_eq (j+3) (g:=b8) rfl];exact cu
 |cons b rs=>rw[show bA (.tup [.str az,.str x]) (b::rs)=.tup [.str aU,bA (.tup [.str az,.str x]) rs,b] from rfl] at cu⊢;rw[up_eq (j+3) (g:=b8) rfl];exact cu
theorem Dk{n:Nat}{a:Kd}{f1 c1 f2:W}{way:List W}{x:S}(g1:Comes fs Γ n f1 a c1)(g2:sJ fs Γ n f2 way x):sJ fs Γ (n+2) (.tup [.str gN,f1,f2]) (.int 1::way) x:=by
 intro k hk pl q sh fr nd h hp hg s;obtain⟨j,rfl⟩:∃j,k=j+2:=⟨k-2,by omega⟩;obtain⟨h1,e1,y1⟩:=g1 j (by omega) (pl++[.int 0]) q sh fr nd h (by simp;omega) (by omega) s;obtain⟨b,h2,e2,y2,z2⟩:=g2 j (by omega) (pl++[.int 1]) q sh fr nd h1 (by simp;omega) (by omega) (s.grow y1);refine⟨b,h2,?_,y1.trans y2,by rw[List.append_assoc] at z2;exact z2⟩;have hp':pl.length+1<=SZ:=by omega
 rw[up_eq (j+1) (g:=iI) rfl,av sk];exact kL [some (.tup [.str gN,f1,f2]),some (.tup pl),some (.ref q),none,none,none,none] rfl rfl (dr (u:=c1) (v:=a.af) (h':=h1) (by simp[e1,hp']) (uK (by simp[e2,hp'])))
theorem Gd{n:Nat}{f1 f2:W}{way:List W}{x y:S}(g1:sJ fs Γ n f1 way x):sJ fs Γ (n+2) (.tup [.str uG,.str y,f1,f2]) (.int 0::way) x:=by
 intro k hk pl q sh fr nd h hp hg s;obtain⟨j,rfl⟩:∃j,k=j+2:=⟨k-2,by omega⟩;obtain⟨b,h1,e1,y1,z1⟩:=g1 j (by omega) (pl++[.int 0]) q sh fr nd h (by simp;omega) (by omega) s;refine⟨b,h1,?_,y1,by rw[List.append_assoc] at z1;exact z1⟩;have hp':pl.length+1<=SZ:=by omega
 rw[up_eq (j+1) (g:=lB) rfl,av CD];exact kL [some (.tup [.str uG,.str y,f1,f2]),some (.tup pl),some (.ref q),none,none,none,none] rfl rfl (uK (by simp[e1,hp']))
end
theorem vV(k:Nat)(h:Hp)(q:Nat):run T (k+2) gG [.ref q] h=.ok (.ref (h.length+2)) (h++[.lst [],.lst [],.ins gD [(fU,.ref q),(cP,.ref h.length),(b6,.ref (h.length+1)),(iP,.tup [])]]):=by have i:=ot k (h++[.lst [],.lst []]) (.ref q) (.ref h.length) (.ref (h.length+1)) (.tup []);rw[av pO];unfold bg gB;simp only[List.length_append,List.length_cons,List.length_nil,List.append_assoc,List.cons_append,List.nil_append] at i;simp[i]
section
variable {h:Hp}{a d n:Nat}{rs:List Nat}{told:List S}{z:Option (Nat×S)}
theorem ze(D:dA h a d n rs told z):cG (h++[.lst [],.lst [],.ins gD [(fU,.ref a),(cP,.ref h.length),(b6,.ref (h.length+1)),(iP,.tup [])]]) (h.length+2) (.ref a) h.length (h.length+1) ⟨[],[],told,z⟩ []:=
 ⟨by simp,by simp,by simp,a,d,n,rs,rfl,D.grow (aA.app _ _)⟩
theorem LG{m:Nat}{f:W}{kd:Kd}{c:W}(g:Comes ⟨[],[],told,z⟩ [] m f kd c)(k:Nat)(hn:m+1<=k)(h3:3<=k)(hk:m<=SZ)(D:dA h a d n rs told z):∃h',run T k eC [.ref a,f] h=.ok (.tup [c,kd.af]) h'/\aA h h':=by obtain⟨j,rfl⟩:∃j,k=j+3:=⟨k-3,by omega⟩;have o:=vV j h a;obtain⟨h1,e1,y1⟩:=g (j+2) (by omega) [] (h.length+2) (.ref a) h.length (h.length+1) _ (by simpa using hk) (by simpa using hk) (ze D);refine⟨h1,?_,(aA.app _ _).trans y1⟩;have s:=D.o;rw[av lW];unfold bg iV;simp[s,List.lookup,o,e1]
theorem Jq{m:Nat}{f:W}{way:List W}{x:S}(g:sJ ⟨[],[],told,z⟩ [] m f way x)(k:Nat)(hn:m+1<=k)(h3:3<=k)(hk:m<=SZ)(D:dA h a d n rs told z):∃b h',run T k eC [.ref a,f] h=.aD b h'/\aA h h'/\h'[b]?=some (.aD vz [(mE,.tup way),(az,.str x)]):=by obtain⟨j,rfl⟩:∃j,k=j+3:=⟨k-3,by omega⟩;have o:=vV j h a;obtain⟨b,h1,e1,y1,z1⟩:=g (j+2) (by omega) [] (h.length+2) (.ref a) h.length (h.length+1) _ (by simpa using hk) (by simpa using hk) (ze D);refine⟨b,h1,?_,(aA.app _ _).trans y1,z1⟩;have s:=D.o;rw[av lW];exact kL [some (.ref a),some f] rfl rfl (wg (by simp[s,List.lookup,o,e1]))
theorem Gg{m:Nat}{f:W}{way:List W}{x:S}(g:sJ ⟨[],[],told,z⟩ [] m f way x)(k:Nat)(hn:m+2<=k)(h3:4<=k)(hk:m<=SZ)(D:dA h a d n rs told z):∃h',run T k eG [.ref a,f] h=.ok (.tup [.tup way,.str x]) h'/\aA h h':=by obtain⟨j,rfl⟩:∃j,k=j+1:=⟨k-1,by omega⟩;obtain⟨b,h1,e1,y1,z1⟩:=Jq g j (by omega) (by omega) hk D;refine⟨h1,?_,y1⟩;have s:=D.o;rw[av vK];exact aQ [some (.ref a),some f,none] rfl rfl (Aa (by rw[uI];simp[s,List.lookup,e1,kx,z1,j7]))
end
theorem H9(k:Nat)(w:W)(h:Hp):run T (k+1) gQ [w] h=.ok (.tup [.str aN,w,.tup [.str aN,w,.tup [.str cL]]]) h:=by rw[av pZ];exact aQ [some w] rfl rfl (aE (by simp))
noncomputable abbrev gH(f e:Nat)(kw co wk:W):O:=.ins iE [(cP,.ref f),(b6,.ref e),(nB,kw),(pX,co),(qp,wk)]
theorem uq(k:Nat){r f e:Nat}{kw a1 a2 a3 a4:W}{ns:List S}(ne:e≠r):∀(n:Nat)(co wk:W)(o5 o6:Option W)(h:Hp),n<=ns.length->h[e]?=some (.lst (ns.map W.str))->h[r]?=some (gH f e kw co wk)->
  ∃co' wk' o5' o6' h',cM e (.var 5) (au (run T (k+1)) dW) n [some (.ref r),some a1,some a2,some a3,some a4,o5,o6] h=.ok (.next [some (.ref r),some a1,some a2,some a3,some a4,o5',o6']) h'/\h'[r]?=some (gH f e kw co' wk')/\Ext r h h'/\(n=0->h'=h)
 |0,co,wk,o5,o6,h,_,_,er=>⟨co,wk,o5,o6,h,by simp[cM],er,Ext.refl r h,fun _=>rfl⟩
 |n+1,co,wk,o5,o6,h,l,en,er=>by
  have hn:n<ns.length:=by omega
  obtain⟨z,hz⟩:∃z,ns[n]?=some z:=⟨ns[n],List.getElem?_eq_getElem hn⟩;have lk:=H9 k (.tup [.str br,.str z]) h;have g1:=aV (o:=gH f e kw (.tup [.str ll,.tup [.str aN,.tup [.str br,.str z],.tup [.str aN,.tup [.str br,.str z],.tup [.str cL]]],co]) wk) er;have g2:=aV (o:=gH f e kw (.tup [.str ll,.tup [.str aN,.tup [.str br,.str z],.tup [.str aN,.tup [.str br,.str z],.tup [.str cL]]],co]) (.tup [.str aN,.tup [.str aN,.tup [.str br,.str z],.tup [.str aN,.tup [.str br,.str z],.tup [.str cL]]],wk])) g1;obtain⟨co',wk',o5',o6',h',t,q1,q2,_⟩:=uq k ne n _ _ (some (.str z)) (some (.tup [.str aN,.tup [.str br,.str z],.tup [.str aN,.tup [.str br,.str z],.tup [.str cL]]])) _ (by omega) (aS (Ne.symm ne) (aS (Ne.symm ne) en)) g2;refine⟨co',wk',o5',o6',h',?_,q1,((Ext.set r h _).trans (Ext.set r _ _)).trans q2,fun Z=>by cases Z⟩;have bdy:au (run T (k+1)) dW [some (.ref r),some a1,some a2,some a3,some a4,some (.str z),o6] h=.ok (.next [some (.ref r),some a1,some a2,some a3,some a4,some (.str z),some (.tup [.str aN,.tup [.str br,.str z],.tup [.str aN,.tup [.str br,.str z],.tup [.str cL]]])]) _:=
   aw (w:=.tup [.str aN,.tup [.str br,.str z],.tup [.str aN,.tup [.str br,.str z],.tup [.str cL]]]) (h':=h) (by simp[lk]) (ax (σ':=[some (.ref r),some a1,some a2,some a3,some a4,some (.str z),some (.tup [.str aN,.tup [.str br,.str z],.tup [.str aN,.tup [.str br,.str z],.tup [.str cL]]])]) (h':=h.set r (gH f e kw (.tup [.str ll,.tup [.str aN,.tup [.str br,.str z],.tup [.str aN,.tup [.str br,.str z],.tup [.str cL]]],co]) wk)) (by simp[er,List.lookup,eW]) (ax (σ':=[some (.ref r),some a1,some a2,some a3,some a4,some (.str z),some (.tup [.str aN,.tup [.str br,.str z],.tup [.str aN,.tup [.str br,.str z],.tup [.str cL]]])]) (h':=(h.set r (gH f e kw (.tup [.str ll,.tup [.str aN,.tup [.str br,.str z],.tup [.str aN,.tup [.str br,.str z],.tup [.str cL]]],co]) wk)).set r (gH f e kw (.tup [.str ll,.tup [.str aN,.tup [.str br,.str z],.tup [.str aN,.tup [.str br,.str z],.tup [.str cL]]],co]) (.tup [.str aN,.tup [.str aN,.tup [.str br,.str z],.tup [.str aN,.tup [.str br,.str z],.tup [.str cL]]],wk]))) (by simp[g1,List.lookup,eW, -List.set_set]) (aK _ _ _)))
  rw[cM];simp only[aZ,en,List.getElem?_map,hz,Option.map_some,turn,eZ,List.set_cons_succ,List.set_cons_zero,bdy,R.ak];exact t
theorem Ka(k:Nat){fr nd:Nat}{fs ns:List S}{h:Hp}(ef:h[fr]?=some (.lst (fs.map W.str)))(en:h[nd]?=some (.lst (ns.map W.str)))(kw c:W):
  ∃co wk h',run T (k+2) fO [.ref h.length,.ref fr,.ref nd,kw,c] (h++[.ins iE []])=.ok .ah h'/\h'[h.length]?=some (gH (h.length+1) (h.length+2) kw co wk)/\h'[h.length+1]?=some (.lst (fs.map W.str))/\h'[h.length+2]?=some (.lst (ns.map W.str))/\aA h h':=by
 have e1:=aF [O.ins iE []] ef;have e2:=aF [O.ins iE [(cP,.ref (h.length+1))],O.lst (fs.map W.str)] en;generalize hF:fs.map W.str=F at *;have r0:(h++[gH (h.length+1) (h.length+2) kw c kw,.lst F,.lst (ns.map W.str)])[h.length]?=some (gH (h.length+1) (h.length+2) kw c kw):=by simp
 have r1:(h++[gH (h.length+1) (h.length+2) kw c kw,.lst F,.lst (ns.map W.str)])[h.length+1]?=some (.lst F):=by simp
 have r2:(h++[gH (h.length+1) (h.length+2) kw c kw,.lst F,.lst (ns.map W.str)])[h.length+2]?=some (.lst (ns.map W.str)):=by simp
 obtain⟨co,wk,o5,o6,h',t,q1,q2,_⟩:=uq k (r:=h.length) (f:=h.length+1) (e:=h.length+2) (a1:=.ref fr) (a2:=.ref nd) (a3:=kw) (a4:=c) (ns:=ns) (by omega) ns.length c kw none none _ (Nat.le_refl _) r2 r0;refine⟨co,wk,h',?_,q1,q2.keep _ _ r1 (by omega),q2.keep _ _ r2 (by omega),⟨by have:=q2.len;simp at this;omega,fun p o e=>q2.keep _ _ (aF _ e) (fun z=>absurd (bF e) (by omega))⟩⟩;have ln:(ns.map W.str).length=ns.length:=by simp
 rw[av nQ];generalize ns.map W.str=N at *;refine jf (σ':=[some (.ref h.length),some (.ref fr),some (.ref nd),some kw,some c,o5,o6]) [some (.ref h.length),some (.ref fr),some (.ref nd),some kw,some c,none,none] rfl rfl (ax (σ':=[some (.ref h.length),some (.ref fr),some (.ref nd),some kw,some c,none,none]) (h':=h++[O.ins iE [(cP,.ref (h.length+1))],O.lst F]) (by simp[e1,eW]) (ax (σ':=[some (.ref h.length),some (.ref fr),some (.ref nd),some kw,some c,none,none]) (h':=h++[O.ins iE [(cP,.ref (h.length+1)),(b6,.ref (h.length+2))],O.lst F,O.lst N]) (by simp[e2,eW]) (ax (σ':=[some (.ref h.length),some (.ref fr),some (.ref nd),some kw,some c,none,none]) (h':=h++[O.ins iE [(cP,.ref (h.length+1)),(b6,.ref (h.length+2)),(nB,kw)],O.lst F,O.lst N]) (by simp[eW]) (ax (σ':=[some (.ref h.length),some (.ref fr),some (.ref nd),some kw,some c,none,none]) (h':=h++[O.ins iE [(cP,.ref (h.length+1)),(b6,.ref (h.length+2)),(nB,kw),(pX,c)],O.lst F,O.lst N]) (by simp[eW]) (ax (σ':=[some (.ref h.length),some (.ref fr),some (.ref nd),some kw,some c,none,none]) (h':=h++[gH (h.length+1) (h.length+2) kw c kw,O.lst F,O.lst N]) (by simp[eW]) (ax (σ':=[some (.ref h.length),some (.ref fr),some (.ref nd),some kw,some c,o5,o6]) (h':=h') ?_ (aK _ _ _)))))));rw[bB];have lk:List.lookup b6 [(cP,W.ref (h.length+1)),(b6,.ref (h.length+2)),(nB,kw),(pX,c),(qp,kw)]=some (.ref (h.length+2)):=rfl;simp only[oA,qY,bq,List.getElem?_cons_zero,R.ak,field,r0,gH,lk,R.cg,r2,turns,ln];exact t
theorem qJ(C:Or){a b v:Nat}{xs ys:List S}{h:Hp}{B:List St}{u:Nat}(ea:h[a]?=some (.lst (xs.map W.str)))(eb:h[b]?=some (.lst (ys.map W.str)))(sub:∀x∈xs,x∈ys)(σ:Env)(hv:v<σ.length)(hu:u≠v)(su:σ[u]?=some (some (.ref b))):
  ∃o,bo a (.var v) (au C [.iff (.cmp .notin (.var v) (.var u)) B []]) xs.length 0 σ h=.ok (.next (σ.set v o)) h:=by
 obtain⟨σ',h',t,o,p1,p2⟩:=lj (xs:=xs.map W.str) (a:=a) (t:=.var v) (k:=au C [.iff (.cmp .notin (.var v) (.var u)) B []]) (fun _ σ' h'=>∃o,σ'=σ.set v o/\h'=h) (fun i σ h' ⟨_,_,z⟩=>by subst z;simp[aZ,ea])
  (fun i σ' h' x ⟨o,z1,z2⟩ ex=>by
   subst z1;subst z2;obtain⟨y,hy,rfl⟩:=List.mem_map.mp (List.mem_of_getElem? ex);refine⟨_,rfl,σ.set v (some (.str y)),h',?_,_,rfl,rfl⟩;have i:=jV eb y;have a1:((σ.set v o).set v (some (W.str y)))=σ.set v (some (.str y)):=List.set_set ..;have a2:(σ.set v (some (W.str y)))[v]?=some (some (.str y)):=List.getElem?_set_self hv;have a3:(σ.set v (some (W.str y)))[u]?=some (some (.ref b)):=by rw[List.getElem?_set_ne (Ne.symm hu)];exact su
   simp only[a1];exact aP (h':=h') (by simp[a2,a3,i,sub y hy]) (aK _ _ _)) xs.length 0 σ h (by simp) ⟨σ[v],by simp,rfl⟩
 subst p1;subst p2;exact⟨o,t⟩
theorem xZ(k:Nat){fr nd:Nat}{fs ns:List S}{h:Hp}{kd:Kd}(ef:h[fr]?=some (.lst (fs.map W.str)))(en:h[nd]?=some (.lst (ns.map W.str)))(hk:kd.depth+3<=k)(hd:2 ^ kd.depth<=SZ)(s1:∀x∈kd.put [],x∈fs)(s2:∀x∈fs,x∈kd.put [])(s3:∀x∈ns,x∈fs):
  ∃h',run T (k+1) hZ [.ref fr,.ref nd,kd.af] h=.ok .ah h'/\aA h h':=by
 have nm:=uR (T:=T) (pt:=ip) (pn:=fV) (self:=gZ) rfl rfl rfl kd k h hk hd;have l1:(h++[.ag (di (kd.put [])),.lst ((kd.put []).map W.str)])[h.length+1]?=some (.lst ((kd.put []).map W.str)):=by simp
 have f1:=aF [O.ag (di (kd.put [])),O.lst ((kd.put []).map W.str)] ef;have n1:=aF [O.ag (di (kd.put [])),O.lst ((kd.put []).map W.str)] en;obtain⟨o1,t1⟩:=qJ (run T k) (v:=4) (u:=0) (B:=[.bad]) l1 f1 s1 [some (.ref fr),some (.ref nd),some kd.af,some (.ref (h.length+1)),none,none] (by simp) (by decide) rfl;obtain⟨o2,t2⟩:=qJ (run T k) (v:=4) (u:=3) (B:=[.bad]) f1 l1 s2 [some (.ref fr),some (.ref nd),some kd.af,some (.ref (h.length+1)),o1,none] (by simp) (by decide) rfl;obtain⟨o3,t3⟩:=qJ (run T k) (v:=5) (u:=0) (B:=[.bad]) n1 f1 s3 [some (.ref fr),some (.ref nd),some kd.af,some (.ref (h.length+1)),o2,none] (by simp) (by decide) rfl;refine⟨h++[.ag (di (kd.put [])),.lst ((kd.put []).map W.str)],?_,aA.app _ _⟩;rw[av qS];have lI:((kd.put []).map W.str).length=(kd.put []).length:=by simp
 have lF:(fs.map W.str).length=fs.length:=by simp
 have lN:(ns.map W.str).length=ns.length:=by simp
 refine jf (σ':=[some (.ref fr),some (.ref nd),some kd.af,some (.ref (h.length+1)),o2,o3]) [some (.ref fr),some (.ref nd),some kd.af,none,none,none] rfl rfl (aw (w:=.ref (h.length+1)) (h':=h++[.ag (di (kd.put [])),.lst ((kd.put []).map W.str)]) (by simp[nm]) (ax (σ':=[some (.ref fr),some (.ref nd),some kd.af,some (.ref (h.length+1)),o1,none]) (h':=h++[.ag (di (kd.put [])),.lst ((kd.put []).map W.str)]) ?_ (ax (σ':=[some (.ref fr),some (.ref nd),some kd.af,some (.ref (h.length+1)),o2,none]) (h':=h++[.ag (di (kd.put [])),.lst ((kd.put []).map W.str)]) ?_ (ax (σ':=[some (.ref fr),some (.ref nd),some kd.af,some (.ref (h.length+1)),o2,o3]) (h':=h++[.ag (di (kd.put [])),.lst ((kd.put []).map W.str)]) ?_ (aK _ _ _)))))
 .rw[bB];simp only[cV,bq,List.set_cons_succ,List.set_cons_zero,List.getElem?_cons_zero,List.getElem?_cons_succ,R.ak,src,l1,R.cg,turns,lI];exact t1
 .rw[bB];simp only[cV,bq,List.getElem?_cons_zero,R.ak,src,f1,R.cg,turns,lF];exact t2
 .rw[bB];simp only[cV,bq,List.getElem?_cons_zero,List.getElem?_cons_succ,R.ak,src,n1,R.cg,turns,lN];exact t3
def pz(b:Nat)(h:Hp)(r:Nat)(one:S):Prop:=
 ∃f e co wk,(b<=r/\b<=f/\b<=e)/\h[r]?=some (.ins iE [(cP,.ref f),(b6,.ref e),(nB,(Kd.work (.any one) (.any one)).af),(pX,co),(qp,wk)])/\h[f]?=some (.lst [.str one])/\h[e]?=some (.lst [])
theorem pz.at{b:Nat}{h:Hp}{r:Nat}{one:S}(i:pz b h r one):k6 h r one:=let ⟨f,e,co,wk,_,x⟩:=i;⟨f,e,co,wk,x⟩
theorem pz.keep{b c:Nat}{h h':Hp}{r:Nat}{one:S}(i:pz b h r one)(l:c<=b)(k:∀p o,c<=p->h[p]?=some o->h'[p]?=some o):pz c h' r one:=
 let ⟨f,e,co,wk,⟨b1,b2,b3⟩,x1,x2,x3⟩:=i;⟨f,e,co,wk,⟨by omega,by omega,by omega⟩,k _ _ (by omega) x1,k _ _ (by omega) x2,k _ _ (by omega) x3⟩
structure oK(d n:Nat)(h h':Hp):Prop where
 len:h.length<=h'.length
 keep:∀(p:Nat)(o:O),h[p]?=some o->p≠d->p≠n->h'[p]?=some o
theorem Ge{k N:Nat}{h:Hp}{a d n fr nd:Nat}{rs:List Nat}{told fs ns:List S}{z:Option (Nat×S)}{kd:Kd}{name:S}{term c:W}(D:dA h a d n rs told z)(nn:name∉told)(ef:h[fr]?=some (.lst (fs.map W.str)))(en:h[nd]?=some (.lst (ns.map W.str)))
  (nf:fr≠d) (ne:nd≠d) (hl:told.length+1<SZ) (hk:kd.depth+4<=k) (h3:3<=k) (hN:N<=k) (hN2:N<=SZ) (hd:2 ^ kd.depth<=SZ) (s1:∀x∈kd.put [],x∈fs) (s2:∀x∈fs,x∈kd.put []) (s3:∀x∈ns,x∈fs) (g:Goes ⟨fs,ns,told,z⟩ [] N term kd c):
  ∃r h',run T (k+1) gY [.ref a,.str name,.ref fr,.ref nd,kd.af,term] h=.ok .ah h'/\dA h' a d n (rs++[r]) (told++[name]) z/\oK d n h h'/\(∀one,fs=[one]->ns=[]->kd=.work (.any one) (.any one)->pz h.length h' r one):=by
 obtain⟨k,rfl⟩:∃j,k=j+2:=⟨k-2,by omega⟩;have D0:=D.o;obtain⟨h1,r1,y1⟩:=xZ (k+1) ef en (by omega) hd s1 s2 s3;have DA:=D.grow y1;have D1:=DA.o;have i0:=ot (k+1) h1 (.ref a) (.ref fr) (.ref nd) (.tup []);have y2:aA h1 (h1++[O.ins gD [(fU,.ref a),(cP,.ref fr),(b6,.ref nd),(iP,.tup [])]]):=aA.app _ _;have sc:cG (h1++[O.ins gD [(fU,.ref a),(cP,.ref fr),(b6,.ref nd),(iP,.tup [])]]) h1.length (.ref a) fr nd ⟨fs,ns,told,z⟩ []:=⟨by simp,y2.keep _ _ (y1.keep _ _ ef),y2.keep _ _ (y1.keep _ _ en),a,d,n,rs,rfl,DA.grow y2⟩;obtain⟨h3,r3,y3⟩:=g (k+2) hN [] h1.length (.ref a) fr nd _ (by simpa using hN2) (by simpa using hN2) sc;have y13:aA h h3:=(y1.trans y2).trans y3;have D3:=D.grow y13;have o3:=D3.o;have l3:=D3.l;have m3:=D3.m;have na:a≠n:=fun Z=>by subst Z;rw[o3] at m3;cases m3
 have nad:a≠d:=fun Z=>by subst Z;rw[o3] at l3;cases l3
 have ndn:d≠n:=fun Z=>by subst Z;rw[l3] at m3;cases m3
 have nfn:fr≠n:=fun Z=>by have q:=y13.keep _ _ ef;rw[Z,m3] at q;cases q
 have nnn:nd≠n:=fun Z=>by have q:=y13.keep _ _ en;rw[Z,m3] at q;cases q
 have ap:=xg told 0 nn;rw[Int.zero_add] at ap;have e4:oK n n h3 (h3.set n (.ag (bO 0 (told++[name])))):=⟨by simp,fun p o e q _=>aS (Ne.symm q) e⟩;have o4:=aS (o:=O.ag (bO 0 (told++[name]))) na.symm o3;have l4:=aS (o:=O.ag (bO 0 (told++[name]))) ndn.symm l3;have m4:=aV (o:=O.ag (bO 0 (told++[name]))) m3;have f4:=aS (o:=O.ag (bO 0 (told++[name]))) nfn.symm (y13.keep _ _ ef);have n4:=aS (o:=O.ag (bO 0 (told++[name]))) nnn.symm (y13.keep _ _ en);obtain⟨co,wk,h5,r5,q5,qf,qe,y5⟩:=Ka k f4 n4 kd.af c;have l5:=y5.keep _ _ l4;have lenr:(rs.map W.ref).length<SZ:=by have:=D.e;simp;omega
 have E:oK d n h (h5.set d (.lst (rs.map W.ref++[.ref h3.length]))):=⟨by have:=y13.len;have:=y5.len;simp at this⊢;omega,fun p o e q1 q2=>aS (Ne.symm q1) (y5.keep _ _ (e4.keep _ _ (y13.keep _ _ e) q2 q2))⟩;have lt3:(h3.set n (O.ag (bO 0 (told++[name])))).length=h3.length:=by simp
 rw[lt3] at q5 qf qe r5;have dlt:d<h3.length:=bF l3;refine⟨h3.length,h5.set d (.lst (rs.map W.ref++[.ref h3.length])),?_,⟨E.keep _ _ D0 nad na,by rw[aV l5];simp,aS ndn (y5.keep _ _ m4),by simp[D.e],fun i one ez=>?_⟩,E,fun one e1 e2 e3=>?_⟩
 .rw[av tH];have isn:isIn (.str name) (.ref n) h=some false:=by simp[isIn,bP,D.m,vn told 0 nn]
  have ln:((rs.map W.ref).length:Int)=told.length:=by simp[D.e]
  have nl:(bO 0 told).length<SZ:=by rw[wK];omega
  refine jf (σ':=[some (.ref a),some (.str name),some (.ref fr),some (.ref nd),some kd.af,some term,some c]) [some (.ref a),some (.str name),some (.ref fr),some (.ref nd),some kd.af,some term,none] rfl rfl (aP (h':=h) (by simp[D0,List.lookup,isn]) (ax (σ':=[some (.ref a),some (.str name),some (.ref fr),some (.ref nd),some kd.af,some term,none]) (h':=h1) (by simp[r1]) (aw (w:=c) (h':=h3) (by simp[i0,r3]) (ax (σ':=[some (.ref a),some (.str name),some (.ref fr),some (.ref nd),some kd.af,some term,some c]) (h':=h3.set n (.ag (bO 0 (told++[name])))) ?_ (ax (σ':=[some (.ref a),some (.str name),some (.ref fr),some (.ref nd),some kd.af,some term,some c]) (h':=h5.set d (.lst (rs.map W.ref++[.ref h3.length]))) ?_ (aK _ _ _))))))
  .generalize rs.map W.ref=RS at *;generalize bO 0 told=ND at *;generalize bO 0 (told++[name])=ND' at *;simp[o3,List.lookup,l3,ln,m3,nl,ap]
  .generalize rs.map W.ref=RS at *;generalize bO 0 (told++[name])=ND' at *;simp[o4,List.lookup,l4,lt3,r5,l5,lenr]
 .obtain⟨r',er,I⟩:=D.z i one ez;obtain⟨f,e,co',wk',I1,I2,I3⟩:=I;have hi:i<rs.length:=(List.getElem?_eq_some_iff.mp er).1;refine⟨r',by rw[List.getElem?_append_left hi];exact er,f,e,co',wk',E.keep _ _ I1 (fun Z=>?_) (fun Z=>?_),E.keep _ _ I2 (fun Z=>?_) (fun Z=>?_),E.keep _ _ I3 (fun Z=>?_) (fun Z=>?_)⟩
  .rw[Z,D.l] at I1;cases I1
  .rw[Z,D.m] at I1;cases I1
  .rw[Z,D.l] at I2;cases rs with
   |nil=>simp at hi
   |cons _ _=>simp at I2
  .rw[Z,D.m] at I2;cases I2
  .rw[Z,D.l] at I3;cases rs with
   |nil=>simp at hi
   |cons _ _=>simp at I3
  .rw[Z,D.m] at I3;cases I3
 .subst e1;subst e2;subst e3;have yl:=y13.len;exact⟨h3.length+1,h3.length+2,co,wk,⟨by omega,by omega,by omega⟩,aS (by omega) q5,aS (by omega) (by simpa using qf),aS (by omega) (by simpa using qe)⟩
structure Row where
 nm:S
 fs:List S
 ns:List S
 kd:Kd
 tm:W
def tB(p q:Nat)(h:Hp)(w:W)(r:Row):Prop:=
 ∃f n,w=.tup [.str r.nm,.ref f,.ref n,r.kd.af,r.tm]/\h[f]?=some (.lst (r.fs.map W.str))/\h[n]?=some (.lst (r.ns.map W.str))/\(f≠p/\f≠q/\n≠p/\n≠q)
structure fX(p q A:Nat)(h:Hp)(ws:List W)(rs:List Row):Prop where
 l:h[A]?=some (.lst ws)
 e:ws.length=rs.length
 g:∀(i:Nat)(r:Row),rs[i]?=some r->∃w:W,ws[i]?=some w/\tB p q h w r
theorem tB.ext{p q:Nat}{h h':Hp}{w:W}{r:Row}(a:tB p q h w r)(x:oK p q h h'):tB p q h' w r:=
 let ⟨f,n,e,e1,e2,b1,b2,b3,b4⟩:=a;⟨f,n,e,x.keep _ _ e1 b1 b2,x.keep _ _ e2 b3 b4,b1,b2,b3,b4⟩
theorem FA{C:Or}{σ:Env}{v A p:Nat}{nE kE tE:E}{fE gE:Es}{h:Hp}{ws:List W}{rs:List Row}{r:Row}(D:fX p A A h ws rs)(hp:p<h.length)(hl:rs.length<100)(s:σ[v]?=some (some (.ref A)))(e1:ae C nE σ h=.ok (.str r.nm) h)(e2:∀h,bc C fE σ h=.ok (r.fs.map W.str) h)(e3:∀h,bc C gE σ h=.ok (r.ns.map W.str) h)(e4:∀h,ae C kE σ h=.ok r.kd.af h)(e5:∀h,ae C tE σ h=.ok r.tm h):
  ∃ws' h',aW C (.expr (.c7 .append (.var v) (.cons (.tup (.cons nE (.cons (.lst fE) (.cons (.lst gE) (.cons kE (.cons tE .nil)))))) .nil))) σ h=.ok (.next σ) h'/\fX p A A h' ws' (rs++[r])/\Ext A h h':=by
 have l:=D.l;have lt:=bF l;have sz:ws.length<SZ:=by rw[D.e];exact Nat.lt_trans hl (by decide)
 have l1:=aF [O.lst (r.fs.map W.str),O.lst (r.ns.map W.str)] l;have x0:Ext A h ((h++[O.lst (r.fs.map W.str),O.lst (r.ns.map W.str)]).set A (.lst (ws++[.tup [.str r.nm,.ref h.length,.ref (h.length+1),r.kd.af,r.tm]]))):=(Ext.app A h _).trans (Ext.set A _ _);refine⟨ws++[.tup [.str r.nm,.ref h.length,.ref (h.length+1),r.kd.af,r.tm]],_,?_,⟨aV l1,by simp[D.e],fun i u eu=>?_⟩,x0⟩
 .generalize r.fs.map W.str=F at *;generalize r.ns.map W.str=N at *;simp[s,l,e1,e2,e3,e4,e5,l1,sz]
 .by_cases c:i<rs.length
  .rw[List.getElem?_append_left c] at eu;obtain⟨w,ew,f,n,q1,q2,q3,b1,b2,b3,b4⟩:=D.g i u eu;exact⟨w,by rw[List.getElem?_append_left (by rw[D.e];exact c)];exact ew,f,n,q1,x0.keep _ _ q2 b2,x0.keep _ _ q3 b4,b1,b2,b3,b4⟩
  .have:i=rs.length:=by have:=(List.getElem?_eq_some_iff.mp eu).1;simp at this;omega
   subst this;simp at eu;subst eu;refine⟨.tup [.str r.nm,.ref h.length,.ref (h.length+1),r.kd.af,r.tm],by rw[<-D.e];simp,h.length,h.length+1,rfl,aS (by omega) (by simp),aS (by omega) (by simp),by omega,by omega,by omega,by omega⟩
theorem sv(k p:Nat):Km (run T (k+1)) cF p:=Ft (nx:=cF) rfl k p
theorem uA(k p:Nat)(h:Hp)(g:Gen p h):∃x h',run T (k+2) kS [.ref p] h=.ok (.str x) h'/\x.length<=8/\Ext p h h'/\Gen p h':=by rw[av BC];exact FR (nx:=cF) (sv k p) h g
noncomputable def g7(b:Bool)(w:S)(c:Nat):S:=if b then (w++[120])++[c] else ([c]++[120])++w
theorem Fw(b:Bool)(w:S)(c:Nat):(g7 b w c).length=w.length+2:=by cases b<;>simp[g7]
theorem EN{b:Bool}{w:S}{c d:Nat}(e:g7 b w c=g7 b w d):c=d:=by cases b<;>simp[g7] at e<;>exact e
noncomputable abbrev ends:List Nat:=[97,98,99,100,101,102,103,104,105,106,107]
theorem ml{k:W->List W->Hp->R (List W)}{a:Nat}{h:Hp}{α:Type}(f g:α->W){ys:List α}(e:h[a]?=some (.lst (ys.map f)))(hk:∀y acc,k (f y) acc h=.ok (acc++[g y]) h):
  ∀(l p:List α)(acc:List W),ys=p++l->cz a k l.length p.length acc h=.ok (acc++l.map g) h
 |[],p,acc,q=>by
  unfold cz;have:(ys.map f)[p.length]?=none:=by subst q;simp
  simp[aZ,e,this]
 |y::l,p,acc,q=>by
  have ih:=ml f g e hk l (p++[y]) (acc++[g y]) (by simp[q]);have:(ys.map f)[p.length]?=some (f y):=by subst q;simp
  rw[List.length_append] at ih;simp only[List.length_cons,List.length_nil,Nat.zero_add] at ih⊢;unfold cz;simp[aZ,e,this,hk,ih]
def Ends(P:W->Hp->Prop)(m:R Fl):Prop:=∃w h',m=.ok (.ret w) h'/\P w h'
section
variable {C:Or}{σ:Env}{h h':Hp}{c:E}{i:Nat}{r:List St}{w:W}{P:W->Hp->Prop}
theorem bw(e:ae C c σ h=.ok w h')(k:Ends P (au C r (σ.set i (some w)) h')):Ends P (au C (.set i c::r) σ h):=by rw[aw e rfl];exact k
theorem Eb(e:ae C c σ h=.ok w h')(k:P w h'):Ends P (au C (.ret c::r) σ h):=⟨w,h',aE e,k⟩
theorem HI{f:Fn}{xs:List W}(σ:Env)(l:xs.length=f.ps)(eσ:xs.map some++List.replicate (f.ns-f.ps) none=σ)(k:Ends P (au C f.body σ h)):∃w h',bg C f xs h=.ok w h'/\P w h':=by obtain⟨w,h',e,p⟩:=k;exact⟨w,h',aQ σ l eσ e,p⟩
theorem iy{v A p:Nat}{nE kE tE:E}{fE gE:Es}{ws:List W}{rs:List Row}(u:Row)(D:fX p A A h ws rs)(hp:p<h.length)(hl:rs.length<100)(s:σ[v]?=some (some (.ref A)))(e1:ae C nE σ h=.ok (.str u.nm) h)(e2:∀h,bc C fE σ h=.ok (u.fs.map W.str) h)(e3:∀h,bc C gE σ h=.ok (u.ns.map W.str) h)(e4:∀h,ae C kE σ h=.ok u.kd.af h)(e5:∀h,ae C tE σ h=.ok u.tm h)
  (k:∀ws' h',fX p A A h' ws' (rs++[u])->Ext A h h'->Ends P (au C r σ h')):Ends P (au C (.expr (.c7 .append (.var v) (.cons (.tup (.cons nE (.cons (.lst fE) (.cons (.lst gE) (.cons kE (.cons tE .nil)))))) .nil))::r) σ h):=by
 obtain⟨ws',h',t,D',x⟩:=FA D hp hl s e1 e2 e3 e4 e5;rw[ax t rfl];exact k ws' h' D' x
end
noncomputable abbrev vX:W:=.tup [.str az,.str [120]]
noncomputable abbrev vY:W:=.tup [.str az,.str [121]]
noncomputable abbrev vT:W:=.tup [.str az,.str [116]]
noncomputable abbrev vR:W:=.tup [.str az,.str [114]]
noncomputable abbrev fn(x:Nat)(w:W):W:=.tup [.str ll,.str [x],w]
noncomputable abbrev call(a b:W):W:=.tup [.str aU,a,b]
noncomputable abbrev AJ:S:=[114,105,103,104,116]
section
variable (nm:Nat->S) (one two:S) (v:Int)
noncomputable def r0:Row:=⟨nm 97,[one],[],.work (.any one) (.any one),fn 120 vX⟩
noncomputable def r1:Row:=⟨nm 98,[two,one],[],.work (.any one) (.work (.any two) (.pair (.any one) (.any two))),fn 120 (fn 121 (.tup [.str gN,vX,vY]))⟩
noncomputable def r2:Row:=⟨nm 99,[one],[one],.work (.any one) (.work (.row (.any one)) .tru),fn 120 (fn 114 (.tup [.str pG,vR,.tup [.str JM],fn 121 (fn 116 (.tup [.str oa,.tup [.str pH,vX,vY],.tup [.str jt],vT]))]))⟩
noncomputable def r3:Row:=⟨nm 100,[one,two],[],.work (.work (.any one) (.any two)) (.work (.row (.any one)) (.row (.any two))),fn 120 (fn 114 (.tup [.str pG,vR,.tup [.str tq,.tup [.str iJ,.tup []],(Kd.row (.any two)).af],fn 121 (fn 116 (.tup [.str pE,call vX vY,vT]))]))⟩
noncomputable def r4:Row:=⟨nm 101,[one,two],[two,one],.work (.pair (.any one) (.any two)) (.work (.pair (.any one) (.any two)) .tru),fn 120 (fn 121 (.tup [.str pH,vX,vY]))⟩
noncomputable def r5:Row:=⟨nm 102,[],[],.work .num .num,fn 120 (.tup [.str xw,vX,call (.tup [.str az,.str (nm 97)]) (.tup [.str iq,.int v])])⟩
noncomputable def r6:Row:=⟨nm 103,[one],[],.work (.work (.any one) (.any one)) (.work (.any one) (.any one)),fn 121 (fn 120 (call vY (call vY vX)))⟩
noncomputable def r7:Row:=⟨nm 104,[two],[],.row (.any two),.tup [.str iJ,.tup []]⟩
noncomputable def r8:Row:=⟨nm 105,[one],[one],.work (.any one) (.work (.row (.row (.any one))) .tru),fn 120 (fn 114 (call (call (.tup [.str az,.str (nm 99)]) (.tup [.str iJ,.tup [vX]])) vR))⟩
noncomputable def r9:Row:=⟨nm 106,[two,one],[],.work (.any two) (.work (.any one) (.any one)),fn 121 (fn 120 (call (.tup [.str az,.str (nm 97)]) (call (.tup [.str az,.str (nm 97)]) vX)))⟩
noncomputable def MK:Row:=⟨nm 107,[one,two],[],.work (.any one) (.work (.pair (.any one) (.any two)) (.any two)),fn 120 (fn 121 (.tup [.str AJ,vY]))⟩
noncomputable def later:List Row:=[r6 nm one,r7 nm two,r8 nm one,r9 nm one two,MK nm one two]
end
theorem fC{C:Or}{σ:Env}{v a:Nat}{h:Hp}{nm:Nat->S}(e:h[a]?=some (.lst (ends.map fun c=>.str (nm c))))(s:σ[v]?=some (some (.ref a)))(i:Int){c:Nat}(x:bG (ends.map fun c=>W.str (nm c)) i=some (.str (nm c))):ae C (.idx (.var v) (.cst (.int i))) σ h=.ok (.str (nm c)) h:=by simp only[kK,bq,s,R.ak,eI,idx,e,x,R.cg]
theorem A0(k p:Nat){a:Nat}{h:Hp}{nm:Nat->S}(e:h[a]?=some (.lst (ends.map fun c=>.str (nm c))))(hp:p<h.length)(one two:S):
  ∃w h',run T (k+1) mX [.ref a,.str one,.str two] h=.ok w h'/\∃ws,w=.ref h.length/\fX p h.length h.length h' ws (later nm one two)/\aA h h':=by
 rw[av Bb];have D0:fX p h.length h.length (h++[.lst []]) [] []:=⟨by simp,rfl,fun i r z=>by simp at z⟩;have x0:=Ext.app h.length h [O.lst []];have la:=bF e;refine HI [some (.ref a),some (.str one),some (.str two),none,none,none,none,none,none,none,none] rfl rfl ?_;refine bw (w:=(Kd.any one).af) (h':=h) (by kernel_rfl) ?_;refine bw (w:=(Kd.any two).af) (h':=h) (by kernel_rfl) ?_;refine bw (w:=vX) (h':=h) (by kernel_rfl) ?_;refine bw (w:=vY) (h':=h) (by kernel_rfl) ?_;refine bw (w:=(Kd.pair (.any one) (.any two)).af) (h':=h) (by kernel_rfl) ?_;refine bw (w:=.ref h.length) (h':=h++[.lst []]) (by simp) ?_;refine bw (w:=fn 121 (fn 120 (call vY (call vY vX)))) (h':=h++[.lst []]) (by simp) ?_;refine iy (r6 nm one) D0 (by simp;omega) (by simp) (by simp) (fC (a:=a) (nm:=nm) (x0.keep _ _ e (by omega)) (by simp) 6 rfl) (fun _=>by kernel_rfl) (fun _=>by kernel_rfl) (fun _=>by kernel_rfl) (fun _=>by kernel_rfl) fun ws1 h1 D1 y1=>?_;have x1:=x0.trans y1;have l1:=x1.len;refine iy (r7 nm two) D1 (by omega) (by simp) (by simp) (fC (a:=a) (nm:=nm) (x1.keep _ _ e (by omega)) (by simp) 7 rfl) (fun _=>by kernel_rfl) (fun _=>by kernel_rfl) (fun _=>by kernel_rfl) (fun _=>by kernel_rfl) fun ws2 h2 D2 y2=>?_;have x2:=x1.trans y2;have l2:=x2.len;refine bw (w:=call (call (.tup [.str az,.str (nm 99)]) (.tup [.str iJ,.tup [vX]])) vR) (h':=h2) ?_ ?_
 .have q:=fC (C:=run T k) (σ:=[some (.ref a),some (.str one),some (.str two),some (Kd.any one).af,some (Kd.any two).af,some vX,some vY,some (Kd.pair (.any one) (.any two)).af,some (.ref h.length),some (fn 121 (fn 120 (call vY (call vY vX)))),none]) (v:=0) (a:=a) (nm:=nm) (x2.keep _ _ e (by omega)) rfl 2 (c:=99) rfl;simp only[List.set_cons_zero,List.set_cons_succ,kz,bZ,cH,q,eI,bq,R.ak,List.getElem?_cons_zero,List.getElem?_cons_succ]
 refine bw (w:=(Kd.row (.row (.any one))).af) (h':=h2) (by kernel_rfl) ?_;refine bw (w:=fn 120 (fn 114 (call (call (.tup [.str az,.str (nm 99)]) (.tup [.str iJ,.tup [vX]])) vR))) (h':=h2) (by kernel_rfl) ?_;refine iy (r8 nm one) D2 (by omega) (by simp) (by simp) (fC (a:=a) (nm:=nm) (x2.keep _ _ e (by omega)) (by simp) 8 rfl) (fun _=>by kernel_rfl) (fun _=>by kernel_rfl) (fun _=>by kernel_rfl) (fun _=>by kernel_rfl) fun ws3 h3 D3 y3=>?_;have x3:=x2.trans y3;have l3:=x3.len;refine bw (w:=call (.tup [.str az,.str (nm 97)]) (call (.tup [.str az,.str (nm 97)]) vX)) (h':=h3) ?_ ?_
 .have q:=fC (C:=run T k) (σ:=[some (.ref a),some (.str one),some (.str two),some (Kd.any one).af,some (Kd.any two).af,some vX,some vY,some (Kd.pair (.any one) (.any two)).af,some (.ref h.length),some (fn 120 (fn 114 (call (call (.tup [.str az,.str (nm 99)]) (.tup [.str iJ,.tup [vX]])) vR))),some (Kd.row (.row (.any one))).af]) (v:=0) (a:=a) (nm:=nm) (x3.keep _ _ e (by omega)) rfl 0 (c:=97) rfl;simp only[List.set_cons_zero,List.set_cons_succ,kz,bZ,cH,q,eI,bq,R.ak,List.getElem?_cons_zero,List.getElem?_cons_succ]
 refine iy (r9 nm one two) D3 (by omega) (by simp) (by simp) (fC (a:=a) (nm:=nm) (x3.keep _ _ e (by omega)) (by simp) 9 rfl) (fun _=>by kernel_rfl) (fun _=>by kernel_rfl) (fun _=>by kernel_rfl) (fun _=>by kernel_rfl) fun ws4 h4 D4 y4=>?_;have x4:=x3.trans y4;have l4:=x4.len;refine bw (w:=fn 120 (fn 121 (.tup [.str AJ,vY]))) (h':=h4) (by kernel_rfl) ?_;refine iy (MK nm one two) D4 (by omega) (by simp) (by simp) (fC (a:=a) (nm:=nm) (x4.keep _ _ e (by omega)) (by simp) 10 rfl) (fun _=>by kernel_rfl) (fun _=>by kernel_rfl) (fun _=>by kernel_rfl) (fun _=>by kernel_rfl) fun ws5 h5 D5 y5=>?_;have x5:=x4.trans y5;exact Eb (w:=.ref h.length) (h':=h5) (by simp) ⟨ws5,rfl,D5,⟨x5.len,fun q o z=>x5.keep _ _ z (fun Z=>absurd (bF z) (by omega))⟩⟩
theorem wW{α:Type}(x:List α)(j:Int):(cut x none (some j)).length<=x.length:=by simp only[cut,List.length_take,List.length_drop];omega
noncomputable def ql(nm:Nat->S)(one two:S)(v:Int):List Row:=[r0 nm one,r1 nm one two,r2 nm one,r3 nm one two,r4 nm one two,r5 nm v]++later nm one two
noncomputable def rowsOf(nm:Nat->S)(one:S)(v:Int):List Row:=ql nm one (one++[107]) v
theorem Bt(k p:Nat){a:Nat}{h:Hp}{w:S}(e:h[a]?=some (.lst (ends.map fun c=>.str [c])))(g:Gen p h)(hw:w.length<=8)(r:Env)(hr:r.length=14):
  ∃b h',ae (run T (k+1)) (.ite (.cmp .eq (.call cF (.cons (.var 0) (.cons (.cst (.int 2)) .nil))) (.cst (.int 0))) (.comp iA (.seq (.var 2)) .none) (.comp iD (.seq (.var 2)) .none)) (some (.ref p)::some (.str w)::some (.ref a)::r) h=.ok (.ref h'.length) (h'++[.lst (ends.map fun c=>.str (g7 b w c))])/\Ext p h h'/\Gen p h':=by
 have ap:a≠p:=fun z=>by obtain⟨_,_,_,_,q,_⟩:=g.ex;rw[z,q] at e;simp at e
 obtain⟨v,h1,r1,a1,b1,x1,g1⟩:=sv k p 2 h g (by decide);have e1:=x1.keep _ _ e ap;have z1:w.length+1<=SZ:=Nat.le_trans (by omega:w.length+1<=9) (by decide);have z2:w.length+1+1<=SZ:=Nat.le_trans (by omega:w.length+1+1<=10) (by decide);have z3:1+1+w.length<=SZ:=Nat.le_trans (by omega:1+1+w.length<=10) (by decide);have z4:1+1<=SZ:=by decide
 refine⟨decide (v=0),h1,?_,x1,g1⟩;have A8:∀y:W,(some (W.ref p)::some (.str w)::some (.ref a)::r++[some y])[17]?=some (some y):=fun y=>by
  rw[List.getElem?_append_right (by simp[hr])];simp[hr]
 rw[vU];have c0:ae (run T (k+1)) (.cmp .eq (.call cF (.cons (.var 0) (.cons (.cst (.int 2)) .nil))) (.cst (.int 0))) (some (.ref p)::some (.str w)::some (.ref a)::r) h=.ok (.bl (decide (v=0))) h1:=by simp[r1]
 rw[c0,R.ak];by_cases c:v=0
 .have wk:=ml (k:=iB (dD (run T (k+1)) .none) (ae (run T (k+1)) iA) (some (.ref p)::some (.str w)::some (.ref a)::r)) (fun c=>W.str [c]) (fun c=>W.str (g7 true w c)) e1 (fun y acc=>by
   have t:=A8 (.str [y]);simp only[List.cons_append] at t;simp[iB,iA,t,z1,z2,g7]) ends [] [] rfl
  simp only[List.length_nil] at wk;simp only[c,decide_true,truth,ij,cV,bq,List.getElem?_cons_zero,List.getElem?_cons_succ,R.ak,src,e1,R.cg,walk,List.length_map,wk,List.nil_append];simp[dq,SZ]
 .have wk:=ml (k:=iB (dD (run T (k+1)) .none) (ae (run T (k+1)) iD) (some (.ref p)::some (.str w)::some (.ref a)::r)) (fun c=>W.str [c]) (fun c=>W.str (g7 false w c)) e1 (fun y acc=>by
   have t:=A8 (.str [y]);simp only[List.cons_append] at t;simp[iB,iD,t,z3,z4,g7]) ends [] [] rfl
  simp only[List.length_nil] at wk;simp only[c,decide_false,truth,ij,cV,bq,List.getElem?_cons_zero,List.getElem?_cons_succ,R.ak,src,e1,R.cg,walk,List.length_map,wk,List.nil_append];simp[dq,SZ]
theorem Aj(k p:Nat){NA:Nat}{h5:Hp}{nm:Nat->S}{one two:S}{o1 o2:Option W}(g5:Gen p h5)(N5:h5[NA]?=some (.lst (ends.map fun c=>.str (nm c))))(hp:p<h5.length)(n3:p≠NA):
  Ends (fun w h'=>∃(L:Nat) (ws:List W) (v:Int),w=.ref L/\fX p p L h' ws (ql nm one two v)/\L≠p/\Ext p h5 h'/\Gen p h') (au (run T (k+3)) (oy.body.drop 5) [some (.ref p),o1,o2,some (.ref NA),some (.str one),some (.str two),none,none,none,none,none,none,none,none,none,none,none] h5):=by
 refine bw (w:=(Kd.any one).af) (h':=h5) (by kernel_rfl) ?_;refine bw (w:=(Kd.any two).af) (h':=h5) (by kernel_rfl) ?_;refine bw (w:=vX) (h':=h5) (by kernel_rfl) ?_;refine bw (w:=vY) (h':=h5) (by kernel_rfl) ?_;refine bw (w:=fn 121 (fn 116 (.tup [.str oa,.tup [.str pH,vX,vY],.tup [.str jt],vT]))) (h':=h5) (by kernel_rfl) ?_;refine bw (w:=fn 121 (fn 116 (.tup [.str pE,call vX vY,vT]))) (h':=h5) (by kernel_rfl) ?_;refine bw (w:=.tup [.str tq,.tup [.str iJ,.tup []],(Kd.row (.any two)).af]) (h':=h5) (by kernel_rfl) ?_;refine bw (w:=(Kd.pair (.any one) (.any two)).af) (h':=h5) (by kernel_rfl) ?_;refine bw (w:=Kd.tru.af) (h':=h5) (by kernel_rfl) ?_;have ev0:∀(h:Hp),h[NA]?=some (.lst (ends.map fun c=>.str (nm c)))->∀(z0 z1 z2:Option W)(r:Env),ae (run T (k+3)) (.idx (.var 3) (.cst (.int 0))) (z0::z1::z2::some (.ref NA)::r) h=.ok (.str (nm 97)) h:=fun h e z0 z1 z2 r=>fC (a:=NA) (nm:=nm) e rfl 0 rfl;refine bw (w:=.ref (h5.length+2)) (h':=h5++[.lst [.str one],.lst [],.lst [.tup [.str (nm 97),.ref h5.length,.ref (h5.length+1),(Kd.work (.any one) (.any one)).af,fn 120 vX]]]) ?_ ?_
 .simp only[List.set_cons_zero,List.set_cons_succ,wH,kz,bZ,cH,ev0 _ N5,eI,bq,R.ak,List.getElem?_cons_zero,List.getElem?_cons_succ,new];simp[Kd.af]
 have x6:Ext (h5.length+2) h5 (h5++[.lst [.str one],.lst [],.lst [.tup [.str (nm 97),.ref h5.length,.ref (h5.length+1),(Kd.work (.any one) (.any one)).af,fn 120 vX]]]):=Ext.app _ _ _;have D6:fX p (h5.length+2) (h5.length+2) (h5++[.lst [.str one],.lst [],.lst [.tup [.str (nm 97),.ref h5.length,.ref (h5.length+1),(Kd.work (.any one) (.any one)).af,fn 120 vX]]]) [.tup [.str (nm 97),.ref h5.length,.ref (h5.length+1),(Kd.work (.any one) (.any one)).af,fn 120 vX]] [r0 nm one]:=⟨by simp,rfl,fun i r e=>by
  cases i with
  |zero=>simp at e;subst e;exact⟨_,rfl,h5.length,h5.length+1,rfl,by simp[r0],by simp[r0],by omega,by omega,by omega,by omega⟩
  |succ i=>simp at e⟩
 generalize eh6:h5++[O.lst [.str one],.lst [],.lst [.tup [.str (nm 97),.ref h5.length,.ref (h5.length+1),(Kd.work (.any one) (.any one)).af,fn 120 vX]]]=h6 at x6 D6⊢;have l6:=x6.len;have nA:NA<h5.length:=bF N5;generalize eA:h5.length+2=A at x6 D6⊢;have nAA:NA≠A:=by omega
 have pA:p≠A:=by omega
 refine iy (r1 nm one two) D6 (by omega) (by simp) (by simp) (fC (a:=NA) (nm:=nm) (x6.keep _ _ N5 nAA) (by simp) 1 rfl) (fun _=>by kernel_rfl) (fun _=>by kernel_rfl) (fun _=>by kernel_rfl) (fun _=>by kernel_rfl) fun ws7 h7 D7 y7=>?_;have x7:=x6.trans y7;have l7:=x7.len;refine bw (w:=(r2 nm one).tm) (h':=h7) (by kernel_rfl) ?_;refine iy (r2 nm one) D7 (by omega) (by simp) (by simp) (fC (a:=NA) (nm:=nm) (x7.keep _ _ N5 nAA) (by simp) 2 rfl) (fun _=>by kernel_rfl) (fun _=>by kernel_rfl) (fun _=>by kernel_rfl) (fun _=>by kernel_rfl) fun ws8 h8 D8 y8=>?_;have x8:=x7.trans y8;have l8:=x8.len;refine bw (w:=(r3 nm one two).tm) (h':=h8) (by kernel_rfl) ?_;refine iy (r3 nm one two) D8 (by omega) (by simp) (by simp) (fC (a:=NA) (nm:=nm) (x8.keep _ _ N5 nAA) (by simp) 3 rfl) (fun _=>by kernel_rfl) (fun _=>by kernel_rfl) (fun _=>by kernel_rfl) (fun _=>by kernel_rfl) fun ws9 h9 D9 y9=>?_;have x9:=x8.trans y9;have l9:=x9.len;refine bw (w:=(r4 nm one two).tm) (h':=h9) (by kernel_rfl) ?_;refine iy (r4 nm one two) D9 (by omega) (by simp) (by simp) (fC (a:=NA) (nm:=nm) (x9.keep _ _ N5 nAA) (by simp) 4 rfl) (fun _=>by kernel_rfl) (fun _=>by kernel_rfl) (fun _=>by kernel_rfl) (fun _=>by kernel_rfl) fun ws10 h10 D10 y10=>?_;have x10:=x9.trans y10;have G10:aA h5 h10:=⟨x10.len,fun q o z=>x10.keep _ _ z (fun Z=>absurd (bF z) (by omega))⟩;have g10:=G10.gen g5;obtain⟨v,h11,xn,a11,b11,x11,g11⟩:=sv (k+2) p 9 h10 g10 (by decide);have N11:=x11.keep _ _ (x10.keep _ _ N5 nAA) (fun z=>by omega);refine bw (w:=(r5 nm (1+v)).tm) (h':=h11) ?_ ?_
 .simp only[List.set_cons_zero,List.set_cons_succ,kz,ic,rm,bZ,cH,ev0 _ (x10.keep _ _ N5 nAA),eI,bq,R.ak,List.getElem?_cons_zero,List.getElem?_cons_succ,xn];simp[r5]
 have x211:oK p A h10 h11:=⟨x11.len,fun q o z z1 _=>x11.keep _ _ z z1⟩;have D11:fX p A A h11 ws10 ([r0 nm one]++[r1 nm one two]++[r2 nm one]++[r3 nm one two]++[r4 nm one two]):=⟨x11.keep _ _ D10.l (Ne.symm pA),D10.e,fun i r e=>let ⟨w,z1,z2⟩:=D10.g i r e;⟨w,z1,z2.ext x211⟩⟩;have MV:=x11.len;have Nx:=x10.len;refine iy (r5 nm (1+v)) D11 (by omega) (by simp) (by simp) (fC (a:=NA) (nm:=nm) N11 (by simp) 5 rfl) (fun _=>by kernel_rfl) (fun _=>by kernel_rfl) (fun _=>by kernel_rfl) (fun _=>by kernel_rfl) fun ws12 h12 D12 y12=>?_;have N12:=y12.keep _ _ N11 nAA;have Nu:=y12.len;obtain⟨w13,h13,yW,ws13,rfl,D13,y13⟩:=A0 (k+2) p N12 (by omega) one two;have NX:=y13.len;have sz:ws12.length+ws13.length<=SZ:=by rw[D12.e,D13.e];simp[later,SZ]
 refine Eb (w:=.ref h13.length) (h':=h13++[.lst (ws12++ws13)]) ?_ ⟨h13.length,ws12++ws13,1+v,rfl,⟨by simp,by rw[List.length_append,D12.e,D13.e];rfl,fun i r e=>?_⟩,by omega,?_,?_⟩
 .have t1:=y13.keep _ _ D12.l;have t2:=D13.l;simp only[List.set_cons_zero,List.set_cons_succ,rm,bq,ic,bZ,cH,List.getElem?_cons_zero,List.getElem?_cons_succ,R.ak,yW,bin,t1,t2,sz,and_self,if_true,new]
 .by_cases c:i<6
  .obtain⟨w,z1,z2⟩:=D12.g i r ((List.getElem?_append_left (l₁:=[r0 nm one,r1 nm one two,r2 nm one,r3 nm one two,r4 nm one two,r5 nm (1+v)]) (by simpa using c)).symm.trans e);obtain⟨f,n,e0,e1,e2,b1,b2,b3,b4⟩:=z2;exact⟨w,by rw[List.getElem?_append_left (by rw[D12.e];simpa using c)];exact z1,f,n,e0,aF _ (y13.keep _ _ e1),aF _ (y13.keep _ _ e2),b1,b1,b3,b3⟩
  .obtain⟨w,z1,z2⟩:=D13.g (i-6) r ((List.getElem?_append_right (l₁:=[r0 nm one,r1 nm one two,r2 nm one,r3 nm one two,r4 nm one two,r5 nm (1+v)]) (by simp;omega)).symm.trans e);obtain⟨f,n,e0,e1,e2,b1,b2,b3,b4⟩:=z2;exact⟨w,by rw[List.getElem?_append_right (by rw[D12.e];simp;omega),D12.e];exact z1,f,n,e0,aF _ e1,aF _ e2,b1,b1,b3,b3⟩
 .exact⟨by simp;omega,fun q o z zp=>aF _ (y13.keep _ _ (y12.keep _ _ (x11.keep _ _ (G10.keep _ _ z) zp) (fun Z=>absurd (bF z) (by omega))))⟩
 .obtain⟨a,c,l,ns,e1,e2,e3⟩:=g11.ex;have lA:l≠A:=fun Z=>by
   obtain⟨w,z1,f,n,e0,_⟩:=D11.g 0 _ rfl;subst Z;rw[D11.l] at e2;cases e2;rw[e0] at z1;cases ns<;>simp at z1
  exact⟨a,c,l,ns,aF _ (y13.keep _ _ (y12.keep _ _ e1 pA)),aF _ (y13.keep _ _ (y12.keep _ _ e2 lA)),e3⟩
theorem Dn(k p:Nat){h:Hp}(g:Gen p h):
  ∃w h',run T (k+4) oz [.ref p] h=.ok w h'/\∃(L:Nat) (ws:List W) (b:Bool) (x one:S) (v:Int),w=.ref L/\fX p p L h' ws (rowsOf (g7 b x) one v)/\L≠p/\Ext p h h'/\Gen p h'/\x.length<=8/\one.length<=8:=by
 rw[av CV];obtain⟨x,h1,q1,a1,x1,g1⟩:=uA (k+1) p h g;have ly:(cut x none (some 6)).length<=8:=Nat.le_trans (wW _ _) a1;have sx:x.length<=SZ:=Nat.le_trans a1 (by decide);generalize ey:cut x none (some 6)=y at ly;refine HI [some (.ref p),none,none,none,none,none,none,none,none,none,none,none,none,none,none,none,none] rfl rfl ?_;refine bw (w:=.str y) (h':=h1) (by simp[q1,sx,ey]) ?_;refine bw (w:=.ref h1.length) (h':=h1++[.lst (ends.map fun c=>.str [c])]) (by simp) ?_;have g2:=g1.ext [.lst (ends.map fun c=>.str [c])];obtain⟨b,h3,q3,x3,g3⟩:=Bt (k+2) p (a:=h1.length) (h:=h1++[.lst (ends.map fun c=>.str [c])]) (w:=y) (by simp) g2 ly [none,none,none,none,none,none,none,none,none,none,none,none,none,none] rfl;refine bw q3 ?_;have g4:=g3.ext [.lst (ends.map fun c=>.str (g7 b y c))];have n3:=g3.Hw;obtain⟨u,h5,q5,a5,x5,g5⟩:=uA (k+1) p _ g4;have N5:=x5.keep _ _ (dY h3 (O.lst (ends.map fun c=>.str (g7 b y c)))) (Ne.symm n3);have lo:(cut u none (some 7)).length<=8:=Nat.le_trans (wW _ _) a5;have su:u.length<=SZ:=Nat.le_trans a5 (by decide);generalize eo:cut u none (some 7)=one at lo;have s1:one.length+1<=SZ:=Nat.le_trans (by omega:one.length+1<=9) (by decide);have x15:Ext p h h5:=(((x1.trans (Ext.app p _ _)).trans x3).trans (Ext.app p _ _)).trans x5;have hp:p<h5.length:=by obtain⟨_,_,_,_,z,_⟩:=g5.ex;exact bF z
 refine bw (w:=.str one) (h':=h5) ?_ ?_
 .generalize h3++[O.lst (ends.map fun c=>.str (g7 b y c))]=h4 at *;simp[q5,su,eo]
 refine bw (w:=.str (one++[107])) (h':=h5) (by simp[s1]) ?_;obtain⟨w,h',t,L,ws,v,ew,D,Lp,xx,gg⟩:=Aj k p (one:=one) (two:=one++[107]) (o1:=some (.str y)) (o2:=some (.ref h1.length)) g5 N5 hp n3;exact⟨w,h',t,L,ws,b,y,one,v,ew,D,Lp,x15.trans xx,gg,ly,lo⟩
theorem pK.mono{fs:Fx}{Γ:Cx}{m n:Nat}{kd:Kd}{L:W}(l:pK fs Γ m kd L)(h:m<=n):pK fs Γ n kd L:=fun k hk=>l k (by omega)
section
variable (nm:Nat->S) (one two:S) (told:List S) (z:Option (Nat×S))
theorem Qg:∃c,Goes ⟨[one],[],told,z⟩ [] 40 (r0 nm one).tm (r0 nm one).kd c:=
 ⟨_,(bL (n:=38) (by decide) ((cQ (n:=0) (by simp[Kd.depth]) (by simp[dB])).mono (by decide)))⟩
theorem Qz:∃c,Goes ⟨[two,one],[],told,z⟩ [] 40 (r1 nm one two).tm (r1 nm one two).kd c:=
 ⟨_,bL (n:=38) (by decide) (bL (n:=36) (by decide) (zC (n:=34) ((cQ (n:=1) (by simp[Kd.depth]) (by simp[dB])).mono (by decide)) ((cQ (n:=0) (by simp[Kd.depth]) (by simp[dB])).mono (by decide))))⟩
theorem go2:∃c,Goes ⟨[one],[one],told,z⟩ [] 40 (r2 nm one).tm (r2 nm one).kd c:=
 ⟨_,bL (n:=38) (by decide) (bL (n:=36) (by decide) (fw (n:=34) (by decide) (by decide) (qr (n:=32) (a:=.any one) ((jb (n:=0) (by simp[dB])).mono (by decide)) (CO.mono (by decide))
  (bL (n:=30) (by decide) (bL (n:=28) (by decide) (FD (n:=26) (fw (n:=24) (by decide) (by decide) (pV (n:=22) (kd:=.any one) ((A6 (kd:=.any one) (by simp[SZ]) (by simp[Lk])).mono (by simp[Kd.depth])) ((jb (n:=3) (by simp[dB])).mono (by decide)) ((cQ (n:=1) (by simp[Kd.depth]) (by simp[dB])).mono (by decide)))) (Cy.mono (by decide)) ((cQ (n:=0) (by simp[Kd.depth]) (by simp[dB])).mono (by decide))))))))⟩
theorem QY:∃c,Goes ⟨[one,two],[],told,z⟩ [] 40 (r3 nm one two).tm (r3 nm one two).kd c:=
 ⟨_,bL (n:=38) (by decide) (bL (n:=36) (by decide) (fw (n:=34) (by decide) (by simp[Kd.depth]) (qr (n:=32) (a:=.any one) (b:=.row (.any two)) ((jb (n:=0) (by simp[dB])).mono (by decide)) (xW (n:=30) (qv.mono (by decide)) (by simp[Kd.depth]) (by simp[Kd.depth,SZ]) (by simp[Kd.put,iS]))
  (bL (n:=30) (by decide) (bL (n:=28) (by decide) (xG (n:=26) ((mG (n:=4) (a:=vY) (rs:=[]) (x:=[120]) (m:=3) (kd:=.work (.any one) (.any two)) (kd':=.any two) (by decide) (by simp[Kd.depth]) (by simp[dB]) (fun pl=>.cons (cQ (n:=1) (by simp[Kd.depth]) (by simp[dB])) .nil)).mono (by decide)) ((cQ (n:=0) (by simp[Kd.depth]) (by simp[dB])).mono (by decide))))))))⟩
theorem Rh:∃c,Goes ⟨[one,two],[two,one],told,z⟩ [] 40 (r4 nm one two).tm (r4 nm one two).kd c:=
 ⟨_,bL (n:=38) (by decide) (bL (n:=36) (by decide) (fw (n:=34) (by decide) (by decide) (pV (n:=32) (kd:=.pair (.any one) (.any two)) ((A6 (kd:=.pair (.any one) (.any two)) (by simp[SZ]) (by simp[Lk])).mono (by simp[Kd.depth])) ((jb (n:=1) (by simp[dB])).mono (by decide)) ((cQ (n:=0) (by simp[Kd.depth]) (by simp[dB])).mono (by decide)))))⟩
theorem QS{i:Nat}{v:Int}(hx:bH (.str (nm 97)) (bO 0 told)=some (.int i))(nx:nm 97≠ [120]):∃c,Goes ⟨[],[],told,some (i,one)⟩ [] 40 (r5 nm v).tm (r5 nm v).kd c:=
 ⟨_,bL (n:=38) (by decide) (fw (n:=36) (by decide) (by decide) (AV (n:=34) ((cQ (n:=0) (by simp[Kd.depth]) (by simp[dB])).mono (by decide)) ((F8 (n:=2) (i:=i) (x:=nm 97) (one:=one) (kd:=.num) (by decide) rfl hx (by simpa using nx) (sM v)).mono (by decide))))⟩
theorem QU:∃c,Goes ⟨[one],[],told,z⟩ [] 40 (r6 nm one).tm (r6 nm one).kd c:=
 ⟨_,bL (n:=38) (by decide) (bL (n:=36) (by decide) ((mG (n:=30) (a:=call vY vX) (rs:=[]) (x:=[121]) (m:=1) (kd:=.work (.any one) (.any one)) (kd':=.any one) (by decide) (by simp[Kd.depth]) (by simp[dB]) (fun pl=>.cons ((mG (n:=4) (a:=vX) (rs:=[]) (x:=[121]) (m:=1) (kd:=.work (.any one) (.any one)) (kd':=.any one) (by decide) (by simp[Kd.depth]) (by simp[dB]) (fun pl=>.cons (cQ (n:=0) (by simp[Kd.depth]) (by simp[dB])) .nil)).mono (by decide)) .nil)).mono (by decide)))⟩
theorem Rc:∃c,Goes ⟨[two],[],told,z⟩ [] 40 (r7 nm two).tm (r7 nm two).kd c:=
 ⟨_,qv.mono (by decide)⟩
end
structure Good(r:Row):Prop where
 d:r.kd.depth<=10
 s1:∀x∈r.kd.put [],x∈r.fs
 s2:∀x∈r.fs,x∈r.kd.put []
 s3:∀x∈r.ns,x∈r.fs
theorem Bz{x y:S}{l:List S}:x∈iS l y↔x∈l\/x=y:=by simp only[iS];split<;>simp_all
theorem ug{nm:Nat->S}{one:S}{v:Int}{i:Nat}{r:Row}(e:(rowsOf nm one v)[i]?=some r)(hi:i<8):Good r/\r.nm=nm (97+i):=by
 generalize hh:one++[107]=two;rw[rowsOf,hh] at e;simp only[ql,later,List.cons_append,List.nil_append] at e;have:i=0\/i=1\/i=2\/i=3\/i=4\/i=5\/i=6\/i=7:=by omega
 rcases this with rfl|rfl|rfl|rfl|rfl|rfl|rfl|rfl<;>cases e<;>refine⟨⟨?_,?_,?_,?_⟩,rfl⟩<;>simp[r0,r1,r2,r3,r4,r5,r6,r7,Kd.depth,Kd.put,Bz]<;>(first|(intro x h;rcases h with ((rfl|rfl)|rfl)|rfl<;>simp)|simp_all)
structure Inv(B L:Nat)(ws:List W)(nm:Nat->S)(one:S)(v:Int)(K:Nat->List Nat)(t:Nat->Nat)(h:Hp):Prop where
 b:B+10<=h.length
 b3:3<=B
 g:Gen 2 h
 l:h[L]?=some (.lst ws)
 lb:L<B/\L≠2
 rw:∀(i:Nat)(r:Row),(rowsOf nm one v)[i]?=some r->∃f n,ws[i]?=some (.tup [.str r.nm,.ref f,.ref n,r.kd.af,r.tm])/\h[f]?=some (.lst (r.fs.map W.str))/\h[n]?=some (.lst (r.ns.map W.str))/\(f<B/\n<B/\f≠2/\n≠2)
 sa:h[B+6]?=some (.lst [.ref B,.ref (B+3)])
 ta:h[B+9]?=some (.lst [.ref (t 0),.ref (t 1)])
 dd:∀s,s<2->∃rs,dA h (B+3 * s) (B+3 * s+1) (B+3 * s+2) rs ((K s).map fun k=>nm (97+k)) none/\∀i:Nat,(K s)[i]?=some 0->∃r,rs[i]?=some r/\pz (B+10) h r one
 tt:∀s,s<2->h[t s]?=some (.lst ((K s).map fun k=>.int (k:Nat)))
 tb:∀s,s<2->t s=B+7+s\/B+10<=t s
section
variable {B L:Nat}{ws:List W}{nm:Nat->S}{one:S}{v:Int}{K:Nat->List Nat}{t:Nat->Nat}{h h':Hp}
theorem Inv.ext(I:Inv B L ws nm one v K t h)(x:Ext 2 h h')(g:Gen 2 h'):Inv B L ws nm one v K t h':=by
 have b3:=I.b3;refine⟨Nat.le_trans I.b x.len,I.b3,g,x.keep _ _ I.l I.lb.2,I.lb,fun i r e=>?_,x.keep _ _ I.sa (by omega),x.keep _ _ I.ta (by omega),fun s hs=>?_,fun s hs=>x.keep _ _ (I.tt s hs) (by have:=I.tb s hs;omega),I.tb⟩
 .obtain⟨f,n,e1,e2,e3,e4⟩:=I.rw i r e;exact⟨f,n,e1,x.keep _ _ e2 e4.2.2.1,x.keep _ _ e3 e4.2.2.2,e4⟩
 .obtain⟨rs,D,d⟩:=I.dd s hs;exact⟨rs,⟨x.keep _ _ D.o (by omega),x.keep _ _ D.l (by omega),x.keep _ _ D.m (by omega),D.e,fun _ _ z=>by cases z⟩,fun i e=>let ⟨r,r1,r2⟩:=d i e;⟨r,r1,r2.keep (Nat.le_refl _) fun p o q z=>x.keep _ _ z (by omega)⟩⟩
theorem Inv.grow(I:Inv B L ws nm one v K t h)(y:aA h h'):Inv B L ws nm one v K t h':=I.ext (y.ext 2) (y.gen I.g)
noncomputable def upd{α:Type}(f:Nat->α)(s:Nat)(x:α)(u:Nat):α:=if u=s then x else f u
theorem Inv.tell(I:Inv B L ws nm one v K t h){s k r:Nat}(hs:s<2){rs:List Nat}(x:oK (B+3 * s+1) (B+3 * s+2) h h')(D:dA h' (B+3 * s) (B+3 * s+1) (B+3 * s+2) (rs++[r]) ((K s).map (fun k=>nm (97+k))++[nm (97+k)]) none)
  (hr:∀i:Nat,(K s)[i]?=some 0->∃r,rs[i]?=some r/\pz (B+10) h r one) (h0:k=0->pz (B+10) h' r one):
  Inv B L ws nm one v (upd K s (K s++[k])) (upd t s (h'.length+1)) ((h'++[O.lst [.int k],O.lst ((K s).map (fun k=>W.int (k:Nat))++[.int k])]).set (B+9) (O.lst (([.ref (t 0),.ref (t 1)]:List W).set s (.ref (h'.length+1))))):=by
 have b3:=I.b3;have b0:=I.b;have xl:=x.len;have kp:∀(p:Nat)(o:O),h'[p]?=some o->p≠B+9->((h'++[O.lst [.int k],O.lst ((K s).map (fun k=>W.int (k:Nat))++[.int k])]).set (B+9) (O.lst (([.ref (t 0),.ref (t 1)]:List W).set s (.ref (h'.length+1)))))[p]?=some o:=fun p o e n=>aS (Ne.symm n) (aF _ e);have kq:∀(p:Nat)(o:O),h[p]?=some o->p≠B+9->p≠B+3 * s+1->p≠B+3 * s+2->((h'++[O.lst [.int k],O.lst ((K s).map (fun k=>W.int (k:Nat))++[.int k])]).set (B+9) (O.lst (([.ref (t 0),.ref (t 1)]:List W).set s (.ref (h'.length+1)))))[p]?=some o:=fun p o e n n1 n2=>kp _ _ (x.keep _ _ e n1 n2) n;have nw:((h'++[O.lst [.int k],O.lst ((K s).map (fun k=>W.int (k:Nat))++[.int k])]).set (B+9) (O.lst (([.ref (t 0),.ref (t 1)]:List W).set s (.ref (h'.length+1)))))[h'.length+1]?=some (O.lst ((K s).map (fun k=>W.int (k:Nat))++[.int k])):=aS (by omega) (by simp);have ta':=aF [O.lst [.int k],O.lst ((K s).map (fun k=>W.int (k:Nat))++[.int k])] (x.keep _ _ I.ta (by omega) (by omega));have ta2:=aV (o:=O.lst (([.ref (t 0),.ref (t 1)]:List W).set s (.ref (h'.length+1)))) ta';have ln:h'.length<=((h'++[O.lst [.int k],O.lst ((K s).map (fun k=>W.int (k:Nat))++[.int k])]).set (B+9) (O.lst (([.ref (t 0),.ref (t 1)]:List W).set s (.ref (h'.length+1))))).length:=by simp
 generalize (h'++[O.lst [.int k],O.lst ((K s).map (fun k=>W.int (k:Nat))++[.int k])]).set (B+9) (O.lst (([.ref (t 0),.ref (t 1)]:List W).set s (.ref (h'.length+1))))=h2 at *;have gg:Gen 2 h2:=by obtain⟨a,c,l,ns,e1,e2,e3⟩:=I.g.ex;exact⟨a,c,l,ns,kq _ _ e1 (by omega) (by omega) (by omega),kq _ _ e2 (by omega) (by omega) (by omega),e3⟩
 have hlb:=I.lb;refine⟨by omega,I.b3,gg,kq _ _ I.l (by omega) (by omega) (by omega),I.lb,fun i r e=>?_,kq _ _ I.sa (by omega) (by omega) (by omega),?_,fun u hu=>?_,fun u hu=>?_,fun u hu=>?_⟩
 .obtain⟨f,n,e1,e2,e3,e4⟩:=I.rw i r e;exact⟨f,n,e1,kq _ _ e2 (by omega) (by omega) (by omega),kq _ _ e3 (by omega) (by omega) (by omega),e4⟩
 .rw[ta2];have:s=0\/s=1:=by omega
  rcases this with rfl|rfl<;>simp[upd]
 .by_cases c:u=s
  .subst c;refine⟨rs++[r],⟨kp _ _ D.o (by omega),kp _ _ D.l (by omega),?_,?_,fun _ _ z=>by cases z⟩,fun i e=>?_⟩
   .have:=kp _ _ D.m (by omega);simpa [upd] using this
   .have:=D.e;simpa [upd] using this
   .simp only[upd,if_true] at e;have le:rs.length=(K u).length:=by have:=D.e;simpa using this
    by_cases c:i<(K u).length
    .rw[List.getElem?_append_left c] at e;obtain⟨q,q1,q2⟩:=hr i e;exact⟨q,by rw[List.getElem?_append_left (by omega)];exact q1,q2.keep (Nat.le_refl _) fun p o z1 z2=>kq _ _ z2 (by omega) (by omega) (by omega)⟩
    .have:i=(K u).length:=by have:=(List.getElem?_eq_some_iff.mp e).1;simp at this;omega
     subst this;simp at e;exact⟨r,by rw[<-le];simp,(h0 e).keep (Nat.le_refl _) fun p o z1 z2=>kp _ _ z2 (by omega)⟩
  .obtain⟨ru,Du,du⟩:=I.dd u hu;have ek:upd K s (K s++[k]) u=K u:=by simp[upd,c]
   rw[ek];exact⟨ru,⟨kq _ _ Du.o (by omega) (by omega) (by omega),kq _ _ Du.l (by omega) (by omega) (by omega),kq _ _ Du.m (by omega) (by omega) (by omega),Du.e,fun _ _ z=>by cases z⟩,fun i e=>let ⟨q,q1,q2⟩:=du i e;⟨q,q1,q2.keep (Nat.le_refl _) fun p o z1 z2=>kq _ _ z2 (by omega) (by omega) (by omega)⟩⟩
 .by_cases c:u=s
  .subst c;simp only[upd,if_true];rw[nw];simp
  .have:=I.tb u hu;have:=kq _ _ (I.tt u hu) (by omega) (by omega) (by omega);simpa [upd,c] using this
 .by_cases c:u=s
  .subst c;simp only[upd,if_true];omega
  .have:=I.tb u hu;simpa [upd,c] using this
end
theorem ve:∀l:List Nat,0∈l->∃i:Nat,l[i]?=some 0/\0∉l.take i/\eh (.int 0) (l.map fun k=>W.int (k:Nat))=some i
 |[],e=>by simp at e
 |x::l,e=>by
  by_cases c:x=0
  .subst c;exact⟨0,rfl,by simp,by simp[eh]⟩
  .have c':¬ (0:Nat)=x:=fun z=>c z.symm;obtain⟨i,e1,e2,e3⟩:=ve l (by simpa [c'] using e);exact⟨i+1,by simpa using e1,by simpa [c'] using e2,by simp[eh,c,e3]⟩
theorem sr:∀l:List Nat,(l.map fun k=>W.int (k:Nat)).all flat=true
 |[]=>rfl
 |x::r=>by simp[sr r]
theorem v5:∀l:List Nat,(l.map fun k=>W.int (k:Nat)).all isKey=true
 |[]=>rfl
 |x::r=>by simp[v5 r]
theorem wJ(x:Nat):∀l:List Nat,((l.map fun k=>W.int (k:Nat)).any fun z=>bp z (.int x))=decide (x∈l)
 |[]=>by simp
 |y::r=>by
  simp only[List.map_cons,List.any_cons,wJ x r,vM,List.mem_cons];by_cases e:y=x<;>by_cases f:x∈r<;>simp[e,f]<;>omega
theorem jM{h:Hp}{q:Nat}{l:List Nat}(e:h[q]?=some (.lst (l.map fun k=>W.int (k:Nat))))(x:Nat):isIn (.int x) (.ref q) h=some (decide (x∈l)):=by unfold isIn;rw[rL e];have:=sr l;simp only[t6,items,e,wJ,this];simp
noncomputable abbrev nW(m:Int):W:=.tup [.str iq,.int m]
noncomputable abbrev fW(nm:Nat->S)(m:Int):W:=.tup [.str gN,.tup [.str jt],call (.tup [.str az,.str (nm 97)]) (nW m)]
noncomputable abbrev env(B L:Nat)(nm:Nat->S)(m:Int)(o8 o9 o10 o11 o12 o13 o14:Option W):Env:=[some (.ref 0),some (.ref 2),some (.ref L),some (.ref (B+6)),some (.ref (B+9)),some (nW m),some (fW nm m),some (Kd.pair .tru .num).af,o8,o9,o10,o11,o12,o13,o14]
theorem AR{α:Type}(f:Nat->α){s:Nat}(hs:s<2):bG [f 0,f 1] (s:Int)=some (f s):=by
 have:s=0\/s=1:=by omega
 rcases this with rfl|rfl<;>simp
section
variable {B L:Nat}{ws:List W}{nm:Nat->S}{one:S}{v m:Int}{K:Nat->List Nat}{t:Nat->Nat}{h h':Hp}{o8 o9 o11 o12 o13 o14:Option W}
theorem sY{s:Nat}(hs:s<2):bG [W.ref B,.ref (B+3)] (s:Int)=some (.ref (B+3 * s)):=by have e:=AR (fun s=>W.ref (B+3 * s)) hs;simpa using e
theorem qo{s:Nat}(hs:s<2):bG [W.ref (t 0),.ref (t 1)] (s:Int)=some (.ref (t s)):=AR (fun s=>W.ref (t s)) hs
theorem Inv.row(I:Inv B L ws nm one v K t h){i:Nat}{r:Row}(e:(rowsOf nm one v)[i]?=some r):∃f n,bG ws (i:Int)=some (.tup [.str r.nm,.ref f,.ref n,r.kd.af,r.tm])/\h[f]?=some (.lst (r.fs.map W.str))/\h[n]?=some (.lst (r.ns.map W.str)):=by obtain⟨f,n,e1,e2,e3,_⟩:=I.rw i r e;obtain⟨l,q⟩:=List.getElem?_eq_some_iff.mp e1;exact⟨f,n,by rw[dw ws i l,q],e2,e3⟩
theorem jv(inj:∀a b,nm a=nm b->a=b){k:Nat}{l:List Nat}(e:k∉l):nm (97+k)∉l.map fun k=>nm (97+k):=fun z=>by
 obtain⟨j,hj,q⟩:=List.mem_map.mp z;have:=inj _ _ q;exact e (by rwa [show k=j by omega])
theorem Inv.N0(I:Inv B L ws nm one v K t h){s:Nat}(hs:s<2){f:W}{way:List W}{x:S}{n:Nat}(hn:n<=30)(g:sJ ⟨[],[],(K s).map fun k=>nm (97+k),none⟩ [] n f way x):∃h',run T 44 eG [.ref (B+3 * s),f] h=.ok (.tup [.tup way,.str x]) h'/\aA h h':=by obtain⟨rs,D,_⟩:=I.dd s hs;exact Gg g 44 (by omega) (by omega) (Nat.le_trans hn (by decide)) D
theorem Fg(inj:∀a b,nm a=nm b->a=b)(I:Inv B L ws nm one v K t h){s:Nat}(hs:s<2):∃h1,ae (run T 44) (.and (.cmp .notin (.cst (.int 0)) (.idx (.var 4) (.var 10))) (.cmp .ne (.call eG (.cons (.idx (.var 3) (.var 10)) (.cons (.var 6) .nil))) (.tup (.cons (.tup (.cons (.cst (.int 1)) (.cons (.cst (.int 0)) .nil))) (.cons (.idx (.idx (.var 2) (.cst (.int 0))) (.cst (.int 0))) .nil))))) (env B L nm m o8 o9 (some (.int s)) o11 o12 o13 o14) h=.ok (.bl false) h1/\aA h h1:=by
 have i0:isIn (.int 0) (.ref (t s)) h=some (decide (0∈K s)):=jM (I.tt s hs) 0;have es:=sY (B:=B) hs;have et:=qo (t:=t) hs;by_cases z:0∈K s
 .exact⟨h,by simp[I.ta,et,i0,z],aA.refl h⟩
 .obtain⟨h1,q1,y1⟩:=I.N0 hs (f:=fW nm m) (way:=[.int 1,.int 0]) (x:=nm 97) (n:=9) (by decide) (Dk (n:=7) (mB.mono (by decide)) (tO (rs:=[nW m]) (x:=nm 97) (by simp[FU]) (jv inj (k:=0) z) (by simp)));obtain⟨f,n,e,_⟩:=(I.grow y1).row (i:=0) (r:=r0 nm one) rfl;have l1:=(I.grow y1).l;have q:=kR h1 (w:=.tup [.tup [.int 1,.int 0],.str (nm 97)]) (by simp[W.pure,f9]) (by simp[W.deep,dS]);have e':bG ws 0=some (.tup [.str (nm 97),.ref f,.ref n,(r0 nm one).kd.af,(r0 nm one).tm]):=e;exact⟨h1,by simp[I.ta,et,i0,z,I.sa,es,q1,l1,e',q],y1⟩
theorem GU(inj:∀a b,nm a=nm b->a=b)(n0:nm 97≠ [120]){l:List Nat}{k:Nat}{r:Row}(hk:k<8)(e:(rowsOf nm one v)[k]?=some r)(h5:k=5->0∈l):∃i:Option Nat,(∀j,i=some j->l[j]?=some 0)/\∃c,Goes ⟨r.fs,r.ns,l.map fun k=>nm (97+k),i.map fun j=>(j,one)⟩ [] 40 r.tm r.kd c:=by
 by_cases c5:k=5
 .subst c5;obtain⟨i,e1,e2,_⟩:=ve l (h5 rfl);cases e;exact⟨some i,fun j z=>by cases z;exact e1,QS nm one _ (by
   have:=t9 (x:=nm 97) (l.map fun k=>nm (97+k)) 0 i (by simp[e1]) (fun z=>by
    rw[<-List.map_take] at z;exact jv inj (k:=0) e2 z)
   simpa using this) n0⟩
 .refine⟨none,fun j z=>(by cases z),?_⟩;have:k=0\/k=1\/k=2\/k=3\/k=4\/k=6\/k=7:=by omega
  rcases this with rfl|rfl|rfl|rfl|rfl|rfl|rfl<;>cases e
  .exact Qg nm one _ _
  .exact Qz nm one _ _ _
  .exact go2 nm one _ _
  .exact QY nm one _ _ _
  .exact Rh nm one _ _ _
  .exact QU nm one _ _
  .exact Rc nm _ _ _
theorem Ad(inj:∀a b,nm a=nm b->a=b)(n0:nm 97≠ [120])(I:Inv B L ws nm one v K t h){s k:Nat}(hs:s<2)(hk:k<8)(nk:k∉K s)(hl:(K s).length<=20)(h5:k=5->0∈K s)(o9:Option W):
  ∃K' t' o h',au (run T 44) [.set 11 (.idx (.var 2) (.var 8)),.expr (.own (.idx (.var 3) (.var 10)) [83,104,101,108,102] [116,101,108,108] gY (.cons (.idx (.var 11) (.cst (.int 0))) (.cons (.blt .list (.idx (.var 11) (.cst (.int 1)))) (.cons (.blt .list (.idx (.var 11) (.cst (.int 2)))) (.cons (.idx (.var 11) (.cst (.int 3))) (.cons (.idx (.var 11) (.cst (.int 4))) .nil)))))),.put (.var 4) (.var 10) (.bin .add (.idx (.var 4) (.var 10)) (.lst (.cons (.var 8) .nil)))] (env B L nm m (some (.int k)) o9 (some (.int s)) o11 o12 o13 o14) h=.ok (.next (env B L nm m (some (.int k)) o9 (some (.int s)) o o12 o13 o14)) h'/\Inv B L ws nm one v K' t' h'/\(∀u,K' u=K u\/u=s/\K' u=K u++[k])/\∀(p:Nat)(o:O),B+10<=p->h[p]?=some o->h'[p]?=some o:=by
 have es:=sY (B:=B) hs;have et:=qo (t:=t) hs;obtain⟨r,er⟩:∃r,(rowsOf nm one v)[k]?=some r:=⟨_,List.getElem?_eq_getElem (by simp[rowsOf,ql,later];omega)⟩;obtain⟨⟨gd,s1,s2,s3⟩,en⟩:=ug er hk;obtain⟨f,n,e,e1,e2⟩:=I.row er;obtain⟨i,hi,c,g⟩:=GU inj n0 hk er h5;obtain⟨rs,D,d⟩:=I.dd s hs;have dg:aA h (h++[.lst (r.fs.map W.str),.lst (r.ns.map W.str)]):=aA.app _ _;have I2:=I.grow dg;have Db:=I.b;have D2:dA (h++[.lst (r.fs.map W.str),.lst (r.ns.map W.str)]) (B+3 * s) (B+3 * s+1) (B+3 * s+2) rs ((K s).map fun k=>nm (97+k)) (i.map fun j=>(j,one)):=
  ⟨dg.keep _ _ D.o,dg.keep _ _ D.l,dg.keep _ _ D.m,D.e,fun j o z=>by
   cases i with
   |none=>cases z
   |some j'=>
    cases z;obtain⟨q,q1,q2⟩:=d j (hi j rfl);exact⟨q,q1,q2.at.grow dg⟩⟩
 have pd:2 ^ r.kd.depth<=SZ:=Nat.le_trans (Nat.pow_le_pow_right (by decide) gd) (by decide);obtain⟨q,h1,t1,D1,x1,id1⟩:=Ge (k:=43) (N:=40) (fr:=h.length) (nd:=h.length+1) D2 (jv inj nk) (by simp) (by simp) (by omega) (by omega) (by simp only[List.length_map];exact Nat.lt_of_le_of_lt (Nat.succ_le_succ hl) (by decide)) (by omega) (by decide) (by decide) (by decide) pd s1 s2 s3 g;have x2:oK (B+3 * s+1) (B+3 * s+2) h h1:=⟨Nat.le_trans dg.len x1.len,fun p o z z1 z2=>x1.keep _ _ (dg.keep _ _ z) z1 z2⟩;have J:=I.tell hs (k:=k) (r:=q) x2 ⟨D1.o,D1.l,D1.m,D1.e,fun _ _ z=>by cases z⟩ d (fun z=>by
  subst z;cases er;exact (id1 one rfl rfl rfl).keep (by simp;omega) fun _ _ _ z=>z)
 refine⟨_,_,some (.tup [.str r.nm,.ref f,.ref n,r.kd.af,r.tm]),_,?_,J,fun u=>?_,fun p o z z1=>aS (by omega) (aF _ (x2.keep _ _ z1 (by omega) (by omega)))⟩
 .have o0:=D.o;have f1:=aF [O.lst (r.fs.map W.str)] e2;have ta1:=x2.keep _ _ I.ta (by omega) (by omega);have tt1:h1[t s]?=some (.lst ((K s).map fun k=>.int (k:Nat))):=by
   have:=I.tb s hs;have:=I.b3;exact x2.keep _ _ (I.tt s hs) (by omega) (by omega)
  have ta2:=aF [O.lst [.int k],O.lst ((K s).map (fun k=>W.int (k:Nat))++[.int k])] ta1;have tt2:=aF [O.lst [.int k]] tt1;have ix:gu 2 (s:Int)=some s:=by
   have:s=0\/s=1:=by omega
   rcases this with rfl|rfl<;>rfl
  have sz:((K s).map fun k=>W.int (k:Nat)).length+1<=SZ:=by simp only[List.length_map];exact Nat.le_trans (Nat.succ_le_succ hl) (by decide)
  generalize (K s).map (fun k=>W.int (k:Nat))=KW at *;rw[<-en] at t1;generalize r.fs.map W.str=FW at *;generalize r.ns.map W.str=NW at *;refine aw (w:=.tup [.str r.nm,.ref f,.ref n,r.kd.af,r.tm]) (h':=h) (by simp[I.l,e]) (ax (σ':=env B L nm m (some (.int k)) o9 (some (.int s)) (some (.tup [.str r.nm,.ref f,.ref n,r.kd.af,r.tm])) o12 o13 o14) (h':=h1) ?_ (ax (σ':=env B L nm m (some (.int k)) o9 (some (.int s)) (some (.tup [.str r.nm,.ref f,.ref n,r.kd.af,r.tm])) o12 o13 o14) ?_ (aK _ _ _)))
  .have a4:=a3 (W.str r.nm) (.ref f) (.ref n) r.kd.af;have b3:bG [W.str r.nm,.ref f,.ref n,r.kd.af,r.tm] 3=some r.kd.af:=dw [W.str r.nm,.ref f,.ref n,r.kd.af,r.tm] 3 (by simp);have b4:bG [W.str r.nm,.ref f,.ref n,r.kd.af,r.tm] 4=some r.tm:=dw [W.str r.nm,.ref f,.ref n,r.kd.af,r.tm] 4 (by simp);simp[I.sa,es,o0,List.lookup,e1,f1,b3,b4,t1]
  .simp[ta1,et,tt2,sz,ta2,ix]
 .by_cases c:u=s
  .exact .inr ⟨c,by simp[upd,c]⟩
  .exact .inl (by simp[upd,c])
end
section
variable {B L:Nat}{ws:List W}{nm:Nat->S}{one:S}{v m:Int}{K:Nat->List Nat}{t:Nat->Nat}{h h':Hp}{o8 o9 o11 o12 o13 o14:Option W}
theorem rH(inj:∀a b,nm a=nm b->a=b)(n0:nm 97≠ [120])(I:Inv B L ws nm one v K t h){s k:Nat}(hs:s<2)(hk:k<8)(nk:k∉K s)(hl:(K s).length<=20)(a:Int)(o11:Option W):
  ∃K' t' o h',au (run T 44) vf (env B L nm m (some (.int k)) (some (.int a)) (some (.int s)) o11 o12 o13 o14) h=.ok (.next (env B L nm m (some (.int k)) (some (.int a)) (some (.int s)) o o12 o13 o14)) h'/\Inv B L ws nm one v K' t' h'/\(∀u,K' u=K u\/u=s/\K' u=K u++[k])/\∀(p:Nat)(o:O),B+10<=p->h[p]?=some o->h'[p]?=some o:=by
 by_cases c:a=2\/a=s
 .obtain⟨h1,q1,y1⟩:=Fg (m:=m) (o8:=some (.int k)) (o9:=some (.int a)) (o11:=o11) (o12:=o12) (o13:=o13) (o14:=o14) inj I hs;have I1:=I.grow y1;have i0:isIn (.int 0) (.ref (t s)) h1=some (decide (0∈K s)):=jM (I1.tt s hs) 0;have et:=qo (t:=t) hs;have c0:ae (run T 44) (.or (.cmp .eq (.var 9) (.cst (.int 2))) (.cmp .eq (.var 9) (.var 10))) (env B L nm m (some (.int k)) (some (.int a)) (some (.int s)) o11 o12 o13 o14) h=.ok (.bl true) h:=by
   by_cases d:a=2
   .simp[d]
   .have d1:=c.resolve_left d;have d2:¬ (s:Int)=2:=by omega
    simp[d1,d2]
  by_cases d:k=5->0∈K s
  .obtain⟨K',t',o,h',q,J,kk,ke⟩:=Ad (m:=m) (o11:=o11) (o12:=o12) (o13:=o13) (o14:=o14) inj n0 I1 hs hk nk hl d (some (.int a));refine⟨K',t',o,h',qh c0 (aP q1 (qh (h':=h1) ?_ q (aK _ _ _))) (aK _ _ _),J,kk,fun p o z e=>ke p o z (y1.keep _ _ e)⟩;by_cases k5:k=5
   .have:=d k5;simp[k5,I1.ta,et,i0,this]
   .have:¬ (k:Int)=5:=by omega
    simp[this]
  .have k5:k=5:=by simp at d;exact d.1
   have z0:0∉K s:=by simp at d;exact d.2
   exact⟨K,t,o11,h1,qh c0 (aP q1 (aP (h':=h1) (by simp[k5,I1.ta,et,i0,z0]) (aK _ _ _))) (aK _ _ _),I1,fun u=>.inl rfl,fun p o _ e=>y1.keep _ _ e⟩
 .have c1:¬ a=2:=fun z=>c (.inl z);have c2:¬ a=s:=fun z=>c (.inr z);exact⟨K,t,o11,h,aP (h':=h) (by simp[c1,c2]) (aK _ _ _),I,fun u=>.inl rfl,fun p o _ e=>e⟩
theorem zM(inj:∀a b,nm a=nm b->a=b)(n0:nm 97≠ [120])(I:Inv B L ws nm one v K t h){k:Nat}(hk:k<8)(nk:∀u,k∉K u)(hl:∀u,(K u).length<=20)(o9 o10 o11:Option W):
  ∃K' t' o9' o10' o11' h',au (run T 44) k7 (env B L nm m (some (.int k)) o9 o10 o11 o12 o13 o14) h=.ok (.next (env B L nm m (some (.int k)) o9' o10' o11' o12 o13 o14)) h'/\Inv B L ws nm one v K' t' h'/\(∀u,K' u=K u\/K' u=K u++[k])/\∀(p:Nat)(o:O),B+10<=p->h[p]?=some o->h'[p]?=some o:=by
 obtain⟨a,h1,r1,a1,b1,x1,g1⟩:=sv 43 2 3 h I.g (by decide);have I1:=I.ext x1 g1;obtain⟨K2,t2,o2,h2,q2,I2,k2,ke2⟩:=rH (m:=m) (o12:=o12) (o13:=o13) (o14:=o14) inj n0 I1 (s:=0) (by decide) hk (nk 0) (hl 0) a o11;have e1:K2 1=K 1:=(k2 1).resolve_right fun z=>by simp at z
 obtain⟨K3,t3,o3,h3,q3,I3,k3,ke3⟩:=rH (m:=m) (o12:=o12) (o13:=o13) (o14:=o14) inj n0 I2 (s:=1) (by decide) hk (by rw[e1];exact nk 1) (by rw[e1];exact hl 1) a o2;refine⟨K3,t3,some (.int a),some (.int 1),o3,h3,aw (w:=.int a) (h':=h1) (by simp[r1]) (ax (σ':=env B L nm m (some (.int k)) (some (.int a)) (some (.int 1)) o3 o12 o13 o14) (h':=h3) ?_ (aK _ _ _)),I3,fun u=>?_,fun p o z e=>ke3 p o z (ke2 p o z (x1.keep _ _ e (by omega)))⟩
 .rw[bB];have rg:bM (run T 44) (.fN (.cst (.int 2))) (env B L nm m (some (.int k)) (some (.int a)) o10 o11 o12 o13 o14) h1=.ok (.fix [.int ((0:Nat):Int),.int ((1:Nat):Int)]) h1:=rfl;have s9:(env B L nm m (some (.int k)) o9 o10 o11 o12 o13 o14).set 9 (some (.int a))=env B L nm m (some (.int k)) (some (.int a)) o10 o11 o12 o13 o14:=rfl;rw[s9,rg,R.ak];have s0:∀(x:W),eZ (.var 10) x (env B L nm m (some (.int k)) (some (.int a)) o10 o11 o12 o13 o14)=some (env B L nm m (some (.int k)) (some (.int a)) (some x) o11 o12 o13 o14):=fun _=>rfl;have s1:∀(x:W),eZ (.var 10) x (env B L nm m (some (.int k)) (some (.int a)) (some (.int ((0:Nat):Int))) o2 o12 o13 o14)=some (env B L nm m (some (.int k)) (some (.int a)) (some x) o2 o12 o13 o14):=fun _=>rfl;simp only[turns,cW,turn,s0,q2,R.ak,s1,q3];rfl
 .rcases k3 u with z|⟨rfl,z⟩
  .rw[z];rcases k2 u with y|⟨_,y⟩
   .exact .inl y
   .exact .inr y
  .rw[z,e1];exact .inr rfl
theorem fact:∀i,i<8->[1,2,3,4,6,7,0,5][i]?=some (List.getD [1,2,3,4,6,7,0,5] i 0)/\List.getD [1,2,3,4,6,7,0,5] i 0<8/\List.getD [1,2,3,4,6,7,0,5] i 0∉ [1,2,3,4,6,7,0,5].take i/\[1,2,3,4,6,7,0,5].take (i+1)=[1,2,3,4,6,7,0,5].take i++[List.getD [1,2,3,4,6,7,0,5] i 0]:=by decide
theorem outer(inj:∀a b,nm a=nm b->a=b)(n0:nm 97≠ [120])(I:Inv B L ws nm one v (fun _=>[]) t h):
  ∃K t o8 o9 o10 o11 h',aW (run T 44) (.for (.var 8) (.seq (.lst (.cons (.cst (.int 1)) (.cons (.cst (.int 2)) (.cons (.cst (.int 3)) (.cons (.cst (.int 4)) (.cons (.cst (.int 6)) (.cons (.cst (.int 7)) (.cons (.cst (.int 0)) (.cons (.cst (.int 5)) .nil)))))))))) k7) (env B L nm m none none none none o12 o13 o14) h=.ok (.next (env B L nm m o8 o9 o10 o11 o12 o13 o14)) h'/\Inv B L ws nm one v K t h':=by
 have lk:=dY h (O.lst ([1,2,3,4,6,7,0,5].map fun k=>W.int (k:Nat)));have bl:=I.b;have I0:=I.grow (aA.app h [O.lst ([1,2,3,4,6,7,0,5].map fun k=>W.int (k:Nat))]);obtain⟨σ',h',q,K,t',o8,o9,o10,o11,rfl,J,_⟩:=lj (a:=h.length) (t:=.var 8) (k:=au (run T 44) k7) (xs:=[1,2,3,4,6,7,0,5].map fun k=>W.int (k:Nat))
  (fun i σ h'=>∃K t o8 o9 o10 o11,σ=env B L nm m o8 o9 o10 o11 o12 o13 o14/\Inv B L ws nm one v K t h'/\h'[h.length]?=some (O.lst ([1,2,3,4,6,7,0,5].map fun k=>W.int (k:Nat)))/\∀u,(K u).length<=i/\∀x∈K u,x∈ [1,2,3,4,6,7,0,5].take i)
  (fun i σ h' ⟨_,_,_,_,_,_,_,_,z,_⟩=>by simp only[aZ,z])
  (fun i σ h' x ⟨K,t,o8,o9,o10,o11,e,J,z,kk⟩ ex=>by
   subst e;have hi:i<8:=by have:=(List.getElem?_eq_some_iff.mp ex).1;simpa using this
   obtain⟨f1,f2,f3,f4⟩:=fact i hi;rw[List.getElem?_map,f1] at ex;simp only[Option.map_some,Option.some.injEq] at ex;generalize List.getD [1,2,3,4,6,7,0,5] i 0=k at *;subst ex;obtain⟨K',t',p9,p10,p11,h2,q,J',kk',ke⟩:=zM (m:=m) (o12:=o12) (o13:=o13) (o14:=o14) inj n0 J f2 (fun u z=>f3 ((kk u).2 k z)) (fun u=>Nat.le_trans (kk u).1 (by omega)) o9 o10 o11;refine⟨_,rfl,_,h2,q,K',t',some (.int k),p9,p10,p11,rfl,J',ke _ _ (by omega) z,fun u=>?_⟩;have kl:=(kk u).1;rw[f4];rcases kk' u with y|y
   .rw[y];exact⟨by omega,fun x hx=>List.mem_append_left _ ((kk u).2 x hx)⟩
   .rw[y];refine⟨by simp;omega,fun x hx=>?_⟩;rcases List.mem_append.mp hx with w|w
    .exact List.mem_append_left _ ((kk u).2 x w)
    .exact List.mem_append_right _ w) 8 0 (env B L nm m none none none none o12 o13 o14) _ rfl ⟨_,_,none,none,none,none,rfl,I0,lk,fun u=>⟨by simp,by simp⟩⟩
 refine⟨K,t',o8,o9,o10,o11,h',?_,J⟩;rw[bB];have e0:bM (run T 44) (.seq (.lst (.cons (.cst (.int 1)) (.cons (.cst (.int 2)) (.cons (.cst (.int 3)) (.cons (.cst (.int 4)) (.cons (.cst (.int 6)) (.cons (.cst (.int 7)) (.cons (.cst (.int 0)) (.cons (.cst (.int 5)) .nil)))))))))) (env B L nm m none none none none o12 o13 o14) h=.ok (.at h.length 8) (h++[O.lst ([1,2,3,4,6,7,0,5].map fun k=>W.int (k:Nat))]):=by simp
 rw[e0,R.ak];exact q
end
theorem qx{t:Tg}{k:Env->Hp->R Fl}(P:Env->Hp->Prop):∀xs:List W,(∀x∈xs,∀σ h,P σ h->∃σ1,eZ t x σ=some σ1/\∃σ' h',k σ1 h=.ok (.next σ') h'/\P σ' h')->∀σ h,P σ h->∃σ' h',cW t k xs σ h=.ok (.next σ') h'/\P σ' h'
 |[],_,σ,h,p=>⟨σ,h,rfl,p⟩
 |x::xs,st,σ,h,p=>by
  obtain⟨σ1,e1,σ2,h2,e2,p2⟩:=st x List.mem_cons_self σ h p;obtain⟨σ3,h3,e3,p3⟩:=qx P xs (fun y hy=>st y (List.mem_cons_of_mem _ hy)) σ2 h2 p2;exact⟨σ3,h3,by simp only[cW,turn,e1,e2,R.ak,e3],p3⟩
section
variable {B L:Nat}{ws:List W}{nm:Nat->S}{one:S}{v m:Int}{K:Nat->List Nat}{t:Nat->Nat}{h h':Hp}{o8 o9 o11 o12 o13 o14:Option W}
theorem Fy(inj:∀a b,nm a=nm b->a=b)(I:Inv B L ws nm one v K t h){s k:Nat}(hs:s<2)(hk:k<8)(o12:Option W):
  ∃o12' h',au (run T 44) lJ (env B L nm m (some (.int k)) o9 (some (.int s)) o11 o12 o13 o14) h=.ok (.next (env B L nm m (some (.int k)) o9 (some (.int s)) o11 o12' o13 o14)) h'/\Inv B L ws nm one v K t h':=by
 have es:=sY (B:=B) hs;have et:=qo (t:=t) hs;obtain⟨r,er⟩:∃r,(rowsOf nm one v)[k]?=some r:=⟨_,List.getElem?_eq_getElem (by simp[rowsOf,ql,later];omega)⟩;have en:=(ug er hk).2;obtain⟨f,n,e,_⟩:=I.row er;rw[en] at e;have i0:=jM (I.tt s hs) k;by_cases z:k∈K s
 .exact⟨_,h,aw (w:=.tup [.str uG,.str [119],.tup [.str az,.str (nm (97+k))],.tup [.str jt]]) (h':=h) (by simp[I.l,e]) (aP (h':=h) (by simp[I.ta,et,i0,z]) (aK _ _ _)),I⟩
 .obtain⟨h1,q1,y1⟩:=I.N0 hs (f:=.tup [.str uG,.str [119],.tup [.str az,.str (nm (97+k))],.tup [.str jt]]) (way:=[.int 0]) (x:=nm (97+k)) (n:=8) (by decide) (Gd (n:=6) (tO (rs:=[]) (x:=nm (97+k)) (by decide) (jv inj z) (by simp)));have I1:=I.grow y1;have q:=kR h1 (w:=.tup [.tup [.int 0],.str (nm (97+k))]) (by simp[W.pure,f9]) (by simp[W.deep,dS]);exact⟨_,h1,aw (w:=.tup [.str uG,.str [119],.tup [.str az,.str (nm (97+k))],.tup [.str jt]]) (h':=h) (by simp[I.l,e]) (aP (h':=h1) (by simp[I.ta,et,i0,z,I.sa,es,q1,I1.l,e,q]) (aK _ _ _)),I1⟩
theorem F9(inj:∀a b,nm a=nm b->a=b)(I:Inv B L ws nm one v K t h){s:Nat}(hs:s<2)(o8 o12:Option W):
  ∃o8' o12' h',aW (run T 44) (.for (.var 8) (.fN (.cst (.int 8))) lJ) (env B L nm m o8 o9 (some (.int s)) o11 o12 o13 o14) h=.ok (.next (env B L nm m o8' o9 (some (.int s)) o11 o12' o13 o14)) h'/\Inv B L ws nm one v K t h':=by
 obtain⟨σ',h',q,o8',o12',rfl,J⟩:=qx (t:=.var 8) (k:=au (run T 44) lJ) (fun σ h=>∃o8 o12,σ=env B L nm m o8 o9 (some (.int s)) o11 o12 o13 o14/\Inv B L ws nm one v K t h) ([0,1,2,3,4,5,6,7].map fun k=>W.int (k:Nat)) (fun x hx σ h ⟨o8,o12,e,I⟩=>by
   obtain⟨k,hk,rfl⟩:=List.mem_map.mp hx;subst e;obtain⟨o,h',q,J⟩:=Fy (m:=m) (o9:=o9) (o11:=o11) (o13:=o13) (o14:=o14) inj I hs (k:=k) (by simp at hk;omega) o12;exact⟨_,rfl,_,h',q,_,_,rfl,J⟩) _ h ⟨o8,o12,rfl,I⟩
 refine⟨o8',o12',h',?_,J⟩;rw[bB];exact q
theorem wx(inj:∀a b,nm a=nm b->a=b)(I:Inv B L ws nm one v K t h){s i:Nat}(hs:s<2)(e1:(K s)[i]?=some 0)(e2:0∉(K s).take i)(o14:Option W):
  ∃h',au (run T 44) uJ (env B L nm m o8 o9 (some (.int s)) o11 o12 (some (.tup [.str aU,.tup [.str cJ,.int i,.tup [Kd.num.af]],nW m])) o14) h=.ok (.next (env B L nm m o8 o9 (some (.int s)) o11 o12 (some (.tup [.str aU,.tup [.str cJ,.int i,.tup [Kd.num.af]],nW m])) o14)) h'/\Inv B L ws nm one v K t h':=by
 obtain⟨rs,D,d⟩:=I.dd s hs;obtain⟨r,r1,r2⟩:=d i e1;have D2:dA h (B+3 * s) (B+3 * s+1) (B+3 * s+2) rs ((K s).map fun k=>nm (97+k)) (some (i,one)):=⟨D.o,D.l,D.m,D.e,fun j o z=>by cases z;exact⟨r,r1,r2.at⟩⟩;have dg:bH (.str (nm 97)) (bO 0 ((K s).map fun k=>nm (97+k)))=some (.int i):=by
  have:=t9 (x:=nm 97) ((K s).map fun k=>nm (97+k)) 0 i (by simp[e1]) (fun z=>by
   rw[<-List.map_take] at z;exact jv inj (k:=0) e2 z)
  simpa using this
 obtain⟨h1,q1,y1⟩:=LG (xE (n:=10) (mB.mono (by decide)) (CN (n:=2) (i:=i) (x:=nm 97) (one:=one) (kd:=.num) (by decide) rfl dg (by simp) (sM m))) 44 (by decide) (by decide) (by decide) D2;have q:=kR h1 (w:=.tup [.tup [.str gN,.tup [.str jt],.tup [.str aU,.tup [.str cJ,.int i,.tup [Kd.num.af]],nW m]],(Kd.pair .tru .num).af]) (by simp[W.pure,f9,Kd.af]) (by simp[W.deep,dS,Kd.af]);have es:=sY (B:=B) hs;exact⟨h1,aP (h':=h1) (by simp[I.sa,es,D.o,List.lookup,q1,q]) (aK _ _ _),I.grow y1⟩
theorem wd(inj:∀a b,nm a=nm b->a=b)(I:Inv B L ws nm one v K t h){s:Nat}(hs:s<2)(o8 o12 o13 o14:Option W):
  ∃o8' o12' o13' o14' h',au (run T 44) va (env B L nm m o8 o9 (some (.int s)) o11 o12 o13 o14) h=.ok (.next (env B L nm m o8' o9 (some (.int s)) o11 o12' o13' o14')) h'/\Inv B L ws nm one v K t h':=by
 obtain⟨p8,p12,h1,q1,I1⟩:=F9 (m:=m) (o9:=o9) (o11:=o11) (o13:=o13) (o14:=o14) inj I hs o8 o12;have i0:isIn (.int 0) (.ref (t s)) h1=some (decide (0∈K s)):=jM (I1.tt s hs) 0;have et:=qo (t:=t) hs;by_cases z:0∈K s
 .obtain⟨i,e1,e2,e3⟩:=ve _ z;obtain⟨h2,q2,I2⟩:=wx (m:=m) (o8:=p8) (o9:=o9) (o11:=o11) (o12:=p12) inj I1 hs e1 e2 (some (.int 0));obtain⟨h3,q3,I3⟩:=wx (m:=m) (o8:=p8) (o9:=o9) (o11:=o11) (o12:=p12) inj I2 hs e1 e2 (some (.int 1));refine⟨p8,p12,some (.tup [.str aU,.tup [.str cJ,.int i,.tup [Kd.num.af]],nW m]),some (.int 1),h3,ax q1 (qh (σ':=env B L nm m p8 o9 (some (.int s)) o11 p12 (some (.tup [.str aU,.tup [.str cJ,.int i,.tup [Kd.num.af]],nW m])) (some (.int 1))) (h':=h1) (h3:=h3) (by simp[I1.ta,et,i0,z]) (aw (w:=.tup [.str aU,.tup [.str cJ,.int i,.tup [Kd.num.af]],nW m]) (h':=h1) ?_ (ax (h':=h3) ?_ (aK _ _ _))) (aK _ _ _)),I3⟩
  .have tt:=I1.tt s hs;have al:=v5 (K s);generalize (K s).map (fun k=>W.int (k:Nat))=KW at *;have me:method .index (.ref (t s)) [.int 0] h1=.ok (.int i) h1:=by
    unfold method;simp[tt,al,e3]
   simp[-method,I1.ta,et,tt,me,Kd.af]
  .rw[bB];have s0:∀(x:W)(o:Option W),eZ (.var 14) x (env B L nm m p8 o9 (some (.int s)) o11 p12 (some (.tup [.str aU,.tup [.str cJ,.int i,.tup [Kd.num.af]],nW m])) o)=some (env B L nm m p8 o9 (some (.int s)) o11 p12 (some (.tup [.str aU,.tup [.str cJ,.int i,.tup [Kd.num.af]],nW m])) (some x)):=fun _ _=>rfl;have DQ:(env B L nm m p8 o9 (some (.int s)) o11 p12 o13 o14).set 13 (some (.tup [.str aU,.tup [.str cJ,.int i,.tup [Kd.num.af]],nW m]))=env B L nm m p8 o9 (some (.int s)) o11 p12 (some (.tup [.str aU,.tup [.str cJ,.int i,.tup [Kd.num.af]],nW m])) o14:=rfl;have rg:∀σ,bM (run T 44) (.fN (.cst (.int 2))) σ h1=.ok (.fix [.int 0,.int 1]) h1:=fun _=>rfl;rw[DQ,rg,R.ak];simp only[turns,cW,turn,s0,q2,R.ak,q3]
 .exact⟨p8,p12,o13,o14,h1,ax q1 (aP (h':=h1) (by simp[I1.ta,et,i0,z]) (aK _ _ _)),I1⟩
end
theorem rC(k:Nat)(h:Hp):run T (k+1) gU [.ref h.length] (h++[.ins dy []])=.ok .ah (h++[.ins dy [(gW,.ref (h.length+1)),(gC,.ref (h.length+2))],.lst [],.ag []]):=by rw[av uQ];unfold bg jy;simp[eW]
theorem Jo(ns:List Int):∃h',run T 45 DK [.ref 0] [.bE (ns.map .int)]=.ok (.bl true) h':=by
 rw[av L7];have g0:Gen 2 [O.bE (ns.map .int),O.lst (ns.map .int),O.lst [.int 89,.ref 1,.int 0]]:=⟨89,0,1,ns,rfl,rfl,by decide⟩;obtain⟨w,h1,q1,L,ws,b,x,one,v,rfl,D,Lp,x1,g1,lx,lo⟩:=Dn 40 2 g0;have inj:∀c d,g7 b x c=g7 b x d->c=d:=fun _ _ e=>EN e;have n0:g7 b x 97≠ [120]:=fun e=>by have:=congrArg List.length e;rw[Fw] at this;simp at this
 generalize g7 b x=nm at *;have b3:3<=h1.length:=x1.len;have r1:=rC 43 h1;have r2:=rC 43 (h1++[.ins dy [(gW,.ref (h1.length+1)),(gC,.ref (h1.length+2))],.lst [],.ag []]);have y3:aA h1 (h1++[.ins dy [(gW,.ref (h1.length+1)),(gC,.ref (h1.length+2))],.lst [],.ag [],.ins dy [(gW,.ref (h1.length+4)),(gC,.ref (h1.length+5))],.lst [],.ag [],.lst [.ref h1.length,.ref (h1.length+3)],.lst [],.lst [],.lst [.ref (h1.length+7),.ref (h1.length+8)]]):=aA.app _ _;have I3:Inv h1.length L ws nm one v (fun _=>[]) (fun s=>h1.length+7+s) (h1++[.ins dy [(gW,.ref (h1.length+1)),(gC,.ref (h1.length+2))],.lst [],.ag [],.ins dy [(gW,.ref (h1.length+4)),(gC,.ref (h1.length+5))],.lst [],.ag [],.lst [.ref h1.length,.ref (h1.length+3)],.lst [],.lst [],.lst [.ref (h1.length+7),.ref (h1.length+8)]]):=by
  refine⟨by simp,b3,y3.gen g1,y3.keep _ _ D.l,⟨bF D.l,Lp⟩,fun i r e=>?_,by simp,by simp,fun s hs=>?_,fun s hs=>?_,fun s hs=>.inl rfl⟩
  .obtain⟨w,e1,f,n,e2,e3,e4,b1,b2,b3,b4⟩:=D.g i r e;exact⟨f,n,by rw[e1,e2],y3.keep _ _ e3,y3.keep _ _ e4,bF e3,bF e4,b1,b3⟩
  .have:s=0\/s=1:=by omega
   rcases this with rfl|rfl
   .exact⟨[],⟨by simp,by simp,by simp[bO],rfl,fun _ _ z=>by cases z⟩,fun i e=>by simp at e⟩
   .exact⟨[],⟨by simp,(by show (_:Hp)[h1.length+4]?=_;simp),(by show (_:Hp)[h1.length+5]?=_;simp[bO]),rfl,fun _ _ z=>by cases z⟩,fun i e=>by simp at e⟩
  .have:s=0\/s=1:=by omega
   rcases this with rfl|rfl
   .simp
   .show (_:Hp)[h1.length+8]?=_;simp
 obtain⟨m,h4,q4,a4,b4,x4,g4⟩:=sv 43 2 99 _ I3.g (by decide);have I4:=I3.ext x4 g4;obtain⟨f,n,e0,_⟩:=I4.row (i:=0) (r:=r0 nm one) rfl;have e0':bG ws 0=some (.tup [.str (nm 97),.ref f,.ref n,(r0 nm one).kd.af,(r0 nm one).tm]):=e0;obtain⟨K,t,o8,o9,o10,o11,h5,q5,I5⟩:=outer (m:=m) (o12:=none) (o13:=none) (o14:=none) inj n0 I4;obtain⟨a8,a12,a13,a14,h6,q6,I6⟩:=wd (m:=m) (o9:=o9) (o11:=o11) inj I5 (s:=0) (by decide) o8 none none none;obtain⟨c8,c12,c13,c14,h7,q7,I7⟩:=wd (m:=m) (o9:=o9) (o11:=o11) inj I6 (s:=1) (by decide) a8 a12 a13 a14;refine⟨h7,aQ [some (.ref 0),none,none,none,none,none,none,none,none,none,none,none,none,none,none] rfl rfl ?_⟩;refine aw (w:=.ref 2) (h':=[O.bE (ns.map .int),O.lst (ns.map .int),O.lst [.int 89,.ref 1,.int 0]]) ?_ ?_
 .generalize ns.map W.int=N;simp
 refine aw (w:=.ref L) (h':=h1) (by generalize [O.bE (ns.map .int),O.lst (ns.map .int),O.lst [.int 89,.ref 1,.int 0]]=hh at *;simp[q1]) ?_
 refine aw (w:=.ref (h1.length+6)) (h':=h1++[.ins dy [(gW,.ref (h1.length+1)),(gC,.ref (h1.length+2))],.lst [],.ag [],.ins dy [(gW,.ref (h1.length+4)),(gC,.ref (h1.length+5))],.lst [],.ag [],.lst [.ref h1.length,.ref (h1.length+3)]]) ?_ ?_
 .simp at r1 r2;simp[r1,r2]
 refine aw (w:=.ref (h1.length+9)) (h':=h1++[.ins dy [(gW,.ref (h1.length+1)),(gC,.ref (h1.length+2))],.lst [],.ag [],.ins dy [(gW,.ref (h1.length+4)),(gC,.ref (h1.length+5))],.lst [],.ag [],.lst [.ref h1.length,.ref (h1.length+3)],.lst [],.lst [],.lst [.ref (h1.length+7),.ref (h1.length+8)]]) (by simp) ?_;refine aw (w:=nW m) (h':=h4) (by simp at q4;simp[q4]) ?_;refine aw (w:=fW nm m) (h':=h4) (by simp[I4.l,e0']) ?_;refine aw (w:=(Kd.pair .tru .num).af) (h':=h4) (by simp[Kd.af]) ?_;refine ax q5 (ax (σ':=env h1.length L nm m c8 o9 (some (.int 1)) o11 c12 c13 c14) (h':=h7) ?_ (aE (by simp)));rw[bB];have rg:∀σ,bM (run T 44) (.fN (.cst (.int 2))) σ h5=.ok (.fix [.int ((0:Nat):Int),.int ((1:Nat):Int)]) h5:=fun _=>rfl;have s0:∀(x:W)(o8 o9 o o11 o12 o13 o14:Option W),eZ (.var 10) x (env h1.length L nm m o8 o9 o o11 o12 o13 o14)=some (env h1.length L nm m o8 o9 (some x) o11 o12 o13 o14):=fun _ _ _ _ _ _ _ _=>rfl;rw[rg,R.ak];simp only[turns,cW,turn,s0,q6,R.ak,q7];rfl
end K14
set_option maxHeartbeats 0
namespace K14
open PySem PySem.W L2 TwS PyProof.Rows
noncomputable abbrev pw:Program:=PySem.Challenge.pw_twomeet_k14_shelves_apart
abbrev top(i:Nat):Stmt:=pw.main.body.getD i (.Pass ⟨0,0,0,0⟩)
abbrev s0:Stmt:=top 15
noncomputable abbrev d0:aT:=⟨.fn "parts", "parts", "parts",s0,["kind"],["kind"]⟩
abbrev s1:Stmt:=top 16
noncomputable abbrev d1:aT:=⟨.fn "filled", "filled", "filled",s1,["kind", "filling"],["kind", "filling"]⟩
abbrev s2:Stmt:=top 17
noncomputable abbrev d2:aT:=⟨.fn "gaps_filled", "gaps_filled", "gaps_filled",s2,["kind", "found"],["kind", "found"]⟩
abbrev s3:Stmt:=top 18
noncomputable abbrev d3:aT:=⟨.fn "replaced", "replaced", "replaced",s3,["kind", "word", "filling", "within", "made", "part"],["kind", "word", "filling"]⟩
abbrev s4:Stmt:=top 19
noncomputable abbrev d4:aT:=⟨.fn "has_gaps", "has_gaps", "has_gaps",s4,["kind", "found", "part"],["kind", "found"]⟩
abbrev s5:Stmt:=top 20
noncomputable abbrev d5:aT:=⟨.fn "names_in", "names_in", "names_in",s5,["kind", "names"],["kind"]⟩
abbrev s6:Stmt:=top 21
noncomputable abbrev d6:aT:=⟨.fn "put_names", "put_names", "put_names",s6,["kind", "names", "part"],["kind", "names"]⟩
abbrev s7:Stmt:=top 22
noncomputable abbrev d7:aT:=⟨.fn "met", "met", "met",s7,["pattern", "kind", "found", "within", "known", "part", "other"],["pattern", "kind", "found"]⟩
abbrev s8:Stmt:=top 23
noncomputable abbrev d8:aT:=⟨.fn "met_gap", "met_gap", "met_gap",s8,["number", "kind", "found", "known"],["number", "kind", "found"]⟩
abbrev s9:Stmt:=top 25
noncomputable abbrev d9:aT:=⟨.fn "unlikely", "unlikely", "unlikely",s9,["kind", "needs", "part", "first"],["kind", "needs"]⟩
abbrev MN:Stmt:=top 26
noncomputable abbrev MI:aT:=⟨.fn "likeness", "likeness", "likeness",MN,["kind", "given"],["kind", "given"]⟩
abbrev NS:Stmt:=top 27
noncomputable abbrev Mr:aT:=⟨.fn "likeness_kind", "likeness_kind", "likeness_kind",NS,["kind"],["kind"]⟩
abbrev NJ:Stmt:=clsAt (top 29) 0
abbrev N8:aT:=⟨.me [68,101,102,105,110,105,116,105,111,110] fJ, "__init__", "Definition.__init__",NJ,["self", "free", "needs", "kind", "core", "need", "granted"],["self", "free", "needs", "kind", "core"]⟩
abbrev DQ:Stmt:=clsAt (top 31) 0
abbrev MH:aT:=⟨.me [83,99,111,112,101] fJ, "__init__", "Scope.__init__",DQ,["self", "shelf", "free", "needs", "bound"],["self", "shelf", "free", "needs", "bound"]⟩
abbrev NN:Stmt:=clsAt (top 31) 1
abbrev NB:aT:=⟨.me [83,99,111,112,101] [98,105,110,100], "bind", "Scope.bind",NN,["self", "name", "kind"],["self", "name", "kind"]⟩
abbrev M9:Stmt:=clsAt (top 31) 2
abbrev MM:aT:=⟨.me [83,99,111,112,101] [105,115,95,98,111,117,110,100], "is_bound", "Scope.is_bound",M9,["self", "name"],["self", "name"]⟩
abbrev ME:Stmt:=clsAt (top 31) 3
abbrev MA:aT:=⟨.me [83,99,111,112,101] [118,97,114,95,111,102], "var_of", "Scope.var_of",ME,["self", "name", "rounds"],["self", "name"]⟩
abbrev A8:Stmt:=clsAt (top 31) 4
abbrev NO:aT:=⟨.me [83,99,111,112,101] [108,105,107,101,110,101,115,115,95,111,102], "likeness_of", "Scope.likeness_of",A8,["self", "kind", "place", "lacking"],["self", "kind", "place"]⟩
abbrev NR:Stmt:=clsAt (top 31) 5
abbrev Nr:aT:=⟨.me [83,99,111,112,101] [108,105,107,101,110,101,115,115,101,115,95,103,105,118,101,110], "likenesses_given", "Scope.likenesses_given",NR,["self", "given", "rounds", "need"],["self"]⟩
abbrev MZ:Stmt:=top 33
noncomputable abbrev MU:aT:=⟨.fn "come_up", "come_up", "come_up",MZ,["form", "place", "scope"],["form", "place", "scope"]⟩
abbrev MB:Stmt:=top 34
noncomputable abbrev Nq:aT:=⟨.fn "go_down", "go_down", "go_down",MB,["form", "kind", "place", "scope"],["form", "kind", "place", "scope"]⟩
abbrev Nw:Stmt:=top 35
noncomputable abbrev MF:aT:=⟨.fn "found_to_be", "found_to_be", "found_to_be",Nw,["form", "kind", "place", "scope", "core", "found"],["form", "kind", "place", "scope"]⟩
abbrev MW:Stmt:=top 36
noncomputable abbrev NK:aT:=⟨.fn "number_up", "number_up", "number_up",MW,["form", "place", "scope"],["form", "place", "scope"]⟩
abbrev Ms:Stmt:=top 37
noncomputable abbrev Mx:aT:=⟨.fn "truth_up", "truth_up", "truth_up",Ms,["form", "place", "scope"],["form", "place", "scope"]⟩
abbrev Mv:Stmt:=top 38
noncomputable abbrev Ny:aT:=⟨.fn "told_up", "told_up", "told_up",Mv,["form", "place", "scope", "name"],["form", "place", "scope"]⟩
abbrev MD:Stmt:=top 40
noncomputable abbrev N3:aT:=⟨.fn "fun_down", "fun_down", "fun_down",MD,["form", "kind", "place", "scope", "core"],["form", "kind", "place", "scope"]⟩
abbrev Mu:Stmt:=top 41
noncomputable abbrev MP:aT:=⟨.fn "both_up", "both_up", "both_up",Mu,["form", "place", "scope", "left", "left_kind", "right", "right_kind"],["form", "place", "scope"]⟩
abbrev MY:Stmt:=top 42
noncomputable abbrev Nf:aT:=⟨.fn "both_down", "both_down", "both_down",MY,["form", "kind", "place", "scope", "left", "right"],["form", "kind", "place", "scope"]⟩
abbrev N1:Stmt:=top 45
noncomputable abbrev MG:aT:=⟨.fn "rowof_down", "rowof_down", "rowof_down",N1,["form", "kind", "place", "scope", "cores"],["form", "kind", "place", "scope"]⟩
abbrev MC:Stmt:=top 46
noncomputable abbrev Oa:aT:=⟨.fn "row_of", "row_of", "row_of",MC,["cores", "kind", "core", "item"],["cores", "kind"]⟩
abbrev Nm:Stmt:=top 48
noncomputable abbrev Na:aT:=⟨.fn "ahead_down", "ahead_down", "ahead_down",Nm,["form", "kind", "place", "scope", "item", "row"],["form", "kind", "place", "scope"]⟩
abbrev N2:Stmt:=top 49
noncomputable abbrev Nt:aT:=⟨.fn "fold_up", "fold_up", "fold_up",N2,["form", "place", "scope", "row", "row_kind", "start", "kind", "work"],["form", "place", "scope"]⟩
abbrev N9:Stmt:=top 51
noncomputable abbrev M4:aT:=⟨.fn "if_down", "if_down", "if_down",N9,["form", "kind", "place", "scope", "asked", "second", "third"],["form", "kind", "place", "scope"]⟩
abbrev NQ:Stmt:=top 52
noncomputable abbrev Mz:aT:=⟨.fn "let_up", "let_up", "let_up",NQ,["form", "place", "scope", "first", "first_kind", "second", "kind"],["form", "place", "scope"]⟩
abbrev N4:Stmt:=top 54
noncomputable abbrev Ng:aT:=⟨.fn "reckoned_up", "reckoned_up", "reckoned_up",N4,["form", "place", "scope", "first", "second"],["form", "place", "scope"]⟩
abbrev MJ:Stmt:=top 55
noncomputable abbrev M6:aT:=⟨.fn "like_up", "like_up", "like_up",MJ,["form", "place", "scope", "first", "kind", "second"],["form", "place", "scope"]⟩
abbrev Ml:Stmt:=top 56
noncomputable abbrev NP:aT:=⟨.fn "called_up", "called_up", "called_up",Ml,["form", "place", "scope"],["form", "place", "scope"]⟩
abbrev Nl:Stmt:=top 57
noncomputable abbrev NU:aT:=⟨.fn "called_down", "called_down", "called_down",Nl,["form", "kind", "place", "scope", "core", "found"],["form", "kind", "place", "scope"]⟩
abbrev My:Stmt:=top 58
noncomputable abbrev Nh:aT:=⟨.fn "called", "called", "called",My,["form", "told", "place", "scope", "calls", "head", "head_place", "core", "kind"],["form", "told", "place", "scope"]⟩
abbrev Mj:Stmt:=top 59
noncomputable abbrev M0:aT:=⟨.fn "work_called", "work_called", "work_called",Mj,["core", "kind", "calls", "scope", "part", "place"],["core", "kind", "calls", "scope"]⟩
abbrev MS:Stmt:=top 60
noncomputable abbrev NF:aT:=⟨.fn "definition_called", "definition_called", "definition_called",MS,["name", "name_place", "calls", "told", "place", "scope", "number", "definition", "left", "found", "cores", "part", "call_place", "core"],["name", "name_place", "calls", "told", "place", "scope"]⟩
abbrev MO:Stmt:=top 61
noncomputable abbrev Nz:aT:=⟨.fn "part_met", "part_met", "part_met",MO,["part", "pattern", "found", "place", "scope", "wanted", "core", "kind", "known"],["part", "pattern", "found", "place", "scope"]⟩
abbrev M5:Stmt:=top 62
noncomputable abbrev NG:aT:=⟨.fn "left_met", "left_met", "left_met",M5,["left", "told", "found", "place", "known"],["left", "told", "found", "place"]⟩
abbrev MR:Stmt:=top 63
noncomputable abbrev N6:aT:=⟨.fn "definition_at", "definition_at", "definition_at",MR,["number", "definition", "found", "place", "scope", "core", "need", "kind"],["number", "definition", "found", "place", "scope"]⟩
abbrev M3:Stmt:=clsAt (top 67) 0
abbrev Nd:aT:=⟨.me [83,104,101,108,102] fJ, "__init__", "Shelf.__init__",M3,["self"],["self"]⟩
abbrev Mm:Stmt:=clsAt (top 67) 1
abbrev MX:aT:=⟨.me [83,104,101,108,102] [116,101,108,108], "tell", "Shelf.tell",Mm,["self", "name", "free", "needs", "kind", "term", "core"],["self", "name", "free", "needs", "kind", "term"]⟩
abbrev Np:Stmt:=clsAt (top 67) 2
abbrev Ni:aT:=⟨.me [83,104,101,108,102] [119,114,105,116,101], "write", "Shelf.write",Np,["self", "term"],["self", "term"]⟩
abbrev NV:Stmt:=clsAt (top 67) 5
abbrev NM:aT:=⟨.me [83,104,101,108,102] [111,117,116,115,105,100,101], "outside", "Shelf.outside",NV,["self"],["self"]⟩
abbrev NY:Stmt:=top 68
noncomputable abbrev NC:aT:=⟨.fn "refuse_names", "refuse_names", "refuse_names",NY,["free", "needs", "kind", "inside", "name", "need"],["free", "needs", "kind"]⟩
abbrev Nn:Stmt:=top 70
noncomputable abbrev M8:aT:=⟨.fn "_law_next", "_law_next", "_law_next",Nn,["_law_h", "_law_many", "_law_cell"],["_law_h", "_law_many"]⟩
abbrev NI:Stmt:=top 71
noncomputable abbrev NT:aT:=⟨.fn "_law_word", "_law_word", "_law_word",NI,["_law_h", "_law_some"],["_law_h"]⟩
abbrev NH:Stmt:=top 72
noncomputable abbrev Nj:aT:=⟨.fn "_law_defs", "_law_defs", "_law_defs",NH,["_law_h", "_law_word_here", "_law_ends", "_law_names", "_law_one", "_law_two", "_law_a", "_law_b", "_law_x", "_law_y", "_law_seek", "_law_turn", "_law_none", "_law_both", "_law_truth", "_law_some", "_law_form"],["_law_h"]⟩
abbrev Mp:Stmt:=top 73
noncomputable abbrev NL:aT:=⟨.fn "_law_later", "_law_later", "_law_later",Mp,["_law_names", "_law_one", "_law_two", "_law_a", "_law_b", "_law_x", "_law_y", "_law_both", "_law_some", "_law_form", "_law_rows"],["_law_names", "_law_one", "_law_two"]⟩
abbrev MT:Stmt:=top 74
noncomputable abbrev Nc:aT:=⟨.fn "_law_unbound", "_law_unbound", "_law_unbound",MT,["_law_shelf", "_law_form", "e"],["_law_shelf", "_law_form"]⟩
abbrev Mo:Stmt:=top 75
noncomputable abbrev Nv:aT:=⟨.fn "law", "law", "law",Mo,["_law_script", "_law_h", "_law_defs_here", "_law_shelves", "_law_told", "_law_number", "_law_form", "_law_kind", "_law_k", "_law_at", "_law_side", "_law_row", "_law_name", "_law_core", "_law_turn"],["_law_script"]⟩
noncomputable abbrev zH:Stmt:=clsAt (top 10) 0
noncomputable abbrev AW:Stmt:=clsAt (top 3) 0
noncomputable abbrev ia:List (Tw.S×List Tw.S):=[([85,110,98,111,117,110,100],[[112,108,97,99,101],[110,97,109,101]])]
noncomputable abbrev Ds:List aT:=[d0,d1,d2,d3,d4,d5,d6,d7,d8,d9,MI,Mr,N8,MH,NB,MM,MA,NO,Nr,MU,Nq,MF,NK,Mx,Ny,N3,MP,Nf,MG,Oa,Na,Nt,M4,Mz,Ng,M6,NP,NU,Nh,M0,NF,Nz,NG,N6,Nd,MX,Ni,NM,NC,M8,NT,Nj,NL,Nc,Nv]
noncomputable abbrev tabs:List (Str×List (Tw.S×Nat)):=[("COMING_UP",[([110,117,109,98,101,114],22),([121,101,115],23),([110,111],23),([110,97,109,101],36),([99,97,108,108],36),([116,111,108,100],24),([98,111,116,104],26),([102,111,108,100],31),([108,101,116],33),([115,117,109],34),([108,101,115,115],34),([108,105,107,101],35)]),("GOING_DOWN",[([110,97,109,101],37),([102,117,110],25),([99,97,108,108],37),([98,111,116,104],27),([114,111,119,111,102],28),([97,104,101,97,100],30),([105,102],32)])]
noncomputable abbrev keys:List (Str×List Tw.S):=[("COMING_UP",[[110,117,109,98,101,114],[121,101,115],[110,111],[110,97,109,101],[102,117,110],[99,97,108,108],[116,111,108,100],[98,111,116,104],[108,101,102,116],[114,105,103,104,116],[114,111,119,111,102],[97,104,101,97,100],[102,111,108,100],[105,102],[108,101,116],[115,117,109],[108,101,115,115],[108,105,107,101]]),("GOING_DOWN",[[110,97,109,101],[102,117,110],[99,97,108,108],[98,111,116,104],[114,111,119,111,102],[97,104,101,97,100],[105,102],[108,101,116]])]
noncomputable abbrev cons:List (Str×Tw.W):=[("NUMBER",.tup [(.str [110,117,109,98,101,114])]),("TRUTH",.tup [(.str [116,114,117,116,104])])]
theorem Qh:jm ⟨Ds.map (·.key),tabs,keys,cons,ia⟩ Ds T=true:=by decide+kernel
noncomputable abbrev ke(P:Params)(x:Str)(t:Nat)(v:Value):DictEntry:=⟨PyData.keyHash P x,.str x t,v⟩
noncomputable abbrev bC(n q:Str)(a b c d:Nat)(l x y z u:Int)(r1:Nat)(bb:Bool)(i1:Int)(r2:Nat)(v:Value)(r3 r4 r5:Nat)(k:Int):Obj:=⟨.type "code",none,.fields #[.str n a,.str q b,.str "/claim/cut.py" c,.int l 0,.int x 0,.int y 0,.int z 0,.int u 0,.ref r1,.bool bb,.int i1 0,.ref r2,v,.ref r3,.ref r4,.ref r5,.int k 0,.int l 0,.str "/claim/cut.py" d],#[]⟩
noncomputable abbrev bf(n q:Str)(s:Stmt)(m:Str)(t c:Nat):Obj:=⟨.type "function",none,.func (fnOf n q (cD s) (bR s) (aj s) .none .none .none (.str m t) none (.ref c) .none),#[]⟩
noncomputable abbrev o2(P:Params):Obj:=⟨.none,none,(.dict #[] 0),#[]⟩
abbrev o3(P:Params):Obj:=⟨(.type "dict"),none,(.dict #[ke P "__name__" 165 (.str "law_twomeet_k14_shelves_apart" 1143),ke P "__doc__" 166 .none,ke P "__package__" 167 .none,ke P "__loader__" 168 (.builtin "__main__.__loader__#opaque"),ke P "__spec__" 169 .none,ke P "__annotations__" 170 (.ref 6),ke P "__builtins__" 171 (.ref 4),ke P "__file__" 173 (.str "/claim/cut.py" 172),ke P "__cached__" 174 .none,ke P "_wall" 193 (.ref 21),ke P "MeetError" 213 (.ref 31),ke P "Refused" 238 (.ref 51),ke P "Told" 254 (.ref 63),ke P "Loose" 270 (.ref 75),ke P "Unmet" 298 (.ref 94),ke P "Unfit" 324 (.ref 113),ke P "Misused" 350 (.ref 132),ke P "NoRule" 376 (.ref 151),ke P "Unbound" 402 (.ref 170),ke P "Unsaid" 418 (.ref 182),ke P "NUMBER" 422 (.ref 185),ke P "TRUTH" 424 (.ref 186),ke P "parts" 431 (.ref 193),ke P "filled" 439 (.ref 200),ke P "gaps_filled" 447 (.ref 207),ke P "replaced" 459 (.ref 214),ke P "has_gaps" 468 (.ref 221),ke P "names_in" 476 (.ref 228),ke P "put_names" 485 (.ref 235),ke P "met" 498 (.ref 242),ke P "met_gap" 508 (.ref 249),ke P "unlikely" 520 (.ref 256),ke P "likeness" 528 (.ref 263),ke P "likeness_kind" 535 (.ref 270),ke P "Definition" 575 (.ref 287),ke P "Scope" 653 (.ref 339),ke P "come_up" 664 (.ref 350),ke P "go_down" 674 (.ref 357),ke P "found_to_be" 686 (.ref 364),ke P "number_up" 695 (.ref 371),ke P "truth_up" 704 (.ref 378),ke P "told_up" 714 (.ref 385),ke P "fun_up" 723 (.ref 392),ke P "fun_down" 734 (.ref 399),ke P "both_up" 747 (.ref 406),ke P "both_down" 759 (.ref 413),ke P "side_up" 770 (.ref 420),ke P "rowof_up" 784 (.ref 427),ke P "rowof_down" 790 (.ref 432),ke P "row_of" 800 (.ref 439),ke P "ahead_up" 812 (.ref 446),ke P "ahead_down" 824 (.ref 453),ke P "fold_up" 838 (.ref 460),ke P "if_up" 851 (.ref 467),ke P "if_down" 864 (.ref 474),ke P "let_up" 877 (.ref 481),ke P "let_down" 890 (.ref 488),ke P "reckoned_up" 901 (.ref 495),ke P "like_up" 913 (.ref 502),ke P "called_up" 922 (.ref 509),ke P "called_down" 934 (.ref 516),ke P "called" 949 (.ref 523),ke P "work_called" 961 (.ref 530),ke P "definition_called" 967 (.ref 535),ke P "part_met" 982 (.ref 542),ke P "left_met" 993 (.ref 549),ke P "definition_at" 999 (.ref 554),ke P "COMING_UP" 1036 (.ref 555),ke P "GOING_DOWN" 1053 (.ref 557),ke P "Shelf" 1130 (.ref 609),ke P "refuse_names" 1142 (.ref 620),ke P "_law_next" 1153 (.ref 627),ke P "_law_word" 1159 (.ref 632),ke P "_law_defs" 1165 (.ref 637),ke P "_law_later" 1182 (.ref 644),ke P "_law_unbound" 1191 (.ref 651),ke P "law" 1212 (.ref 658)] 77),#[]⟩
abbrev Qw(P:Params):Obj:=⟨(.type "dict"),none,(.dict #[ke P "__module__" 203 (.str "twomeet.errors" 194),ke P "__firstlineno__" 207 (.int 5 206),ke P "__static_attributes__" 208 (.ref 29),ke P "__weakref__" 210 (.ref 32),ke P "__doc__" 211 .none] 3),#[]⟩
noncomputable abbrev QW:Obj:=⟨(.type "type"),none,(.cls ⟨"MeetError",[(.type "ValueError")],[(.ref 31),(.type "ValueError"),(.type "Exception"),(.type "BaseException"),(.type "object")],30, "MeetError",true,[],[(.ref 51),(.ref 63),(.ref 75)],false,none,false⟩),#[(some (.ref 22)),none,(some (.str "MeetError" 196)),(some (.str "MeetError" 204)),(some (.builtin "ValueError.__new__")),(some (.bool true))]⟩
abbrev QI:Obj:=bC "__init__" "Refused.__init__" 226 227 228 232 9 2 0 0 3 42 true 181 43 .none 44 45 46 231
abbrev N7:Obj:=bf "__init__" "Refused.__init__" AW "twomeet.errors" 194 47
abbrev Q0(P:Params):Obj:=⟨(.type "dict"),none,(.dict #[ke P "__module__" 221 (.str "twomeet.errors" 194),ke P "__firstlineno__" 225 (.int 7 224),ke P "__init__" 233 (.ref 48),ke P "__static_attributes__" 235 (.ref 49),ke P "__doc__" 236 .none] 2),#[]⟩
noncomputable abbrev Q8:Obj:=⟨(.type "type"),none,(.cls ⟨"Refused",[(.ref 31)],[(.ref 51),(.ref 31),(.type "ValueError"),(.type "Exception"),(.type "BaseException"),(.type "object")],50, "Refused",true,[],[(.ref 94),(.ref 113),(.ref 132),(.ref 151),(.ref 170),(.ref 182)],false,none,false⟩),#[(some (.ref 35)),none,(some (.str "Refused" 214)),(some (.str "Refused" 222)),(some (.builtin "ValueError.__new__")),(some (.bool true))]⟩
abbrev Og:Obj:=bC "__init__" "Unbound.__init__" 389 390 391 396 38 3 0 0 3 161 true 181 162 .none 163 164 165 395
abbrev Ij:Obj:=bf "__init__" "Unbound.__init__" zH "twomeet.errors" 194 166
abbrev PN(P:Params):Obj:=⟨(.type "dict"),none,(.dict #[ke P "__module__" 384 (.str "twomeet.errors" 194),ke P "__firstlineno__" 388 (.int 36 387),ke P "__init__" 397 (.ref 167),ke P "__static_attributes__" 399 (.ref 168),ke P "__doc__" 400 .none] 2),#[]⟩
noncomputable abbrev O1:Obj:=⟨(.type "type"),none,(.cls ⟨"Unbound",[(.ref 51)],[(.ref 170),(.ref 51),(.ref 31),(.type "ValueError"),(.type "Exception"),(.type "BaseException"),(.type "object")],169, "Unbound",true,[],[],false,none,false⟩),#[(some (.ref 154)),none,(some (.str "Unbound" 377)),(some (.str "Unbound" 385)),(some (.builtin "ValueError.__new__")),(some (.bool true))]⟩
noncomputable abbrev J7:Obj:=⟨(.type "tuple"),none,(.seq #[(.str "number" 421)] 0),#[]⟩
noncomputable abbrev IW:Obj:=⟨(.type "tuple"),none,(.seq #[(.str "truth" 423)] 0),#[]⟩
abbrev Pd:Obj:=bC "parts" "parts" 425 426 427 430 46 1 0 0 3 187 true 181 188 .none 189 190 191 429
abbrev G2:Obj:=bf "parts" "parts" s0 "twomeet.kinds" 419 192
abbrev OF:Obj:=bC "filled" "filled" 432 433 434 438 50 2 0 0 3 194 true 181 195 .none 196 197 198 437
abbrev IV:Obj:=bf "filled" "filled" s1 "twomeet.kinds" 419 199
abbrev Ov:Obj:=bC "gaps_filled" "gaps_filled" 440 441 442 446 52 2 0 0 3 201 true 181 202 .none 203 204 205 445
abbrev Iu:Obj:=bf "gaps_filled" "gaps_filled" s2 "twomeet.kinds" 419 206
abbrev Oy:Obj:=bC "replaced" "replaced" 448 449 450 458 54 3 0 0 3 208 true 181 209 .none 210 211 212 457
abbrev Ht:Obj:=bf "replaced" "replaced" s3 "twomeet.kinds" 419 213
abbrev O6:Obj:=bC "has_gaps" "has_gaps" 460 461 462 467 64 2 0 0 3 215 true 181 216 .none 217 218 219 466
abbrev GS:Obj:=bf "has_gaps" "has_gaps" s4 "twomeet.kinds" 419 220
abbrev O4:Obj:=bC "names_in" "names_in" 469 470 471 475 71 1 0 0 3 222 true 181 223 .none 224 225 226 474
abbrev HD:Obj:=bf "names_in" "names_in" s5 "twomeet.kinds" 419 227
abbrev Ol:Obj:=bC "put_names" "put_names" 477 478 479 484 75 2 0 0 3 229 true 181 230 .none 231 232 233 483
abbrev HP:Obj:=bf "put_names" "put_names" s6 "twomeet.kinds" 419 234
abbrev Py:Obj:=bC "met" "met" 486 487 488 497 80 3 0 0 3 236 true 181 237 .none 238 239 240 496
abbrev HA:Obj:=bf "met" "met" s7 "twomeet.kinds" 419 241
abbrev P6:Obj:=bC "met_gap" "met_gap" 499 500 501 507 94 3 0 0 3 243 true 181 244 .none 245 246 247 506
abbrev JW:Obj:=bf "met_gap" "met_gap" s8 "twomeet.kinds" 419 248
abbrev OU:Obj:=bC "unlikely" "unlikely" 511 512 513 519 101 2 0 0 3 250 true 181 251 .none 252 253 254 518
abbrev Kq:Obj:=bf "unlikely" "unlikely" s9 "twomeet.likes" 509 255
abbrev P4:Obj:=bC "likeness" "likeness" 521 522 523 527 111 2 0 0 3 257 true 181 258 .none 259 260 261 526
abbrev GK:Obj:=bf "likeness" "likeness" MN "twomeet.likes" 509 262
abbrev Oz:Obj:=bC "likeness_kind" "likeness_kind" 529 530 531 534 119 1 0 0 3 264 true 181 265 .none 266 267 268 533
abbrev Hy:Obj:=bf "likeness_kind" "likeness_kind" NS "twomeet.likes" 509 269
abbrev OV:Obj:=bC "__init__" "Definition.__init__" 550 551 552 561 124 5 0 0 3 278 true 181 279 .none 280 281 282 560
abbrev HX:Obj:=bf "__init__" "Definition.__init__" NJ "twomeet.definitions" 536 283
abbrev O9(P:Params):Obj:=⟨(.type "dict"),none,(.dict #[ke P "__module__" 545 (.str "twomeet.definitions" 536),ke P "__firstlineno__" 549 (.int 122 548),ke P "__init__" 562 (.ref 284),ke P "__static_attributes__" 568 (.ref 285),ke P "__dict__" 570 (.ref 288),ke P "__weakref__" 572 (.ref 289),ke P "__doc__" 573 .none] 4),#[]⟩
noncomputable abbrev Ox:Obj:=⟨(.type "type"),none,(.cls ⟨"Definition",[(.type "object")],[(.ref 287),(.type "object")],286, "Definition",true,[],[],false,none,false⟩),#[none,none,(some (.str "Definition" 538)),(some (.str "Definition" 546)),(some (.builtin "object.__new__")),(some (.bool true))]⟩
abbrev Po:Obj:=bC "__init__" "Scope.__init__" 590 591 592 599 137 5 0 0 3 299 true 181 300 .none 301 302 303 598
abbrev Gs:Obj:=bf "__init__" "Scope.__init__" DQ "twomeet.scope" 576 304
abbrev Ot:Obj:=bC "bind" "Scope.bind" 601 602 603 608 143 3 0 0 3 306 true 181 307 .none 308 309 310 607
abbrev IE:Obj:=bf "bind" "Scope.bind" NN "twomeet.scope" 576 311
noncomputable abbrev PQ:Obj:=⟨(.type "code"),none,(.fields #[(.str "is_bound" 610),(.str "Scope.is_bound" 611),(.str "/claim/cut.py" 612),(.int 146 0),(.int 2 0),(.int 0 0),(.int 0 0),(.int 3 0),(.ref 313),(.bool true),(.int 181 0),(.ref 314),.none,.none,.none,(.ref 315),(.int 613 0),(.int 146 0),(.str "/claim/cut.py" 614)]),#[]⟩
abbrev KJ:Obj:=bf "is_bound" "Scope.is_bound" M9 "twomeet.scope" 576 316
noncomputable abbrev Pk:Obj:=⟨(.type "code"),none,(.fields #[(.str "var_of" 616),(.str "Scope.var_of" 617),(.str "/claim/cut.py" 618),(.int 149 0),(.int 2 0),(.int 0 0),(.int 0 0),(.int 3 0),(.ref 318),(.bool true),(.int 181 0),(.ref 319),.none,.none,.none,(.ref 320),(.int 619 0),(.int 149 0),(.str "/claim/cut.py" 620)]),#[]⟩
abbrev Iz:Obj:=bf "var_of" "Scope.var_of" ME "twomeet.scope" 576 321
abbrev PX:Obj:=bC "likeness_of" "Scope.likeness_of" 622 623 624 630 153 3 0 0 3 323 true 181 324 .none 325 326 327 629
abbrev Ia:Obj:=bf "likeness_of" "Scope.likeness_of" A8 "twomeet.scope" 576 328
abbrev OI:Obj:=bC "likenesses_given" "Scope.likenesses_given" 632 633 634 640 159 1 0 0 3 330 true 181 331 .none 332 333 334 639
abbrev Hx:Obj:=bf "likenesses_given" "Scope.likenesses_given" NR "twomeet.scope" 576 335
abbrev OB(P:Params):Obj:=⟨(.type "dict"),none,(.dict #[ke P "__module__" 585 (.str "twomeet.scope" 576),ke P "__firstlineno__" 589 (.int 135 588),ke P "__init__" 600 (.ref 305),ke P "bind" 609 (.ref 312),ke P "is_bound" 615 (.ref 317),ke P "var_of" 621 (.ref 322),ke P "likeness_of" 631 (.ref 329),ke P "likenesses_given" 641 (.ref 336),ke P "__static_attributes__" 646 (.ref 337),ke P "__dict__" 648 (.ref 340),ke P "__weakref__" 650 (.ref 341),ke P "__doc__" 651 .none] 4),#[]⟩
noncomputable abbrev OY:Obj:=⟨(.type "type"),none,(.cls ⟨"Scope",[(.type "object")],[(.ref 339),(.type "object")],338, "Scope",true,[],[],false,none,false⟩),#[none,none,(some (.str "Scope" 578)),(some (.str "Scope" 586)),(some (.builtin "object.__new__")),(some (.bool true))]⟩
abbrev PY:Obj:=bC "come_up" "come_up" 656 657 658 663 167 3 0 0 3 344 true 181 345 .none 346 347 348 662
abbrev Kj:Obj:=bf "come_up" "come_up" MZ "twomeet.writing" 654 349
abbrev Oo:Obj:=bC "go_down" "go_down" 665 666 667 673 169 4 0 0 3 351 true 181 352 .none 353 354 355 672
abbrev Ik:Obj:=bf "go_down" "go_down" MB "twomeet.writing" 654 356
abbrev OT:Obj:=bC "found_to_be" "found_to_be" 675 676 677 685 173 4 0 0 3 358 true 181 359 .none 360 361 362 684
abbrev HG:Obj:=bf "found_to_be" "found_to_be" Nw "twomeet.writing" 654 363
abbrev PC:Obj:=bC "number_up" "number_up" 687 688 689 694 178 3 0 0 3 365 true 181 366 .none 367 368 369 693
abbrev Hh:Obj:=bf "number_up" "number_up" MW "twomeet.writing" 654 370
abbrev PR:Obj:=bC "truth_up" "truth_up" 696 697 698 703 180 3 0 0 3 372 true 181 373 .none 374 375 376 702
abbrev IG:Obj:=bf "truth_up" "truth_up" Ms "twomeet.writing" 654 377
abbrev Pn:Obj:=bC "told_up" "told_up" 705 706 707 713 182 3 0 0 3 379 true 181 380 .none 381 382 383 712
abbrev JT:Obj:=bf "told_up" "told_up" Mv "twomeet.writing" 654 384
abbrev P2:Obj:=bC "fun_down" "fun_down" 724 725 726 733 189 4 0 0 3 393 true 181 394 .none 395 396 397 732
abbrev JO:Obj:=bf "fun_down" "fun_down" MD "twomeet.writing" 654 398
abbrev Ph:Obj:=bC "both_up" "both_up" 735 736 737 746 194 3 0 0 3 400 true 181 401 .none 402 403 404 745
abbrev Ii:Obj:=bf "both_up" "both_up" Mu "twomeet.writing" 654 405
abbrev Oi:Obj:=bC "both_down" "both_down" 748 749 750 758 198 4 0 0 3 407 true 181 408 .none 409 410 411 757
abbrev JN:Obj:=bf "both_down" "both_down" MY "twomeet.writing" 654 412
noncomputable abbrev Pa:Obj:=⟨(.type "code"),none,(.fields #[(.str "rowof_down" 785),(.str "rowof_down" 786),(.str "/claim/cut.py" 787),(.int 217 0),(.int 4 0),(.int 0 0),(.int 0 0),(.int 3 0),(.ref 428),(.bool true),(.int 181 0),(.ref 429),.none,.none,.none,(.ref 430),(.int 788 0),(.int 217 0),(.str "/claim/cut.py" 789)]),#[]⟩
abbrev HS:Obj:=bf "rowof_down" "rowof_down" N1 "twomeet.writing" 654 431
abbrev Pb:Obj:=bC "row_of" "row_of" 791 792 793 799 224 2 0 0 3 433 true 181 434 .none 435 436 437 798
abbrev I9:Obj:=bf "row_of" "row_of" MC "twomeet.writing" 654 438
abbrev Pu:Obj:=bC "ahead_down" "ahead_down" 813 814 815 823 233 4 0 0 3 447 true 181 448 .none 449 450 451 822
abbrev Kr:Obj:=bf "ahead_down" "ahead_down" Nm "twomeet.writing" 654 452
abbrev PK:Obj:=bC "fold_up" "fold_up" 825 826 827 837 239 3 0 0 3 454 true 181 455 .none 456 457 458 836
abbrev JV:Obj:=bf "fold_up" "fold_up" N2 "twomeet.writing" 654 459
abbrev O3:Obj:=bC "if_down" "if_down" 852 853 854 863 251 4 0 0 3 468 true 181 469 .none 470 471 472 862
abbrev HM:Obj:=bf "if_down" "if_down" N9 "twomeet.writing" 654 473
abbrev PZ:Obj:=bC "let_up" "let_up" 865 866 867 876 256 3 0 0 3 475 true 181 476 .none 477 478 479 875
abbrev G3:Obj:=bf "let_up" "let_up" NQ "twomeet.writing" 654 480
abbrev P7:Obj:=bC "reckoned_up" "reckoned_up" 891 892 893 900 264 3 0 0 3 489 true 181 490 .none 491 492 493 899
abbrev JZ:Obj:=bf "reckoned_up" "reckoned_up" N4 "twomeet.writing" 654 494
abbrev PL:Obj:=bC "like_up" "like_up" 902 903 904 912 268 3 0 0 3 496 true 181 497 .none 498 499 500 911
abbrev GP:Obj:=bf "like_up" "like_up" MJ "twomeet.writing" 654 501
abbrev PH:Obj:=bC "called_up" "called_up" 914 915 916 921 272 3 0 0 3 503 true 181 504 .none 505 506 507 920
abbrev J5:Obj:=bf "called_up" "called_up" Ml "twomeet.writing" 654 508
abbrev Od:Obj:=bC "called_down" "called_down" 923 924 925 933 274 4 0 0 3 510 true 181 511 .none 512 513 514 932
abbrev IZ:Obj:=bf "called_down" "called_down" Nl "twomeet.writing" 654 515
abbrev OR:Obj:=bC "called" "called" 935 936 937 948 279 4 0 0 3 517 true 181 518 .none 519 520 521 947
abbrev HE:Obj:=bf "called" "called" My "twomeet.writing" 654 522
abbrev Pc:Obj:=bC "work_called" "work_called" 950 951 952 960 295 4 0 0 3 524 true 181 525 .none 526 527 528 959
abbrev Gu:Obj:=bf "work_called" "work_called" Mj "twomeet.writing" 654 529
noncomputable abbrev OE:Obj:=⟨(.type "code"),none,(.fields #[(.str "definition_called" 962),(.str "definition_called" 963),(.str "/claim/cut.py" 964),(.int 302 0),(.int 6 0),(.int 0 0),(.int 0 0),(.int 3 0),(.ref 531),(.bool true),(.int 181 0),(.ref 532),.none,.none,.none,(.ref 533),(.int 965 0),(.int 302 0),(.str "/claim/cut.py" 966)]),#[]⟩
abbrev Kl:Obj:=bf "definition_called" "definition_called" MS "twomeet.writing" 654 534
abbrev ON:Obj:=bC "part_met" "part_met" 968 969 970 981 323 5 0 0 3 536 true 181 537 .none 538 539 540 980
abbrev HH:Obj:=bf "part_met" "part_met" MO "twomeet.writing" 654 541
abbrev Pq:Obj:=bC "left_met" "left_met" 983 984 985 992 332 4 0 0 3 543 true 181 544 .none 545 546 547 991
abbrev JK:Obj:=bf "left_met" "left_met" M5 "twomeet.writing" 654 548
noncomputable abbrev PM:Obj:=⟨(.type "code"),none,(.fields #[(.str "definition_at" 994),(.str "definition_at" 995),(.str "/claim/cut.py" 996),(.int 341 0),(.int 5 0),(.int 0 0),(.int 0 0),(.int 3 0),(.ref 550),(.bool true),(.int 181 0),(.ref 551),.none,.none,.none,(.ref 552),(.int 997 0),(.int 341 0),(.str "/claim/cut.py" 998)]),#[]⟩
abbrev IT:Obj:=bf "definition_at" "definition_at" MR "twomeet.writing" 654 553
abbrev Hi(P:Params):Obj:=⟨(.type "dict"),none,(.dict #[ke P "number" 1000 (.ref 371),ke P "yes" 1002 (.ref 378),ke P "no" 1004 (.ref 378),ke P "name" 1006 (.ref 509),ke P "fun" 1008 (.ref 392),ke P "call" 1010 (.ref 509),ke P "told" 1012 (.ref 385),ke P "both" 1014 (.ref 406),ke P "left" 1016 (.ref 420),ke P "right" 1018 (.ref 420),ke P "rowof" 1020 (.ref 427),ke P "ahead" 1022 (.ref 446),ke P "fold" 1024 (.ref 460),ke P "if" 1026 (.ref 467),ke P "let" 1028 (.ref 481),ke P "sum" 1030 (.ref 495),ke P "less" 1032 (.ref 495),ke P "like" 1034 (.ref 502)] 18),#[]⟩
abbrev GA(P:Params):Obj:=⟨(.type "dict"),none,(.dict #[ke P "name" 1037 (.ref 516),ke P "fun" 1038 (.ref 399),ke P "call" 1039 (.ref 516),ke P "both" 1040 (.ref 413),ke P "rowof" 1041 (.ref 432),ke P "ahead" 1042 (.ref 453),ke P "if" 1043 (.ref 474),ke P "let" 1044 (.ref 488)] 8),#[]⟩
abbrev PB:Obj:=bC "__init__" "Shelf.__init__" 1068 1069 1070 1073 352 1 0 0 3 565 true 181 566 .none 567 568 569 1072
abbrev GF:Obj:=bf "__init__" "Shelf.__init__" M3 "twomeet.shelf" 1054 570
abbrev OC:Obj:=bC "tell" "Shelf.tell" 1075 1076 1077 1086 356 6 0 0 3 572 true 181 573 .none 574 575 576 1085
abbrev JF:Obj:=bf "tell" "Shelf.tell" Mm "twomeet.shelf" 1054 577
abbrev OS:Obj:=bC "write" "Shelf.write" 1088 1089 1090 1094 364 2 0 0 3 579 true 181 580 .none 581 582 583 1093
abbrev J6:Obj:=bf "write" "Shelf.write" Np "twomeet.shelf" 1054 584
abbrev OJ:Obj:=bC "outside" "Shelf.outside" 1114 1115 1116 1119 373 1 0 0 3 600 true 181 601 .none 602 603 604 1118
abbrev JA:Obj:=bf "outside" "Shelf.outside" NV "twomeet.shelf" 1054 605
abbrev PV(P:Params):Obj:=⟨(.type "dict"),none,(.dict #[ke P "__module__" 1063 (.str "twomeet.shelf" 1054),ke P "__firstlineno__" 1067 (.int 350 1066),ke P "__init__" 1074 (.ref 571),ke P "tell" 1087 (.ref 578),ke P "write" 1095 (.ref 585),ke P "write_as" 1104 (.ref 592),ke P "end" 1113 (.ref 599),ke P "outside" 1120 (.ref 606),ke P "__static_attributes__" 1123 (.ref 607),ke P "__dict__" 1125 (.ref 610),ke P "__weakref__" 1127 (.ref 611),ke P "__doc__" 1128 .none] 4),#[]⟩
noncomputable abbrev OZ:Obj:=⟨(.type "type"),none,(.cls ⟨"Shelf",[(.type "object")],[(.ref 609),(.type "object")],608, "Shelf",true,[],[],false,none,false⟩),#[none,none,(some (.str "Shelf" 1056)),(some (.str "Shelf" 1064)),(some (.builtin "object.__new__")),(some (.bool true))]⟩
abbrev PJ:Obj:=bC "refuse_names" "refuse_names" 1131 1132 1133 1141 375 3 0 0 3 614 true 181 615 .none 616 617 618 1140
abbrev HQ:Obj:=bf "refuse_names" "refuse_names" NY "twomeet.shelf" 1054 619
abbrev OW:Obj:=bC "_law_next" "_law_next" 1145 1146 1147 1152 387 2 0 0 3 621 true 181 622 .none 623 624 625 1151
abbrev Jh:Obj:=bf "_law_next" "_law_next" Nn "law_twomeet_k14_shelves_apart" 1143 626
noncomputable abbrev PD:Obj:=⟨(.type "code"),none,(.fields #[(.str "_law_word" 1154),(.str "_law_word" 1155),(.str "/claim/cut.py" 1156),(.int 392 0),(.int 1 0),(.int 0 0),(.int 0 0),(.int 3 0),(.ref 628),(.bool true),(.int 181 0),(.ref 629),.none,.none,.none,(.ref 630),(.int 1157 0),(.int 392 0),(.str "/claim/cut.py" 1158)]),#[]⟩
abbrev Ko:Obj:=bf "_law_word" "_law_word" NI "law_twomeet_k14_shelves_apart" 1143 631
noncomputable abbrev P9:Obj:=⟨(.type "code"),none,(.fields #[(.str "_law_defs" 1160),(.str "_law_defs" 1161),(.str "/claim/cut.py" 1162),(.int 395 0),(.int 1 0),(.int 0 0),(.int 0 0),(.int 3 0),(.ref 633),(.bool true),(.int 181 0),(.ref 634),.none,.none,.none,(.ref 635),(.int 1163 0),(.int 395 0),(.str "/claim/cut.py" 1164)]),#[]⟩
abbrev IA:Obj:=bf "_law_defs" "_law_defs" NH "law_twomeet_k14_shelves_apart" 1143 636
abbrev Pp:Obj:=bC "_law_later" "_law_later" 1166 1167 1168 1181 421 3 0 0 3 638 true 181 639 .none 640 641 642 1180
abbrev IF:Obj:=bf "_law_later" "_law_later" Mp "law_twomeet_k14_shelves_apart" 1143 643
abbrev OG:Obj:=bC "_law_unbound" "_law_unbound" 1183 1184 1185 1190 440 2 0 0 3 645 true 181 646 .none 647 648 649 1189
abbrev HJ:Obj:=bf "_law_unbound" "_law_unbound" MT "law_twomeet_k14_shelves_apart" 1143 650
abbrev Pz:Obj:=bC "law" "law" 1192 1193 1194 1211 446 1 0 0 3 652 true 181 653 .none 654 655 656 1210
abbrev JQ:Obj:=bf "law" "law" Mo "law_twomeet_k14_shelves_apart" 1143 657
noncomputable def K(P:Params):Frag:=[(2,(o2 P)),(3,(o3 P)),(30,(Qw P)),(31,QW),(47,QI),(48,N7),(50,(Q0 P)),(51,Q8),(166,Og),(167,Ij),(169,(PN P)),(170,O1),(185,J7),(186,IW),(192,Pd),(193,G2),(199,OF),(200,IV),(206,Ov),(207,Iu),(213,Oy),(214,Ht),(220,O6),(221,GS),(227,O4),(228,HD),(234,Ol),(235,HP),(241,Py),(242,HA),(248,P6),(249,JW),(255,OU),(256,Kq),(262,P4),(263,GK),(269,Oz),(270,Hy),(283,OV),(284,HX),(286,(O9 P)),(287,Ox),(304,Po),(305,Gs),(311,Ot),(312,IE),(316,PQ),(317,KJ),(321,Pk),(322,Iz),(328,PX),(329,Ia),(335,OI),(336,Hx),(338,(OB P)),(339,OY),(349,PY),(350,Kj),(356,Oo),(357,Ik),(363,OT),(364,HG),(370,PC),(371,Hh),(377,PR),(378,IG),(384,Pn),(385,JT),(398,P2),(399,JO),(405,Ph),(406,Ii),(412,Oi),(413,JN),(431,Pa),(432,HS),(438,Pb),(439,I9),(452,Pu),(453,Kr),(459,PK),(460,JV),(473,O3),(474,HM),(480,PZ),(481,G3),(494,P7),(495,JZ),(501,PL),(502,GP),(508,PH),(509,J5),(515,Od),(516,IZ),(522,OR),(523,HE),(529,Pc),(530,Gu),(534,OE),(535,Kl),(541,ON),(542,HH),(548,Pq),(549,JK),(553,PM),(554,IT),(555,(Hi P)),(557,(GA P)),(570,PB),(571,GF),(577,OC),(578,JF),(584,OS),(585,J6),(605,OJ),(606,JA),(608,(PV P)),(609,OZ),(619,PJ),(620,HQ),(626,OW),(627,Jh),(631,PD),(632,Ko),(636,P9),(637,IA),(643,Pp),(644,IF),(650,OG),(651,HJ),(657,Pz),(658,JQ)]
noncomputable def as:List Addr:=[2,3,30,31,47,48,50,51,166,167,169,170,185,186,192,193,199,200,206,207,213,214,220,221,227,228,234,235,241,242,248,249,255,256,262,263,269,270,283,284,286,287,304,305,311,312,316,317,321,322,328,329,335,336,338,339,349,350,356,357,363,364,370,371,377,378,384,385,398,399,405,406,412,413,431,432,438,439,452,453,459,460,473,474,480,481,494,495,501,502,508,509,515,516,522,523,529,530,534,535,541,542,548,549,553,554,555,557,570,571,577,578,584,585,605,606,608,609,619,620,626,627,631,632,636,637,643,644,650,651,657,658]
noncomputable def H:Hook:=kHook K as fun _=>by kernel_rfl
noncomputable def view:Program:={pw with main:={pw.main with body:=[top 75]}}
noncomputable def loose:List Str:=(["_wall", "MeetError", "Refused", "Told", "Loose", "Unmet", "Unfit", "Misused", "NoRule", "Unbound", "Unsaid", "NUMBER", "TRUTH", "parts", "filled", "gaps_filled", "replaced", "has_gaps", "names_in", "put_names", "met", "met_gap", "unlikely", "likeness", "likeness_kind", "Definition", "Scope", "come_up", "go_down", "found_to_be", "number_up", "truth_up", "told_up", "fun_up", "fun_down", "both_up", "both_down", "side_up", "rowof_up", "rowof_down", "row_of", "ahead_up", "ahead_down", "fold_up", "if_up", "if_down", "let_up", "let_down", "reckoned_up", "like_up", "called_up", "called_down", "called", "work_called", "definition_called", "part_met", "left_met", "definition_at", "COMING_UP", "GOING_DOWN", "Shelf", "refuse_names", "_law_next", "_law_word", "_law_defs", "_law_later", "_law_unbound"]:List String).map Str.ofString
noncomputable def seen(s:Shared):Bool:=xlAt view [] s&&recOk (PySem.Challenge.rw_twomeet_k14_shelves_apart).row.toRowW.records s
noncomputable def _root_.PySem.W.Fast.tw6308735795879947565:Program:=PySem.Challenge.pw_twomeet_k14_shelves_apart
theorem _root_.PySem.W.Fast.te6308735795879947565:PySem.Challenge.pw_twomeet_k14_shelves_apart=PySem.W.Fast.tw6308735795879947565:=rfl
noncomputable def obs(s:Shared):=(openSeen view loose (importedModules pw.main.body) seen true s,as.map s.heap.get?)
noncomputable def Ct(w:World):=sW pw 12000 obs (w.withFollow "special-get-raises" false)
theorem E8:Ct=Ct:=rfl
name_quick runF_K14 for K14.Ct by K14.E8
theorem K5(w:World):(openEnds treeTable pw (w.withFollow "special-get-raises" false) 12000).map obs=some (openGood view loose,Hook.val H (w.withFollow "special-get-raises" false)):=wZ ((congrFun PySem.W.Fast.runF_K14_eq w).trans (by kernel_rfl))
noncomputable def B4(w:World):=sW pw 12000 obs (w.withFollow "special-get-raises" true)
theorem E9:B4=B4:=rfl
name_quick runT_K14 for K14.B4 by K14.E9
theorem LM(w:World):(openEnds treeTable pw (w.withFollow "special-get-raises" true) 12000).map obs=some (openGood view loose,Hook.val H (w.withFollow "special-get-raises" true)):=wZ ((congrFun PySem.W.Fast.runT_K14_eq w).trans (by kernel_rfl))
theorem left:LeftO pw view loose seen (Hook.obs H) (Hook.val H) 12000:=byRow2 "special-get-raises" (P:=fun w=>(openEnds treeTable pw w 12000).map obs=some (openGood view loose,Hook.val H w)) K5 LM
section
variable (P:Params)
theorem l0:(K P).lookup 193=some G2:=by kernel_rfl
theorem l1:(K P).lookup 200=some IV:=by kernel_rfl
theorem l2:(K P).lookup 207=some Iu:=by kernel_rfl
theorem l3:(K P).lookup 214=some Ht:=by kernel_rfl
theorem l4:(K P).lookup 221=some GS:=by kernel_rfl
theorem l5:(K P).lookup 228=some HD:=by kernel_rfl
theorem l6:(K P).lookup 235=some HP:=by kernel_rfl
theorem l7:(K P).lookup 242=some HA:=by kernel_rfl
theorem l8:(K P).lookup 249=some JW:=by kernel_rfl
theorem l9:(K P).lookup 256=some Kq:=by kernel_rfl
theorem Nx:(K P).lookup 263=some GK:=by kernel_rfl
theorem MV:(K P).lookup 270=some Hy:=by kernel_rfl
theorem Nu:(K P).lookup 284=some HX:=by kernel_rfl
theorem NX:(K P).lookup 305=some Gs:=by kernel_rfl
theorem QH:(K P).lookup 312=some IE:=by kernel_rfl
theorem Qn:(K P).lookup 317=some KJ:=by kernel_rfl
theorem Qk:(K P).lookup 322=some Iz:=by kernel_rfl
theorem QO:(K P).lookup 329=some Ia:=by kernel_rfl
theorem QP:(K P).lookup 336=some Hx:=by kernel_rfl
theorem Qv:(K P).lookup 350=some Kj:=by kernel_rfl
theorem Rf:(K P).lookup 357=some Ik:=by kernel_rfl
theorem Rg:(K P).lookup 364=some HG:=by kernel_rfl
theorem QE:(K P).lookup 371=some Hh:=by kernel_rfl
theorem Qs:(K P).lookup 378=some IG:=by kernel_rfl
theorem QV:(K P).lookup 385=some JT:=by kernel_rfl
theorem Q5:(K P).lookup 399=some JO:=by kernel_rfl
theorem Ra:(K P).lookup 406=some Ii:=by kernel_rfl
theorem Qp:(K P).lookup 413=some JN:=by kernel_rfl
theorem Qr:(K P).lookup 432=some HS:=by kernel_rfl
theorem Qj:(K P).lookup 439=some I9:=by kernel_rfl
theorem QB:(K P).lookup 453=some Kr:=by kernel_rfl
theorem QR:(K P).lookup 460=some JV:=by kernel_rfl
theorem Qt:(K P).lookup 474=some HM:=by kernel_rfl
theorem QF:(K P).lookup 481=some G3:=by kernel_rfl
theorem QD:(K P).lookup 495=some JZ:=by kernel_rfl
theorem Q9:(K P).lookup 502=some GP:=by kernel_rfl
theorem QX:(K P).lookup 509=some J5:=by kernel_rfl
theorem Qy:(K P).lookup 516=some IZ:=by kernel_rfl
theorem QJ:(K P).lookup 523=some HE:=by kernel_rfl
theorem Qx:(K P).lookup 530=some Gu:=by kernel_rfl
theorem Q4:(K P).lookup 535=some Kl:=by kernel_rfl
theorem Rk:(K P).lookup 542=some HH:=by kernel_rfl
theorem Ri:(K P).lookup 549=some JK:=by kernel_rfl
theorem Qu:(K P).lookup 554=some IT:=by kernel_rfl
theorem Qm:(K P).lookup 571=some GF:=by kernel_rfl
theorem Rb:(K P).lookup 578=some JF:=by kernel_rfl
theorem Q3:(K P).lookup 585=some J6:=by kernel_rfl
theorem QL:(K P).lookup 606=some JA:=by kernel_rfl
theorem QN:(K P).lookup 620=some HQ:=by kernel_rfl
theorem Q6:(K P).lookup 627=some Jh:=by kernel_rfl
theorem Ql:(K P).lookup 632=some Ko:=by kernel_rfl
theorem Qq:(K P).lookup 637=some IA:=by kernel_rfl
theorem QZ:(K P).lookup 644=some IF:=by kernel_rfl
theorem QK:(K P).lookup 651=some HJ:=by kernel_rfl
theorem QA:(K P).lookup 658=some JQ:=by kernel_rfl
theorem vJ:(K P).lookup 555=some (Hi P):=by kernel_rfl
theorem vp:(K P).lookup 557=some (GA P):=by kernel_rfl
theorem BL:(K P).lookup 185=some J7:=by kernel_rfl
theorem Gm:(K P).lookup 186=some IW:=by kernel_rfl
theorem pD:GoodC (K P) 287:=by exact qK
theorem fB:GoodC (K P) 339:=by exact qK
theorem ja:GoodC (K P) 609:=by exact qK
end
section
variable (P:Params)
theorem yT:(K P).lookup 167=some Ij:=by kernel_rfl
theorem yi:(K P).lookup 48=some N7:=by kernel_rfl
theorem ye:tN (K P) 170 167:=⟨⟨"Unbound", "Unbound",169,[(.ref 51)],[(.ref 51),(.ref 31),(.type "ValueError"),(.type "Exception"),(.type "BaseException"),(.type "object")],true,[],[],false,none,none,(some (.ref 154)),none,(some (.str "Unbound" 377)),(some (.str "Unbound" 385)),(some (.bool true)),by kernel_rfl,by decide+kernel,by decide+kernel,by decide+kernel,by decide+kernel⟩,by kernel_rfl,by kernel_rfl,by kernel_rfl⟩
theorem xX:XC (K P) 170:=⟨⟨⟨"Unbound",[(.ref 51)],[(.ref 170),(.ref 51),(.ref 31),(.type "ValueError"),(.type "Exception"),(.type "BaseException"),(.type "object")],169, "Unbound",true,[],[],false,none,false⟩,[51,31],by kernel_rfl,rfl,rfl⟩,by kernel_rfl,by kernel_rfl,by kernel_rfl⟩
theorem xQ:m7 (K P) 51 48:=⟨by kernel_rfl,by kernel_rfl,by kernel_rfl,by kernel_rfl⟩
theorem xt:∀g∈([[112,108,97,99,101],[110,97,109,101]]:List Tw.S).map str,bh (K P) 170 g:=by simp only[List.map_cons,List.map_nil,List.forall_mem_cons];exact⟨(show findIn (K P) (.ref 170) "place" = some none by kernel_rfl),(show findIn (K P) (.ref 170) "name" = some none by kernel_rfl),fun _ h=>nomatch h⟩
end
theorem facts(w:World)(mg:Str->Option Value)(h:Heap)(KX:(K w.params).In h)(G:h.Ns mainGlobals mg):(∀d∈Ds,∃g fd,jJ (K w.params) mg d g fd)/\(∀x∈cO,mg x=none)/\(∀x g,tabs.lookup x=some g->TabAt (K w.params) mg (Ds.map (·.key)) x g)/\(∀x g,keys.lookup x=some g->mO (K w.params) mg x g)/\(∀x w',cons.lookup x=some w'->pR (K w.params) mg x w')/\∀c fs,ia.lookup c=some fs->lH (K w.params) mg c fs:=by
 have t0:=zc (x:= "COMING_UP") (t:=555) (fns:=Ds.map (·.key)) (g:=[([110,117,109,98,101,114],22),([121,101,115],23),([110,111],23),([110,97,109,101],36),([99,97,108,108],36),([116,111,108,100],24),([98,111,116,104],26),([102,111,108,100],31),([108,101,116],33),([115,117,109],34),([108,101,115,115],34),([108,105,107,101],35)]) (ks:=[[110,117,109,98,101,114],[121,101,115],[110,111],[110,97,109,101],[102,117,110],[99,97,108,108],[116,111,108,100],[98,111,116,104],[108,101,102,116],[114,105,103,104,116],[114,111,119,111,102],[97,104,101,97,100],[102,111,108,100],[105,102],[108,101,116],[115,117,109],[108,101,115,115],[108,105,107,101]]) [([110,117,109,98,101,114], "number_up"),([121,101,115], "truth_up"),([110,111], "truth_up"),([110,97,109,101], "called_up"),([102,117,110], "fun_up"),([99,97,108,108], "called_up"),([116,111,108,100], "told_up"),([98,111,116,104], "both_up"),([108,101,102,116], "side_up"),([114,105,103,104,116], "side_up"),([114,111,119,111,102], "rowof_up"),([97,104,101,97,100], "ahead_up"),([102,111,108,100], "fold_up"),([105,102], "if_up"),([108,101,116], "let_up"),([115,117,109], "reckoned_up"),([108,101,115,115], "reckoned_up"),([108,105,107,101], "like_up")] KX G (by kernel_rfl) (vJ _) ⟨rfl,rfl,rfl⟩ rfl (.cons (by kernel_rfl) (.cons (by kernel_rfl) (.cons (by kernel_rfl) (.cons (by kernel_rfl) (.cons (by kernel_rfl) (.cons (by kernel_rfl) (.cons (by kernel_rfl) (.cons (by kernel_rfl) (.cons (by kernel_rfl) (.cons (by kernel_rfl) (.cons (by kernel_rfl) (.cons (by kernel_rfl) (.cons (by kernel_rfl) (.cons (by kernel_rfl) (.cons (by kernel_rfl) (.cons (by kernel_rfl) (.cons (by kernel_rfl) (.cons (by kernel_rfl) (.nil))))))))))))))))))) rfl rfl;have t1:=zc (x:= "GOING_DOWN") (t:=557) (fns:=Ds.map (·.key)) (g:=[([110,97,109,101],37),([102,117,110],25),([99,97,108,108],37),([98,111,116,104],27),([114,111,119,111,102],28),([97,104,101,97,100],30),([105,102],32)]) (ks:=[[110,97,109,101],[102,117,110],[99,97,108,108],[98,111,116,104],[114,111,119,111,102],[97,104,101,97,100],[105,102],[108,101,116]]) [([110,97,109,101], "called_down"),([102,117,110], "fun_down"),([99,97,108,108], "called_down"),([98,111,116,104], "both_down"),([114,111,119,111,102], "rowof_down"),([97,104,101,97,100], "ahead_down"),([105,102], "if_down"),([108,101,116], "let_down")] KX G (by kernel_rfl) (vp _) ⟨rfl,rfl,rfl⟩ rfl (.cons (by kernel_rfl) (.cons (by kernel_rfl) (.cons (by kernel_rfl) (.cons (by kernel_rfl) (.cons (by kernel_rfl) (.cons (by kernel_rfl) (.cons (by kernel_rfl) (.cons (by kernel_rfl) (.nil))))))))) rfl rfl;refine⟨?D,?B,?T,?K,?C,?X⟩
 case X=>
  refine Av (Jz (C:=170) (f:=167) (R:=51) (g:=48) (sf:= "self") (sb:= "self") (r:= "Refused") KX G (by kernel_rfl) (ye _) (xX _) (xt _) (by kernel_rfl) (yT _) (by kernel_rfl) (by kernel_rfl) (fun _ _ _ _ _ _=>gP (fun _ _ _=>rfl)) (by decide) rfl (by decide+kernel) (by kernel_rfl) (xQ _) (yi _) (by kernel_rfl) (by decide+kernel) (fun _ _ _ _ _ _=>jK (fun _ _=>rfl))) ?_;exact B8
 case T=>exact gr t0.1 (gr t1.1 (oZ))
 case K=>exact gr t0.2 (gr t1.2 (oZ))
 case C=>
  refine gr (zo (t:=185) (z:=[110,117,109,98,101,114]) KX G (by kernel_rfl) (BL _) rfl) ?_;refine gr (zo (t:=186) (z:=[116,114,117,116,104]) KX G (by kernel_rfl) (Gm _) rfl) ?_;exact oZ
 case D=>
  show ∀d∈ [d0,d1,d2,d3,d4,d5,d6,d7,d8,d9,MI,Mr,N8,MH,NB,MM,MA,NO,Nr,MU,Nq,MF,NK,Mx,Ny,N3,MP,Nf,MG,Oa,Na,Nt,M4,Mz,Ng,M6,NP,NU,Nh,M0,NF,Nz,NG,N6,Nd,MX,Ni,NM,NC,M8,NT,Nj,NL,Nc,Nv],_;simp only[List.forall_mem_cons];refine⟨?_,?_,?_,?_,?_,?_,?_,?_,?_,?_,?_,?_,?_,?_,?_,?_,?_,?_,?_,?_,?_,?_,?_,?_,?_,?_,?_,?_,?_,?_,?_,?_,?_,?_,?_,?_,?_,?_,?_,?_,?_,?_,?_,?_,?_,?_,?_,?_,?_,?_,?_,?_,?_,?_,?_,fun _ h=>nomatch h⟩
  .exact aM (f:=193) KX G (l0 _) (fun _ _ _ _ _ _=>nV (fun _=>rfl))
  .exact aM (f:=200) KX G (l1 _) (fun _ _ _ _ _ _=>jK (fun _ _=>rfl))
  .exact aM (f:=207) KX G (l2 _) (fun _ _ _ _ _ _=>jK (fun _ _=>rfl))
  .exact aM (f:=214) KX G (l3 _) (fun _ _ _ _ _ _=>gP (fun _ _ _=>rfl))
  .exact aM (f:=221) KX G (l4 _) (fun _ _ _ _ _ _=>jK (fun _ _=>rfl))
  .exact aM (f:=228) KX G (l5 _) (fun _ _ _ _ _ _=>nV (fun _=>rfl))
  .exact aM (f:=235) KX G (l6 _) (fun _ _ _ _ _ _=>jK (fun _ _=>rfl))
  .exact aM (f:=242) KX G (l7 _) (fun _ _ _ _ _ _=>gP (fun _ _ _=>rfl))
  .exact aM (f:=249) KX G (l8 _) (fun _ _ _ _ _ _=>gP (fun _ _ _=>rfl))
  .exact aM (f:=256) KX G (l9 _) (fun _ _ _ _ _ _=>jK (fun _ _=>rfl))
  .exact aM (f:=263) KX G (Nx _) (fun _ _ _ _ _ _=>jK (fun _ _=>rfl))
  .exact aM (f:=270) KX G (MV _) (fun _ _ _ _ _ _=>nV (fun _=>rfl))
  .exact qE (f:=284) (C:=287) KX G (Nu _) (pD _) (fun _ _ _ _ _ _=>Bv (fun _ _ _ _ _=>rfl))
  .exact qE (f:=305) (C:=339) KX G (NX _) (fB _) (fun _ _ _ _ _ _=>Bv (fun _ _ _ _ _=>rfl))
  .exact j0 (f:=312) (C:=339) KX G (QH _) (fB _) (fun _ _ _ _ _ _=>gP (fun _ _ _=>rfl))
  .exact j0 (f:=317) (C:=339) KX G (Qn _) (fB _) (fun _ _ _ _ _ _=>jK (fun _ _=>rfl))
  .exact j0 (f:=322) (C:=339) KX G (Qk _) (fB _) (fun _ _ _ _ _ _=>jK (fun _ _=>rfl))
  .exact j0 (f:=329) (C:=339) KX G (QO _) (fB _) (fun _ _ _ _ _ _=>gP (fun _ _ _=>rfl))
  .exact j0 (f:=336) (C:=339) KX G (QP _) (fB _) (fun _ _ _ _ _ _=>nV (fun _=>rfl))
  .exact aM (f:=350) KX G (Qv _) (fun _ _ _ _ _ _=>gP (fun _ _ _=>rfl))
  .exact aM (f:=357) KX G (Rf _) (fun _ _ _ _ _ _=>lY (fun _ _ _ _=>rfl))
  .exact aM (f:=364) KX G (Rg _) (fun _ _ _ _ _ _=>lY (fun _ _ _ _=>rfl))
  .exact aM (f:=371) KX G (QE _) (fun _ _ _ _ _ _=>gP (fun _ _ _=>rfl))
  .exact aM (f:=378) KX G (Qs _) (fun _ _ _ _ _ _=>gP (fun _ _ _=>rfl))
  .exact aM (f:=385) KX G (QV _) (fun _ _ _ _ _ _=>gP (fun _ _ _=>rfl))
  .exact aM (f:=399) KX G (Q5 _) (fun _ _ _ _ _ _=>lY (fun _ _ _ _=>rfl))
  .exact aM (f:=406) KX G (Ra _) (fun _ _ _ _ _ _=>gP (fun _ _ _=>rfl))
  .exact aM (f:=413) KX G (Qp _) (fun _ _ _ _ _ _=>lY (fun _ _ _ _=>rfl))
  .exact aM (f:=432) KX G (Qr _) (fun _ _ _ _ _ _=>lY (fun _ _ _ _=>rfl))
  .exact aM (f:=439) KX G (Qj _) (fun _ _ _ _ _ _=>jK (fun _ _=>rfl))
  .exact aM (f:=453) KX G (QB _) (fun _ _ _ _ _ _=>lY (fun _ _ _ _=>rfl))
  .exact aM (f:=460) KX G (QR _) (fun _ _ _ _ _ _=>gP (fun _ _ _=>rfl))
  .exact aM (f:=474) KX G (Qt _) (fun _ _ _ _ _ _=>lY (fun _ _ _ _=>rfl))
  .exact aM (f:=481) KX G (QF _) (fun _ _ _ _ _ _=>gP (fun _ _ _=>rfl))
  .exact aM (f:=495) KX G (QD _) (fun _ _ _ _ _ _=>gP (fun _ _ _=>rfl))
  .exact aM (f:=502) KX G (Q9 _) (fun _ _ _ _ _ _=>gP (fun _ _ _=>rfl))
  .exact aM (f:=509) KX G (QX _) (fun _ _ _ _ _ _=>gP (fun _ _ _=>rfl))
  .exact aM (f:=516) KX G (Qy _) (fun _ _ _ _ _ _=>lY (fun _ _ _ _=>rfl))
  .exact aM (f:=523) KX G (QJ _) (fun _ _ _ _ _ _=>lY (fun _ _ _ _=>rfl))
  .exact aM (f:=530) KX G (Qx _) (fun _ _ _ _ _ _=>lY (fun _ _ _ _=>rfl))
  .exact aM (f:=535) KX G (Q4 _) (fun _ _ _ _ _ _=>G6 (fun _ _ _ _ _ _=>rfl))
  .exact aM (f:=542) KX G (Rk _) (fun _ _ _ _ _ _=>Bv (fun _ _ _ _ _=>rfl))
  .exact aM (f:=549) KX G (Ri _) (fun _ _ _ _ _ _=>lY (fun _ _ _ _=>rfl))
  .exact aM (f:=554) KX G (Qu _) (fun _ _ _ _ _ _=>Bv (fun _ _ _ _ _=>rfl))
  .exact qE (f:=571) (C:=609) KX G (Qm _) (ja _) (fun _ _ _ _ _ _=>nV (fun _=>rfl))
  .exact j0 (f:=578) (C:=609) KX G (Rb _) (ja _) (fun _ _ _ _ _ _=>G6 (fun _ _ _ _ _ _=>rfl))
  .exact j0 (f:=585) (C:=609) KX G (Q3 _) (ja _) (fun _ _ _ _ _ _=>jK (fun _ _=>rfl))
  .exact j0 (f:=606) (C:=609) KX G (QL _) (ja _) (fun _ _ _ _ _ _=>nV (fun _=>rfl))
  .exact aM (f:=620) KX G (QN _) (fun _ _ _ _ _ _=>gP (fun _ _ _=>rfl))
  .exact aM (f:=627) KX G (Q6 _) (fun _ _ _ _ _ _=>jK (fun _ _=>rfl))
  .exact aM (f:=632) KX G (Ql _) (fun _ _ _ _ _ _=>nV (fun _=>rfl))
  .exact aM (f:=637) KX G (Qq _) (fun _ _ _ _ _ _=>nV (fun _=>rfl))
  .exact aM (f:=644) KX G (QZ _) (fun _ _ _ _ _ _=>gP (fun _ _ _=>rfl))
  .exact aM (f:=651) KX G (QK _) (fun _ _ _ _ _ _=>jK (fun _ _=>rfl))
  .exact aM (f:=658) KX G (QA _) (fun _ _ _ _ _ _=>nV (fun _=>rfl))
 case B=>
  exact Jc KX G
theorem walk{l:OpenLaw}{q:Program}{lo:List Str}{XP:(Str->Option Value)->Heap->Prop}{YP:World->Heap->Prop}{d:DefRec}(hn:l.most=some 63)(hdf:d.params.defaults=[])(hY:∀(w:World)(h:Heap),YP w h->(K w.params).In h)(hd:d.name= "law"):WalkO q lo XP YP l.row.toRowW d [] (fun f vs=>PySem.call f vs):=
 BN (T:=T) (Ds:=Ds) (i:=54) (k:=45) Qh rfl hn hdf hY hd facts (by exact⟨rfl,by decide,by decide⟩) fun ns hl=>Jo ns
end K14
open PySem PySem.W PyProof.Rows
set_option maxRecDepth 100000 in
set_option maxHeartbeats 0 in
theorem PySem.Challenge.cw_twomeet_k14_shelves_apart_holds : PySem.Challenge.rw_twomeet_k14_shelves_apart.Holds := by
 w_on;o_law
 refine holds_open (q:=K14.view) (loose:=K14.loose) (Xt:=K14.seen) (XP:=XL K14.view []) (Yf:=Hook.obs K14.H) (Ya:=Hook.val K14.H) (YP:=Hook.says K14.H) (N:=12000) K14.left (Hook.of K14.H) (Hook.keeps K14.H) (fun s e=>xl_of s (Bool.and_eq_true_iff.mp e).1) XL.keeps (by rfl) (by rfl) (by rfl) (fun s e=>recFacts_of (Bool.and_eq_true_iff.mp e).2) (by rfl) (by assumption) (by decide+kernel) ⟨rfl,rfl,rfl,rfl,rfl,by decide+kernel⟩ ?hw ?hc
 case hw=>w_witness2
 exact K14.walk (l:=PySem.Challenge.rw_twomeet_k14_shelves_apart) rfl rfl (fun w h Y=>kIn_of Y) rfl

