import PyProof.Rows.All
import Wide.All
import OpenK.AllK
import Wide.FinOn
import Lean
import PyProof.EqAt
import PyProof.EqKinds
import PyProof.TupleCall
import PySem.Challenge.RW_twomeet_k02_gaps_met
set_option Elab.async false
set_option linter.all false
set_option maxRecDepth 100000
set_option Elab.async false
set_option linter.all false
set_option maxRecDepth 100000
namespace L2
open PySem PySem.Spec PyProof.Rows

/-- a key: an int or a str -/
abbrev Key := Sum Int Str
def keyIs : Key → Value → Bool
  | .inl k, v => Value.isInt k v
  | .inr x, v => Value.isStrOf x v
def keyH (w : World) : Key → Int
  | .inl k => hashInt k
  | .inr x => hashStr w x
theorem keyIs_shape : ∀ {k : Key} {v : Value}, keyIs k v = true → (∃ i t, k = Sum.inl i ∧ v = Value.int i t) ∨ (∃ x t, k = Sum.inr x ∧ v = Value.str x t)
  | .inl i, v, h => by
    obtain ⟨t, e⟩ := Value.isInt_shape (k := i) (v := v) h
    exact .inl ⟨i, t, rfl, e⟩
  | .inr x, v, h => by
    obtain ⟨t, e⟩ := Value.isStrOf_shape (x := x) (v := v) h
    exact .inr ⟨x, t, rfl, e⟩
theorem keyIs_int (i : Int) (t : Tok) : keyIs (.inl i) (.int i t) = true := by simp [keyIs, Value.isInt]
theorem keyIs_str (x : Str) (t : Tok) : keyIs (.inr x) (.str x t) = true := by simp [keyIs, Value.isStrOf]
theorem key_ll (a b : Int) : decide ((Sum.inl a : Key) = Sum.inl b) = (a == b) := by
  by_cases e : a = b
  · subst e; simp
  · have h : ¬ (Sum.inl a : Key) = Sum.inl b := fun q => e (Sum.inl.inj q)
    rw [decide_eq_false h]
    exact (beq_eq_false_iff_ne.mpr e).symm
theorem key_rr (a b : Str) : decide ((Sum.inr a : Key) = Sum.inr b) = decide (a = b) := by
  by_cases e : a = b
  · subst e; simp
  · have h : ¬ (Sum.inr a : Key) = Sum.inr b := fun q => e (Sum.inr.inj q)
    rw [decide_eq_false h, decide_eq_false e]
theorem key_lr (a : Int) (b : Str) : decide ((Sum.inl a : Key) = Sum.inr b) = false := decide_eq_false (fun q => nomatch q)
theorem key_rl (a : Str) (b : Int) : decide ((Sum.inr a : Key) = Sum.inl b) = false := decide_eq_false (fun q => nomatch q)

def mixKind (prog : Program) (w : World) : PySem.KeyKind prog w Key where
  is := keyIs
  hash := keyH w
  inj := fun v a b ha hb => by
    rcases keyIs_shape ha with ⟨i, t, rfl, rfl⟩ | ⟨x, t, rfl, rfl⟩
    · rcases keyIs_shape hb with ⟨j, u, rfl, e⟩ | ⟨y, u, rfl, e⟩
      · injection e with e1 _; rw [e1]
      · exact nomatch e
    · rcases keyIs_shape hb with ⟨j, u, rfl, e⟩ | ⟨y, u, rfl, e⟩
      · exact nomatch e
      · injection e with e1 _; rw [e1]
  byValue := fun k v h => by
    rcases keyIs_shape h with ⟨i, t, rfl, rfl⟩ | ⟨x, t, rfl, rfl⟩ <;> rfl
  pyHash := fun hv h => by
    rcases keyIs_shape hv with ⟨i, t, rfl, rfl⟩ | ⟨x, t, rfl, rfl⟩
    · exact wpAny_pyHash_int h
    · exact wpAny_pyHash_str h
  eqBool := fun hu hv h => by
    rcases keyIs_shape hu with ⟨i, t, rfl, rfl⟩ | ⟨x, t, rfl, rfl⟩
    · rcases keyIs_shape hv with ⟨j, u, rfl, rfl⟩ | ⟨y, u, rfl, rfl⟩
      · rw [key_ll] at h; exact wpAny_eqBool_int h
      · rw [key_lr] at h; exact SeqAt.EqAt.int_str i t y u _ _ _ _ h
    · rcases keyIs_shape hv with ⟨j, u, rfl, rfl⟩ | ⟨y, u, rfl, rfl⟩
      · rw [key_rl] at h; exact SeqAt.EqAt.str_int x t j u _ _ _ _ h
      · rw [key_rr] at h; exact wpAny_eqBool_str h
  «strs» := fun k x t v h => by
    rcases keyIs_shape h with ⟨i, u, rfl, e⟩ | ⟨y, u, rfl, e⟩
    · exact nomatch e
    · injection e with e1 _
      subst e1
      cases v <;> rfl

theorem mixKind_int (prog : Program) (w : World) (i : Int) (t : Tok) : (mixKind prog w).is (.inl i) (.int i t) = true := keyIs_int i t
theorem mixKind_str (prog : Program) (w : World) (x : Str) (t : Tok) : (mixKind prog w).is (.inr x) (.str x t) = true := keyIs_str x t
end L2

namespace L2
open PySem PySem.Spec PyProof.Rows

/-- a value, without the heap -/
inductive V where
  | non | bl (b : Bool) | int (i : Int) | str (x : Str) | byt (b : Array UInt8) | flt (b : UInt64) | ref (a : Addr) | ty (n : String)
  deriving DecidableEq

def RelV : V → Value → Prop
  | .non, u => u = Value.none
  | .bl b, u => u = Value.bool b
  | .int i, u => ∃ t, u = Value.int i t
  | .str x, u => ∃ t, u = Value.str x t
  | .byt b, u => ∃ t, u = Value.bytes b t
  | .flt b, u => ∃ t, u = Value.float b t
  | .ref a, u => u = Value.ref a
  | .ty n, u => u = Value.type n

abbrev Vals : List V → List Value → Prop := Paired RelV
theorem Vals.length {xs : List V} {us : List Value} (r : Vals xs us) : xs.length = us.length := Paired.length r
theorem Vals.get : ∀ {xs : List V} {us : List Value} {i : Nat} {x : V}, Vals xs us → xs[i]? = some x → ∃ u, us[i]? = some u ∧ RelV x u
  | _, _, _, _, .nil, e => by simp at e
  | _, _, 0, _, .cons r _, e => by simp at e; subst e; exact ⟨_, rfl, r⟩
  | _, _, i + 1, x, .cons _ t, e => by
    obtain ⟨u, h1, h2⟩ := Vals.get (i := i) (x := x) t (by simpa using e)
    exact ⟨u, by simpa using h1, h2⟩
theorem Vals.set {x : V} {u : Value} (r : RelV x u) : ∀ {xs : List V} {us : List Value} (i : Nat), Vals xs us → Vals (xs.set i x) (us.set i u)
  | _, _, _, .nil => .nil
  | _, _, 0, .cons _ t => .cons r t
  | _, _, i + 1, .cons q t => .cons q (Vals.set r i t)
theorem Vals.append : ∀ {xs ys : List V} {us ws : List Value}, Vals xs us → Vals ys ws → Vals (xs ++ ys) (us ++ ws)
  | _, _, _, _, .nil, s => s
  | _, _, _, _, .cons r t, s => .cons r (Vals.append t s)
theorem Vals.take : ∀ {xs : List V} {us : List Value} (n : Nat), Vals xs us → Vals (xs.take n) (us.take n)
  | _, _, 0, _ => .nil
  | _, _, _ + 1, .nil => .nil
  | _, _, n + 1, .cons r t => .cons r (Vals.take n t)
theorem Vals.drop : ∀ {xs : List V} {us : List Value} (n : Nat), Vals xs us → Vals (xs.drop n) (us.drop n)
  | _, _, 0, r => r
  | _, _, _ + 1, .nil => .nil
  | _, _, n + 1, .cons _ t => Vals.drop n t
theorem Vals.none_of : ∀ {xs : List V} {us : List Value} {i : Nat}, Vals xs us → xs[i]? = none → us[i]? = none := fun {xs us i} r e => by
  have h1 := r.length
  have h2 : xs.length ≤ i := List.getElem?_eq_none_iff.mp e
  exact List.getElem?_eq_none_iff.mpr (by omega)

def RelO : Option V → Option Value → Prop
  | some v, some u => RelV v u
  | none, none => True
  | _, _ => False
def KV {κ : Type} : List (κ × V) → List (κ × Value) → Prop := Paired fun (p : κ × V) (q : κ × Value) => p.1 = q.1 ∧ RelV p.2 q.2

/-- a key of a dict (00_mix): an int or a text -/
def kV : Key → V
  | .inl i => .int i
  | .inr x => .str x

/-- what stands at a tracked address -/
inductive HO where
  /-- a list -/
  | lst (xs : List V)
  /-- a tuple (never changes) -/
  | tup (xs : List V)
  /-- a dict whose keys are ints and texts; one whose keys are tuples of ints and texts (the empty one is both) -/
  | dK (kvs : List (Key × V)) | dT (kvs : List (List Key × V))
  /-- a set of ints: its members, its size -/
  | set (S : Int → Bool) (n : Nat)
  /-- an instance of the class at C, its dict at dx, its attributes -/
  | ins (C dx : Addr) (fs : List (Str × V))
  /-- the dict of the instance at x -/
  | own (x : Addr)
  /-- the dict of an exception -/
  | xd (fs : List (Str × V))
  /-- a bound method, f of x -/
  | met (f x : Addr)
  /-- a range object lo, lo + 1, .. below hi -/
  | rng (lo hi : Int)
  /-- a thing that is known to the object (the script; a dict while a loop walks it): read, never written while it is so -/
  | frz (o : Obj) (u : HO)
  /-- a code object's table -/
  | tbl (ps : Array Value)
  /-- any other thing, by what is true of its one object (a def of one's own: SetO a S n := HO.ext fun h => ..) -/
  | ext (φ : Heap → Prop)

abbrev Hp := Addr → Option HO
def upd (H : Hp) (a : Addr) (o : HO) : Hp := fun b => if b = a then some o else H b
theorem upd_same {H : Hp} {a : Addr} {o : HO} : upd H a o a = some o := by unfold upd; rw [if_pos rfl]
theorem upd_ne {H : Hp} {a b : Addr} {o : HO} (h : b ≠ a) : upd H a o b = H b := by unfold upd; rw [if_neg h]
/-- two objects of different content stand apart -/
theorem ne_of {H : Hp} {a b : Addr} {o u : HO} (h : H a = some o) (h' : H b = some u) (d : o ≠ u) : a ≠ b := by
  intro e; subst e; rw [h] at h'; exact d (Option.some.inj h')
theorem ne_of_none {H : Hp} {a b : Addr} {o : HO} (h : H a = some o) (h' : H b = none) : a ≠ b := by
  intro e; subst e; rw [h] at h'; cases h'

section
variable (P : Program) (w : World)
def ObjOk (H : Hp) (h : Heap) (a : Addr) : HO → Prop
  | .lst xs => xs.length ≤ sizeLine ∧ ∃ (its : List Value) (n : Nat), Vals xs its ∧ h.get? a = some { cls := .type "list", data := .seq its.toArray n }
  | .tup xs => xs.length ≤ sizeLine ∧ ∃ its : List Value, Vals xs its ∧ IsTup h a its.toArray
  | .dK kvs => kvs.length ≤ sizeLine ∧ (a == sysModules) = false ∧ ∃ vs, KV kvs vs ∧ h.DictOf (mixKind P w) a vs
  | .dT kvs => kvs.length ≤ sizeLine ∧ (a == sysModules) = false ∧ ∃ xs : List (List Key × Addr × Value),
      Paired (fun (p : List Key × V) (q : List Key × Addr × Value) => p.1 = q.1 ∧ H q.2.1 = some (.tup (p.1.map kV)) ∧ RelV p.2 q.2.2) kvs xs ∧
      ∃ o es ep, h.get? a = some o ∧ o.ExactDict ∧ o.data = .dict es ep ∧ es.toList = xs.map (entryOfKey (tupleKind (mixKind P w))) ∧ (xs.map (·.1)).Nodup
  | .set S n => h.SetOf (intKind P w) a S n
  | .ins C dx fs => H dx = some (.own a) ∧ fs.length ≤ 1000 ∧ dx ≠ a ∧ h.get? a = some (PySem.W.instObj C dx) ∧
      ∃ mA, h.Ns1 dx mA ∧ (∀ f, RelO (fs.lookup f) (mA f)) ∧ PySem.Within mA (fs.map (·.1))
  | .own _ => ∃ o, h.get? a = some o
  | .xd fs => ∃ mA, h.Ns1 a mA ∧ ∀ f, RelO (fs.lookup f) (mA f)
  | .rng lo hi => ∃ t u v, h.get? a = some { cls := .type "range", data := .fields #[.int lo t, .int hi u, .int 1 v] }
  | .frz o u => h.get? a = some o ∧ ObjOk H h a u
  | .tbl ps => h.get? a = some { cls := .none, data := .fields ps }
  | .met f x => h.get? a = some (PySem.W.methodObj (.ref f) (.ref x))
  | .ext φ => φ h ∧ (∃ o, h.get? a = some o) ∧ ∀ h1 h2 : Heap, φ h1 → (∀ o, h1.get? a = some o → h2.get? a = some o) → φ h2
/-- the abstract heap is held -/
def HOk (H : Hp) (h : Heap) : Prop := ∀ a o, H a = some o → ObjOk P w H h a o
end

section
variable {P : Program} {w : World} {H H' : Hp} {h h' : Heap} {a : Addr} {o : HO}
theorem ObjOk.lt (x : ObjOk P w H h a o) : a < h.objs.size := by
  cases o with
  | lst xs => obtain ⟨_, _, _, _, e⟩ := x; exact Heap.lt_size e
  | tup xs => obtain ⟨_, _, _, p⟩ := x; exact p.lt
  | dK kvs => obtain ⟨_, _, _, _, o, _, _, e, _⟩ := x; exact Heap.lt_size e
  | dT kvs => obtain ⟨_, _, _, _, o, _, _, e, _⟩ := x; exact Heap.lt_size e
  | set S n => obtain ⟨o, _, _, _, e, _⟩ := x; exact Heap.lt_size e
  | ins C dx fs => obtain ⟨_, _, _, e, _⟩ := x; exact Heap.lt_size e
  | own y => obtain ⟨_, e⟩ := x; exact Heap.lt_size e
  | xd fs => obtain ⟨_, ⟨_, _, _, e, _⟩, _⟩ := x; exact Heap.lt_size e
  | rng lo hi => obtain ⟨_, _, _, e⟩ := x; exact Heap.lt_size e
  | frz ob u => obtain ⟨e, _⟩ := x; exact Heap.lt_size e
  | tbl ps => exact Heap.lt_size (show h.get? a = some _ from x)
  | met f y => exact Heap.lt_size (show h.get? a = some _ from x)
  | ext φ => obtain ⟨_, ⟨_, e⟩, _⟩ := x; exact Heap.lt_size e
theorem Paired.mapP {α β : Type} {F G : α → β → Prop} : ∀ {l₁ : List α} {l₂ : List β}, Paired F l₁ l₂ → (∀ a b, F a b → G a b) → Paired G l₁ l₂
  | _, _, .nil, _ => .nil
  | _, _, .cons r t, f => .cons (f _ _ r) (Paired.mapP t f)
/-- what an object's description leans on: its own object, its own dict, the tuples -/
theorem ObjOk.stay (x : ObjOk P w H h a o) (k : ∀ b u, (b = a ∨ H b = some (.own a)) → h.get? b = some u → h'.get? b = some u)
    (ho : ∀ b, H b = some (.own a) → H' b = some (.own a)) (ht : ∀ b xs, H b = some (.tup xs) → H' b = some (.tup xs)) : ObjOk P w H' h' a o := by
  induction o with
  | lst xs => obtain ⟨z, its, n, r, e⟩ := x; exact ⟨z, its, n, r, k _ _ (.inl rfl) e⟩
  | tup xs => obtain ⟨z, its, r, ob, e, c⟩ := x; exact ⟨z, its, r, ob, k _ _ (.inl rfl) e, c⟩
  | dK kvs => obtain ⟨z, y, vs, r, ob, es, ep, e, c⟩ := x; exact ⟨z, y, vs, r, ob, es, ep, k _ _ (.inl rfl) e, c⟩
  | dT kvs =>
    obtain ⟨z, y, xs, r, ob, es, ep, e, c⟩ := x
    exact ⟨z, y, xs, Paired.mapP r fun p q z => ⟨z.1, ht _ _ z.2.1, z.2.2⟩, ob, es, ep, k _ _ (.inl rfl) e, c⟩
  | set S n => obtain ⟨ob, es, ep, t, e, c⟩ := x; exact ⟨ob, es, ep, t, k _ _ (.inl rfl) e, c⟩
  | ins C dx fs =>
    obtain ⟨d, z, ne, e, mA, ⟨od, es, ep, e2, c⟩, r⟩ := x
    exact ⟨ho _ d, z, ne, k _ _ (.inl rfl) e, mA, ⟨od, es, ep, k _ _ (.inr d) e2, c⟩, r⟩
  | own y => obtain ⟨ob, e⟩ := x; exact ⟨ob, k _ _ (.inl rfl) e⟩
  | xd fs => obtain ⟨mA, ⟨od, es, ep, e, c⟩, r⟩ := x; exact ⟨mA, ⟨od, es, ep, k _ _ (.inl rfl) e, c⟩, r⟩
  | rng lo hi => obtain ⟨t, u, v, e⟩ := x; exact ⟨t, u, v, k _ _ (.inl rfl) e⟩
  | frz ob u ih => obtain ⟨e, q⟩ := x; exact ⟨k _ _ (.inl rfl) e, ih q⟩
  | tbl ps =>
    have e : h.get? a = some { cls := .none, data := .fields ps } := x
    show h'.get? a = some { cls := .none, data := .fields ps }
    exact k a _ (.inl rfl) e
  | met f y =>
    have e : h.get? a = some (PySem.W.methodObj (.ref f) (.ref y)) := x
    show h'.get? a = some (PySem.W.methodObj (.ref f) (.ref y))
    exact k a _ (.inl rfl) e
  | ext φ => obtain ⟨p, ⟨o, e⟩, st⟩ := x; exact ⟨st _ _ p fun o q => k _ _ (.inl rfl) q, ⟨o, k _ _ (.inl rfl) e⟩, st⟩
theorem HOk.lt (x : HOk P w H h) (e : H a = some o) : a < h.objs.size := (x a o e).lt
theorem HOk.fresh (x : HOk P w H h) (e : h.objs.size ≤ a) : H a = none := by
  cases q : H a with
  | none => rfl
  | some u => exact absurd (Nat.lt_of_lt_of_le (x.lt q) e) (Nat.lt_irrefl _)
/-- every object of the heap is kept -/
theorem HOk.kept (x : HOk P w H h) (k : ∀ b u, h.get? b = some u → h'.get? b = some u) : HOk P w H h' := fun a o e =>
  (x a o e).stay (fun b u _ q => k b u q) (fun _ q => q) fun _ _ q => q
/-- a new object is laid and tracked -/
theorem HOk.laid (x : HOk P w H h) (k : ∀ b u, h.get? b = some u → h'.get? b = some u) (hp : h.objs.size ≤ a) (new : ObjOk P w (upd H a o) h' a o) : HOk P w (upd H a o) h' := fun b u e => by
  have hn := x.fresh hp
  by_cases hb : b = a
  · subst hb; rw [upd_same] at e; cases e; exact new
  · rw [upd_ne hb] at e
    exact (x b u e).stay (fun c v _ q => k c v q) (fun c q => by rw [upd_ne (ne_of_none q hn)]; exact q) fun c xs q => by rw [upd_ne (ne_of_none q hn)]; exact q
end

/-- what may be read as u: it is u, or a known u -/
def Rd (H : Hp) (a : Addr) (u : HO) : Prop := H a = some u ∨ ∃ o, H a = some (.frz o u)
theorem Rd.of {H : Hp} {a : Addr} {u : HO} (h : H a = some u) : Rd H a u := .inl h
theorem Rd.ok {P : Program} {w : World} {H : Hp} {h : Heap} {a : Addr} {u : HO} (r : Rd H a u) (x : HOk P w H h) : ObjOk P w H h a u := by
  rcases r with r | ⟨o, r⟩
  · exact x a u r
  · obtain ⟨_, q⟩ := x a _ r
    exact q
/-- what may be written -/
def Mut : Option HO → Prop
  | some (.lst _) => True
  | some (.dK _) => True
  | some (.dT _) => True
  | some (.set _ _) => True
  | some (.ins _ _ _) => True
  | some (.ext _) => True
  | _ => False
section
variable {P : Program} {w : World} {H : Hp} {h h' : Heap} {x e : Addr} {o' : HO}
/-- the object at e is changed: x itself, or the dict of the instance x -/
theorem HOk.write (ok : HOk P w H h) (mu : Mut (H x)) (he : e = x ∨ H e = some (.own x)) (k : ∀ b u, b ≠ e → h.get? b = some u → h'.get? b = some u) (heo : ∃ u, h'.get? e = some u)
    (new : ObjOk P w (upd H x o') h' x o') : HOk P w (upd H x o') h' := fun b u q => by
  have nown : ∀ c y, H c = some (.own y) → c ≠ x := fun c y r z => by subst z; rw [r] at mu; exact mu
  have ntup : ∀ c xs, H c = some (.tup xs) → c ≠ x := fun c xs r z => by subst z; rw [r] at mu; exact mu
  by_cases hb : b = x
  · subst hb; rw [upd_same] at q; cases q; exact new
  · rw [upd_ne hb] at q
    by_cases hbe : b = e
    · have q' : H b = some (.own x) := by
        rcases he with z | z
        · exact absurd (hbe.trans z) hb
        · rw [hbe]; exact z
      rw [q] at q'; cases q'
      obtain ⟨v, hv⟩ := heo
      exact ⟨v, by rw [hbe]; exact hv⟩
    · refine (ok b u q).stay (fun c v hc r => k c v ?_ r) (fun c r => by rw [upd_ne (nown c b r)]; exact r) fun c xs r => by rw [upd_ne (ntup c xs r)]; exact r
      rcases hc with rfl | hc
      · exact hbe
      · rintro rfl
        rcases he with z | z
        · exact nown c b hc z
        · rw [hc] at z; cases z; exact hb rfl
end

structure Un (fs ex : List Addr) (H H' : Hp) (h h' : Heap) : Prop where
  keep : ∀ b o, h.get? b = some o → H b = none → b ∉ fs → b ∉ ex → h'.get? b = some o
  slot : ∀ b o, h.get? b = some o → H b = none → b ∈ fs → b ∉ ex → ∃ sl, h'.get? b = some { o with slots := sl }
  free : ∀ b o, h.get? b = some o → H b = none → b ∉ ex → H' b = none
  there : ∀ b o, h.get? b = some o → b ∉ ex → ∃ o', h'.get? b = some o'
  tups : ∀ b xs, H b = some (.tup xs) → H' b = some (.tup xs)
  frzs : ∀ b o u, H b = some (.frz o u) → H' b = some (.frz o u)
  tbls : ∀ b ps, H b = some (.tbl ps) → ∃ more, H' b = some (.tbl (ps ++ more))
section
variable {fs fs' ex ex' : List Addr} {H H1 H2 : Hp} {h h1 h2 h' : Heap} {a x e : Addr} {o : HO}
theorem Un.any (u : Un fs ex H H1 h h1) {b : Addr} {ob : Obj} (q : h.get? b = some ob) (n : H b = none) (hx : b ∉ ex) : ∃ sl, h1.get? b = some { ob with slots := sl } := by
  by_cases hb : b ∈ fs
  · exact u.slot b ob q n hb hx
  · exact ⟨ob.slots, u.keep b ob q n hb hx⟩
theorem Un.trans (a : Un fs ex H H1 h h1) (b : Un fs ex H1 H2 h1 h2) : Un fs ex H H2 h h2 where
  keep := fun c ob q n hc hx => b.keep c ob (a.keep c ob q n hc hx) (a.free c ob q n hx) hc hx
  slot := fun c ob q n hc hx => by
    obtain ⟨sl, e1⟩ := a.slot c ob q n hc hx
    obtain ⟨sl', e2⟩ := b.slot c _ e1 (a.free c ob q n hx) hc hx
    exact ⟨sl', e2⟩
  free := fun c ob q n hx => by
    obtain ⟨o', e1⟩ := a.there c ob q hx
    exact b.free c o' e1 (a.free c ob q n hx) hx
  there := fun c ob q hx => by
    obtain ⟨o', e1⟩ := a.there c ob q hx
    exact b.there c o' e1 hx
  tups := fun c xs q => b.tups c xs (a.tups c xs q)
  frzs := fun c ob xs q => b.frzs c ob xs (a.frzs c ob xs q)
  tbls := fun c ps q => by
    obtain ⟨m1, e1⟩ := a.tbls c ps q
    obtain ⟨m2, e2⟩ := b.tbls c _ e1
    exact ⟨m1 ++ m2, by rw [e2, Array.append_assoc]⟩
theorem Un.kept (k : ∀ b u, h.get? b = some u → h'.get? b = some u) : Un fs ex H H h h' :=
  ⟨fun b ob q _ _ _ => k b ob q, fun b ob q _ _ _ => ⟨ob.slots, k b ob q⟩, fun _ _ _ n _ => n, fun b ob q _ => ⟨ob, k b ob q⟩, fun _ _ q => q, fun _ _ _ q => q, fun _ ps q => ⟨#[], by rw [q]; simp⟩⟩
theorem Un.refl : Un fs ex H H h h := Un.kept fun _ _ q => q
theorem Un.laid (k : ∀ b u, h.get? b = some u → h'.get? b = some u) (hp : h.objs.size ≤ a) (hn : H a = none) : Un fs ex H (upd H a o) h h' where
  keep := fun b u q _ _ _ => k b u q
  slot := fun b u q _ _ _ => ⟨u.slots, k b u q⟩
  free := fun b u q n _ => by rw [upd_ne (Nat.ne_of_lt (Nat.lt_of_lt_of_le (Heap.lt_size q) hp))]; exact n
  there := fun b u q _ => ⟨u, k b u q⟩
  tups := fun b xs q => by rw [upd_ne (ne_of_none q hn)]; exact q
  frzs := fun b u xs q => by rw [upd_ne (ne_of_none q hn)]; exact q
  tbls := fun b ps q => ⟨#[], by rw [upd_ne (ne_of_none q hn), q]; simp⟩
theorem Un.write (mu : Mut (H x)) (he : e = x ∨ H e = some (.own x)) (k : ∀ b u, b ≠ e → h.get? b = some u → h'.get? b = some u) (heo : ∃ u, h'.get? e = some u) : Un fs ex H (upd H x o) h h' := by
  have hx : ∀ b, H b = none → b ≠ x := fun b n z => by subst z; rw [n] at mu; exact mu
  have hb : ∀ b, H b = none → b ≠ e := fun b n z => by
    subst z
    rcases he with r | r
    · exact hx b n r
    · rw [n] at r; cases r
  have hm : ∀ b u, H b = some u → ¬ Mut (some u) → b ≠ x := fun b u q nm z => by subst z; rw [q] at mu; exact nm mu
  refine ⟨fun b u q n _ _ => k b u (hb b n) q, fun b u q n _ _ => ⟨u.slots, k b u (hb b n) q⟩, fun b u q n _ => by rw [upd_ne (hx b n)]; exact n, fun b u q _ => ?_,
    fun b xs q => by rw [upd_ne (hm b _ q fun z => z)]; exact q, fun b u xs q => by rw [upd_ne (hm b _ q fun z => z)]; exact q, fun b ps q => ⟨#[], by rw [upd_ne (hm b _ q fun z => z), q]; simp⟩⟩
  by_cases hbe : b = e
  · subst hbe; exact heo
  · exact ⟨u, k b u hbe q⟩
theorem Un.mono (u : Un fs ex H H1 h h1) (hs : ∀ b ∈ fs, b ∈ fs') (hx : ∀ b ∈ ex, b ∈ ex') : Un fs' ex' H H1 h h1 :=
  ⟨fun b ob q n hb he => u.keep b ob q n (fun z => hb (hs b z)) fun z => he (hx b z), fun _ _ q n _ he => u.any q n fun z => he (hx _ z), fun b ob q n he => u.free b ob q n fun z => he (hx b z), fun b ob q he => u.there b ob q fun z => he (hx b z), u.tups, u.frzs, u.tbls⟩
end

def trk (h : Heap) (H : Hp) : List Addr := (List.range h.objs.size).filter fun a => (H a).isSome
def hidT (h : Heap) (H : Hp) : Heap := PySem.W.hideAll h (trk h H)
theorem hidT_size (h : Heap) (H : Hp) : (hidT h H).objs.size = h.objs.size := PySem.W.hideAll_size _ _
theorem hidT_get {h : Heap} {H : Hp} {b : Addr} {o : Obj} (e : h.get? b = some o) (n : H b = none) : (hidT h H).get? b = some o :=
  PySem.W.hideAll_get _ e fun hm => by
    have q : (H b).isSome = true := (List.mem_filter.mp hm).2
    rw [n] at q; simp at q
theorem of_hidT {h : Heap} {H : Hp} {b : Addr} {o : Obj} (e : (hidT h H).get? b = some o) : h.get? b = some o ∧ H b = none := by
  have e' : h.get? b = some o := PySem.W.of_hideAll (trk h H) e
  refine ⟨e', ?_⟩
  cases q : H b with
  | none => rfl
  | some x =>
    have hm : b ∈ trk h H := List.mem_filter.mpr ⟨List.mem_range.mpr (Heap.lt_size e'), by simp [q]⟩
    have z : (hidT h H).get? b = none := PySem.W.hideAll_none (trk h H) hm
    rw [z] at e; cases e

def allNews (g h : Heap) (L : Addr) : List (Addr × Obj) := (List.range h.objs.size).filterMap fun a => if a = L ∨ (g.get? a).isSome = true then none else (h.get? a).map fun o => (a, o)
def rest (g h : Heap) (L d : Addr) : List (Addr × Obj) := (allNews g h L).filter fun p => decide (p.1 ≠ d)
end L2

namespace L2
open PySem PySem.Spec PyProof.Rows

/-- the module's facts, over the base: the heap at the law's entry without what is tracked there -/
structure Mod (K : PySem.W.Frag) (mg : Str → Option Value) (base : Heap) : Prop where
  kin : K.In base
  glob : base.Ns mainGlobals mg
  blt : ∃ mb, base.Ns builtinsNs mb ∧ ∀ x : Str, x ≠ "__name__" → mb x = bootBuiltins x
  nolimit : base.NoLimit

/-- the context: a def's body (or a comprehension's block) running. base: fixed through the whole law; s₀, H₀: the entry; outer: the frames whose slots others may change (a def's callers); stack: all frames that run;
   ex: iterators that were made ahead of the entry and are walked here (a comprehension's); fn: the names whose cells were made at the entry (a def: all; a comprehension's block: its own); calm: not within an except suite; pn: pins that every state bears; xe: what is wanted of an exception that leaves the code -/
structure Cx where
  prog : Program
  w : World
  K : PySem.W.Frag
  mg : Str → Option Value
  base : Heap
  A : Around
  N : List Str
  s₀ : Shared
  H₀ : Hp
  env : Env
  outer : List Env
  stack : List Env
  ex : List Addr
  fn : Str → Bool
  calm : Bool
  pn : List (Addr × Obj)
  xe : Value → Shared → Prop
/-- the callers' frames -/
def frs (l : List Env) : List Addr := l.filterMap (·.frame)
abbrev Cx.fs (X : Cx) : List Addr := frs X.outer

def Vis (sc : Scope) (x : Str) : Prop := sc.names.lookup x = some .local ∨ sc.names.lookup x = some .cell ∨ sc.names.lookup x = some .free
def Loc (sc : Scope) (x : Str) : Prop := sc.names.lookup x = some .local ∨ sc.names.lookup x = some .cell
def Look (env : Env) (h : Heap) (m : Str → Option Value) (x : Str) (u : Value) : Prop :=
  (env.kindOf x = some .local ∧ m x = some u) ∨ ((env.kindOf x = some .cell ∨ env.kindOf x = some .free) ∧ ∃ c, env.cells.lookup x = some c ∧ h.IsCell c (some u))

structure Cx.Ok (X : Cx) : Prop where
  mod : Mod X.K X.mg X.base
  kind : X.env.scope.kind = .function
  glob : X.env.globals = mainGlobals
  blt : X.env.builtins = builtinsNs
  above : X.s₀.heap.objs.size ≤ X.env.locals
  inj : ∀ x y c, X.env.cells.lookup x = some c → X.env.cells.lookup y = some c → x = y
  has : ∀ x, (X.env.kindOf x = some .cell ∨ X.env.kindOf x = some .free) → ∃ c, X.env.cells.lookup x = some c
  cab : ∀ x c, X.fn x = true → X.env.cells.lookup x = some c → X.s₀.heap.objs.size ≤ c
  hd : X.calm = true → X.A.handled = none
  frames : X.A.frames = some X.stack
  stk : X.stack = X.outer ∨ (X.stack = X.env :: X.outer ∧ X.env.frame = some X.env.locals)
  exf : ∀ b ∈ X.ex, b ≠ X.env.locals ∧ ∀ x c, X.env.cells.lookup x = some c → c ≠ b
  bs : ∀ b o, X.base.get? b = some o → X.s₀.heap.get? b = some o ∧ X.H₀ b = none
  bsz : X.base.objs.size ≤ X.s₀.heap.objs.size
  noex : ∀ b o, X.base.get? b = some o → b ∉ X.ex
  exfs : ∀ b ∈ X.ex, b ∉ X.fs
  funs : X.s₀.heap.FunFrames X.base X.outer
  frf : ∀ b ∈ X.fs, X.H₀ b = none

structure Inv (X : Cx) (pins : List (Addr × Obj)) (σ : List (Option V)) (H : Hp) (s : Shared) : Prop where
  ok : X.Ok
  os : s.os = X.s₀.os
  bare : AllBare s.gens
  base : Un X.fs X.ex X.H₀ H X.s₀.heap s.heap
  loc : ∃ m, s.heap.Ns X.env.locals m ∧ ∀ (i : Nat) (x : Str) (v : V), X.N[i]? = some x → σ[i]? = some (some v) → Vis X.env.scope x → ∃ u, RelV v u ∧ Look X.env s.heap m x u
  cell : ∀ x c, X.env.cells.lookup x = some c → ∃ v, s.heap.IsCell c v
  free : H X.env.locals = none
  freeC : ∀ x c, X.env.cells.lookup x = some c → H c = none
  pin : ∀ p ∈ X.pn ++ pins, s.heap.get? p.1 = some p.2 ∧ H p.1 = none ∧ p.1 ≠ X.env.locals ∧ p.1 ∉ X.fs ∧ ∀ v, p.2.data ≠ .cell v
  hok : HOk X.prog X.w H s.heap
  len : σ.length = X.N.length

section
variable {X : Cx} {pins : List (Addr × Obj)} {σ : List (Option V)} {H H' : Hp} {s : Shared} {h' : Heap}

theorem Cx.Ok.nofr (ok : X.Ok) {b : Addr} {o : Obj} (e : X.base.get? b = some o) : b ∉ X.fs := fun hb => by
  have := (ok.funs.mem hb).1
  rw [e] at this; cases this
theorem Inv.bs (I : Inv X pins σ H s) : ∀ b o, X.base.get? b = some o → s.heap.get? b = some o ∧ H b = none := fun b o e =>
  ⟨I.base.keep b o (I.ok.bs b o e).1 (I.ok.bs b o e).2 (I.ok.nofr e) (I.ok.noex b o e), I.base.free b o (I.ok.bs b o e).1 (I.ok.bs b o e).2 (I.ok.noex b o e)⟩
theorem Inv.bk (I : Inv X pins σ H s) : ∀ b o, X.base.get? b = some o → s.heap.get? b = some o := fun b o e => (I.bs b o e).1
theorem Inv.mod (I : Inv X pins σ H s) : Mod X.K X.mg X.base := I.ok.mod
theorem Inv.kIn (I : Inv X pins σ H s) : X.K.In s.heap := I.ok.mod.kin.keeps I.bk
theorem Inv.nolimit (I : Inv X pins σ H s) : s.heap.NoLimit := I.ok.mod.nolimit.keeps I.bk
/-- the frame over the base: for OpenK's rules (K.In X.base is I.mod.kin) -/
theorem Inv.fr (I : Inv X pins σ H s) : ∃ m, Fr X.base X.env.locals s.heap m :=
  let ⟨m, hn, _⟩ := I.loc
  ⟨m, hn, I.bk, Nat.le_trans I.ok.bsz I.ok.above⟩
theorem Inv.lt (I : Inv X pins σ H s) : X.env.locals < s.heap.objs.size := let ⟨_, hn, _⟩ := I.loc; hn.lt
theorem Inv.sz (I : Inv X pins σ H s) : X.s₀.heap.objs.size ≤ s.heap.objs.size := Nat.le_trans I.ok.above (Nat.le_of_lt I.lt)
theorem Inv.nofs (I : Inv X pins σ H s) {a : Addr} (h : s.heap.objs.size ≤ a) : a ∉ X.fs := fun hb => by
  obtain ⟨_, o, ho, _⟩ := I.ok.funs.mem hb
  exact absurd (Nat.lt_of_lt_of_le (Heap.lt_size ho) (Nat.le_trans I.sz h)) (Nat.lt_irrefl _)
theorem Inv.cne (I : Inv X pins σ H s) : ∀ x c, X.env.cells.lookup x = some c → c ≠ X.env.locals := fun x c e z => by
  obtain ⟨v, o, ho, hd⟩ := I.cell x c e
  obtain ⟨m, ⟨o', es, ep, ho', hd', _⟩, _⟩ := I.loc
  rw [z, ho'] at ho; cases ho; rw [hd'] at hd; cases hd
theorem Inv.funs (I : Inv X pins σ H s) : s.heap.FunFrames X.base X.outer := by
  have all : ∀ (l : List Env), (∀ b ∈ frs l, b ∈ X.fs) → X.s₀.heap.FunFrames X.base l → s.heap.FunFrames X.base l := by
    intro l
    induction l with
    | nil => intro _ _; trivial
    | cons env r ih =>
      intro hs hl
      obtain ⟨hk, ⟨L, o, hf, hn, ho, hd⟩, hr⟩ := hl
      have hL : L ∈ X.fs := hs L (by unfold frs; rw [List.filterMap_cons, hf]; exact List.mem_cons_self)
      obtain ⟨sl, e⟩ := I.base.slot L o ho (I.ok.frf L hL) hL fun z => I.ok.exfs L z hL
      exact ⟨hk, ⟨L, _, hf, hn, e, hd⟩, ih (fun b hb => hs b (by unfold frs; rw [List.filterMap_cons, hf]; exact List.mem_cons_of_mem _ hb)) hr⟩
  exact all X.outer (fun _ hb => hb) I.ok.funs

/-- the frames that run, for a call -/
theorem Inv.stack (I : Inv X pins σ H s) : s.heap.FunFrames X.base X.stack := by
  rcases I.ok.stk with e | ⟨e, hf⟩
  · rw [e]; exact I.funs
  · rw [e]
    obtain ⟨m, hn, _⟩ := I.loc
    refine .cons (by rw [I.ok.kind]; decide) hf hn ?_ I.funs
    exact Heap.get?_none_of_le (Nat.le_trans I.ok.bsz I.ok.above)
theorem Inv.stkSub (I : Inv X pins σ H s) : ∀ b ∈ frs X.stack, b ∈ X.env.locals :: X.fs := fun b hb => by
  rcases I.ok.stk with e | ⟨e, hf⟩
  · rw [e] at hb; exact List.mem_cons_of_mem _ hb
  · rw [e] at hb
    unfold frs at hb
    rw [List.filterMap_cons, hf] at hb
    exact hb
theorem Inv.stkFree (I : Inv X pins σ H s) : ∀ b ∈ frs X.stack, H b = none := fun b hb => by
  rcases List.mem_cons.mp (I.stkSub b hb) with e | hb
  · rw [e]; exact I.free
  · obtain ⟨_, o, ho, _⟩ := I.ok.funs.mem hb
    exact I.base.free b o ho (I.ok.frf b hb) fun z => I.ok.exfs b z hb

/-- THE STEP: the untracked objects but the frame and the records at ch are kept (the callers' frames up to slots), the frame's map is kept, the new abstract heap is held -/
theorem Inv.step {g' : Array GenState} {t' : Nat} {d' : Drawn} {ch : List Addr} (I : Inv X pins σ H s)
    (hch : ∀ b ∈ ch, (b ∈ X.ex ∨ X.s₀.heap.objs.size ≤ b) ∧ b ≠ X.env.locals ∧ (∀ x c, X.env.cells.lookup x = some c → c ≠ b) ∧ ∀ p ∈ X.pn ++ pins, p.1 ≠ b)
    (keep : ∀ b o, b ≠ X.env.locals → b ∉ X.fs → b ∉ ch → s.heap.get? b = some o → H b = none → h'.get? b = some o)
    (slot : ∀ b o, b ≠ X.env.locals → b ∈ X.fs → b ∉ ch → s.heap.get? b = some o → H b = none → ∃ sl, h'.get? b = some { o with slots := sl }) (free : ∀ b o, b ∉ ch → s.heap.get? b = some o → H b = none → H' b = none)
    (there : ∀ b o, b ∉ ch → s.heap.get? b = some o → ∃ o', h'.get? b = some o')
    (tups : ∀ b xs, H b = some (.tup xs) → H' b = some (.tup xs)) (frzs : ∀ b o u, H b = some (.frz o u) → H' b = some (.frz o u)) (tbls : ∀ b ps, H b = some (.tbl ps) → ∃ more, H' b = some (.tbl (ps ++ more)))
    (ns : ∀ m, s.heap.Ns X.env.locals m → h'.Ns X.env.locals m) (hok : HOk X.prog X.w H' h') (hg : AllBare g') :
    Inv X pins σ H' { s with heap := h', gens := g', drawn := d', toks := t' } := by
  have neL : ∀ b o, X.s₀.heap.get? b = some o → b ≠ X.env.locals := fun b o e => Nat.ne_of_lt (Nat.lt_of_lt_of_le (Heap.lt_size e) I.ok.above)
  have neC : ∀ b o, X.s₀.heap.get? b = some o → b ∉ X.ex → b ∉ ch := fun b o e hx hb => by
    rcases (hch b hb).1 with z | z
    · exact hx z
    · exact absurd (Nat.lt_of_lt_of_le (Heap.lt_size e) z) (Nat.lt_irrefl _)
  have cellK : ∀ x c, X.env.cells.lookup x = some c → ∀ v, s.heap.IsCell c v → h'.IsCell c v := fun x c e v ⟨o, ho, hd⟩ => by
    have nch : c ∉ ch := fun z => (hch c z).2.2.1 x c e rfl
    by_cases hc : c ∈ X.fs
    · obtain ⟨sl, q⟩ := slot c o (I.cne x c e) hc nch ho (I.freeC x c e)
      exact ⟨_, q, hd⟩
    · exact ⟨o, keep c o (I.cne x c e) hc nch ho (I.freeC x c e), hd⟩
  refine ⟨I.ok, I.os, hg, ⟨fun b o e n hb hx => ?_, fun b o e n hb hx => ?_, fun b o e n hx => ?_, fun b o e hx => ?_, fun b xs e => tups b xs (I.base.tups b xs e), fun b o xs e => frzs b o xs (I.base.frzs b o xs e), fun b ps e => ?_⟩, ?_, fun x c e => ?_, ?_, fun x c e => ?_, fun p hp => ?_, hok, I.len⟩
  · exact keep b o (neL b o e) hb (neC b o e hx) (I.base.keep b o e n hb hx) (I.base.free b o e n hx)
  · obtain ⟨sl, e1⟩ := I.base.slot b o e n hb hx
    obtain ⟨sl', e2⟩ := slot b _ (neL b o e) hb (neC b o e hx) e1 (I.base.free b o e n hx)
    exact ⟨sl', e2⟩
  · obtain ⟨o', e1⟩ := I.base.there b o e hx
    exact free b o' (neC b o e hx) e1 (I.base.free b o e n hx)
  · obtain ⟨o', e1⟩ := I.base.there b o e hx
    exact there b o' (neC b o e hx) e1
  · obtain ⟨m1, e1⟩ := I.base.tbls b ps e
    obtain ⟨m2, e2⟩ := tbls b _ e1
    exact ⟨m1 ++ m2, by rw [e2, Array.append_assoc]⟩
  · obtain ⟨m, hn, hl⟩ := I.loc
    refine ⟨m, ns m hn, fun i x v e1 e2 e3 => ?_⟩
    obtain ⟨u, r, l⟩ := hl i x v e1 e2 e3
    refine ⟨u, r, ?_⟩
    rcases l with l | ⟨k, c, e, z⟩
    · exact .inl l
    · exact .inr ⟨k, c, e, cellK x c e _ z⟩
  · obtain ⟨v, z⟩ := I.cell x c e
    exact ⟨v, cellK x c e v z⟩
  · obtain ⟨m, ⟨o, _, _, ho, _⟩, _⟩ := I.loc
    exact free _ o (fun z => (hch _ z).2.1 rfl) ho I.free
  · obtain ⟨v, o, ho, hd⟩ := I.cell x c e
    exact free c o (fun z => (hch c z).2.2.1 x c e rfl) ho (I.freeC x c e)
  · obtain ⟨e, n, ne, nf, d⟩ := I.pin p hp
    have nch : p.1 ∉ ch := fun z => (hch p.1 z).2.2.2 p hp rfl
    exact ⟨keep p.1 p.2 ne nf nch e n, free p.1 p.2 nch e n, ne, nf, d⟩
/-- .. where the frame's own object is kept too -/
theorem Inv.un {t' : Nat} (I : Inv X pins σ H s) (u : Un X.fs [] H H' s.heap h') (hok : HOk X.prog X.w H' h') : Inv X pins σ H' { s with heap := h', toks := t' } := by
  obtain ⟨m, ⟨o, es, ep, ho, r⟩, _⟩ := id I.loc
  obtain ⟨sl, hL⟩ := u.any ho I.free (by simp)
  exact I.step (g' := s.gens) (d' := s.drawn) (ch := []) (fun _ z => nomatch z) (fun b o _ hb _ e n => u.keep b o e n hb (by simp)) (fun b o _ hb _ e n => u.slot b o e n hb (by simp)) (fun b o _ e n => u.free b o e n (by simp)) (fun b o _ e => u.there b o e (by simp)) u.tups u.frzs u.tbls (fun m' hm => by
    obtain ⟨o', es', ep', ho', r'⟩ := hm
    rw [ho] at ho'; cases ho'
    exact ⟨_, es', ep', hL, r'⟩) hok I.bare
/-- behind a call (or a comprehension's block): the slots of this frame may have changed too, the records at ch may have turned -/
theorem Inv.call {g' : Array GenState} {t' : Nat} {d' : Drawn} {ch : List Addr} (I : Inv X pins σ H s) (u : Un (frs X.stack) ch H H' s.heap h') (hok : HOk X.prog X.w H' h') (hg : AllBare g')
    (hch : ∀ b ∈ ch, (b ∈ X.ex ∨ X.s₀.heap.objs.size ≤ b) ∧ b ≠ X.env.locals ∧ (∀ x c, X.env.cells.lookup x = some c → c ≠ b) ∧ ∀ p ∈ X.pn ++ pins, p.1 ≠ b) :
    Inv X pins σ H' { s with heap := h', gens := g', drawn := d', toks := t' } := by
  obtain ⟨m, ⟨o, es, ep, ho, r⟩, _⟩ := id I.loc
  obtain ⟨sl, hL⟩ := u.any ho I.free fun z => (hch _ z).2.1 rfl
  exact I.step (ch := ch) hch (fun b o hL hb hc e n => u.keep b o e n (fun z => (List.mem_cons.mp (I.stkSub b z)).elim hL hb) hc) (fun b o _ _ hc e n => u.any e n hc) (fun b o hc e n => u.free b o e n hc) (fun b o hc e => u.there b o e hc) u.tups u.frzs u.tbls (fun m' hm => by
    obtain ⟨o', es', ep', ho', r'⟩ := hm
    rw [ho] at ho'; cases ho'
    exact ⟨_, es', ep', hL, r'⟩) hok hg
/-- an untracked record of ours (an iterator) has turned -/
theorem Inv.turned {t' : Nat} {it : Addr} (I : Inv X pins σ H s) (k : ∀ b o, b ≠ it → s.heap.get? b = some o → h'.get? b = some o) (hn : H it = none) (hL : it ≠ X.env.locals)
    (h1 : it ∈ X.ex ∨ X.s₀.heap.objs.size ≤ it) (h2 : ∀ x c, X.env.cells.lookup x = some c → c ≠ it) (h3 : ∀ p ∈ X.pn ++ pins, p.1 ≠ it) : Inv X pins σ H { s with heap := h', toks := t' } := by
  have nit : ∀ b u, H b = some u → b ≠ it := fun b u e z => by rw [z, hn] at e; cases e
  refine I.step (g' := s.gens) (d' := s.drawn) (ch := [it]) (fun b hb => ?_) (fun b o _ _ hc e _ => k b o (fun z => hc (by simp [z])) e) (fun b o _ _ hc e _ => ⟨o.slots, k b o (fun z => hc (by simp [z])) e⟩) (fun _ _ _ _ n => n)
    (fun b o hc e => ⟨o, k b o (fun z => hc (by simp [z])) e⟩) (fun _ _ e => e) (fun _ _ _ e => e) (fun b ps e => ⟨#[], by rw [e]; simp⟩) (fun m hm => ?_) (fun b u e => ?_) I.bare
  · have e : b = it := by simpa using hb
    subst e
    exact ⟨h1, hL, h2, h3⟩
  · obtain ⟨o, es, ep, ho, r⟩ := hm
    exact ⟨o, es, ep, k _ o (Ne.symm hL) ho, r⟩
  · refine (I.hok b u e).stay (fun c v hc q => k c v ?_ q) (fun _ q => q) fun _ _ q => q
    rcases hc with z | z
    · rw [z]; exact nit b u e
    · exact nit c _ z
theorem Inv.tok (I : Inv X pins σ H s) (t : Nat) : Inv X pins σ H { s with toks := t } := I.un (h' := s.heap) (t' := t) Un.refl I.hok
/-- all objects kept -/
theorem Inv.kept {t' : Nat} (I : Inv X pins σ H s) (k : ∀ b u, s.heap.get? b = some u → h'.get? b = some u) : Inv X pins σ H { s with heap := h', toks := t' } := I.un (Un.kept k) (I.hok.kept k)
/-- a new object laid and tracked -/
theorem Inv.laid {a : Addr} {o : HO} {t' : Nat} (I : Inv X pins σ H s) (k : ∀ b u, s.heap.get? b = some u → h'.get? b = some u) (hp : s.heap.objs.size ≤ a) (new : ObjOk X.prog X.w (upd H a o) h' a o) :
    Inv X pins σ (upd H a o) { s with heap := h', toks := t' } := I.un (Un.laid k hp (I.hok.fresh hp)) (I.hok.laid k hp new)
/-- an object written -/
theorem Inv.write {x e : Addr} {o : HO} {t' : Nat} (I : Inv X pins σ H s) (mu : Mut (H x)) (he : e = x ∨ H e = some (.own x)) (k : ∀ b u, b ≠ e → s.heap.get? b = some u → h'.get? b = some u) (heo : ∃ u, h'.get? e = some u)
    (new : ObjOk X.prog X.w (upd H x o) h' x o) : Inv X pins σ (upd H x o) { s with heap := h', toks := t' } := I.un (Un.write mu he k heo) (I.hok.write mu he k heo new)
theorem Inv.pins_of {pins' : List (Addr × Obj)} (I : Inv X pins σ H s) (h : ∀ p ∈ pins', s.heap.get? p.1 = some p.2 ∧ H p.1 = none ∧ p.1 ≠ X.env.locals ∧ p.1 ∉ X.fs ∧ ∀ v, p.2.data ≠ .cell v) : Inv X pins' σ H s :=
  ⟨I.ok, I.os, I.bare, I.base, I.loc, I.cell, I.free, I.freeC, fun p hp => (List.mem_append.mp hp).elim (fun z => I.pin p (List.mem_append_left _ z)) (h p), I.hok, I.len⟩

theorem nodup_ix {N : List Str} (hN : N.Nodup) {i j : Nat} {x : Str} (a : N[i]? = some x) (b : N[j]? = some x) : i = j := by
  obtain ⟨h1, e1⟩ := List.getElem?_eq_some_iff.mp a
  obtain ⟨h2, e2⟩ := List.getElem?_eq_some_iff.mp b
  exact (List.getElem_inj hN).mp (e1.trans e2.symm)

/-- a name is stored; what changed -/
theorem store_ok2 {M : Model} {A : Around} {E : Value → Shared → Prop} {i : Nat} {x : Str} {v : V} {u : Value} {Q : Unit → Shared → Prop} (I : Inv X pins σ H s) (hN : X.N.Nodup) (hi : X.N[i]? = some x) (hx : Loc X.env.scope x) (r : RelV v u)
    (h : ∀ s', Inv X pins (σ.set i (some v)) H s' → (∃ a, Heap.SameBut a s.heap s'.heap ∧ (a = X.env.locals ∨ X.env.cells.lookup x = some a)) → Q () s') (hf : X.fn x = true ∨ X.env.scope.names.lookup x = some .local := by first | exact .inl rfl | exact .inr rfl | assumption) : wpAny M A (storeName X.env x u) Q E s := by
  obtain ⟨m, hn, hl⟩ := id I.loc
  have hcls : (X.env.scope.kind == .class || (X.env.scope.kind == .module && X.env.locals != X.env.globals)) = false := by rw [I.ok.kind]; rfl
  have hiσ : i < σ.length := by rw [I.len]; exact (List.getElem?_eq_some_iff.mp hi).1
  have cne := I.cne
  have tracked : ∀ {a : Addr} {h' : Heap}, (∃ o, s.heap.get? a = some o ∧ H a = none) → Heap.SameBut a s.heap h' → HOk X.prog X.w H h' := fun {a h'} ha hs b ob e => by
    obtain ⟨_, _, hfree⟩ := ha
    refine (I.hok b ob e).stay (fun c w' hc q => (hs.2 c ?_).trans q) (fun _ q => q) fun _ _ q => q
    rintro rfl
    rcases hc with rfl | hc
    · rw [hfree] at e; cases e
    · rw [hfree] at hc; cases hc
  rcases hx with hk | hk
  · refine wpAny_storeName_local hk hn (fun h' hn' hs => ?_) hcls
    obtain ⟨oL, _, _, hoL, _⟩ := id hn
    refine h _ ⟨I.ok, I.os, I.bare, ⟨fun b o e n hb hx => ?_, fun b o e n hb hx => ?_, I.base.free, fun b o e hx => ?_, I.base.tups, I.base.frzs, I.base.tbls⟩, ⟨_, hn', fun j y v' e1 e2 e3 => ?_⟩, fun y c e => ?_, I.free, I.freeC, fun p hp => ?_, tracked ⟨oL, hoL, I.free⟩ hs, by simpa using I.len⟩ ⟨_, hs, .inl rfl⟩
    · exact (hs.2 b (Nat.ne_of_lt (Nat.lt_of_lt_of_le (Heap.lt_size e) I.ok.above))).trans (I.base.keep b o e n hb hx)
    · obtain ⟨sl, e1⟩ := I.base.slot b o e n hb hx
      exact ⟨sl, (hs.2 b (Nat.ne_of_lt (Nat.lt_of_lt_of_le (Heap.lt_size e) I.ok.above))).trans e1⟩
    · obtain ⟨o', e1⟩ := I.base.there b o e hx
      exact ⟨o', (hs.2 b (Nat.ne_of_lt (Nat.lt_of_lt_of_le (Heap.lt_size e) I.ok.above))).trans e1⟩
    · by_cases hj : j = i
      · subst hj
        rw [hi] at e1; cases e1
        rw [List.getElem?_set_self hiσ] at e2
        cases e2
        exact ⟨u, r, .inl ⟨hk, by simp⟩⟩
      · rw [List.getElem?_set_ne (Ne.symm hj)] at e2
        obtain ⟨u', r', q⟩ := hl j y v' e1 e2 e3
        refine ⟨u', r', ?_⟩
        rcases q with ⟨k, e⟩ | ⟨k, c, e, z⟩
        · refine .inl ⟨k, ?_⟩
          have : y ≠ x := fun e => hj (nodup_ix hN e1 (e ▸ hi))
          simp [this, e]
        · exact .inr ⟨k, c, e, z.sameBut hs (cne y c e)⟩
    · obtain ⟨w', z⟩ := I.cell y c e
      exact ⟨w', z.sameBut hs (cne y c e)⟩
    · obtain ⟨e, n, ne, nf, d⟩ := I.pin p hp
      exact ⟨(hs.2 p.1 ne).trans e, n, ne, nf, d⟩
  · have hfn : X.fn x = true := by
      rcases hf with z | z
      · exact z
      · rw [z] at hk; cases hk
    obtain ⟨c, hc⟩ := I.ok.has x (.inl hk)
    obtain ⟨w', z⟩ := I.cell x c hc
    refine wpAny_storeName_cell I.ok.kind hk hc z (fun h' hc' hs => ?_)
    obtain ⟨oc, hoc, hocd⟩ := id z
    refine h { s with heap := h' } ⟨I.ok, I.os, I.bare, ⟨fun b o e n hb hx => ?_, fun b o e n hb hx => ?_, I.base.free, fun b o e hx => ?_, I.base.tups, I.base.frzs, I.base.tbls⟩, ⟨m, hn.sameBut hs (Ne.symm (cne x c hc)), fun j y v' e1 e2 e3 => ?_⟩, fun y c' e => ?_, I.free, I.freeC, fun p hp => ?_, tracked ⟨oc, hoc, I.freeC x c hc⟩ hs, by simpa using I.len⟩ ⟨c, hs, .inr hc⟩
    · exact (hs.2 b (Nat.ne_of_lt (Nat.lt_of_lt_of_le (Heap.lt_size e) (I.ok.cab x c hfn hc)))).trans (I.base.keep b o e n hb hx)
    · obtain ⟨sl, e1⟩ := I.base.slot b o e n hb hx
      exact ⟨sl, (hs.2 b (Nat.ne_of_lt (Nat.lt_of_lt_of_le (Heap.lt_size e) (I.ok.cab x c hfn hc)))).trans e1⟩
    · obtain ⟨o', e1⟩ := I.base.there b o e hx
      exact ⟨o', (hs.2 b (Nat.ne_of_lt (Nat.lt_of_lt_of_le (Heap.lt_size e) (I.ok.cab x c hfn hc)))).trans e1⟩
    · by_cases hj : j = i
      · subst hj
        rw [hi] at e1; cases e1
        rw [List.getElem?_set_self hiσ] at e2
        cases e2
        exact ⟨u, r, .inr ⟨.inl hk, c, hc, hc'⟩⟩
      · rw [List.getElem?_set_ne (Ne.symm hj)] at e2
        obtain ⟨u', r', q⟩ := hl j y v' e1 e2 e3
        refine ⟨u', r', ?_⟩
        rcases q with q | ⟨k, c', e, z'⟩
        · exact .inl q
        · refine .inr ⟨k, c', e, z'.sameBut hs ?_⟩
          rintro rfl
          exact hj (nodup_ix hN e1 (I.ok.inj _ _ _ e hc ▸ hi))
    · by_cases hcc : c' = c
      · subst hcc; exact ⟨_, hc'⟩
      · obtain ⟨w2, z2⟩ := I.cell y c' e
        exact ⟨w2, z2.sameBut hs hcc⟩
    · obtain ⟨e, n, ne, nf, d⟩ := I.pin p hp
      refine ⟨(hs.2 p.1 ?_).trans e, n, ne, nf, d⟩
      intro q
      rw [q, hoc] at e
      have q' : oc = p.2 := Option.some.inj e
      exact d w' (by rw [← q']; exact hocd)
theorem store_ok {M : Model} {A : Around} {E : Value → Shared → Prop} {i : Nat} {x : Str} {v : V} {u : Value} {Q : Unit → Shared → Prop} (I : Inv X pins σ H s) (hN : X.N.Nodup) (hi : X.N[i]? = some x) (hx : Loc X.env.scope x) (r : RelV v u)
    (h : ∀ s', Inv X pins (σ.set i (some v)) H s' → Q () s') (hf : X.fn x = true ∨ X.env.scope.names.lookup x = some .local := by first | exact .inl rfl | exact .inr rfl | assumption) : wpAny M A (storeName X.env x u) Q E s :=
  store_ok2 I hN hi hx r (fun s' I' _ => h s' I') hf
end

/-- an exception: its class, its own dict's address (where it has one), the abstract heap behind it -/
abbrev XK := Value → Option Addr → Hp → Prop
abbrev St := List (Option V)
abbrev VK := V → Hp → Prop
/-- an expression's reading; a test's; an argument list's -/
abbrev TE := St → Hp → VK → Prop
abbrev TT := St → Hp → (Bool → Hp → Prop) → Prop
abbrev TA := St → Hp → (List V → Hp → Prop) → Prop
/-- what is wanted behind a statement -/
structure Ends where
  nx : St → Hp → Prop
  rt : VK
  bk : St → Hp → Prop := fun _ _ => False
  ct : St → Hp → Prop := fun _ _ => False
abbrev TS := Ends → St → Hp → Prop

def EP (X : Cx) (pins : List (Addr × Obj)) (σ : St) (Q : VK) (u : Value) (s' : Shared) : Prop := ∃ v H', Inv X pins σ H' s' ∧ RelV v u ∧ Q v H'
def TP (X : Cx) (pins : List (Addr × Obj)) (σ : St) (Q : Bool → Hp → Prop) (b : Bool) (s' : Shared) : Prop := ∃ H', Inv X pins σ H' s' ∧ Q b H'
def AP (X : Cx) (pins : List (Addr × Obj)) (σ : St) (Q : List V → Hp → Prop) (us : List Value) (s' : Shared) : Prop := ∃ vs H', Inv X pins σ H' s' ∧ Vals vs us ∧ Q vs H'
def SP (X : Cx) (pins : List (Addr × Obj)) (D : Ends) (f : Flow) (s' : Shared) : Prop :=
  match f with
  | .next => ∃ σ' H', Inv X pins σ' H' s' ∧ D.nx σ' H'
  | .brk => ∃ σ' H', Inv X pins σ' H' s' ∧ D.bk σ' H'
  | .cont => ∃ σ' H', Inv X pins σ' H' s' ∧ D.ct σ' H'
  | .ret u => ∃ v σ' H', Inv X pins σ' H' s' ∧ RelV v u ∧ D.rt v H'

def PE (X : Cx) (e : Expr) (t : TE) : Prop :=
  ∀ (pins : List (Addr × Obj)) (s : Shared) (σ : St) (H : Hp) (Q : VK), Inv X pins σ H s → t σ H Q → wpAny (model X.prog X.w) X.A (eval e X.env) (EP X pins σ Q) X.xe s
def PT (X : Cx) (e : Expr) (t : TT) : Prop :=
  ∀ (pins : List (Addr × Obj)) (s : Shared) (σ : St) (H : Hp) (Q : Bool → Hp → Prop), Inv X pins σ H s → t σ H Q → wpAny (model X.prog X.w) X.A (isTrue e X.env (eval e X.env)) (TP X pins σ Q) X.xe s
/-- a test whatever its 'whole' is (and, or) -/
def PW (X : Cx) (e : Expr) (t : TT) : Prop :=
  ∀ (whole : Sem Value) (pins : List (Addr × Obj)) (s : Shared) (σ : St) (H : Hp) (Q : Bool → Hp → Prop), Inv X pins σ H s → t σ H Q → wpAny (model X.prog X.w) X.A (isTrue e X.env whole) (TP X pins σ Q) X.xe s
theorem PW.pt {X : Cx} {e : Expr} {t : TT} (h : PW X e t) : PT X e t := h _
/-- an argument list (no star), from the left -/
def PA (X : Cx) (es : List Expr) (t : TA) : Prop :=
  ∀ (pos : Pos) (pins : List (Addr × Obj)) (s : Shared) (σ : St) (H : Hp) (Q : List V → Hp → Prop), Inv X pins σ H s → t σ H Q → wpAny (model X.prog X.w) X.A (spliced (backTo pos (starEach es X.env))) (AP X pins σ Q) X.xe s
def PS (X : Cx) (st : Stmt) (t : TS) : Prop :=
  ∀ (pins : List (Addr × Obj)) (s : Shared) (σ : St) (H : Hp) (D : Ends), Inv X pins σ H s → t D σ H → wpAny (model X.prog X.w) X.A (exec st X.env) (SP X pins D) X.xe s
def PSs (X : Cx) (st : List Stmt) (t : TS) : Prop :=
  ∀ (pins : List (Addr × Obj)) (s : Shared) (σ : St) (H : Hp) (D : Ends), Inv X pins σ H s → t D σ H → wpAny (model X.prog X.w) X.A (execs st X.env) (SP X pins D) X.xe s
/-- weaken the end -/
theorem thn {α : Type} {t : Sem α} {Q Q' : α → Shared → Prop} {M : Model} {A : Around} {E : Value → Shared → Prop} {s : Shared} (h : wpAny M A t Q E s) (hQ : ∀ a s, Q a s → Q' a s) : wpAny M A t Q' E s := wpAny_mono h hQ fun _ _ x => x
end L2

namespace L2
open PySem PySem.Spec PyProof.Rows
section
variable {X : Cx}

/-- two expressions in a row -/
theorem bin {a b : Expr} {ta tb : TE} (ha : PE X a ta) (hb : PE X b tb) {pins : List (Addr × Obj)} {s : Shared} {σ : St} {H : Hp} {R : V → V → Hp → Prop} (I : Inv X pins σ H s) (h : ta σ H fun x H1 => tb σ H1 fun y H2 => R x y H2)
    {α : Type} {Q : α → Shared → Prop} {f : Value → Value → Sem α}
    (hf : ∀ v u s2 x y H2, Inv X pins σ H2 s2 → RelV x v → RelV y u → R x y H2 → wpAny (model X.prog X.w) X.A (f v u) Q X.xe s2) :
    wpAny (model X.prog X.w) X.A (eval a X.env) (fun v s₁ => wpAny (model X.prog X.w) X.A (eval b X.env) (fun u s₂ => wpAny (model X.prog X.w) X.A (f v u) Q X.xe s₂) X.xe s₁) X.xe s := by
  refine thn (ha pins s σ H _ I h) fun v s1 ⟨x, H1, I1, r1, q1⟩ => ?_
  refine thn (hb pins s1 σ H1 _ I1 q1) fun u s2 ⟨y, H2, I2, r2, q2⟩ => ?_
  exact hf v u s2 x y H2 I2 r1 r2 q2

def tVar (i : Nat) : TE := fun σ H Q => ∃ v, σ[i]? = some (some v) ∧ Q v H
def tC (v : V) : TE := fun _ H Q => Q v H
theorem pe_var {i : Nat} {x : Str} {pos : Pos} (hN : X.N[i]? = some x) (hv : Vis X.env.scope x) (hd : (x == ("__debug__" : Str)) = false := by decide) (hcd : (x == ("__classdict__" : Str)) = false := by decide) : PE X (.Name x pos) (tVar i) := by
  intro pins s σ H Q I h
  obtain ⟨v, e, h⟩ := h
  obtain ⟨m, hn, hl⟩ := I.loc
  obtain ⟨u, r, l⟩ := hl i x v hN e hv
  have fin : EP X pins σ Q u s := ⟨v, H, I, r, h⟩
  rcases l with ⟨hk, hm⟩ | ⟨hk, c, hc, hcell⟩
  · exact wpAny_Name (wpAny_loadName_local I.ok.kind hk hn hm fin) hd
  · rcases hk with hk | hk
    · exact wpAny_Name (wpAny_loadName_cell I.ok.kind hk hc hcell fin) hd
    · exact wpAny_Name (wpAny_loadName_free I.ok.kind hk hc hcell fin hcd) hd
theorem pe_int {i j pos} : PE X (.Constant (.int i) j pos) (tC (.int i)) := fun _ _ _ H _ I h => wpAny_Constant_int ⟨.int i, H, I.tok _, ⟨_, rfl⟩, h⟩
theorem pe_bl {b j pos} : PE X (.Constant (.bool b) j pos) (tC (.bl b)) := fun _ _ _ H _ I h => Constant_bool ⟨.bl b, H, I, rfl, h⟩
theorem pe_non {j pos} : PE X (.Constant .none j pos) (tC .non) := fun _ _ _ H _ I h => Constant_none ⟨.non, H, I, rfl, h⟩
theorem pe_str {x j pos} : PE X (.Constant (.str x) j pos) (tC (.str x)) := fun _ _ _ H _ I h => Calls.Constant_str ⟨.str x, H, I.tok _, ⟨_, rfl⟩, h⟩

/-- a global name of the def -/
def Gl (X : Cx) (x : Str) : Prop := X.env.kindOf x = some .globalImplicit
theorem ld_glob {E : Value → Shared → Prop} {pins : List (Addr × Obj)} {s : Shared} {σ : St} {H : Hp} {x : Str} {u : Value} {pos : Pos} {Q : Value → Shared → Prop} (I : Inv X pins σ H s) (hg : Gl X x) (hm : X.mg x = some u) (h : Q u s)
    (hd : (x == ("__debug__" : Str)) = false := by decide) : wpAny (model X.prog X.w) X.A (eval (.Name x pos) X.env) Q E s :=
  Calls.Name_function_global I.ok.kind hg (Calls.loadGlobal_global (by rw [I.ok.glob]; exact I.mod.glob.keeps I.bk) hm h) hd
theorem ld_blt {E : Value → Shared → Prop} {pins : List (Addr × Obj)} {s : Shared} {σ : St} {H : Hp} {x : Str} {u : Value} {pos : Pos} {Q : Value → Shared → Prop} (I : Inv X pins σ H s) (hg : Gl X x) (hm : X.mg x = none) (hv : bootBuiltins x = some u) (h : Q u s)
    (hn : x ≠ "__name__" := by decide) (hd : (x == ("__debug__" : Str)) = false := by decide) : wpAny (model X.prog X.w) X.A (eval (.Name x pos) X.env) Q E s := by
  obtain ⟨mb, h1, h2⟩ := I.mod.blt
  exact Calls.Name_function_global I.ok.kind hg (Calls.loadGlobal_builtin (by rw [I.ok.glob]; exact I.mod.glob.keeps I.bk) hm (by rw [I.ok.blt]; exact h1.keeps I.bk) ((h2 x hn).trans hv) h) hd
theorem pe_bltn {x : Str} {v : V} {u : Value} {pos : Pos} (hg : Gl X x) (hm : X.mg x = none) (hv : bootBuiltins x = some u) (r : RelV v u) (hn : x ≠ "__name__" := by decide) (hd : (x == ("__debug__" : Str)) = false := by decide) : PE X (.Name x pos) (tC v) :=
  fun _ _ _ H _ I h => ld_blt I hg hm hv ⟨v, H, I, r, h⟩ hn hd

variable {a b : Expr} {ta tb : TE} {pos : Pos}
variable {tA tB' : TT} {rest : List Expr}
def tAnd (t u : TT) : TT := fun σ H Q => t σ H fun c H1 => if c = true then u σ H1 Q else Q false H1
def tOr (t u : TT) : TT := fun σ H Q => t σ H fun c H1 => if c = true then Q true H1 else u σ H1 Q
def tNot (t : TT) : TT := fun σ H Q => t σ H fun c H1 => Q (!c) H1
theorem pw_and1 (ha : PT X a tA) : PW X (.BoolOp .And [a] pos) tA := by
  intro wh pins s σ H Q I h
  refine isTrue_and (thn (ha pins s σ H Q I h) fun c s1 e => ?_)
  cases c with
  | true => exact isTrue_and_nil e
  | false => exact e
theorem pw_or1 (ha : PT X a tA) : PW X (.BoolOp .Or [a] pos) tA := by
  intro wh pins s σ H Q I h
  refine isTrue_or (thn (ha pins s σ H Q I h) fun c s1 e => ?_)
  cases c with
  | false => exact isTrue_or_nil e
  | true => exact e
theorem pw_and (ha : PT X a tA) (hb : PW X (.BoolOp .And (b :: rest) pos) tB') : PW X (.BoolOp .And (a :: b :: rest) pos) (tAnd tA tB') := by
  intro wh pins s σ H Q I h
  refine isTrue_and (thn (ha pins s σ H _ I h) fun c s1 ⟨H1, I1, q1⟩ => ?_)
  cases c with
  | true => exact hb wh pins s1 σ H1 Q I1 q1
  | false => exact ⟨H1, I1, q1⟩
theorem pw_or (ha : PT X a tA) (hb : PW X (.BoolOp .Or (b :: rest) pos) tB') : PW X (.BoolOp .Or (a :: b :: rest) pos) (tOr tA tB') := by
  intro wh pins s σ H Q I h
  refine isTrue_or (thn (ha pins s σ H _ I h) fun c s1 ⟨H1, I1, q1⟩ => ?_)
  cases c with
  | true => exact ⟨H1, I1, q1⟩
  | false => exact hb wh pins s1 σ H1 Q I1 q1
theorem pt_not (ha : PT X a tA) : PT X (.UnaryOp .Not a pos) (tNot tA) := by
  intro pins s σ H Q I h
  exact isTrue_not (ha pins s σ H (fun c H1 => Q (!c) H1) I h)
/-- .. as values (bools) -/
def tAndV (ta tb : TE) : TE := fun σ H Q => ta σ H fun x H1 => ∃ c, x = .bl c ∧ if c = true then tb σ H1 Q else Q (.bl false) H1
def tOrV (ta tb : TE) : TE := fun σ H Q => ta σ H fun x H1 => ∃ c, x = .bl c ∧ if c = true then Q (.bl true) H1 else tb σ H1 Q
theorem pe_one {op} {t : TE} (h : PE X a t) : PE X (.BoolOp op [a] pos) t := fun pins s σ H Q I hw => BoolOp_one (h pins s σ H Q I hw)
theorem pe_and (ha : PE X a ta) (hb : PE X (.BoolOp .And (b :: rest) pos) tb) : PE X (.BoolOp .And (a :: b :: rest) pos) (tAndV ta tb) := by
  intro pins s σ H Q I h
  refine BoolOp_and (thn (ha pins s σ H _ I h) fun v s1 ⟨x, H1, I1, r1, q1⟩ => ?_)
  obtain ⟨c, rfl, q1⟩ := q1
  cases r1
  refine wpAny_truthy_bool ?_
  cases c with
  | true => exact hb pins s1 σ H1 Q I1 q1
  | false => exact ⟨.bl false, H1, I1, rfl, q1⟩
theorem pe_or (ha : PE X a ta) (hb : PE X (.BoolOp .Or (b :: rest) pos) tb) : PE X (.BoolOp .Or (a :: b :: rest) pos) (tOrV ta tb) := by
  intro pins s σ H Q I h
  refine BoolOp_or (thn (ha pins s σ H _ I h) fun v s1 ⟨x, H1, I1, r1, q1⟩ => ?_)
  obtain ⟨c, rfl, q1⟩ := q1
  cases r1
  refine wpAny_truthy_bool ?_
  cases c with
  | false => exact hb pins s1 σ H1 Q I1 q1
  | true => exact ⟨.bl true, H1, I1, rfl, q1⟩
/-- a if t else b -/
def tIf (t : TT) (ta tb : TE) : TE := fun σ H Q => t σ H fun c H1 => if c = true then ta σ H1 Q else tb σ H1 Q
theorem pe_ifExp {c : Expr} (hc : PT X c tA) (ha : PE X a ta) (hb : PE X b tb) : PE X (.IfExp c a b pos) (tIf tA ta tb) := by
  intro pins s σ H Q I h
  refine wpAny_IfExp (thn (hc pins s σ H _ I h) fun d s1 ⟨H1, I1, q1⟩ => ?_)
  cases d with
  | true => exact ha pins s1 σ H1 Q I1 q1
  | false => exact hb pins s1 σ H1 Q I1 q1
end
end L2

namespace L2
open PySem PySem.Spec PyProof.Rows

def SqL (K : PySem.W.Frag) (H : Hp) (a : Addr) (xs : List V) : Prop :=
  Rd H a (.lst xs) ∨
    ∃ (o : Obj) (its : Array Value) (n : Nat), K.lookup a = some o ∧ o.cls = .type "list" ∧ o.dict = none ∧ o.data = .seq its n ∧ its.size ≤ sizeLine ∧ Vals xs its.toList
def SqT (K : PySem.W.Frag) (H : Hp) (a : Addr) (xs : List V) : Prop :=
  Rd H a (.tup xs) ∨
    ∃ (o : Obj) (its : Array Value) (n : Nat), K.lookup a = some o ∧ o.cls = .type "tuple" ∧ o.data = .seq its n ∧ its.size ≤ sizeLine ∧ Vals xs its.toList
def absV : Value → Option V
  | .none => some .non
  | .bool b => some (.bl b)
  | .int i _ => some (.int i)
  | .str x _ => some (.str x)
  | .bytes b _ => some (.byt b)
  | .float b _ => some (.flt b)
  | .ref a => some (.ref a)
  | .type n => some (.ty n)
  | _ => none
theorem RelV.abs {x : V} {u : Value} (r : RelV x u) : absV u = some x := by
  cases x with
  | non => cases r; rfl
  | bl _ => cases r; rfl
  | int _ => obtain ⟨t, rfl⟩ := r; rfl
  | str _ => obtain ⟨t, rfl⟩ := r; rfl
  | byt _ => obtain ⟨t, rfl⟩ := r; rfl
  | flt _ => obtain ⟨t, rfl⟩ := r; rfl
  | ref _ => cases r; rfl
  | ty _ => cases r; rfl
theorem RelV.inj {x y : V} {u : Value} (r : RelV x u) (q : RelV y u) : x = y := Option.some.inj (r.abs.symm.trans q.abs)
theorem Vals.inj : ∀ {xs ys : List V} {us : List Value}, Vals xs us → Vals ys us → xs = ys
  | _, _, _, .nil, .nil => rfl
  | _, _, _, .cons r t, .cons r' t' => by rw [r.inj r', Vals.inj t t']
section
variable {X : Cx} {pins : List (Addr × Obj)} {σ : St} {H : Hp} {s : Shared} {a : Addr} {xs ys : List V}
theorem SqL.of {K : PySem.W.Frag} (h : H a = some (.lst xs)) : SqL K H a xs := .inl (.inl h)
theorem SqT.of {K : PySem.W.Frag} (h : H a = some (.tup xs)) : SqT K H a xs := .inl (.inl h)
theorem Inv.list (I : Inv X pins σ H s) (h : SqL X.K H a xs) : ∃ its : List Value, Vals xs its ∧ PlainL s.heap a its.toArray ∧ xs.length ≤ sizeLine := by
  rcases h with h | ⟨o, its, n, hk, hc, hd, hs, hz, r⟩
  · obtain ⟨z, its, n, r, e⟩ := h.ok I.hok
    exact ⟨its, r, ⟨_, n, e, rfl, rfl, rfl⟩, z⟩
  · refine ⟨its.toList, r, ⟨o, n, I.kIn a o hk, hc, hd, by simpa using hs⟩, ?_⟩
    have e := r.length
    simp only [Array.length_toList] at e
    omega
theorem Inv.tuple (I : Inv X pins σ H s) (h : SqT X.K H a xs) : ∃ its : List Value, Vals xs its ∧ IsTup s.heap a its.toArray ∧ xs.length ≤ sizeLine := by
  rcases h with h | ⟨o, its, n, hk, hc, hs, hz, r⟩
  · obtain ⟨z, its, r, p⟩ := h.ok I.hok
    exact ⟨its, r, p, z⟩
  · refine ⟨its.toList, r, ⟨o, I.kIn a o hk, hc, n, by simpa using hs⟩, ?_⟩
    have e := r.length
    simp only [Array.length_toList] at e
    omega
theorem Inv.list_inj (I : Inv X pins σ H s) (h : SqL X.K H a xs) (h' : SqL X.K H a ys) : xs = ys := by
  obtain ⟨its, r, ⟨o, n, e, _, _, d⟩, _⟩ := I.list h
  obtain ⟨its', r', ⟨o', n', e', _, _, d'⟩, _⟩ := I.list h'
  rw [e] at e'; cases e'
  rw [d] at d'
  injection d' with d1 _
  have : its = its' := by simpa using congrArg Array.toList d1
  subst this
  exact r.inj r'
theorem Inv.tuple_inj (I : Inv X pins σ H s) (h : SqT X.K H a xs) (h' : SqT X.K H a ys) : xs = ys := by
  obtain ⟨its, r, ⟨o, e, _, n, d⟩, _⟩ := I.tuple h
  obtain ⟨its', r', ⟨o', e', _, n', d'⟩, _⟩ := I.tuple h'
  rw [e] at e'; cases e'
  rw [d] at d'
  injection d' with d1 _
  have : its = its' := by simpa using congrArg Array.toList d1
  subst this
  exact r.inj r'
end

abbrev Cx.wish (X : Cx) (E : Value → Shared → Prop) : Cx := { X with xe := E }
/-- no exception leaves -/
abbrev Cx.nox (X : Cx) : Cx := X.wish fun _ _ => False
theorem Cx.Ok.wish {X : Cx} (ok : X.Ok) (E : Value → Shared → Prop) : (X.wish E).Ok :=
  ⟨ok.mod, ok.kind, ok.glob, ok.blt, ok.above, ok.inj, ok.has, ok.cab, ok.hd, ok.frames, ok.stk, ok.exf, ok.bs, ok.bsz, ok.noex, ok.exfs, ok.funs, ok.frf⟩
theorem Cx.Ok.unwish {X : Cx} {E : Value → Shared → Prop} (ok : (X.wish E).Ok) : X.Ok :=
  ⟨ok.mod, ok.kind, ok.glob, ok.blt, ok.above, ok.inj, ok.has, ok.cab, ok.hd, ok.frames, ok.stk, ok.exf, ok.bs, ok.bsz, ok.noex, ok.exfs, ok.funs, ok.frf⟩
section
variable {X : Cx} {pins : List (Addr × Obj)} {σ : St} {H : Hp} {s : Shared} {E : Value → Shared → Prop}
theorem Inv.wish (I : Inv X pins σ H s) (E : Value → Shared → Prop) : Inv (X.wish E) pins σ H s := ⟨I.ok.wish E, I.os, I.bare, I.base, I.loc, I.cell, I.free, I.freeC, I.pin, I.hok, I.len⟩
theorem Inv.unwish (I : Inv (X.wish E) pins σ H s) : Inv X pins σ H s := ⟨I.ok.unwish, I.os, I.bare, I.base, I.loc, I.cell, I.free, I.freeC, I.pin, I.hok, I.len⟩
theorem SP.unwish {D : Ends} {f : Flow} {s' : Shared} (h : SP (X.wish E) pins D f s') : SP X pins D f s' := by
  cases f with
  | next => obtain ⟨σ', H', I, q⟩ := h; exact ⟨σ', H', I.unwish, q⟩
  | brk => obtain ⟨σ', H', I, q⟩ := h; exact ⟨σ', H', I.unwish, q⟩
  | cont => obtain ⟨σ', H', I, q⟩ := h; exact ⟨σ', H', I.unwish, q⟩
  | ret u => obtain ⟨v, σ', H', I, r, q⟩ := h; exact ⟨v, σ', H', I.unwish, r, q⟩
theorem PE.nox {e : Expr} {t : TE} (h : PE X.nox e t) : PE X e t := fun pins s σ H Q I hw =>
  wpAny_mono (h pins s σ H Q (I.wish _) hw) (fun _ _ ⟨v, H', I', r, q⟩ => ⟨v, H', I'.unwish, r, q⟩) fun _ _ z => False.elim z
theorem PT.nox {e : Expr} {t : TT} (h : PT X.nox e t) : PT X e t := fun pins s σ H Q I hw =>
  wpAny_mono (h pins s σ H Q (I.wish _) hw) (fun _ _ ⟨H', I', q⟩ => ⟨H', I'.unwish, q⟩) fun _ _ z => False.elim z
theorem PSs.nox {st : List Stmt} {t : TS} (h : PSs X.nox st t) : PSs X st t := fun pins s σ H D I hw =>
  wpAny_mono (h pins s σ H D (I.wish _) hw) (fun _ _ q => q.unwish) fun _ _ z => False.elim z
end

section
variable {X : Cx} {st : Stmt} {rest : List Stmt} {t u : TS} {e : Expr} {te : TE} {pos : Pos}
def tNext : TS := fun D σ H => D.nx σ H
def tSeq (t u : TS) : TS := fun D σ H => t { D with nx := u D } σ H
theorem pss_nil : PSs X [] tNext := fun _ _ σ H _ I h => wpAny_execs_nil ⟨σ, H, I, h⟩
theorem pss_cons (h1 : PS X st t) (h2 : PSs X rest u) : PSs X (st :: rest) (tSeq t u) := by
  intro pins s σ H D I h
  refine wpAny_execs_cons (thn (h1 pins s σ H { D with nx := u D } I h) fun f s1 q => ?_)
  cases f with
  | next =>
    obtain ⟨σ', H', I', q⟩ := q
    exact h2 pins s1 σ' H' D I' q
  | ret v => exact q
  | brk => exact q
  | cont => exact q
def tBreak : TS := fun D σ H => D.bk σ H
def tCont : TS := fun D σ H => D.ct σ H
theorem ps_pass : PS X (.Pass pos) tNext := fun _ _ σ H _ I h => wpAny_Pass ⟨σ, H, I, h⟩
theorem ps_break : PS X (.Break pos) tBreak := fun _ _ σ H _ I h => wpAny_Break ⟨σ, H, I, h⟩
theorem ps_continue : PS X (.Continue pos) tCont := fun _ _ σ H _ I h => wpAny_Continue ⟨σ, H, I, h⟩
/-- in a def's body nothing is shown -/
theorem Inv.quiet {pins : List (Addr × Obj)} {σ : St} {H : Hp} {s : Shared} (I : Inv X pins σ H s) : interactive X.env = false := by simp [interactive, I.ok.kind]
/-- an expression whose value is dropped -/
def tDrop (te : TE) : TS := fun D σ H => te σ H fun _ H1 => D.nx σ H1
theorem ps_expr (he : PE X e te) (hs : swapsWith e none pos.line X.env = pure false := by rfl) : PS X (.Expr e pos) (tDrop te) := by
  intro pins s σ H D I h
  exact wpAny_Expr_any (thn (he pins s σ H _ I h) fun v s1 ⟨x, H1, I1, r1, q1⟩ => ⟨σ, H1, I1, q1⟩) I.quiet hs
def tRet (te : TE) : TS := fun D σ H => te σ H D.rt
theorem ps_ret (he : PE X e te) : PS X (.Return (some e) pos) (tRet te) := by
  intro pins s σ H D I h
  exact wpAny_Return_some (thn (he pins s σ H _ I h) fun v s1 ⟨x, H1, I1, r1, q1⟩ => ⟨x, σ, H1, I1, r1, q1⟩)
def tRetN : TS := fun D _ H => D.rt .non H
theorem ps_retN : PS X (.Return none pos) tRetN := fun _ _ σ H _ I h => wpAny_Return_none ⟨.non, σ, H, I, rfl, h⟩
def tIfS (c : TT) (t u : TS) : TS := fun D σ H => c σ H fun b H1 => if b = true then t D σ H1 else u D σ H1
theorem ps_if {c : Expr} {a b : List Stmt} {tc : TT} (hc : PT X c tc) (ha : PSs X a t) (hb : PSs X b u) : PS X (.If c a b pos) (tIfS tc t u) := by
  intro pins s σ H D I h
  refine wpAny_If (thn (hc pins s σ H _ I h) fun d s1 ⟨H1, I1, q1⟩ => ?_)
  cases d with
  | true => exact ha pins s1 σ H1 D I1 q1
  | false => exact hb pins s1 σ H1 D I1 q1
end

abbrev TG := V → St → Hp → (St → Hp → Prop) → Prop
abbrev TGs := List V → St → Hp → (St → Hp → Prop) → Prop
def PG (X : Cx) (target : Expr) (t : TG) : Prop :=
  ∀ (pins : List (Addr × Obj)) (s : Shared) (σ : St) (H : Hp) (v : V) (u : Value) (Q : St → Hp → Prop), Inv X pins σ H s → RelV v u → t v σ H Q →
    wpAny (model X.prog X.w) X.A (assign target X.env u) (fun _ s' => ∃ σ' H', Inv X pins σ' H' s' ∧ Q σ' H') X.xe s
/-- several targets, one after another -/
def PGs (X : Cx) (ts : List Expr) (t : TGs) : Prop :=
  ∀ (pins : List (Addr × Obj)) (s : Shared) (σ : St) (H : Hp) (vs : List V) (us : List Value) (Q : St → Hp → Prop), Inv X pins σ H s → Vals vs us → t vs σ H Q →
    wpAny (model X.prog X.w) X.A (assignInOrder ((assignEach ts X.env).map (·.2)) us) (fun _ s' => ∃ σ' H', Inv X pins σ' H' s' ∧ Q σ' H') X.xe s
/-- o[i] = v, by values -/
abbrev TSet := V → V → V → Hp → (Hp → Prop) → Prop
def PSet (X : Cx) (t : TSet) : Prop :=
  ∀ (pins : List (Addr × Obj)) (s : Shared) (σ : St) (H : Hp) (o i v : V) (ov iv u : Value) (Q : Hp → Prop), Inv X pins σ H s → RelV o ov → RelV i iv → RelV v u → t o i v H Q →
    wpAny (model X.prog X.w) X.A (setItem ov iv u) (fun _ s' => ∃ H', Inv X pins σ H' s' ∧ Q H') X.xe s
section
variable {X : Cx} {pos : Pos}
def gName (i : Nat) : TG := fun v σ H Q => Q (σ.set i (some v)) H
theorem pg_name {i : Nat} {x : Str} (hN : X.N.Nodup) (hi : X.N[i]? = some x) (hx : Loc X.env.scope x) (hf : X.fn x = true ∨ X.env.scope.names.lookup x = some .local := by first | exact .inl rfl | exact .inr rfl | assumption) : PG X (.Name x pos) (gName i) := by
  intro pins s σ H v u Q I r h
  exact wpAny_assign_Name (store_ok I hN hi hx r (fun s' I' => ⟨_, H, I', h⟩) hf)
def gNil : TGs := fun vs σ H Q => vs = [] ∧ Q σ H
def gCons (t : TG) (u : TGs) : TGs := fun vs σ H Q => ∃ v r, vs = v :: r ∧ t v σ H fun σ' H' => u r σ' H' Q
theorem pgs_nil : PGs X [] gNil := by
  intro pins s σ H vs us Q I r h
  obtain ⟨e, h⟩ := h
  subst e
  cases r
  exact assignInOrder_nil ⟨σ, H, I, h⟩
theorem pgs_cons {e : Expr} {es : List Expr} {t : TG} {u : TGs} (h1 : PG X e t) (h2 : PGs X es u)
    (hs : (assignEach (e :: es) X.env).map (·.2) = assign e X.env :: (assignEach es X.env).map (·.2) := by rfl) : PGs X (e :: es) (gCons t u) := by
  intro pins s σ H vs us Q I r h
  obtain ⟨v, vr, e1, h⟩ := h
  subst e1
  cases r with
  | cons r rr =>
    rw [hs]
    refine assignInOrder_cons (thn (h1 pins s σ H _ _ _ I r h) fun _ s1 ⟨σ1, H1, I1, q1⟩ => ?_)
    exact h2 pins s1 σ1 H1 _ _ Q I1 rr q1
/-- (a, b, ..) = a tuple of that length -/
def gTup (K : PySem.W.Frag) (n : Nat) (t : TGs) : TG := fun v σ H Q => ∃ a xs, v = .ref a ∧ SqT K H a xs ∧ xs.length = n ∧ t xs σ H Q
theorem pg_tup {es : List Expr} {k : Nat} {t : TGs} {n : Nat} (hc : X.calm = true) (h : PGs X es t)
    (hn : (assignEach es X.env).length = n := by rfl) (hst : (assignEach es X.env).findIdx? (·.1) = none := by rfl) : PG X (.Tuple es k pos) (gTup X.K n t) := by
  intro pins s σ H v u Q I r hw
  obtain ⟨a, xs, e1, hq, hl, hw⟩ := hw
  subst e1
  cases r
  obtain ⟨its, rv, ht, hz⟩ := I.tuple hq
  refine assign_Tuple_tuple (I.ok.hd hc) ht (by simp [hn, ← hl, rv.length]) hst fun h' hx => ?_
  have I1 : Inv X pins σ H { s with heap := h' } := I.kept (t' := s.toks) fun b o e => hx b o (Nat.ne_of_lt (Heap.lt_size e)) e
  exact h pins _ σ H xs _ Q I1 (by simpa using rv) hw
/-- o[i] = .. -/
def gSub (to ti : TE) (t : TSet) : TG := fun v σ H Q => to σ H fun o H1 => ti σ H1 fun i H2 => t o i v H2 fun H3 => Q σ H3
theorem pg_sub {o i : Expr} {to ti : TE} {t : TSet} (ho : PE X o to) (hi : PE X i ti) (hs : PSet X t)
    (ha : ∀ v, assign (.Subscript o i pos) X.env v = (do
      let ov ← holding [v] (eval o X.env)
      let iv ← holding [v, ov] (eval i X.env)
      standAt pos
      holding [v, ov, iv] (setItem ov iv v)
      release [v, ov, iv] []) := by intro _; rfl) : PG X (.Subscript o i pos) (gSub to ti t) := by
  intro pins s σ H v u Q I r h
  rw [ha]
  refine wpAny_bind (wpAny_holding (thn (ho pins s σ H _ I h) fun ov s1 ⟨x, H1, I1, r1, q1⟩ => ?_))
  refine wpAny_bind (wpAny_holding (thn (hi pins s1 σ H1 _ I1 q1) fun iv s2 ⟨y, H2, I2, r2, q2⟩ => ?_))
  refine wpAny_bind (wpAny_standAt (wpAny_bind (wpAny_holding (thn (hs pins s2 σ H2 x y v ov iv u _ I2 r1 r2 r q2) fun _ s3 ⟨H3, I3, q3⟩ => ?_))))
  exact wpAny_release ⟨σ, H3, I3, q3⟩
/-- target = value -/
def tAsg (te : TE) (g : TG) : TS := fun D σ H => te σ H fun x H1 => g x σ H1 D.nx
theorem ps_asg {tg e : Expr} {te : TE} {g : TG} (he : PE X e te) (hg : PG X tg g) (hs : swapsWithSole [tg] e pos.line X.env = pure false := by rfl) (hw : swappedStores [tg] e X.env = pure none := by rfl)
    (h1 : (assignEach [tg] X.env).map (·.2) = [assign tg X.env] := by rfl) : PS X (.Assign [tg] e pos) (tAsg te g) := by
  intro pins s σ H D I h
  refine wpAny_Assign_stores (thn (he pins s σ H _ I h) fun v s1 ⟨x, H1, I1, r1, q1⟩ => ?_) hs hw
  rw [h1]
  exact thn (hg pins s1 σ H1 x v _ I1 r1 q1) fun _ s2 q => q
/-- name = value -/
theorem ps_set {i : Nat} {x : Str} {e : Expr} {te : TE} {pos' : Pos} (hN : X.N.Nodup) (hi : X.N[i]? = some x) (hx : Loc X.env.scope x) (he : PE X e te) (hs : swapsWith e (some (.Name x pos')) pos.line X.env = pure false := by rfl) (hf : X.fn x = true ∨ X.env.scope.names.lookup x = some .local := by first | exact .inl rfl | exact .inr rfl | assumption) :
    PS X (.Assign [.Name x pos'] e pos) (tAsg te (gName i)) := by
  intro pins s σ H D I h
  refine wpAny_Assign_Name (thn (he pins s σ H _ I h) fun v s1 ⟨y, H1, I1, r1, q1⟩ => ?_) hs
  exact store_ok I1 hN hi hx r1 (fun s2 I2 => ⟨_, H1, I2, q1⟩) hf
end

section
variable {X : Cx} {pos : Pos}
end

/-- at turn i: it yields x (the heap may grow), or it stops -/
structure It where
  go : Nat → Hp → Prop
  yld : Nat → Hp → V → Hp → Prop
  stop : Nat → Hp → Prop
/-- the iterator's own objects may turn: they are not the frame's, not pinned, younger than the entry (or a comprehension's own) -/
def FpOk (X : Cx) (pins : List (Addr × Obj)) (H : Hp) (b : Addr) : Prop :=
  H b = none ∧ b ≠ X.env.locals ∧ b ∉ X.fs ∧ (b ∈ X.ex ∨ X.s₀.heap.objs.size ≤ b) ∧ (∀ x c, X.env.cells.lookup x = some c → c ≠ b) ∧ ∀ p ∈ X.pn ++ pins, p.1 ≠ b
theorem Inv.fpOk {X : Cx} {pins : List (Addr × Obj)} {σ : St} {H H' : Hp} {s : Shared} {b : Addr} (I : Inv X pins σ H s) (hb : s.heap.objs.size ≤ b) (hn : H' b = none) : FpOk X pins H' b := by
  refine ⟨hn, Nat.ne_of_gt (Nat.lt_of_lt_of_le I.lt hb), I.nofs hb, .inr (Nat.le_trans I.sz hb), fun x c e z => ?_, fun p hp z => ?_⟩
  · obtain ⟨v, q⟩ := I.cell x c e
    exact absurd (Nat.lt_of_lt_of_le q.lt (by rw [z]; exact hb)) (Nat.lt_irrefl _)
  · exact absurd (Nat.lt_of_lt_of_le (Heap.lt_size (I.pin p hp).1) (by rw [z]; exact hb)) (Nat.lt_irrefl _)
structure Turn (P : Program) (w : World) (K : PySem.W.Frag) (tg : Expr) (J : It) (fp : List Addr) (it : Addr) (tn : Nat → Heap → Prop) : Prop where
  mem : it ∈ fp
  obj : ∀ i h, tn i h → ∀ b ∈ fp, ∃ o, h.get? b = some o ∧ ∀ v, o.data ≠ .cell v
  keep : ∀ i h h', tn i h → (∀ b ∈ fp, ∀ o, h.get? b = some o → h'.get? b = some o) → tn i h'
  item : ∀ (X : Cx), X.prog = P → X.w = w → X.K = K → X.calm = true → ∀ (i : Nat) (pins : List (Addr × Obj)) (s : Shared) (σ : St) (H : Hp) (E : Value → Shared → Prop), Inv X pins σ H s → (∀ b ∈ fp, FpOk X pins H b) → tn i s.heap → J.go i H →
    wpAny (model P w) X.A (pyNext (.ref it)) (fun r s1 => ∃ u, r = some u ∧
      wpAny (model P w) X.A (letOwnedTupleGo tg (.ref it) u) (fun _ s2 => ∃ x H', Inv X pins σ H' s2 ∧ RelV x u ∧ J.yld i H x H' ∧ tn (i + 1) s2.heap ∧ ∀ b ∈ fp, H' b = none) E s1) E s
  done : ∀ (X : Cx), X.prog = P → X.w = w → X.K = K → X.calm = true → ∀ (i : Nat) (pins : List (Addr × Obj)) (s : Shared) (σ : St) (H : Hp) (E : Value → Shared → Prop), Inv X pins σ H s → (∀ b ∈ fp, FpOk X pins H b) → tn i s.heap → J.stop i H →
    wpAny (model P w) X.A (pyNext (.ref it)) (fun r s1 => r = none ∧ Inv X pins σ H s1) E s
  self : ∀ (A : Around) (i : Nat) (s : Shared) (Q : Value → Shared → Prop) (E : Value → Shared → Prop), tn i s.heap → Q (.ref it) s → wpAny (model P w) A (pyIter (.ref it)) Q E s
abbrev TI := St → Hp → (It → Hp → Prop) → Prop
/-- an iterator has come -/
def PIE (X : Cx) (pins : List (Addr × Obj)) (σ : St) (tg : Expr) (R : It → Hp → Prop) (itv : Value) (s2 : Shared) : Prop :=
  ∃ (it : Addr) (fp : List Addr) (tn : Nat → Heap → Prop) (J : It) (H' : Hp), itv = .ref it ∧ Inv X pins σ H' s2 ∧ Turn X.prog X.w X.K tg J fp it tn ∧ tn 0 s2.heap ∧ (∀ b ∈ fp, FpOk X pins H' b) ∧ R J H'
def PI (X : Cx) (tg iter : Expr) (wi : TI) : Prop :=
  ∀ (pins : List (Addr × Obj)) (s : Shared) (σ : St) (H : Hp) (R : It → Hp → Prop), Inv X pins σ H s → wi σ H R →
    wpAny (model X.prog X.w) X.A (eval iter X.env) (fun v s1 => wpAny (model X.prog X.w) X.A (pyIter v) (PIE X pins σ tg R) X.xe s1) X.xe s

/-- the step ahead of the store is nothing for an iterator that keeps no tuple -/
theorem go_of {M : Model} {A : Around} {E : Value → Shared → Prop} {s : Shared} {tg : Expr} {it : Addr} {u : Value} {o : Obj} {n : String} {vs : Array Value} {Q : Unit → Shared → Prop} (ho : s.heap.get? it = some o) (hc : o.cls = .type n) (hd : o.data = .fields vs)
    (hn : ["enumerate", "zip", "dict_itemiterator", "dict_reverseitemiterator", "odict_iterator", "itertools.zip_longest", "itertools.pairwise"].contains n = false) (hQ : Q () s) : wpAny M A (letOwnedTupleGo tg (.ref it) u) Q E s := by
  unfold letOwnedTupleGo
  cases tg <;> first
    | exact wpAny_pure hQ
    | (cases u <;> first
        | exact wpAny_pure hQ
        | (refine wpAny_bind (wpAny_load ho ?_)
           rw [hc, hd]
           show wpAny M A (if (["enumerate", "zip", "dict_itemiterator", "dict_reverseitemiterator", "odict_iterator", "itertools.zip_longest", "itertools.pairwise"].contains n && vs[0]? == some (rawInt _)) = true then _ else _) Q E s
           rw [if_neg (by intro h; rw [hn, Bool.false_and] at h; cases h)]
           exact wpAny_pure hQ))

/-- the list at a, as it stands at each turn (a loop may append to it) -/
def Itl (K : PySem.W.Frag) (a : Addr) : It :=
  ⟨fun i H => ∃ xs x, SqL K H a xs ∧ xs[i]? = some x, fun i H x H' => H' = H ∧ ∀ xs, SqL K H a xs → xs[i]? = some x, fun i H => ∃ xs, SqL K H a xs ∧ xs.length ≤ i⟩
def Itt (K : PySem.W.Frag) (a : Addr) : It :=
  ⟨fun i H => ∃ xs x, SqT K H a xs ∧ xs[i]? = some x, fun i H x H' => H' = H ∧ ∀ xs, SqT K H a xs → xs[i]? = some x, fun i H => ∃ xs, SqT K H a xs ∧ xs.length ≤ i⟩
/-- lo, lo + 1, .. (n of them) -/
def Itr (lo : Int) (n : Nat) : It := ⟨fun i _ => i < n, fun i H x H' => H' = H ∧ x = .int (lo + i), fun i _ => n ≤ i⟩
theorem turn_list {P : Program} {w : World} {K : PySem.W.Frag} {tg : Expr} (a it : Addr) : Turn P w K tg (Itl K a) [it] it (fun i h => h.IsListIter it a i) where
  mem := by simp
  obj := fun i h st b hb => by
    have e : b = it := by simpa using hb
    subst e
    obtain ⟨o, e, c, d⟩ := st
    exact ⟨o, e, fun v z => by rw [d] at z; cases z⟩
  keep := fun i h h' st k => st.at fun o e => k it (by simp) o e
  item := by
    intro X hP hw hK hc i pins s σ H E I hf st hg
    subst hP hw hK
    obtain ⟨xs, x, hq, hx⟩ := hg
    obtain ⟨its, rv, p, hz⟩ := I.list hq
    obtain ⟨u, hu, ru⟩ := rv.get hx
    obtain ⟨f0, f1, f2, f3, f4, f5⟩ := hf it (by simp)
    refine wpAny_pyNext_list_item st p.isList (x := u) (by simpa using hu) fun h' st' sb => ?_
    have I1 : Inv X pins σ H { s with heap := h' } := I.turned (t' := s.toks) (fun b o hb e => (sb.2 b hb).trans e) f0 f1 f3 f4 f5
    obtain ⟨o, e, c, d⟩ := id st'
    exact ⟨u, rfl, go_of (s := { s with heap := h' }) e c d (by decide) ⟨x, H, I1, ru, ⟨rfl, fun ys hy => by rw [I.list_inj hy hq]; exact hx⟩, st', fun b hb => (hf b hb).1⟩⟩
  done := by
    intro X hP hw hK hc i pins s σ H E I hf st hg
    subst hP hw hK
    obtain ⟨xs, hq, hx⟩ := hg
    obtain ⟨its, rv, p, hz⟩ := I.list hq
    obtain ⟨f0, f1, f2, f3, f4, f5⟩ := hf it (by simp)
    have hl := rv.length
    exact wpAny_pyNext_list_end (I.ok.hd hc) st p.isList (by simp; omega) fun h' eb => ⟨rfl, I.turned (t' := s.toks) (fun b o hb e => eb b o hb e) f0 f1 f3 f4 f5⟩
  self := fun _ _ _ _ _ st h => wpAny_pyIter_listiter st h
theorem turn_tuple {P : Program} {w : World} {K : PySem.W.Frag} {tg : Expr} (a it : Addr) : Turn P w K tg (Itt K a) [it] it (fun i h => h.IsTupleIter it a i) where
  mem := by simp
  obj := fun i h st b hb => by
    have e : b = it := by simpa using hb
    subst e
    obtain ⟨o, e, c, d⟩ := st
    exact ⟨o, e, fun v z => by rw [d] at z; cases z⟩
  keep := fun i h h' st k => st.at fun o e => k it (by simp) o e
  item := by
    intro X hP hw hK hc i pins s σ H E I hf st hg
    subst hP hw hK
    obtain ⟨xs, x, hq, hx⟩ := hg
    obtain ⟨its, rv, p, hz⟩ := I.tuple hq
    obtain ⟨u, hu, ru⟩ := rv.get hx
    obtain ⟨f0, f1, f2, f3, f4, f5⟩ := hf it (by simp)
    refine wpAny_pyNext_tuple_item st (show s.heap.IsTuple a its.toArray from p) (x := u) (by simpa using hu) fun h' st' sb => ?_
    have I1 : Inv X pins σ H { s with heap := h' } := I.turned (t' := s.toks) (fun b o hb e => (sb.2 b hb).trans e) f0 f1 f3 f4 f5
    obtain ⟨o, e, c, d⟩ := id st'
    exact ⟨u, rfl, go_of (s := { s with heap := h' }) e c d (by decide) ⟨x, H, I1, ru, ⟨rfl, fun ys hy => by rw [I.tuple_inj hy hq]; exact hx⟩, st', fun b hb => (hf b hb).1⟩⟩
  done := by
    intro X hP hw hK hc i pins s σ H E I hf st hg
    subst hP hw hK
    obtain ⟨xs, hq, hx⟩ := hg
    obtain ⟨its, rv, p, hz⟩ := I.tuple hq
    obtain ⟨f0, f1, f2, f3, f4, f5⟩ := hf it (by simp)
    have hl := rv.length
    exact wpAny_pyNext_tuple_end (I.ok.hd hc) st (show s.heap.IsTuple a its.toArray from p) (by simp; omega) fun h' eb => ⟨rfl, I.turned (t' := s.toks) (fun b o hb e => eb b o hb e) f0 f1 f3 f4 f5⟩
  self := fun _ _ _ _ _ st h => wpAny_pyIter_tupleiter st h
theorem turn_range {P : Program} {w : World} {K : PySem.W.Frag} {tg : Expr} (it : Addr) (lo : Int) (n : Nat) : Turn P w K tg (Itr lo n) [it] it (fun i h => IsRangeIter h it (lo + (i : Nat) * 1) ((n : Int) - (i : Nat)) 1) where
  mem := by simp
  obj := fun i h st b hb => by
    have e : b = it := by simpa using hb
    subst e
    exact ⟨_, st, fun v z => by
      have z' : Data.fields _ = Data.cell v := z
      cases z'⟩
  keep := fun i h h' st k => k it (by simp) _ st
  item := by
    intro X hP hw hK hc i pins s σ H E I hf st hg
    subst hP hw hK
    obtain ⟨f0, f1, f2, f3, f4, f5⟩ := hf it (by simp)
    have W := Walks.range (prog := X.prog) (w := X.w) (I.ok.hd hc) it lo 1 n
    refine W.item i s _ _ hg st fun v h' tk hv st' kk => ?_
    obtain ⟨t, rfl⟩ := hv
    have I1 : Inv X pins σ H { s with heap := h', toks := tk } := I.turned (fun b o hb e => kk b o (by simpa using hb) e) f0 f1 f3 f4 f5
    refine ⟨_, rfl, go_of (s := { s with heap := h', toks := tk }) (n := "range_iterator") st' rfl rfl (by decide) ⟨.int (lo + i), H, I1, ⟨t, ?_⟩, ⟨rfl, rfl⟩, st', fun b hb => (hf b hb).1⟩⟩
    rw [Int.mul_one]
  done := by
    intro X hP hw hK hc i pins s σ H E I hf st hg
    subst hP hw hK
    obtain ⟨f0, f1, f2, f3, f4, f5⟩ := hf it (by simp)
    exact wpAny_pyNext_range_end (I.ok.hd hc) st (by have : n ≤ i := hg; omega) fun h' eb => ⟨rfl, I.turned (t' := s.toks) (fun b o hb e => eb b o hb e) f0 f1 f3 f4 f5⟩
  self := fun _ _ _ _ _ st h => wpAny_pyIter_rangeiter st h
end L2

namespace L2
open PySem PySem.Spec PyProof.Rows
section
variable {X : Cx} {tg : Expr}
def iList (K : PySem.W.Frag) (tl : TE) : TI := fun σ H R => tl σ H fun x H1 => ∃ a, x = .ref a ∧ (∃ xs, SqL K H1 a xs) ∧ R (Itl K a) H1
def iTup (K : PySem.W.Frag) (tl : TE) : TI := fun σ H R => tl σ H fun x H1 => ∃ a, x = .ref a ∧ (∃ xs, SqT K H1 a xs) ∧ R (Itt K a) H1
theorem pi_list {l : Expr} {tl : TE} (hl : PE X l tl) : PI X tg l (iList X.K tl) := by
  intro pins s σ H R I h
  refine thn (hl pins s σ H _ I h) fun v s1 ⟨x, H1, I1, r1, q1⟩ => ?_
  obtain ⟨a, e, ⟨xs, hq⟩, q⟩ := q1
  subst e
  cases r1
  obtain ⟨its, rv, p, hz⟩ := I1.list hq
  refine wpAny_pyIter_list p.isList ?_
  refine ⟨s1.heap.objs.size, [s1.heap.objs.size], _, _, H1, rfl, I1.kept (t' := s1.toks) fun b o e => Heap.get?_push_of_some _ e, turn_list a _, ⟨_, Heap.get?_push_size _ rfl, rfl, rfl⟩, fun b hb => ?_, q⟩
  have e : b = s1.heap.objs.size := by simpa using hb
  subst e
  exact I1.fpOk (Nat.le_refl _) (I1.hok.fresh (Nat.le_refl _))
theorem pi_tup {l : Expr} {tl : TE} (hl : PE X l tl) : PI X tg l (iTup X.K tl) := by
  intro pins s σ H R I h
  refine thn (hl pins s σ H _ I h) fun v s1 ⟨x, H1, I1, r1, q1⟩ => ?_
  obtain ⟨a, e, ⟨xs, hq⟩, q⟩ := q1
  subst e
  cases r1
  obtain ⟨its, rv, p, hz⟩ := I1.tuple hq
  refine wpAny_pyIter_tuple (show s1.heap.IsTuple a its.toArray from p) ?_
  refine ⟨s1.heap.objs.size, [s1.heap.objs.size], _, _, H1, rfl, I1.kept (t' := s1.toks) fun b o e => Heap.get?_push_of_some _ e, turn_tuple a _, ⟨_, Heap.get?_push_size _ rfl, rfl, rfl⟩, fun b hb => ?_, q⟩
  have e : b = s1.heap.objs.size := by simpa using hb
  subst e
  exact I1.fpOk (Nat.le_refl _) (I1.hok.fresh (Nat.le_refl _))
/-- a range object just made, walked -/
theorem range_it {pins : List (Addr × Obj)} {σ : St} {H : Hp} {s : Shared} {R : It → Hp → Prop} {E : Value → Shared → Prop} {lo hi : Int} {t u v : Tok} {tk : Nat} (I : Inv X pins σ H s) (h1 : -(2 ^ 62) ≤ lo) (h2 : lo < 2 ^ 62) (h3 : -(2 ^ 62) ≤ hi) (h4 : hi < 2 ^ 62)
    (q : R (Itr lo (hi - lo).toNat) H) : wpAny (model X.prog X.w) X.A (pyIter (.ref s.heap.objs.size)) (PIE X pins σ tg R) E { s with heap := s.heap.push { cls := .type "range", data := .fields #[.int lo t, .int hi u, .int 1 v] }, toks := tk } := by
  refine wpAny_pyIter_range (IsRange.new ..) (small_one h1 h2 h3 h4) ?_
  have I1 : Inv X pins σ H { s with heap := s.heap.push { cls := .type "range", data := .fields #[.int lo t, .int hi u, .int 1 v] }, toks := tk } := I.kept fun b o e => Heap.get?_push_of_some _ e
  refine ⟨(s.heap.push { cls := .type "range", data := .fields #[.int lo t, .int hi u, .int 1 v] }).objs.size, [(s.heap.push { cls := .type "range", data := .fields #[.int lo t, .int hi u, .int 1 v] }).objs.size], _, _, H, rfl,
    I1.kept (t' := tk) fun b o e => Heap.get?_push_of_some _ e, turn_range _ lo (hi - lo).toNat, ?_, fun b hb => ?_, q⟩
  · have e1 : lo + ((0 : Nat) : Int) * 1 = lo := by simp
    have e2 : (((hi - lo).toNat : Nat) : Int) - ((0 : Nat) : Int) = Builtin.Range.rangeSize lo hi 1 := by rw [rangeSize_one]; split <;> omega
    show IsRangeIter _ _ (lo + ((0 : Nat) : Int) * 1) ((((hi - lo).toNat : Nat) : Int) - ((0 : Nat) : Int)) 1
    rw [e1, e2]
    exact Heap.get?_push_size _ rfl
  · have e : b = (s.heap.push { cls := .type "range", data := .fields #[.int lo t, .int hi u, .int 1 v] }).objs.size := by simpa using hb
    subst e
    exact I1.fpOk (Nat.le_refl _) (I1.hok.fresh (Nat.le_refl _))
def iRng1 (ta : TA) : TI := fun σ H R => ta σ H fun vs H1 => ∃ j : Int, vs = [.int j] ∧ -(2 ^ 62) ≤ j ∧ j < 2 ^ 62 ∧ R (Itr 0 j.toNat) H1
def iRng2 (ta : TA) : TI := fun σ H R => ta σ H fun vs H1 => ∃ i j : Int, vs = [.int i, .int j] ∧ (-(2 ^ 62) ≤ i ∧ i < 2 ^ 62 ∧ -(2 ^ 62) ≤ j ∧ j < 2 ^ 62) ∧ R (Itr i (j - i).toNat) H1
theorem pi_range1 {a : Expr} {ta : TA} {p pos : Pos} (hg : Gl X "range") (hm : X.mg "range" = none) (ha : PA X [a] ta) (hs : starEach [a] X.env = [(false, eval a X.env)] := by rfl) : PI X tg (.Call (.Name "range" p) [a] [] pos) (iRng1 ta) := by
  intro pins s σ H R I h
  refine Call_ (ld_blt I hg hm boot_range (PyProof.Rows.callWith_type1 (thn (ha pos pins s σ H _ I h) fun us s1 ⟨vs, H1, I1, r1, q1⟩ => ?_) hs rfl))
  obtain ⟨j, e, q1, q2, q⟩ := q1
  subst e
  cases r1 with
  | cons r rr =>
    cases rr
    obtain ⟨t, rfl⟩ := r
    exact call_range_1 (range_it I1 (by omega) (by omega) q1 q2 (by simpa using q))
theorem pi_range2 {a b : Expr} {ta : TA} {p pos : Pos} (hg : Gl X "range") (hm : X.mg "range" = none) (ha : PA X [a, b] ta) (hs : starEach [a, b] X.env = [(false, eval a X.env), (false, eval b X.env)] := by rfl) (hs2 : starEach [b] X.env = [(false, eval b X.env)] := by rfl) :
    PI X tg (.Call (.Name "range" p) [a, b] [] pos) (iRng2 ta) := by
  intro pins s σ H R I h
  refine Call_ (ld_blt I hg hm boot_range (PyProof.Rows.callWith_type1 (thn (ha pos pins s σ H _ I h) fun us s1 ⟨vs, H1, I1, r1, q1⟩ => ?_) (by rw [hs, hs2]) (by rw [hs2]; rfl)))
  obtain ⟨i, j, e, ⟨q1, q2, q3, q4⟩, q⟩ := q1
  subst e
  cases r1 with
  | cons r rr =>
    cases rr with
    | cons r' rr =>
      cases rr
      obtain ⟨t, rfl⟩ := r
      obtain ⟨t', rfl⟩ := r'
      exact call_range_2 (range_it I1 q1 q2 q3 q4 q)

/-- W: the invariant by the turn and a measure; N: what the body is to reach -/
def tFor (wi : TI) (g : TG) (tb : TS) : TS := fun D σ H => wi σ H fun J H1 => ∃ W : Nat → Nat → St → Hp → Prop, (∃ m, W 0 m σ H1) ∧ ∀ i m σ H, W i m σ H →
  (J.stop i H ∧ D.nx σ H) ∨ (J.go i H ∧ ∃ N : St → Hp → Prop, (∀ σ' H', N σ' H' → ∃ m', m' < m ∧ W (i + 1) m' σ' H') ∧ ∀ x H', J.yld i H x H' → g x σ H' fun σ2 H2 => tb { D with nx := N, ct := N, bk := D.nx } σ2 H2)
/-- the records at fp as they stand -/
def pinsAt (fp : List Addr) (h : Heap) : List (Addr × Obj) := fp.filterMap fun b => (h.get? b).map fun o => (b, o)
theorem mem_pinsAt {fp : List Addr} {h : Heap} {b : Addr} {o : Obj} (hb : b ∈ fp) (e : h.get? b = some o) : (b, o) ∈ pinsAt fp h := List.mem_filterMap.mpr ⟨b, hb, by rw [e]; rfl⟩
theorem of_pinsAt {fp : List Addr} {h : Heap} {p : Addr × Obj} (hp : p ∈ pinsAt fp h) : p.1 ∈ fp ∧ h.get? p.1 = some p.2 := by
  obtain ⟨b, hb, e⟩ := List.mem_filterMap.mp hp
  cases q : h.get? b with
  | none => rw [q] at e; cases e
  | some o =>
    rw [q] at e
    have e' : (b, o) = p := Option.some.inj e
    subst e'
    exact ⟨hb, q⟩
theorem Inv.pinned {pins : List (Addr × Obj)} {σ : St} {H : Hp} {s : Shared} {fp : List Addr} (I : Inv X pins σ H s) (hf : ∀ b ∈ fp, FpOk X pins H b) (ho : ∀ b ∈ fp, ∃ o, s.heap.get? b = some o ∧ ∀ v, o.data ≠ .cell v) : Inv X (pins ++ pinsAt fp s.heap) σ H s :=
  I.pins_of fun p hp => (List.mem_append.mp hp).elim (fun z => I.pin p (List.mem_append_right _ z)) fun z => by
    obtain ⟨hb, e⟩ := of_pinsAt z
    obtain ⟨f0, f1, f2, _⟩ := hf p.1 hb
    obtain ⟨o, e', d⟩ := ho p.1 hb
    rw [e] at e'; cases e'
    exact ⟨e, f0, f1, f2, d⟩
theorem Inv.unpinned {pins pl : List (Addr × Obj)} {σ : St} {H : Hp} {s : Shared} (I : Inv X (pins ++ pl) σ H s) : Inv X pins σ H s := I.pins_of fun p hp => I.pin p (List.mem_append_right _ (List.mem_append_left _ hp))
theorem ps_for {iter : Expr} {body : List Stmt} {wi : TI} {g : TG} {tb : TS} {pos : Pos} (hp : PassesOwn (model X.prog X.w) X.A X.env X.xe) (hc : X.calm = true) (hi : PI X tg iter wi) (hg : PG X tg g) (hb : PSs X body tb)
    (hs : ∀ x, foldedSetIterable iter X.env x = pure x := by intro _; rfl) : PS X (.For tg iter body [] pos) (tFor wi g tb) := by
  intro pins s σ H D I h
  refine wpAny_For (thn (hi pins s σ H _ I h) fun v s1 h1 => thn h1 fun itv s2 h2 => ?_) hs
  obtain ⟨it, fp, tn, J, H2, e, I2, T, st2, f2, W, ⟨m0, w0⟩, turn⟩ := h2
  subst e
  -- what stays true of the iterator's objects through the loop
  have stat : ∀ {H' : Hp}, (∀ b ∈ fp, H' b = none) → ∀ b ∈ fp, FpOk X pins H' b := fun hn b hb => ⟨hn b hb, (f2 b hb).2⟩
  refine codeAny_forLoop_any (fun n s' => ∃ i σ' H', Inv X pins σ' H' s' ∧ tn i s'.heap ∧ (∀ b ∈ fp, H' b = none) ∧ W i n σ' H') ?_ m0 ⟨0, σ, H2, I2, st2, fun b hb => (f2 b hb).1, w0⟩
  rintro n s3 ⟨i, σ3, H3, I3, st3, fr3, w3⟩
  rcases turn i n σ3 H3 w3 with ⟨stop, qn⟩ | ⟨go, N, hN, step⟩
  · refine wpAny_passesOwn hp (thn (T.done X rfl rfl rfl hc i pins s3 σ3 H3 X.xe I3 (stat fr3) st3 stop) fun r s4 ⟨hr, I4⟩ => ?_)
    subst hr
    exact wpAny_execs_nil ⟨σ3, H3, I4, qn⟩
  · refine wpAny_passesOwn hp (thn (T.item X rfl rfl rfl hc i pins s3 σ3 H3 X.xe I3 (stat fr3) st3 go) fun r s4 ⟨u, hr, h4⟩ => ?_)
    subst hr
    refine wpAny_passesOwn hp (thn h4 fun _ s5 ⟨x, H5, I5, r5, y5, st5, fr5⟩ => ?_)
    have I5' := I5.pinned (stat fr5) (T.obj _ _ st5)
    refine wpAny_passesOwn hp (thn (hg _ s5 σ3 H5 x u _ I5' r5 (step x H5 y5)) fun _ s6 ⟨σ6, H6, I6, q6⟩ => ?_)
    refine wpAny_passesOwn hp (thn (hb _ s6 σ6 H6 _ I6 q6) fun f s7 q7 => ?_)
    have again : ∀ {σ7 : St} {H7 : Hp}, Inv X (pins ++ pinsAt fp s5.heap) σ7 H7 s7 → N σ7 H7 → ∃ m, m < n ∧ ∃ i σ' H', Inv X pins σ' H' s7 ∧ tn i s7.heap ∧ (∀ b ∈ fp, H' b = none) ∧ W i m σ' H' := fun {σ7 H7} I7 n7 => by
      obtain ⟨m', hm, w7⟩ := hN σ7 H7 n7
      refine ⟨m', hm, i + 1, σ7, H7, I7.unpinned, T.keep _ _ _ st5 fun b hb o e => (I7.pin (b, o) (List.mem_append_right _ (List.mem_append_right _ (mem_pinsAt hb e)))).1, fun b hb => ?_, w7⟩
      obtain ⟨o, e, d⟩ := T.obj _ _ st5 b hb
      exact (I7.pin (b, o) (List.mem_append_right _ (List.mem_append_right _ (mem_pinsAt hb e)))).2.1
    cases f with
    | next => obtain ⟨σ7, H7, I7, n7⟩ := q7; exact again I7 n7
    | cont => obtain ⟨σ7, H7, I7, n7⟩ := q7; exact again I7 n7
    | brk => obtain ⟨σ7, H7, I7, q7⟩ := q7; exact ⟨σ7, H7, I7.unpinned, q7⟩
    | ret v => obtain ⟨x7, σ7, H7, I7, r7, q7⟩ := q7; exact ⟨x7, σ7, H7, I7.unpinned, r7, q7⟩
end

end L2

namespace L2
open PySem PySem.Spec PyProof.Rows

abbrev R2 := V → V → Hp → VK → Prop
/-- a two-place operation on values: f is binaryOp op, inplaceOp op or compareOp op -/
def OpR (X : Cx) (f : Value → Value → Sem Value) (r : R2) : Prop :=
  ∀ (pins : List (Addr × Obj)) (s : Shared) (σ : St) (H : Hp) (x y : V) (v u : Value) (Q : VK), Inv X pins σ H s → RelV x v → RelV y u → r x y H Q →
    wpAny (model X.prog X.w) X.A (f v u) (EP X pins σ Q) X.xe s
/-- a call of a value that is known (a builtin, a type) with values -/
def CallR (X : Cx) (f : Value) (r : List V → Hp → VK → Prop) : Prop :=
  ∀ (pins : List (Addr × Obj)) (s : Shared) (σ : St) (H : Hp) (xs : List V) (us : List Value) (Q : VK), Inv X pins σ H s → Vals xs us → r xs H Q →
    wpAny (model X.prog X.w) X.A (call f us) (EP X pins σ Q) X.xe s
/-- a value's truth -/
def TruR (X : Cx) (r : V → Hp → (Bool → Hp → Prop) → Prop) : Prop :=
  ∀ (pins : List (Addr × Obj)) (s : Shared) (σ : St) (H : Hp) (x : V) (v : Value) (Q : Bool → Hp → Prop), Inv X pins σ H s → RelV x v → r x H Q →
    wpAny (model X.prog X.w) X.A (truthy v) (TP X pins σ Q) X.xe s

def tOp (r : R2) (ta tb : TE) : TE := fun σ H Q => ta σ H fun x H1 => tb σ H1 fun y H2 => r x y H2 Q
/-- ints in, under C, and a value out -/
def rI (C : Int → Int → Prop) (g : Int → Int → V) : R2 := fun x y H Q => ∃ i j, x = .int i ∧ y = .int j ∧ C i j ∧ Q (g i j) H
def rI0 (g : Int → Int → V) : R2 := fun x y H Q => ∃ i j, x = .int i ∧ y = .int j ∧ Q (g i j) H
section
variable {X : Cx} {a b c : Expr} {ta tb tc : TE} {pos : Pos}

theorem binT (ha : PE X a ta) (hb : PE X b tb) {pins : List (Addr × Obj)} {s : Shared} {σ : St} {H : Hp} {R : V → V → Hp → Prop} (I : Inv X pins σ H s)
    (h : ta σ H fun x H1 => tb σ H1 fun y H2 => R x y H2) {Q : Value → Shared → Prop} {f : Value → Value → Sem Value}
    (hf : ∀ v u s2 x y H2, Inv X pins σ H2 s2 → RelV x v → RelV y u → R x y H2 → wpAny (model X.prog X.w) X.A (f v u) Q X.xe s2) :
    wpAny (model X.prog X.w) X.A (eval a X.env) (fun v s₁ => wpAny (model X.prog X.w) X.A (eval b X.env) (fun u s₂ => wpAny (model X.prog X.w) X.A (f v u) Q X.xe s₂) X.xe s₁) X.xe s := by
  refine thn (ha pins s σ H _ I h) fun v s1 ⟨x, H1, I1, r1, q1⟩ => ?_
  refine thn (hb pins s1 σ H1 _ I1 q1) fun u s2 ⟨y, H2, I2, r2, q2⟩ => ?_
  exact hf v u s2 x y H2 I2 r1 r2 q2

theorem pe_op {op : Operator} {r : R2} (ho : OpR X (binaryOp op) r) (ha : PE X a ta) (hb : PE X b tb) : PE X (.BinOp a op b pos) (tOp r ta tb) := by
  intro pins s σ H Q I h
  exact wpAny_BinOp (binT ha hb I h fun v u s2 x y H2 I2 rx ry q => ho pins s2 σ H2 x y v u Q I2 rx ry q)
theorem opI {f : Value → Value → Sem Value} {C : Int → Int → Prop} {g : Int → Int → Int}
    (rule : ∀ (i j : Int) (t u : Tok) (s : Shared) (Q : Value → Shared → Prop) (E : Value → Shared → Prop), C i j → Q (.int (g i j) s.toks) { s with toks := s.toks + 1 } → wpAny (model X.prog X.w) X.A (f (.int i t) (.int j u)) Q E s) :
    OpR X f (rI C fun i j => .int (g i j)) := by
  intro pins s σ H x y v u Q I rx ry h
  obtain ⟨i, j, rfl, rfl, hc, q⟩ := h
  obtain ⟨t, rfl⟩ := rx
  obtain ⟨t', rfl⟩ := ry
  exact rule i j t t' s _ _ hc ⟨.int (g i j), H, I.tok _, ⟨_, rfl⟩, q⟩
theorem opI0 {f : Value → Value → Sem Value} {g : Int → Int → Int}
    (rule : ∀ (i j : Int) (t u : Tok) (s : Shared) (Q : Value → Shared → Prop) (E : Value → Shared → Prop), Q (.int (g i j) s.toks) { s with toks := s.toks + 1 } → wpAny (model X.prog X.w) X.A (f (.int i t) (.int j u)) Q E s) :
    OpR X f (rI0 fun i j => .int (g i j)) := by
  intro pins s σ H x y v u Q I rx ry h
  obtain ⟨i, j, rfl, rfl, q⟩ := h
  obtain ⟨t, rfl⟩ := rx
  obtain ⟨t', rfl⟩ := ry
  exact rule i j t t' s _ _ ⟨.int (g i j), H, I.tok _, ⟨_, rfl⟩, q⟩
theorem opB0 {f : Value → Value → Sem Value} {g : Int → Int → Bool}
    (rule : ∀ (i j : Int) (t u : Tok) (s : Shared) (Q : Value → Shared → Prop) (E : Value → Shared → Prop), Q (.bool (g i j)) s → wpAny (model X.prog X.w) X.A (f (.int i t) (.int j u)) Q E s) :
    OpR X f (rI0 fun i j => .bl (g i j)) := by
  intro pins s σ H x y v u Q I rx ry h
  obtain ⟨i, j, rfl, rfl, q⟩ := h
  obtain ⟨t, rfl⟩ := rx
  obtain ⟨t', rfl⟩ := ry
  exact rule i j t t' s _ _ ⟨.bl (g i j), H, I, rfl, q⟩

def CDiv (i j : Int) : Prop := 0 < j ∧ j < 1073741824
def CPow (i j : Int) : Prop := 0 ≤ j ∧ j ≤ 1000000 ∧ i.natAbs < 2 ^ 64
def CMul (i j : Int) : Prop := (-(2 ^ 64) < i ∧ i < 2 ^ 64) ∨ (-(2 ^ 64) < j ∧ j < 2 ^ 64)
theorem CMul.ok {i j : Int} (h : CMul i j) : IntMulOk i j := by
  rcases h with ⟨h1, h2⟩ | ⟨h1, h2⟩
  · exact .of_left (intBits_le_64 h1 h2)
  · exact .of_right (intBits_le_64 h1 h2)
theorem op_add : OpR X (binaryOp .Add) (rI0 fun i j => .int (i + j)) := opI0 fun _ _ _ _ _ _ _ q => add_int q
theorem op_sub : OpR X (binaryOp .Sub) (rI0 fun i j => .int (i - j)) := opI0 fun _ _ _ _ _ _ _ q => sub_int q
theorem op_mul : OpR X (binaryOp .Mult) (rI CMul fun i j => .int (i * j)) := opI fun _ _ _ _ _ _ _ hc q => mul_int q hc.ok
/-- // by a positive divisor -/
theorem op_fdiv : OpR X (binaryOp .FloorDiv) (rI CDiv fun i j => .int (i / j)) := opI fun i j _ _ _ _ _ hc q => by
  have h1 : (0 : Int) < j := hc.1
  have h2 : j < 1073741824 := hc.2
  exact floordiv_int (by omega) (by rw [Int.fdiv_eq_ediv_of_nonneg i (by omega)]; exact q) (.inl (PyProof.noPylong_small (by omega)))
/-- % by a positive divisor of any size -/
theorem op_mod : OpR X (binaryOp .Mod) (rI (fun _ j => 0 < j) fun i j => .int (i % j)) := opI fun i j _ _ _ _ _ hc q => by
  have h1 : (0 : Int) < j := hc
  exact mod_int' (by omega) (by rw [Int.fmod_eq_emod_of_nonneg i (by omega)]; exact q)
theorem op_pow : OpR X (binaryOp .Pow) (rI CPow fun i j => .int (i ^ j.toNat)) := opI fun _ _ _ _ _ _ _ hc q => pow_int_small hc.1 hc.2.1 hc.2.2 q
end

section
variable {X : Cx} {a b c : Expr} {ta tb tc : TE} {pos : Pos}
theorem fin_bl {pins : List (Addr × Obj)} {σ : St} {H : Hp} {s : Shared} {Q : VK} {k k' : Bool} (I : Inv X pins σ H s) (q : Q (.bl k) H) (e : k = k') : EP X pins σ Q (.bool k') s := by
  subst e
  exact ⟨.bl k, H, I, rfl, q⟩
theorem op_lt : OpR X (compareOp .Lt) (rI0 fun i j => .bl (decide (i < j))) := opB0 fun _ _ _ _ _ _ _ q => lt_int q
theorem op_le : OpR X (compareOp .LtE) (rI0 fun i j => .bl (decide (i ≤ j))) := opB0 fun _ _ _ _ _ _ _ q => le_int q
theorem op_gt : OpR X (compareOp .Gt) (rI0 fun i j => .bl (decide (j < i))) := opB0 fun _ _ _ _ _ _ _ q => gt_int q
theorem op_ge : OpR X (compareOp .GtE) (rI0 fun i j => .bl (decide (j ≤ i))) := opB0 fun _ _ _ _ _ _ _ q => ge_int q
/-- is None, is not None: the right side a value none -/
theorem op_isN : OpR X (compareOp .Is) (fun x y H Q => y = .non ∧ Q (.bl (decide (x = .non))) H) := by
  intro pins s σ H x y v u Q I rx ry h
  obtain ⟨rfl, q⟩ := h
  cases ry
  refine is_none_gen (fin_bl I q ?_)
  cases x <;> first
    | (cases rx; rfl)
    | (obtain ⟨t, rfl⟩ := rx; rfl)
theorem op_notN : OpR X (compareOp .IsNot) (fun x y H Q => y = .non ∧ Q (.bl (!decide (x = .non))) H) := by
  intro pins s σ H x y v u Q I rx ry h
  obtain ⟨rfl, q⟩ := h
  cases ry
  refine isnot_none_gen (fin_bl I q ?_)
  cases x <;> first
    | (cases rx; rfl)
    | (obtain ⟨t, rfl⟩ := rx; rfl)

/-- two rules for one operation: by cases -/
theorem OpR.or {f : Value → Value → Sem Value} {r r' : R2} (h : OpR X f r) (h' : OpR X f r') : OpR X f (fun x y H Q => r x y H Q ∨ r' x y H Q) := by
  intro pins s σ H x y v u Q I rx ry q
  rcases q with q | q
  · exact h pins s σ H x y v u Q I rx ry q
  · exact h' pins s σ H x y v u Q I rx ry q

theorem nomark (b : Expr) {op : CmpOp} (h : op ≠ .In := by decide) (h2 : op ≠ .NotIn := by decide) : behindInMarks op b = false := by
  have e1 : (op == CmpOp.In) = false := by cases op <;> first | rfl | exact absurd rfl h
  have e2 : (op == CmpOp.NotIn) = false := by cases op <;> first | rfl | exact absurd rfl h2
  cases b <;> simp [behindInMarks, e1, e2]
/-- a comparison as a value; hm: nomark b, or (for in, not in) by with_unfolding_all rfl -/
theorem pe_cmpR {op : CmpOp} {r : R2} (ho : OpR X (compareOp op) r) (ha : PE X a ta) (hb : PE X b tb) (hm : behindInMarks op b = false) : PE X (.Compare a [op] [b] pos) (tOp r ta tb) := by
  intro pins s σ H Q I h
  exact wpAny_Compare1 (binT ha hb I h fun v u s2 x y H2 I2 rx ry q => ho pins s2 σ H2 x y v u Q I2 rx ry q) hm
/-- a reading of a value as a test -/
def tTest (t : TE) : TT := fun σ H Q => t σ H fun x H' => ∃ k, x = .bl k ∧ Q k H'
theorem pt_cmpR {op : CmpOp} {r : R2} (ho : OpR X (compareOp op) r) (ha : PE X a ta) (hb : PE X b tb) (hm : behindInMarks op b = false) : PT X (.Compare a [op] [b] pos) (tTest (tOp r ta tb)) := by
  intro pins s σ H Q I h
  refine wpAny_isTrue_Compare1 (thn (ha pins s σ H _ I h) fun v s1 ⟨x, H1, I1, r1, q1⟩ => thn (hb pins s1 σ H1 _ I1 q1) fun u s2 ⟨y, H2, I2, r2, q2⟩ =>
    thn (ho pins s2 σ H2 x y v u _ I2 r1 r2 q2) fun c s3 ⟨z, H3, I3, r3, k, e, q3⟩ => ?_) hm
  subst e
  cases r3
  exact wpAny_truthy_bool ⟨H3, I3, q3⟩
/-- a value's truth by the abstract heap -/
def TruV (K : PySem.W.Frag) (x : V) (H : Hp) (k : Bool) : Prop :=
  match x with
  | .non => k = false
  | .bl b => k = b
  | .int i => k = (i != 0)
  | .str y => y.length ≤ sizeLine ∧ k = ((y.length : Int) != 0)
  | .byt y => y.size ≤ sizeLine ∧ k = ((y.size : Int) != 0)
  | .ref p => (∃ xs, SqL K H p xs ∧ k = !xs.isEmpty) ∨ (∃ xs, SqT K H p xs ∧ k = !xs.isEmpty) ∨ ∃ kvs, H p = some (.dK kvs) ∧ k = !kvs.isEmpty
  | _ => False
theorem isEmpty_kv {κ : Type} {kvs : List (κ × V)} {vs : List (κ × Value)} (r : KV kvs vs) : (!vs.isEmpty) = !kvs.isEmpty := by
  cases r <;> rfl
theorem isEmpty_of {xs : List V} {its : List Value} (r : Vals xs its) : (!its.toArray.isEmpty) = !xs.isEmpty := by
  cases r <;> simp
theorem line63 : (sizeLine : Nat) < 2 ^ 63 := by rw [sizeLine_eq]; decide
theorem tru_ok : TruR X (fun x H Q => ∃ k, TruV X.K x H k ∧ Q k H) := by
  intro pins s σ H x v Q I rx h
  obtain ⟨k, e, q⟩ := h
  have hl := line63
  have hs : sizeLine = 16777216 := sizeLine_eq
  cases x with
  | non =>
    cases rx
    have e' : k = false := e
    subst e'
    exact truthy_none ⟨H, I, q⟩
  | bl b =>
    cases rx
    have e' : k = b := e
    subst e'
    exact wpAny_truthy_bool ⟨H, I, q⟩
  | int i =>
    obtain ⟨t, rfl⟩ := rx
    have e' : k = (i != 0) := e
    subst e'
    exact PySem.P.truthy_int ⟨H, I, q⟩
  | str y =>
    obtain ⟨t, rfl⟩ := rx
    obtain ⟨hy, e'⟩ : y.length ≤ sizeLine ∧ k = ((y.length : Int) != 0) := e
    subst e'
    exact PySem.P.truthy_str (by omega) ⟨H, I.tok _, q⟩
  | byt y =>
    obtain ⟨t, rfl⟩ := rx
    obtain ⟨hy, e'⟩ : y.size ≤ sizeLine ∧ k = ((y.size : Int) != 0) := e
    subst e'
    exact PySem.W.truthy_bytes (by omega) ⟨H, I.tok _, q⟩
  | ref p =>
    cases rx
    have e' : (∃ xs, SqL X.K H p xs ∧ k = !xs.isEmpty) ∨ (∃ xs, SqT X.K H p xs ∧ k = !xs.isEmpty) ∨ ∃ kvs, H p = some (.dK kvs) ∧ k = !kvs.isEmpty := e
    rcases e' with ⟨xs, hx, e'⟩ | ⟨xs, hx, e'⟩ | ⟨kvs, hx, e'⟩
    · subst e'
      obtain ⟨its, r, pl, hz⟩ := I.list hx
      have hlen := r.length
      exact wpAny_truthy_list pl.isList (by simp only [List.size_toArray]; omega) ⟨H, I.tok _, by rw [isEmpty_of r]; exact q⟩
    · subst e'
      obtain ⟨its, r, pl, hz⟩ := I.tuple hx
      have hlen := r.length
      exact truthy_tuple pl (by simp only [List.size_toArray]; omega) ⟨H, I.tok _, by rw [isEmpty_of r]; exact q⟩
    · subst e'
      obtain ⟨hz, hS, vs, r, m⟩ : kvs.length ≤ sizeLine ∧ (p == sysModules) = false ∧ ∃ vs, KV kvs vs ∧ s.heap.DictOf (mixKind X.prog X.w) p vs := I.hok p _ hx
      have hlen : kvs.length = vs.length := Paired.length r
      exact wpAny_truthy_dict hS m (by omega) ⟨H, I.tok _, by rw [isEmpty_kv r]; exact q⟩
  | _ => exact (show False from e).elim
/-- any expression whose test is its value's truth (a name, a call, a subscript, a field ..: he by fun _ => rfl) -/
theorem pt_truth (ha : PE X a ta) (he : ∀ whole, isTrue a X.env whole = (do let v ← whole; standAt a.pos; holding [v] (truthy v))) :
    PT X a (fun σ H Q => ta σ H fun x H' => ∃ k, TruV X.K x H' k ∧ Q k H') := by
  intro pins s σ H Q I h
  exact isTrue_plain (thn (ha pins s σ H _ I h) fun v s1 ⟨x, H1, I1, r1, q1⟩ => tru_ok pins s1 σ H1 x v Q I1 r1 q1) (he _)

theorem op_add_str : OpR X (binaryOp .Add) (fun x y H Q => ∃ i j, x = .str i ∧ y = .str j ∧ i.length + j.length ≤ sizeLine ∧ Q (.str (i ++ j)) H) := by
  intro pins s σ H x y v u Q I rx ry h
  obtain ⟨i, j, rfl, rfl, hz, q⟩ := h
  obtain ⟨t, rfl⟩ := rx
  obtain ⟨t', rfl⟩ := ry
  exact add_str (fun t' tk => ⟨.str (i ++ j), H, I.tok _, ⟨_, rfl⟩, q⟩) hz
theorem vals1 {x : V} {us : List Value} (r : Vals [x] us) : ∃ u, us = [u] ∧ RelV x u := by
  cases r with
  | cons r1 r2 => cases r2; exact ⟨_, rfl, r1⟩
theorem vals2 {x y : V} {us : List Value} (r : Vals [x, y] us) : ∃ u w', us = [u, w'] ∧ RelV x u ∧ RelV y w' := by
  cases r with
  | cons r1 r2 =>
    cases r2 with
    | cons r3 r4 => cases r4; exact ⟨_, _, rfl, r1, r3⟩
end
end L2

namespace L2
open PySem PySem.Spec PyProof.Rows

structure ObjM (h : Heap) (x dx C : Addr) (mA : Str → Option Value) : Prop where
  obj : h.get? x = some (PySem.W.instObj C dx)
  ns : h.Ns1 dx mA
  ne : dx ≠ x

theorem lookIn_ns {h : Heap} {dx : Addr} {mA : Str → Option Value} (n : h.Ns1 dx mA) : ∃ od, h.get? dx = some od ∧ ∀ name, PySem.W.lookIn name od = some (mA name) := by
  obtain ⟨o, es, ep, ho, hd, hk, _, hm⟩ := n
  refine ⟨o, ho, fun name => ?_⟩
  have e := hm name
  unfold nsFind findBy at e
  rw [← Array.find?_toList] at e
  unfold PySem.W.lookIn
  rw [hd]
  dsimp only
  split
  · rename_i y q
    rw [q] at e
    exact congrArg some e
  · rename_i q
    rw [q] at e
    have a : es.toList.any (·.refKey) = false := by
      rw [List.any_eq_false]
      intro y hy
      obtain ⟨z, t, hkey⟩ := hk y (Array.mem_toList_iff.mp hy)
      simp [DictEntry.refKey, hkey]
    have a' : ¬ es.toList.any (·.refKey) = true := by rw [a]; exact Bool.false_ne_true
    rw [if_neg a']
    exact congrArg some e

theorem ObjM.look {h : Heap} {x dx C : Addr} {mA : Str → Option Value} (I : ObjM h x dx C mA) : ∃ od, PySem.W.InstAt h x (PySem.W.instObj C dx) C (some od) ∧ ∀ name, PySem.W.lookIn name od = some (mA name) :=
  let ⟨od, ho, hl⟩ := lookIn_ns I.ns
  ⟨od, ⟨I.obj, rfl, rfl, ho⟩, hl⟩

section
variable {prog : Program} {w : World} {A : Around} {E : Value → Shared → Prop} {s : Shared} {K : PySem.W.Frag} {x dx C f : Addr} {mA : Str → Option Value} {name : Str} {v : Value}

end

theorem RelO.some_of {v : V} {o : Option Value} (r : RelO (some v) o) : ∃ u, o = some u ∧ RelV v u := by
  cases o with
  | none => exact (show False from r).elim
  | some u => exact ⟨u, rfl, r⟩
theorem RelO.none_of {o : Option Value} (r : RelO none o) : o = none := by
  cases o with
  | none => rfl
  | some u => exact (show False from r).elim
section
variable {P : Program} {w : World} {H H' : Hp} {h h' : Heap} {a C dx : Addr} {fs fs' : List (Str × V)}
theorem ins_get (hok : HOk P w H h) (e : H a = some (.ins C dx fs)) : ∃ mA, ObjM h a dx C mA ∧ (∀ f, RelO (fs.lookup f) (mA f)) ∧ PySem.Within mA (fs.map (·.1)) ∧ fs.length ≤ 1000 ∧ H dx = some (.own a) := by
  obtain ⟨d, z, ne, ob, mA, n, r, q⟩ := (show ObjOk P w H h a (.ins C dx fs) from hok a _ e)
  exact ⟨mA, ⟨ob, n, ne⟩, r, q, z, d⟩
end

structure Cls (K : PySem.W.Frag) (C : Addr) : Prop where
  pg : PySem.W.plainGet K C Str.empty = true
  hd : PySem.W.hasDictIn K C = true
  po : PySem.W.plainOver K C = true
  sa : PySem.W.findIn K (.ref C) "__setattr__" = some (some (.builtin "object.__setattr__"))
theorem Cls.get {K : PySem.W.Frag} {C : Addr} (c : Cls K C) (f : Str) : PySem.W.plainGet K C f = true := c.pg
/-- a constant of the class -/
structure Con (K : PySem.W.Frag) (C : Addr) (f : Str) (v : V) (u : Value) : Prop where
  at_ : PySem.W.findIn K (.ref C) f = some (some u)
  rel : RelV v u
  get : PySem.W.specialIn K u "__get__" = some none
  cp : PySem.W.copiedNames.contains f = false
/-- a method: a plain def of the class or of one above it -/
structure Meth (K : PySem.W.Frag) (C : Addr) (m : Str) (f : Addr) : Prop where
  at_ : PySem.W.findIn K (.ref C) m = some (some (.ref f))
  fn : PySem.W.isFn K (.ref f) = true
  kp : PySem.W.keepIn K (.ref f) = true

section
variable {X : Cx} {pins : List (Addr × Obj)} {σ : St} {H : Hp} {s : Shared} {a C dx : Addr} {fs : List (Str × V)} {f : Str} {v : V} {A : Around} {E : Value → Shared → Prop}

/-- a new instance, tracked, without attributes -/
theorem Inv.made (I : Inv X pins σ H s) : Inv X pins σ (upd (upd H s.heap.objs.size (.own (s.heap.objs.size + 1))) (s.heap.objs.size + 1) (.ins C s.heap.objs.size []))
    { s with heap := (s.heap.push PySem.W.emptyDict).push (PySem.W.instObj C s.heap.objs.size) } := by
  have e1 : (s.heap.push PySem.W.emptyDict).get? s.heap.objs.size = some PySem.W.emptyDict := Heap.get?_push_size s.heap rfl
  have e2 : ((s.heap.push PySem.W.emptyDict).push (PySem.W.instObj C s.heap.objs.size)).get? (s.heap.objs.size + 1) = some (PySem.W.instObj C s.heap.objs.size) := by
    have := Heap.get?_push_size (s.heap.push PySem.W.emptyDict) (o := PySem.W.instObj C s.heap.objs.size) rfl
    rwa [Heap.size_push] at this
  have e3 : (s.heap.push PySem.W.emptyDict).Ns s.heap.objs.size (fun _ => none) := ⟨PySem.W.emptyDict, #[], _, e1, rfl, (fun e he => absurd he (by simp)), fun _ => rfl⟩
  have I1 := I.laid (a := s.heap.objs.size) (o := .own (s.heap.objs.size + 1)) (h' := s.heap.push PySem.W.emptyDict) (t' := s.toks) (fun b u q => Heap.get?_push_of_some _ q) (Nat.le_refl _) ⟨_, e1⟩
  refine I1.laid (a := s.heap.objs.size + 1) (o := .ins C s.heap.objs.size []) (t' := s.toks) (fun b u q => Heap.get?_push_of_some _ q) (Nat.le_of_eq (Heap.size_push _ _)) ?_
  have ne : s.heap.objs.size ≠ s.heap.objs.size + 1 := Nat.ne_of_lt (Nat.lt_succ_self _)
  refine ⟨by rw [upd_ne ne, upd_same], Nat.zero_le _, ne, e2, fun _ => none, (Heap.Ns1.of_empty e3).at fun o q => Heap.get?_push_of_some _ q, fun _ => True.intro, fun y hy => absurd rfl hy⟩

end

section
variable {X : Cx} {o e value : Expr} {f : Str} {pos pos' tpos : Pos} {ta tv : TE}
end

section
variable {X : Cx} {pins : List (Addr × Obj)} {σ : St} {H : Hp} {s : Shared} {A : Around} {E : Value → Shared → Prop} {Q : Value → Shared → Prop} {c : Value} {b : Bool}
/-- the type of a value, as the fragment's deciders take it; for an instance its class -/
inductive TyOf (K : PySem.W.Frag) (H : Hp) : V → Value → Prop where
  | non : TyOf K H .non (.type "NoneType")
  | bl (x : Bool) : TyOf K H (.bl x) (.type "bool")
  | int (i : Int) : TyOf K H (.int i) (.type "int")
  | str (x : Str) : TyOf K H (.str x) (.type "str")
  | flt (x : UInt64) : TyOf K H (.flt x) (.type "float")
  | lst {a : Addr} {xs : List V} (e : H a = some (.lst xs)) : TyOf K H (.ref a) (.type "list")
  | frz {a : Addr} {o : Obj} {xs : List V} (e : H a = some (.frz o (.lst xs))) : TyOf K H (.ref a) (.type "list")
  | tup {a : Addr} {xs : List V} (e : H a = some (.tup xs)) : TyOf K H (.ref a) (.type "tuple")
  | dK {a : Addr} {kvs : List (Key × V)} (e : H a = some (.dK kvs)) : TyOf K H (.ref a) (.type "dict")
  | dT {a : Addr} {kvs : List (List Key × V)} (e : H a = some (.dT kvs)) : TyOf K H (.ref a) (.type "dict")
  | ins {a C dx : Addr} {fs : List (Str × V)} (e : H a = some (.ins C dx fs)) (cl : Cls K C) (ha : PySem.W.findIn K (.ref C) "__class__" = some (some (.builtin "object.__class__")))
      (hn : PySem.W.specialIn K (.builtin "object.__class__") "__get__" = some (some (.builtin "getset_descriptor.__get__"))) (htk : PySem.W.takesIn K (.builtin "object.__class__") = some true)
      (hm : PySem.W.mroIn K C (.type "object") = some true) : TyOf K H (.ref a) (.ref C)
/-- isinstance(x, c) for one class c, a built-in or an own one: kitOne's answer -/
theorem isinst_ok {x : V} {u t : Value} (I : Inv X pins σ H s) (rx : RelV x u) (ty : TyOf X.K H x t) (e : PySem.W.kitOne X.K t c = some b) (h : ∀ tk, Q (.bool b) { s with toks := tk }) :
    wpAny (model X.prog X.w) A (call (.builtin "isinstance") [u, c]) Q E s := by
  cases ty with
  | non => cases (show u = Value.none from rx); exact PySem.W.kia_one PySem.W.kitx_none I.kIn True.intro e (fun z => nomatch z) h
  | bl y => cases (show u = Value.bool y from rx); exact PySem.W.kia_one PySem.W.kitx_bool I.kIn True.intro e (fun z => nomatch z) h
  | int i => obtain ⟨t, q⟩ := (show ∃ t, u = Value.int i t from rx); cases q; exact PySem.W.kia_one PySem.W.kitx_int I.kIn True.intro e (fun z => nomatch z) h
  | str y => obtain ⟨t, q⟩ := (show ∃ t, u = Value.str y t from rx); cases q; exact PySem.W.kia_one PySem.W.kitx_str I.kIn True.intro e (fun z => nomatch z) h
  | flt y => obtain ⟨t, q⟩ := (show ∃ t, u = Value.float y t from rx); cases q; exact PySem.W.kia_one PySem.W.kitx_float I.kIn True.intro e (fun z => nomatch z) h
  | @lst a xs ea =>
    cases (show u = Value.ref a from rx)
    obtain ⟨_, _, n, _, h1⟩ := (show ObjOk X.prog X.w H s.heap a (.lst xs) from I.hok a _ ea)
    exact PySem.W.kia_one PySem.W.kitx_list I.kIn ⟨_, h1, rfl⟩ e (fun z => nomatch z) h
  | @frz a ob xs ea =>
    cases (show u = Value.ref a from rx)
    obtain ⟨_, _, _, n, _, h1⟩ := (show ObjOk X.prog X.w H s.heap a (.frz ob (.lst xs)) from I.hok a _ ea)
    exact PySem.W.kia_one PySem.W.kitx_list I.kIn ⟨_, h1, rfl⟩ e (fun z => nomatch z) h
  | @tup a xs ea =>
    cases (show u = Value.ref a from rx)
    obtain ⟨_, _, _, p⟩ := (show ObjOk X.prog X.w H s.heap a (.tup xs) from I.hok a _ ea)
    obtain ⟨o, h1, h2, _⟩ := p
    exact PySem.W.kia_one PySem.W.kitx_tuple I.kIn ⟨o, h1, h2⟩ e (fun z => nomatch z) h
  | @dK a kvs ea =>
    cases (show u = Value.ref a from rx)
    obtain ⟨_, _, vs, _, p⟩ := (show ObjOk X.prog X.w H s.heap a (.dK kvs) from I.hok a _ ea)
    obtain ⟨o, es, ep, h1, h2, _⟩ := p
    exact PySem.W.kia_one PySem.W.kitx_dict I.kIn ⟨o, h1, h2.1⟩ e (fun z => nomatch z) h
  | @dT a kvs ea =>
    cases (show u = Value.ref a from rx)
    obtain ⟨_, _, xs, _, o, es, ep, h1, h2, _⟩ := (show ObjOk X.prog X.w H s.heap a (.dT kvs) from I.hok a _ ea)
    exact PySem.W.kia_one PySem.W.kitx_dict I.kIn ⟨o, h1, h2.1⟩ e (fun z => nomatch z) h
  | @ins a C dx fs ea cl ha hn htk hm =>
    cases (show u = Value.ref a from rx)
    obtain ⟨mA, O, _⟩ := ins_get I.hok ea
    obtain ⟨od, J, _⟩ := O.look
    exact PySem.W.kia_one (PySem.W.kitx_own (cl.get _) cl.hd ha hn htk hm) I.kIn J e (fun z => nomatch z) h
end
end L2

namespace L2
open PySem PySem.Spec PyProof.Rows

structure Room (k : Nat) (A : Around) : Prop where
  hd : A.handled = none
  dp : A.depth + 3 * k + 5 < recursionLimit
  un : A.units + 16 * k + 200 < cLine
theorem Room.mono {j k : Nat} {A : Around} (r : Room k A) (h : j ≤ k) : Room j A := ⟨r.hd, by have := r.dp; omega, by have := r.un; omega⟩
theorem Room.deeper {k : Nat} {A : Around} (r : Room (k + 1) A) (env : Env) : Room k (A.deeper env) :=
  ⟨r.hd, by have := r.dp; show A.depth + 1 + 3 * k + 5 < _; omega, by have := r.un; show A.units + 3 + 16 * k + 200 < _; omega⟩
theorem Room.in1 {k : Nat} {A : Around} (r : Room (k + 1) A) : Room k A.in1 :=
  ⟨r.hd, by have := r.dp; show A.depth + 3 * k + 5 < _; omega, by have := r.un; show A.units + 1 + 16 * k + 200 < _; omega⟩
theorem Room.depth {k : Nat} {A : Around} (r : Room k A) : A.depth < recursionLimit := by have := r.dp; omega
theorem Room.units {k : Nat} {A : Around} (r : Room k A) : A.units + 64 < cLine := by have := r.un; omega
def tNil : TA := fun _ H Q => Q [] H
def tCons (ta : TE) (tr : TA) : TA := fun σ H Q => ta σ H fun x H1 => tr σ H1 fun xs H2 => Q (x :: xs) H2
section
variable {X : Cx} {e : Expr} {es : List Expr} {te : TE} {t : TA} {pos : Pos}
theorem pa_nil : PA X [] tNil := fun _ _ _ _ H Q I h => Calls.spliced_nil ⟨[], H, I, .nil, h⟩
theorem pa_cons (ha : PE X e te) (hr : PA X es t) (hs : starEach (e :: es) X.env = (false, eval e X.env) :: starEach es X.env := by rfl) : PA X (e :: es) (tCons te t) := by
  intro pos pins s σ H Q I h
  rw [hs]
  show wpAny _ _ (spliced ((false, eval e X.env) :: backTo pos (starEach es X.env))) _ _ s
  refine Calls.spliced_cons (thn (ha pins s σ H _ I h) fun u s1 ⟨x, H1, I1, r1, q1⟩ => ?_)
  exact thn (hr pos pins s1 σ H1 _ I1 q1) fun us s2 ⟨xs, H2, I2, r2, q2⟩ => ⟨x :: xs, H2, I2, .cons r1 r2, q2⟩

/-- a tuple, a list of written items -/
def tTup (t : TA) : TE := fun σ H Q => t σ H fun xs H1 => xs.length ≤ sizeLine ∧ ∀ p, H1 p = none → Q (.ref p) (upd H1 p (.tup xs))
def tLst (t : TA) : TE := fun σ H Q => t σ H fun xs H1 => xs.length ≤ sizeLine ∧ ∀ p, H1 p = none → Q (.ref p) (upd H1 p (.lst xs))
theorem pe_tup {x1} (h : PA X es t) : PE X (.Tuple es x1 pos) (tTup t) := by
  intro pins s σ H Q I hq
  refine wpAny_Tuple_spliced (thn (h pos pins s σ H _ I hq) fun us s1 ⟨xs, H1, I1, r, z, q⟩ => ⟨by rw [← r.length]; exact z, ?_⟩)
  have hf : H1 s1.heap.objs.size = none := I1.hok.fresh (Nat.le_refl _)
  refine ⟨.ref s1.heap.objs.size, upd H1 s1.heap.objs.size (.tup xs), I1.laid (t' := s1.toks) (fun b u e => Heap.get?_push_of_some _ e) (Nat.le_refl _) ?_, rfl, q _ hf⟩
  exact ⟨z, us, r, ⟨_, Heap.get?_push_size _ rfl, rfl, _, rfl⟩⟩
theorem pe_lst (h : PA X es t) : PE X (.List es pos) (tLst t) := by
  intro pins s σ H Q I hq
  refine wpAny_List_spliced (thn (h pos pins s σ H _ I hq) fun us s1 ⟨xs, H1, I1, r, z, q⟩ => ⟨by rw [← r.length]; exact z, ?_⟩)
  have hf : H1 s1.heap.objs.size = none := I1.hok.fresh (Nat.le_refl _)
  refine ⟨.ref s1.heap.objs.size, upd H1 s1.heap.objs.size (.lst xs), I1.laid (t' := s1.toks) (fun b u e => Heap.get?_push_of_some _ e) (Nat.le_refl _) ?_, rfl, q _ hf⟩
  exact ⟨z, us, 0, r, Heap.get?_push_size _ rfl⟩
end

/-- a def's promise: the bound arguments in the parameters' order, the heap, the wanted end, the wanted exception -/
abbrev Sp := List V → Hp → VK → XK → Prop
/-- how an exception lies behind a call (file 08 gives it): the callers' frames, abstract heap and state ahead of the call, the wish, the exception, the state -/
abbrev CXT := List Env → Hp → Shared → XK → Value → Shared → Prop

/-- the state at a call -/
structure Env0 (P : Program) (w : World) (K : PySem.W.Frag) (mg : Str → Option Value) (base : Heap) (A : Around) (outer : List Env) (s : Shared) (H : Hp) : Prop where
  frames : A.frames = some outer
  mod : Mod K mg base
  bs : ∀ b o, base.get? b = some o → s.heap.get? b = some o ∧ H b = none
  bsz : base.objs.size ≤ s.heap.objs.size
  funs : s.heap.FunFrames base outer
  frf : ∀ b ∈ frs outer, H b = none
  hok : HOk P w H s.heap
  bare : AllBare s.gens
/-- a call's end -/
def CE (outer : List Env) (P : Program) (w : World) (H : Hp) (s : Shared) (Q : VK) (u : Value) (s' : Shared) : Prop :=
  ∃ v H', s'.os = s.os ∧ AllBare s'.gens ∧ Un (frs outer) [] H H' s.heap s'.heap ∧ HOk P w H' s'.heap ∧ RelV v u ∧ Q v H'
def CR (CX : CXT) (outer : List Env) (P : Program) (w : World) (H : Hp) (s : Shared) (Q : VK) (E : XK) (r : Result) (s' : Shared) : Prop :=
  match r with
  | .ok (.ret u) => CE outer P w H s Q u s'
  | .ok _ => False
  | .error e => CX outer H s E e s'
structure FnOk (P : Program) (w : World) (K : PySem.W.Frag) (mg : Str → Option Value) (base : Heap) (CX : CXT) (k : Nat) (f : Addr) (fd : FuncData) (ps : List Str) (sp : Sp) : Prop where
  len : ∀ vs H Q E, sp vs H Q E → vs.length = ps.length
  run : ∀ (A : Around) (outer : List Env) (s : Shared) (H : Hp) (args : Args) (us : List Value) (vs : List V) (Q : VK) (E : XK), Room k A → Env0 P w K mg base A outer s H → BindsTo s fd args (ps.zip us) → Vals vs us → sp vs H Q E →
    codeAny (model P w) A (.call (.ref f) args) (CR CX outer P w H s Q E) s
theorem FnOk.mono {P : Program} {w : World} {K : PySem.W.Frag} {mg : Str → Option Value} {base : Heap} {CX : CXT} {j k : Nat} {f : Addr} {fd : FuncData} {ps : List Str} {sp : Sp} (F : FnOk P w K mg base CX j f fd ps sp) (h : j ≤ k) :
    FnOk P w K mg base CX k f fd ps sp := ⟨F.len, fun A outer s H args us vs Q E hr => F.run A outer s H args us vs Q E (hr.mono h)⟩
/-- a weaker promise -/
theorem FnOk.imp {P : Program} {w : World} {K : PySem.W.Frag} {mg : Str → Option Value} {base : Heap} {CX : CXT} {k : Nat} {f : Addr} {fd : FuncData} {ps : List Str} {sp sp' : Sp} (F : FnOk P w K mg base CX k f fd ps sp)
    (h : ∀ vs H Q E, sp' vs H Q E → sp vs H Q E) : FnOk P w K mg base CX k f fd ps sp' :=
  ⟨fun vs H Q E q => F.len vs H Q E (h _ _ _ _ q), fun A outer s H args us vs Q E hr he hb hv hs => F.run A outer s H args us vs Q E hr he hb hv (h _ _ _ _ hs)⟩

theorem Env0.in1 {P : Program} {w : World} {K : PySem.W.Frag} {mg : Str → Option Value} {base : Heap} {A : Around} {outer : List Env} {s : Shared} {H : Hp} (e : Env0 P w K mg base A outer s H) :
    Env0 P w K mg base A.in1 outer s H := ⟨e.frames, e.mod, e.bs, e.bsz, e.funs, e.frf, e.hok, e.bare⟩

section
variable {X : Cx} {pins : List (Addr × Obj)} {σ : St} {H : Hp} {s s' : Shared}
/-- from a body: what a callee wants -/
theorem Inv.env0 (I : Inv X pins σ H s) : Env0 X.prog X.w X.K X.mg X.base X.A X.stack s H :=
  ⟨I.ok.frames, I.ok.mod, I.bs, Nat.le_trans I.ok.bsz I.sz, I.stack, I.stkFree, I.hok, I.bare⟩
/-- behind a call -/
theorem Inv.after {Q : VK} {u : Value} (I : Inv X pins σ H s) (h : CE X.stack X.prog X.w H s Q u s') : EP X pins σ Q u s' := by
  obtain ⟨v, H', os, bare, un, hok, r, q⟩ := h
  obtain ⟨hh, g, d, t, os'⟩ := s'
  obtain rfl : os' = s.os := os
  exact ⟨v, H', I.call (h' := hh) (g' := g) (d' := d) (t' := t) (ch := []) un hok bare (fun b z => absurd z (by simp)), r, q⟩
end

/-- f(..): the written arguments, then the defaults dvs; E: what is wanted of an exception -/
def tCall (sp : Sp) (dvs : List V) (E : XK) (t : TA) : TE := fun σ H Q => t σ H fun vs H1 => sp (vs ++ dvs) H1 Q E
/-- how the parameters are bound: us the positional arguments, kw the keywords' values by name, ds the defaults that fill up -/
def Binds (K : PySem.W.Frag) (fd : FuncData) (ps : List Str) (ds : List Value) : Prop :=
  ∀ (s : Shared) (us : List Value), K.In s.heap → (us ++ ds).length = ps.length → BindsTo s fd ⟨us, []⟩ (ps.zip (us ++ ds))
/-- every parameter is given -/
theorem Binds.all {K : PySem.W.Frag} {fd : FuncData} {ps : List Str} (h : ∀ us : List Value, us.length = ps.length → bindArgs fd ⟨us, []⟩ = pure (ps.zip us)) : Binds K fd ps [] := fun s us _ hl => by
  rw [List.append_nil] at hl ⊢
  exact .of_eq (h us hl)

/-- an exception of a callee reaches what this body wants of exceptions -/
def Passes (CX : CXT) (X : Cx) (E : XK) : Prop := ∀ (pins : List (Addr × Obj)) (σ : St) (H : Hp) (s : Shared) (e : Value) (s' : Shared), Inv X pins σ H s → CX X.stack H s E e s' → X.xe e s'

section
variable {X : Cx} {CX : CXT} {k : Nat} {f C : Addr} {fd : FuncData} {ps : List Str} {sp : Sp} {dvs : List V} {ds : List Value} {E : XK} {x m : Str} {p pos apos : Pos} {e o : Expr} {es : List Expr} {ta : TE} {t : TA}

/-- the callee runs -/
theorem run_fn {pins : List (Addr × Obj)} {σ : St} {H : Hp} {s : Shared} {Q : VK} {us : List Value} {vs : List V} (F : FnOk X.prog X.w X.K X.mg X.base CX k f fd ps sp) (hr : Room k X.A) (hb : Binds X.K fd ps ds) (hd : Vals dvs ds) (hx : Passes CX X E)
    (I : Inv X pins σ H s) (r : Vals vs us) (h : sp (vs ++ dvs) H Q E) : wpAny (model X.prog X.w) X.A (call (.ref f) us) (EP X pins σ Q) X.xe s := by
  have r2 : Vals (vs ++ dvs) (us ++ ds) := r.append hd
  have hl : (us ++ ds).length = ps.length := by rw [← r2.length]; exact F.len _ _ _ _ h
  refine wpAny_call (codeAny_mono (F.run X.A X.stack s H ⟨us, []⟩ (us ++ ds) (vs ++ dvs) Q E hr I.env0 (hb s us I.kIn hl) r2 h) fun r s' hq => ?_)
  cases r with
  | error e => exact hx pins σ H s e s' I hq
  | ok fl =>
    cases fl with
    | ret u => exact I.after hq
    | next => exact False.elim hq
    | brk => exact False.elim hq
    | cont => exact False.elim hq

theorem pe_call (F : FnOk X.prog X.w X.K X.mg X.base CX k f fd ps sp) (hr : Room k X.A) (hg : Gl X x) (hm : X.mg x = some (.ref f)) (hk : PySem.W.keepIn X.K (.ref f) = true) (hb : Binds X.K fd ps ds) (hd : Vals dvs ds) (hx : Passes CX X E)
    (ha : PA X (e :: es) t) (hdb : (x == ("__debug__" : Str)) = false := by decide) (he : starEach (e :: es) X.env = (false, eval e X.env) :: starEach es X.env := by rfl) (hpl : (backTo pos (starEach es X.env)).any (·.1) = false := by rfl) :
    PE X (.Call (.Name x p) (e :: es) [] pos) (tCall sp dvs E t) := by
  intro pins s σ H Q I h
  refine wpAny_Call_Name_kw (ld_glob I hg hm ?_ hdb)
  refine PySem.W.callWith_K (h₀ := X.base) I.ok.mod.kin hk (thn (ha pos pins s σ H _ I h) fun us s1 ⟨vs, H1, I1, r, q⟩ => ⟨I1.kIn, ?_⟩) he hpl
  exact run_fn F hr hb hd hx I1 r q
/-- what a class must have to be made -/
structure Mk (K : PySem.W.Frag) (C f : Addr) : Prop where
  makes : PySem.W.makesIn K C = true
  init : PySem.W.findIn K (.ref C) "__init__" = some (some (.ref f))
  fn : PySem.W.isFn K (.ref f) = true
  kp : PySem.W.keepIn K (.ref C) = true

end

section
variable {X : Cx} {CX : CXT} {k : Nat} {f C : Addr} {fd : FuncData} {ps ks : List Str} {sp : Sp} {E : XK} {x m : Str} {p pos apos kpos : Pos} {e o : Expr} {es : List Expr} {kws : List Keyword} {te ta : TE} {t tk : TA} {nm : Option Str}
/-- how a call with keywords binds: g puts the positional values us and the keywords' values ws (names ks) in the parameters' order, defaults among them -/
structure KBinds (K : PySem.W.Frag) (fd : FuncData) (ps ks : List Str) (g : List Value → List Value → List Value) (gV : List V → List V → List V) : Prop where
  to : ∀ (s : Shared) (us ws : List Value), K.In s.heap → (g us ws).length = ps.length → BindsTo s fd ⟨us, ks.zip ws⟩ (ps.zip (g us ws))
  rel : ∀ {vs : List V} {us : List Value} {zs : List V} {ws : List Value}, Vals vs us → Vals zs ws → Vals (gV vs zs) (g us ws)
variable {g : List Value → List Value → List Value} {gV : List V → List V → List V}
end

/-- names: the parameters first -/
structure FnScope (N P : List Str) (sc : Scope) : Prop where
  kind : sc.kind = .function
  co : sc.isCoroutine = false
  gen : sc.isGenerator = false
  nd : N.Nodup
  pre : N.take P.length = P
  par : ∀ x ∈ P, sc.names.lookup x = some .local ∨ sc.names.lookup x = some .cell
  nofree : ∀ y ∈ sc.names, y.2 ≠ .free

theorem bindL_out {kindOf : Str → Option NameKind} {x : Str} : ∀ {binds : List (Str × Value)} {m : Str → Option Value}, (∀ v, (x, v) ∉ binds) → bindL kindOf binds m x = m x
  | [], _, _ => rfl
  | (n, v) :: r, m, h => by
    unfold bindL
    rw [bindL_out fun w hw => h w (List.mem_cons_of_mem _ hw)]
    split
    · have : x ≠ n := by rintro rfl; exact h v List.mem_cons_self
      simp [this]
    · rfl
theorem bindC_out {kindOf : Str → Option NameKind} {x : Str} : ∀ {binds : List (Str × Value)} {m : Str → Option Value}, (∀ v, (x, v) ∉ binds) → bindC kindOf binds m x = m x
  | [], _, _ => rfl
  | (n, v) :: r, m, h => by
    unfold bindC
    rw [bindC_out fun w hw => h w (List.mem_cons_of_mem _ hw)]
    split
    · rfl
    · have : x ≠ n := by rintro rfl; exact h v List.mem_cons_self
      simp [this]
theorem bindL_get {kindOf : Str → Option NameKind} {x : Str} {v : Value} : ∀ {P : List Str} {vs : List Value} {i : Nat} {m : Str → Option Value}, P.Nodup → P[i]? = some x → vs[i]? = some v → kindOf x = some .local →
    bindL kindOf (P.zip vs) m x = some v
  | [], _, _, _, _, h, _, _ => by simp at h
  | _ :: _, [], _, _, _, _, h, _ => by simp at h
  | p :: P, w :: vs, 0, m, nd, h1, h2, hk => by
    simp at h1 h2; subst h1; subst h2
    show bindL kindOf ((p, w) :: P.zip vs) m p = _
    unfold bindL
    rw [bindL_out fun v hv => (List.nodup_cons.mp nd).1 (List.of_mem_zip hv).1, if_pos hk]
    simp
  | p :: P, w :: vs, i + 1, m, nd, h1, h2, hk => by
    show bindL kindOf ((p, w) :: P.zip vs) m x = _
    unfold bindL
    exact bindL_get (i := i) (List.nodup_cons.mp nd).2 (by simpa using h1) (by simpa using h2) hk
theorem bindC_get {kindOf : Str → Option NameKind} {x : Str} {v : Value} : ∀ {P : List Str} {vs : List Value} {i : Nat} {m : Str → Option Value}, P.Nodup → P[i]? = some x → vs[i]? = some v → kindOf x ≠ some .local →
    bindC kindOf (P.zip vs) m x = some v
  | [], _, _, _, _, h, _, _ => by simp at h
  | _ :: _, [], _, _, _, _, h, _ => by simp at h
  | p :: P, w :: vs, 0, m, nd, h1, h2, hk => by
    simp at h1 h2; subst h1; subst h2
    show bindC kindOf ((p, w) :: P.zip vs) m p = _
    unfold bindC
    rw [bindC_out fun v hv => (List.nodup_cons.mp nd).1 (List.of_mem_zip hv).1, if_neg hk]
    simp
  | p :: P, w :: vs, i + 1, m, nd, h1, h2, hk => by
    show bindC kindOf ((p, w) :: P.zip vs) m x = _
    unfold bindC
    exact bindC_get (i := i) (List.nodup_cons.mp nd).2 (by simpa using h1) (by simpa using h2) hk

/-- the names' values at the entry -/
def start (N : List Str) (vs : List V) : St := vs.map some ++ List.replicate (N.length - vs.length) none

/-- the context of a def's body, at its entry; an exception leaves the frame, then lies as CX says -/
def cxOf (CX : CXT) (P : Program) (w : World) (K : PySem.W.Frag) (mg : Str → Option Value) (base : Heap) (N : List Str) (qual : Str) (scope : Scope) (f : Addr) (cd : Value) (A : Around) (outer : List Env) (s : Shared) (H : Hp) (E : XK) : Cx where
  prog := P
  w := w
  K := K
  mg := mg
  base := base
  A := A.deeper (envOfC qual scope s.heap.objs.size f cd)
  N := N
  s₀ := s
  H₀ := H
  env := envOfC qual scope s.heap.objs.size f cd
  outer := outer
  stack := envOfC qual scope s.heap.objs.size f cd :: outer
  ex := []
  calm := true
  fn := fun _ => true
  pn := []
  xe := fun e s' => wpAny (model P w) (A.deeper (envOfC qual scope s.heap.objs.size f cd)) (leaving (envOfC qual scope s.heap.objs.size f cd) e) (fun _ s'' => CX outer H s E e s'') (fun e' s'' => CX outer H s E e' s'') s'

theorem cell_has {sc : Scope} {n : Nat} {x : Str} (h : sc.names.lookup x = some .cell) : ∃ c, (cellsFrom n sc.names []).lookup x = some c := by
  have q := PySem.W.cellsFrom_some sc.names n [] (.inl h)
  exact Option.isSome_iff_exists.mp q

theorem inv_start {CX : CXT} {P : Program} {w : World} {K : PySem.W.Frag} {mg : Str → Option Value} {base : Heap} {N ps : List Str} {qual : Str} {scope : Scope} {f : Addr} {cd : Value} {A : Around} {outer : List Env} {s s1 : Shared} {H : Hp} {E : XK} {us : List Value} {vs : List V}
    (S : FnScope N ps scope) (hd : A.handled = none) (e0 : Env0 P w K mg base A outer s H) (hl : vs.length = ps.length) (r : Vals vs us)
    (x : InCallC s s.heap.objs.size (bindL (envOfC qual scope s.heap.objs.size f cd).kindOf (ps.zip us) fun _ => none) (cellsFrom (s.heap.objs.size + 1) scope.names []) (bindC (envOfC qual scope s.heap.objs.size f cd).kindOf (ps.zip us) fun _ => none) s1) :
    Inv (cxOf CX P w K mg base N qual scope f cd A outer s H E) [] (start N vs) H s1 := by
  have hpl : ps.length ≤ N.length := by have := congrArg List.length S.pre; rw [List.length_take] at this; omega
  obtain ⟨h1, tk, rfl, hk⟩ := x.done
  have noA : ∀ b : Addr, b ∉ (cxOf CX P w K mg base N qual scope f cd A outer s H E).ex := fun b z => absurd (show b ∈ ([] : List Addr) from z) (by simp)
  refine ⟨⟨e0.mod, S.kind, rfl, rfl, Nat.le_refl _, fun y z c h1 h2 => ?_, fun y hy => ?_, fun y c _ h => ?_, fun _ => hd, Around.frames_deeper e0.frames, .inr ⟨rfl, rfl⟩, fun b z => absurd z (noA b), e0.bs, e0.bsz, fun b _ _ => noA b, fun b z => absurd z (noA b), e0.funs, e0.frf⟩,
    rfl, e0.bare, Un.kept hk, ⟨_, x.toInCall.ns, fun i y v h1 h2 h3 => ?_⟩, fun y c h => ⟨_, x.cell y c h⟩, e0.hok.fresh (Nat.le_refl _), fun y c h => ?_, fun p hp => absurd (show p ∈ ([] : List (Addr × Obj)) from hp) (by simp), e0.hok.kept hk, ?_⟩
  · exact name_of_addr x.apart (PySem.mem_of_lookup h1) (PySem.mem_of_lookup h2)
  · have hy : scope.names.lookup y = some .cell ∨ scope.names.lookup y = some .free := hy
    rcases hy with hy | hy
    · exact cell_has hy
    · exact absurd rfl (S.nofree _ (PySem.mem_of_lookup hy))
  · exact Nat.le_of_lt (x.above y c (PySem.mem_of_lookup h))
  · have hi : i < vs.length := by
      unfold start at h2
      by_cases hi : i < vs.length
      · exact hi
      · rw [List.getElem?_append_right (by simpa using hi)] at h2
        rw [List.getElem?_replicate] at h2
        split at h2 <;> cases h2
    have ha : vs[i]? = some v := by
      unfold start at h2
      rw [List.getElem?_append_left (by simpa using hi), List.getElem?_map] at h2
      cases e : vs[i]? with
      | none => rw [e] at h2; cases h2
      | some a => rw [e] at h2; cases h2; rfl
    obtain ⟨u, hu, rv⟩ := r.get ha
    have hp : ps[i]? = some y := by
      rw [← S.pre, List.getElem?_take_of_lt (by omega)]; exact h1
    have ndP : ps.Nodup := by rw [← S.pre]; exact S.nd.sublist (List.take_sublist _ _)
    refine ⟨u, rv, ?_⟩
    rcases S.par y (List.mem_of_getElem? hp) with k | k
    · exact .inl ⟨k, bindL_get ndP hp hu k⟩
    · obtain ⟨c, e⟩ := cell_has (n := s.heap.objs.size + 1) k
      refine .inr ⟨.inl k, c, e, ?_⟩
      have q := x.cell y c e
      rw [bindC_get ndP hp hu (by show scope.names.lookup y ≠ _; rw [k]; decide)] at q
      exact q
  · exact e0.hok.fresh (Nat.le_of_lt (x.above y c (PySem.mem_of_lookup h)))
  · unfold start
    show _ = N.length
    rw [List.length_append, List.length_map, List.length_replicate]
    omega

/-- THE RULE: a def (or a method) of the text, by its body. The body's reading t is chosen for each entry; it is run at the parameters' values -/
theorem fn_of {CX : CXT} {P : Program} {w : World} {K : PySem.W.Frag} {mg : Str → Option Value} {base : Heap} {k : Nat} {f : Addr} {name qual : Str} {params : Arguments} {body : List Stmt} {scope : Scope} {dV kV doc pm cdv ct oc : Value} {an od : Option Addr}
    {osl : Array (Option Value)} {N ps : List Str} {sp : Sp} (lk : K.lookup f = some ⟨oc, od, .func (PySem.W.fnOf name qual params body scope dV kV doc pm an cdv ct), osl⟩) (hcd : PySem.W.codeIn K cdv qual = true) (S : FnScope N ps scope)
    (len : ∀ vs H Q E, sp vs H Q E → vs.length = ps.length)
    (hbody : ∀ (A : Around) (outer : List Env) (s : Shared) (H : Hp) (vs : List V) (Q : VK) (E : XK), Room k (A.deeper (envOfC qual scope s.heap.objs.size f cdv)) → sp vs H Q E →
      ∃ t, PSs (cxOf CX P w K mg base N qual scope f cdv A outer s H E) body t ∧ t { nx := fun _ H' => Q .non H', rt := Q } (start N vs) H) :
    FnOk P w K mg base CX (k + 1) f (PySem.W.fnOf name qual params body scope dV kV doc pm an cdv ct) ps sp := by
  refine ⟨len, fun A outer s H args us vs Q E hr e0 hb r hsp => ?_⟩
  have hl := len _ _ _ _ hsp
  have KX : K.In s.heap := e0.mod.kin.keeps fun b o e => (e0.bs b o e).1
  have lim : s.heap.NoLimit := e0.mod.nolimit.keeps fun b o e => (e0.bs b o e).1
  have hkind : ∀ y ∈ ps.zip us, scope.names.lookup y.1 = some .local ∨ (scope.names.lookup y.1 = some .cell ∧ ((cellsFrom (s.heap.objs.size + 1) scope.names []).lookup y.1).isSome = true) := fun ⟨n, v⟩ hy => by
    rcases S.par n (List.of_mem_zip hy).1 with q | q
    · exact .inl q
    · exact .inr ⟨q, PySem.W.cellsFrom_some _ _ _ (.inl q)⟩
  refine codeAny_call_function hr.depth (KX _ _ lk) rfl S.co S.gen rfl (PySem.W.codeRec_of KX hcd) (hb _ _ _ _ ?_)
  refine wpAny_newFunctionEnv_cells S.kind hkind fun env he s1 x => ?_
  subst he
  refine ⟨lim.keeps x.toInCall.keep, codeAny_func ?_⟩
  obtain ⟨t, ht, hq⟩ := hbody A outer s H vs Q E (hr.deeper _) hsp
  have I : Inv (cxOf CX P w K mg base N qual scope f cdv A outer s H E) [] (start N vs) H s1 := inv_start S hr.hd e0 hl r x
  refine wpAny_mono (ht [] s1 (start N vs) H _ I hq) (fun fl s' hs => ?_) fun e s' hs => hs
  have fin : ∀ {σ' : St} {H' : Hp} {v : V} {u : Value}, Inv (cxOf CX P w K mg base N qual scope f cdv A outer s H E) [] σ' H' s' → RelV v u → Q v H' → CE outer P w H s Q u s' :=
    fun {σ' H' v u} J rv q => ⟨v, H', J.os, J.bare, J.base, J.hok, rv, q⟩
  cases fl with
  | ret u =>
    obtain ⟨v, σ', H', J, rv, q⟩ := hs
    exact fin J rv q
  | next =>
    obtain ⟨σ', H', J, q⟩ := hs
    exact fin (v := V.non) (u := Value.none) J rfl q
  | brk =>
    obtain ⟨_, _, _, q⟩ := hs
    exact False.elim q
  | cont =>
    obtain ⟨_, _, _, q⟩ := hs
    exact False.elim q
end L2

namespace L2
open PySem PySem.Spec PyProof.Rows
section
variable {X : Cx} {x : Str} {p pos : Pos} {e : Expr} {es : List Expr} {t : TA} {id T : String} {r : List V → Hp → VK → Prop}

def tCB (r : List V → Hp → VK → Prop) (t : TA) : TE := fun σ H Q => t σ H fun vs H1 => r vs H1 Q
/-- f(e, ..), f a built-in function -/
theorem pe_callB (hc : CallR X (.builtin id) r) (hg : Gl X x) (hm : X.mg x = none) (hv : bootBuiltins x = some (.builtin id)) (ha : PA X (e :: es) t) (hn : x ≠ "__name__" := by decide) (hdb : (x == ("__debug__" : Str)) = false := by decide)
    (he : starEach (e :: es) X.env = (false, eval e X.env) :: starEach es X.env := by rfl) (hpl : (backTo pos (starEach es X.env)).any (·.1) = false := by rfl) : PE X (.Call (.Name x p) (e :: es) [] pos) (tCB r t) := by
  intro pins s σ H Q I h
  refine wpAny_Call_Name_kw (ld_blt I hg hm hv ?_ hn hdb)
  exact PyProof.Rows.callWith_builtin1 (thn (ha pos pins s σ H _ I h) fun us s1 ⟨vs, H1, I1, r1, q1⟩ => hc pins s1 σ H1 vs us Q I1 r1 q1) he hpl
/-- T(e, ..), T a built-in type -/
theorem pe_callTy (hc : CallR X (.type T) r) (hg : Gl X x) (hm : X.mg x = none) (hv : bootBuiltins x = some (.type T)) (ha : PA X (e :: es) t) (hn : x ≠ "__name__" := by decide) (hdb : (x == ("__debug__" : Str)) = false := by decide)
    (he : starEach (e :: es) X.env = (false, eval e X.env) :: starEach es X.env := by rfl) (hpl : (backTo pos (starEach es X.env)).any (·.1) = false := by rfl) : PE X (.Call (.Name x p) (e :: es) [] pos) (tCB r t) := by
  intro pins s σ H Q I h
  refine wpAny_Call_Name_kw (ld_blt I hg hm hv ?_ hn hdb)
  exact PyProof.Rows.callWith_type1 (thn (ha pos pins s σ H _ I h) fun us s1 ⟨vs, H1, I1, r1, q1⟩ => hc pins s1 σ H1 vs us Q I1 r1 q1) he hpl
end
end L2

namespace HT
open PySem PyProof.Rows

section
open PySem.SeqAt
open PySem.AutoSeq1 (wpAny_loadPart')
open PySem.MeetsSeq PySem.MeetsSeq2 PySem.MeetsSeq3

end

section
variable {prog : Program} {w : World} {A : Around} {E : Value → Shared → Prop} {s : Shared}

/-- t + u, t not empty -/
theorem cat_tup {t b : Addr} {vs ws : List Value} {Q : Value → Shared → Prop} (ht : IsTup s.heap t vs.toArray) (hb : IsTup s.heap b ws.toArray) (hv : vs ≠ [])
    (h1 : ws = [] → Q (.ref t) s) (h2 : ws ≠ [] → Q (.ref s.heap.objs.size) { s with heap := s.heap.push { cls := .type "tuple", data := .seq (vs ++ ws).toArray } })
    (hsz : vs.length + ws.length ≤ sizeLine) : wpAny (model prog w) A (binaryOp .Add (.ref t) (.ref b)) Q E s := by
  obtain ⟨⟨cls, dd, data, sl⟩, ho, hc, n, hd⟩ := id ht
  obtain ⟨⟨cls2, dd2, data2, sl2⟩, ho2, hc2, n2, hd2⟩ := id hb
  simp only at hc hd hc2 hd2
  subst hc hd hc2 hd2
  have e : vs.toArray ++ ws.toArray = (vs ++ ws).toArray := by simp
  by_cases hw : ws = []
  · exact concat_meets ⟨_, ho, rfl⟩ ⟨_, ho2, rfl⟩ noFill_tuple_add seq_tuple_add PySem.F.slot_tuple_add PySem.F.entry_tuple_add (PySem.F.args_tuple_add_2 _ _)
      (tuple_addW1 t b vs.toArray ws.toArray n n2 dd dd2 sl sl2 (by simpa using hv) (by simp [hw])) ⟨ho, ho2, h1 hw⟩
  · refine concat_meets ⟨_, ho, rfl⟩ ⟨_, ho2, rfl⟩ noFill_tuple_add seq_tuple_add PySem.F.slot_tuple_add PySem.F.entry_tuple_add (PySem.F.args_tuple_add_2 _ _)
      (tuple_addW2 t b vs.toArray ws.toArray n n2 dd dd2 sl sl2 (by simpa using hv) (by simpa using hw) (by rw [List.size_toArray, List.size_toArray]; exact hsz)) ⟨ho, ho2, ?_⟩
    rw [e]
    exact h2 hw

/-- a slice's bound as a place among n (d where it is left out) -/
def sIx (n d : Nat) : Option Int → Nat
  | none => d
  | some v => if v < 0 then (v + (n : Int)).toNat else min v.toNat n
theorem sIx_le (n d : Nat) (hd : d ≤ n) (o : Option Int) : sIx n d o ≤ n := by
  cases o with
  | none => exact hd
  | some v =>
    show (if v < 0 then (v + (n : Int)).toNat else min v.toNat n) ≤ n
    by_cases hv : v < 0
    · rw [if_pos hv]; omega
    · rw [if_neg hv]; exact Nat.min_le_right _ _
theorem clip_eq (v : Int) (n d : Nat) : (if v < 0 then max (v + (n : Int)) 0 else min v (n : Int)) = ((sIx n d (some v) : Nat) : Int) := by
  show (if v < 0 then max (v + (n : Int)) 0 else min v (n : Int)) = (((if v < 0 then (v + (n : Int)).toNat else min v.toNat n) : Nat) : Int)
  by_cases hv : v < 0
  · simp only [if_pos hv]; omega
  · simp only [if_neg hv]; omega
theorem adjust_gen (lo hi : Option Int) (n : Nat) : Builtin.Slice.sliceAdjust lo hi 1 (n : Int) = (((sIx n 0 lo : Nat) : Int), ((sIx n n hi : Nat) : Int)) := by
  have h1 : ¬ ((1 : Int) < 0) := by omega
  unfold Builtin.Slice.sliceAdjust
  simp only [h1, if_false]
  refine Prod.ext ?_ ?_
  · cases lo with
    | none => rfl
    | some v => exact clip_eq v n 0
  · cases hi with
    | none => rfl
    | some v => exact clip_eq v n n
theorem places_gen (i j : Nat) : Builtin.Slice.slicePlaces (i : Int) (j : Int) 1 = j - i := by
  unfold Builtin.Slice.slicePlaces
  have h1 : (1 : Int) > 0 := by omega
  simp only [h1, if_true, Int.ediv_one]
  split <;> omega
theorem slicePart_ {v : Value} {o : Option Int} {Q : Option Int → Shared → Prop} (p : IsPart v o) (h : Q o s) : wpAny (model prog w) A (Builtin.Slice.slicePartIndex v) Q E s := by
  cases p with
  | none => exact slicePart_none h
  | int i t => exact slicePart_int h
theorem sliceApplied_gen {sl : Addr} {vl vu : Value} {lo hi : Option Int} {n : Nat} {Q : Int × Int × Nat → Shared → Prop} (hs : s.heap.IsSliceOf sl vl vu .none) (pl : IsPart vl lo) (pu : IsPart vu hi)
    (h : Q (((sIx n 0 lo : Nat) : Int), 1, sIx n n hi - sIx n 0 lo) s) : wpAny (model prog w) A (Builtin.Slice.sliceApplied (.ref sl) (pure (n : Int))) Q E s := by
  obtain ⟨os, hos, hcs, hds⟩ := id hs
  unfold Builtin.Slice.sliceApplied Builtin.Slice.sliceFields
  refine wpAny_bind (wpAny_bind (wpAny_field hos hds (x := vl) rfl (wpAny_bind (wpAny_field hos hds (x := vu) rfl (wpAny_bind (wpAny_field hos hds (x := .none) rfl (wpAny_pure ?_)))))))
  refine wpAny_bind (slicePart_none ?_)
  show wpAny _ _ (if ((1 : Int) == 0) = true then _ else _) _ _ s
  rw [if_neg (by decide)]
  refine wpAny_bind (slicePart_ pl (wpAny_bind (slicePart_ pu (wpAny_bind (wpAny_pure ?_)))))
  show wpAny _ _ (match Builtin.Slice.sliceAdjust lo hi 1 (n : Int) with | (lo, hi) => pure (lo, (1 : Int), Builtin.Slice.slicePlaces lo hi 1)) _ _ s
  rw [adjust_gen lo hi n]
  show wpAny _ _ (pure (((sIx n 0 lo : Nat) : Int), (1 : Int), Builtin.Slice.slicePlaces ((sIx n 0 lo : Nat) : Int) ((sIx n n hi : Nat) : Int) 1)) _ _ s
  rw [places_gen]
  exact wpAny_pure h
theorem pick_gen (xs : Array Value) (i k : Nat) : ((List.range k).filterMap fun (m : Nat) => xs[((i : Int) + (m : Int) * 1).toNat]?).toArray = ((xs.toList.drop i).take k).toArray := by
  have e : (fun (m : Nat) => xs[((i : Int) + (m : Int) * 1).toNat]?) = fun m => xs[i + m]? := by
    funext m
    have : ((i : Int) + (m : Int) * 1).toNat = i + m := by omega
    rw [this]
  rw [e]
  have := pick_run xs i k
  rw [List.filterMap_map] at this
  have e2 : ((fun x => xs[x]?) ∘ fun x => i + x) = fun m => xs[i + m]? := rfl
  rw [e2] at this
  rw [this]

theorem getItem_tuple_cut {t sl : Addr} {items : Array Value} {vl vu : Value} {lo hi : Option Int} {Q : Value → Shared → Prop} (ht : IsTup s.heap t items) (hs : s.heap.IsSliceOf sl vl vu .none) (pl : IsPart vl lo) (pu : IsPart vu hi)
    (hw : ¬ (sIx items.size 0 lo = 0 ∧ sIx items.size items.size hi = items.size))
    (h : Q (.ref s.heap.objs.size) { s with heap := s.heap.push { cls := .type "tuple", data := .seq ((items.toList.drop (sIx items.size 0 lo)).take (sIx items.size items.size hi - sIx items.size 0 lo)).toArray } })
    (hsz : items.size ≤ sizeLine) : wpAny (model prog w) A (getItem (.ref t) (.ref sl)) Q E s := by
  have htake : sizeOk (.seq ((items.toList.drop (sIx items.size 0 lo)).take (sIx items.size items.size hi - sIx items.size 0 lo)).toArray) := by
    show ((items.toList.drop (sIx items.size 0 lo)).take (sIx items.size items.size hi - sIx items.size 0 lo)).toArray.size ≤ sizeLine
    rw [List.size_toArray, List.length_take, List.length_drop, Array.length_toList]
    omega
  have hj : sIx items.size items.size hi ≤ items.size := sIx_le _ _ (Nat.le_refl _) hi
  obtain ⟨os, hos, hcs, hds⟩ := id hs
  have hTs : s.TypeIs (.ref sl) "slice" := ⟨os, hos, hcs⟩
  unfold getItem
  try with_reducible refine wpAny_holding ?_
  first | refine wpAny_bind (wpAny_pure ?_) | skip
  refine wpAny_bind (wpAny_sequenceKey ht.typeIs (by decide) ?_)
  refine wpAny_bind (wpAny_callSpecial?_slot (name := Str.ofString "__getitem__") ht.typeIs PyProof.Rows.slot_tuple_getitem
    (wpAny_call_entry PyProof.Rows.slot_tuple_getitem ht.typeIs entry_tuple_getitem ?_ (args_tuple_getitem _ _)))
  show wpAny _ _ (Builtin.Tuple.tupleItemsOf (.ref t) >>= _) _ _ s
  refine wpAny_bind (tupleItemsOf_ ht ?_)
  refine wpAny_bind (wpAny_typeOf hTs ?_)
  rw [if_pos (by decide)]
  refine wpAny_bind (sliceApplied_gen hs pl pu ?_)
  have hno : ¬ ((((sIx items.size 0 lo : Nat) : Int) == 0 && (1 : Int) == 1 && (sIx items.size items.size hi - sIx items.size 0 lo) == items.size) = true) := by
    intro q
    rw [Bool.and_eq_true, Bool.and_eq_true] at q
    have q1 : ((sIx items.size 0 lo : Nat) : Int) = 0 := eq_of_beq q.1.1
    have q2 : sIx items.size items.size hi - sIx items.size 0 lo = items.size := eq_of_beq q.2
    exact hw ⟨by omega, by omega⟩
  show wpAny _ _ (if (((sIx items.size 0 lo : Nat) : Int) == 0 && (1 : Int) == 1 && (sIx items.size items.size hi - sIx items.size 0 lo) == items.size) = true then _ else _) _ _ s
  rw [if_neg hno, pick_gen]
  first
    | exact wpAny_bind (m := Builtin.Tuple.tupleExact _) (wpAny_newObj_type (wpAny_pure ⟨_, rfl, wpAny_pure h⟩) htake)
    | exact wpAny_bind (m := Builtin.Tuple.tupleExact _) (wpAny_newObj_type (wpAny_bind (wpAny_pure (wpAny_pure ⟨_, rfl, wpAny_pure h⟩))) htake)
    | exact wpAny_bind (wpAny_bind (m := Builtin.Tuple.tupleExact _) (wpAny_newObj_type (wpAny_pure (wpAny_pure ⟨_, rfl, wpAny_pure h⟩)) htake))
    | exact wpAny_bind (wpAny_bind (m := Builtin.Tuple.tupleExact _) (wpAny_newObj_type (wpAny_pure ⟨_, rfl, wpAny_pure h⟩) htake))
end
end HT

namespace L2
open PySem PySem.Spec PyProof.Rows

abbrev TO := St → Hp → (Option Int → Hp → Prop) → Prop
/-- a slice's part (left out, or an int) -/
def PO (X : Cx) (e : Option Expr) (t : TO) : Prop :=
  ∀ (pins : List (Addr × Obj)) (s : Shared) (σ : St) (H : Hp) (Q : Option Int → Hp → Prop), Inv X pins σ H s → t σ H Q →
    wpAny (model X.prog X.w) X.A (evalPart e X.env) (fun u s' => ∃ o H', Inv X pins σ H' s' ∧ IsPart u o ∧ Q o H') X.xe s
def tNoPart : TO := fun _ H Q => Q none H
def tPart (t : TE) : TO := fun σ H Q => t σ H fun x H1 => ∃ i, x = .int i ∧ Q (some i) H1

section
variable {X : Cx} {e : Expr} {te : TE} {lo hi : Option Expr} {tl th : TO} {pos p2 : Pos}

theorem po_none : PO X none tNoPart := by
  intro pins s σ H Q I h
  rw [evalPart_none]
  exact wpAny_pure ⟨none, H, I, .none, h⟩
theorem po_some (h : PE X e te) : PO X (some e) (tPart te) := by
  intro pins s σ H Q I hw
  rw [evalPart_some]
  refine thn (h pins s σ H _ I hw) fun u s1 ⟨x, H1, I1, r1, q1⟩ => ?_
  obtain ⟨i, rfl, q⟩ := q1
  obtain ⟨t, rfl⟩ := r1
  exact ⟨some i, H1, I1, .int i t, q⟩

/-- what a slice of a value is, by values: the slice object stands at sl -/
def SlR (X : Cx) (r : V → Option Int → Option Int → Hp → VK → Prop) : Prop :=
  ∀ (pins : List (Addr × Obj)) (s : Shared) (σ : St) (H : Hp) (x : V) (v vl vu : Value) (lo hi : Option Int) (sl : Addr) (Q : VK), Inv X pins σ H s → RelV x v → s.heap.IsSliceOf sl vl vu .none → IsPart vl lo → IsPart vu hi → r x lo hi H Q →
    ∃ T id, typeLookup (.type T) "__getitem__" = pure (some (.builtin id)) ∧ s.TypeIs v T ∧ wpAny (model X.prog X.w) X.A (getItem v (.ref sl)) (EP X pins σ Q) X.xe s
theorem SlR.or {r r' : V → Option Int → Option Int → Hp → VK → Prop} (h : SlR X r) (h' : SlR X r') : SlR X (fun x lo hi H Q => r x lo hi H Q ∨ r' x lo hi H Q) := by
  intro pins s σ H x v vl vu lo hi sl Q I rx hs pl pu q
  rcases q with q | q
  · exact h pins s σ H x v vl vu lo hi sl Q I rx hs pl pu q
  · exact h' pins s σ H x v vl vu lo hi sl Q I rx hs pl pu q
def tSl (r : V → Option Int → Option Int → Hp → VK → Prop) (te : TE) (tl th : TO) : TE := fun σ H Q => te σ H fun x H1 => tl σ H1 fun l H2 => th σ H2 fun u H3 => r x l u H3 Q
/-- a[lo:hi], any a -/
theorem pe_slice {r : V → Option Int → Option Int → Hp → VK → Prop} (hr : SlR X r) (he : PE X e te) (hl : PO X lo tl) (hu : PO X hi th) : PE X (.Subscript e (.Slice lo hi none p2) pos) (tSl r te tl th) := by
  intro pins s σ H Q I h
  refine Subscript_ (thn (he pins s σ H _ I h) fun v s1 ⟨x, H1, I1, r1, q1⟩ => ?_)
  refine wpAny_Slice (thn (hl pins s1 σ H1 _ I1 q1) fun vl s2 ⟨l, H2, I2, pl, q2⟩ => thn (hu pins s2 σ H2 _ I2 q2) fun vu s3 ⟨u, H3, I3, pu, q3⟩ => ?_)
  rw [evalPart_none]
  refine wpAny_pure ?_
  have I4 : Inv X pins σ H3 { s3 with heap := s3.heap.push { cls := .type "slice", data := .fields #[vl, vu, .none] } } := I3.kept (t' := s3.toks) fun b ob q => Heap.get?_push_of_some _ q
  obtain ⟨T, id, hT, ht, hg⟩ := hr pins { s3 with heap := s3.heap.push { cls := .type "slice", data := .fields #[vl, vu, .none] } } σ H3 x v vl vu l u s3.heap.objs.size Q I4 r1 (Heap.IsSliceOf.new ..) pl pu q3
  show wpAny (model X.prog X.w) X.A (subscriptTail e (.Slice lo hi none p2) v (.ref s3.heap.objs.size)) (EP X pins σ Q) X.xe { s3 with heap := s3.heap.push { cls := .type "slice", data := .fields #[vl, vu, .none] } }
  exact tail_any (ops := [.ref s3.heap.objs.size, v]) ht hT hg (by with_unfolding_all rfl)

/-- the items of xs[lo:hi] -/
def cutV (xs : List V) (lo hi : Option Int) : List V := (xs.drop (HT.sIx xs.length 0 lo)).take (HT.sIx xs.length xs.length hi - HT.sIx xs.length 0 lo)
theorem cutV_length (xs : List V) (lo hi : Option Int) : (cutV xs lo hi).length ≤ xs.length := by
  unfold cutV
  rw [List.length_take, List.length_drop]
  omega
/-- t[lo:hi], not the whole of it (the whole would be t itself) -/
def rSlT (K : PySem.W.Frag) : V → Option Int → Option Int → Hp → VK → Prop := fun x lo hi H Q => ∃ a xs, x = .ref a ∧ SqT K H a xs ∧
  ¬ (HT.sIx xs.length 0 lo = 0 ∧ HT.sIx xs.length xs.length hi = xs.length) ∧ ∀ p, H p = none → Q (.ref p) (upd H p (.tup (cutV xs lo hi)))
theorem sl_tup : SlR X (rSlT X.K) := by
  intro pins s σ H x v vl vu lo hi sl Q I rx hs pl pu h
  obtain ⟨a, xs, rfl, hx, hw, q⟩ := h
  cases rx
  obtain ⟨its, r, ht, hz⟩ := I.tuple hx
  have hlen : its.toArray.size = xs.length := by rw [List.size_toArray]; exact r.length.symm
  refine ⟨"tuple", _, PyProof.Rows.slot_tuple_getitem.lookup, ht.typeIs, ?_⟩
  refine HT.getItem_tuple_cut ht hs pl pu (by rw [hlen]; exact hw) ?_ (by rw [hlen]; exact hz)
  rw [hlen]
  refine ⟨.ref s.heap.objs.size, _, I.laid (t' := s.toks) (o := .tup (cutV xs lo hi)) (fun b ob q => Heap.get?_push_of_some _ q) (Nat.le_refl _) ?_, rfl, q _ (I.hok.fresh (Nat.le_refl _))⟩
  exact ⟨Nat.le_trans (cutV_length xs lo hi) hz, _, (r.drop (HT.sIx xs.length 0 lo)).take (HT.sIx xs.length xs.length hi - HT.sIx xs.length 0 lo), IsTup.new _ _⟩

/-- t + u, t not empty: u empty gives t itself -/
def rCatT (K : PySem.W.Frag) : R2 := fun x y H Q => ∃ a b xs ys, x = .ref a ∧ y = .ref b ∧ SqT K H a xs ∧ SqT K H b ys ∧ xs ≠ [] ∧ xs.length + ys.length ≤ sizeLine ∧
  (ys = [] → Q (.ref a) H) ∧ (ys ≠ [] → ∀ p, H p = none → Q (.ref p) (upd H p (.tup (xs ++ ys))))
theorem Vals.nil_iff {xs : List V} {us : List Value} (r : Vals xs us) : us = [] ↔ xs = [] := by
  cases r with
  | nil => simp
  | cons _ _ => simp
theorem op_catT : OpR X (binaryOp .Add) (rCatT X.K) := by
  intro pins s σ H x y v u Q I rx ry h
  obtain ⟨a, b, xs, ys, rfl, rfl, ha, hb, hx, hz, q1, q2⟩ := h
  cases rx
  cases ry
  obtain ⟨its, r1, p1, _⟩ := I.tuple ha
  obtain ⟨its2, r2, p2, _⟩ := I.tuple hb
  refine HT.cat_tup p1 p2 (fun z => hx (r1.nil_iff.mp z)) (fun z => ⟨.ref a, H, I, rfl, q1 (r2.nil_iff.mp z)⟩) (fun z => ?_) (by rw [← r1.length, ← r2.length]; exact hz)
  refine ⟨.ref s.heap.objs.size, _, I.laid (t' := s.toks) (o := .tup (xs ++ ys)) (fun b ob q => Heap.get?_push_of_some _ q) (Nat.le_refl _) ?_, rfl, q2 (fun w => z (r2.nil_iff.mpr w)) _ (I.hok.fresh (Nat.le_refl _))⟩
  exact ⟨by rw [List.length_append]; exact hz, _, r1.append r2, IsTup.new _ _⟩
end
end L2

namespace L2
open PySem PySem.Spec PyProof.Rows

/-- the place that an index of any sign means -/
def ixN (n : Nat) (i : Int) : Option Nat := if 0 ≤ i then (if i < n then some i.toNat else none) else if -(n : Int) ≤ i then some (i + n).toNat else none
def atI {α : Type} (xs : List α) (i : Int) : Option α := (ixN xs.length i).bind fun j => xs[j]?
theorem ixN_seq {n : Nat} {i : Int} {j : Nat} (h : ixN n i = some j) : seqIndex? i n = some j ∧ j < n ∧ -(n : Int) ≤ i ∧ i < n := by
  unfold ixN at h
  by_cases h0 : 0 ≤ i
  · rw [if_pos h0] at h
    by_cases h1 : i < n
    · rw [if_pos h1] at h
      have e : i.toNat = j := Option.some.inj h
      exact ⟨by rw [seqIndex_of h0 h1, e], by omega, by omega, h1⟩
    · rw [if_neg h1] at h; cases h
  · rw [if_neg h0] at h
    by_cases h1 : -(n : Int) ≤ i
    · rw [if_pos h1] at h
      have e : (i + n).toNat = j := Option.some.inj h
      exact ⟨by rw [seqIndex_neg (by omega) h1, e], by omega, h1, by omega⟩
    · rw [if_neg h1] at h; cases h
theorem atI_get {α : Type} {xs : List α} {i : Int} {v : α} (h : atI xs i = some v) : ∃ j, seqIndex? i xs.length = some j ∧ xs[j]? = some v ∧ j < xs.length ∧ -(xs.length : Int) ≤ i ∧ i < xs.length := by
  unfold atI at h
  cases e : ixN xs.length i with
  | none => rw [e] at h; cases h
  | some j =>
    rw [e] at h
    obtain ⟨h1, h2, h3, h4⟩ := ixN_seq e
    exact ⟨j, h1, h, h2, h3, h4⟩
theorem atI_nat {α : Type} {xs : List α} {j : Nat} {v : α} (h : xs[j]? = some v) : atI xs (j : Int) = some v := by
  have hj : j < xs.length := (List.getElem?_eq_some_iff.mp h).1
  have e : ixN xs.length (j : Int) = some j := by
    unfold ixN
    rw [if_pos (by omega), if_pos (by omega)]; simp
  unfold atI; rw [e]; exact h
/-- what stands as an index of a plain subscript -/
def PlainIx (b : Expr) : Prop := ∀ o i, subscripted b false o i = operate [o, i] (getItem o i)
/-- a subscript by values -/
def IxR (X : Cx) (r : R2) : Prop :=
  ∀ (value slice : Expr) (pins : List (Addr × Obj)) (s : Shared) (σ : St) (H : Hp) (x y : V) (v u : Value) (Q : VK), Inv X pins σ H s → RelV x v → RelV y u → r x y H Q →
    subscripted slice false v u = operate [v, u] (getItem v u) → wpAny (model X.prog X.w) X.A (subscriptTail value slice v u) (EP X pins σ Q) X.xe s
/-- a call of a builtin's method by values: the receiver, the arguments -/
def MtR (X : Cx) (id : String) (r : V → List V → Hp → VK → Prop) : Prop :=
  ∀ (pins : List (Addr × Obj)) (s : Shared) (σ : St) (H : Hp) (x : V) (xs : List V) (v : Value) (us : List Value) (Q : VK), Inv X pins σ H s → RelV x v → Vals xs us → r x xs H Q →
    wpAny (model X.prog X.w) X.A (call (.builtin id) (v :: us)) (EP X pins σ Q) X.xe s
section
variable {X : Cx} {a b : Expr} {ta tb : TE} {pos : Pos}
theorem IxR.or {r r' : R2} (h : IxR X r) (h' : IxR X r') : IxR X (fun x y H Q => r x y H Q ∨ r' x y H Q) := by
  intro value slice pins s σ H x y v u Q I rx ry q hs
  rcases q with q | q
  · exact h value slice pins s σ H x y v u Q I rx ry q hs
  · exact h' value slice pins s σ H x y v u Q I rx ry q hs
theorem MtR.or {id : String} {r r' : V → List V → Hp → VK → Prop} (h : MtR X id r) (h' : MtR X id r') : MtR X id (fun x xs H Q => r x xs H Q ∨ r' x xs H Q) := by
  intro pins s σ H x xs v us Q I rx rs q
  rcases q with q | q
  · exact h pins s σ H x xs v us Q I rx rs q
  · exact h' pins s σ H x xs v us Q I rx rs q
/-- a[b] -/
theorem pe_ix {r : R2} (hr : IxR X r) (ha : PE X a ta) (hb : PE X b tb) (hs : PlainIx b) : PE X (.Subscript a b pos) (tOp r ta tb) := by
  intro pins s σ H Q I h
  exact Subscript_ (binT ha hb I h fun v u s2 x y H2 I2 rx ry q => hr a b pins s2 σ H2 x y v u Q I2 rx ry q (hs _ _))

def rIxL (K : PySem.W.Frag) : R2 := fun x y H Q => ∃ p xs i v, x = .ref p ∧ y = .int i ∧ SqL K H p xs ∧ atI xs i = some v ∧ Q v H
def rIxT (K : PySem.W.Frag) : R2 := fun x y H Q => ∃ p xs i v, x = .ref p ∧ y = .int i ∧ SqT K H p xs ∧ atI xs i = some v ∧ Q v H
def rIxS : R2 := fun x y H Q => ∃ z i c, x = .str z ∧ y = .int i ∧ z.length ≤ sizeLine ∧ atI z.cps.toList i = some c ∧ Q (.str ⟨#[c]⟩) H
theorem ix_list : IxR X (rIxL X.K) := by
  intro value slice pins s σ H x y v u Q I rx ry h hs
  obtain ⟨p, xs, i, z, rfl, rfl, hq, he, q⟩ := h
  cases rx
  obtain ⟨t, rfl⟩ := ry
  obtain ⟨its, r, pl, hz⟩ := I.list hq
  obtain ⟨j, h1, h2, h3, h4, h5⟩ := atI_get he
  obtain ⟨w, ew, rw'⟩ := r.get h2
  have hl := r.length
  have hn := line63
  have fin : EP X pins σ Q w s := ⟨z, H, I, rw', q⟩
  by_cases h0 : 0 ≤ i
  · have hj : i.toNat = j := by
      rw [seqIndex_of h0 h5] at h1
      exact Option.some.inj h1
    exact item_listR pl.isList h0 (by omega) (by rw [hj]; simpa using ew) fin hs
  · have hj : (i + (its.toArray.size : Int)).toNat = j := by
      rw [seqIndex_neg (by omega) h4] at h1
      rw [List.size_toArray, ← hl]
      exact Option.some.inj h1
    exact subscriptTail_builtinR (x := w) pl.isList.typeIs slot_list_getitem.lookup
      (wpAny_getItem_list_neg (Q := fun r s' => r = w ∧ EP X pins σ Q r s') pl.isList (by omega) (by rw [List.size_toArray] <;> omega) (by omega) (by rw [hj]; simpa using ew) ⟨rfl, fin⟩) hs
theorem ix_tup : IxR X (rIxT X.K) := by
  intro value slice pins s σ H x y v u Q I rx ry h hs
  obtain ⟨p, xs, i, z, rfl, rfl, hq, he, q⟩ := h
  cases rx
  obtain ⟨t, rfl⟩ := ry
  obtain ⟨its, r, pl, hz⟩ := I.tuple hq
  obtain ⟨j, h1, h2, h3, h4, h5⟩ := atI_get he
  obtain ⟨w, ew, rw'⟩ := r.get h2
  have hl := r.length
  have hn := line63
  have fin : EP X pins σ Q w s := ⟨z, H, I, rw', q⟩
  exact subscriptTail_builtinR (x := w) pl.typeIs slot_tuple_getitem.lookup
    (getItem_tuple (j := j) (Q := fun r s' => r = w ∧ EP X pins σ Q r s') pl (by omega) (by omega) (by rw [List.size_toArray, ← hl]; exact h1) (by simpa using ew) ⟨rfl, fin⟩) hs
theorem ix_str : IxR X rIxS := by
  intro value slice pins s σ H x y v u Q I rx ry h hs
  obtain ⟨z, i, c, rfl, rfl, hz, he, q⟩ := h
  obtain ⟨t, rfl⟩ := rx
  obtain ⟨t', rfl⟩ := ry
  obtain ⟨j, h1, h2, h3, h4, h5⟩ := atI_get he
  have hl : z.cps.toList.length = z.length := by simp [Str.length]
  rw [hl] at h1 h4 h5
  have hn := line63
  exact tail_any (typeIs_str s z t) slot_str_getitem.lookup (getItem_str (c := c) (by
    have e1 : decide (i < -(2 ^ 63 : Int)) = false := decide_eq_false (by omega)
    have e2 : decide (i ≥ 2 ^ 63) = false := decide_eq_false (by omega)
    rw [e1, e2, Bool.or_false]) (by rw [h1]; simpa using h2) ⟨.str ⟨#[c]⟩, H, I.tok _, ⟨_, rfl⟩, q⟩) hs
/-- list, tuple or str -/
def rIx (K : PySem.W.Frag) : R2 := fun x y H Q => rIxL K x y H Q ∨ rIxT K x y H Q ∨ rIxS x y H Q
theorem ix_seq : IxR X (rIx X.K) := ix_list.or (ix_tup.or ix_str)

/-- the list's object behind a store -/
theorem mapSeq_set (its : List Value) (n j : Nat) (u : Value) : Obj.mapSeq (·.setIfInBounds j u) { cls := .type "list", data := .seq its.toArray n } = { cls := .type "list", data := .seq (its.set j u).toArray n } := by
  simp [Obj.mapSeq]
theorem Inv.lst {pins : List (Addr × Obj)} {σ : St} {H : Hp} {s : Shared} {p : Addr} {xs : List V} (I : Inv X pins σ H s) (h : H p = some (.lst xs)) :
    ∃ (its : List Value) (n : Nat), Vals xs its ∧ s.heap.get? p = some { cls := .type "list", data := .seq its.toArray n } ∧ xs.length ≤ sizeLine := by
  obtain ⟨z, its, n, r, e⟩ := I.hok p _ h
  exact ⟨its, n, r, e, z⟩
/-- the list at p is written by an update of its object -/
theorem Inv.lstUpd {pins : List (Addr × Obj)} {σ : St} {H : Hp} {s : Shared} {p : Addr} {xs ys : List V} {its its' : List Value} {n n' : Nat} {f : Obj → Obj} (I : Inv X pins σ H s) (h : H p = some (.lst xs))
    (ho : s.heap.get? p = some { cls := .type "list", data := .seq its.toArray n }) (hf : f { cls := .type "list", data := .seq its.toArray n } = { cls := .type "list", data := .seq its'.toArray n' }) (r : Vals ys its') (hz : ys.length ≤ sizeLine) (t : Nat) :
    Inv X pins σ (upd H p (.lst ys)) { s with heap := s.heap.update p f, toks := t } := by
  have e : (s.heap.update p f).get? p = some { cls := .type "list", data := .seq its'.toArray n' } := by
    rw [Heap.get?_update_self f ho (by rw [hf] <;> rfl), hf]
  refine I.write (x := p) (e := p) (by rw [h]; trivial) (.inl rfl) (fun b u hb q => (Heap.get?_update_other _ _ (Ne.symm hb)).trans q) ⟨_, e⟩ ?_
  exact ⟨hz, its', n', r, e⟩
def rSetL : V → V → V → Hp → (Hp → Prop) → Prop := fun o i v H Q => ∃ p xs k j, o = .ref p ∧ i = .int k ∧ H p = some (.lst xs) ∧ ixN xs.length k = some j ∧ Q (upd H p (.lst (xs.set j v)))
theorem set_list : PSet X rSetL := by
  intro pins s σ H o i v ov iv u Q I ro ri rv h
  obtain ⟨p, xs, k, j, rfl, rfl, hp, hj, q⟩ := h
  cases ro
  obtain ⟨t, rfl⟩ := ri
  obtain ⟨its, n, r, ho, hz⟩ := I.lst hp
  obtain ⟨h1, h2, h3, h4⟩ := ixN_seq hj
  have hl := r.length
  have hn := line63
  have I' : Inv X pins σ (upd H p (.lst (xs.set j v))) { s with heap := s.heap.update p (Obj.mapSeq (·.setIfInBounds j u)) } :=
    I.lstUpd hp ho (mapSeq_set its n j u) (r.set rv j) (by rw [List.length_set]; exact hz) s.toks
  by_cases h0 : 0 ≤ k
  · have hk : k.toNat = j := by
      rw [seqIndex_of h0 h4] at h1
      exact Option.some.inj h1
    exact PySem.W.ki_setAt ho h0 (by omega) (by rw [List.size_toArray, ← hl]; exact h4) (by rw [hk]; exact ⟨_, I', q⟩)
  · have hk : (k + (its.toArray.size : Int)).toNat = j := by
      rw [seqIndex_neg (by omega) h3] at h1
      rw [List.size_toArray, ← hl]
      exact Option.some.inj h1
    exact PySem.W.ki_setBack ho (by omega) (by rw [List.size_toArray, ← hl]; exact h3) (by omega) (by rw [hk]; exact ⟨_, I', q⟩)

theorem slice_bounds (lo hi : Option Int) (n : Nat) : (sliceBounds lo hi none n).1 = ((HT.sIx n 0 lo : Nat) : Int) ∧ (sliceBounds lo hi none n).2.1 = ((HT.sIx n n hi : Nat) : Int) ∧ (sliceBounds lo hi none n).2.2 = 1 := by
  refine ⟨?_, ?_, rfl⟩
  · cases lo with
    | none => simp [sliceBounds, HT.sIx]
    | some i =>
      simp only [sliceBounds, HT.sIx, Option.getD_none, show (1 : Int) > 0 by decide, if_true]
      by_cases h : i < 0
      · simp only [h, if_true] <;> omega
      · simp only [h, if_false] <;> omega
  · cases hi with
    | none => simp [sliceBounds, HT.sIx]
    | some i =>
      simp only [sliceBounds, HT.sIx, Option.getD_none, show (1 : Int) > 0 by decide, if_true]
      by_cases h : i < 0
      · simp only [h, if_true] <;> omega
      · simp only [h, if_false] <;> omega
theorem slicePick_cut (its : List Value) (lo hi : Option Int) : slicePick its.toArray lo hi none = ((its.drop (HT.sIx its.length 0 lo)).take (HT.sIx its.length its.length hi - HT.sIx its.length 0 lo)).toArray := by
  obtain ⟨h1, h2, h3⟩ := slice_bounds lo hi its.toArray.size
  unfold slicePick
  rw [h1, h2, h3]
  simp only [sliceRange_one, pick_run, List.size_toArray] <;> rfl
/-- xs[lo:hi] of a list: a new list -/
def rSlL (K : PySem.W.Frag) : V → Option Int → Option Int → Hp → VK → Prop := fun x lo hi H Q => ∃ a xs, x = .ref a ∧ SqL K H a xs ∧ ∀ p, H p = none → Q (.ref p) (upd H p (.lst (cutV xs lo hi)))
theorem sl_list : SlR X (rSlL X.K) := by
  intro pins s σ H x v vl vu lo hi sl Q I rx hs pl pu h
  obtain ⟨a, xs, rfl, hx, q⟩ := h
  cases rx
  obtain ⟨its, r, ht, hz⟩ := I.list hx
  have hlen := r.length
  refine ⟨"list", _, slot_list_getitem.lookup, ht.isList.typeIs, ?_⟩
  refine wpAny_getItem_list_slice ht.isList hs pl pu .none (by simp) ?_ (by rw [List.size_toArray] <;> omega)
  rw [slicePick_cut, ← hlen]
  refine ⟨.ref s.heap.objs.size, _, I.laid (t' := s.toks) (o := .lst (cutV xs lo hi)) (fun b ob q => Heap.get?_push_of_some _ q) (Nat.le_refl _) ?_, rfl, q _ (I.hok.fresh (Nat.le_refl _))⟩
  exact ⟨Nat.le_trans (cutV_length xs lo hi) hz, _, 0, (r.drop (HT.sIx xs.length 0 lo)).take (HT.sIx xs.length xs.length hi - HT.sIx xs.length 0 lo), Heap.get?_push_size _ rfl⟩

def flatV : V → Bool
  | .non => true
  | .bl _ => true
  | .int _ => true
  | .str _ => true
  | _ => false
/-- == of flat values -/
def eqV : V → V → Bool
  | .non, .non => true
  | .bl a, .bl b => a == b
  | .bl a, .int b => (if a then 1 else 0) == b
  | .int a, .bl b => a == (if b then 1 else 0)
  | .int a, .int b => a == b
  | .str a, .str b => a == b
  | _, _ => false
theorem eqAt_V {A : Around} {s : Shared} {y x : V} {u v : Value} (ry : RelV y u) (rx : RelV x v) (fy : flatV y = true) (fx : flatV x = true) : SeqAt.EqAt A s u v (eqV y x) := by
  cases y with
  | non =>
    cases ry
    cases x with
    | non => cases rx; exact SeqAt.EqAt.same _
    | bl b => cases rx; exact SeqAt.EqAt.none_bool b
    | int b => obtain ⟨t, rfl⟩ := rx; exact SeqAt.EqAt.none_int b t
    | str b => obtain ⟨t, rfl⟩ := rx; exact SeqAt.EqAt.none_str b t
    | _ => exact absurd (show false = true from fx) Bool.false_ne_true
  | bl a =>
    cases ry
    cases x with
    | non => cases rx; exact SeqAt.EqAt.bool_none a
    | bl b => cases rx; exact SeqAt.EqAt.bool_bool a b
    | int b => obtain ⟨t, rfl⟩ := rx; exact SeqAt.EqAt.bool_int a b t
    | str b => obtain ⟨t, rfl⟩ := rx; exact SeqAt.EqAt.bool_str a b t
    | _ => exact absurd (show false = true from fx) Bool.false_ne_true
  | int a =>
    obtain ⟨t', rfl⟩ := ry
    cases x with
    | non => cases rx; exact SeqAt.EqAt.int_none a t'
    | bl b => cases rx; exact SeqAt.EqAt.int_bool a t' b
    | int b => obtain ⟨t, rfl⟩ := rx; exact SeqAt.EqAt.int_int a t' b t
    | str b => obtain ⟨t, rfl⟩ := rx; exact SeqAt.EqAt.int_str a t' b t
    | _ => exact absurd (show false = true from fx) Bool.false_ne_true
  | str a =>
    obtain ⟨t', rfl⟩ := ry
    cases x with
    | non => cases rx; exact SeqAt.EqAt.str_none a t'
    | bl b => cases rx; exact SeqAt.EqAt.str_bool a t' b
    | int b => obtain ⟨t, rfl⟩ := rx; exact SeqAt.EqAt.str_int a t' b t
    | str b => obtain ⟨t, rfl⟩ := rx; exact SeqAt.EqAt.str_str a t' b t
    | _ => exact absurd (show false = true from fx) Bool.false_ne_true
  | _ => exact absurd (show false = true from fy) Bool.false_ne_true
/-- the items' answers, read off the values (a value's own answer does not lean on its token) -/
def eqU (x : V) (u : Value) : Bool := match u with
  | .none => eqV .non x
  | .bool b => eqV (.bl b) x
  | .int i _ => eqV (.int i) x
  | .str z _ => eqV (.str z) x
  | _ => false
theorem eqU_of {x y : V} {u : Value} (r : RelV y u) (f : flatV y = true) : eqU x u = eqV y x := by
  cases y with
  | non => cases r; rfl
  | bl b => cases r; rfl
  | int i => obtain ⟨t, rfl⟩ := r; rfl
  | str z => obtain ⟨t, rfl⟩ := r; rfl
  | _ => exact absurd (show false = true from f) Bool.false_ne_true
theorem any_eqU {x : V} : ∀ {xs : List V} {us : List Value}, Vals xs us → xs.all flatV = true → us.any (eqU x) = xs.any fun y => eqV y x
  | _, _, .nil, _ => rfl
  | y :: xs, u :: us, .cons r t, f => by
    rw [List.all_cons, Bool.and_eq_true] at f
    rw [List.any_cons, List.any_cons, eqU_of r f.1, any_eqU t f.2]
theorem mem_eqAt {A : Around} {s : Shared} {x : V} {v : Value} (rx : RelV x v) (fx : flatV x = true) : ∀ {xs : List V} {us : List Value}, Vals xs us → xs.all flatV = true → ∀ u ∈ us, SeqAt.EqAt A s u v (eqU x u)
  | _, _, .nil, _ => fun u hu => by cases hu
  | y :: xs, u :: us, .cons r t, f => fun u' hu => by
    rw [List.all_cons, Bool.and_eq_true] at f
    rcases List.mem_cons.mp hu with rfl | hu
    · rw [eqU_of r f.1]; exact eqAt_V r rx f.1 fx
    · exact mem_eqAt rx fx t f.2 u' hu
def inV (x : V) (xs : List V) : Bool := xs.any fun y => eqV y x
/-- x in a list or tuple of flat items -/
def rIn (K : PySem.W.Frag) (neg : Bool) : R2 := fun x y H Q => ∃ p xs, y = .ref p ∧ (SqL K H p xs ∨ SqT K H p xs) ∧ flatV x = true ∧ xs.all flatV = true ∧ Q (.bl (if neg then !inV x xs else inV x xs)) H
theorem op_in_seq : OpR X (compareOp .In) (rIn X.K false) := by
  intro pins s σ H x y v u Q I rx ry h
  obtain ⟨p, xs, rfl, hq, fx, fs, q⟩ := h
  cases ry
  rcases hq with hq | hq
  · obtain ⟨its, r, pl, hz⟩ := I.list hq
    refine SeqAt.in_listAt (eqU x) pl.isList (fun w hw => mem_eqAt rx fx r fs w (by simpa using hw)) ⟨.bl _, H, I, rfl, ?_⟩
    rw [show its.toArray.any (eqU x) = its.any (eqU x) by simp, any_eqU r fs]
    exact q
  · obtain ⟨its, r, pl, hz⟩ := I.tuple hq
    refine SeqAt.in_tupleAt (eqU x) pl (fun w hw => mem_eqAt rx fx r fs w (by simpa using hw)) ⟨.bl _, H, I, rfl, ?_⟩
    rw [show its.toArray.any (eqU x) = its.any (eqU x) by simp, any_eqU r fs]
    exact q
theorem op_notIn_seq : OpR X (compareOp .NotIn) (rIn X.K true) := by
  intro pins s σ H x y v u Q I rx ry h
  obtain ⟨p, xs, rfl, hq, fx, fs, q⟩ := h
  cases ry
  rcases hq with hq | hq
  · obtain ⟨its, r, pl, hz⟩ := I.list hq
    refine SeqAt.notIn_listAt (eqU x) pl.isList (fun w hw => mem_eqAt rx fx r fs w (by simpa using hw)) ⟨.bl _, H, I, rfl, ?_⟩
    rw [show its.toArray.any (eqU x) = its.any (eqU x) by simp, any_eqU r fs]
    exact q
  · obtain ⟨its, r, pl, hz⟩ := I.tuple hq
    refine SeqAt.notIn_tupleAt (eqU x) pl (fun w hw => mem_eqAt rx fx r fs w (by simpa using hw)) ⟨.bl _, H, I, rfl, ?_⟩
    rw [show its.toArray.any (eqU x) = its.any (eqU x) by simp, any_eqU r fs]
    exact q
theorem call_len_seq : CallR X (.builtin "len") (fun xs H Q => ∃ p ys, xs = [.ref p] ∧ (SqL X.K H p ys ∨ SqT X.K H p ys) ∧ Q (.int ys.length) H) := by
  intro pins s σ H xs us Q I r h
  obtain ⟨p, ys, rfl, hq, q⟩ := h
  obtain ⟨u, rfl, rx⟩ := vals1 r
  cases rx
  have hn := line63
  rcases hq with hq | hq
  · obtain ⟨its, r', pl, hz⟩ := I.list hq
    have hlen := r'.length
    exact Calls.call_len_list pl.isList (by simp only [List.size_toArray] <;> omega) ⟨.int ys.length, H, I.tok _, ⟨s.toks + 1, by rw [List.size_toArray, hlen]⟩, q⟩
  · obtain ⟨its, r', pl, hz⟩ := I.tuple hq
    have hlen := r'.length
    exact len_tuple pl (by simp only [List.size_toArray] <;> omega) ⟨.int ys.length, H, I.tok _, ⟨s.toks + 1, by rw [List.size_toArray, hlen]⟩, q⟩
theorem call_len_str : CallR X (.builtin "len") (fun xs H Q => ∃ z, xs = [.str z] ∧ z.length ≤ sizeLine ∧ Q (.int z.length) H) := by
  intro pins s σ H xs us Q I r h
  obtain ⟨z, rfl, hz, q⟩ := h
  obtain ⟨u, rfl, t, rfl⟩ := vals1 r
  have hn := line63
  exact len_str (by omega) ⟨.int z.length, H, I.tok _, ⟨_, rfl⟩, q⟩
theorem CallR.or {f : Value} {r r' : List V → Hp → VK → Prop} (h : CallR X f r) (h' : CallR X f r') : CallR X f (fun xs H Q => r xs H Q ∨ r' xs H Q) := by
  intro pins s σ H xs us Q I rs q
  rcases q with q | q
  · exact h pins s σ H xs us Q I rs q
  · exact h' pins s σ H xs us Q I rs q
theorem call_list_of : CallR X (.type "list") (fun xs H Q => ∃ p ys, xs = [.ref p] ∧ (SqL X.K H p ys ∨ SqT X.K H p ys) ∧ ∀ l, H l = none → Q (.ref l) (upd H l (.lst ys))) := by
  intro pins s σ H xs us Q I r h
  obtain ⟨p, ys, rfl, hq, q⟩ := h
  obtain ⟨u, rfl, rx⟩ := vals1 r
  cases rx
  have fin : ∀ (its : List Value), Vals ys its → ys.length ≤ sizeLine → ∀ (h' : Heap) (c' : Nat), (∀ b o', s.heap.get? b = some o' → h'.get? b = some o') →
      h'.get? s.heap.objs.size = some { cls := .type "list", dict := none, data := .seq its.toArray c', slots := #[] } → EP X pins σ Q (.ref s.heap.objs.size) { s with heap := h' } := fun its r' hz h' c' kp e =>
    ⟨.ref s.heap.objs.size, _, I.laid (t' := s.toks) kp (Nat.le_refl _) (show ObjOk X.prog X.w _ h' _ (.lst ys) from ⟨hz, its, c', r', e⟩), rfl, q _ (I.hok.fresh (Nat.le_refl _))⟩
  rcases hq with hq | hq
  · obtain ⟨its, r', pl, hz⟩ := I.list hq
    have hlen := r'.length
    obtain ⟨o, ho, hc, n, hd⟩ := pl.isList
    exact call_list_seq p (.inl rfl) ho hc hd (fun h' c' kp e => fin its r' hz h' c' kp e) (by simp only [List.size_toArray] <;> omega)
  · obtain ⟨its, r', pl, hz⟩ := I.tuple hq
    have hlen := r'.length
    obtain ⟨o, ho, hc, n, hd⟩ := pl
    exact call_list_seq p (.inr rfl) ho hc hd (fun h' c' kp e => fin its r' hz h' c' kp e) (by simp only [List.size_toArray] <;> omega)
theorem call_tuple_of : CallR X (.type "tuple") (fun xs H Q => ∃ p ys, xs = [.ref p] ∧ ((SqL X.K H p ys ∧ ∀ l, H l = none → Q (.ref l) (upd H l (.tup ys))) ∨ (SqT X.K H p ys ∧ Q (.ref p) H))) := by
  intro pins s σ H xs us Q I r h
  obtain ⟨p, ys, rfl, h⟩ := h
  obtain ⟨u, rfl, rx⟩ := vals1 r
  cases rx
  rcases h with ⟨hq, q⟩ | ⟨hq, q⟩
  · obtain ⟨its, r', pl, hz⟩ := I.list hq
    have hlen := r'.length
    refine call_tuple_list pl.isList (fun h' kp => ?_) (by simp only [List.size_toArray] <;> omega)
    have I1 : Inv X pins σ H { s with heap := h' } := I.kept (t' := s.toks) kp
    have I2 : Inv X pins σ (upd H h'.objs.size (.tup ys)) { s with heap := h'.push { cls := .type "tuple", data := .seq its.toArray } } :=
      I1.laid (t' := s.toks) (fun b o e => Heap.get?_push_of_some _ e) (Nat.le_refl _) (show ObjOk X.prog X.w _ _ _ (.tup ys) from ⟨hz, its, r', IsTup.new _ _⟩)
    exact ⟨.ref h'.objs.size, _, I2, rfl, q _ (I1.hok.fresh (Nat.le_refl _))⟩
  · obtain ⟨its, r', pl, hz⟩ := I.tuple hq
    exact call_tuple_same pl ⟨.ref p, H, I, rfl, q⟩

/-- the value is of that builtin type -/
def tyV (K : PySem.W.Frag) (T : String) (x : V) (H : Hp) : Prop := match x with
  | .str _ => T = "str"
  | .int _ => T = "int"
  | .ref p => (T = "list" ∧ ∃ xs, SqL K H p xs) ∨ (T = "tuple" ∧ ∃ o, K.lookup p = some o ∧ o.cls = .type "tuple" ∧ o.dict = none) ∨
      (T = "dict" ∧ ((∃ kvs, H p = some (.dK kvs)) ∨ ∃ kvs, H p = some (.dT kvs))) ∨ (T = "set" ∧ ∃ S n, H p = some (.set S n))
  | _ => False
theorem tyV_is {pins : List (Addr × Obj)} {σ : St} {H : Hp} {s : Shared} {T : String} {x : V} {v : Value} (I : Inv X pins σ H s) (r : RelV x v) (ty : tyV X.K T x H) :
    s.TypeIs v T ∧ ∀ a, v = .ref a → ∃ ob, s.heap.get? a = some ob ∧ ob.dict = none := by
  cases x with
  | str z =>
    obtain ⟨t, rfl⟩ := r
    cases (show T = "str" from ty)
    exact ⟨typeIs_str s z t, fun _ e => nomatch e⟩
  | int i =>
    obtain ⟨t, rfl⟩ := r
    cases (show T = "int" from ty)
    exact ⟨typeIs_int s i t, fun _ e => nomatch e⟩
  | ref p =>
    cases r
    rcases ty with ⟨rfl, xs, hq⟩ | ⟨rfl, o, hk, hc, hd⟩ | ⟨rfl, hk⟩ | ⟨rfl, S, n, hk⟩
    · obtain ⟨its, _, pl, _⟩ := I.list hq
      refine ⟨pl.isList.typeIs, fun a e => ?_⟩
      cases e
      obtain ⟨o, n, e, c, hd, _⟩ := pl
      exact ⟨o, e, hd⟩
    · refine ⟨⟨o, I.kIn p o hk, hc⟩, fun a e => ?_⟩
      cases e
      exact ⟨o, I.kIn _ o hk, hd⟩
    · have z : ∃ o, s.heap.get? p = some o ∧ o.ExactDict := by
        rcases hk with ⟨kvs, hk⟩ | ⟨kvs, hk⟩
        · obtain ⟨_, _, _, _, o, _, _, e, ex, _⟩ := I.hok p _ hk
          exact ⟨o, e, ex⟩
        · obtain ⟨_, _, _, _, o, _, _, e, ex, _⟩ := I.hok p _ hk
          exact ⟨o, e, ex⟩
      obtain ⟨o, e, ex⟩ := z
      refine ⟨⟨o, e, ex.1⟩, fun a e2 => ?_⟩
      cases e2
      exact ⟨o, e, ex.2.1⟩
    · obtain ⟨o, _, _, _, e, ex, _⟩ := I.hok p _ hk
      refine ⟨⟨o, e, ex.1⟩, fun a e2 => ?_⟩
      cases e2
      exact ⟨o, e, ex.2.1⟩
  | _ => exact False.elim ty
def tBM (K : PySem.W.Frag) (T : String) (r : V → List V → Hp → VK → Prop) (to : TE) (t : TA) : TE := fun σ H Q => to σ H fun x H1 => tyV K T x H1 ∧ t σ H1 fun xs H2 => r x xs H2 Q
variable {o e : Expr} {es : List Expr} {to : TE} {t : TA} {name : Str} {apos cpos : Pos} {T id : String} {r : V → List V → Hp → VK → Prop}
theorem pe_bm (pa : PlainAttrs T) (slot : Slot T name id) (hty : typeOf (.builtin id) = pure (.type "method_descriptor")) (hm : MtR X id r) (ho : PE X o to) (ha : PA X (e :: es) t)
    (hbase : attributeBase o name X.env (eval o X.env) = eval o X.env := by rfl)
    (hfew : ((backTo cpos (starEach (e :: es) X.env)).all (fun x => !x.1) && (backToKw cpos (keywordEach [] X.env)).all (fun x => x.1.isSome)
      && decide ((e :: es).length + ([] : List Keyword).length + (if ([] : List Keyword).isEmpty then 0 else 1) < 30)) = true := by rfl)
    (hline : (apos.endLine == cpos.line) = true := by rfl) (hs : starEach (e :: es) X.env = (false, eval e X.env) :: starEach es X.env := by rfl) (hplain : (backTo cpos (starEach es X.env)).any (·.1) = false := by rfl) :
    PE X (.Call (.Attribute o name apos) (e :: es) [] cpos) (tBM X.K T r to t) := by
  intro pins s σ H Q I h
  refine wpAny_Call_method_late hbase hfew hline rfl (thn (ho pins s σ H _ I h) fun v s1 ⟨x, H1, I1, r1, ty, q1⟩ => ?_)
  obtain ⟨h1, h2⟩ := tyV_is I1 r1 ty
  refine ⟨T, id, pa, slot, hty, h1, h2, ?_⟩
  have hA := ha cpos pins s1 σ H1 _ I1 q1
  rw [hs] at hA ⊢
  refine Calls.callWith_builtin (by show (false || (backTo cpos (starEach es X.env)).any (·.1)) = false; rw [hplain] <;> rfl) (Calls.evalArgs_plain ?_)
  exact thn hA fun us s2 ⟨vs, H2, I2, r2, q2⟩ => hm pins s2 σ H2 x vs v us Q I2 r1 r2 q2
/- xs.append(e), list.index on a module's tuple .. are MtR facts of 06m -/
end
end L2

namespace L2
open PySem PySem.Spec PyProof.Rows

def MtM (X : Cx) (id : String) (r : V → List V → Hp → VK → Prop) : Prop :=
  ∀ (pins : List (Addr × Obj)) (s : Shared) (σ : St) (H : Hp) (x : V) (xs : List V) (v : Value) (us : List Value) (Q : VK), Inv X pins σ H s → RelV x v → Vals xs us → r x xs H Q →
    wpAny (model X.prog X.w) X.A (call (.builtin id) (v :: us)) (EP X pins σ Q) X.xe s

theorem Vals.one : ∀ {x : V} {us : List Value}, Vals [x] us → ∃ u, us = [u] ∧ RelV x u
  | _, _, .cons r .nil => ⟨_, rfl, r⟩
theorem Vals.two : ∀ {x y : V} {us : List Value}, Vals [x, y] us → ∃ u v, us = [u, v] ∧ RelV x u ∧ RelV y v
  | _, _, _, .cons r (.cons q .nil) => ⟨_, _, rfl, r, q⟩
theorem Vals.zero : ∀ {us : List Value}, Vals [] us → us = []
  | _, .nil => rfl
section
variable {X : Cx} {pins : List (Addr × Obj)} {σ : St} {H : Hp} {s : Shared} {l b : Addr} {xs ys zs : List V}

theorem Inv.lset {its its' : List Value} {n : Nat} {f : Array Value → Array Value} {t' : Nat} (I : Inv X pins σ H s) (hH : H l = some (.lst xs))
    (e : s.heap.get? l = some { cls := .type "list", data := .seq its.toArray n }) (hf : f its.toArray = its'.toArray) (hv : Vals ys its') (hz : ys.length ≤ sizeLine) :
    Inv X pins σ (upd H l (.lst ys)) { s with heap := s.heap.update l (Obj.mapSeq f), toks := t' } := by
  have q := PySem.IsL.update e f
  rw [hf] at q
  refine I.write (x := l) (e := l) (by rw [hH]; exact trivial) (.inl rfl) (fun b' u hb hu => (Heap.get?_update_other s.heap (Obj.mapSeq f) (Ne.symm hb)).trans hu) ⟨_, q⟩ ?_
  exact ⟨hz, its', _, hv, q⟩
theorem Inv.lnew {its : List Value} {t' : Nat} (I : Inv X pins σ H s) (hv : Vals ys its) (hz : ys.length ≤ sizeLine) :
    Inv X pins σ (upd H s.heap.objs.size (.lst ys)) { s with heap := s.heap.push { cls := .type "list", data := .seq its.toArray }, toks := t' } :=
  I.laid (fun _ _ q => Heap.get?_push_of_some _ q) (Nat.le_refl _) ⟨hz, its, 0, hv, Heap.get?_push_size _ rfl⟩
theorem Inv.fresh (I : Inv X pins σ H s) : H s.heap.objs.size = none := I.hok.fresh (Nat.le_refl _)
theorem Inv.lstM (I : Inv X pins σ H s) (hH : H l = some (.lst xs)) : xs.length ≤ sizeLine ∧ ∃ (its : List Value) (n : Nat), Vals xs its ∧ xs.length = its.length ∧ s.heap.get? l = some { cls := .type "list", data := .seq its.toArray n } := by
  obtain ⟨z, its, n, r, e⟩ := I.hok l _ hH
  exact ⟨z, its, n, r, r.length, e⟩

theorem notLongL {n : Nat} (h : n ≤ sizeLine) : Builtin.List.listTooLong n = false := by
  unfold Builtin.List.listTooLong
  exact decide_eq_false (by omega)
end

section
variable {X : Cx}

def rAppend : V → List V → Hp → VK → Prop := fun x vs H Q => ∃ l xs y, x = .ref l ∧ vs = [y] ∧ H l = some (.lst xs) ∧ xs.length < sizeLine ∧ Q .non (upd H l (.lst (xs ++ [y])))
theorem mt_append : MtM X "list.append" rAppend := by
  intro pins s σ H x vs v us Q I rx rv h
  obtain ⟨l, xs, y, rfl, rfl, hH, hz, q⟩ := h
  cases rx
  obtain ⟨u, rfl, ru⟩ := rv.one
  obtain ⟨z, its, n, r, hl, e⟩ := I.lstM hH
  refine call_meets F.slot_list_append ⟨_, e, rfl⟩ F.entry_list_append (F.args_list_append_2 _ _) (PySem.list_append l its.toArray n u (by rw [List.size_toArray]; omega)) ⟨e, ?_⟩
  refine ⟨.non, _, I.lset (its' := its ++ [u]) hH e (by simp) (r.append (.cons ru .nil)) ?_, rfl, q⟩
  rw [List.length_append, List.length_singleton]
  omega

def rExtend : V → List V → Hp → VK → Prop := fun x vs H Q => ∃ l b xs zs, x = .ref l ∧ vs = [.ref b] ∧ H l = some (.lst xs) ∧ H b = some (.lst zs) ∧ xs.length + zs.length ≤ sizeLine ∧ Q .non (upd H l (.lst (xs ++ zs)))
theorem mt_extend : MtM X "list.extend" rExtend := by
  intro pins s σ H x vs v us Q I rx rv h
  obtain ⟨l, b, xs, zs, rfl, rfl, hH, hB, hz, q⟩ := h
  cases rx
  obtain ⟨u, rfl, ru⟩ := rv.one
  cases ru
  obtain ⟨z, its, n, r, hl, e⟩ := I.lstM hH
  obtain ⟨z2, its2, n2, r2, hl2, e2⟩ := I.lstM hB
  have hsz : its.toArray.size + its2.toArray.size ≤ sizeLine := by rw [List.size_toArray, List.size_toArray]; omega
  have hlong : ¬ (!its.toArray.isEmpty && Builtin.List.listTooLong (its.toArray.size + its2.toArray.size)) = true := by
    rw [notLongL hsz, Bool.and_false]
    exact Bool.false_ne_true
  refine call_meets F.slot_list_extend ⟨_, e, rfl⟩ F.entry_list_extend (F.args_list_extend_2 _ _)
    (AutoSeq1.list_extend_list_list_0 l its.toArray n b its2.toArray n2 hlong (by rw [List.size_toArray]; omega) (by omega)) ⟨e, e2, ?_⟩
  refine ⟨.non, _, I.lset (its' := its ++ its2) hH e (by simp) (r.append r2) ?_, rfl, q⟩
  rw [List.length_append]
  omega

def rCat : R2 := fun x y H Q => ∃ l b xs zs, x = .ref l ∧ y = .ref b ∧ H l = some (.lst xs) ∧ H b = some (.lst zs) ∧ xs.length + zs.length ≤ sizeLine ∧ ∀ p, H p = none → Q (.ref p) (upd H p (.lst (xs ++ zs)))
theorem op_cat : OpR X (binaryOp .Add) rCat := by
  intro pins s σ H x y v u Q I rx ry h
  obtain ⟨l, b, xs, zs, rfl, rfl, hH, hB, hz, q⟩ := h
  cases rx
  cases ry
  obtain ⟨z, its, n, r, hl, e⟩ := I.lstM hH
  obtain ⟨z2, its2, n2, r2, hl2, e2⟩ := I.lstM hB
  refine PySem.P.add_list e e2 ?_ (by rw [List.size_toArray, List.size_toArray]; omega)
  have ea : its.toArray ++ its2.toArray = (its ++ its2).toArray := by simp
  rw [ea]
  exact ⟨.ref _, _, I.lnew (t' := s.toks) (r.append r2) (by rw [List.length_append]; omega), rfl, q _ I.fresh⟩
end

section
variable {prog : Program} {w : World} {A : Around} {E : Value → Shared → Prop} {s : Shared}
set_option maxRecDepth 100000 in
end

section
variable {X : Cx}
end
end L2


namespace L2
open PySem PySem.Spec PyProof.Rows

section
variable {κ : Type} [DecidableEq κ]
def valV (kvs : List (κ × V)) (k : κ) : Option V := (kvs.find? fun kv => decide (kv.1 = k)).map (·.2)
/-- in its place, or at the end -/
def putK (kvs : List (κ × V)) (k : κ) (v : V) : List (κ × V) :=
  if (kvs.any fun kv => decide (kv.1 = k)) = true then kvs.map (fun kv => if kv.1 = k then (kv.1, v) else kv) else kvs ++ [(k, v)]
def dropK (kvs : List (κ × V)) (k : κ) : List (κ × V) := kvs.filter fun kv => decide (kv.1 ≠ k)

theorem valV_pos {p : κ × V} {r : List (κ × V)} {k : κ} (e : p.1 = k) : valV (p :: r) k = some p.2 := by simp [valV, List.find?_cons, e]
theorem valV_neg {p : κ × V} {r : List (κ × V)} {k : κ} (e : ¬ p.1 = k) : valV (p :: r) k = valV r k := by simp [valV, List.find?_cons, e]
theorem valV_any (k : κ) : ∀ kvs : List (κ × V), (kvs.any fun kv => decide (kv.1 = k)) = (valV kvs k).isSome
  | [] => rfl
  | p :: r => by
    rw [List.any_cons]
    by_cases e : p.1 = k
    · simp only [valV_pos e, decide_eq_true e, Bool.true_or, Option.isSome_some]
    · rw [valV_neg e, decide_eq_false e, Bool.false_or]; exact valV_any k r
theorem length_putK (kvs : List (κ × V)) (k : κ) (v : V) : (putK kvs k v).length ≤ kvs.length + 1 := by
  unfold putK
  split
  · rw [List.length_map]; omega
  · rw [List.length_append, List.length_cons, List.length_nil]; omega
theorem RelO.isSome_eq {o : Option V} {u : Option Value} (r : RelO o u) : o.isSome = u.isSome := by
  cases o with
  | none => cases u with
    | none => rfl
    | some _ => exact (show False from r).elim
  | some _ => cases u with
    | none => exact (show False from r).elim
    | some _ => rfl
theorem RelO.getD {o : Option V} {u : Option Value} {d : V} {d' : Value} (r : RelO o u) (rd : RelV d d') : RelV (o.getD d) (u.getD d') := by
  cases o with
  | none => cases u with
    | none => exact rd
    | some _ => exact (show False from r).elim
  | some _ => cases u with
    | none => exact (show False from r).elim
    | some _ => exact r

/-- raw tables of the same keys -/
theorem KV.val {kvs : List (κ × V)} {vs : List (κ × Value)} (r : KV kvs vs) (k : κ) : RelO (valV kvs k) (valueAt vs k) := by
  unfold KV at r
  induction r with
  | nil => exact True.intro
  | @cons p q ps qs h t ih =>
    obtain ⟨h1, h2⟩ := h
    by_cases e : p.1 = k
    · have e' : q.1 = k := h1.symm.trans e
      have b : valueAt (q :: qs) k = some q.2 := by simp [valueAt, List.find?_cons, e']
      rw [valV_pos e, b]; exact h2
    · have e' : ¬ q.1 = k := fun z => e (h1.trans z)
      have b : valueAt (q :: qs) k = valueAt qs k := by simp [valueAt, List.find?_cons, e']
      rw [valV_neg e, b]; exact ih
theorem KV.any {kvs : List (κ × V)} {vs : List (κ × Value)} (r : KV kvs vs) (k : κ) : (kvs.any fun kv => decide (kv.1 = k)) = vs.any fun kv => decide (kv.1 = k) := by
  unfold KV at r
  induction r with
  | nil => rfl
  | cons h t ih => rw [List.any_cons, List.any_cons, ih, h.1]
theorem KV.repl {kvs : List (κ × V)} {vs : List (κ × Value)} (r : KV kvs vs) (k : κ) {y : V} {u : Value} (ry : RelV y u) :
    KV (kvs.map fun kv => if kv.1 = k then (kv.1, y) else kv) (vs.map fun kv => if kv.1 = k then (kv.1, u) else kv) := by
  unfold KV at r ⊢
  induction r with
  | nil => exact .nil
  | @cons p q ps qs h t ih =>
    rw [List.map_cons, List.map_cons]
    refine .cons ?_ ih
    obtain ⟨h1, h2⟩ := h
    by_cases e : p.1 = k
    · rw [if_pos e, if_pos (h1.symm.trans e)]; exact ⟨h1, ry⟩
    · rw [if_neg e, if_neg (fun z => e (h1.trans z))]; exact ⟨h1, h2⟩
theorem KV.put {kvs : List (κ × V)} {vs : List (κ × Value)} (r : KV kvs vs) (k : κ) {y : V} {u : Value} (ry : RelV y u) : KV (putK kvs k y) (stored vs k u) := by
  unfold putK stored
  rw [r.any k]
  by_cases e : (vs.any fun kv => decide (kv.1 = k)) = true
  · rw [if_pos e, if_pos e]; exact r.repl k ry
  · rw [if_neg e, if_neg e]; exact Paired.snoc r ⟨rfl, ry⟩
theorem KV.drop {kvs : List (κ × V)} {vs : List (κ × Value)} (r : KV kvs vs) (k : κ) : KV (dropK kvs k) (without vs k) := by
  unfold KV at r ⊢
  unfold dropK without
  induction r with
  | nil => exact .nil
  | @cons p q ps qs h t ih =>
    obtain ⟨h1, h2⟩ := h
    rw [List.filter_cons, List.filter_cons]
    by_cases e : p.1 = k
    · have a : ¬ decide (p.1 ≠ k) = true := by simp [e]
      have b : ¬ decide (q.1 ≠ k) = true := by simp [h1.symm.trans e]
      rw [if_neg a, if_neg b]; exact ih
    · have e' : ¬ q.1 = k := fun z => e (h1.trans z)
      have a : decide (p.1 ≠ k) = true := by simp [e]
      have b : decide (q.1 ≠ k) = true := by simp [e']
      rw [if_pos a, if_pos b]; exact .cons ⟨h1, h2⟩ ih
theorem KV.keys {kvs : List (κ × V)} {vs : List (κ × Value)} (r : KV kvs vs) : kvs.map (·.1) = vs.map (·.1) := by
  unfold KV at r
  induction r with
  | nil => rfl
  | cons h t ih => rw [List.map_cons, List.map_cons, ih, h.1]
theorem KV.length {kvs : List (κ × V)} {vs : List (κ × Value)} (r : KV kvs vs) : kvs.length = vs.length := Paired.length r
end


theorem kV_is {P : Program} {w : World} {k : Key} {u : Value} (r : RelV (kV k) u) : (mixKind P w).is k u = true := by
  cases k with
  | inl i => obtain ⟨t, e⟩ := (show ∃ t, u = Value.int i t from r); subst e; exact mixKind_int P w i t
  | inr x => obtain ⟨t, e⟩ := (show ∃ t, u = Value.str x t from r); subst e; exact mixKind_str P w x t
theorem items_are {P : Program} {w : World} : ∀ {ks : List Key} {us : List Value}, Vals (ks.map kV) us → ItemsAre (mixKind P w) ks us
  | [], _, r => by rw [List.map_nil] at r; cases r; exact .nil
  | k :: ks, _, r => by
    rw [List.map_cons] at r
    cases r with
    | cons h t => exact .cons (kV_is h) (items_are t)

/-- raw entries of a dict with tuple keys -/
abbrev KT (H : Hp) : List (List Key × V) → List (List Key × Addr × Value) → Prop := Paired fun p q => p.1 = q.1 ∧ H q.2.1 = some (.tup (p.1.map kV)) ∧ RelV p.2 q.2.2
theorem KT.val {H : Hp} {kvs : List (List Key × V)} {xs : List (List Key × Addr × Value)} (r : KT H kvs xs) (k : List Key) : RelO (valV kvs k) ((atKey xs k).map (·.2)) := by
  induction r with
  | nil => exact True.intro
  | @cons p q ps qs h t ih =>
    obtain ⟨h1, _, h2⟩ := h
    by_cases e : p.1 = k
    · have e' : q.1 = k := h1.symm.trans e
      have b : atKey (q :: qs) k = some q.2 := by simp [atKey, List.find?_cons, e']
      rw [valV_pos e, b]; exact h2
    · have e' : ¬ q.1 = k := fun z => e (h1.trans z)
      have b : atKey (q :: qs) k = atKey qs k := by simp [atKey, List.find?_cons, e']
      rw [valV_neg e, b]; exact ih
theorem KT.repl {H : Hp} {kvs : List (List Key × V)} {xs : List (List Key × Addr × Value)} (r : KT H kvs xs) (k : List Key) {y : V} {u : Value} (ry : RelV y u) :
    KT H (kvs.map fun kv => if kv.1 = k then (kv.1, y) else kv) (xs.map (putAt k u)) := by
  induction r with
  | nil => exact .nil
  | @cons p q ps qs h t ih =>
    rw [List.map_cons, List.map_cons]
    refine .cons ?_ ih
    obtain ⟨h1, h2, h3⟩ := h
    unfold putAt
    by_cases e : p.1 = k
    · rw [if_pos e, if_pos (h1.symm.trans e)]; exact ⟨h1, h2, ry⟩
    · rw [if_neg e, if_neg (fun z => e (h1.trans z))]; exact ⟨h1, h2, h3⟩
theorem KT.put {H : Hp} {kvs : List (List Key × V)} {xs : List (List Key × Addr × Value)} (r : KT H kvs xs) (k : List Key) {b : Addr} {y : V} {u : Value} (hb : H b = some (.tup (k.map kV))) (ry : RelV y u) :
    KT H (putK kvs k y) (storedH xs k b u) := by
  have e : (kvs.any fun kv => decide (kv.1 = k)) = (atKey xs k).isSome := by
    rw [valV_any, (r.val k).isSome_eq, Option.isSome_map]
  unfold putK storedH
  rw [e]
  by_cases q : (atKey xs k).isSome = true
  · rw [if_pos q, if_pos q]; exact r.repl k ry
  · rw [if_neg q, if_neg q]; exact Paired.snoc r ⟨rfl, hb, ry⟩
theorem KT.keeps {H H' : Hp} {kvs : List (List Key × V)} {xs : List (List Key × Addr × Value)} (r : KT H kvs xs) (ht : ∀ b ys, H b = some (.tup ys) → H' b = some (.tup ys)) : KT H' kvs xs :=
  Paired.mapP r fun _ _ z => ⟨z.1, ht _ _ z.2.1, z.2.2⟩

section
variable {P : Program} {w : World} {H : Hp} {h : Heap} {a : Addr}
theorem rd_of {u : HO} (ok : HOk P w H h) (e : Rd H a u) : ObjOk P w H h a u := e.ok ok
theorem dk_rd {kvs : List (Key × V)} (ok : HOk P w H h) (e : Rd H a (.dK kvs)) : kvs.length ≤ sizeLine ∧ (a == sysModules) = false ∧ ∃ vs, KV kvs vs ∧ h.DictOf (mixKind P w) a vs :=
  show ObjOk P w H h a (.dK kvs) from rd_of ok e
theorem dk_of {kvs : List (Key × V)} (ok : HOk P w H h) (e : H a = some (.dK kvs)) : kvs.length ≤ sizeLine ∧ (a == sysModules) = false ∧ ∃ vs, KV kvs vs ∧ h.DictOf (mixKind P w) a vs := dk_rd ok (.inl e)
/-- a tracked tuple of ints and texts is a key -/
theorem key_of {ks : List Key} (ok : HOk P w H h) (e : H a = some (.tup (ks.map kV))) : (tupleKind (mixKind P w)).is h ks a := by
  obtain ⟨_, its, r, o, h1, h2, n, h3⟩ := (show ObjOk P w H h a (.tup (ks.map kV)) from ok a _ e)
  exact ⟨o, its.toArray, n, h1, h2, h3, by simpa using items_are r⟩
theorem dt_rd {kvs : List (List Key × V)} (ok : HOk P w H h) (e : Rd H a (.dT kvs)) : kvs.length ≤ sizeLine ∧ (a == sysModules) = false ∧
    ∃ xs, KT H kvs xs ∧ h.DictOfH (tupleKind (mixKind P w)) a xs := by
  obtain ⟨z, y, xs, r, o, es, ep, h1, h2, h3, h4, h5⟩ := (show ObjOk P w H h a (.dT kvs) from rd_of ok e)
  refine ⟨z, y, xs, r, o, es, ep, h1, h2, h3, h4, fun x hx => ?_, h5⟩
  have all : ∀ {l : List (List Key × V)} {m : List (List Key × Addr × Value)}, KT H l m → ∀ x ∈ m, (tupleKind (mixKind P w)).is h x.1 x.2.1 := by
    intro l m q
    induction q with
    | nil => intro x hx; exact nomatch hx
    | @cons p q ps qs hq t ih =>
      intro x hx
      rcases List.mem_cons.mp hx with e | hx
      · subst e
        exact key_of ok (by rw [← hq.1]; exact hq.2.1)
      · exact ih x hx
  exact all r x hx
theorem dt_of {kvs : List (List Key × V)} (ok : HOk P w H h) (e : H a = some (.dT kvs)) : kvs.length ≤ sizeLine ∧ (a == sysModules) = false ∧
    ∃ xs, KT H kvs xs ∧ h.DictOfH (tupleKind (mixKind P w)) a xs := dt_rd ok (.inl e)
end

/-- what the dict at a holds at the key y -/
def DGet (H : Hp) (a : Addr) (y : V) (r : Option V) : Prop :=
  (∃ kvs k, Rd H a (.dK kvs) ∧ y = kV k ∧ r = valV kvs k) ∨ ∃ kvs k b, Rd H a (.dT kvs) ∧ y = .ref b ∧ H b = some (.tup (k.map kV)) ∧ r = valV kvs k
/-- the heap behind a[y] = v -/
def DPut (H : Hp) (a : Addr) (y v : V) (H' : Hp) : Prop :=
  (∃ kvs k, H a = some (.dK kvs) ∧ y = kV k ∧ kvs.length < sizeLine ∧ H' = upd H a (.dK (putK kvs k v))) ∨
  ∃ kvs k b, H a = some (.dT kvs) ∧ y = .ref b ∧ H b = some (.tup (k.map kV)) ∧ kvs.length < sizeLine ∧ H' = upd H a (.dT (putK kvs k v))
theorem DGet.k {H : Hp} {a : Addr} {kvs : List (Key × V)} {k : Key} (e : H a = some (.dK kvs)) : DGet H a (kV k) (valV kvs k) := .inl ⟨kvs, k, .inl e, rfl, rfl⟩
theorem DGet.t {H : Hp} {a b : Addr} {kvs : List (List Key × V)} {k : List Key} (e : H a = some (.dT kvs)) (eb : H b = some (.tup (k.map kV))) : DGet H a (.ref b) (valV kvs k) := .inr ⟨kvs, k, b, .inl e, rfl, eb, rfl⟩
theorem DPut.k {H : Hp} {a : Addr} {kvs : List (Key × V)} {k : Key} {v : V} (e : H a = some (.dK kvs)) (hl : kvs.length < sizeLine) : DPut H a (kV k) v (upd H a (.dK (putK kvs k v))) := .inl ⟨kvs, k, e, rfl, hl, rfl⟩
theorem DPut.t {H : Hp} {a b : Addr} {kvs : List (List Key × V)} {k : List Key} {v : V} (e : H a = some (.dT kvs)) (eb : H b = some (.tup (k.map kV))) (hl : kvs.length < sizeLine) :
    DPut H a (.ref b) v (upd H a (.dT (putK kvs k v))) := .inr ⟨kvs, k, b, e, rfl, eb, hl, rfl⟩


section
variable {X : Cx} {pins : List (Addr × Obj)} {σ : St} {H : Hp} {s : Shared} {a : Addr} {y v : V} {u r : Value} {o : Option V} {A : Around} {E : Value → Shared → Prop}

theorem Inv.big (I : Inv X pins σ H s) : sysModules < s.heap.objs.size := by
  have h : mainGlobals < s.heap.objs.size := (I.mod.glob.keeps I.bk).lt
  exact Nat.lt_trans (by decide) h

/-- d[y], there -/
theorem d_getItem {Q : Value → Shared → Prop} (hu : A.units + 1 < cLine) (I : Inv X pins σ H s) (g : DGet H a y (some v)) (ry : RelV y u) (h : ∀ w' s', Inv X pins σ H s' → RelV v w' → Q w' s') :
    wpAny (model X.prog X.w) A (getItem (.ref a) u) Q E s := by
  rcases g with ⟨kvs, k, e, ey, l⟩ | ⟨kvs, k, b, e, ey, eb, l⟩
  · subst ey
    obtain ⟨z, hd, vs, rel, dd⟩ := dk_rd I.hok e
    obtain ⟨w', hw, rw'⟩ := RelO.some_of (v := v) (o := valueAt vs k) (by rw [l]; exact rel.val k)
    exact wpAny_getItem_of (kV_is ry) dd.mapOf hw (h w' _ (I.tok _) rw')
  · subst ey
    cases (show u = Value.ref b from ry)
    obtain ⟨z, hd, xs, rel, dd⟩ := dt_rd I.hok e
    obtain ⟨w', hw, rw'⟩ := RelO.some_of (v := v) (o := (atKey xs k).map (·.2)) (by rw [l]; exact rel.val k)
    obtain ⟨p, hp, hp2⟩ := Option.map_eq_some_iff.mp hw
    refine wpAny_getItem_heap (tupleKind_room_in1 hu) (key_of I.hok eb) dd hp ?_
    rw [hp2]
    exact h w' _ (I.tok _) rw'
/-- y in d -/
theorem d_in {Q : Value → Shared → Prop} (hu : A.units + 1 < cLine) (I : Inv X pins σ H s) (g : DGet H a y o) (ry : RelV y u) (h : ∀ s', Inv X pins σ H s' → Q (.bool o.isSome) s') :
    wpAny (model X.prog X.w) A (compareOp .In u (.ref a)) Q E s := by
  rcases g with ⟨kvs, k, e, ey, l⟩ | ⟨kvs, k, b, e, ey, eb, l⟩
  · subst ey
    obtain ⟨z, hd, vs, rel, dd⟩ := dk_rd I.hok e
    refine wpAny_in_of (kV_is ry) hd dd.mapOf ?_
    rw [← (rel.val k).isSome_eq, ← l]
    exact h _ (I.tok _)
  · subst ey
    cases (show u = Value.ref b from ry)
    obtain ⟨z, hd, xs, rel, dd⟩ := dt_rd I.hok e
    refine wpAny_in_heap (tupleKind_room_in1 hu) (key_of I.hok eb) hd dd ?_
    have q := (rel.val k).isSome_eq
    rw [Option.isSome_map] at q
    rw [← q, ← l]
    exact h _ (I.tok _)
theorem d_notIn {Q : Value → Shared → Prop} (hu : A.units + 1 < cLine) (I : Inv X pins σ H s) (g : DGet H a y o) (ry : RelV y u) (h : ∀ s', Inv X pins σ H s' → Q (.bool (!o.isSome)) s') :
    wpAny (model X.prog X.w) A (compareOp .NotIn u (.ref a)) Q E s := by
  rcases g with ⟨kvs, k, e, ey, l⟩ | ⟨kvs, k, b, e, ey, eb, l⟩
  · subst ey
    obtain ⟨z, hd, vs, rel, dd⟩ := dk_rd I.hok e
    refine wpAny_notIn_of (kV_is ry) hd dd.mapOf ?_
    rw [← (rel.val k).isSome_eq, ← l]
    exact h _ (I.tok _)
  · subst ey
    cases (show u = Value.ref b from ry)
    obtain ⟨z, hd, xs, rel, dd⟩ := dt_rd I.hok e
    refine wpAny_notIn_heap (tupleKind_room_in1 hu) (key_of I.hok eb) hd dd ?_
    have q := (rel.val k).isSome_eq
    rw [Option.isSome_map] at q
    rw [← q, ← l]
    exact h _ (I.tok _)
/-- a dict's object is replaced -/
theorem d_write {h' : Heap} {t' : Nat} {ob : HO} (I : Inv X pins σ H s) (mu : Mut (H a)) (hs : Heap.SameBut a s.heap h') (he : ∃ q, h'.get? a = some q) (new : ObjOk X.prog X.w (upd H a ob) h' a ob) :
    Inv X pins σ (upd H a ob) { s with heap := h', toks := t' } :=
  I.write (x := a) (e := a) mu (.inl rfl) (fun b q hb z => (hs.2 b hb).trans z) he new
theorem dk_new {P : Program} {w : World} {H' : Hp} {h' : Heap} {kvs : List (Key × V)} {vs : List (Key × Value)} (z : kvs.length ≤ sizeLine) (hd : (a == sysModules) = false) (rel : KV kvs vs) (dd : h'.DictOf (mixKind P w) a vs) :
    ObjOk P w H' h' a (.dK kvs) := ⟨z, hd, vs, rel, dd⟩
/-- d[y] = v -/
theorem d_setItem {H' : Hp} {Q : Unit → Shared → Prop} (hu : A.units + 1 < cLine) (I : Inv X pins σ H s) (g : DPut H a y v H') (ry : RelV y u) (rv : RelV v r) (h : ∀ s', Inv X pins σ H' s' → Q () s') :
    wpAny (model X.prog X.w) A (setItem (.ref a) u r) Q E s := by
  rcases g with ⟨kvs, k, e, ey, l, eH⟩ | ⟨kvs, k, b, e, ey, eb, l, eH⟩
  · subst ey eH
    obtain ⟨z, hd, vs, rel, dd⟩ := dk_of I.hok e
    have hz : vs.length ≤ sizeLine := by rw [← rel.length]; exact z
    have hl : (putK kvs k v).length ≤ sizeLine := by have := length_putK kvs k v; omega
    refine wpAny_setItem_pairs (hsz := hz) (kV_is ry) dd fun h' dd' hs => h _ ?_
    have he : ∃ q, h'.get? a = some q := let ⟨q, _, _, hq, _⟩ := dd'; ⟨q, hq⟩
    exact d_write I (by rw [e]; exact True.intro) hs he (dk_new hl hd (rel.put k rv) dd')
  · subst ey eH
    cases (show u = Value.ref b from ry)
    obtain ⟨z, hd, xs, rel, dd⟩ := dt_of I.hok e
    have hz : xs.length ≤ sizeLine := by rw [← Paired.length rel]; exact z
    have hl : (putK kvs k v).length ≤ sizeLine := by have := length_putK kvs k v; omega
    refine wpAny_setItem_heap (hsz := hz) (tupleKind_room_in1 hu) (key_of I.hok eb) dd fun h' dd' hs => h _ ?_
    obtain ⟨q, es, ep, hq, h2, h3, h4, _, h5⟩ := dd'
    refine d_write I (by rw [e]; exact True.intro) hs ⟨q, hq⟩ ⟨hl, hd, _, (rel.put k eb rv).keeps fun c ys ec => ?_, q, es, ep, hq, h2, h3, h4, h5⟩
    rw [upd_ne (ne_of ec e (fun z => nomatch z))]
    exact ec
end

section
variable {X : Cx} {pins : List (Addr × Obj)} {σ : St} {H : Hp} {s : Shared} {a : Addr} {kvs : List (Key × V)} {k : Key} {u : Value} {A : Around} {E : Value → Shared → Prop}
/-- len(d) -/
theorem d_len {Q : Value → Shared → Prop} (I : Inv X pins σ H s) (e : Rd H a (.dK kvs)) (h : ∀ t s', Inv X pins σ H s' → Q (.int kvs.length t) s') : wpAny (model X.prog X.w) A (call (.builtin "len") [.ref a]) Q E s := by
  obtain ⟨z, hd, vs, rel, dd⟩ := dk_rd I.hok e
  refine call_len_dict hd dd (by rw [← rel.length]; rw [sizeLine_eq] at z; omega) ?_
  rw [← rel.length]
  exact h _ _ (I.tok _)
end


theorem dict_typeIs {X : Cx} {pins : List (Addr × Obj)} {σ : St} {H : Hp} {s : Shared} {a : Addr} {y : V} {o : Option V} (I : Inv X pins σ H s) (g : DGet H a y o) : s.TypeIs (.ref a) "dict" := by
  rcases g with ⟨kvs, k, e, _, _⟩ | ⟨kvs, k, b, e, _, _, _⟩
  · obtain ⟨_, _, vs, _, dd⟩ := dk_rd I.hok e
    exact dd.typeIs
  · obtain ⟨_, _, xs, _, dd⟩ := dt_rd I.hok e
    exact dd.typeIs
section
variable {X : Cx} {o i e value : Expr} {pos pos' tpos : Pos} {td ty tv : TE}
end


theorem dk_empty {P : Program} {w : World} {H : Hp} (h : Heap) (hb : sysModules < h.objs.size) : ObjOk P w H (h.push { cls := .type "dict", data := .dict #[] }) h.objs.size (.dK []) :=
  ⟨Nat.zero_le _, beq_eq_false_iff_ne.mpr (Ne.symm (Nat.ne_of_lt hb)), [], .nil, Heap.DictOf.new h⟩
/-- {}, to be a dict of the kind that is wanted -/
def tDNewK : TE := fun _ H Q => ∀ p, H p = none → Q (.ref p) (upd H p (.dK []))
section
variable {X : Cx} {pos : Pos}
theorem pe_dnewK : PE X (.Dict [] [] pos) tDNewK := fun pins s σ H Q I h =>
  wpAny_Dict_empty ⟨.ref s.heap.objs.size, _, I.laid (a := s.heap.objs.size) (o := .dK []) (t' := s.toks) (fun _ _ q => Heap.get?_push_of_some _ q) (Nat.le_refl _) (dk_empty s.heap I.big), rfl, h _ (I.hok.fresh (Nat.le_refl _))⟩
end

/-- the pairs of a display, from the left -/
def tPairs : List (TE × TE) → St → Hp → (List (V × V) → Hp → Prop) → Prop
  | [], _, H, Q => Q [] H
  | (tk, tv) :: r, σ, H, Q => tk σ H fun x H1 => tv σ H1 fun y H2 => tPairs r σ H2 fun ps H3 => Q ((x, y) :: ps) H3
abbrev VV : List (V × V) → List (Value × Value) → Prop := Paired fun p q => RelV p.1 q.1 ∧ RelV p.2 q.2
def PPs (X : Cx) (pos : Pos) (keys : List (Option Expr)) (values : List Expr) (trs : List (TE × TE)) : Prop :=
  ∀ (pins : List (Addr × Obj)) (s : Shared) (σ : St) (H : Hp) (Q : List (V × V) → Hp → Prop), Inv X pins σ H s → tPairs trs σ H Q →
    wpAny (model X.prog X.w) X.A (evalPairs (pairTrees keys values X.env pos)) (fun vs s' => ∃ ps H', Inv X pins σ H' s' ∧ VV ps vs ∧ Q ps H') X.xe s
theorem pps_nil {X : Cx} {pos : Pos} : PPs X pos [] [] [] := fun pins s σ H Q I h => pairTrees_nil_walk ⟨[], H, I, .nil, h⟩
theorem pps_cons {X : Cx} {pos : Pos} {k v : Expr} {ks : List (Option Expr)} {vs : List Expr} {tk tv : TE} {trs : List (TE × TE)} (hk : PE X k tk) (hv : PE X v tv) (hr : PPs X pos ks vs trs) :
    PPs X pos (some k :: ks) (v :: vs) ((tk, tv) :: trs) := fun pins s σ H Q I h =>
  pairTrees_cons_walk (thn (hk pins s σ H _ I h) fun u s1 ⟨x, H1, I1, rx, q1⟩ => thn (hv pins s1 σ H1 _ I1 q1) fun w2 s2 ⟨y, H2, I2, ry, q2⟩ =>
    thn (hr pins s2 σ H2 _ I2 q2) fun ws s3 ⟨ps, H3, I3, rel, q3⟩ => ⟨(x, y) :: ps, H3, I3, .cons ⟨rx, ry⟩ rel, q3⟩)

def mergeK (kvs more : List (Key × V)) : List (Key × V) := more.foldl (fun acc kv => putK acc kv.1 kv.2) kvs
theorem KV.merge : ∀ {more : List (Key × V)} {rs : List (Key × Value)} {kvs : List (Key × V)} {vs : List (Key × Value)}, KV more rs → KV kvs vs → KV (mergeK kvs more) (merged vs rs) := by
  intro more rs kvs vs r
  unfold KV at r
  induction r generalizing kvs vs with
  | nil => intro q; exact q
  | @cons p q ps qs h t ih =>
    intro r0
    have e : KV (putK kvs p.1 p.2) (stored vs q.1 q.2) := by
      have := r0.put p.1 h.2
      rw [← h.1]; exact this
    exact ih e
theorem length_mergeK : ∀ (more kvs : List (Key × V)), (mergeK kvs more).length ≤ kvs.length + more.length
  | [], kvs => by show kvs.length ≤ kvs.length + 0; omega
  | p :: r, kvs => by
    have h1 := length_mergeK r (putK kvs p.1 p.2)
    have h2 := length_putK kvs p.1 p.2
    show (mergeK (putK kvs p.1 p.2) r).length ≤ _
    rw [List.length_cons]; omega
theorem carries_of {P : Program} {w : World} : ∀ {kvs : List (Key × V)} {ws : List (Value × Value)}, VV (kvs.map fun kv => (kV kv.1, kv.2)) ws → ∃ rs, Carries (mixKind P w) ws rs ∧ KV kvs rs
  | [], _, r => by rw [List.map_nil] at r; cases r; exact ⟨[], True.intro, .nil⟩
  | p :: kvs, _, r => by
    rw [List.map_cons] at r
    cases r with
    | @cons a b as bs h t =>
      obtain ⟨rs, c, q⟩ := carries_of (P := P) (w := w) t
      obtain ⟨b1, b2⟩ := b
      exact ⟨(p.1, b2) :: rs, ⟨kV_is h.1, rfl, c⟩, .cons ⟨rfl, h.2⟩ q⟩
/-- {k: v, ..} with keys ints and texts; the new dict stands empty while the pairs are made -/
def tDisp (trs : List (TE × TE)) : TE := fun σ H Q => ∀ p, H p = none → tPairs trs σ (upd H p (.dK [])) fun ps H2 => H2 p = some (.dK []) ∧ ∃ kvs : List (Key × V), ps = kvs.map (fun kv => (kV kv.1, kv.2)) ∧ kvs.length ≤ 15 ∧ Q (.ref p) (upd H2 p (.dK (mergeK [] kvs)))
theorem pe_disp {X : Cx} {pos : Pos} {keys : List (Option Expr)} {values : List Expr} {trs : List (TE × TE)} (h : PPs X pos keys values trs) (hall : keys.all (·.isSome) = true) (hl : keys.length = values.length) (h0 : keys ≠ [])
    (h15 : keys.length ≤ 15) : PE X (.Dict keys values pos) (tDisp trs) := by
  intro pins s σ H Q I q
  have hn := I.hok.fresh (Nat.le_refl s.heap.objs.size)
  have I1 := I.laid (a := s.heap.objs.size) (o := .dK []) (h' := s.heap.push { cls := .type "dict", data := .dict #[] }) (t' := s.toks) (fun _ _ q => Heap.get?_push_of_some _ q) (Nat.le_refl _) (dk_empty s.heap I.big)
  refine wpAny_Dict_walk (knd := mixKind X.prog X.w) hall hl h0 h15 (thn (h pins _ σ _ _ I1 (q _ hn)) fun ws s2 ⟨ps, H2, I2, rel, e, kvs, ep, lk, q2⟩ => ?_)
  subst ep
  obtain ⟨rs, c, rk⟩ := carries_of (P := X.prog) (w := X.w) rel
  obtain ⟨z, hd, vs0, r0, dd⟩ := dk_of I2.hok e
  cases r0
  refine ⟨rs, c, dd, fun h' dd' hs => ⟨.ref s.heap.objs.size, _, ?_, rfl, q2⟩⟩
  have hz : (mergeK [] kvs).length ≤ sizeLine := by
    have h1 := length_mergeK kvs []
    rw [List.length_nil] at h1
    rw [sizeLine_eq]; omega
  have he : ∃ q, h'.get? s.heap.objs.size = some q := let ⟨q, _, _, hq, _⟩ := dd'; ⟨q, hq⟩
  exact d_write I2 (by rw [e]; exact True.intro) hs he (dk_new hz hd (rk.merge .nil) dd')


/-- a method call o.m(e) of a built-in, with one argument: what must be seen of the text -/
structure M1 (X : Cx) (o : Expr) (m : Str) (apos : Pos) (e : Expr) (cpos : Pos) : Prop where
  base : attributeBase o m X.env (eval o X.env) = eval o X.env
  few : ((backTo cpos (starEach [e] X.env)).all (fun x => !x.1) && (backToKw cpos (keywordEach [] X.env)).all (fun x => x.1.isSome)
    && decide (([e] : List Expr).length + ([] : List Keyword).length + (if ([] : List Keyword).isEmpty then 0 else 1) < 30)) = true
  line : (apos.endLine == cpos.line) = true
  trees : backTo cpos (starEach [e] X.env) = [(false, eval e X.env)]
structure M2 (X : Cx) (o : Expr) (m : Str) (apos : Pos) (e f : Expr) (cpos : Pos) : Prop where
  base : attributeBase o m X.env (eval o X.env) = eval o X.env
  few : ((backTo cpos (starEach [e, f] X.env)).all (fun x => !x.1) && (backToKw cpos (keywordEach [] X.env)).all (fun x => x.1.isSome)
    && decide (([e, f] : List Expr).length + ([] : List Keyword).length + (if ([] : List Keyword).isEmpty then 0 else 1) < 30)) = true
  line : (apos.endLine == cpos.line) = true
  trees : backTo cpos (starEach [e, f] X.env) = [(false, eval e X.env), (false, eval f X.env)]

/-- a is a dict, whatever its keys -/
def IsD (H : Hp) (a : Addr) : Prop := (∃ kvs, Rd H a (.dK kvs)) ∨ ∃ kvs, Rd H a (.dT kvs)
theorem isD_at {X : Cx} {pins : List (Addr × Obj)} {σ : St} {H : Hp} {s : Shared} {a : Addr} (I : Inv X pins σ H s) (d : IsD H a) :
    s.TypeIs (.ref a) "dict" ∧ (∀ b, Value.ref a = .ref b → ∃ ob, s.heap.get? b = some ob ∧ ob.dict = none) ∧ (a == sysModules) = false := by
  rcases d with ⟨kvs, e⟩ | ⟨kvs, e⟩
  · obtain ⟨_, hd, vs, _, dd⟩ := dk_rd I.hok e
    refine ⟨dd.typeIs, fun b q => ?_, hd⟩
    cases q
    obtain ⟨ob, _, _, h1, h2, _⟩ := dd
    exact ⟨ob, h1, h2.2.1⟩
  · obtain ⟨_, hd, xs, _, dd⟩ := dt_rd I.hok e
    refine ⟨dd.typeIs, fun b q => ?_, hd⟩
    cases q
    obtain ⟨ob, _, _, h1, h2, _⟩ := dd
    exact ⟨ob, h1, h2.2.1⟩

section
variable {X : Cx} {pins : List (Addr × Obj)} {σ : St} {H : Hp} {s : Shared} {a : Addr} {y d : V} {u r : Value} {o : Option V} {A : Around} {E : Value → Shared → Prop}
/-- d.get(y) -/
theorem d_get1 {Q : Value → Shared → Prop} (hu : A.units + 1 < cLine) (I : Inv X pins σ H s) (g : DGet H a y o) (ry : RelV y u) (h : ∀ w' s', Inv X pins σ H s' → RelV (o.getD .non) w' → Q w' s') :
    wpAny (model X.prog X.w) A (call (.builtin "dict.get") [.ref a, u]) Q E s := by
  rcases g with ⟨kvs, k, e, ey, l⟩ | ⟨kvs, k, b, e, ey, eb, l⟩
  · subst ey
    obtain ⟨z, hd, vs, rel, dd⟩ := dk_rd I.hok e
    refine call_meetsIn PySem.F.slot_dict_get dd.typeIs PySem.F.entry_dict_get (PySem.F.args_dict_get_2 _ _) (meets_dict_get (mixKind X.prog X.w) a (kV_is ry) hd) ⟨_, dd.mapOf, h _ _ (I.tok _) ?_⟩
    rw [l]
    exact (rel.val k).getD rfl
  · subst ey
    cases (show u = Value.ref b from ry)
    obtain ⟨z, hd, xs, rel, dd⟩ := dt_rd I.hok e
    refine call_meetsIn PySem.F.slot_dict_get dd.typeIs PySem.F.entry_dict_get (PySem.F.args_dict_get_2 _ _) (meetsH_dict_get (tupleKind (mixKind X.prog X.w)) a b hd) ⟨tupleKind_room_in1 hu, k, xs, key_of I.hok eb, dd, h _ _ (I.tok _) ?_⟩
    rw [l]
    exact (rel.val k).getD rfl
/-- d.get(y, x) -/
theorem d_get2 {Q : Value → Shared → Prop} (hu : A.units + 1 < cLine) (I : Inv X pins σ H s) (g : DGet H a y o) (ry : RelV y u) (rd : RelV d r) (h : ∀ w' s', Inv X pins σ H s' → RelV (o.getD d) w' → Q w' s') :
    wpAny (model X.prog X.w) A (call (.builtin "dict.get") [.ref a, u, r]) Q E s := by
  rcases g with ⟨kvs, k, e, ey, l⟩ | ⟨kvs, k, b, e, ey, eb, l⟩
  · subst ey
    obtain ⟨z, hd, vs, rel, dd⟩ := dk_rd I.hok e
    refine call_meetsIn PySem.F.slot_dict_get dd.typeIs PySem.F.entry_dict_get (PySem.F.args_dict_get_3 _ _ _) (meets_dict_get_default (mixKind X.prog X.w) a (kV_is ry) hd r) ⟨_, dd.mapOf, h _ _ (I.tok _) ?_⟩
    rw [l]
    exact (rel.val k).getD rd
  · subst ey
    cases (show u = Value.ref b from ry)
    obtain ⟨z, hd, xs, rel, dd⟩ := dt_rd I.hok e
    refine call_meetsIn PySem.F.slot_dict_get dd.typeIs PySem.F.entry_dict_get (PySem.F.args_dict_get_3 _ _ _) (meetsH_dict_get_default (tupleKind (mixKind X.prog X.w)) a b hd r) ⟨tupleKind_room_in1 hu, k, xs, key_of I.hok eb, dd, h _ _ (I.tok _) ?_⟩
    rw [l]
    exact (rel.val k).getD rd
end

def tDGet1 (td ty : TE) : TE := fun σ H Q => td σ H fun x H1 => ∃ a, x = .ref a ∧ IsD H1 a ∧ ty σ H1 fun y H2 => ∃ o, DGet H2 a y o ∧ Q (o.getD .non) H2
def tDGet2 (td ty tx : TE) : TE := fun σ H Q => td σ H fun x H1 => ∃ a, x = .ref a ∧ IsD H1 a ∧ ty σ H1 fun y H2 => tx σ H2 fun z H3 => ∃ o, DGet H3 a y o ∧ Q (o.getD z) H3
section
variable {X : Cx} {o e f : Expr} {apos cpos : Pos} {td ty tx : TE}
theorem pe_dget1 (hu : X.A.units + 1 < cLine) (ho : PE X o td) (he : PE X e ty) (m : M1 X o "get" apos e cpos) : PE X (.Call (.Attribute o "get" apos) [e] [] cpos) (tDGet1 td ty) := by
  intro pins s σ H Q I h
  refine wpAny_Call_method m.base m.few m.line PySem.F.plainAttrs_dict PySem.F.slot_dict_get PySem.F.type_dict_get (thn (ho pins s σ H _ I h) fun u s1 ⟨x, H1, I1, rx, a, ex, d, q1⟩ => ?_)
  subst ex
  obtain rfl : u = Value.ref a := rx
  obtain ⟨t1, t2, _⟩ := isD_at I1 d
  refine ⟨t1, t2, ?_⟩
  rw [m.trees]
  refine Calls.callWith_builtin rfl (Calls.evalArgs_plain (Calls.spliced_cons (thn (he pins s1 σ H1 _ I1 q1) fun iv s2 ⟨y, H2, I2, ry, ov, g, q2⟩ => Calls.spliced_nil ?_)))
  exact d_get1 hu I2 g ry fun w' s3 I3 rw' => ⟨_, H2, I3, rw', q2⟩
theorem pe_dget2 (hu : X.A.units + 1 < cLine) (ho : PE X o td) (he : PE X e ty) (hf : PE X f tx) (m : M2 X o "get" apos e f cpos) : PE X (.Call (.Attribute o "get" apos) [e, f] [] cpos) (tDGet2 td ty tx) := by
  intro pins s σ H Q I h
  refine wpAny_Call_method m.base m.few m.line PySem.F.plainAttrs_dict PySem.F.slot_dict_get PySem.F.type_dict_get (thn (ho pins s σ H _ I h) fun u s1 ⟨x, H1, I1, rx, a, ex, d, q1⟩ => ?_)
  subst ex
  obtain rfl : u = Value.ref a := rx
  obtain ⟨t1, t2, _⟩ := isD_at I1 d
  refine ⟨t1, t2, ?_⟩
  rw [m.trees]
  refine Calls.callWith_builtin rfl (Calls.evalArgs_plain (Calls.spliced_cons (thn (he pins s1 σ H1 _ I1 q1) fun iv s2 ⟨y, H2, I2, ry, q2⟩ =>
    Calls.spliced_cons (thn (hf pins s2 σ H2 _ I2 q2) fun fv s3 ⟨z, H3, I3, rz, ov, g, q3⟩ => Calls.spliced_nil ?_))))
  exact d_get2 hu I3 g ry rz fun w' s4 I4 rw' => ⟨_, H3, I4, rw', q3⟩
end

section
variable {X : Cx} {pins : List (Addr × Obj)} {σ : St} {H : Hp} {s : Shared} {a : Addr} {kvs : List (Key × V)} {A : Around} {E : Value → Shared → Prop}
theorem d_copyOf {Q : Value → Shared → Prop} (I : Inv X pins σ H s) (e : Rd H a (.dK kvs)) (h : ∀ p s', H p = none → Inv X pins σ (upd H p (.dK kvs)) s' → Q (.ref p) s') : wpAny (model X.prog X.w) A (call (.type "dict") [.ref a]) Q E s := by
  obtain ⟨z, hd, vs, rel, dd⟩ := dk_rd I.hok e
  refine kt_call_dict hd dd (by rw [← rel.length]; exact z) fun h' dd' hs => ?_
  refine h _ _ (I.hok.fresh (Nat.le_refl _)) (I.laid (a := s.heap.objs.size) (o := .dK kvs) (t' := s.toks) (fun b q hq => ?_) (Nat.le_refl _) (dk_new z (beq_eq_false_iff_ne.mpr (Ne.symm (Nat.ne_of_lt I.big))) rel dd'))
  exact (hs.2 b (Nat.ne_of_lt (Heap.lt_size hq))).trans (Heap.get?_push_of_some _ hq)
end


section
variable {X : Cx} {pins : List (Addr × Obj)} {σ : St} {H : Hp} {s : Shared} {a : Addr} {y : V} {u : Value} {A : Around} {E : Value → Shared → Prop}
end
end L2

namespace Att
open PySem PySem.W PySem.Calls PyProof.Rows

theorem ints_of_wellAll {P : Params} {h : Heap} : ∀ (ns : List Int) (vs : List Value), WellAll P h vs (ns.map WData.int) → IntsAre vs ns := by
  intro ns
  induction ns with
  | nil =>
    intro vs w
    rw [List.map_nil] at w
    cases w
    exact .nil
  | cons n ns ih =>
    intro vs w
    rw [List.map_cons] at w
    cases w with
    | cons a b =>
      cases a
      exact .cons _ _ (ih _ b)

theorem script_of {l : OpenLaw} {n : Nat} (hn : l.most = some n) {P : Params} {h : Heap} {args : List WData} {vals : List Value}
    (hpre : l.row.toRowW.claim.pre args = true) (hwl : WellAll P h vals args) :
    ∃ a vs ns, vals = [Value.ref a] ∧ args = [WData.list (ns.map WData.int)] ∧ h.get? a = some { cls := .type "list", data := .seq vs.toArray } ∧ IntsAre vs ns ∧ ns.length ≤ n := by
  have hsh : WShape.hasAll [] args [.list .int] = true := (pre_splitW hpre).1
  have hc : l.pre.holds [] { args := args } = true := (pre_splitW hpre).2
  obtain ⟨d, r, rfl, h1, h2⟩ := hasAllW_cons hsh
  obtain rfl := hasAllW_nil h2
  obtain ⟨xs, rfl, h3⟩ := hasW_list h1
  obtain ⟨ns, rfl⟩ := items_int h3
  have hlen : ns.length ≤ n := by
    unfold OpenLaw.pre at hc
    have h4 : (WTm.not (.lt (.lit (.int (n : Int))) (.len (.arg 0)))).holds [] { args := [.list (ns.map .int)] } = true := by
      have h4 := (holds_andW hc).1
      rw [hn] at h4
      exact h4
    have h5 := condW_of h4 (w_not (w_lt w_lit (w_len_list (w_arg rfl))))
    rw [List.length_map] at h5
    refine Nat.le_of_not_lt fun q => ?_
    have q' : (n : Int) < ((ns.length : Nat) : Int) := by omega
    first
      | (rw [decide_eq_true q'] at h5; exact absurd h5 (by decide))
      | (simp at h5; omega)
  cases hwl with
  | cons w1 w2 =>
    cases w2
    cases w1 with
    | list ho hall => exact ⟨_, _, ns, rfl, rfl, ho, ints_of_wellAll ns _ hall, hlen⟩

theorem post_true (l : OpenLaw) (args : List WData) : l.row.toRowW.claim.post args (.bool true) args = true :=
  postW_of (r := l.row.toRowW) (X := (true == true))
    (show WShape.has [] (.bool true) .bool = true by first | rfl | decide | simp [WShape.has, WShape.arms, WShape.armsAll])
    (show (WTm.eq .res (.lit (.bool true))).value [] { args := args, res := some (.bool true), after := args } = some (.bool (true == true)) from w_eq_bool (w_res rfl) w_lit) rfl

/-- the same from a codeAny of the CALL (for a layer whose function contracts speak of calls) -/
theorem attach_call {l : OpenLaw} {n : Nat} {q : Program} {loose : List Str} {XP : (Str → Option Value) → Heap → Prop} {YP : World → Heap → Prop} {d : DefRec}
    (hn : l.most = some n) (hdf : d.params.defaults = [])
    (call : ∀ (w : World) (s₀ s₁ : Shared) (mg mb : Str → Option Value) (fa : Addr) (o : Obj) (pm cd doc : Value) (a : Addr) (vs : List Value) (ns : List Int),
      Ground q loose [] XP w s₀ mg mb s₁.heap → YP w s₁.heap →
      s₁.heap.get? fa = some o → o.data = .func (docDef d.name d.params d.body d.scope pm cd doc) → s₁.heap.CodeRec cd d.name → mg d.name = some (.ref fa) →
      s₁.heap.get? a = some { cls := .type "list", data := .seq vs.toArray } → IntsAre vs ns → ns.length ≤ n → s₁.gens = #[] →
      codeAny (model l.prog w) callerA (.call (.ref fa) ⟨[.ref a], []⟩) (fun r s' => r = .ok (.ret (.bool true)) ∧ OldK s₁.heap s'.heap ∧ s'.os = s₁.os ∧ AllBare s'.gens) s₁) :
    WalkO q loose XP YP l.row.toRowW d [] (fun f vs => PySem.call f vs) := by
  intro w s₀ s₁ mg mb G Y fa o pm cd doc dV kV ho hd hcd hD hmg hg args vals as hpre hlay hrd hwl hlo
  obtain rfl : dV = .none := Dflts.none hD hdf
  obtain rfl : kV = .none := Dflts.noKw hD
  obtain ⟨a, vs, ns, rfl, rfl, hobj, hints, hlen⟩ := script_of hn hpre hwl
  refine enter_call (codeAny_mono (call w s₀ s₁ mg mb fa o pm cd doc a vs ns G Y ho (fd_plain hd) hcd hmg hobj hints hlen hg) fun r s' hq => ?_)
  obtain ⟨rfl, h2, h3, h4⟩ := hq
  exact ⟨.inl ⟨.bool true, .bool true, [], rfl, fun _ => rfl, .bool true, post_true l _, fun _ => ⟨List.Pairwise.nil, fun _ hm => (nomatch hm)⟩⟩, h2, h3, h4⟩

section
variable {prog : Program} {w : World} {A : Around} {E : Value → Shared → Prop} {s : Shared} {K : Frag}

def ledger (h : Heap) (L d : Addr) : List (Addr × Obj) := (List.range h.objs.size).filterMap fun a => if a = L ∨ a = d then none else (h.get? a).map fun o => (a, o)
end
end Att

namespace L2
open PySem PySem.Spec PyProof.Rows

theorem vals_ints : ∀ {vs : List Value} {ns : List Int}, IntsAre vs ns → Vals (ns.map V.int) vs
  | _, _, .nil => .nil
  | _, _, .cons n t h => .cons ⟨t, rfl⟩ (vals_ints h)

/-- nothing is tracked but the script, known to the object (or it is an object of the module) -/
def Only (H : Hp) : Prop := ∀ b, H b = none ∨ ∃ o xs, H b = some (.frz o (.lst xs))

/-- THE HEAD: the law's promise, at the heap behind the top. F, the promise of the law's def, may use that base is part of the heap (so K.In base, base.Ns mainGlobals mg stand in Mod) -/
theorem law_call {P : Program} {w : World} {K : PySem.W.Frag} {mg mb : Str → Option Value} {CX : CXT} {k : Nat} {fa a : Addr} {fd : FuncData} {x : Str} {sp : Sp} {s₁ : Shared} {vs : List Value} {ns : List Int}
    (KX : K.In s₁.heap) (hns : s₁.heap.Ns mainGlobals mg) (hb : s₁.heap.Ns builtinsNs mb) (hbb : ∀ x : Str, x ≠ "__name__" → mb x = bootBuiltins x) (hlim : s₁.heap.NoLimit) (hg : s₁.gens = #[])
    (ha : s₁.heap.get? a = some { cls := .type "list", data := .seq vs.toArray }) (hi : IntsAre vs ns) (hl : ns.length ≤ sizeLine) (hr : Room k callerA)
    (F : ∀ base : Heap, K.In base → base.Ns mainGlobals mg → FnOk P w K mg base CX k fa fd [x] sp) (hbind : ∀ (s : Shared) (u : Value), BindsTo s fd ⟨[u], []⟩ [(x, u)])
    (hsp : ∀ H : Hp, Only H → SqL K H a (ns.map V.int) → sp [.ref a] H (fun v _ => v = .bl true) fun _ _ _ => False)
    (hCX : ∀ H e s', CX [] H s₁ (fun _ _ _ => False) e s' → False) :
    codeAny (model P w) callerA (.call (.ref fa) ⟨[.ref a], []⟩) (fun r s' => r = .ok (.ret (.bool true)) ∧ OldK s₁.heap s'.heap ∧ s'.os = s₁.os ∧ AllBare s'.gens) s₁ := by
  have rv := vals_ints hi
  have lenV := hi.length
  -- from an abstract heap in which nothing but the script may be tracked
  have core : ∀ H : Hp, Only H → SqL K H a (ns.map V.int) → HOk P w H s₁.heap → (∀ b, H b ≠ none → b = a) → (H a ≠ none → K.lookup a = none) →
      codeAny (model P w) callerA (.call (.ref fa) ⟨[.ref a], []⟩) (fun r s' => r = .ok (.ret (.bool true)) ∧ OldK s₁.heap s'.heap ∧ s'.os = s₁.os ∧ AllBare s'.gens) s₁ := by
    intro H hO hS hok hA hK
    have base_of : ∀ {b : Addr} {o : Obj}, s₁.heap.get? b = some o → H b = none → (hidT s₁.heap H).get? b = some o := fun e n => hidT_get e n
    have noA : ∀ {b : Addr} {o : Obj} {es : Array DictEntry} {ep : Nat}, s₁.heap.get? b = some o → o.data = .dict es ep → H b = none := fun {b o es ep} e d => by
      cases q : H b with
      | none => rfl
      | some u =>
        have e' : b = a := hA b (by rw [q]; simp)
        subst e'
        rw [ha] at e; cases e
        have d' : Data.seq vs.toArray _ = Data.dict es ep := d
        cases d'
    have nsK : ∀ {b : Addr} {m : Str → Option Value}, s₁.heap.Ns b m → (hidT s₁.heap H).Ns b m := fun {b m} ⟨o, es, ep, e, d, r⟩ => ⟨o, es, ep, base_of e (noA e d), d, r⟩
    have hKb : K.In (hidT s₁.heap H) := fun b o e => base_of (KX b o e) (by
      cases q : H b with
      | none => rfl
      | some u =>
        have e' : b = a := hA b (by rw [q]; simp)
        subst e'
        rw [hK (by rw [q]; simp)] at e; cases e)
    have hM : Mod K mg (hidT s₁.heap H) := ⟨hKb, nsK hns, ⟨mb, nsK hb, hbb⟩, let ⟨mc, h1, h2⟩ := hlim; ⟨mc, nsK h1, h2⟩⟩
    have e0 : Env0 P w K mg (hidT s₁.heap H) callerA [] s₁ H := ⟨rfl, hM, fun b o e => of_hidT e, Nat.le_of_eq (hidT_size _ _), trivial, fun b hb => absurd (show b ∈ ([] : List Addr) from hb) (by simp), hok, .of_eq hg⟩
    refine codeAny_mono ((F _ hKb (nsK hns)).run callerA [] s₁ H ⟨[.ref a], []⟩ [.ref a] [.ref a] _ _ hr e0 (hbind s₁ (.ref a)) (.cons rfl .nil) (hsp H hO hS)) fun r s' h => ?_
    cases r with
    | error e => exact (hCX H e s' h).elim
    | ok fl =>
      cases fl with
      | next => exact False.elim h
      | brk => exact False.elim h
      | cont => exact False.elim h
      | ret u =>
        obtain ⟨v, H', os, bare, un, hok', r', q⟩ := h
        have q' : v = .bl true := q
        subst q'
        obtain rfl : u = Value.bool true := r'
        refine ⟨rfl, OldK.of_keep fun b o e => ?_, os, bare⟩
        cases q : H b with
        | none => exact un.keep b o e q (by intro z; exact absurd (show b ∈ ([] : List Addr) from z) (by simp)) (by simp)
        | some u =>
          rcases hO b with z | ⟨ob, xs, z⟩
          · rw [q] at z; cases z
          · have z2 := un.frzs b ob _ z
            obtain ⟨e1, _⟩ := hok b _ z
            obtain ⟨e2, _⟩ := hok' b _ z2
            rw [e] at e1; cases e1
            exact e2
  cases hk : K.lookup a with
  | some o =>
    -- the script is one of the module's own objects
    have e := KX a o hk
    rw [ha] at e
    cases e
    refine core (fun _ => none) (fun _ => .inl rfl) (.inr ⟨_, vs.toArray, _, hk, rfl, rfl, rfl, by rw [List.size_toArray, lenV]; exact hl, by simpa using rv⟩) (fun b u z => by have z' : (none : Option HO) = some u := z; cases z') (fun b z => absurd rfl z) fun z => absurd rfl z
  | none =>
    refine core (fun b => if b = a then some (.frz { cls := .type "list", data := .seq vs.toArray } (.lst (ns.map V.int))) else none) (fun b => ?_) (.inl (.inr ⟨{ cls := .type "list", data := .seq vs.toArray }, if_pos rfl⟩)) (fun b u z => ?_) (fun b z => ?_) fun _ => hk
    · by_cases hb : b = a
      · exact .inr ⟨_, _, if_pos hb⟩
      · exact .inl (if_neg hb)
    · by_cases hb : b = a
      · have z' := (if_pos hb).symm.trans z
        cases z'
        subst hb
        exact ⟨ha, by rw [List.length_map]; exact hl, vs, _, rv, ha⟩
      · have z' := (if_neg hb).symm.trans z
        cases z'
    · by_cases hb : b = a
      · exact hb
      · exact absurd (if_neg hb) z
end L2

namespace L2
open PySem PySem.Spec PyProof.Rows

/-- the goal that k_head leaves (case hc), from the law's promise. F gives the function object fd (K's own) once, then the promise over every base -/
theorem walk_of {l : PySem.W.OpenLaw} {n k : Nat} {q : Program} {loose : List Str} {XP : (Str → Option Value) → Heap → Prop} {YP : World → Heap → Prop} {d : DefRec} {K : Params → PySem.W.Frag} {CX : World → CXT} {sp : World → Sp} {x : Str}
    (hn : l.most = some n) (hn2 : n ≤ sizeLine) (hdf : d.params.defaults = []) (hr : Room k callerA)
    (hY : ∀ (w : World) (h : Heap), YP w h → (K w.params).In h)
    (F : ∀ (w : World) (mg : Str → Option Value) (fa : Addr) (h : Heap), (K w.params).In h → h.Ns mainGlobals mg → mg d.name = some (.ref fa) →
      ∃ fd : FuncData, (∀ (s : Shared) (u : Value), BindsTo s fd ⟨[u], []⟩ [(x, u)]) ∧
        ∀ base : Heap, (K w.params).In base → base.Ns mainGlobals mg → FnOk l.prog w (K w.params) mg base (CX w) k fa fd [x] (sp w))
    (hsp : ∀ (w : World) (H : Hp) (a : Addr) (ns : List Int), ns.length ≤ n → Only H → SqL (K w.params) H a (ns.map V.int) → sp w [.ref a] H (fun v _ => v = .bl true) fun _ _ _ => False)
    (hCX : ∀ (w : World) (H : Hp) (s : Shared) (e : Value) (s' : Shared), CX w [] H s (fun _ _ _ => False) e s' → False) :
    PySem.W.WalkO q loose XP YP l.row.toRowW d [] (fun f vs => PySem.call f vs) := by
  refine Att.attach_call hn hdf fun w s₀ s₁ mg mb fa o pm cd doc a vs ns G Y ho hd hcd hmg hobj hints hlen hg => ?_
  have KX := hY w _ Y
  obtain ⟨fd, hb, hF⟩ := F w mg fa _ KX G.T.g hmg
  exact law_call KX G.T.g G.T.b G.T.builtins G.T.nolimit hg hobj hints (Nat.le_trans hlen hn2) hr hF hb (fun H hO hS => hsp w H a ns hlen hO hS) fun H e s' => hCX w H s₁ e s'
/-- the same where the promise hangs on the written part alone: (sp := My.sp_law), no hole under a binder -/
theorem walk_ofK {l : PySem.W.OpenLaw} {n k : Nat} {q : Program} {loose : List Str} {XP : (Str → Option Value) → Heap → Prop} {YP : World → Heap → Prop} {d : DefRec} {K : Params → PySem.W.Frag} {CX : CXT} {sp : PySem.W.Frag → Sp} {x : Str}
    (hn : l.most = some n) (hn2 : n ≤ sizeLine) (hdf : d.params.defaults = []) (hr : Room k callerA)
    (hY : ∀ (w : World) (h : Heap), YP w h → (K w.params).In h)
    (F : ∀ (w : World) (mg : Str → Option Value) (fa : Addr) (h : Heap), (K w.params).In h → h.Ns mainGlobals mg → mg d.name = some (.ref fa) →
      ∃ fd : FuncData, (∀ (s : Shared) (u : Value), BindsTo s fd ⟨[u], []⟩ [(x, u)]) ∧
        ∀ base : Heap, (K w.params).In base → base.Ns mainGlobals mg → FnOk l.prog w (K w.params) mg base CX k fa fd [x] (sp (K w.params)))
    (hsp : ∀ (K : PySem.W.Frag) (H : Hp) (a : Addr) (ns : List Int), ns.length ≤ n → Only H → SqL K H a (ns.map V.int) → sp K [.ref a] H (fun v _ => v = .bl true) fun _ _ _ => False)
    (hCX : ∀ (H : Hp) (s : Shared) (e : Value) (s' : Shared), CX [] H s (fun _ _ _ => False) e s' → False) :
    PySem.W.WalkO q loose XP YP l.row.toRowW d [] (fun f vs => PySem.call f vs) :=
  walk_of (K := K) (CX := fun _ => CX) (sp := fun w => sp (K w.params)) hn hn2 hdf hr hY F (fun w H a ns h1 h2 h3 => hsp (K w.params) H a ns h1 h2 h3) fun _ H s e s' => hCX H s e s'
end L2



namespace L2
open PySem PySem.Spec PyProof.Rows

def defArgs (s : Stmt) : Arguments := match s with
  | .FunctionDef _ a _ _ _ _ _ _ _ _ => a
  | _ => { posonlyargs := [], args := [], vararg := none, kwonlyargs := [], kw_defaults := [], kwarg := none, defaults := [] }
def defBody (s : Stmt) : List Stmt := match s with
  | .FunctionDef _ _ b _ _ _ _ _ _ _ => b
  | _ => []
def defScope (s : Stmt) : Scope := match s with
  | .FunctionDef _ _ _ _ _ _ sc _ _ _ => sc
  | _ => { kind := .function, names := [], isGenerator := false, isCoroutine := false }

abbrev CX0 : CXT := fun _ _ _ _ _ _ => False
abbrev E0 : XK := fun _ _ _ => False
theorem pass0 {X : Cx} : Passes CX0 X E0 := fun _ _ _ _ _ _ _ h => h.elim

structure Fun (K : PySem.W.Frag) (x qual : Str) (st : Stmt) (f : Addr) (fd : FuncData) : Prop where
  ex : ∃ (oc : Value) (od : Option Addr) (kV doc pm : Value) (an : Option Addr) (cdv ct : Value) (osl : Array (Option Value)),
    fd = PySem.W.fnOf x qual (defArgs st) (defBody st) (defScope st) .none kV doc pm an cdv ct ∧ K.lookup f = some ⟨oc, od, .func fd, osl⟩ ∧ PySem.W.codeIn K cdv qual = true
  kp : PySem.W.keepIn K (.ref f) = true
section
variable {P : Program} {w : World} {K : PySem.W.Frag} {mg : Str → Option Value} {base : Heap}
/-- THE RULE for a def: its body as a term of rules, and the reading of that term -/
theorem Fun.ok {x qual : Str} {st : Stmt} {f : Addr} {fd : FuncData} {N ps : List Str} {k : Nat} {sp : Sp} (F : Fun K x qual st f fd) (S : FnScope N ps (defScope st)) (len : ∀ vs H Q E, sp vs H Q E → vs.length = ps.length)
    (hbody : ∀ (cdv : Value) (A : Around) (outer : List Env) (s : Shared) (H : Hp) (vs : List V) (Q : VK) (E : XK), Room k (A.deeper (envOfC qual (defScope st) s.heap.objs.size f cdv)) → sp vs H Q E →
      ∃ t, PSs (cxOf CX0 P w K mg base N qual (defScope st) f cdv A outer s H E).nox (defBody st) t ∧ t { nx := fun _ H' => Q .non H', rt := Q } (start N vs) H) : FnOk P w K mg base CX0 (k + 1) f fd ps sp := by
  obtain ⟨oc, od, kV, doc, pm, an, cdv, ct, osl, rfl, lk, hcd⟩ := F.ex
  refine fn_of lk hcd S len fun A outer s H vs Q E hr hsp => ?_
  obtain ⟨t, h, q⟩ := hbody cdv A outer s H vs Q E hr hsp
  exact ⟨t, h.nox, q⟩
/-- how its arguments bind (no defaults): h is «fun _ _ _ _ _ _ us hl => match us, hl with | [_, _], _ => rfl», one _ a parameter -/
theorem Fun.binds {x qual : Str} {st : Stmt} {f : Addr} {fd : FuncData} {ps : List Str} (F : Fun K x qual st f fd)
    (h : ∀ (kV doc pm : Value) (an : Option Addr) (cdv ct : Value) (us : List Value), us.length = ps.length → bindArgs (PySem.W.fnOf x qual (defArgs st) (defBody st) (defScope st) .none kV doc pm an cdv ct) ⟨us, []⟩ = pure (ps.zip us)) : Binds K fd ps [] := by
  obtain ⟨oc, od, kV, doc, pm, an, cdv, ct, osl, rfl, lk, hcd⟩ := F.ex
  exact .all (h kV doc pm an cdv ct)
theorem fun_mk {x qual : Str} {st : Stmt} {f : Addr} {oc : Value} {od an : Option Addr} {osl : Array (Option Value)} {kV doc pm cdv ct : Value} (l : K.lookup f = some ⟨oc, od, .func (PySem.W.fnOf x qual (defArgs st) (defBody st) (defScope st) .none kV doc pm an cdv ct), osl⟩)
    (c : PySem.W.codeIn K cdv qual = true) (k : PySem.W.keepIn K (.ref f) = true) : Fun K x qual st f (PySem.W.fnOf x qual (defArgs st) (defBody st) (defScope st) .none kV doc pm an cdv ct) := ⟨⟨oc, od, kV, doc, pm, an, cdv, ct, osl, rfl, l, c⟩, k⟩
end
section
variable {X : Cx}
theorem pv (i : Nat) {x : Str} {pos : Pos} (hN : X.N[i]? = some x := by rfl) (hv : Vis X.env.scope x := by first | exact Or.inl rfl | exact Or.inr (Or.inl rfl) | exact Or.inr (Or.inr rfl)) (hd : (x == ("__debug__" : Str)) = false := by decide)
    (hcd : (x == ("__classdict__" : Str)) = false := by decide) : PE X (.Name x pos) (tVar i) := pe_var hN hv hd hcd
/-- len of a dict -/
theorem call_lenD : CallR X (.builtin "len") (fun xs H Q => ∃ a kvs, xs = [V.ref a] ∧ H a = some (.dK kvs) ∧ Q (.int kvs.length) H) := by
  intro pins s σ H xs us Q I r h
  obtain ⟨a, kvs, rfl, ha, q⟩ := h
  obtain ⟨u, rfl, ru⟩ := vals1 r
  cases ru
  exact d_len I (.inl ha) fun t s' I' => ⟨.int kvs.length, H, I', ⟨t, rfl⟩, q⟩
end

/-- all that was tracked is as it was -/
def Same (H H' : Hp) : Prop := ∀ b o, H b = some o → H' b = some o
theorem Same.refl (H : Hp) : Same H H := fun _ _ h => h
theorem Same.trans {H H1 H2 : Hp} (a : Same H H1) (b : Same H1 H2) : Same H H2 := fun c o h => b c o (a c o h)
theorem Same.free {H H' : Hp} (e : Same H H') {l : Addr} (h : H' l = Option.none) : H l = Option.none := by
  cases q : H l with
  | none => rfl
  | some o =>
    rw [e l o q] at h
    cases h
theorem Same.seq {K : PySem.W.Frag} {H H' : Hp} {a : Addr} {xs : List V} (e : Same H H') (h : SqL K H a xs) : SqL K H' a xs := by
  rcases h with (h | ⟨o, h⟩) | h
  · exact .inl (.inl (e _ _ h))
  · exact .inl (.inr ⟨o, e _ _ h⟩)
  · exact .inr h

section
variable {κ : Type} [DecidableEq κ]
end
end L2

namespace Tw

/-- a text is its codes -/
abbrev S := List Nat

inductive W where
  | non | bl (b : Bool) | int (i : Int) | str (x : S) | tup (xs : List W) | ref (a : Nat)
  /-- a list's data, only where two values are compared -/
  | lst (xs : List W)

inductive O where
  | lst (xs : List W)
  | frz (xs : List W)
  | dic (kvs : List (W × W))
  | ins (c : Nat) (fs : List (Nat × W))

abbrev Hp := List O

inductive R (α : Type) where
  | ok (a : α) (h : Hp)
  | exn (a : Nat) (h : Hp)
  | bad

namespace R
def bind {α β : Type} (m : R α) (k : α → Hp → R β) : R β := match m with
  | .ok a h => k a h
  | .exn a h => .exn a h
  | .bad => .bad
@[simp] theorem bind_ok {α β : Type} (a : α) (h : Hp) (k : α → Hp → R β) : (R.ok a h).bind k = k a h := rfl
@[simp] theorem bind_exn {α β : Type} (a : Nat) (h : Hp) (k : α → Hp → R β) : (R.exn a h).bind k = .exn a h := rfl
@[simp] theorem bind_bad {α β : Type} (k : α → Hp → R β) : (R.bad : R α).bind k = .bad := rfl

/-- a value that may lack -/
def of {α : Type} (o : Option α) (h : Hp) : R α := match o with
  | some a => .ok a h
  | none => .bad
@[simp] theorem of_some {α : Type} (a : α) (h : Hp) : R.of (some a) h = .ok a h := rfl
@[simp] theorem of_none {α : Type} (h : Hp) : R.of (none : Option α) h = .bad := rfl
end R

def SZ : Nat := 2 ^ 24

mutual
def eqW : W → W → Bool
  | .non, .non => true
  | .bl a, .bl b => decide (a = b)
  | .int a, .int b => decide (a = b)
  | .bl a, .int b => decide ((if a then 1 else 0) = b)
  | .int a, .bl b => decide (a = (if b then 1 else 0))
  | .str a, .str b => decide (a = b)
  | .tup xs, .tup ys => eqWs xs ys
  | .lst xs, .lst ys => eqWs xs ys
  | _, _ => false
@[simp] def eqWs : List W → List W → Bool
  | [], [] => true
  | x :: xs, y :: ys => eqW x y && eqWs xs ys
  | _, _ => false
end
@[simp] theorem eqW_non_non   : eqW .non .non = true := by rw [eqW.eq_def]
@[simp] theorem eqW_non_bl  (b2 : Bool) : eqW .non (.bl b2) = false := by rw [eqW.eq_def]
@[simp] theorem eqW_non_int  (i2 : Int) : eqW .non (.int i2) = false := by rw [eqW.eq_def]
@[simp] theorem eqW_non_str  (x2 : S) : eqW .non (.str x2) = false := by rw [eqW.eq_def]
@[simp] theorem eqW_non_tup  (t2 : List W) : eqW .non (.tup t2) = false := by rw [eqW.eq_def]
@[simp] theorem eqW_non_lst  (l2 : List W) : eqW .non (.lst l2) = false := by rw [eqW.eq_def]
@[simp] theorem eqW_bl_non (b1 : Bool)  : eqW (.bl b1) .non = false := by rw [eqW.eq_def]
@[simp] theorem eqW_bl_bl (b1 : Bool) (b2 : Bool) : eqW (.bl b1) (.bl b2) = decide (b1 = b2) := by rw [eqW.eq_def]
@[simp] theorem eqW_bl_int (b1 : Bool) (i2 : Int) : eqW (.bl b1) (.int i2) = decide ((if b1 then 1 else 0) = i2) := by rw [eqW.eq_def]
@[simp] theorem eqW_bl_str (b1 : Bool) (x2 : S) : eqW (.bl b1) (.str x2) = false := by rw [eqW.eq_def]
@[simp] theorem eqW_bl_tup (b1 : Bool) (t2 : List W) : eqW (.bl b1) (.tup t2) = false := by rw [eqW.eq_def]
@[simp] theorem eqW_bl_lst (b1 : Bool) (l2 : List W) : eqW (.bl b1) (.lst l2) = false := by rw [eqW.eq_def]
@[simp] theorem eqW_int_non (i1 : Int)  : eqW (.int i1) .non = false := by rw [eqW.eq_def]
@[simp] theorem eqW_int_bl (i1 : Int) (b2 : Bool) : eqW (.int i1) (.bl b2) = decide (i1 = (if b2 then 1 else 0)) := by rw [eqW.eq_def]
@[simp] theorem eqW_int_int (i1 : Int) (i2 : Int) : eqW (.int i1) (.int i2) = decide (i1 = i2) := by rw [eqW.eq_def]
@[simp] theorem eqW_int_str (i1 : Int) (x2 : S) : eqW (.int i1) (.str x2) = false := by rw [eqW.eq_def]
@[simp] theorem eqW_int_tup (i1 : Int) (t2 : List W) : eqW (.int i1) (.tup t2) = false := by rw [eqW.eq_def]
@[simp] theorem eqW_int_lst (i1 : Int) (l2 : List W) : eqW (.int i1) (.lst l2) = false := by rw [eqW.eq_def]
@[simp] theorem eqW_str_non (x1 : S)  : eqW (.str x1) .non = false := by rw [eqW.eq_def]
@[simp] theorem eqW_str_bl (x1 : S) (b2 : Bool) : eqW (.str x1) (.bl b2) = false := by rw [eqW.eq_def]
@[simp] theorem eqW_str_int (x1 : S) (i2 : Int) : eqW (.str x1) (.int i2) = false := by rw [eqW.eq_def]
@[simp] theorem eqW_str_str (x1 : S) (x2 : S) : eqW (.str x1) (.str x2) = decide (x1 = x2) := by rw [eqW.eq_def]
@[simp] theorem eqW_str_tup (x1 : S) (t2 : List W) : eqW (.str x1) (.tup t2) = false := by rw [eqW.eq_def]
@[simp] theorem eqW_str_lst (x1 : S) (l2 : List W) : eqW (.str x1) (.lst l2) = false := by rw [eqW.eq_def]
@[simp] theorem eqW_tup_non (t1 : List W)  : eqW (.tup t1) .non = false := by rw [eqW.eq_def]
@[simp] theorem eqW_tup_bl (t1 : List W) (b2 : Bool) : eqW (.tup t1) (.bl b2) = false := by rw [eqW.eq_def]
@[simp] theorem eqW_tup_int (t1 : List W) (i2 : Int) : eqW (.tup t1) (.int i2) = false := by rw [eqW.eq_def]
@[simp] theorem eqW_tup_str (t1 : List W) (x2 : S) : eqW (.tup t1) (.str x2) = false := by rw [eqW.eq_def]
@[simp] theorem eqW_tup_tup (t1 : List W) (t2 : List W) : eqW (.tup t1) (.tup t2) = eqWs t1 t2 := by rw [eqW.eq_def]
@[simp] theorem eqW_tup_lst (t1 : List W) (l2 : List W) : eqW (.tup t1) (.lst l2) = false := by rw [eqW.eq_def]
@[simp] theorem eqW_lst_non (l1 : List W)  : eqW (.lst l1) .non = false := by rw [eqW.eq_def]
@[simp] theorem eqW_lst_bl (l1 : List W) (b2 : Bool) : eqW (.lst l1) (.bl b2) = false := by rw [eqW.eq_def]
@[simp] theorem eqW_lst_int (l1 : List W) (i2 : Int) : eqW (.lst l1) (.int i2) = false := by rw [eqW.eq_def]
@[simp] theorem eqW_lst_str (l1 : List W) (x2 : S) : eqW (.lst l1) (.str x2) = false := by rw [eqW.eq_def]
@[simp] theorem eqW_lst_tup (l1 : List W) (t2 : List W) : eqW (.lst l1) (.tup t2) = false := by rw [eqW.eq_def]
@[simp] theorem eqW_lst_lst (l1 : List W) (l2 : List W) : eqW (.lst l1) (.lst l2) = eqWs l1 l2 := by rw [eqW.eq_def]
mutual
/-- nested at most so deep, no reference -/
def W.deep : W → Nat
  | .tup xs => deeps xs + 1
  | .lst xs => deeps xs + 1
  | _ => 0
def deeps : List W → Nat
  | [] => 0
  | x :: xs => max x.deep (deeps xs)
end
mutual
/-- the data of a value: lists read from the heap. n: how deep -/
@[simp] def rd (h : Hp) : Nat → W → Option W
  | _, .non => some .non
  | _, .bl b => some (.bl b)
  | _, .int i => some (.int i)
  | _, .str x => some (.str x)
  | 0, _ => none
  | n + 1, .tup xs => (rds h n xs).map .tup
  | n + 1, .ref a => match h[a]? with
    | some (.lst xs) => (rds h n xs).map .lst
    | some (.frz xs) => (rds h n xs).map .lst
    | _ => none
  | _ + 1, .lst _ => none
@[simp] def rds (h : Hp) : Nat → List W → Option (List W)
  | _, [] => some []
  | n, x :: xs => match rd h n x, rds h n xs with
    | some d, some ds => some (d :: ds)
    | _, _ => none
end
/-- a dict's key: an int or a text -/
@[simp] def isKey : W → Bool
  | .int _ => true
  | .str _ => true
  | _ => false
@[simp] def keyEq : W → W → Bool
  | .int a, .int b => a == b
  | .str a, .str b => a == b
  | _, _ => false
@[simp] def dget (k : W) : List (W × W) → Option W
  | [] => none
  | (j, v) :: r => if keyEq j k then some v else dget k r
@[simp] def dput (k v : W) : List (W × W) → List (W × W)
  | [] => [(k, v)]
  | (j, u) :: r => if keyEq j k then (j, v) :: r else (j, u) :: dput k v r
/-- each of these pairs is in the other, with an equal value -/
def dsub (h : Hp) (ys : List (W × W)) : List (W × W) → Option Bool
  | [] => some true
  | (k, v) :: r => match dget k ys with
    | none => some false
    | some u => match rd h 40 v, rd h 40 u, dsub h ys r with
      | some a, some b, some c => some (eqW a b && c)
      | _, _, _ => none
def isDic (h : Hp) : W → Option (List (W × W))
  | .ref a => match h[a]? with
    | some (.dic kvs) => some kvs
    | _ => none
  | _ => none
/-- x == y -/
def eqV (h : Hp) (x y : W) : Option Bool := match isDic h x, isDic h y with
  | some xs, some ys => if xs.length = ys.length then dsub h ys xs else some false
  | none, none => match rd h 60 x, rd h 60 y with
    | some a, some b => some (eqW a b)
    | _, _ => none
  | _, _ => none

@[simp] theorem eqV_int (h : Hp) (a b : Int) : eqV h (.int a) (.int b) = some (decide (a = b)) := by simp [eqV, isDic, rd, eqW]
@[simp] theorem eqV_str (h : Hp) (a b : S) : eqV h (.str a) (.str b) = some (decide (a = b)) := by simp [eqV, isDic, rd, eqW]

inductive Op | add | sub | mul | fdiv | mod | pow
  deriving DecidableEq
inductive Cp | eq | ne | lt | le | gt | ge | isin | notin | isN | notN
  deriving DecidableEq
inductive Ty | list | tuple | dict | int | str | bool
  deriving DecidableEq
inductive B | len | list | tuple | dict | int
  deriving DecidableEq
inductive Mt | append | get | join
  deriving DecidableEq

mutual
inductive E where
  | var (i : Nat)
  | cst (w : W)
  | tup (es : Es)
  | lst (es : Es)
  | dic (es : Es)
  | bin (op : Op) (a b : E)
  | cmp (op : Cp) (a b : E)
  | and (a b : E)
  | or (a b : E)
  | not (a : E)
  | ite (c a b : E)
  | idx (a b : E)
  | sl (a : E) (lo hi : Eo)
  | call (f : Nat) (es : Es)
  | blt (b : B) (a : E)
  | mth (m : Mt) (o : E) (es : Es)
  | isa (a : E) (t : Ty)
  | comp (elt : E) (it : It) (c : Eo)
inductive Es where
  | nil
  | cons (e : E) (es : Es)
inductive Eo where
  | none
  | some (e : E)
/-- what is walked -/
inductive It where
  | seq (e : E)
  | rng (e : E)
  | rng2 (a b : E)
  | zip (a b : E)
end

inductive Tg where
  | var (i : Nat)
  | two (i j : Nat)

inductive St where
  | expr (e : E)
  | ret (e : E)
  | retN
  | set (i : Nat) (e : E)
  | put (o k e : E)
  | iff (c : E) (a b : List St)
  | for (t : Tg) (it : It) (b : List St)
  | pass
  | brk
  | cont

abbrev Env := List (Option W)

@[simp] def truth (h : Hp) : W → Option Bool
  | .non => some false
  | .bl b => some b
  | .int i => some (i != 0)
  | .str x => if x.length ≤ SZ then some (!x.isEmpty) else none
  | .tup xs => some (!xs.isEmpty)
  | .lst _ => none
  | .ref a => match h[a]? with
    | some (.lst xs) => some (!xs.isEmpty)
    | some (.frz xs) => some (!xs.isEmpty)
    | some (.dic kvs) => some (!kvs.isEmpty)
    | _ => none
/-- a list's items -/
@[simp] def items (h : Hp) : W → Option (List W)
  | .ref a => match h[a]? with
    | some (.lst xs) => some xs
    | some (.frz xs) => some xs
    | _ => none
  | _ => none
/-- of a list or a tuple -/
@[simp] def seqs (h : Hp) : W → Option (List W)
  | .tup xs => some xs
  | w => items h w
/-- a new object -/
@[simp] def new (o : O) (h : Hp) : R W := .ok (.ref h.length) (h ++ [o])
def newL (xs : List W) (h : Hp) : R W := if xs.length ≤ SZ then new (.lst xs) h else .bad
def small (i : Int) : Bool := decide (-(2 ^ 64) < i) && decide (i < 2 ^ 64)
@[simp] def binI (op : Op) (i j : Int) : Option Int := match op with
  | .add => some (i + j)
  | .sub => some (i - j)
  | .mul => if small i || small j then some (i * j) else none
  | .fdiv => if 0 < j ∧ j < 1073741824 then some (i / j) else none
  | .mod => if 0 < j then some (i % j) else none
  | .pow => if 0 ≤ j ∧ j ≤ 1000000 ∧ i.natAbs < 2 ^ 64 then some (i ^ j.toNat) else none
@[simp] def bin (op : Op) (x y : W) (h : Hp) : R W := match x, y with
  | .int i, .int j => R.of ((binI op i j).map .int) h
  | .str a, .str b => if op = .add ∧ a.length + b.length ≤ SZ then .ok (.str (a ++ b)) h else .bad
  | .tup a, .tup b => if op = .add ∧ a.isEmpty = false ∧ a.length + b.length ≤ SZ then .ok (.tup (a ++ b)) h else .bad
  | .ref a, .ref b => match h[a]?, h[b]? with
    | some (.lst xs), some (.lst ys) => if op = .add ∧ xs.length + ys.length ≤ SZ then new (.lst (xs ++ ys)) h else .bad
    | _, _ => .bad
  | _, _ => .bad
/-- flat things, for in -/
@[simp] def flat : W → Bool
  | .non => true
  | .bl _ => true
  | .int _ => true
  | .str _ => true
  | _ => false
def isIn (x y : W) (h : Hp) : Option Bool := match isDic h y with
  | some kvs => if isKey x then some (dget x kvs).isSome else none
  | none => match seqs h y with
    | some xs => if flat x && xs.all flat then some (xs.any fun z => eqW z x) else none
    | none => none
@[simp] def cmp (op : Cp) (x y : W) (h : Hp) : Option Bool := match op with
  | .eq => eqV h x y
  | .ne => (eqV h x y).map (!·)
  | .lt => match x, y with | .int i, .int j => some (decide (i < j)) | _, _ => none
  | .le => match x, y with | .int i, .int j => some (decide (i ≤ j)) | _, _ => none
  | .gt => match x, y with | .int i, .int j => some (decide (j < i)) | _, _ => none
  | .ge => match x, y with | .int i, .int j => some (decide (j ≤ i)) | _, _ => none
  | .isin => isIn x y h
  | .notin => (isIn x y h).map (!·)
  | .isN => match y with | .non => some (match x with | .non => true | _ => false) | _ => none
  | .notN => match y with | .non => some (match x with | .non => false | _ => true) | _ => none
def ixN (n : Nat) (i : Int) : Option Nat := if 0 ≤ i then (if i < n then some i.toNat else none) else if -(n : Int) ≤ i then some (i + n).toNat else none
def atI {α : Type} (xs : List α) (i : Int) : Option α := (ixN xs.length i).bind fun j => xs[j]?
@[simp] def idx (x y : W) (h : Hp) : R W := match x, y with
  | .tup xs, .int i => R.of (atI xs i) h
  | .str z, .int i => if z.length ≤ SZ then R.of ((atI z i).map fun c => .str [c]) h else .bad
  | .ref a, y => match h[a]?, y with
    | some (.lst xs), .int i => R.of (atI xs i) h
    | some (.frz xs), .int i => R.of (atI xs i) h
    | some (.dic kvs), k => if isKey k then R.of (dget k kvs) h else .bad
    | _, _ => .bad
  | _, _ => .bad
def sIx (n d : Nat) : Option Int → Nat
  | none => d
  | some v => if v < 0 then (v + n).toNat else min v.toNat n
def cut {α : Type} (xs : List α) (lo hi : Option Int) : List α := (xs.drop (sIx xs.length 0 lo)).take (sIx xs.length xs.length hi - sIx xs.length 0 lo)
@[simp] def asPart : Option W → Option (Option Int)
  | none => some none
  | some (.int i) => some (some i)
  | _ => none
@[simp] def slice (x : W) (lo hi : Option W) (h : Hp) : R W := match asPart lo, asPart hi with
  | some l, some u => match x with
    | .tup xs => if sIx xs.length 0 l = 0 ∧ sIx xs.length xs.length u = xs.length then .bad else .ok (.tup (cut xs l u)) h
    | .str z => if z.length ≤ SZ then .ok (.str (cut z l u)) h else .bad
    | .ref a => match h[a]? with
      | some (.lst xs) => new (.lst (cut xs l u)) h
      | some (.frz xs) => new (.lst (cut xs l u)) h
      | _ => .bad
    | _ => .bad
  | _, _ => .bad
@[simp] def builtin (b : B) (x : W) (h : Hp) : R W := match b with
  | .len => match x with
    | .str z => if z.length ≤ SZ then .ok (.int z.length) h else .bad
    | .tup xs => .ok (.int xs.length) h
    | .ref a => match h[a]? with
      | some (.lst xs) => .ok (.int xs.length) h
      | some (.frz xs) => .ok (.int xs.length) h
      | some (.dic kvs) => .ok (.int kvs.length) h
      | _ => .bad
    | _ => .bad
  | .list => match x with
    | .tup xs => new (.lst xs) h
    | .ref a => match h[a]? with
      | some (.lst xs) => new (.lst xs) h
      | some (.frz xs) => new (.lst xs) h
      | some (.dic kvs) => new (.lst (kvs.map (·.1))) h
      | _ => .bad
    | _ => .bad
  | .tuple => match x with
    | .tup xs => .ok (.tup xs) h
    | .ref a => match h[a]? with
      | some (.lst xs) => .ok (.tup xs) h
      | some (.frz xs) => .ok (.tup xs) h
      | _ => .bad
    | _ => .bad
  | .dict => match x with
    | .ref a => match h[a]? with
      | some (.dic kvs) => new (.dic kvs) h
      | _ => .bad
    | _ => .bad
  | .int => match x with
    | .int i => .ok (.int i) h
    | .bl b => .ok (.int (if b then 1 else 0)) h
    | _ => .bad
@[simp] def texts : List W → Option (List S)
  | [] => some []
  | .str x :: r => (texts r).map (x :: ·)
  | _ :: _ => none
@[simp] def joinS (sep : S) : List S → S
  | [] => []
  | [x] => x
  | x :: r => x ++ sep ++ joinS sep r
@[simp] def method (m : Mt) (o : W) (xs : List W) (h : Hp) : R W := match m, o, xs with
  | .append, .ref a, [x] => match h[a]? with
    | some (.lst ys) => if ys.length < SZ then .ok .non (h.set a (.lst (ys ++ [x]))) else .bad
    | _ => .bad
  | .get, .ref a, [k] => match h[a]? with
    | some (.dic kvs) => if isKey k then .ok ((dget k kvs).getD .non) h else .bad
    | _ => .bad
  | .get, .ref a, [k, d] => match h[a]? with
    | some (.dic kvs) => if isKey k then .ok ((dget k kvs).getD d) h else .bad
    | _ => .bad
  | .join, .str sep, [x] => match items h x with
    | some ys => match texts ys with
      | some ts => if (ts.map (·.length)).sum + ts.length * sep.length ≤ SZ then .ok (.str (joinS sep ts)) h else .bad
      | none => .bad
    | none => .bad
  | _, _, _ => .bad
/-- the method's owner -/
@[simp] def mtOk (m : Mt) (x : W) (h : Hp) : Bool := match m, x with
  | .append, .ref a => match h[a]? with
    | some (.lst _) => true
    | _ => false
  | .get, .ref a => match h[a]? with
    | some (.dic _) => true
    | _ => false
  | .join, .str _ => true
  | _, _ => false
/-- of that very type (of others nothing is said) -/
@[simp] def isa (x : W) (t : Ty) (h : Hp) : Option Bool := match x, t with
  | .bl _, .bool => some true
  | .int _, .int => some true
  | .str _, .str => some true
  | .tup _, .tuple => some true
  | .ref a, t => match h[a]?, t with
    | some (.lst _), .list => some true
    | some (.dic _), .dict => some true
    | _, _ => none
  | _, _ => none
@[simp] def putI (o k v : W) (h : Hp) : R Unit := match o with
  | .ref a => match h[a]?, k with
    | some (.lst xs), .int i => match ixN xs.length i with
      | some j => .ok () (h.set a (.lst (xs.set j v)))
      | none => .bad
    | some (.dic kvs), k => if isKey k ∧ kvs.length < SZ then .ok () (h.set a (.dic (dput k v kvs))) else .bad
    | _, _ => .bad
  | _ => .bad
/-- keys and values in turn -/
@[simp] def mkDic : List W → List (W × W) → Option (List (W × W))
  | [], acc => some acc
  | k :: v :: r, acc => if isKey k then mkDic r (dput k v acc) else none
  | [_], _ => none
def upTo (lo : Int) : Nat → List W
  | 0 => []
  | n + 1 => .int lo :: upTo (lo + 1) n
@[simp] def zips : List W → List W → List W
  | x :: xs, y :: ys => .tup [x, y] :: zips xs ys
  | _, _ => []

/-- what an own def answers -/
abbrev Or := Nat → List W → Hp → R W
inductive Fl where
  | next (σ : Env) | ret (w : W) | brk (σ : Env) | cont (σ : Env)
/-- what is walked: fixed items; or the list that lies there, so long at first -/
inductive Src where
  | fix (xs : List W)
  | at (a : Nat) (n : Nat)
/-- the list at a place -/
def lstAt (h : Hp) (a : Nat) : Option (List W) := match h[a]? with
  | some (.lst xs) => some xs
  | some (.frz xs) => some xs
  | _ => none
@[simp] def walkL (k : W → List W → Hp → R (List W)) : List W → List W → Hp → R (List W)
  | [], acc, h => .ok acc h
  | x :: xs, acc, h => (k x acc h).bind fun acc h => walkL k xs acc h
/-- n turns at most, from place i on -/
def walkA (a : Nat) (k : W → List W → Hp → R (List W)) : Nat → Nat → List W → Hp → R (List W)
  | n, i, acc, h => match lstAt h a with
    | none => .bad
    | some ys => match ys[i]? with
      | none => .ok acc h
      | some x => match n with
        | 0 => .bad
        | n + 1 => (k x acc h).bind fun acc h => walkA a k n (i + 1) acc h
@[simp] def walk (s : Src) (k : W → List W → Hp → R (List W)) (h : Hp) : R (List W) := match s with
  | .fix xs => walkL k xs [] h
  | .at a n => walkA a k n 0 [] h
def rngOk (j : Int) : Bool := decide (-(2 ^ 62) ≤ j) && decide (j < 2 ^ 62)
@[simp] def src (h : Hp) : W → Option Src
  | .tup xs => some (.fix xs)
  | .ref a => match h[a]? with
    | some (.lst xs) => some (.at a xs.length)
    | some (.frz xs) => some (.at a xs.length)
    | _ => none
  | _ => none
/-- a comprehension's test: none is yes -/
@[simp] def tested (h : Hp) : Option W → Option Bool
  | none => some true
  | some t => truth h t
/-- a comprehension's turn -/
def compK (c : Env → Hp → R (Option W)) (elt : Env → Hp → R W) (σ : Env) (x : W) (acc : List W) (h : Hp) : R (List W) :=
  (c (σ ++ [some x]) h).bind fun t h => match tested h t with
    | none => .bad
    | some true => (elt (σ ++ [some x]) h).bind fun y h => .ok (acc ++ [y]) h
    | some false => .ok acc h
mutual
def evE (C : Or) : E → Env → Hp → R W
  | .var i, σ, h => match σ[i]? with
    | some (some w) => .ok w h
    | _ => .bad
  | .cst w, _, h => .ok w h
  | .tup es, σ, h => (evEs C es σ h).bind fun xs h => .ok (.tup xs) h
  | .lst es, σ, h => (evEs C es σ h).bind fun xs h => new (.lst xs) h
  | .dic es, σ, h => (evEs C es σ h).bind fun xs h => match mkDic xs [] with
    | some kvs => new (.dic kvs) h
    | none => .bad
  | .bin op a b, σ, h => (evE C a σ h).bind fun x h => (evE C b σ h).bind fun y h => bin op x y h
  | .cmp op a b, σ, h => (evE C a σ h).bind fun x h => (evE C b σ h).bind fun y h => R.of ((cmp op x y h).map .bl) h
  | .and a b, σ, h => (evE C a σ h).bind fun x h => match x with
    | .bl true => evE C b σ h
    | .bl false => .ok (.bl false) h
    | _ => .bad
  | .or a b, σ, h => (evE C a σ h).bind fun x h => match x with
    | .bl false => evE C b σ h
    | .bl true => .ok (.bl true) h
    | _ => .bad
  | .not a, σ, h => (evE C a σ h).bind fun x h => R.of ((truth h x).map fun b => .bl (!b)) h
  | .ite c a b, σ, h => (evE C c σ h).bind fun x h => match truth h x with
    | some true => evE C a σ h
    | some false => evE C b σ h
    | none => .bad
  | .idx a b, σ, h => (evE C a σ h).bind fun x h => (evE C b σ h).bind fun y h => idx x y h
  | .sl a lo hi, σ, h => (evE C a σ h).bind fun x h => (evEo C lo σ h).bind fun l h => (evEo C hi σ h).bind fun u h => slice x l u h
  | .call f es, σ, h => (evEs C es σ h).bind fun xs h => C f xs h
  | .blt b a, σ, h => (evE C a σ h).bind fun x h => builtin b x h
  | .mth m o es, σ, h => (evE C o σ h).bind fun x h => if mtOk m x h then (evEs C es σ h).bind fun xs h => method m x xs h else .bad
  | .isa a t, σ, h => (evE C a σ h).bind fun x h => R.of ((isa x t h).map .bl) h
  | .comp elt it c, σ, h => (evIt C it σ h).bind fun s h => (walk s (compK (fun σ h => evEo C c σ h) (fun σ h => evE C elt σ h) σ) h).bind newL
def evEs (C : Or) : Es → Env → Hp → R (List W)
  | .nil, _, h => .ok [] h
  | .cons e es, σ, h => (evE C e σ h).bind fun x h => (evEs C es σ h).bind fun xs h => .ok (x :: xs) h
def evEo (C : Or) : Eo → Env → Hp → R (Option W)
  | .none, _, h => .ok none h
  | .some e, σ, h => (evE C e σ h).bind fun x h => .ok (some x) h
def evIt (C : Or) : It → Env → Hp → R Src
  | .seq e, σ, h => (evE C e σ h).bind fun x h => R.of (src h x) h
  | .rng e, σ, h => (evE C e σ h).bind fun x h => match x with
    | .int j => if rngOk j then .ok (.fix (upTo 0 j.toNat)) h else .bad
    | _ => .bad
  | .rng2 a b, σ, h => (evE C a σ h).bind fun x h => (evE C b σ h).bind fun y h => match x, y with
    | .int i, .int j => if rngOk i && rngOk j then .ok (.fix (upTo i (j - i).toNat)) h else .bad
    | _, _ => .bad
  | .zip a b, σ, h => (evE C a σ h).bind fun x h => (evE C b σ h).bind fun y h => match x, y with
    | .tup xs, .tup ys => .ok (.fix (zips xs ys)) h
    | _, _ => .bad
end
@[simp] theorem evE_var (C : Or) (i : Nat) (σ : Env) (h : Hp) : evE C (.var i) σ h = (match σ[i]? with
    | some (some w) => .ok w h
    | _ => .bad) := by rw [evE.eq_def]
@[simp] theorem evE_cst (C : Or) (w : W) (σ : Env) (h : Hp) : evE C (.cst w) σ h = (.ok w h) := by rw [evE.eq_def]
@[simp] theorem evE_tup (C : Or) (es : Es) (σ : Env) (h : Hp) : evE C (.tup es) σ h = ((evEs C es σ h).bind fun xs h => .ok (.tup xs) h) := by rw [evE.eq_def]
@[simp] theorem evE_lst (C : Or) (es : Es) (σ : Env) (h : Hp) : evE C (.lst es) σ h = ((evEs C es σ h).bind fun xs h => new (.lst xs) h) := by rw [evE.eq_def]
@[simp] theorem evE_dic (C : Or) (es : Es) (σ : Env) (h : Hp) : evE C (.dic es) σ h = ((evEs C es σ h).bind fun xs h => match mkDic xs [] with
    | some kvs => new (.dic kvs) h
    | none => .bad) := by rw [evE.eq_def]
@[simp] theorem evE_bin (C : Or) (op : Op) (a : E) (b : E) (σ : Env) (h : Hp) : evE C (.bin op a b) σ h = ((evE C a σ h).bind fun x h => (evE C b σ h).bind fun y h => bin op x y h) := by rw [evE.eq_def]
@[simp] theorem evE_cmp (C : Or) (op : Cp) (a : E) (b : E) (σ : Env) (h : Hp) : evE C (.cmp op a b) σ h = ((evE C a σ h).bind fun x h => (evE C b σ h).bind fun y h => R.of ((cmp op x y h).map .bl) h) := by rw [evE.eq_def]
@[simp] theorem evE_and (C : Or) (a : E) (b : E) (σ : Env) (h : Hp) : evE C (.and a b) σ h = ((evE C a σ h).bind fun x h => match x with
    | .bl true => evE C b σ h
    | .bl false => .ok (.bl false) h
    | _ => .bad) := by rw [evE.eq_def]
@[simp] theorem evE_or (C : Or) (a : E) (b : E) (σ : Env) (h : Hp) : evE C (.or a b) σ h = ((evE C a σ h).bind fun x h => match x with
    | .bl false => evE C b σ h
    | .bl true => .ok (.bl true) h
    | _ => .bad) := by rw [evE.eq_def]
@[simp] theorem evE_not (C : Or) (a : E) (σ : Env) (h : Hp) : evE C (.not a) σ h = ((evE C a σ h).bind fun x h => R.of ((truth h x).map fun b => .bl (!b)) h) := by rw [evE.eq_def]
@[simp] theorem evE_ite (C : Or) (c : E) (a : E) (b : E) (σ : Env) (h : Hp) : evE C (.ite c a b) σ h = ((evE C c σ h).bind fun x h => match truth h x with
    | some true => evE C a σ h
    | some false => evE C b σ h
    | none => .bad) := by rw [evE.eq_def]
@[simp] theorem evE_idx (C : Or) (a : E) (b : E) (σ : Env) (h : Hp) : evE C (.idx a b) σ h = ((evE C a σ h).bind fun x h => (evE C b σ h).bind fun y h => idx x y h) := by rw [evE.eq_def]
@[simp] theorem evE_sl (C : Or) (a : E) (lo : Eo) (hi : Eo) (σ : Env) (h : Hp) : evE C (.sl a lo hi) σ h = ((evE C a σ h).bind fun x h => (evEo C lo σ h).bind fun l h => (evEo C hi σ h).bind fun u h => slice x l u h) := by rw [evE.eq_def]
@[simp] theorem evE_call (C : Or) (f : Nat) (es : Es) (σ : Env) (h : Hp) : evE C (.call f es) σ h = ((evEs C es σ h).bind fun xs h => C f xs h) := by rw [evE.eq_def]
@[simp] theorem evE_blt (C : Or) (b : B) (a : E) (σ : Env) (h : Hp) : evE C (.blt b a) σ h = ((evE C a σ h).bind fun x h => builtin b x h) := by rw [evE.eq_def]
@[simp] theorem evE_mth (C : Or) (m : Mt) (o : E) (es : Es) (σ : Env) (h : Hp) : evE C (.mth m o es) σ h = ((evE C o σ h).bind fun x h => if mtOk m x h then (evEs C es σ h).bind fun xs h => method m x xs h else .bad) := by rw [evE.eq_def]
@[simp] theorem evE_isa (C : Or) (a : E) (t : Ty) (σ : Env) (h : Hp) : evE C (.isa a t) σ h = ((evE C a σ h).bind fun x h => R.of ((isa x t h).map .bl) h) := by rw [evE.eq_def]
theorem evE_comp (C : Or) (elt : E) (it : It) (c : Eo) (σ : Env) (h : Hp) : evE C (.comp elt it c) σ h = ((evIt C it σ h).bind fun s h => (walk s (compK (evEo C c) (evE C elt) σ) h).bind newL) := by rw [evE.eq_def]
@[simp] theorem evEo_none (C : Or)  (σ : Env) (h : Hp) : evEo C .none σ h = (.ok none h) := by rw [evEo.eq_def]
@[simp] theorem evEo_some (C : Or) (e : E) (σ : Env) (h : Hp) : evEo C (.some e) σ h = ((evE C e σ h).bind fun x h => .ok (some x) h) := by rw [evEo.eq_def]
@[simp] theorem evEs_nil (C : Or) (σ : Env) (h : Hp) : evEs C .nil σ h = .ok [] h := by rw [evEs.eq_def]
@[simp] theorem evEs_cons (C : Or) (e : E) (es : Es) (σ : Env) (h : Hp) : evEs C (.cons e es) σ h = ((evE C e σ h).bind fun x h => (evEs C es σ h).bind fun xs h => .ok (x :: xs) h) := by rw [evEs.eq_def]
@[simp] theorem evIt_seq (C : Or) (e : E) (σ : Env) (h : Hp) : evIt C (.seq e) σ h = ((evE C e σ h).bind fun x h => R.of (src h x) h) := by rw [evIt.eq_def]
@[simp] theorem evIt_rng (C : Or) (e : E) (σ : Env) (h : Hp) : evIt C (.rng e) σ h = ((evE C e σ h).bind fun x h => match x with
    | .int j => if rngOk j then .ok (.fix (upTo 0 j.toNat)) h else .bad
    | _ => .bad) := by rw [evIt.eq_def]
@[simp] theorem evIt_rng2 (C : Or) (a b : E) (σ : Env) (h : Hp) : evIt C (.rng2 a b) σ h = ((evE C a σ h).bind fun x h => (evE C b σ h).bind fun y h => match x, y with
    | .int i, .int j => if rngOk i && rngOk j then .ok (.fix (upTo i (j - i).toNat)) h else .bad
    | _, _ => .bad) := by rw [evIt.eq_def]
@[simp] theorem evIt_zip (C : Or) (a b : E) (σ : Env) (h : Hp) : evIt C (.zip a b) σ h = ((evE C a σ h).bind fun x h => (evE C b σ h).bind fun y h => match x, y with
    | .tup xs, .tup ys => .ok (.fix (zips xs ys)) h
    | _, _ => .bad) := by rw [evIt.eq_def]
@[simp] def setT (t : Tg) (x : W) (σ : Env) : Option Env := match t, x with
  | .var i, x => some (σ.set i (some x))
  | .two i j, .tup [x, y] => some ((σ.set i (some x)).set j (some y))
  | _, _ => none
/-- the turns of a for -/
@[simp] def turn (t : Tg) (k : Env → Hp → R Fl) (x : W) (σ : Env) (h : Hp) (go : Env → Hp → R Fl) : R Fl := match setT t x σ with
  | none => .bad
  | some σ => (k σ h).bind fun f h => match f with
    | .next σ => go σ h
    | .cont σ => go σ h
    | .brk σ => .ok (.next σ) h
    | .ret w => .ok (.ret w) h
@[simp] def turnsL (t : Tg) (k : Env → Hp → R Fl) : List W → Env → Hp → R Fl
  | [], σ, h => .ok (.next σ) h
  | x :: xs, σ, h => turn t k x σ h (turnsL t k xs)
def turnsA (a : Nat) (t : Tg) (k : Env → Hp → R Fl) : Nat → Nat → Env → Hp → R Fl
  | n, i, σ, h => match lstAt h a with
    | none => .bad
    | some ys => match ys[i]? with
      | none => .ok (.next σ) h
      | some x => match n with
        | 0 => .bad
        | n + 1 => turn t k x σ h (turnsA a t k n (i + 1))
@[simp] def turns (s : Src) (t : Tg) (k : Env → Hp → R Fl) (σ : Env) (h : Hp) : R Fl := match s with
  | .fix xs => turnsL t k xs σ h
  | .at a n => turnsA a t k n 0 σ h
mutual
def evS (C : Or) : St → Env → Hp → R Fl
  | .expr e, σ, h => (evE C e σ h).bind fun _ h => .ok (.next σ) h
  | .ret e, σ, h => (evE C e σ h).bind fun x h => .ok (.ret x) h
  | .retN, _, h => .ok (.ret .non) h
  | .set i e, σ, h => (evE C e σ h).bind fun x h => .ok (.next (σ.set i (some x))) h
  | .put o k e, σ, h => (evE C e σ h).bind fun v h => (evE C o σ h).bind fun x h => (evE C k σ h).bind fun y h => (putI x y v h).bind fun _ h => .ok (.next σ) h
  | .iff c a b, σ, h => (evE C c σ h).bind fun x h => match truth h x with
    | some true => evSs C a σ h
    | some false => evSs C b σ h
    | none => .bad
  | .for t it b, σ, h => (evIt C it σ h).bind fun s h => turns s t (evSs C b) σ h
  | .pass, σ, h => .ok (.next σ) h
  | .brk, σ, h => .ok (.brk σ) h
  | .cont, σ, h => .ok (.cont σ) h
def evSs (C : Or) : List St → Env → Hp → R Fl
  | [], σ, h => .ok (.next σ) h
  | s :: r, σ, h => (evS C s σ h).bind fun f h => match f with
    | .next σ => evSs C r σ h
    | f => .ok f h
end
@[simp] theorem evS_expr (C : Or) (e : E) (σ : Env) (h : Hp) : evS C (.expr e) σ h = ((evE C e σ h).bind fun _ h => .ok (.next σ) h) := by rw [evS.eq_def]
@[simp] theorem evS_ret (C : Or) (e : E) (σ : Env) (h : Hp) : evS C (.ret e) σ h = ((evE C e σ h).bind fun x h => .ok (.ret x) h) := by rw [evS.eq_def]
@[simp] theorem evS_retN (C : Or)  (σ : Env) (h : Hp) : evS C .retN σ h = (.ok (.ret .non) h) := by rw [evS.eq_def]
@[simp] theorem evS_set (C : Or) (i : Nat) (e : E) (σ : Env) (h : Hp) : evS C (.set i e) σ h = ((evE C e σ h).bind fun x h => .ok (.next (σ.set i (some x))) h) := by rw [evS.eq_def]
@[simp] theorem evS_put (C : Or) (o : E) (k : E) (e : E) (σ : Env) (h : Hp) : evS C (.put o k e) σ h = ((evE C e σ h).bind fun v h => (evE C o σ h).bind fun x h => (evE C k σ h).bind fun y h => (putI x y v h).bind fun _ h => .ok (.next σ) h) := by rw [evS.eq_def]
@[simp] theorem evS_iff (C : Or) (c : E) (a : List St) (b : List St) (σ : Env) (h : Hp) : evS C (.iff c a b) σ h = ((evE C c σ h).bind fun x h => match truth h x with
    | some true => evSs C a σ h
    | some false => evSs C b σ h
    | none => .bad) := by rw [evS.eq_def]
theorem evS_for (C : Or) (t : Tg) (it : It) (b : List St) (σ : Env) (h : Hp) : evS C (.for t it b) σ h = ((evIt C it σ h).bind fun s h => turns s t (evSs C b) σ h) := by rw [evS.eq_def]
@[simp] theorem evS_pass (C : Or)  (σ : Env) (h : Hp) : evS C .pass σ h = (.ok (.next σ) h) := by rw [evS.eq_def]
@[simp] theorem evS_brk (C : Or)  (σ : Env) (h : Hp) : evS C .brk σ h = (.ok (.brk σ) h) := by rw [evS.eq_def]
@[simp] theorem evS_cont (C : Or)  (σ : Env) (h : Hp) : evS C .cont σ h = (.ok (.cont σ) h) := by rw [evS.eq_def]
@[simp] theorem evSs_nil (C : Or) (σ : Env) (h : Hp) : evSs C [] σ h = .ok (.next σ) h := by rw [evSs.eq_def]
@[simp] theorem evSs_cons (C : Or) (s : St) (r : List St) (σ : Env) (h : Hp) : evSs C (s :: r) σ h = ((evS C s σ h).bind fun f h => match f with
    | .next σ => evSs C r σ h
    | f => .ok f h) := by rw [evSs.eq_def]
/-- a def: how many parameters, how many names, its body -/
structure Fn where
  ps : Nat
  ns : Nat
  body : List St
def evFn (C : Or) (f : Fn) (xs : List W) (h : Hp) : R W :=
  if xs.length = f.ps then (evSs C f.body (xs.map some ++ List.replicate (f.ns - f.ps) none) h).bind fun fl h => match fl with
    | .next _ => .ok .non h
    | .ret w => .ok w h
    | _ => .bad
  else .bad
/-- the defs of a text, so many calls deep -/
def run (T : List Fn) : Nat → Or
  | 0, _, _, _ => .bad
  | k + 1, f, xs, h => match T[f]? with
    | some fn => evFn (run T k) fn xs h
    | none => .bad
end Tw

set_option Elab.async false
set_option linter.all false
set_option maxRecDepth 100000
namespace TwS
open PySem L2

/-- codes that a text may have -/
def okS (x : Tw.S) : Prop := ∀ c ∈ x, c < 0x110000
mutual
/-- iota: where our objects lie; n: how many there are -/
inductive RW (ι : Nat → Addr) (n : Nat) (H : L2.Hp) : Tw.W → V → Prop
  | non : RW ι n H .non .non
  | bl (b : Bool) : RW ι n H (.bl b) (.bl b)
  | int (i : Int) : RW ι n H (.int i) (.int i)
  | str (x : Tw.S) (hx : okS x) : RW ι n H (.str x) (.str ⟨x.toArray⟩)
  | tup {a : Addr} {xs : List V} {ws : List Tw.W} : H a = some (.tup xs) → RWs ι n H ws xs → RW ι n H (.tup ws) (.ref a)
  | ref {i : Nat} : i < n → RW ι n H (.ref i) (.ref (ι i))
inductive RWs (ι : Nat → Addr) (n : Nat) (H : L2.Hp) : List Tw.W → List V → Prop
  | nil : RWs ι n H [] []
  | cons {w : Tw.W} {v : V} {ws : List Tw.W} {vs : List V} : RW ι n H w v → RWs ι n H ws vs → RWs ι n H (w :: ws) (v :: vs)
end

/-- what may be between two relations -/
structure Keeps (ι : Nat → Addr) (n : Nat) (H : L2.Hp) (ι' : Nat → Addr) (n' : Nat) (H' : L2.Hp) : Prop where
  le : n ≤ n'
  same : ∀ i, i < n → ι' i = ι i
  tup : ∀ a xs, H a = some (.tup xs) → H' a = some (.tup xs)
section
variable {ι ι' : Nat → Addr} {n n' : Nat} {H H' : L2.Hp}
mutual
theorem RW.keep (k : Keeps ι n H ι' n' H') : ∀ {w : Tw.W} {v : V}, RW ι n H w v → RW ι' n' H' w v
  | _, _, .non => .non
  | _, _, .bl b => .bl b
  | _, _, .int i => .int i
  | _, _, .str x hx => .str x hx
  | _, _, .tup e r => .tup (k.tup _ _ e) (RWs.keep k r)
  | _, _, .ref (i := i) h => by rw [← k.same i h]; exact .ref (Nat.lt_of_lt_of_le h k.le)
theorem RWs.keep (k : Keeps ι n H ι' n' H') : ∀ {ws : List Tw.W} {vs : List V}, RWs ι n H ws vs → RWs ι' n' H' ws vs
  | _, _, .nil => .nil
  | _, _, .cons a r => .cons (RW.keep k a) (RWs.keep k r)
end
theorem RWs.length : ∀ {ws : List Tw.W} {vs : List V}, RWs ι n H ws vs → ws.length = vs.length
  | _, _, .nil => rfl
  | _, _, .cons _ r => congrArg (· + 1) r.length
theorem RWs.get : ∀ {ws : List Tw.W} {vs : List V} {i : Nat} {w : Tw.W}, RWs ι n H ws vs → ws[i]? = some w → ∃ v, vs[i]? = some v ∧ RW ι n H w v
  | _, _, _, _, .nil, e => by simp at e
  | _, _, 0, _, .cons a _, e => by simp at e; subst e; exact ⟨_, rfl, a⟩
  | _, _, i + 1, w, .cons _ r, e => by
    obtain ⟨v, h1, h2⟩ := RWs.get (i := i) (w := w) r (by simpa using e)
    exact ⟨v, by simpa using h1, h2⟩
theorem RWs.append : ∀ {ws us : List Tw.W} {vs xs : List V}, RWs ι n H ws vs → RWs ι n H us xs → RWs ι n H (ws ++ us) (vs ++ xs)
  | _, _, _, _, .nil, s => s
  | _, _, _, _, .cons a r, s => .cons a (RWs.append r s)
theorem RWs.take : ∀ {ws : List Tw.W} {vs : List V} (k : Nat), RWs ι n H ws vs → RWs ι n H (ws.take k) (vs.take k)
  | _, _, 0, _ => .nil
  | _, _, _ + 1, .nil => .nil
  | _, _, k + 1, .cons a r => .cons a (RWs.take k r)
theorem RWs.drop : ∀ {ws : List Tw.W} {vs : List V} (k : Nat), RWs ι n H ws vs → RWs ι n H (ws.drop k) (vs.drop k)
  | _, _, 0, r => r
  | _, _, _ + 1, .nil => .nil
  | _, _, k + 1, .cons _ r => RWs.drop k r
theorem RWs.set {w : Tw.W} {v : V} (a : RW ι n H w v) : ∀ {ws : List Tw.W} {vs : List V} (i : Nat), RWs ι n H ws vs → RWs ι n H (ws.set i w) (vs.set i v)
  | _, _, _, .nil => .nil
  | _, _, 0, .cons _ r => .cons a r
  | _, _, i + 1, .cons b r => .cons b (RWs.set a i r)
end

inductive RD (ι : Nat → Addr) (n : Nat) (H : L2.Hp) : List (Tw.W × Tw.W) → List (Key × V) → Prop
  | nil : RD ι n H [] []
  | cons {k w : Tw.W} {q : Key} {v : V} {kvs : List (Tw.W × Tw.W)} {xs : List (Key × V)} : q ∉ xs.map (·.1) → RW ι n H k (kV q) → RW ι n H w v → RD ι n H kvs xs → RD ι n H ((k, w) :: kvs) ((q, v) :: xs)
theorem RD.keep {ι ι' : Nat → Addr} {n n' : Nat} {H H' : L2.Hp} (k : Keeps ι n H ι' n' H') : ∀ {kvs : List (Tw.W × Tw.W)} {xs : List (Key × V)}, RD ι n H kvs xs → RD ι' n' H' kvs xs
  | _, _, .nil => .nil
  | _, _, .cons m e a r => .cons m (e.keep k) (a.keep k) (RD.keep k r)
theorem RD.length {ι : Nat → Addr} {n : Nat} {H : L2.Hp} : ∀ {kvs : List (Tw.W × Tw.W)} {xs : List (Key × V)}, RD ι n H kvs xs → kvs.length = xs.length
  | _, _, .nil => rfl
  | _, _, .cons _ _ _ r => congrArg (· + 1) r.length

/-- the script: frozen, or an object of the module -/
def SqF (K : PySem.W.Frag) (H : L2.Hp) (a : Addr) (xs : List V) : Prop :=
  (∃ o, H a = some (.frz o (.lst xs))) ∨
    ∃ (o : Obj) (its : Array Value) (n : Nat), K.lookup a = some o ∧ o.cls = .type "list" ∧ o.dict = none ∧ o.data = .seq its n ∧ its.size ≤ sizeLine ∧ Vals xs its.toList
theorem SqF.sq {K : PySem.W.Frag} {H : L2.Hp} {a : Addr} {xs : List V} (s : SqF K H a xs) : SqL K H a xs := by
  rcases s with s | s
  · exact .inl (.inr s)
  · exact .inr s
def isMut : Tw.O → Bool
  | .frz _ => false
  | _ => true
/-- our object o lies at a -/
def RO (K : PySem.W.Frag) (ι : Nat → Addr) (n : Nat) (H : L2.Hp) (a : Addr) : Tw.O → Prop
  | .lst ws => ∃ xs, H a = some (.lst xs) ∧ RWs ι n H ws xs
  | .frz ws => ∃ xs, SqF K H a xs ∧ RWs ι n H ws xs
  | .dic kvs => ∃ xs, H a = some (.dK xs) ∧ RD ι n H kvs xs
  | .ins _ _ => False
structure HR (K : PySem.W.Frag) (ι : Nat → Addr) (h : Tw.Hp) (H : L2.Hp) : Prop where
  obj : ∀ (i : Nat) (o : Tw.O), h[i]? = some o → RO K ι h.length H (ι i) o
  inj : ∀ (i j : Nat) (o u : Tw.O), h[i]? = some o → h[j]? = some u → isMut o = true → isMut u = true → ι i = ι j → i = j
structure Ext (ι : Nat → Addr) (h : Tw.Hp) (H : L2.Hp) (ι' : Nat → Addr) (h' : Tw.Hp) (H' : L2.Hp) : Prop where
  len : h.length ≤ h'.length
  same : ∀ i, i < h.length → ι' i = ι i
  fr : ∀ b u, H b = some u → (∀ (i : Nat) (o : Tw.O), h[i]? = some o → isMut o = true → ι i ≠ b) → H' b = some u
  new : ∀ i, h.length ≤ i → i < h'.length → H (ι' i) = none
  dom : ∀ b, H' b = none → H b = none
  fz : ∀ (i : Nat) (o u : Tw.O), h[i]? = some o → h'[i]? = some u → isMut u = isMut o
section
variable {K : PySem.W.Frag} {ι ι1 ι2 : Nat → Addr} {h h1 h2 : Tw.Hp} {H H1 H2 : L2.Hp}
theorem lt_of {h : Tw.Hp} {i : Nat} {o : Tw.O} (e : h[i]? = some o) : i < h.length := (List.getElem?_eq_some_iff.mp e).1
theorem Ext.refl (ι : Nat → Addr) (h : Tw.Hp) (H : L2.Hp) : Ext ι h H ι h H :=
  ⟨Nat.le_refl _, fun _ _ => rfl, fun _ _ e _ => e, fun i a b => absurd b (Nat.not_lt.mpr a), fun _ e => e, fun i o u e f => by rw [e] at f; cases f; rfl⟩
theorem Ext.trans (a : Ext ι h H ι1 h1 H1) (b : Ext ι1 h1 H1 ι2 h2 H2) : Ext ι h H ι2 h2 H2 where
  len := Nat.le_trans a.len b.len
  same := fun i hi => (b.same i (Nat.lt_of_lt_of_le hi a.len)).trans (a.same i hi)
  fr := fun c u e n => b.fr c u (a.fr c u e n) fun i o e1 m z => by
    by_cases hi : i < h.length
    · obtain ⟨o', eo⟩ : ∃ o', h[i]? = some o' := ⟨_, List.getElem?_eq_getElem hi⟩
      rw [a.same i hi] at z
      exact n i o' eo (by rw [← a.fz i o' o eo e1]; exact m) z
    · have q := a.new i (Nat.not_lt.mp hi) (lt_of e1)
      rw [z, e] at q; cases q
  new := fun i h1' h2' => by
    by_cases hi : i < h1.length
    · rw [b.same i hi]; exact a.new i h1' hi
    · exact a.dom _ (b.new i (Nat.not_lt.mp hi) h2')
  dom := fun c e => a.dom c (b.dom c e)
  fz := fun i o u e f => by
    obtain ⟨v, ev⟩ : ∃ v, h1[i]? = some v := ⟨_, List.getElem?_eq_getElem (Nat.lt_of_lt_of_le (lt_of e) a.len)⟩
    rw [b.fz i v u ev f, a.fz i o v e ev]
theorem HR.there (r : HR K ι h H) {i : Nat} {o : Tw.O} (e : h[i]? = some o) (m : isMut o = true) : ∃ u, H (ι i) = some u ∧ (∀ xs, u ≠ .tup xs) ∧ ∀ o v, u ≠ .frz o v := by
  have q := r.obj i o e
  cases o with
  | lst ws => obtain ⟨xs, q, _⟩ := q; exact ⟨_, q, (fun _ z => nomatch z), fun _ _ z => nomatch z⟩
  | frz ws => cases m
  | dic kvs => obtain ⟨xs, q, _⟩ := q; exact ⟨_, q, (fun _ z => nomatch z), fun _ _ z => nomatch z⟩
  | ins c fs => exact q.elim
theorem Ext.keeps (r : HR K ι h H) (a : Ext ι h H ι1 h1 H1) : Keeps ι h.length H ι1 h1.length H1 :=
  ⟨a.len, a.same, fun b xs e => a.fr b _ e fun i o eo m z => by
    obtain ⟨u, q, n, _⟩ := r.there eo m
    rw [z, e] at q
    cases q
    exact n _ rfl⟩
/-- a new tuple of the layer's -/
theorem fr_upd {H : L2.Hp} {p : Addr} {o : HO} (hp : H p = none) : ∀ b u, H b = some u → upd H p o b = some u := fun b u e => by
  rw [upd_ne (ne_of_none e hp)]; exact e
theorem dom_upd {H : L2.Hp} {p : Addr} {o : HO} : ∀ b, upd H p o b = none → H b = none := fun b e => by
  by_cases z : b = p
  · subst z; rw [upd_same] at e; cases e
  · rw [upd_ne z] at e; exact e
theorem SqF.keep {K : PySem.W.Frag} {H H1 : L2.Hp} {a : Addr} {xs : List V} (s : SqF K H a xs) (k : ∀ u, H a = some u → H1 a = some u) : SqF K H1 a xs := by
  rcases s with ⟨o, s⟩ | s
  · exact .inl ⟨o, k _ s⟩
  · exact .inr s
/-- an object of ours, where the heap has only grown -/
theorem RO.keep {n n' : Nat} {a : Addr} {o : Tw.O} (r : RO K ι n H a o) (k : Keeps ι n H ι1 n' H1) (s : ∀ u, H a = some u → H1 a = some u) : RO K ι1 n' H1 a o := by
  cases o with
  | lst ws => obtain ⟨xs, q, z⟩ := r; exact ⟨xs, s _ q, z.keep k⟩
  | frz ws => obtain ⟨xs, q, z⟩ := r; exact ⟨xs, SqF.keep q s, z.keep k⟩
  | dic kvs => obtain ⟨xs, q, z⟩ := r; exact ⟨xs, s _ q, z.keep k⟩
  | ins c fs => exact r.elim
/-- the layer's heap has grown by a thing that is none of ours -/
theorem HR.grow {p : Addr} {o : HO} (r : HR K ι h H) (hp : H p = none) : HR K ι h (upd H p o) ∧ Ext ι h H ι h (upd H p o) := by
  have e : Ext ι h H ι h (upd H p o) := ⟨Nat.le_refl _, fun _ _ => rfl, fun b u q _ => fr_upd hp b u q, fun i a b => absurd b (Nat.not_lt.mpr a), dom_upd, fun i o u e f => by rw [e] at f; cases f; rfl⟩
  exact ⟨⟨fun i u q => (r.obj i u q).keep (e.keeps r) fun v z => fr_upd hp _ _ z, r.inj⟩, e⟩
/-- and by one of ours -/
def iNew (ι : Nat → Addr) (n : Nat) (p : Addr) : Nat → Addr := fun i => if i = n then p else ι i
theorem iNew_lt {n i : Nat} {p : Addr} (h : i < n) : iNew ι n p i = ι i := if_neg (Nat.ne_of_lt h)
theorem iNew_at {n : Nat} {p : Addr} : iNew ι n p n = p := if_pos rfl
theorem HR.new {p : Addr} {o : HO} {u : Tw.O} (r : HR K ι h H) (hp : H p = none) (m : isMut u = true) (ro : ∀ ι' n' H', Keeps ι h.length H ι' n' H' → H' p = some o → RO K ι' n' H' p u) :
    HR K (iNew ι h.length p) (h ++ [u]) (upd H p o) ∧ Ext ι h H (iNew ι h.length p) (h ++ [u]) (upd H p o) := by
  have hl : (h ++ [u]).length = h.length + 1 := by simp
  have cases2 : ∀ {i : Nat} {v : Tw.O}, (h ++ [u])[i]? = some v → (i < h.length ∧ h[i]? = some v) ∨ (i = h.length ∧ v = u) := fun {i v} e => by
    have hi := lt_of e
    by_cases z : i < h.length
    · rw [List.getElem?_append_left z] at e; exact .inl ⟨z, e⟩
    · have z' : i = h.length := by omega
      subst z'
      simp at e
      exact .inr ⟨rfl, e.symm⟩
  have e : Ext ι h H (iNew ι h.length p) (h ++ [u]) (upd H p o) := by
    refine ⟨by omega, fun i hi => iNew_lt hi, fun b v q _ => fr_upd hp b v q, fun i h1 h2 => ?_, dom_upd, fun i v w e f => ?_⟩
    · have : i = h.length := by omega
      subst this
      rw [iNew_at]; exact hp
    · rcases cases2 f with ⟨_, f⟩ | ⟨f, _⟩
      · rw [e] at f; cases f; rfl
      · have := lt_of e; omega
  refine ⟨⟨fun i v q => ?_, fun i j v w q1 q2 m1 m2 z => ?_⟩, e⟩
  · rcases cases2 q with ⟨hi, q⟩ | ⟨rfl, rfl⟩
    · rw [iNew_lt hi]
      exact (r.obj i v q).keep (e.keeps r) fun x z => fr_upd hp _ _ z
    · rw [iNew_at]
      exact ro _ _ _ (e.keeps r) upd_same
  · rcases cases2 q1 with ⟨hi, p1⟩ | ⟨ei, ev⟩ <;> rcases cases2 q2 with ⟨hj, p2⟩ | ⟨ej, ew⟩
    · rw [iNew_lt hi, iNew_lt hj] at z
      exact r.inj i j v w p1 p2 m1 m2 z
    · rw [iNew_lt hi, ej, iNew_at] at z
      obtain ⟨x, q, _, _⟩ := r.there p1 m1
      rw [z, hp] at q; cases q
    · rw [ei, iNew_at, iNew_lt hj] at z
      obtain ⟨x, q, _, _⟩ := r.there p2 m2
      rw [← z, hp] at q; cases q
    · rw [ei, ej]
/-- one of ours is written -/
theorem HR.put {i : Nat} {o : HO} {v u : Tw.O} (r : HR K ι h H) (ei : h[i]? = some v) (mv : isMut v = true) (m : isMut u = true) (no : ∀ xs, o ≠ .tup xs)
    (ro : ∀ H', Keeps ι h.length H ι h.length H' → H' (ι i) = some o → RO K ι h.length H' (ι i) u) :
    HR K ι (h.set i u) (upd H (ι i) o) ∧ Ext ι h H ι (h.set i u) (upd H (ι i) o) := by
  have hl : (h.set i u).length = h.length := by simp
  obtain ⟨x0, q0, n0, f0⟩ := r.there ei mv
  have kp : Keeps ι h.length H ι h.length (upd H (ι i) o) := ⟨Nat.le_refl _, fun _ _ => rfl, fun a xs e => by
    rw [upd_ne (fun z => by rw [z, q0] at e; cases e; exact n0 _ rfl)]; exact e⟩
  have look : ∀ {j : Nat} {w : Tw.O}, (h.set i u)[j]? = some w → (j = i ∧ w = u) ∨ (j ≠ i ∧ h[j]? = some w) := fun {j w} e => by
    by_cases z : j = i
    · subst z
      rw [List.getElem?_set_self (lt_of ei)] at e
      cases e; exact .inl ⟨rfl, rfl⟩
    · rw [List.getElem?_set_ne (Ne.symm z)] at e
      exact .inr ⟨z, e⟩
  have e : Ext ι h H ι (h.set i u) (upd H (ι i) o) := by
    refine ⟨by omega, fun _ _ => rfl, fun b w q n => ?_, fun j a b => absurd b (by rw [hl]; exact Nat.not_lt.mpr a), dom_upd, fun j w w' e f => ?_⟩
    · rw [upd_ne (fun z => n i v ei mv z.symm)]; exact q
    · rcases look f with ⟨rfl, rfl⟩ | ⟨_, f⟩
      · rw [ei] at e; cases e; rw [m, mv]
      · rw [e] at f; cases f; rfl
  refine ⟨⟨fun j w q => ?_, fun j k w w' q1 q2 m1 m2 z => ?_⟩, e⟩
  · rw [hl]
    rcases look q with ⟨rfl, rfl⟩ | ⟨nj, q⟩
    · exact ro _ kp upd_same
    · by_cases zz : ι j = ι i
      · by_cases mw : isMut w = true
        · exact absurd (r.inj j i w v q ei mw mv zz) nj
        · cases w with
          | frz ws =>
            obtain ⟨xs, sq, rr⟩ := r.obj j _ q
            rcases sq with ⟨o', sq⟩ | sq
            · rw [zz, q0] at sq; cases sq; exact absurd rfl (f0 _ _)
            · exact ⟨xs, .inr sq, rr.keep kp⟩
          | _ => exact absurd rfl mw
      · exact (r.obj j w q).keep kp fun y z => by rw [upd_ne zz]; exact z
  · have back : ∀ {j : Nat} {w : Tw.O}, (h.set i u)[j]? = some w → isMut w = true → ∃ w', h[j]? = some w' ∧ isMut w' = true := fun {j w} q mw => by
      rcases look q with ⟨rfl, rfl⟩ | ⟨_, q⟩
      · exact ⟨v, ei, mv⟩
      · exact ⟨w, q, mw⟩
    obtain ⟨a, qa, ma⟩ := back q1 m1
    obtain ⟨b, qb, mb⟩ := back q2 m2
    exact r.inj j k a b qa qb ma mb z
end
end TwS

set_option Elab.async false
set_option linter.all false
set_option maxRecDepth 100000
namespace TwS
open PySem L2

abbrev Rl (α β : Type) := (Nat → Addr) → Nat → L2.Hp → α → β → Prop
/-- what a reckoning of ours is to reach -/
def Post (K : PySem.W.Frag) {α β : Type} (R : Rl α β) (ι : Nat → Addr) (h : Tw.Hp) (H : L2.Hp) (m : Tw.R α) (Q : β → L2.Hp → Prop) : Prop := match m with
  | .ok a h' => ∀ ι' H' b, Ext ι h H ι' h' H' → HR K ι' h' H' → R ι' h'.length H' a b → Q b H'
  | .exn _ _ => False
  | .bad => False
/-- the names' values -/
structure At (K : PySem.W.Frag) (ι : Nat → Addr) (h : Tw.Hp) (H : L2.Hp) (ρ : Tw.Env) (σ : L2.St) : Prop where
  hr : HR K ι h H
  len : σ.length = ρ.length
  st : ∀ (i : Nat) (w : Tw.W), ρ[i]? = some (some w) → ∃ v, σ[i]? = some (some v) ∧ RW ι h.length H w v
/-- the reading of a part -/
def tG (K : PySem.W.Frag) {α β : Type} (R : Rl α β) (d : Tw.Env → Tw.Hp → Tw.R α) : L2.St → L2.Hp → (β → L2.Hp → Prop) → Prop :=
  fun σ H Q => ∃ ρ h ι, At K ι h H ρ σ ∧ Post K R ι h H (d ρ h) Q
abbrev RE : Rl Tw.W V := fun ι n H w v => RW ι n H w v
/-- so many -/
abbrev RA (k : Nat) : Rl (List Tw.W) (List V) := fun ι n H w v => RWs ι n H w v ∧ w.length = k
abbrev RB : Rl Bool Bool := fun _ _ _ a b => a = b
abbrev tE (K : PySem.W.Frag) (d : Tw.Env → Tw.Hp → Tw.R Tw.W) : TE := tG K RE d
section
variable {K : PySem.W.Frag} {α β γ δ : Type} {R : Rl α β} {R' : Rl γ δ} {ι ι1 : Nat → Addr} {h h1 : Tw.Hp} {H H1 : L2.Hp} {ρ : Tw.Env} {σ : L2.St} {m : Tw.R α}
theorem Post.mono {Q Q' : β → L2.Hp → Prop} (p : Post K R ι h H m Q) (f : ∀ b H', Q b H' → Q' b H') : Post K R ι h H m Q' := by
  cases m with
  | ok a h' => exact fun ι' H' b e r q => f _ _ (p ι' H' b e r q)
  | exn => exact p
  | bad => exact p
theorem Post.later {Q : β → L2.Hp → Prop} (p : Post K R ι h H m Q) (e : Ext ι h H ι1 h1 H1) : Post K R ι1 h1 H1 m Q := by
  cases m with
  | ok a h' => exact fun ι' H' b e' r q => p ι' H' b (e.trans e') r q
  | exn => exact p
  | bad => exact p
theorem At.later (a : At K ι h H ρ σ) (e : Ext ι h H ι1 h1 H1) (r : HR K ι1 h1 H1) : At K ι1 h1 H1 ρ σ :=
  ⟨r, a.len, fun i w q => let ⟨v, q1, q2⟩ := a.st i w q; ⟨v, q1, q2.keep (e.keeps a.hr)⟩⟩
/-- a part, then the rest -/
theorem step {k : α → Tw.Hp → Tw.R γ} {Q : δ → L2.Hp → Prop} (a : At K ι h H ρ σ) (p : Post K R' ι h H (m.bind k) Q) :
    Post K R ι h H m (fun x H1 => ∃ w h1 ι1, At K ι1 h1 H1 ρ σ ∧ Ext ι h H ι1 h1 H1 ∧ R ι1 h1.length H1 w x ∧ Post K R' ι1 h1 H1 (k w h1) Q) := by
  cases m with
  | ok w h1 => exact fun ι' H' b e r q => ⟨w, h1, ι', a.later e r, e, q, Post.later p e⟩
  | exn => exact p
  | bad => exact p
/-- a value that is there -/
theorem Post.self {a : α} {b : β} {Q : β → L2.Hp → Prop} (p : Post K R ι h H (.ok a h) Q) (r : HR K ι h H) (q : R ι h.length H a b) : Q b H := p ι H b (Ext.refl ι h H) r q
/-- a new tuple -/
theorem Post.tup {ws : List Tw.W} {xs : List V} {Q : VK} (p : Post K RE ι h H (.ok (.tup ws) h) Q) (r : HR K ι h H) (q : RWs ι h.length H ws xs) : ∀ a, H a = none → Q (.ref a) (upd H a (.tup xs)) := fun a ha => by
  obtain ⟨r', e⟩ := r.grow (o := .tup xs) ha
  exact p ι _ _ e r' (.tup upd_same (q.keep (e.keeps r)))
/-- a new list -/
theorem Post.lst {ws : List Tw.W} {xs : List V} {Q : VK} (p : Post K RE ι h H (Tw.new (.lst ws) h) Q) (r : HR K ι h H) (q : RWs ι h.length H ws xs) : ∀ a, H a = none → Q (.ref a) (upd H a (.lst xs)) := fun a ha => by
  obtain ⟨r', e⟩ := r.new (u := .lst ws) (o := .lst xs) ha rfl fun ι' n' H' k e => ⟨xs, e, q.keep k⟩
  refine p _ _ (.ref a) e r' ?_
  have z : RW (iNew ι h.length a) (h ++ [Tw.O.lst ws]).length (upd H a (.lst xs)) (.ref h.length) (.ref (iNew ι h.length a h.length)) := .ref (by simp)
  rw [iNew_at] at z
  exact z
theorem Post.dic {kvs : List (Tw.W × Tw.W)} {xs : List (Key × V)} {Q : VK} (p : Post K RE ι h H (Tw.new (.dic kvs) h) Q) (r : HR K ι h H) (q : RD ι h.length H kvs xs) : ∀ a, H a = none → Q (.ref a) (upd H a (.dK xs)) := fun a ha => by
  obtain ⟨r', e⟩ := r.new (u := .dic kvs) (o := .dK xs) ha rfl fun ι' n' H' k e => ⟨xs, e, q.keep k⟩
  refine p _ _ (.ref a) e r' ?_
  have z : RW (iNew ι h.length a) (h ++ [Tw.O.dic kvs]).length (upd H a (.dK xs)) (.ref h.length) (.ref (iNew ι h.length a h.length)) := .ref (by simp)
  rw [iNew_at] at z
  exact z
end
/-- weaker readings -/
theorem PE.imp {X : Cx} {e : Expr} {t t' : TE} (p : PE X e t) (f : ∀ σ H Q, t' σ H Q → t σ H Q) : PE X e t' := fun pins s σ H Q I q => p pins s σ H Q I (f σ H Q q)
theorem PT.imp {X : Cx} {e : Expr} {t t' : TT} (p : PT X e t) (f : ∀ σ H Q, t' σ H Q → t σ H Q) : PT X e t' := fun pins s σ H Q I q => p pins s σ H Q I (f σ H Q q)
theorem PW.imp {X : Cx} {e : Expr} {t t' : TT} (p : PW X e t) (f : ∀ σ H Q, t' σ H Q → t σ H Q) : PW X e t' := fun wh pins s σ H Q I q => p wh pins s σ H Q I (f σ H Q q)
theorem PA.imp {X : Cx} {e : List Expr} {t t' : TA} (p : PA X e t) (f : ∀ σ H Q, t' σ H Q → t σ H Q) : PA X e t' := fun pos pins s σ H Q I q => p pos pins s σ H Q I (f σ H Q q)
theorem PS.imp {X : Cx} {e : Stmt} {t t' : TS} (p : PS X e t) (f : ∀ D σ H, t' D σ H → t D σ H) : PS X e t' := fun pins s σ H D I q => p pins s σ H D I (f D σ H q)
theorem PSs.imp {X : Cx} {e : List Stmt} {t t' : TS} (p : PSs X e t) (f : ∀ D σ H, t' D σ H → t D σ H) : PSs X e t' := fun pins s σ H D I q => p pins s σ H D I (f D σ H q)

section
variable {K : PySem.W.Frag} {ι : Nat → Addr} {h : Tw.Hp} {H : L2.Hp}
theorem HR.lst (r : HR K ι h H) {i : Nat} {ws : List Tw.W} (e : h[i]? = some (.lst ws)) : ∃ xs, H (ι i) = some (.lst xs) ∧ RWs ι h.length H ws xs := r.obj i _ e
theorem HR.dic (r : HR K ι h H) {i : Nat} {kvs : List (Tw.W × Tw.W)} (e : h[i]? = some (.dic kvs)) : ∃ xs, H (ι i) = some (.dK xs) ∧ RD ι h.length H kvs xs := r.obj i _ e
theorem HR.at (r : HR K ι h H) {i : Nat} {ws : List Tw.W} (e : Tw.lstAt h i = some ws) : ∃ xs, SqL K H (ι i) xs ∧ RWs ι h.length H ws xs := by
  unfold Tw.lstAt at e
  split at e
  · next q => cases e; obtain ⟨xs, q1, q2⟩ := r.obj i _ q; exact ⟨xs, SqL.of q1, q2⟩
  · next q => cases e; obtain ⟨xs, q1, q2⟩ := r.obj i _ q; exact ⟨xs, q1.sq, q2⟩
  · cases e
end
theorem ixN_eq (n : Nat) (i : Int) : Tw.ixN n i = L2.ixN n i := rfl
theorem RWs.atI {ι : Nat → Addr} {n : Nat} {H : L2.Hp} {ws : List Tw.W} {xs : List V} (r : RWs ι n H ws xs) {i : Int} {w : Tw.W} (e : Tw.atI ws i = some w) : ∃ v, L2.atI xs i = some v ∧ RW ι n H w v := by
  unfold Tw.atI at e
  unfold L2.atI
  rw [← r.length, ← ixN_eq]
  cases q : Tw.ixN ws.length i with
  | none => rw [q] at e; cases e
  | some j =>
    rw [q] at e
    exact r.get e
theorem sIx_eq (n d : Nat) (o : Option Int) : Tw.sIx n d o = HT.sIx n d o := by
  cases o with
  | none => rfl
  | some v => first | rfl | (unfold Tw.sIx HT.sIx; split <;> first | rfl | omega | (simp; omega))
theorem RWs.cut {ι : Nat → Addr} {n : Nat} {H : L2.Hp} {ws : List Tw.W} {xs : List V} (r : RWs ι n H ws xs) (lo hi : Option Int) : RWs ι n H (Tw.cut ws lo hi) (cutV xs lo hi) := by
  unfold Tw.cut cutV
  rw [sIx_eq, sIx_eq, r.length]
  exact (r.drop _).take _
end TwS

set_option Elab.async false
set_option linter.all false
set_option maxRecDepth 100000
set_option maxHeartbeats 1000000
namespace TwS
open PySem L2 PyProof.Rows
section
variable {X : Cx} {a b c : Expr} {pos : Pos} {da db dc : Tw.Env → Tw.Hp → Tw.R Tw.W}
theorem s_var {i : Nat} {x : Str} (hN : X.N[i]? = some x) (hv : Vis X.env.scope x) (hd : (x == ("__debug__" : Str)) = false) (hcd : (x == ("__classdict__" : Str)) = false) :
    PE X (.Name x pos) (tE X.K fun ρ h => match ρ[i]? with | some (some w) => .ok w h | _ => .bad) := by
  refine PE.imp (pe_var hN hv hd hcd) fun σ H Q ⟨ρ, h, ι, at', p⟩ => ?_
  cases e : ρ[i]? with
  | none => simp only [e] at p; exact p.elim
  | some o =>
    cases o with
    | none => simp only [e] at p; exact p.elim
    | some w =>
      simp only [e] at p
      obtain ⟨v, q1, q2⟩ := at'.st i w e
      exact ⟨v, q1, p.self at'.hr q2⟩
theorem s_cst {v : V} {w : Tw.W} (hp : PE X a (tC v)) (hr : ∀ ι n H, RW ι n H w v) : PE X a (tE X.K fun _ h => .ok w h) :=
  PE.imp hp fun σ H Q ⟨ρ, h, ι, at', p⟩ => p.self at'.hr (hr _ _ _)
abbrev tA (K : PySem.W.Frag) (k : Nat) (d : Tw.Env → Tw.Hp → Tw.R (List Tw.W)) : TA := tG K (RA k) d
theorem s_nil : PA X [] (tA X.K 0 fun _ h => .ok [] h) := PA.imp pa_nil fun σ H Q ⟨ρ, h, ι, at', p⟩ => p.self at'.hr ⟨.nil, rfl⟩
theorem s_cons {es : List Expr} {n : Nat} {ds : Tw.Env → Tw.Hp → Tw.R (List Tw.W)} (ha : PE X a (tE X.K da)) (hs : PA X es (tA X.K n ds)) (hst : starEach (a :: es) X.env = (false, eval a X.env) :: starEach es X.env) :
    PA X (a :: es) (tA X.K (n + 1) fun ρ h => (da ρ h).bind fun x h => (ds ρ h).bind fun xs h => .ok (x :: xs) h) := by
  refine PA.imp (pa_cons ha hs hst) fun σ H Q ⟨ρ, h, ι, at', p⟩ => ?_
  refine ⟨ρ, h, ι, at', (step at' p).mono fun x H1 ⟨w, h1, ι1, at1, e1, r1, p1⟩ => ⟨ρ, h1, ι1, at1, (step at1 p1).mono fun xs H2 ⟨ws, h2, ι2, at2, e2, r2, p2⟩ => ?_⟩⟩
  exact p2.self at2.hr ⟨.cons (r1.keep (e2.keeps at1.hr)) r2.1, by rw [List.length_cons, r2.2]⟩
theorem line_eq : sizeLine = Tw.SZ := by rw [sizeLine_eq]; rfl
theorem s_tup {es : List Expr} {n : Nat} {ds : Tw.Env → Tw.Hp → Tw.R (List Tw.W)} {k : Nat} (hs : PA X es (tA X.K n ds)) (hl : n ≤ sizeLine) :
    PE X (.Tuple es k pos) (tE X.K fun ρ h => (ds ρ h).bind fun xs h => .ok (.tup xs) h) := by
  refine PE.imp (pe_tup hs) fun σ H Q ⟨ρ, h, ι, at', p⟩ => ?_
  refine ⟨ρ, h, ι, at', (step at' p).mono fun xs H1 ⟨ws, h1, ι1, at1, e1, r1, p1⟩ => ⟨by rw [← r1.1.length, r1.2]; exact hl, p1.tup at1.hr r1.1⟩⟩
theorem s_lst {es : List Expr} {n : Nat} {ds : Tw.Env → Tw.Hp → Tw.R (List Tw.W)} (hs : PA X es (tA X.K n ds)) (hl : n ≤ sizeLine) :
    PE X (.List es pos) (tE X.K fun ρ h => (ds ρ h).bind fun xs h => Tw.new (.lst xs) h) := by
  refine PE.imp (pe_lst hs) fun σ H Q ⟨ρ, h, ι, at', p⟩ => ?_
  refine ⟨ρ, h, ι, at', (step at' p).mono fun xs H1 ⟨ws, h1, ι1, at1, e1, r1, p1⟩ => ⟨by rw [← r1.1.length, r1.2]; exact hl, p1.lst at1.hr r1.1⟩⟩
/-- an operation of two values -/
theorem two {r : R2} {op : Tw.W → Tw.W → Tw.Hp → Tw.R Tw.W}
    (hr : ∀ (ι : Nat → Addr) (h : Tw.Hp) (H : L2.Hp) (w u : Tw.W) (x y : V) (Q : VK), HR X.K ι h H → RW ι h.length H w x → RW ι h.length H u y → Post X.K RE ι h H (op w u h) Q → r x y H Q) :
    ∀ σ H Q, tE X.K (fun ρ h => (da ρ h).bind fun x h => (db ρ h).bind fun y h => op x y h) σ H Q → tOp r (tE X.K da) (tE X.K db) σ H Q := fun σ H Q ⟨ρ, h, ι, at', p⟩ =>
  ⟨ρ, h, ι, at', (step at' p).mono fun x H1 ⟨w, h1, ι1, at1, e1, r1, p1⟩ => ⟨ρ, h1, ι1, at1, (step at1 p1).mono fun y H2 ⟨u, h2, ι2, at2, e2, r2, p2⟩ =>
    hr ι2 h2 H2 w u x y Q at2.hr (r1.keep (e2.keeps at1.hr)) r2 p2⟩⟩
def rAdd4 (K : PySem.W.Frag) : R2 := fun x y H Q => rI0 (fun i j => .int (i + j)) x y H Q ∨ (∃ i j, x = .str i ∧ y = .str j ∧ i.length + j.length ≤ sizeLine ∧ Q (.str (i ++ j)) H) ∨ rCat x y H Q ∨ rCatT K x y H Q
theorem op_add4 : OpR X (binaryOp .Add) (rAdd4 X.K) := op_add.or (op_add_str.or (op_cat.or op_catT))
theorem str_len (x : Tw.S) : (⟨x.toArray⟩ : Str).length = x.length := by simp [Str.length]
theorem str_app (x y : Tw.S) : (⟨x.toArray⟩ : Str) ++ ⟨y.toArray⟩ = ⟨(x ++ y).toArray⟩ := by
  show Str.append _ _ = _
  simp [Str.append]
theorem add_ok (ι : Nat → Addr) (h : Tw.Hp) (H : L2.Hp) (w u : Tw.W) (x y : V) (Q : VK) (r : HR X.K ι h H) (rx : RW ι h.length H w x) (ry : RW ι h.length H u y) (p : Post X.K RE ι h H (Tw.bin .add w u h) Q) : rAdd4 X.K x y H Q := by
  cases rx with
  | int i =>
    cases ry with
    | int j => exact .inl ⟨i, j, rfl, rfl, p.self r (.int _)⟩
    | _ => exact p.elim
  | str i hi =>
    cases ry with
    | str j hj =>
      have p : Post X.K RE ι h H (if Tw.Op.add = Tw.Op.add ∧ i.length + j.length ≤ Tw.SZ then .ok (.str (i ++ j)) h else .bad) Q := p
      by_cases c : i.length + j.length ≤ Tw.SZ
      · rw [if_pos ⟨rfl, c⟩] at p
        refine .inr (.inl ⟨_, _, rfl, rfl, by rw [str_len, str_len, line_eq]; exact c, ?_⟩)
        rw [str_app]
        exact p.self r (.str _ fun c hc => (List.mem_append.mp hc).elim (hi c) (hj c))
      · rw [if_neg (fun z => c z.2)] at p; exact p.elim
    | _ => exact p.elim
  | @tup aa xs ws ea ra =>
    cases ry with
    | @tup ab ys us eb rb =>
      have p : Post X.K RE ι h H (if Tw.Op.add = Tw.Op.add ∧ ws.isEmpty = false ∧ ws.length + us.length ≤ Tw.SZ then .ok (.tup (ws ++ us)) h else .bad) Q := p
      by_cases c : ws.isEmpty = false ∧ ws.length + us.length ≤ Tw.SZ
      · rw [if_pos ⟨rfl, c⟩] at p
        refine .inr (.inr (.inr ⟨aa, ab, xs, ys, rfl, rfl, SqT.of ea, SqT.of eb, ?_, ?_, ?_⟩))
        · intro z
          subst z
          cases ra
          exact absurd c.1 (by simp)
        · rw [← ra.length, ← rb.length, line_eq]; exact c.2
        · refine ⟨fun z => ?_, fun _ => p.tup r (ra.append rb)⟩
          subst z
          cases rb
          rw [List.append_nil] at p
          exact p.self r (.tup ea ra)
      · rw [if_neg (fun z => c z.2)] at p; exact p.elim
    | _ => exact p.elim
  | @ref i hi =>
    cases ry with
    | @ref j hj =>
      have p : Post X.K RE ι h H (match h[i]?, h[j]? with
        | some (.lst xs), some (.lst ys) => if Tw.Op.add = Tw.Op.add ∧ xs.length + ys.length ≤ Tw.SZ then Tw.new (.lst (xs ++ ys)) h else .bad
        | _, _ => .bad) Q := p
      cases ei : h[i]? with
      | none => rw [ei] at p; exact p.elim
      | some oi =>
        cases ej : h[j]? with
        | none => rw [ei, ej] at p; cases oi <;> exact p.elim
        | some oj =>
          rw [ei, ej] at p
          cases oi with
          | lst ws =>
            cases oj with
            | lst us =>
              dsimp only at p
              by_cases c : ws.length + us.length ≤ Tw.SZ
              · rw [if_pos ⟨rfl, c⟩] at p
                obtain ⟨xs, q1, q2⟩ := r.lst ei
                obtain ⟨ys, q3, q4⟩ := r.lst ej
                refine .inr (.inr (.inl ⟨_, _, xs, ys, rfl, rfl, q1, q3, ?_, ?_⟩))
                · rw [← q2.length, ← q4.length, line_eq]; exact c
                · exact p.lst r (q2.append q4)
              · rw [if_neg (fun z => c z.2)] at p; exact p.elim
            | _ => exact p.elim
          | _ => cases oj <;> exact p.elim
    | _ => exact p.elim
  | _ => cases ry <;> exact p.elim
theorem s_add (ha : PE X a (tE X.K da)) (hb : PE X b (tE X.K db)) : PE X (.BinOp a .Add b pos) (tE X.K fun ρ h => (da ρ h).bind fun x h => (db ρ h).bind fun y h => Tw.bin .add x y h) :=
  PE.imp (pe_op op_add4 ha hb) (two add_ok)
/-- an operation of ints alone -/
theorem ints_ok {op : Tw.Op} {r : R2} (hop : op ≠ .add) (hi : ∀ (i j k : Int) (H : L2.Hp) (Q : VK), Tw.binI op i j = some k → Q (.int k) H → r (.int i) (.int j) H Q)
    (ι : Nat → Addr) (h : Tw.Hp) (H : L2.Hp) (w u : Tw.W) (x y : V) (Q : VK) (hr : HR X.K ι h H) (rx : RW ι h.length H w x) (ry : RW ι h.length H u y) (p : Post X.K RE ι h H (Tw.bin op w u h) Q) : r x y H Q := by
  cases rx with
  | int i =>
    cases ry with
    | int j =>
      have p : Post X.K RE ι h H (Tw.R.of ((Tw.binI op i j).map .int) h) Q := p
      cases e : Tw.binI op i j with
      | none => rw [e] at p; exact p.elim
      | some k => rw [e] at p; exact hi i j k H Q e (Post.self (a := Tw.W.int k) p hr (.int _))
    | _ => exact p.elim
  | str i =>
    cases ry with
    | str j =>
      have p : Post X.K RE ι h H (if op = Tw.Op.add ∧ i.length + j.length ≤ Tw.SZ then .ok (.str (i ++ j)) h else .bad) Q := p
      rw [if_neg (fun z => hop z.1)] at p; exact p.elim
    | _ => exact p.elim
  | @tup aa xs ws ea ra =>
    cases ry with
    | @tup ab ys us eb rb =>
      have p : Post X.K RE ι h H (if op = Tw.Op.add ∧ ws.isEmpty = false ∧ ws.length + us.length ≤ Tw.SZ then .ok (.tup (ws ++ us)) h else .bad) Q := p
      rw [if_neg (fun z => hop z.1)] at p; exact p.elim
    | _ => exact p.elim
  | @ref i hi =>
    cases ry with
    | @ref j hj =>
      have p : Post X.K RE ι h H (match h[i]?, h[j]? with
        | some (.lst xs), some (.lst ys) => if op = Tw.Op.add ∧ xs.length + ys.length ≤ Tw.SZ then Tw.new (.lst (xs ++ ys)) h else .bad
        | _, _ => .bad) Q := p
      exfalso
      split at p
      · rw [if_neg (fun z => hop z.1)] at p; exact p
      · exact p
    | _ => exact p.elim
  | _ => cases ry <;> exact p.elim
theorem s_sub (ha : PE X a (tE X.K da)) (hb : PE X b (tE X.K db)) : PE X (.BinOp a .Sub b pos) (tE X.K fun ρ h => (da ρ h).bind fun x h => (db ρ h).bind fun y h => Tw.bin .sub x y h) :=
  PE.imp (pe_op op_sub ha hb) (two (ints_ok (by decide) fun i j k H Q e q => by cases e; exact ⟨i, j, rfl, rfl, q⟩))
theorem s_mul (ha : PE X a (tE X.K da)) (hb : PE X b (tE X.K db)) : PE X (.BinOp a .Mult b pos) (tE X.K fun ρ h => (da ρ h).bind fun x h => (db ρ h).bind fun y h => Tw.bin .mul x y h) :=
  PE.imp (pe_op op_mul ha hb) (two (ints_ok (by decide) fun i j k H Q e q => by
    have e : (if (Tw.small i || Tw.small j) = true then some (i * j) else none) = some k := e
    by_cases c : (Tw.small i || Tw.small j) = true
    · rw [if_pos c] at e
      cases e
      refine ⟨i, j, rfl, rfl, ?_, q⟩
      simp only [Tw.small, Bool.or_eq_true, Bool.and_eq_true, decide_eq_true_eq] at c
      exact c
    · rw [if_neg c] at e; cases e))
theorem s_fdiv (ha : PE X a (tE X.K da)) (hb : PE X b (tE X.K db)) : PE X (.BinOp a .FloorDiv b pos) (tE X.K fun ρ h => (da ρ h).bind fun x h => (db ρ h).bind fun y h => Tw.bin .fdiv x y h) :=
  PE.imp (pe_op op_fdiv ha hb) (two (ints_ok (by decide) fun i j k H Q e q => by
    have e : (if 0 < j ∧ j < 1073741824 then some (i / j) else none) = some k := e
    by_cases c : 0 < j ∧ j < 1073741824
    · rw [if_pos c] at e; cases e; exact ⟨i, j, rfl, rfl, c, q⟩
    · rw [if_neg c] at e; cases e))
theorem s_mod (ha : PE X a (tE X.K da)) (hb : PE X b (tE X.K db)) : PE X (.BinOp a .Mod b pos) (tE X.K fun ρ h => (da ρ h).bind fun x h => (db ρ h).bind fun y h => Tw.bin .mod x y h) :=
  PE.imp (pe_op op_mod ha hb) (two (ints_ok (by decide) fun i j k H Q e q => by
    have e : (if 0 < j then some (i % j) else none) = some k := e
    by_cases c : 0 < j
    · rw [if_pos c] at e; cases e; exact ⟨i, j, rfl, rfl, c, q⟩
    · rw [if_neg c] at e; cases e))
theorem s_pow (ha : PE X a (tE X.K da)) (hb : PE X b (tE X.K db)) : PE X (.BinOp a .Pow b pos) (tE X.K fun ρ h => (da ρ h).bind fun x h => (db ρ h).bind fun y h => Tw.bin .pow x y h) :=
  PE.imp (pe_op op_pow ha hb) (two (ints_ok (by decide) fun i j k H Q e q => by
    have e : (if 0 ≤ j ∧ j ≤ 1000000 ∧ i.natAbs < 2 ^ 64 then some (i ^ j.toNat) else none) = some k := e
    by_cases c : 0 ≤ j ∧ j ≤ 1000000 ∧ i.natAbs < 2 ^ 64
    · rw [if_pos c] at e; cases e; exact ⟨i, j, rfl, rfl, c, q⟩
    · rw [if_neg c] at e; cases e))
end
end TwS

set_option Elab.async false
set_option linter.all false
set_option maxRecDepth 100000
set_option maxHeartbeats 1000000
namespace TwS
open PySem L2 PyProof.Rows
mutual
def toD : Tw.W → PyData
  | .non => .none
  | .bl b => .bool b
  | .int i => .int i
  | .str x => .str ⟨x.toArray⟩
  | .tup xs => .tuple (toDs xs)
  | .lst xs => .list (toDs xs)
  | .ref _ => .none
def toDs : List Tw.W → List PyData
  | [] => []
  | x :: xs => toD x :: toDs xs
end
mutual
/-- no reference -/
def nr : Tw.W → Bool
  | .tup xs => nrs xs
  | .lst xs => nrs xs
  | .ref _ => false
  | _ => true
def nrs : List Tw.W → Bool
  | [] => true
  | x :: xs => nr x && nrs xs
end
theorem str_beq' (a b : Tw.S) : ((⟨a.toArray⟩ : Str) == ⟨b.toArray⟩) = decide (a = b) := by
  rw [Bool.beq_eq_decide_eq]
  by_cases e : a = b
  · subst e; simp
  · rw [decide_eq_false e]
    refine decide_eq_false fun z => e ?_
    injection z with z
    simpa using congrArg Array.toList z
mutual
theorem eqW_eqv : ∀ (a b : Tw.W), nr a = true → nr b = true → Tw.eqW a b = PyData.eqv (toD a) (toD b)
  | .non, b, ha, hb => by cases b <;> simp_all [nr, toD, PyData.eqv, Tw.eqW.eq_def]
  | .bl x, b, ha, hb => by cases b <;> simp_all [nr, toD, PyData.eqv, Tw.eqW.eq_def, Bool.beq_eq_decide_eq]
  | .int x, b, ha, hb => by cases b <;> simp_all [nr, toD, PyData.eqv, Tw.eqW.eq_def, Bool.beq_eq_decide_eq]
  | .str x, b, ha, hb => by
    cases b with
    | str y => rw [Tw.eqW_str_str, toD, toD, PyData.eqv, str_beq']
    | _ => simp_all [nr, toD, PyData.eqv, Tw.eqW.eq_def]
  | .ref x, b, ha, hb => by simp [nr] at ha
  | .tup xs, b, ha, hb => by
    cases b with
    | tup ys => rw [Tw.eqW_tup_tup, toD, toD, PyData.eqv]; exact eqWs_eqv xs ys (by simpa [nr] using ha) (by simpa [nr] using hb)
    | _ => simp_all [nr, toD, PyData.eqv, Tw.eqW.eq_def]
  | .lst xs, b, ha, hb => by
    cases b with
    | lst ys => rw [Tw.eqW_lst_lst, toD, toD, PyData.eqv]; exact eqWs_eqv xs ys (by simpa [nr] using ha) (by simpa [nr] using hb)
    | _ => simp_all [nr, toD, PyData.eqv, Tw.eqW.eq_def]
theorem eqWs_eqv : ∀ (a b : List Tw.W), nrs a = true → nrs b = true → Tw.eqWs a b = PyData.eqvAll (toDs a) (toDs b)
  | [], [], _, _ => by simp [toDs, PyData.eqvAll]
  | [], _ :: _, _, _ => by simp [toDs, PyData.eqvAll]
  | _ :: _, [], _, _ => by simp [toDs, PyData.eqvAll]
  | x :: xs, y :: ys, ha, hb => by
    simp only [nrs, Bool.and_eq_true] at ha hb
    simp only [Tw.eqWs, toDs, PyData.eqvAll, eqW_eqv x y ha.1 hb.1, eqWs_eqv xs ys ha.2 hb.2]
end
theorem strOk_of {x : Tw.S} (h : okS x) : PySem.PyData.canLay0 (.str ⟨x.toArray⟩) = true := by
  rw [PyData.canLay0]
  simp only [PyData.strOk]
  simp
  exact h
section
variable {X : Cx} {pins : List (Addr × Obj)} {σ : L2.St} {s : Shared} {ι : Nat → Addr} {h : Tw.Hp} {H : L2.Hp}
/-- what is wanted of a value's data -/
structure Dat (s : Shared) (k : Nat) (d : Tw.W) (u : Value) : Prop where
  ex : ∃ as, Reads s.heap u (toD d) as
  lay : (toD d).canLay0 = true
  deep : (toD d).depth ≤ k
  nr : nr d = true
theorem rds_of {k : Nat} (P : ∀ (w d : Tw.W) (v : V) (u : Value), Tw.rd h k w = some d → RW ι h.length H w v → RelV v u → Dat s k d u) :
    ∀ (ws ds : List Tw.W) (vs : List V) (us : List Value), Tw.rds h k ws = some ds → RWs ι h.length H ws vs → Vals vs us →
      (∃ as, ReadsAll s.heap us (toDs ds) as) ∧ PyData.canLayAll0 (toDs ds) = true ∧ PyData.depthAll (toDs ds) ≤ k ∧ nrs ds = true
  | [], ds, _, _, e, .nil, .nil => by
    simp at e; subst e
    exact ⟨⟨[], .nil⟩, by simp [toDs, PyData.canLayAll0], by simp [toDs, PyData.depthAll], by simp [nrs]⟩
  | w :: ws, ds, _, _, e, .cons rw' rws, .cons rv rvs => by
    rw [Tw.rds] at e
    cases e1 : Tw.rd h k w with
    | none => rw [e1] at e; cases e
    | some d =>
      cases e2 : Tw.rds h k ws with
      | none => rw [e1, e2] at e; cases e
      | some ds' =>
        rw [e1, e2] at e
        cases e
        obtain ⟨⟨as, h1⟩, h2, h3, h4⟩ := P w d _ _ e1 rw' rv
        obtain ⟨⟨bs, g1⟩, g2, g3, g4⟩ := rds_of P ws ds' _ _ e2 rws rvs
        exact ⟨⟨as ++ bs, by rw [toDs]; exact .cons h1 g1⟩, by simp [toDs, PyData.canLayAll0, h2, g2], by simp only [toDs, PyData.depthAll]; omega, by simp [nrs, h4, g4]⟩
theorem rd_of (I : Inv X pins σ H s) (r : HR X.K ι h H) : ∀ (k : Nat) (w d : Tw.W) (v : V) (u : Value), Tw.rd h k w = some d → RW ι h.length H w v → RelV v u → Dat s k d u := by
  have flat : ∀ (k : Nat) (w d : Tw.W) (v : V) (u : Value), Tw.rd h k w = some d → RW ι h.length H w v → RelV v u → (∀ ws, w ≠ .tup ws) → (∀ a, w ≠ .ref a) → Dat s k d u := by
    intro k w d v u e rw' rv n1 n2
    cases rw' with
    | non => simp at e; subst e; cases rv; exact ⟨⟨[], .none⟩, by simp [toD, PyData.canLay0], by simp [toD, PyData.depth], by simp [nr]⟩
    | bl b => simp at e; subst e; cases rv; exact ⟨⟨[], .bool b⟩, by simp [toD, PyData.canLay0], by simp [toD, PyData.depth], by simp [nr]⟩
    | int i => simp at e; subst e; obtain ⟨t, rfl⟩ := rv; exact ⟨⟨[], .int i t⟩, by simp [toD, PyData.canLay0], by simp [toD, PyData.depth], by simp [nr]⟩
    | str x hx => simp at e; subst e; obtain ⟨t, rfl⟩ := rv; exact ⟨⟨[], by rw [toD]; exact .str _ t⟩, by rw [toD]; exact strOk_of hx, by simp [toD, PyData.depth], by simp [nr]⟩
    | tup _ _ => exact absurd rfl (n1 _)
    | ref _ => exact absurd rfl (n2 _)
  intro k
  induction k with
  | zero =>
    intro w d v u e rw' rv
    cases w with
    | tup ws => simp at e
    | ref a => simp at e
    | _ => exact flat _ _ _ _ _ e rw' rv (fun _ z => nomatch z) (fun _ z => nomatch z)
  | succ k ih =>
    intro w d v u e rw' rv
    cases w with
    | tup ws =>
      rw [Tw.rd] at e
      cases e2 : Tw.rds h k ws with
      | none => rw [e2] at e; cases e
      | some ds =>
        rw [e2] at e
        cases e
        cases rw' with
        | @tup a xs _ ea ra =>
          cases rv
          obtain ⟨its, r1, it, _⟩ := I.tuple (SqT.of ea)
          obtain ⟨⟨as, g1⟩, g2, g3, g4⟩ := rds_of ih ws ds _ _ e2 ra r1
          obtain ⟨o, h1, h2, n, h3⟩ := it
          exact ⟨⟨as, by rw [toD]; exact .tuple h1 h2 h3 (by simpa using g1)⟩, by rw [toD, PyData.canLay0]; exact g2, by rw [toD, PyData.depth]; omega, by rw [nr]; exact g4⟩
    | ref i =>
      cases rw' with
      | ref hi =>
        cases rv
        have e : (match h[i]? with
          | some (.lst xs) => (Tw.rds h k xs).map Tw.W.lst
          | some (.frz xs) => (Tw.rds h k xs).map Tw.W.lst
          | _ => none) = some d := by rw [Tw.rd] at e; exact e
        have fin : ∀ (ws : List Tw.W) (xs : List V), (Tw.rds h k ws).map Tw.W.lst = some d → SqL X.K H (ι i) xs → RWs ι h.length H ws xs → Dat s (k + 1) d (.ref (ι i)) := by
          intro ws xs e sq rws
          cases e2 : Tw.rds h k ws with
          | none => rw [e2] at e; cases e
          | some ds =>
            rw [e2] at e
            cases e
            obtain ⟨its, r1, ⟨o, n, h1, h2, _, h3⟩, _⟩ := I.list sq
            obtain ⟨⟨as, g1⟩, g2, g3, g4⟩ := rds_of ih ws ds _ _ e2 rws r1
            exact ⟨⟨_, by rw [toD]; exact .list h1 h2 h3 (by simpa using g1)⟩, by rw [toD, PyData.canLay0]; exact g2, by rw [toD, PyData.depth]; omega, by rw [nr]; exact g4⟩
        cases ei : h[i]? with
        | none => rw [ei] at e; cases e
        | some o =>
          rw [ei] at e
          cases o with
          | lst ws => obtain ⟨xs, q1, q2⟩ := r.obj i _ ei; exact fin ws xs e (SqL.of q1) q2
          | frz ws => obtain ⟨xs, q1, q2⟩ := r.obj i _ ei; exact fin ws xs e q1.sq q2
          | dic _ => cases e
          | ins _ _ => cases e
    | lst _ => simp [Tw.rd] at e
    | _ => exact flat _ _ _ _ _ e rw' rv (fun _ z => nomatch z) (fun _ z => nomatch z)
end
end TwS

set_option Elab.async false
set_option linter.all false
set_option maxRecDepth 100000
set_option maxHeartbeats 1000000
namespace TwS
open PySem L2 PyProof.Rows
section
variable {ι : Nat → Addr} {n : Nat} {H : L2.Hp}
theorem key_eq {j k : Tw.W} {p q : Key} (a : RW ι n H j (kV p)) (b : RW ι n H k (kV q)) : Tw.keyEq j k = decide (p = q) := by
  cases p with
  | inl i =>
    cases a
    cases q with
    | inl i' => cases b; rw [key_ll]; rfl
    | inr y => cases b; rw [key_lr]; rfl
  | inr x =>
    cases a
    cases q with
    | inl i' => cases b; rw [key_rl]; rfl
    | inr y =>
      cases b with
      | str y' hy =>
        rename_i x' hx
        rw [key_rr]
        have t := str_beq' x' y'
        rw [Bool.beq_eq_decide_eq] at t
        rw [t]
        show (x' == y') = _
        rw [Bool.beq_eq_decide_eq]
theorem key_of' {k : Tw.W} {v : V} (a : RW ι n H k v) (h : Tw.isKey k = true) : ∃ q, v = kV q := by
  cases a with
  | int i => exact ⟨.inl i, rfl⟩
  | str x hx => exact ⟨.inr _, rfl⟩
  | _ => cases h
theorem RD.get {k : Tw.W} {q : Key} (b : RW ι n H k (kV q)) : ∀ {kvs : List (Tw.W × Tw.W)} {xs : List (Key × V)}, RD ι n H kvs xs →
    (Tw.dget k kvs = none ∧ valV xs q = none) ∨ ∃ w v, Tw.dget k kvs = some w ∧ valV xs q = some v ∧ RW ι n H w v
  | _, _, .nil => .inl ⟨rfl, rfl⟩
  | _, _, .cons (k := j) (q := p) (w := w) (v := v) _ a c r => by
    have e := key_eq a b
    rw [Tw.dget, e]
    by_cases z : p = q
    · rw [valV_pos z, decide_eq_true z]
      exact .inr ⟨w, v, rfl, rfl, c⟩
    · rw [valV_neg z, decide_eq_false z]
      exact RD.get b r
theorem mem_put {q p : Key} {v : V} : ∀ {xs : List (Key × V)}, p ∈ (putK xs q v).map (·.1) → p = q ∨ p ∈ xs.map (·.1) := by
  intro xs hp
  unfold putK at hp
  split at hp
  · rw [List.map_map] at hp
    refine .inr ?_
    obtain ⟨kv, h1, h2⟩ := List.mem_map.mp hp
    refine List.mem_map.mpr ⟨kv, h1, ?_⟩
    rw [← h2]
    simp only [Function.comp]
    split <;> rfl
  · rw [List.map_append, List.mem_append] at hp
    rcases hp with hp | hp
    · exact .inr hp
    · simp at hp; exact .inl hp
theorem RD.put {k w : Tw.W} {q : Key} {v : V} (b : RW ι n H k (kV q)) (c : RW ι n H w v) : ∀ {kvs : List (Tw.W × Tw.W)} {xs : List (Key × V)}, RD ι n H kvs xs → RD ι n H (Tw.dput k w kvs) (putK xs q v)
  | _, _, .nil => .cons (by simp) b c .nil
  | _, _, .cons (k := j) (q := p) (w := w') (v := v') (kvs := kvs) (xs := xs) m a d r => by
    have e := key_eq a b
    rw [Tw.dput, e]
    by_cases z : p = q
    · subst z
      rw [decide_eq_true rfl]
      have t : putK ((p, v') :: xs) p v = (p, v) :: xs := by
        have hm : ∀ l : List (Key × V), p ∉ l.map (·.1) → l.map (fun kv => if kv.1 = p then (kv.1, v) else kv) = l := by
          intro l
          induction l with
          | nil => intro _; rfl
          | cons x l ih =>
            intro hx
            simp only [List.map_cons, List.mem_cons, not_or] at hx
            rw [List.map_cons, ih hx.2, if_neg (fun z => hx.1 z.symm)]
        unfold putK
        simp only [List.any_cons, decide_true, Bool.true_or, if_true, List.map_cons]
        rw [hm xs m]
      rw [t]
      exact .cons m a c r
    · rw [decide_eq_false z]
      have t : putK ((p, v') :: xs) q v = (p, v') :: putK xs q v := by
        unfold putK
        simp only [List.any_cons, z, decide_false, Bool.false_or, List.map_cons, if_false]
        split <;> rfl
      rw [t]
      refine .cons (fun hp => ?_) a d (RD.put b c r)
      rcases mem_put hp with hp | hp
      · exact z hp
      · exact m hp
end
section
variable {X : Cx} {pins : List (Addr × Obj)} {σ : L2.St} {s : Shared} {ι : Nat → Addr} {h : Tw.Hp} {H : L2.Hp} {A : Around}
theorem eq_at (I : Inv X pins σ H s) (r : HR X.K ι h H) {k : Nat} {w u a b : Tw.W} {x y : V} {v v' : Value} (e1 : Tw.rd h k w = some a) (e2 : Tw.rd h k u = some b) (rx : RW ι h.length H w x) (ry : RW ι h.length H u y)
    (rv : RelV x v) (rv' : RelV y v') (hu : A.units + k < cLine) : SeqAt.EqAt A s v v' (Tw.eqW a b) := by
  obtain ⟨⟨as, h1⟩, h2, h3, h4⟩ := rd_of I r k w a x v e1 rx rv
  obtain ⟨⟨bs, g1⟩, g2, g3, g4⟩ := rd_of I r k u b y v' e2 ry rv'
  rw [eqW_eqv a b h4 g4]
  exact SeqAt.eqAt_reads _ _ A s v v' as bs h1 g1 h2 g2 (by have := Nat.min_le_left (toD a).depth (toD b).depth; omega)
theorem isDic_some {w : Tw.W} {kvs : List (Tw.W × Tw.W)} (e : Tw.isDic h w = some kvs) : ∃ i, w = .ref i ∧ h[i]? = some (.dic kvs) := by
  unfold Tw.isDic at e
  split at e
  · next a =>
    split at e
    · next q => cases e; exact ⟨_, rfl, q⟩
    · cases e
  · cases e
/-- the pairs of one dict in the other -/
theorem hits_of (I : Inv X pins σ H s) (r : HR X.K ι h H) (hu : A.units + 40 < cLine) {ys : List (Tw.W × Tw.W)} {ys' : List (Key × V)} {yv : List (Key × Value)} (ry : RD ι h.length H ys ys') (kv : KV ys' yv) :
    ∀ {xs : List (Tw.W × Tw.W)} {xs' : List (Key × V)} {xv : List (Key × Value)} {b : Bool}, RD ι h.length H xs xs' → KV xs' xv → Tw.dsub h ys xs = some b → PySem.W.KeqHits A s yv xv b
  | _, _, _, b, .nil, k2, e => by
    unfold KV at k2
    cases k2
    cases e
    exact .nil
  | _, _, _, b, .cons (k := j) (q := p) (w := w) (v := v) _ a c rr, k2, e => by
    unfold KV at k2
    cases k2 with
    | @cons _ pq _ qs hpq k2 =>
      obtain ⟨p', u⟩ := pq
      obtain ⟨rfl, ru⟩ := hpq
      have val := kv.val p
      rw [Tw.dsub] at e
      rcases ry.get a with ⟨g1, g2⟩ | ⟨w2, v2, g1, g2, g3⟩
      · rw [g1] at e
        cases e
        rw [g2] at val
        exact .miss (RelO.none_of val)
      · rw [g1] at e
        dsimp only at e
        rw [g2] at val
        obtain ⟨u2, e2, r2⟩ := RelO.some_of val
        cases e3 : Tw.rd h 40 w with
        | none => rw [e3] at e; cases e
        | some d1 =>
          cases e4 : Tw.rd h 40 w2 with
          | none => rw [e3, e4] at e; cases e
          | some d2 =>
            cases e5 : Tw.dsub h ys _ with
            | none => rw [e3, e4, e5] at e; cases e
            | some c' =>
              rw [e3, e4, e5] at e
              cases e
              exact .hit e2 (eq_at I r e3 e4 c g3 ru r2 hu) (hits_of I r hu ry kv rr k2 e5)
end
/-- == by our values -/
def rEqW (K : PySem.W.Frag) (neg : Bool) : R2 := fun x y H Q => ∃ (ι : Nat → Addr) (h : Tw.Hp) (w u : Tw.W) (b : Bool), HR K ι h H ∧ RW ι h.length H w x ∧ RW ι h.length H u y ∧ Tw.eqV h w u = some b ∧ Q (.bl (if neg then !b else b)) H
section
variable {X : Cx}
theorem op_eqW (hu : X.A.units + 100 < cLine) : OpR X (compareOp .Eq) (rEqW X.K false) := by
  intro pins s σ H x y v u Q I rx ry ⟨ι, h, w, z, b, r, rw', rz, e, q⟩
  unfold Tw.eqV at e
  cases e1 : Tw.isDic h w with
  | none =>
    cases e2 : Tw.isDic h z with
    | some _ => rw [e1, e2] at e; cases e
    | none =>
      rw [e1, e2] at e
      cases e3 : Tw.rd h 60 w with
      | none => rw [e3] at e; cases e
      | some a =>
        cases e4 : Tw.rd h 60 z with
        | none => rw [e3, e4] at e; cases e
        | some c =>
          rw [e3, e4] at e
          cases e
          obtain ⟨⟨as, h1⟩, h2, h3, h4⟩ := rd_of I r 60 w a x v e3 rw' rx
          obtain ⟨⟨bs, g1⟩, g2, g3, g4⟩ := rd_of I r 60 z c y u e4 rz ry
          refine SeqAt.compareEq_reads h1 g1 h2 g2 (by have := Nat.min_le_left (toD a).depth (toD c).depth; omega) ?_
          rw [← eqW_eqv a c h4 g4]
          exact ⟨.bl _, H, I, rfl, q⟩
  | some xs =>
    cases e2 : Tw.isDic h z with
    | none => rw [e1, e2] at e; cases e
    | some ys =>
      rw [e1, e2] at e
      obtain ⟨i, rfl, ei⟩ := isDic_some e1
      obtain ⟨j, rfl, ej⟩ := isDic_some e2
      cases rw'
      cases rz
      cases rx
      cases ry
      obtain ⟨xs', q1, q2⟩ := r.dic ei
      obtain ⟨ys', q3, q4⟩ := r.dic ej
      obtain ⟨z1, s1, xv, k1, d1⟩ := dk_of I.hok q1
      obtain ⟨z2, s2, yv, k2, d2⟩ := dk_of I.hok q3
      have l1 : xs.length = xv.length := q2.length.trans k1.length
      have l2 : ys.length = yv.length := q4.length.trans k2.length
      have e : (if xs.length = ys.length then Tw.dsub h ys xs else some false) = some b := e
      by_cases c : xs.length = ys.length
      · rw [if_pos c] at e
        refine PySem.W.keq_eq (r := b) s1 s2 d1 d2 (by omega) (fun _ => hits_of I r (by show X.A.units + 1 + 40 < cLine; omega) q4 k2 q2 k1 e) ?_
        rw [show (xv.length == yv.length) = true by rw [← l1, ← l2, c]; simp, Bool.true_and]
        exact ⟨.bl b, H, I, rfl, q⟩
      · rw [if_neg c] at e
        cases e
        refine PySem.W.keq_eq (r := true) s1 s2 d1 d2 (by omega) (fun z => absurd (by omega) c) ?_
        rw [show (xv.length == yv.length) = false by rw [← l1, ← l2]; simpa using c, Bool.false_and]
        exact ⟨.bl false, H, I, rfl, q⟩
theorem op_neW (hu : X.A.units + 100 < cLine) : OpR X (compareOp .NotEq) (rEqW X.K true) := by
  intro pins s σ H x y v u Q I rx ry ⟨ι, h, w, z, b, r, rw', rz, e, q⟩
  unfold Tw.eqV at e
  cases e1 : Tw.isDic h w with
  | none =>
    cases e2 : Tw.isDic h z with
    | some _ => rw [e1, e2] at e; cases e
    | none =>
      rw [e1, e2] at e
      cases e3 : Tw.rd h 60 w with
      | none => rw [e3] at e; cases e
      | some a =>
        cases e4 : Tw.rd h 60 z with
        | none => rw [e3, e4] at e; cases e
        | some c =>
          rw [e3, e4] at e
          cases e
          obtain ⟨⟨as, h1⟩, h2, h3, h4⟩ := rd_of I r 60 w a x v e3 rw' rx
          obtain ⟨⟨bs, g1⟩, g2, g3, g4⟩ := rd_of I r 60 z c y u e4 rz ry
          refine SeqAt.compareNe_reads h1 g1 h2 g2 (by have := Nat.min_le_left (toD a).depth (toD c).depth; omega) ?_
          rw [← eqW_eqv a c h4 g4]
          exact ⟨.bl _, H, I, rfl, q⟩
  | some xs =>
    cases e2 : Tw.isDic h z with
    | none => rw [e1, e2] at e; cases e
    | some ys =>
      rw [e1, e2] at e
      obtain ⟨i, rfl, ei⟩ := isDic_some e1
      obtain ⟨j, rfl, ej⟩ := isDic_some e2
      cases rw'
      cases rz
      cases rx
      cases ry
      obtain ⟨xs', q1, q2⟩ := r.dic ei
      obtain ⟨ys', q3, q4⟩ := r.dic ej
      obtain ⟨z1, s1, xv, k1, d1⟩ := dk_of I.hok q1
      obtain ⟨z2, s2, yv, k2, d2⟩ := dk_of I.hok q3
      have l1 : xs.length = xv.length := q2.length.trans k1.length
      have l2 : ys.length = yv.length := q4.length.trans k2.length
      have e : (if xs.length = ys.length then Tw.dsub h ys xs else some false) = some b := e
      by_cases c : xs.length = ys.length
      · rw [if_pos c] at e
        refine PySem.W.keq_ne (r := b) s1 s2 d1 d2 (by omega) (fun _ => hits_of I r (by show X.A.units + 1 + 40 < cLine; omega) q4 k2 q2 k1 e) ?_
        rw [show (xv.length == yv.length) = true by rw [← l1, ← l2, c]; simp, Bool.true_and]
        exact ⟨.bl (!b), H, I, rfl, q⟩
      · rw [if_neg c] at e
        cases e
        refine PySem.W.keq_ne (r := true) s1 s2 d1 d2 (by omega) (fun z => absurd (by omega) c) ?_
        rw [show (xv.length == yv.length) = false by rw [← l1, ← l2]; simpa using c, Bool.false_and]
        exact ⟨.bl (!false), H, I, rfl, q⟩
end
end TwS

set_option Elab.async false
set_option linter.all false
set_option maxRecDepth 100000
set_option maxHeartbeats 1000000
namespace TwS
open PySem L2 PyProof.Rows
/-- the test of an expression -/
def dT (d : Tw.Env → Tw.Hp → Tw.R Tw.W) : Tw.Env → Tw.Hp → Tw.R Bool := fun ρ h => (d ρ h).bind fun w h => Tw.R.of (Tw.truth h w) h
abbrev tT (K : PySem.W.Frag) (d : Tw.Env → Tw.Hp → Tw.R Tw.W) : TT := tG K RB (dT d)
theorem bind_assoc {α β γ : Type} (m : Tw.R α) (k : α → Tw.Hp → Tw.R β) (l : β → Tw.Hp → Tw.R γ) : (m.bind k).bind l = m.bind fun a h => (k a h).bind l := by
  cases m <;> rfl
section
variable {X : Cx} {a b c : Expr} {pos : Pos} {da db dc : Tw.Env → Tw.Hp → Tw.R Tw.W}
theorem s_cmpG {op : Tw.Cp} {o : CmpOp} {r : R2} (ho : OpR X (compareOp o) r)
    (hr : ∀ (ι : Nat → Addr) (h : Tw.Hp) (H : L2.Hp) (w u : Tw.W) (x y : V) (k : Bool) (Q : VK), HR X.K ι h H → RW ι h.length H w x → RW ι h.length H u y → Tw.cmp op w u h = some k → Q (.bl k) H → r x y H Q)
    (ha : PE X a (tE X.K da)) (hb : PE X b (tE X.K db)) (hm : behindInMarks o b = false) :
    PE X (.Compare a [o] [b] pos) (tE X.K fun ρ h => (da ρ h).bind fun x h => (db ρ h).bind fun y h => Tw.R.of ((Tw.cmp op x y h).map .bl) h) ∧
    PT X (.Compare a [o] [b] pos) (tT X.K fun ρ h => (da ρ h).bind fun x h => (db ρ h).bind fun y h => Tw.R.of ((Tw.cmp op x y h).map .bl) h) := by
  constructor
  · refine PE.imp (pe_cmpR ho ha hb hm) (two fun ι h H w u x y Q hR rx ry p => ?_)
    cases e : Tw.cmp op w u h with
    | none => rw [e] at p; exact p.elim
    | some k => rw [e] at p; exact hr ι h H w u x y k Q hR rx ry e (Post.self (a := Tw.W.bl k) p hR (.bl k))
  · refine PT.imp (pt_cmpR ho ha hb hm) fun σ H Q ⟨ρ, h, ι, at', p⟩ => ?_
    simp only [dT, bind_assoc] at p
    refine ⟨ρ, h, ι, at', (step at' p).mono fun x H1 ⟨w, h1, ι1, at1, e1, r1, p1⟩ => ⟨ρ, h1, ι1, at1, (step at1 p1).mono fun y H2 ⟨u, h2, ι2, at2, e2, r2, p2⟩ => ?_⟩⟩
    cases e : Tw.cmp op w u h2 with
    | none => rw [e] at p2; exact p2.elim
    | some k => rw [e] at p2; exact hr ι2 h2 H2 w u x y k _ at2.hr (r1.keep (e2.keeps at1.hr)) r2 e ⟨k, rfl, Post.self (a := k) p2 at2.hr rfl⟩
theorem c_eq (ι : Nat → Addr) (h : Tw.Hp) (H : L2.Hp) (w u : Tw.W) (x y : V) (k : Bool) (Q : VK) (r : HR X.K ι h H) (rx : RW ι h.length H w x) (ry : RW ι h.length H u y) (e : Tw.cmp .eq w u h = some k) (q : Q (.bl k) H) : rEqW X.K false x y H Q :=
  ⟨ι, h, w, u, k, r, rx, ry, e, q⟩
theorem c_ne (ι : Nat → Addr) (h : Tw.Hp) (H : L2.Hp) (w u : Tw.W) (x y : V) (k : Bool) (Q : VK) (r : HR X.K ι h H) (rx : RW ι h.length H w x) (ry : RW ι h.length H u y) (e : Tw.cmp .ne w u h = some k) (q : Q (.bl k) H) : rEqW X.K true x y H Q := by
  have e : (Tw.eqV h w u).map (!·) = some k := e
  cases e2 : Tw.eqV h w u with
  | none => rw [e2] at e; cases e
  | some b => rw [e2] at e; cases e; exact ⟨ι, h, w, u, b, r, rx, ry, e2, q⟩
theorem c_int {op : Tw.Cp} {f : Int → Int → Bool} (hf : ∀ w u h, Tw.cmp op w u h = match w, u with | .int i, .int j => some (f i j) | _, _ => none)
    (ι : Nat → Addr) (h : Tw.Hp) (H : L2.Hp) (w u : Tw.W) (x y : V) (k : Bool) (Q : VK) (r : HR X.K ι h H) (rx : RW ι h.length H w x) (ry : RW ι h.length H u y) (e : Tw.cmp op w u h = some k) (q : Q (.bl k) H) : rI0 (fun i j => .bl (f i j)) x y H Q := by
  rw [hf] at e
  cases rx with
  | int i =>
    cases ry with
    | int j => cases e; exact ⟨i, j, rfl, rfl, q⟩
    | _ => cases e
  | _ => cases ry <;> cases e
theorem c_isN (ι : Nat → Addr) (h : Tw.Hp) (H : L2.Hp) (w u : Tw.W) (x y : V) (k : Bool) (Q : VK) (r : HR X.K ι h H) (rx : RW ι h.length H w x) (ry : RW ι h.length H u y) (e : Tw.cmp .isN w u h = some k) (q : Q (.bl k) H) :
    y = .non ∧ Q (.bl (decide (x = .non))) H := by
  cases ry with
  | non => cases rx <;> (cases e; exact ⟨rfl, q⟩)
  | _ => cases e
theorem c_notN (ι : Nat → Addr) (h : Tw.Hp) (H : L2.Hp) (w u : Tw.W) (x y : V) (k : Bool) (Q : VK) (r : HR X.K ι h H) (rx : RW ι h.length H w x) (ry : RW ι h.length H u y) (e : Tw.cmp .notN w u h = some k) (q : Q (.bl k) H) :
    y = .non ∧ Q (.bl (!decide (x = .non))) H := by
  cases ry with
  | non => cases rx <;> (cases e; exact ⟨rfl, q⟩)
  | _ => cases e
def rInW (K : PySem.W.Frag) (neg : Bool) : R2 := fun x y H Q => rIn K neg x y H Q ∨ ∃ a o, y = .ref a ∧ DGet H a x o ∧ Q (.bl (if neg then !o.isSome else o.isSome)) H
theorem op_inW (hu : X.A.units + 1 < cLine) : OpR X (compareOp .In) (rInW X.K false) := by
  refine OpR.or op_in_seq ?_
  intro pins s σ H x y v u Q I rx ry ⟨a, o, ey, g, q⟩
  subst ey
  cases ry
  exact d_in hu I g rx fun s' I' => ⟨.bl o.isSome, H, I', rfl, q⟩
theorem op_notInW (hu : X.A.units + 1 < cLine) : OpR X (compareOp .NotIn) (rInW X.K true) := by
  refine OpR.or op_notIn_seq ?_
  intro pins s σ H x y v u Q I rx ry ⟨a, o, ey, g, q⟩
  subst ey
  cases ry
  exact d_notIn hu I g rx fun s' I' => ⟨.bl (!o.isSome), H, I', rfl, q⟩
section
variable {ι : Nat → Addr} {n : Nat} {H : L2.Hp}
theorem flat_of {w : Tw.W} {x : V} (r : RW ι n H w x) (h : Tw.flat w = true) : flatV x = true := by
  cases r <;> first | rfl | exact absurd h Bool.false_ne_true
theorem flats_of : ∀ {ws : List Tw.W} {xs : List V}, RWs ι n H ws xs → ws.all Tw.flat = true → xs.all flatV = true
  | _, _, .nil, _ => rfl
  | _, _, .cons a r, h => by
    rw [List.all_cons, Bool.and_eq_true] at h
    rw [List.all_cons, flat_of a h.1, flats_of r h.2]; rfl
theorem eqV_of {w u : Tw.W} {x y : V} (r : RW ι n H w x) (q : RW ι n H u y) (f : Tw.flat w = true) (g : Tw.flat u = true) : L2.eqV x y = Tw.eqW w u := by
  cases r with
  | non => cases q <;> first | exact absurd g Bool.false_ne_true | (simp [L2.eqV])
  | bl b => cases q <;> first | exact absurd g Bool.false_ne_true | (simp [L2.eqV, Bool.beq_eq_decide_eq])
  | int i => cases q <;> first | exact absurd g Bool.false_ne_true | (simp [L2.eqV, Bool.beq_eq_decide_eq])
  | str z hz =>
    cases q with
    | str z' hz' => rw [Tw.eqW_str_str, L2.eqV, str_beq']
    | non => simp [L2.eqV]
    | bl _ => simp [L2.eqV]
    | int _ => simp [L2.eqV]
    | tup _ _ => cases g
    | ref _ => cases g
  | tup _ _ => cases f
  | ref _ => cases f
theorem any_of {u : Tw.W} {y : V} (q : RW ι n H u y) (g : Tw.flat u = true) : ∀ {ws : List Tw.W} {xs : List V}, RWs ι n H ws xs → ws.all Tw.flat = true → (xs.any fun z => L2.eqV z y) = ws.any fun z => Tw.eqW z u
  | _, _, .nil, _ => rfl
  | _, _, .cons a r, h => by
    rw [List.all_cons, Bool.and_eq_true] at h
    rw [List.any_cons, List.any_cons, eqV_of a q h.1 g, any_of q g r h.2]
end
theorem in_of (neg : Bool) (ι : Nat → Addr) (h : Tw.Hp) (H : L2.Hp) (w u : Tw.W) (x y : V) (k : Bool) (Q : VK) (r : HR X.K ι h H) (rx : RW ι h.length H w x) (ry : RW ι h.length H u y) (e : Tw.isIn w u h = some k)
    (q : Q (.bl (if neg then !k else k)) H) : rInW X.K neg x y H Q := by
  unfold Tw.isIn at e
  cases e1 : Tw.isDic h u with
  | some kvs =>
    rw [e1] at e
    obtain ⟨i, rfl, ei⟩ := isDic_some e1
    cases ry
    obtain ⟨xs, q1, q2⟩ := r.dic ei
    dsimp only at e
    by_cases c : Tw.isKey w = true
    · rw [if_pos c] at e
      cases e
      obtain ⟨key, rfl⟩ := key_of' rx c
      refine .inr ⟨_, _, rfl, DGet.k q1, ?_⟩
      rcases q2.get rx with ⟨g1, g2⟩ | ⟨w2, v2, g1, g2, _⟩
      · rw [g2]; rw [g1] at q; exact q
      · rw [g2]; rw [g1] at q; exact q
    · rw [if_neg c] at e; cases e
  | none =>
    rw [e1] at e
    dsimp only at e
    cases e2 : Tw.seqs h u with
    | none => rw [e2] at e; cases e
    | some ws =>
      rw [e2] at e
      dsimp only at e
      by_cases c : (Tw.flat w && ws.all Tw.flat) = true
      · rw [if_pos c] at e
        cases e
        obtain ⟨c1, c2⟩ := Bool.and_eq_true_iff.mp c
        have fin : ∀ (p : Addr) (xs : List V), y = .ref p → (SqL X.K H p xs ∨ SqT X.K H p xs) → RWs ι h.length H ws xs → rInW X.K neg x y H Q := by
          intro p xs ey sq rr
          refine .inl ⟨p, xs, ey, sq, flat_of rx c1, flats_of rr c2, ?_⟩
          unfold inV
          rw [any_of rx c1 rr c2]
          exact q
        cases ry with
        | @tup a xs us ea ra =>
          have e2 : some us = some ws := e2
          cases e2
          exact fin a xs rfl (.inr (SqT.of ea)) ra
        | @ref i hi =>
          have e2 : (match h[i]? with | some (.lst xs) => some xs | some (.frz xs) => some xs | _ => none) = some ws := e2
          cases ei : h[i]? with
          | none => rw [ei] at e2; cases e2
          | some o =>
            rw [ei] at e2
            cases o with
            | lst us => cases e2; obtain ⟨xs, q1, q2⟩ := r.obj i _ ei; exact fin _ xs rfl (.inl (SqL.of q1)) q2
            | frz us => cases e2; obtain ⟨xs, q1, q2⟩ := r.obj i _ ei; exact fin _ xs rfl (.inl q1.sq) q2
            | dic _ => cases e2
            | ins _ _ => cases e2
        | _ => cases e2
      · rw [if_neg c] at e; cases e
theorem c_in (ι : Nat → Addr) (h : Tw.Hp) (H : L2.Hp) (w u : Tw.W) (x y : V) (k : Bool) (Q : VK) (r : HR X.K ι h H) (rx : RW ι h.length H w x) (ry : RW ι h.length H u y) (e : Tw.cmp .isin w u h = some k) (q : Q (.bl k) H) : rInW X.K false x y H Q :=
  in_of false ι h H w u x y k Q r rx ry e q
theorem c_notin (ι : Nat → Addr) (h : Tw.Hp) (H : L2.Hp) (w u : Tw.W) (x y : V) (k : Bool) (Q : VK) (r : HR X.K ι h H) (rx : RW ι h.length H w x) (ry : RW ι h.length H u y) (e : Tw.cmp .notin w u h = some k) (q : Q (.bl k) H) : rInW X.K true x y H Q := by
  have e : (Tw.isIn w u h).map (!·) = some k := e
  cases e2 : Tw.isIn w u h with
  | none => rw [e2] at e; cases e
  | some b => rw [e2] at e; cases e; exact in_of true ι h H w u x y b Q r rx ry e2 q
theorem tru_of (ι : Nat → Addr) (h : Tw.Hp) (H : L2.Hp) (w : Tw.W) (x : V) (k : Bool) (r : HR X.K ι h H) (rx : RW ι h.length H w x) (e : Tw.truth h w = some k) : TruV X.K x H k := by
  cases rx with
  | non => cases e; rfl
  | bl b => cases e; rfl
  | int i => cases e; rfl
  | str z hz' =>
    have e : (if z.length ≤ Tw.SZ then some (!z.isEmpty) else none) = some k := e
    by_cases c : z.length ≤ Tw.SZ
    · rw [if_pos c] at e
      cases e
      refine ⟨by rw [str_len, line_eq]; exact c, ?_⟩
      rw [str_len]
      cases z with
      | nil => rfl
      | cons c z => simp; omega
    · rw [if_neg c] at e; cases e
  | @tup a xs ws ea ra =>
    have e : some (!ws.isEmpty) = some k := e
    cases e
    refine .inr (.inl ⟨xs, SqT.of ea, ?_⟩)
    cases ra <;> rfl
  | @ref i hi =>
    have e : (match h[i]? with | some (.lst xs) => some (!xs.isEmpty) | some (.frz xs) => some (!xs.isEmpty) | some (.dic kvs) => some (!kvs.isEmpty) | _ => none) = some k := e
    cases ei : h[i]? with
    | none => rw [ei] at e; cases e
    | some o =>
      rw [ei] at e
      cases o with
      | lst us => cases e; obtain ⟨xs, q1, q2⟩ := r.obj i _ ei; refine .inl ⟨xs, SqL.of q1, ?_⟩; cases q2 <;> rfl
      | frz us => cases e; obtain ⟨xs, q1, q2⟩ := r.obj i _ ei; refine .inl ⟨xs, q1.sq, ?_⟩; cases q2 <;> rfl
      | dic us => cases e; obtain ⟨xs, q1, q2⟩ := r.obj i _ ei; refine .inr (.inr ⟨xs, q1, ?_⟩); cases q2 <;> rfl
      | ins _ _ => cases e
end
end TwS

set_option Elab.async false
set_option linter.all false
set_option maxRecDepth 100000
set_option maxHeartbeats 1000000
namespace TwS
open PySem L2 PyProof.Rows
section
variable {X : Cx} {a b c : Expr} {pos : Pos} {da db dc : Tw.Env → Tw.Hp → Tw.R Tw.W}
theorem s_truth (ha : PE X a (tE X.K da)) (he : ∀ whole, isTrue a X.env whole = (do let v ← whole; standAt a.pos; holding [v] (truthy v))) : PT X a (tT X.K da) := by
  refine PT.imp (pt_truth ha he) fun σ H Q ⟨ρ, h, ι, at', p⟩ => ⟨ρ, h, ι, at', (step at' p).mono fun x H1 ⟨w, h1, ι1, at1, e1, r1, p1⟩ => ?_⟩
  cases e : Tw.truth h1 w with
  | none => rw [e] at p1; exact p1.elim
  | some k => rw [e] at p1; exact ⟨k, tru_of ι1 h1 H1 w x k at1.hr r1 e, Post.self (a := k) p1 at1.hr rfl⟩
theorem s_not (ha : PE X a (tE X.K da)) (ht : PT X a (tT X.K da)) :
    PE X (.UnaryOp .Not a pos) (tE X.K fun ρ h => (da ρ h).bind fun x h => Tw.R.of ((Tw.truth h x).map fun b => .bl (!b)) h) ∧
    PT X (.UnaryOp .Not a pos) (tT X.K fun ρ h => (da ρ h).bind fun x h => Tw.R.of ((Tw.truth h x).map fun b => .bl (!b)) h) := by
  constructor
  · intro pins s σ H Q I ⟨ρ, h, ι, at', p⟩
    refine UnaryOp_ (thn (ha pins s σ H _ I ⟨ρ, h, ι, at', step at' p⟩) fun v s1 ⟨x, H1, I1, rv, w, h1, ι1, at1, e1, r1, p1⟩ => not_of ?_)
    cases e : Tw.truth h1 w with
    | none => rw [e] at p1; exact p1.elim
    | some k =>
      rw [e] at p1
      refine thn (tru_ok pins s1 σ H1 x v (fun k' H' => Q (.bl (!k')) H') I1 rv ⟨k, tru_of ι1 h1 H1 w x k at1.hr r1 e, Post.self (a := Tw.W.bl (!k)) p1 at1.hr (.bl _)⟩) fun k' s2 ⟨H2, I2, q⟩ => ⟨.bl (!k'), H2, I2, rfl, q⟩
  · refine PT.imp (pt_not ht) fun σ H Q ⟨ρ, h, ι, at', p⟩ => ?_
    refine ⟨ρ, h, ι, at', ?_⟩
    simp only [dT, bind_assoc] at p ⊢
    cases e0 : da ρ h with
    | bad => rw [e0] at p; exact p.elim
    | exn => rw [e0] at p; exact p.elim
    | ok w h1 =>
      rw [e0] at p
      simp only [Tw.R.bind_ok] at p ⊢
      cases e : Tw.truth h1 w with
      | none => rw [e] at p; exact p.elim
      | some k =>
        rw [e] at p
        intro ι' H' b e1 r1 q
        cases q
        exact p ι' H' (!k) e1 r1 rfl
def dAnd (da db : Tw.Env → Tw.Hp → Tw.R Tw.W) : Tw.Env → Tw.Hp → Tw.R Tw.W := fun ρ h => (da ρ h).bind fun x h => match x with
    | .bl true => db ρ h
    | .bl false => .ok (.bl false) h
    | _ => .bad
def dOr (da db : Tw.Env → Tw.Hp → Tw.R Tw.W) : Tw.Env → Tw.Hp → Tw.R Tw.W := fun ρ h => (da ρ h).bind fun x h => match x with
    | .bl false => db ρ h
    | .bl true => .ok (.bl true) h
    | _ => .bad
theorem s_and {rest : List Expr} (ha : PE X a (tE X.K da)) (hb : PE X (.BoolOp .And (b :: rest) pos) (tE X.K db)) : PE X (.BoolOp .And (a :: b :: rest) pos) (tE X.K (dAnd da db)) := by
  refine PE.imp (pe_and ha hb) fun σ H Q ⟨ρ, h, ι, at', p⟩ => ⟨ρ, h, ι, at', (step at' p).mono fun x H1 ⟨w, h1, ι1, at1, e1, r1, p1⟩ => ?_⟩
  cases r1 with
  | bl k =>
    refine ⟨k, rfl, ?_⟩
    cases k with
    | true => rw [if_pos rfl]; exact ⟨ρ, h1, ι1, at1, p1⟩
    | false => rw [if_neg (by decide)]; exact Post.self (a := Tw.W.bl false) p1 at1.hr (.bl _)
  | _ => exact p1.elim
theorem s_or {rest : List Expr} (ha : PE X a (tE X.K da)) (hb : PE X (.BoolOp .Or (b :: rest) pos) (tE X.K db)) : PE X (.BoolOp .Or (a :: b :: rest) pos) (tE X.K (dOr da db)) := by
  refine PE.imp (pe_or ha hb) fun σ H Q ⟨ρ, h, ι, at', p⟩ => ⟨ρ, h, ι, at', (step at' p).mono fun x H1 ⟨w, h1, ι1, at1, e1, r1, p1⟩ => ?_⟩
  cases r1 with
  | bl k =>
    refine ⟨k, rfl, ?_⟩
    cases k with
    | true => rw [if_pos rfl]; exact Post.self (a := Tw.W.bl true) p1 at1.hr (.bl _)
    | false => rw [if_neg (by decide)]; exact ⟨ρ, h1, ι1, at1, p1⟩
  | _ => exact p1.elim
theorem w_and {rest : List Expr} (ha : PT X a (tT X.K da)) (hb : PW X (.BoolOp .And (b :: rest) pos) (tT X.K db)) : PW X (.BoolOp .And (a :: b :: rest) pos) (tT X.K (dAnd da db)) := by
  refine PW.imp (pw_and ha hb) fun σ H Q ⟨ρ, h, ι, at', p⟩ => ⟨ρ, h, ι, at', ?_⟩
  simp only [dT, dAnd, bind_assoc] at p ⊢
  cases e0 : da ρ h with
  | bad => rw [e0] at p; exact p.elim
  | exn => rw [e0] at p; exact p.elim
  | ok w h1 =>
    rw [e0] at p
    simp only [Tw.R.bind_ok] at p ⊢
    cases w with
    | bl k =>
      intro ι' H' k' e1 r1 q
      cases q
      cases k with
      | true => rw [if_pos rfl]; exact ⟨ρ, h1, ι', at'.later e1 r1, Post.later p e1⟩
      | false => rw [if_neg (by decide)]; exact Post.self (a := false) (Post.later p e1) r1 rfl
    | _ => exact p.elim
theorem w_or {rest : List Expr} (ha : PT X a (tT X.K da)) (hb : PW X (.BoolOp .Or (b :: rest) pos) (tT X.K db)) : PW X (.BoolOp .Or (a :: b :: rest) pos) (tT X.K (dOr da db)) := by
  refine PW.imp (pw_or ha hb) fun σ H Q ⟨ρ, h, ι, at', p⟩ => ⟨ρ, h, ι, at', ?_⟩
  simp only [dT, dOr, bind_assoc] at p ⊢
  cases e0 : da ρ h with
  | bad => rw [e0] at p; exact p.elim
  | exn => rw [e0] at p; exact p.elim
  | ok w h1 =>
    rw [e0] at p
    simp only [Tw.R.bind_ok] at p ⊢
    cases w with
    | bl k =>
      intro ι' H' k' e1 r1 q
      cases q
      cases k with
      | true => rw [if_pos rfl]; exact Post.self (a := true) (Post.later p e1) r1 rfl
      | false => rw [if_neg (by decide)]; exact ⟨ρ, h1, ι', at'.later e1 r1, Post.later p e1⟩
    | _ => exact p.elim
theorem s_ite (hc : PT X c (tT X.K dc)) (ha : PE X a (tE X.K da)) (hb : PE X b (tE X.K db)) : PE X (.IfExp c a b pos) (tE X.K fun ρ h => (dc ρ h).bind fun x h => match Tw.truth h x with
    | some true => da ρ h
    | some false => db ρ h
    | none => .bad) := by
  refine PE.imp (pe_ifExp hc ha hb) fun σ H Q ⟨ρ, h, ι, at', p⟩ => ⟨ρ, h, ι, at', ?_⟩
  simp only [dT] at p ⊢
  cases e0 : dc ρ h with
  | bad => rw [e0] at p; exact p.elim
  | exn => rw [e0] at p; exact p.elim
  | ok w h1 =>
    rw [e0] at p
    simp only [Tw.R.bind_ok] at p ⊢
    cases e : Tw.truth h1 w with
    | none => rw [e] at p; exact p.elim
    | some k =>
      rw [e] at p
      intro ι' H' k' e1 r1 q
      cases q
      cases k with
      | true => rw [if_pos rfl]; exact ⟨ρ, h1, ι', at'.later e1 r1, Post.later p e1⟩
      | false => rw [if_neg (by decide)]; exact ⟨ρ, h1, ι', at'.later e1 r1, Post.later p e1⟩
theorem ix_dict (hu : X.A.units + 1 < cLine) : IxR X (fun x y H Q => ∃ a v, x = .ref a ∧ DGet H a y (some v) ∧ Q v H) := by
  intro value slice pins s σ H x y v u Q I rx ry ⟨a, z, ex, g, q⟩ hs
  subst ex
  cases rx
  have hT := dict_typeIs I g
  unfold subscriptTail
  refine wpAny_bind ?_
  rw [getitemInPython_of_ne hT.not_modules]
  refine wpAny_bind (wpAny_specialOf hT PySem.F.slot_dict_getitem.lookup ?_)
  have fin : wpAny (model X.prog X.w) X.A (subscripted slice false (.ref a) u) (fun r s₃ => wpAny (model X.prog X.w) X.A (letTemporaryGo value (.ref a) r >>= fun _ => pure r) (EP X pins σ Q) X.xe s₃) X.xe s := by
    rw [hs]
    exact wpAny_operating (thn (d_getItem hu I g ry fun w' s3 I3 rw' => (⟨z, H, I3, rw', q⟩ : EP X pins σ Q w' s3)) fun r s₃ h₃ => wpAny_bind (wpAny_letTemporaryGo (wpAny_pure h₃)))
  first
    | exact wpAny_pure (wpAny_bind fin)
    | exact wpAny_bind (wpAny_pure (wpAny_bind fin))
    | exact wpAny_bind fin
def rIxW (K : PySem.W.Frag) : R2 := fun x y H Q => rIx K x y H Q ∨ ∃ a v, x = .ref a ∧ DGet H a y (some v) ∧ Q v H
theorem idx_ok (ι : Nat → Addr) (h : Tw.Hp) (H : L2.Hp) (w u : Tw.W) (x y : V) (Q : VK) (r : HR X.K ι h H) (rx : RW ι h.length H w x) (ry : RW ι h.length H u y) (p : Post X.K RE ι h H (Tw.idx w u h) Q) : rIxW X.K x y H Q := by
  have lst : ∀ (i : Nat) (hi : i < h.length) (ws : List Tw.W) (xs : List V), SqL X.K H (ι i) xs → RWs ι h.length H ws xs → Post X.K RE ι h H (match u with | .int k => Tw.R.of (Tw.atI ws k) h | _ => .bad) Q → rIxW X.K (.ref (ι i)) y H Q := by
    intro i hi ws xs sq rr p
    cases ry with
    | int k =>
      dsimp only at p
      cases e : Tw.atI ws k with
      | none => rw [e] at p; exact p.elim
      | some w' =>
        rw [e] at p
        obtain ⟨v, q1, q2⟩ := rr.atI e
        exact .inl (.inl ⟨ι i, xs, k, v, rfl, rfl, sq, q1, Post.self (a := w') p r q2⟩)
    | _ => exact p.elim
  cases rx with
  | @tup a xs ws ea ra =>
    cases ry with
    | int k =>
      have p : Post X.K RE ι h H (Tw.R.of (Tw.atI ws k) h) Q := p
      cases e : Tw.atI ws k with
      | none => rw [e] at p; exact p.elim
      | some w' =>
        rw [e] at p
        obtain ⟨v, q1, q2⟩ := ra.atI e
        exact .inl (.inr (.inl ⟨a, xs, k, v, rfl, rfl, SqT.of ea, q1, Post.self (a := w') p r q2⟩))
    | _ => exact p.elim
  | str z hz =>
    cases ry with
    | int k =>
      have p : Post X.K RE ι h H (if z.length ≤ Tw.SZ then Tw.R.of ((Tw.atI z k).map fun c => Tw.W.str [c]) h else .bad) Q := p
      by_cases c : z.length ≤ Tw.SZ
      · rw [if_pos c] at p
        cases e : Tw.atI z k with
        | none => rw [e] at p; exact p.elim
        | some d =>
          rw [e] at p
          refine .inl (.inr (.inr ⟨_, k, d, rfl, rfl, by rw [str_len, line_eq]; exact c, ?_, ?_⟩))
          · show L2.atI z.toArray.toList k = some d
            rw [List.toList_toArray]
            exact e
          · have hd : d < 0x110000 := by
              unfold Tw.atI at e
              cases e2 : Tw.ixN z.length k with
              | none => rw [e2] at e; cases e
              | some j => rw [e2] at e; exact hz d (List.mem_of_getElem? e)
            exact Post.self (a := Tw.W.str [d]) p r (.str [d] fun c hc => by simp at hc; subst hc; exact hd)
      · rw [if_neg c] at p; exact p.elim
    | _ => exact p.elim
  | @ref i hi =>
    cases ei : h[i]? with
    | none =>
      have : h.length ≤ i := by
        rcases Nat.lt_or_ge i h.length with z | z
        · rw [List.getElem?_eq_getElem z] at ei; cases ei
        · exact z
      omega
    | some o =>
      cases o with
      | lst ws =>
        obtain ⟨xs, q1, q2⟩ := r.obj i _ ei
        refine lst i hi ws xs (SqL.of q1) q2 ?_
        simp only [Tw.idx, ei] at p
        cases u <;> exact p
      | frz ws =>
        obtain ⟨xs, q1, q2⟩ := r.obj i _ ei
        refine lst i hi ws xs q1.sq q2 ?_
        simp only [Tw.idx, ei] at p
        cases u <;> exact p
      | dic kvs =>
        obtain ⟨xs, q1, q2⟩ := r.obj i _ ei
        have p : Post X.K RE ι h H (if Tw.isKey u = true then Tw.R.of (Tw.dget u kvs) h else .bad) Q := by
          simp only [Tw.idx, ei] at p
          cases u <;> exact p
        by_cases c : Tw.isKey u = true
        · rw [if_pos c] at p
          obtain ⟨k, rfl⟩ := key_of' ry c
          rcases q2.get ry with ⟨g1, g2⟩ | ⟨w2, v2, g1, g2, g3⟩
          · rw [g1] at p; exact p.elim
          · rw [g1] at p
            refine .inr ⟨_, v2, rfl, ?_, Post.self (a := w2) p r g3⟩
            have := DGet.k (k := k) q1
            rw [g2] at this
            exact this
        · rw [if_neg c] at p; exact p.elim
      | ins _ _ => exact (r.obj i _ ei).elim
  | _ => cases ry <;> exact p.elim
theorem s_idx (hu : X.A.units + 1 < cLine) (ha : PE X a (tE X.K da)) (hb : PE X b (tE X.K db)) (hs : PlainIx b) : PE X (.Subscript a b pos) (tE X.K fun ρ h => (da ρ h).bind fun x h => (db ρ h).bind fun y h => Tw.idx x y h) :=
  PE.imp (pe_ix (ix_seq.or (ix_dict hu)) ha hb hs) (two idx_ok)
theorem str_pick (x : Tw.S) (l u : Option (Int × Tok)) : (slicePicked ⟨x.toArray⟩ l u none).filterMap (x.toArray[·]?) = Tw.cut x (l.map (·.1)) (u.map (·.1)) ∧
    (slicePicked ⟨x.toArray⟩ l u none) = (List.range (Tw.sIx x.length x.length (u.map (·.1)) - Tw.sIx x.length 0 (l.map (·.1)))).map (Tw.sIx x.length 0 (l.map (·.1)) + ·) := by
  have e : slicePicked ⟨x.toArray⟩ l u none = Builtin.Str.strSliceIndices (l.map (·.1)) (u.map (·.1)) 1 x.length := by
    unfold slicePicked
    rw [str_len]; rfl
  have e2 : Builtin.Str.strSliceIndices (l.map (·.1)) (u.map (·.1)) 1 x.length = sliceRange (sliceBounds (l.map (·.1)) (u.map (·.1)) none x.length).1 (sliceBounds (l.map (·.1)) (u.map (·.1)) none x.length).2.1 1 := rfl
  obtain ⟨h1, h2, h3⟩ := slice_bounds (l.map (·.1)) (u.map (·.1)) x.length
  rw [e, e2, h1, h2, sliceRange_one, pick_run]
  unfold Tw.cut
  rw [sIx_eq, sIx_eq]
  exact ⟨by simp, rfl⟩
def rSlS : V → Option Int → Option Int → L2.Hp → VK → Prop := fun x lo hi H Q => ∃ z : Tw.S, x = .str ⟨z.toArray⟩ ∧ z.length ≤ sizeLine ∧ Q (.str ⟨(Tw.cut z lo hi).toArray⟩) H
theorem part_of {v : Value} {o : Option Int} (p : IsPart v o) : ∃ l : Option (Int × Tok), v = partValue l ∧ o = l.map (·.1) := by
  cases p with
  | none => exact ⟨none, rfl, rfl⟩
  | int i t => exact ⟨some (i, t), rfl, rfl⟩
theorem sl_str : SlR X rSlS := by
  intro pins s σ H x v vl vu lo hi sl Q I rx hs pl pu ⟨z, ex, lz, q⟩
  subst ex
  obtain ⟨t, rfl⟩ := rx
  obtain ⟨l, rfl, rfl⟩ := part_of pl
  obtain ⟨u, rfl, rfl⟩ := part_of pu
  refine ⟨"str", _, PySem.F.slot_str_getitem.lookup, typeIs_str s _ t, ?_⟩
  refine wpAny_getItem_str_slice (l := l) (u := u) (st := none) hs rfl ?_
  obtain ⟨h1, h2⟩ := str_pick z l u
  unfold sliceMade
  by_cases c : ((((none : Option (Int × Tok)).map (·.1)).getD 1 == 1 && (slicePicked ⟨z.toArray⟩ l u none).length == (⟨z.toArray⟩ : Str).length) = true)
  · rw [if_pos c]
    have c2 : (slicePicked ⟨z.toArray⟩ l u none).length = z.length := by
      have := (Bool.and_eq_true_iff.mp c).2
      rw [str_len] at this
      simpa using this
    rw [h2, List.length_map, List.length_range] at c2
    have ez : Tw.cut z (l.map (·.1)) (u.map (·.1)) = z := by
      have b1 : Tw.sIx z.length z.length (u.map (·.1)) ≤ z.length := by rw [sIx_eq]; exact HT.sIx_le _ _ (Nat.le_refl _) _
      unfold Tw.cut
      by_cases zl : z.length = 0
      · have : z = [] := List.eq_nil_of_length_eq_zero zl
        subst this; simp
      · have b2 : Tw.sIx z.length 0 (l.map (·.1)) = 0 := by omega
        have b3 : Tw.sIx z.length z.length (u.map (·.1)) = z.length := by omega
        rw [b2, b3]; simp
    rw [ez] at q
    exact ⟨.str ⟨z.toArray⟩, H, I, ⟨t, rfl⟩, q⟩
  · rw [if_neg c]
    have e : (⟨((slicePicked ⟨z.toArray⟩ l u none).filterMap ((⟨z.toArray⟩ : Str).cps[·]?)).toArray⟩ : Str) = ⟨(Tw.cut z (l.map (·.1)) (u.map (·.1))).toArray⟩ := by
      rw [show ((slicePicked ⟨z.toArray⟩ l u none).filterMap ((⟨z.toArray⟩ : Str).cps[·]?)) = _ from h1]
    rw [e]
    have lc : (⟨(Tw.cut z (l.map (·.1)) (u.map (·.1))).toArray⟩ : Str).length ≤ sizeLine := by
      rw [str_len]
      unfold Tw.cut
      rw [List.length_take, List.length_drop]
      omega
    exact ⟨lc, .str ⟨(Tw.cut z (l.map (·.1)) (u.map (·.1))).toArray⟩, H, I.tok _, ⟨_, rfl⟩, q⟩
end
end TwS

set_option Elab.async false
set_option linter.all false
set_option maxRecDepth 100000
set_option maxHeartbeats 1000000
namespace TwS
open PySem L2 PyProof.Rows
section
variable {X : Cx} {a b c : Expr} {pos : Pos} {da db dc : Tw.Env → Tw.Hp → Tw.R Tw.W}
theorem okS_cut {z : Tw.S} (hz : okS z) (lo hi : Option Int) : okS (Tw.cut z lo hi) := fun c hc => hz c (List.mem_of_mem_drop (List.mem_of_mem_take hc))
/-- a slice's part, read as a value -/
abbrev tPv (K : PySem.W.Frag) (d : Tw.Env → Tw.Hp → Tw.R (Option Tw.W)) : TO := fun σ H Q => ∃ ρ h ι, At K ι h H ρ σ ∧ Post K (fun _ _ _ (a : Option Tw.W) (b : Option Tw.W) => a = b) ι h H (d ρ h) fun o H1 => ∃ i, Tw.asPart o = some i ∧ Q i H1
theorem po_none' : PO X none (tPv X.K fun _ h => .ok none h) := fun pins s σ H Q I ⟨ρ, h, ι, at', p⟩ => by
  obtain ⟨i, e, q⟩ := p.self at'.hr rfl
  cases e
  exact po_none pins s σ H Q I q
theorem po_some' (ha : PE X a (tE X.K da)) : PO X (some a) (tPv X.K fun ρ h => (da ρ h).bind fun x h => .ok (some x) h) := fun pins s σ H Q I ⟨ρ, h, ι, at', p⟩ => by
  refine po_some ha pins s σ H Q I ⟨ρ, h, ι, at', (step at' p).mono fun x H1 ⟨w, h1, ι1, at1, e1, r1, p1⟩ => ?_⟩
  obtain ⟨i, e, q⟩ := Post.self (a := some w) p1 at1.hr rfl
  cases r1 with
  | int k => cases e; exact ⟨k, rfl, q⟩
  | _ => cases e
def rSlW (K : PySem.W.Frag) : V → Option Int → Option Int → L2.Hp → VK → Prop := fun x lo hi H Q => rSlT K x lo hi H Q ∨ rSlL K x lo hi H Q ∨ rSlS x lo hi H Q
theorem sl_all : SlR X (rSlW X.K) := sl_tup.or (sl_list.or sl_str)
theorem slice_ok {ι : Nat → Addr} {h : Tw.Hp} {H : L2.Hp} {w : Tw.W} {x : V} {l u : Option Tw.W} {i j : Option Int} {Q : VK} (r : HR X.K ι h H) (rx : RW ι h.length H w x) (el : Tw.asPart l = some i) (eu : Tw.asPart u = some j)
    (p : Post X.K RE ι h H (Tw.slice w l u h) Q) : rSlW X.K x i j H Q := by
  unfold Tw.slice at p
  rw [el, eu] at p
  dsimp only at p
  cases rx with
  | @tup a xs ws ea ra =>
    dsimp only at p
    by_cases c : Tw.sIx ws.length 0 i = 0 ∧ Tw.sIx ws.length ws.length j = ws.length
    · rw [if_pos c] at p; exact p.elim
    · rw [if_neg c] at p
      refine .inl ⟨a, xs, rfl, SqT.of ea, ?_, p.tup r (ra.cut i j)⟩
      rw [← ra.length, ← sIx_eq, ← sIx_eq]
      exact c
  | str z hz =>
    dsimp only at p
    by_cases c : z.length ≤ Tw.SZ
    · rw [if_pos c] at p
      exact .inr (.inr ⟨z, rfl, by rw [line_eq]; exact c, p.self r (.str _ (okS_cut hz i j))⟩)
    · rw [if_neg c] at p; exact p.elim
  | @ref k hk =>
    dsimp only at p
    cases ei : h[k]? with
    | none => rw [ei] at p; exact p.elim
    | some o =>
      rw [ei] at p
      cases o with
      | lst ws => obtain ⟨xs, q1, q2⟩ := r.obj k _ ei; exact .inr (.inl ⟨_, xs, rfl, SqL.of q1, p.lst r (q2.cut i j)⟩)
      | frz ws => obtain ⟨xs, q1, q2⟩ := r.obj k _ ei; exact .inr (.inl ⟨_, xs, rfl, q1.sq, p.lst r (q2.cut i j)⟩)
      | dic _ => exact p.elim
      | ins _ _ => exact p.elim
  | _ => exact p.elim
theorem s_slice {lo hi : Option Expr} {p2 : Pos} {dl du : Tw.Env → Tw.Hp → Tw.R (Option Tw.W)} (ha : PE X a (tE X.K da)) (hl : PO X lo (tPv X.K dl)) (hu : PO X hi (tPv X.K du)) :
    PE X (.Subscript a (.Slice lo hi none p2) pos) (tE X.K fun ρ h => (da ρ h).bind fun x h => (dl ρ h).bind fun l h => (du ρ h).bind fun u h => Tw.slice x l u h) := by
  refine PE.imp (pe_slice sl_all ha hl hu) fun σ H Q ⟨ρ, h, ι, at', p⟩ => ⟨ρ, h, ι, at', (step at' p).mono fun x H1 ⟨w, h1, ι1, at1, e1, r1, p1⟩ => ?_⟩
  refine ⟨ρ, h1, ι1, at1, ?_⟩
  cases el : dl ρ h1 with
  | bad => rw [el] at p1; exact p1.elim
  | exn => rw [el] at p1; exact p1.elim
  | ok l h2 =>
    rw [el] at p1
    simp only [Tw.R.bind_ok] at p1
    intro ι2 H2 l' e2 r2 q2
    cases q2
    cases eu : du ρ h2 with
    | bad => rw [eu] at p1; exact p1.elim
    | exn => rw [eu] at p1; exact p1.elim
    | ok u h3 =>
      rw [eu] at p1
      simp only [Tw.R.bind_ok] at p1
      have pl : ∃ i, Tw.asPart l = some i := by
        cases e : Tw.asPart l with
        | some i => exact ⟨i, rfl⟩
        | none => unfold Tw.slice at p1; rw [e] at p1; exact p1.elim
      have pu : ∃ i, Tw.asPart u = some i := by
        cases e : Tw.asPart u with
        | some i => exact ⟨i, rfl⟩
        | none => unfold Tw.slice at p1; rw [e] at p1; obtain ⟨i, e'⟩ := pl; rw [e'] at p1; exact p1.elim
      obtain ⟨i, ei⟩ := pl
      obtain ⟨j, ej⟩ := pu
      refine ⟨i, ei, ρ, h2, ι2, at1.later e2 r2, ?_⟩
      rw [eu]
      intro ι3 H3 u' e3 r3 q3
      cases q3
      have p3 := Post.later (Post.later p1 e2) e3
      exact ⟨j, ej, slice_ok r3 ((r1.keep (e2.keeps at1.hr)).keep (e3.keeps r2)) ei ej p3⟩
theorem s_blt {r : List V → L2.Hp → VK → Prop} {x : Str} {p : Pos} {o : Tw.B} (hp : PE X (.Call (.Name x p) [a] [] pos) (tCB r (tCons (tE X.K da) tNil)))
    (hr : ∀ (ι : Nat → Addr) (h : Tw.Hp) (H : L2.Hp) (w : Tw.W) (x : V) (Q : VK), HR X.K ι h H → RW ι h.length H w x → Post X.K RE ι h H (Tw.builtin o w h) Q → r [x] H Q) :
    PE X (.Call (.Name x p) [a] [] pos) (tE X.K fun ρ h => (da ρ h).bind fun x h => Tw.builtin o x h) :=
  PE.imp hp fun σ H Q ⟨ρ, h, ι, at', p⟩ => ⟨ρ, h, ι, at', (step at' p).mono fun x H1 ⟨w, h1, ι1, at1, e1, r1, p1⟩ => hr ι1 h1 H1 w x Q at1.hr r1 p1⟩
def rLenW (K : PySem.W.Frag) : List V → L2.Hp → VK → Prop := fun xs H Q => (∃ p ys, xs = [.ref p] ∧ (SqL K H p ys ∨ SqT K H p ys) ∧ Q (.int ys.length) H) ∨ (∃ z, xs = [.str z] ∧ z.length ≤ sizeLine ∧ Q (.int z.length) H) ∨ ∃ a kvs, xs = [V.ref a] ∧ H a = some (.dK kvs) ∧ Q (.int kvs.length) H
theorem call_lenW : CallR X (.builtin "len") (rLenW X.K) := call_len_seq.or (call_len_str.or call_lenD)
theorem len_ok (ι : Nat → Addr) (h : Tw.Hp) (H : L2.Hp) (w : Tw.W) (x : V) (Q : VK) (r : HR X.K ι h H) (rx : RW ι h.length H w x) (p : Post X.K RE ι h H (Tw.builtin .len w h) Q) : rLenW X.K [x] H Q := by
  unfold Tw.builtin at p
  dsimp only at p
  cases rx with
  | str z hz =>
    dsimp only at p
    by_cases c : z.length ≤ Tw.SZ
    · rw [if_pos c] at p
      refine .inr (.inl ⟨_, rfl, by rw [str_len, line_eq]; exact c, ?_⟩)
      rw [str_len]
      exact p.self r (.int _)
    · rw [if_neg c] at p; exact p.elim
  | @tup a xs ws ea ra => exact .inl ⟨a, xs, rfl, .inr (SqT.of ea), by rw [← ra.length]; exact p.self r (.int _)⟩
  | @ref k hk =>
    dsimp only at p
    cases ei : h[k]? with
    | none => rw [ei] at p; exact p.elim
    | some o =>
      rw [ei] at p
      cases o with
      | lst ws => obtain ⟨xs, q1, q2⟩ := r.obj k _ ei; exact .inl ⟨_, xs, rfl, .inl (SqL.of q1), by rw [← q2.length]; exact p.self r (.int _)⟩
      | frz ws => obtain ⟨xs, q1, q2⟩ := r.obj k _ ei; exact .inl ⟨_, xs, rfl, .inl q1.sq, by rw [← q2.length]; exact p.self r (.int _)⟩
      | dic kvs => obtain ⟨xs, q1, q2⟩ := r.obj k _ ei; exact .inr (.inr ⟨_, xs, rfl, q1, by rw [← q2.length]; exact p.self r (.int _)⟩)
      | ins _ _ => exact p.elim
  | _ => exact p.elim
theorem call_tupW : CallR X (.type "tuple") (fun xs H Q => ∃ p ys, xs = [.ref p] ∧ ((SqL X.K H p ys ∧ ∀ l, H l = none → Q (.ref l) (upd H l (.tup ys))) ∨ (SqT X.K H p ys ∧ Q (.ref p) H))) := call_tuple_of
theorem tuple_ok (ι : Nat → Addr) (h : Tw.Hp) (H : L2.Hp) (w : Tw.W) (x : V) (Q : VK) (r : HR X.K ι h H) (rx : RW ι h.length H w x) (p : Post X.K RE ι h H (Tw.builtin .tuple w h) Q) :
    ∃ p ys, [x] = [V.ref p] ∧ ((SqL X.K H p ys ∧ ∀ l, H l = none → Q (.ref l) (upd H l (.tup ys))) ∨ (SqT X.K H p ys ∧ Q (.ref p) H)) := by
  unfold Tw.builtin at p
  dsimp only at p
  cases rx with
  | @tup a xs ws ea ra => exact ⟨a, xs, rfl, .inr ⟨SqT.of ea, p.self r (.tup ea ra)⟩⟩
  | @ref k hk =>
    dsimp only at p
    cases ei : h[k]? with
    | none => rw [ei] at p; exact p.elim
    | some o =>
      rw [ei] at p
      cases o with
      | lst ws => obtain ⟨xs, q1, q2⟩ := r.obj k _ ei; exact ⟨_, xs, rfl, .inl ⟨SqL.of q1, p.tup r q2⟩⟩
      | frz ws => obtain ⟨xs, q1, q2⟩ := r.obj k _ ei; exact ⟨_, xs, rfl, .inl ⟨q1.sq, p.tup r q2⟩⟩
      | dic kvs => exact p.elim
      | ins _ _ => exact p.elim
  | _ => exact p.elim
theorem keys_vals {P : Program} {w : World} : ∀ {kvs : List (Key × V)} {vs : List (Key × Value)}, Paired (fun (p : Key × V) (q : Key × Value) => p.1 = q.1 ∧ RelV p.2 q.2) kvs vs → ∀ us : List Value, us.length = vs.length →
    (∀ (j : Nat) (v : Value), us[j]? = some v → ∃ k x, vs[j]? = some (k, x) ∧ (mixKind P w).is k v = true) → Vals (kvs.map fun kv => kV kv.1) us
  | _, _, .nil, [], _, _ => .nil
  | _, _, .nil, _ :: _, hn, _ => by cases hn
  | _, _, .cons _ _, [], hn, _ => by cases hn
  | _, _, .cons (a := p) (b := q') hp t, u :: us, hn, hall => by
    refine .cons ?_ (keys_vals t us (by simpa using hn) fun j v e => by simpa using hall (j + 1) v (by simpa using e))
    obtain ⟨k, x, e, hk⟩ := hall 0 u rfl
    have e : q' = (k, x) := by simpa using e
    subst e
    have hk : keyIs k u = true := hk
    show RelV (kV p.1) u
    rw [hp.1]
    rcases keyIs_shape hk with ⟨i, t, e1, rfl⟩ | ⟨y, t, e1, rfl⟩
    · show RelV (kV k) _
      rw [e1]; exact ⟨t, rfl⟩
    · show RelV (kV k) _
      rw [e1]; exact ⟨t, rfl⟩
/-- list(d): its keys -/
theorem call_listD (hc : X.calm = true) : CallR X (.type "list") (fun xs H Q => ∃ a kvs, xs = [V.ref a] ∧ H a = some (.dK kvs) ∧ ∀ l, H l = none → Q (.ref l) (upd H l (.lst (kvs.map fun kv => kV kv.1)))) := by
  intro pins s σ H xs us Q I r ⟨a, kvs, ex, ea, q⟩
  subst ex
  obtain ⟨u, rfl, ru⟩ := vals1 r
  cases ru
  obtain ⟨z, hd, vs, rel, dd⟩ := dk_of I.hok ea
  obtain ⟨ep, da⟩ := dd.dictAt
  refine PySem.W.kdl_call (PySem.W.kdl_dict hd) (I.ok.hd hc) da (by rw [← rel.length]; exact z) fun h' tk acc' c' hk hS hi => ?_
  have rv : Vals (kvs.map fun kv => kV kv.1) acc'.toList := by
    have hn : acc'.toList.length = vs.length := by rw [Array.length_toList]; exact hi.1
    exact keys_vals rel acc'.toList hn fun j v e => hi.2 j v (by rw [← Array.getElem?_toList]; exact e)
  exact ⟨.ref s.heap.objs.size, _, I.laid (a := s.heap.objs.size) (o := .lst _) (t' := tk) hk (Nat.le_refl _) ⟨by rw [List.length_map]; exact z, acc'.toList, c', rv, by simpa using hS⟩, rfl, q _ (I.hok.fresh (Nat.le_refl _))⟩
theorem RD.keys {ι : Nat → Addr} {n : Nat} {H : L2.Hp} : ∀ {kvs : List (Tw.W × Tw.W)} {xs : List (Key × V)}, RD ι n H kvs xs → RWs ι n H (kvs.map (·.1)) (xs.map fun kv => kV kv.1)
  | _, _, .nil => .nil
  | _, _, .cons _ a _ r => .cons a r.keys
def rListW (K : PySem.W.Frag) : List V → L2.Hp → VK → Prop := fun xs H Q => (∃ p ys, xs = [.ref p] ∧ (SqL K H p ys ∨ SqT K H p ys) ∧ ∀ l, H l = none → Q (.ref l) (upd H l (.lst ys))) ∨
  ∃ a kvs, xs = [V.ref a] ∧ H a = some (.dK kvs) ∧ ∀ l, H l = none → Q (.ref l) (upd H l (.lst (kvs.map fun kv => kV kv.1)))
theorem call_listW (hc : X.calm = true) : CallR X (.type "list") (rListW X.K) := call_list_of.or (call_listD hc)
theorem list_ok (ι : Nat → Addr) (h : Tw.Hp) (H : L2.Hp) (w : Tw.W) (x : V) (Q : VK) (r : HR X.K ι h H) (rx : RW ι h.length H w x) (p : Post X.K RE ι h H (Tw.builtin .list w h) Q) : rListW X.K [x] H Q := by
  unfold Tw.builtin at p
  dsimp only at p
  cases rx with
  | @tup a xs ws ea ra => exact .inl ⟨a, xs, rfl, .inr (SqT.of ea), p.lst r ra⟩
  | @ref k hk =>
    dsimp only at p
    cases ei : h[k]? with
    | none => rw [ei] at p; exact p.elim
    | some o =>
      rw [ei] at p
      cases o with
      | lst ws => obtain ⟨xs, q1, q2⟩ := r.obj k _ ei; exact .inl ⟨_, xs, rfl, .inl (SqL.of q1), p.lst r q2⟩
      | frz ws => obtain ⟨xs, q1, q2⟩ := r.obj k _ ei; exact .inl ⟨_, xs, rfl, .inl q1.sq, p.lst r q2⟩
      | dic kvs => obtain ⟨xs, q1, q2⟩ := r.obj k _ ei; exact .inr ⟨_, xs, rfl, q1, p.lst r q2.keys⟩
      | ins _ _ => exact p.elim
  | _ => exact p.elim
theorem call_dictW : CallR X (.type "dict") (fun xs H Q => ∃ a kvs, xs = [V.ref a] ∧ H a = some (.dK kvs) ∧ ∀ l, H l = none → Q (.ref l) (upd H l (.dK kvs))) := by
  intro pins s σ H xs us Q I r ⟨a, kvs, ex, ea, q⟩
  subst ex
  obtain ⟨u, rfl, ru⟩ := vals1 r
  cases ru
  exact d_copyOf I (.inl ea) fun p s' hp I' => ⟨.ref p, _, I', rfl, q p hp⟩
theorem dict_ok (ι : Nat → Addr) (h : Tw.Hp) (H : L2.Hp) (w : Tw.W) (x : V) (Q : VK) (r : HR X.K ι h H) (rx : RW ι h.length H w x) (p : Post X.K RE ι h H (Tw.builtin .dict w h) Q) :
    ∃ a kvs, [x] = [V.ref a] ∧ H a = some (.dK kvs) ∧ ∀ l, H l = none → Q (.ref l) (upd H l (.dK kvs)) := by
  unfold Tw.builtin at p
  dsimp only at p
  cases rx with
  | @ref k hk =>
    dsimp only at p
    cases ei : h[k]? with
    | none => rw [ei] at p; exact p.elim
    | some o =>
      rw [ei] at p
      cases o with
      | dic kvs => obtain ⟨xs, q1, q2⟩ := r.obj k _ ei; exact ⟨_, xs, rfl, q1, p.dic r q2⟩
      | _ => exact p.elim
  | _ => exact p.elim
def tyN : Tw.Ty → String
  | .list => "list" | .tuple => "tuple" | .dict => "dict" | .int => "int" | .str => "str" | .bool => "bool"
theorem call_isa : CallR X (.builtin "isinstance") (fun xs H Q => ∃ x t, xs = [x, .ty t] ∧ TyOf X.K H x (.type t) ∧ Q (.bl true) H) := by
  intro pins s σ H xs us Q I r ⟨x, t, ex, ty, q⟩
  subst ex
  obtain ⟨u, w', rfl, ru, rw'⟩ := vals2 r
  cases rw'
  refine isinst_ok I ru ty (b := true) ?_ fun tk => ⟨.bl true, H, I.tok tk, rfl, q⟩
  unfold PySem.W.kitOne
  simp
theorem isa_ok {ι : Nat → Addr} {h : Tw.Hp} {H : L2.Hp} {w : Tw.W} {x : V} {t : Tw.Ty} {b : Bool} (r : HR X.K ι h H) (rx : RW ι h.length H w x) (e : Tw.isa w t h = some b) : b = true ∧ TyOf X.K H x (.type (tyN t)) := by
  cases rx with
  | bl k => cases t <;> first | (cases e; exact ⟨rfl, .bl k⟩) | cases e
  | int k => cases t <;> first | (cases e; exact ⟨rfl, .int k⟩) | cases e
  | str k hk => cases t <;> first | (cases e; exact ⟨rfl, .str _⟩) | cases e
  | tup ea ra => cases t <;> first | (cases e; exact ⟨rfl, .tup ea⟩) | cases e
  | @ref i hi =>
    cases ei : h[i]? with
    | none => cases t <;> simp [Tw.isa, ei] at e
    | some o =>
      cases o with
      | lst ws =>
        obtain ⟨xs, q1, q2⟩ := r.obj i _ ei
        cases t <;> simp [Tw.isa, ei] at e
        exact ⟨e, .lst q1⟩
      | dic ws =>
        obtain ⟨xs, q1, q2⟩ := r.obj i _ ei
        cases t <;> simp [Tw.isa, ei] at e
        exact ⟨e, .dK q1⟩
      | frz ws => cases t <;> simp [Tw.isa, ei] at e
      | ins _ _ => cases t <;> simp [Tw.isa, ei] at e
  | non => cases t <;> cases e
theorem s_isa {t : Tw.Ty} {p p2 : Pos} {n : Str} (hg : Gl X "isinstance") (hm : X.mg "isinstance" = none) (ha : PE X a (tE X.K da)) (hn : PE X (.Name n p2) (tC (.ty (tyN t))))
    (hst : starEach [a, .Name n p2] X.env = [(false, eval a X.env), (false, eval (.Name n p2) X.env)]) :
    PE X (.Call (.Name "isinstance" p) [a, .Name n p2] [] pos) (tE X.K fun ρ h => (da ρ h).bind fun x h => Tw.R.of ((Tw.isa x t h).map .bl) h) := by
  have ha2 : PA X [a, .Name n p2] (tCons (tE X.K da) (tCons (tC (.ty (tyN t))) tNil)) := pa_cons ha (pa_cons hn pa_nil rfl) hst
  refine PE.imp (pe_callB call_isa hg hm PyProof.Rows.boot_isinstance ha2 (he := hst)) fun σ H Q ⟨ρ, h, ι, at', p⟩ => ⟨ρ, h, ι, at', (step at' p).mono fun x H1 ⟨w, h1, ι1, at1, e1, r1, p1⟩ => ?_⟩
  cases e : Tw.isa w t h1 with
  | none => rw [e] at p1; exact p1.elim
  | some b =>
    rw [e] at p1
    obtain ⟨rfl, ty⟩ := isa_ok at1.hr r1 e
    exact ⟨x, tyN t, rfl, ty, Post.self (a := Tw.W.bl true) p1 at1.hr (.bl _)⟩
end
end TwS

set_option Elab.async false
set_option linter.all false
set_option maxRecDepth 100000
set_option maxHeartbeats 1000000
namespace TwS
open PySem L2 PyProof.Rows
section
variable {X : Cx} {a b c o e f : Expr} {pos apos cpos : Pos} {da db dc d1 d2 : Tw.Env → Tw.Hp → Tw.R Tw.W}
/-- what an own def promises: our reckoning -/
def spOf (K : PySem.W.Frag) (F : List Tw.W → Tw.Hp → Tw.R Tw.W) : Sp := fun vs H Q _ => ∃ ws h ι, HR K ι h H ∧ RWs ι h.length H ws vs ∧ Post K RE ι h H (F ws h) Q
theorem s_call {k n : Nat} {g : Addr} {fd : FuncData} {ps : List Str} {F : List Tw.W → Tw.Hp → Tw.R Tw.W} {x : Str} {p : Pos} {es : List Expr} {ds : Tw.Env → Tw.Hp → Tw.R (List Tw.W)}
    (G : FnOk X.prog X.w X.K X.mg X.base CX0 k g fd ps (spOf X.K F)) (hr : Room k X.A) (hg : Gl X x) (hm : X.mg x = some (.ref g)) (hk : PySem.W.keepIn X.K (.ref g) = true) (hb : Binds X.K fd ps [])
    (hs : PA X (e :: es) (tA X.K n ds)) (hd : (x == ("__debug__" : Str)) = false) (hst : starEach (e :: es) X.env = (false, eval e X.env) :: starEach es X.env) (hpl : (backTo pos (starEach es X.env)).any (·.1) = false) :
    PE X (.Call (.Name x p) (e :: es) [] pos) (tE X.K fun ρ h => (ds ρ h).bind fun xs h => F xs h) := by
  refine PE.imp (pe_call (dvs := []) (ds := []) (E := E0) G hr hg hm hk hb .nil pass0 hs hd hst hpl) fun σ H Q ⟨ρ, h, ι, at', p⟩ => ⟨ρ, h, ι, at', (step at' p).mono fun xs H1 ⟨ws, h1, ι1, at1, e1, r1, p1⟩ => ?_⟩
  rw [List.append_nil]
  exact ⟨ws, h1, ι1, at1.hr, r1.1, p1⟩
/-- what must be seen of o.m(e, ..) -/
structure Me (X : Cx) (o : Expr) (m : Str) (apos : Pos) (es : List Expr) (cpos : Pos) : Prop where
  base : attributeBase o m X.env (eval o X.env) = eval o X.env
  few : ((backTo cpos (starEach es X.env)).all (fun x => !x.1) && (backToKw cpos (keywordEach [] X.env)).all (fun x => x.1.isSome)
    && decide (es.length + ([] : List Keyword).length + (if ([] : List Keyword).isEmpty then 0 else 1) < 30)) = true
  line : (apos.endLine == cpos.line) = true
/-- the meaning of o.m(e) and of o.m(e, f) -/
def dM1 (m : Tw.Mt) (da db : Tw.Env → Tw.Hp → Tw.R Tw.W) : Tw.Env → Tw.Hp → Tw.R Tw.W := fun ρ h => (da ρ h).bind fun x h => if Tw.mtOk m x h then (db ρ h).bind fun y h => Tw.method m x [y] h else .bad
def dM2 (m : Tw.Mt) (da db dc : Tw.Env → Tw.Hp → Tw.R Tw.W) : Tw.Env → Tw.Hp → Tw.R Tw.W := fun ρ h => (da ρ h).bind fun x h => if Tw.mtOk m x h then (db ρ h).bind fun y h => (dc ρ h).bind fun z h => Tw.method m x [y, z] h else .bad
theorem Post.ite {K : PySem.W.Frag} {α β : Type} {R : Rl α β} {ι : Nat → Addr} {h : Tw.Hp} {H : L2.Hp} {c : Bool} {m : Tw.R α} {Q : β → L2.Hp → Prop} (p : Post K R ι h H (if c = true then m else .bad) Q) : c = true ∧ Post K R ι h H m Q := by
  cases c with
  | true => exact ⟨rfl, by simpa using p⟩
  | false => rw [if_neg (by decide)] at p; exact p.elim
theorem ok_lst {w : Tw.W} {h : Tw.Hp} (e : Tw.mtOk .append w h = true) : ∃ i ws, w = .ref i ∧ h[i]? = some (.lst ws) := by
  cases w with
  | ref i =>
    have e : (match h[i]? with | some (.lst _) => true | _ => false) = true := e
    cases ei : h[i]? with
    | none => rw [ei] at e; cases e
    | some o =>
      rw [ei] at e
      cases o with
      | lst ws => exact ⟨i, ws, rfl, ei⟩
      | _ => cases e
  | _ => cases e
theorem ok_dic {w : Tw.W} {h : Tw.Hp} (e : Tw.mtOk .get w h = true) : ∃ i ws, w = .ref i ∧ h[i]? = some (.dic ws) := by
  cases w with
  | ref i =>
    have e : (match h[i]? with | some (.dic _) => true | _ => false) = true := e
    cases ei : h[i]? with
    | none => rw [ei] at e; cases e
    | some o =>
      rw [ei] at e
      cases o with
      | dic ws => exact ⟨i, ws, rfl, ei⟩
      | _ => cases e
  | _ => cases e
theorem s_append (me : Me X o "append" apos [e] cpos) (hst : starEach [e] X.env = [(false, eval e X.env)]) (ho : PE X o (tE X.K da)) (he : PE X e (tE X.K db)) :
    PE X (.Call (.Attribute o "append" apos) [e] [] cpos) (tE X.K (dM1 .append da db)) := by
  refine PE.imp (pe_bm PySem.F.plainAttrs_list PySem.F.slot_list_append PySem.F.type_list_append mt_append ho (pa_cons he pa_nil hst) me.base me.few me.line hst rfl) fun σ H Q ⟨ρ, h, ι, at', p⟩ => ?_
  refine ⟨ρ, h, ι, at', (step at' p).mono fun x H1 ⟨w, h1, ι1, at1, e1, r1, p1⟩ => ?_⟩
  obtain ⟨hc, p1⟩ := Post.ite p1
  obtain ⟨i, ws, rfl, ei⟩ := ok_lst hc
  cases r1 with
  | ref hi =>
    obtain ⟨xs, q1, q2⟩ := at1.hr.lst ei
    refine ⟨.inl ⟨rfl, xs, SqL.of q1⟩, ρ, h1, ι1, at1, (step at1 p1).mono fun y H2 ⟨u, h2, ι2, at2, e2, r2, p2⟩ => ?_⟩
    have p2 : Post X.K RE ι2 h2 H2 (match h2[i]? with
      | some (.lst ys) => if ys.length < Tw.SZ then .ok .non (h2.set i (.lst (ys ++ [u]))) else .bad
      | _ => .bad) Q := p2
    have same : ι2 i = ι1 i := e2.same i hi
    cases ej : h2[i]? with
    | none => rw [ej] at p2; exact p2.elim
    | some oj =>
      rw [ej] at p2
      cases oj with
      | lst ys =>
        dsimp only at p2
        by_cases c : ys.length < Tw.SZ
        · rw [if_pos c] at p2
          obtain ⟨zs, g1, g2⟩ := at2.hr.lst ej
          refine ⟨ι1 i, zs, y, rfl, rfl, by rw [← same]; exact g1, by rw [← g2.length, line_eq]; exact c, ?_⟩
          obtain ⟨hr', ex⟩ := at2.hr.put (o := .lst (zs ++ [y])) (u := .lst (ys ++ [u])) ej rfl rfl (fun _ z => nomatch z) fun H' k z => ⟨zs ++ [y], z, (g2.append (.cons r2 .nil)).keep k⟩
          rw [← same]
          exact p2 ι2 _ _ ex hr' .non
        · rw [if_neg c] at p2; exact p2.elim
      | _ => exact p2.elim
theorem get_ok {ι : Nat → Addr} {h : Tw.Hp} {H : L2.Hp} {i : Nat} {kvs : List (Tw.W × Tw.W)} {k d : Tw.W} {y z : V} {Q : VK} (r : HR X.K ι h H) (ei : h[i]? = some (.dic kvs)) (ry : RW ι h.length H k y) (rz : RW ι h.length H d z) (hk : Tw.isKey k = true)
    (p : Post X.K RE ι h H (.ok ((Tw.dget k kvs).getD d) h) Q) : ∃ o, DGet H (ι i) y o ∧ Q (o.getD z) H := by
  obtain ⟨xs, q1, q2⟩ := r.dic ei
  obtain ⟨q, rfl⟩ := key_of' ry hk
  refine ⟨_, DGet.k q1, ?_⟩
  rcases q2.get ry with ⟨g1, g2⟩ | ⟨w2, v2, g1, g2, g3⟩
  · rw [g2]; rw [g1] at p; exact Post.self (a := d) p r rz
  · rw [g2]; rw [g1] at p; exact Post.self (a := w2) p r g3
theorem s_get1 (hu : X.A.units + 1 < cLine) (me : Me X o "get" apos [e] cpos) (hst : backTo cpos (starEach [e] X.env) = [(false, eval e X.env)]) (ho : PE X o (tE X.K da)) (he : PE X e (tE X.K db)) :
    PE X (.Call (.Attribute o "get" apos) [e] [] cpos) (tE X.K (dM1 .get da db)) := by
  refine PE.imp (pe_dget1 hu ho he ⟨me.base, me.few, me.line, hst⟩) fun σ H Q ⟨ρ, h, ι, at', p⟩ => ?_
  refine ⟨ρ, h, ι, at', (step at' p).mono fun x H1 ⟨w, h1, ι1, at1, e1, r1, p1⟩ => ?_⟩
  obtain ⟨hc, p1⟩ := Post.ite p1
  obtain ⟨i, ws, rfl, ei⟩ := ok_dic hc
  cases r1 with
  | ref hi =>
    obtain ⟨xs, q1, q2⟩ := at1.hr.dic ei
    refine ⟨_, rfl, .inl ⟨xs, .inl q1⟩, ρ, h1, ι1, at1, (step at1 p1).mono fun y H2 ⟨u, h2, ι2, at2, e2, r2, p2⟩ => ?_⟩
    have p2 : Post X.K RE ι2 h2 H2 (match h2[i]? with
      | some (.dic kvs) => if Tw.isKey u = true then .ok ((Tw.dget u kvs).getD .non) h2 else .bad
      | _ => .bad) Q := p2
    have same : ι2 i = ι1 i := e2.same i hi
    cases ej : h2[i]? with
    | none => rw [ej] at p2; exact p2.elim
    | some oj =>
      rw [ej] at p2
      cases oj with
      | dic kvs =>
        dsimp only at p2
        obtain ⟨hk, p2⟩ := Post.ite p2
        rw [← same]
        exact get_ok at2.hr ej r2 .non hk p2
      | _ => exact p2.elim
theorem s_get2 (hu : X.A.units + 1 < cLine) (me : Me X o "get" apos [e, f] cpos) (hst : backTo cpos (starEach [e, f] X.env) = [(false, eval e X.env), (false, eval f X.env)]) (ho : PE X o (tE X.K da)) (he : PE X e (tE X.K db)) (hf : PE X f (tE X.K dc)) :
    PE X (.Call (.Attribute o "get" apos) [e, f] [] cpos) (tE X.K (dM2 .get da db dc)) := by
  refine PE.imp (pe_dget2 hu ho he hf ⟨me.base, me.few, me.line, hst⟩) fun σ H Q ⟨ρ, h, ι, at', p⟩ => ?_
  refine ⟨ρ, h, ι, at', (step at' p).mono fun x H1 ⟨w, h1, ι1, at1, e1, r1, p1⟩ => ?_⟩
  obtain ⟨hc, p1⟩ := Post.ite p1
  obtain ⟨i, ws, rfl, ei⟩ := ok_dic hc
  cases r1 with
  | ref hi =>
    obtain ⟨xs, q1, q2⟩ := at1.hr.dic ei
    refine ⟨_, rfl, .inl ⟨xs, .inl q1⟩, ρ, h1, ι1, at1, (step at1 p1).mono fun y H2 ⟨u, h2, ι2, at2, e2, r2, p2⟩ => ⟨ρ, h2, ι2, at2, (step at2 p2).mono fun z H3 ⟨v, h3, ι3, at3, e3, r3, p3⟩ => ?_⟩⟩
    have p3 : Post X.K RE ι3 h3 H3 (match h3[i]? with
      | some (.dic kvs) => if Tw.isKey u = true then .ok ((Tw.dget u kvs).getD v) h3 else .bad
      | _ => .bad) Q := p3
    have same : ι3 i = ι1 i := (e3.same i (Nat.lt_of_lt_of_le hi e2.len)).trans (e2.same i hi)
    cases ej : h3[i]? with
    | none => rw [ej] at p3; exact p3.elim
    | some oj =>
      rw [ej] at p3
      cases oj with
      | dic kvs =>
        dsimp only at p3
        obtain ⟨hk, p3⟩ := Post.ite p3
        rw [← same]
        exact get_ok at3.hr ej (r2.keep (e3.keeps at2.hr)) r3 hk p3
      | _ => exact p3.elim
theorem texts_of {ι : Nat → Addr} {n : Nat} {H : L2.Hp} : ∀ {ws : List Tw.W} {xs : List V} {us : List Value} {ts : List Tw.S}, RWs ι n H ws xs → Vals xs us → Tw.texts ws = some ts →
    StrsAre us (ts.map fun t => ⟨t.toArray⟩) ∧ ∀ t ∈ ts, okS t
  | _, _, _, ts, .nil, .nil, e => by cases e; exact ⟨.nil, fun _ h => nomatch h⟩
  | w :: ws, _, _, ts, .cons a r, .cons rv rvs, e => by
    cases a with
    | str x hx =>
      have e : (Tw.texts ws).map (x :: ·) = some ts := e
      cases e2 : Tw.texts ws with
      | none => rw [e2] at e; cases e
      | some ts' =>
        rw [e2] at e
        cases e
        obtain ⟨h1, h2⟩ := texts_of r rvs e2
        obtain ⟨t, rfl⟩ := rv
        refine ⟨.cons _ t h1, fun y hy => ?_⟩
        rcases List.mem_cons.mp hy with rfl | hy
        · exact hx
        · exact h2 y hy
    | _ => cases e
theorem join_eq (sep : Tw.S) : ∀ ts : List Tw.S, Str.join (⟨sep.toArray⟩ : Str) (ts.map fun t => ⟨t.toArray⟩) = (⟨(Tw.joinS sep ts).toArray⟩ : Str)
  | [] => rfl
  | [x] => rfl
  | x :: y :: r => by
    have ih := join_eq sep (y :: r)
    rw [List.map_cons, List.map_cons, join_cons_cons]
    rw [List.map_cons] at ih
    rw [ih, str_app, str_app]
    rfl
theorem okS_join {sep : Tw.S} (hs : okS sep) : ∀ {ts : List Tw.S}, (∀ t ∈ ts, okS t) → okS (Tw.joinS sep ts)
  | [], _ => fun c hc => nomatch hc
  | [x], h => by simpa [Tw.joinS] using h x (by simp)
  | x :: y :: r, h => fun c hc => by
    have ih := okS_join hs (ts := y :: r) fun t ht => h t (List.mem_cons_of_mem _ ht)
    rw [Tw.joinS] at hc
    · rcases List.mem_append.mp hc with hc | hc
      · rcases List.mem_append.mp hc with hc | hc
        · exact h x (by simp) c hc
        · exact hs c hc
      · exact ih c hc
    · intro z; cases z
theorem sum_len (ts : List Tw.S) : ((ts.map fun t => (⟨t.toArray⟩ : Str)).map (·.length)).sum = (ts.map (·.length)).sum := by
  induction ts with
  | nil => rfl
  | cons t r ih => simp only [List.map_cons, List.sum_cons, str_len, ih]
theorem mt_join : MtR X "str.join" (fun x xs H Q => ∃ (ι : Nat → Addr) (n : Nat) (ws : List Tw.W) (p : Addr) (ys : List V) (sep : Tw.S) (ts : List Tw.S), x = .str ⟨sep.toArray⟩ ∧ xs = [.ref p] ∧ SqL X.K H p ys ∧ RWs ι n H ws ys ∧ Tw.texts ws = some ts ∧
    (ts.map (·.length)).sum + ts.length * sep.length ≤ Tw.SZ ∧ Q (.str ⟨(Tw.joinS sep ts).toArray⟩) H) := by
  intro pins s σ H x xs v us Q I rx rs ⟨ι, n, ws, p, ys, sep, ts, ex, exs, sq, rr, et, hz, q⟩
  subst ex exs
  obtain ⟨t, rfl⟩ := rx
  obtain ⟨u, rfl, ru⟩ := vals1 rs
  cases ru
  obtain ⟨its, rv, pl, _⟩ := I.list sq
  obtain ⟨h1, h2⟩ := texts_of rr rv et
  refine join_list pl.isList (by simpa using h1) ?_ fun t' k => ?_
  · rw [sum_len, List.length_map, str_len]
    exact hz
  · have e : Txt.join (⟨sep.toArray⟩ : Str) (ts.map fun t => ⟨t.toArray⟩) = (⟨(Tw.joinS sep ts).toArray⟩ : Str) := (PySem.StrLaws.glued_eq_join _ _).trans (join_eq sep ts)
    rw [e]
    exact ⟨.str ⟨(Tw.joinS sep ts).toArray⟩, H, I.tok _, ⟨_, rfl⟩, q⟩
theorem s_join (me : Me X o "join" apos [e] cpos) (hst : starEach [e] X.env = [(false, eval e X.env)]) (ho : PE X o (tE X.K da)) (he : PE X e (tE X.K db)) :
    PE X (.Call (.Attribute o "join" apos) [e] [] cpos) (tE X.K (dM1 .join da db)) := by
  refine PE.imp (pe_bm PySem.F.plainAttrs_str PySem.F.slot_str_join PySem.F.type_str_join mt_join ho (pa_cons he pa_nil hst) me.base me.few me.line hst rfl) fun σ H Q ⟨ρ, h, ι, at', p⟩ => ?_
  refine ⟨ρ, h, ι, at', (step at' p).mono fun x H1 ⟨w, h1, ι1, at1, e1, r1, p1⟩ => ?_⟩
  obtain ⟨hc, p1⟩ := Post.ite p1
  cases r1 with
  | str sep hsep =>
    refine ⟨rfl, ρ, h1, ι1, at1, (step at1 p1).mono fun y H2 ⟨u, h2, ι2, at2, e2, r2, p2⟩ => ?_⟩
    have p3 : Post X.K RE ι2 h2 H2 (match Tw.items h2 u with
      | some ys => match Tw.texts ys with
        | some ts => if (ts.map (·.length)).sum + ts.length * sep.length ≤ Tw.SZ then .ok (.str (Tw.joinS sep ts)) h2 else .bad
        | none => .bad
      | none => .bad) Q := p2
    cases ei : Tw.items h2 u with
    | none => rw [ei] at p3; exact p3.elim
    | some ws =>
      rw [ei] at p3
      dsimp only at p3
      cases et : Tw.texts ws with
      | none => rw [et] at p3; exact p3.elim
      | some ts =>
        rw [et] at p3
        dsimp only at p3
        by_cases c : (ts.map (·.length)).sum + ts.length * sep.length ≤ Tw.SZ
        · rw [if_pos c] at p3
          clear p2
          cases r2 with
          | @ref i hi =>
            have ei : Tw.lstAt h2 i = some ws := ei
            obtain ⟨ys, sq, rr⟩ := at2.hr.at ei
            have okt : ∀ t ∈ ts, okS t := by
              have key : ∀ {ws : List Tw.W} {ys : List V} {ts : List Tw.S}, RWs ι2 h2.length H2 ws ys → Tw.texts ws = some ts → ∀ t ∈ ts, okS t := by
                intro ws ys ts rr et
                induction ws generalizing ys ts with
                | nil => cases et; intro t ht; cases ht
                | cons w ws ih =>
                  cases rr with
                  | cons a rr =>
                    cases a with
                    | str x hx =>
                      have et : (Tw.texts ws).map (x :: ·) = some ts := et
                      cases e2 : Tw.texts ws with
                      | none => rw [e2] at et; cases et
                      | some ts' =>
                        rw [e2] at et
                        cases et
                        intro t ht
                        rcases List.mem_cons.mp ht with rfl | ht
                        · exact hx
                        · exact ih rr e2 t ht
                    | _ => cases et
              exact key rr et
            exact ⟨ι2, h2.length, ws, _, ys, sep, ts, rfl, rfl, sq, rr, et, c, Post.self (a := Tw.W.str (Tw.joinS sep ts)) p3 at2.hr (RW.str _ (okS_join hsep okt))⟩
          | _ => cases ei
        · rw [if_neg c] at p3; exact p3.elim
  | _ => cases hc
theorem s_dic0 : PE X (.Dict [] [] pos) (tE X.K fun _ h => Tw.new (.dic []) h) :=
  PE.imp pe_dnewK fun σ H Q ⟨ρ, h, ι, at', p⟩ => p.dic at'.hr .nil
end
end TwS

set_option Elab.async false
set_option linter.all false
set_option maxRecDepth 100000
set_option maxHeartbeats 1000000
namespace TwS
open PySem L2 PyProof.Rows
/-- what a statement of ours is to reach -/
def PostS (K : PySem.W.Frag) (ι : Nat → Addr) (h : Tw.Hp) (H : L2.Hp) (m : Tw.R Tw.Fl) (D : Ends) : Prop := match m with
  | .ok (.next ρ) h' => ∀ ι' H' σ', Ext ι h H ι' h' H' → At K ι' h' H' ρ σ' → D.nx σ' H'
  | .ok (.brk ρ) h' => ∀ ι' H' σ', Ext ι h H ι' h' H' → At K ι' h' H' ρ σ' → D.bk σ' H'
  | .ok (.cont ρ) h' => ∀ ι' H' σ', Ext ι h H ι' h' H' → At K ι' h' H' ρ σ' → D.ct σ' H'
  | .ok (.ret w) h' => ∀ ι' H' v, Ext ι h H ι' h' H' → HR K ι' h' H' → RW ι' h'.length H' w v → D.rt v H'
  | .exn _ _ => False
  | .bad => False
def tSt (K : PySem.W.Frag) (d : Tw.Env → Tw.Hp → Tw.R Tw.Fl) : TS := fun D σ H => ∃ ρ h ι, At K ι h H ρ σ ∧ PostS K ι h H (d ρ h) D
section
variable {K : PySem.W.Frag} {α β : Type} {R : Rl α β} {ι ι1 : Nat → Addr} {h h1 : Tw.Hp} {H H1 : L2.Hp} {ρ : Tw.Env} {σ : L2.St}
theorem PostS.later {m : Tw.R Tw.Fl} {D : Ends} (p : PostS K ι h H m D) (e : Ext ι h H ι1 h1 H1) : PostS K ι1 h1 H1 m D := by
  cases m with
  | ok f h' => cases f <;> exact fun ι' H' σ' e' => p ι' H' σ' (e.trans e')
  | exn => exact p
  | bad => exact p
theorem stepS {m : Tw.R α} {k : α → Tw.Hp → Tw.R Tw.Fl} {D : Ends} (a : At K ι h H ρ σ) (p : PostS K ι h H (m.bind k) D) :
    Post K R ι h H m (fun x H1 => ∃ w h1 ι1, At K ι1 h1 H1 ρ σ ∧ Ext ι h H ι1 h1 H1 ∧ R ι1 h1.length H1 w x ∧ PostS K ι1 h1 H1 (k w h1) D) := by
  cases m with
  | ok w h1 => exact fun ι' H' b e r q => ⟨w, h1, ι', a.later e r, e, q, PostS.later p e⟩
  | exn => exact p
  | bad => exact p
theorem At.set {w : Tw.W} {v : V} (a : At K ι h H ρ σ) (r : RW ι h.length H w v) (i : Nat) : At K ι h H (ρ.set i (some w)) (σ.set i (some v)) where
  hr := a.hr
  len := by rw [List.length_set, List.length_set]; exact a.len
  st := fun j u e => by
    by_cases z : i = j
    · subst z
      have hi : i < ρ.length := by
        have := (List.getElem?_eq_some_iff.mp e).1
        simpa using this
      rw [List.getElem?_set_self hi] at e
      cases e
      exact ⟨v, List.getElem?_set_self (by rw [a.len]; exact hi), r⟩
    · rw [List.getElem?_set_ne z] at e
      obtain ⟨v', h1, h2⟩ := a.st j u e
      exact ⟨v', by rw [List.getElem?_set_ne z]; exact h1, h2⟩
theorem PostS.next {D : Ends} (p : PostS K ι h H (.ok (.next ρ) h) D) (a : At K ι h H ρ σ) : D.nx σ H := p ι H σ (Ext.refl _ _ _) a
end
section
variable {X : Cx} {a b c e o : Expr} {pos pos' : Pos} {da db dc : Tw.Env → Tw.Hp → Tw.R Tw.W}
theorem s_expr (ha : PE X a (tE X.K da)) (hs : swapsWith a none pos.line X.env = pure false) : PS X (.Expr a pos) (tSt X.K fun ρ h => (da ρ h).bind fun _ h => .ok (.next ρ) h) :=
  PS.imp (ps_expr ha hs) fun D σ H ⟨ρ, h, ι, at', p⟩ => ⟨ρ, h, ι, at', (stepS at' p).mono fun x H1 ⟨w, h1, ι1, at1, e1, r1, p1⟩ => p1.next at1⟩
theorem s_ret (ha : PE X a (tE X.K da)) : PS X (.Return (some a) pos) (tSt X.K fun ρ h => (da ρ h).bind fun x h => .ok (.ret x) h) :=
  PS.imp (ps_ret ha) fun D σ H ⟨ρ, h, ι, at', p⟩ => ⟨ρ, h, ι, at', (stepS at' p).mono fun x H1 ⟨w, h1, ι1, at1, e1, r1, p1⟩ => p1 ι1 H1 x (Ext.refl _ _ _) at1.hr r1⟩
theorem s_retN : PS X (.Return none pos) (tSt X.K fun _ h => .ok (.ret .non) h) :=
  PS.imp ps_retN fun D σ H ⟨ρ, h, ι, at', p⟩ => p ι H .non (Ext.refl _ _ _) at'.hr .non
theorem s_pass : PS X (.Pass pos) (tSt X.K fun ρ h => .ok (.next ρ) h) := PS.imp ps_pass fun D σ H ⟨ρ, h, ι, at', p⟩ => p.next at'
theorem s_brk : PS X (.Break pos) (tSt X.K fun ρ h => .ok (.brk ρ) h) := PS.imp ps_break fun D σ H ⟨ρ, h, ι, at', p⟩ => p ι H σ (Ext.refl _ _ _) at'
theorem s_cont : PS X (.Continue pos) (tSt X.K fun ρ h => .ok (.cont ρ) h) := PS.imp ps_continue fun D σ H ⟨ρ, h, ι, at', p⟩ => p ι H σ (Ext.refl _ _ _) at'
theorem s_set {i : Nat} {x : Str} (hN : X.N.Nodup) (hi : X.N[i]? = some x) (hx : Loc X.env.scope x) (ha : PE X a (tE X.K da)) (hs : swapsWith a (some (.Name x pos')) pos.line X.env = pure false) (hf : X.fn x = true) :
    PS X (.Assign [.Name x pos'] a pos) (tSt X.K fun ρ h => (da ρ h).bind fun w h => .ok (.next (ρ.set i (some w))) h) :=
  PS.imp (ps_set hN hi hx ha hs (.inl hf)) fun D σ H ⟨ρ, h, ι, at', p⟩ => ⟨ρ, h, ι, at', (stepS at' p).mono fun y H1 ⟨w, h1, ι1, at1, e1, r1, p1⟩ => p1.next (at1.set r1 i)⟩
theorem s_if {sa sb : List Stmt} {ta tb : Tw.Env → Tw.Hp → Tw.R Tw.Fl} (hc : PT X c (tT X.K dc)) (ha : PSs X sa (tSt X.K ta)) (hb : PSs X sb (tSt X.K tb)) :
    PS X (.If c sa sb pos) (tSt X.K fun ρ h => (dc ρ h).bind fun x h => match Tw.truth h x with
      | some true => ta ρ h
      | some false => tb ρ h
      | none => .bad) := by
  refine PS.imp (ps_if hc ha hb) fun D σ H ⟨ρ, h, ι, at', p⟩ => ⟨ρ, h, ι, at', ?_⟩
  simp only [dT]
  dsimp only at p
  cases e0 : dc ρ h with
  | bad => rw [e0] at p; exact p.elim
  | exn => rw [e0] at p; exact p.elim
  | ok w h1 =>
    simp only [e0, Tw.R.bind_ok] at p ⊢
    cases e : Tw.truth h1 w with
    | none => rw [e] at p; exact p.elim
    | some k =>
      rw [e] at p
      intro ι' H' k' e1 r1 q
      cases q
      cases k with
      | true => rw [if_pos rfl]; exact ⟨ρ, h1, ι', at'.later e1 r1, PostS.later p e1⟩
      | false => rw [if_neg (by decide)]; exact ⟨ρ, h1, ι', at'.later e1 r1, PostS.later p e1⟩
theorem ss_nil : PSs X [] (tSt X.K fun ρ h => .ok (.next ρ) h) := PSs.imp pss_nil fun D σ H ⟨ρ, h, ι, at', p⟩ => p.next at'
theorem ss_cons {st : Stmt} {rest : List Stmt} {t u : Tw.Env → Tw.Hp → Tw.R Tw.Fl} (h1 : PS X st (tSt X.K t)) (h2 : PSs X rest (tSt X.K u)) :
    PSs X (st :: rest) (tSt X.K fun ρ h => (t ρ h).bind fun f h => match f with
      | .next ρ => u ρ h
      | f => .ok f h) := by
  refine PSs.imp (pss_cons h1 h2) fun D σ H ⟨ρ, h, ι, at', p⟩ => ⟨ρ, h, ι, at', ?_⟩
  dsimp only at p
  cases e : t ρ h with
  | bad => rw [e] at p; exact p.elim
  | exn => rw [e] at p; exact p.elim
  | ok f h1 =>
    simp only [e, Tw.R.bind_ok] at p
    cases f with
    | next ρ1 => exact fun ι' H' σ' e1 a1 => ⟨ρ1, h1, ι', a1, PostS.later p e1⟩
    | ret w => exact p
    | brk ρ1 => exact p
    | cont ρ1 => exact p
theorem set_dict (hu : X.A.units + 1 < cLine) : PSet X (fun o i v H Q => ∃ a H', o = .ref a ∧ DPut H a i v H' ∧ Q H') := by
  intro pins s σ H o i v ov iv u Q I ro ri rv ⟨a, H', eo, g, q⟩
  subst eo
  cases ro
  exact d_setItem hu I g ri rv fun s4 I4 => ⟨H', I4, q⟩
theorem PSet.or {t t' : TSet} (h1 : PSet X t) (h2 : PSet X t') : PSet X (fun o i v H Q => t o i v H Q ∨ t' o i v H Q) := by
  intro pins s σ H o i v ov iv u Q I ro ri rv q
  rcases q with q | q
  · exact h1 pins s σ H o i v ov iv u Q I ro ri rv q
  · exact h2 pins s σ H o i v ov iv u Q I ro ri rv q
def rPutW : TSet := fun o i v H Q => rSetL o i v H Q ∨ ∃ a H', o = .ref a ∧ DPut H a i v H' ∧ Q H'
theorem put_ok {ι : Nat → Addr} {h : Tw.Hp} {H : L2.Hp} {wo wk wv : Tw.W} {o k v : V} {ρ : Tw.Env} {σ : L2.St} {D : Ends}
    (a : At X.K ι h H ρ σ) (ro : RW ι h.length H wo o) (rk : RW ι h.length H wk k) (rv : RW ι h.length H wv v) (p : PostS X.K ι h H ((Tw.putI wo wk wv h).bind fun _ h => .ok (.next ρ) h) D) :
    rPutW o k v H fun H' => D.nx σ H' := by
  cases ro with
  | @ref i hi =>
    cases ei : h[i]? with
    | none => simp only [Tw.putI, ei] at p; exact p.elim
    | some ob =>
      cases ob with
      | lst ws =>
        obtain ⟨xs, q1, q2⟩ := a.hr.lst ei
        cases rk with
        | int n =>
          simp only [Tw.putI, ei] at p
          cases e2 : Tw.ixN ws.length n with
          | none => rw [e2] at p; exact p.elim
          | some j =>
            rw [e2] at p
            refine .inl ⟨_, xs, n, j, rfl, rfl, q1, by rw [← q2.length, ← ixN_eq]; exact e2, ?_⟩
            obtain ⟨hr', ex⟩ := a.hr.put (o := .lst (xs.set j v)) (u := .lst (ws.set j wv)) ei rfl rfl (fun _ z => nomatch z) fun H' kp z => ⟨xs.set j v, z, (q2.set rv j).keep kp⟩
            exact p ι _ σ ex (a.later ex hr')
        | _ => simp only [Tw.putI, ei] at p; exact p.elim
      | dic kvs =>
        obtain ⟨xs, q1, q2⟩ := a.hr.dic ei
        have p : PostS X.K ι h H ((if Tw.isKey wk = true ∧ kvs.length < Tw.SZ then (.ok () (h.set i (.dic (Tw.dput wk wv kvs))) : Tw.R Unit) else .bad).bind fun _ h => .ok (.next ρ) h) D := by
          simp only [Tw.putI, ei] at p
          cases wk <;> exact p
        by_cases c : Tw.isKey wk = true ∧ kvs.length < Tw.SZ
        · rw [if_pos c] at p
          obtain ⟨q, rfl⟩ := key_of' rk c.1
          refine .inr ⟨_, _, rfl, DPut.k q1 (by rw [← q2.length, line_eq]; exact c.2), ?_⟩
          obtain ⟨hr', ex⟩ := a.hr.put (o := .dK (putK xs q v)) (u := .dic (Tw.dput wk wv kvs)) ei rfl rfl (fun _ z => nomatch z) fun H' kp z => ⟨_, z, ((q2.put rk rv).keep kp)⟩
          exact p ι _ σ ex (a.later ex hr')
        · rw [if_neg c] at p; exact p.elim
      | frz ws => simp only [Tw.putI, ei] at p; cases wk <;> exact p.elim
      | ins _ _ => exact (a.hr.obj i _ ei).elim
  | _ => exact p.elim
end
end TwS

set_option Elab.async false
set_option linter.all false
set_option maxRecDepth 100000
set_option maxHeartbeats 1000000
namespace TwS
open PySem L2 PyProof.Rows
section
variable {X : Cx} {a b c e o k : Expr} {pos pos' : Pos} {da db dc dv : Tw.Env → Tw.Hp → Tw.R Tw.W}
theorem swaps_sub (v x y : Expr) (p : Pos) (l : Nat) (env : Env) : swapsWithSole [.Subscript x y p] v l env = pure false := by
  cases v <;> rfl
theorem stores_sub (v x y : Expr) (p : Pos) (env : Env) : swappedStores [.Subscript x y p] v env = pure none := by
  cases v <;> rfl
theorem s_put (hu : X.A.units + 1 < cLine) (hv : PE X a (tE X.K dv)) (ho : PE X o (tE X.K da)) (hk : PE X k (tE X.K db))
    (has : ∀ v, assign (.Subscript o k pos') X.env v = (do
      let ov ← holding [v] (eval o X.env)
      let iv ← holding [v, ov] (eval k X.env)
      standAt pos'
      holding [v, ov, iv] (setItem ov iv v)
      release [v, ov, iv] [])) :
    PS X (.Assign [.Subscript o k pos'] a pos) (tSt X.K fun ρ h => (dv ρ h).bind fun v h => (da ρ h).bind fun x h => (db ρ h).bind fun y h => (Tw.putI x y v h).bind fun _ h => .ok (.next ρ) h) := by
  refine PS.imp (ps_asg hv (pg_sub ho hk (PSet.or set_list (set_dict hu)) has) (swaps_sub _ _ _ _ _ _) (stores_sub _ _ _ _ _)) fun D σ H ⟨ρ, h, ι, at', p⟩ => ?_
  refine ⟨ρ, h, ι, at', (stepS at' p).mono fun v H1 ⟨wv, h1, ι1, at1, e1, r1, p1⟩ => ⟨ρ, h1, ι1, at1, (stepS at1 p1).mono fun x H2 ⟨wo, h2, ι2, at2, e2, r2, p2⟩ => ⟨ρ, h2, ι2, at2, (stepS at2 p2).mono fun y H3 ⟨wk, h3, ι3, at3, e3, r3, p3⟩ => ?_⟩⟩⟩
  exact put_ok at3 (r2.keep (e3.keeps at2.hr)) r3 ((r1.keep (e2.keeps at1.hr)).keep (e3.keeps at2.hr)) p3
theorem PI.or {tg iter : Expr} {w w' : TI} (h1 : PI X tg iter w) (h2 : PI X tg iter w') : PI X tg iter (fun σ H R => w σ H R ∨ w' σ H R) := by
  intro pins s σ H R I q
  rcases q with q | q
  · exact h1 pins s σ H R I q
  · exact h2 pins s σ H R I q
/-- a target, by our setting -/
def TgOk (K : PySem.W.Frag) (t : Tw.Tg) (g : TG) : Prop := ∀ (ι : Nat → Addr) (h : Tw.Hp) (H : L2.Hp) (ρ ρ1 : Tw.Env) (σ : L2.St) (w : Tw.W) (x : V) (Q : L2.St → L2.Hp → Prop), At K ι h H ρ σ → RW ι h.length H w x → Tw.setT t w ρ = some ρ1 →
  (∀ σ1, At K ι h H ρ1 σ1 → Q σ1 H) → g x σ H Q
theorem tg_var (K : PySem.W.Frag) (i : Nat) : TgOk K (.var i) (gName i) := fun ι h H ρ ρ1 σ w x Q a r e q => by
  cases e
  exact q _ (a.set r i)
theorem tg_two (K : PySem.W.Frag) (i j : Nat) : TgOk K (.two i j) (gTup K 2 (gCons (gName i) (gCons (gName j) gNil))) := fun ι h H ρ ρ1 σ w x Q a r e q => by
  cases r with
  | @tup ad xs ws ea ra =>
    cases ra with
    | nil => cases e
    | cons r1 ra =>
      cases ra with
      | nil => cases e
      | cons r2 ra =>
        cases ra with
        | nil =>
          cases e
          exact ⟨ad, _, rfl, SqT.of ea, rfl, _, _, rfl, _, _, rfl, rfl, q _ ((a.set r1 i).set r2 j)⟩
        | cons r3 ra => cases e
  | _ => cases e
/-- the body behind a turn -/
theorem turn_post {K : PySem.W.Frag} {ι : Nat → Addr} {h : Tw.Hp} {H : L2.Hp} {m : Tw.R Tw.Fl} {go : Tw.Env → Tw.Hp → Tw.R Tw.Fl} {D : Ends} {N : L2.St → L2.Hp → Prop}
    (p : PostS K ι h H (m.bind fun f h => match f with
      | .next σ => go σ h
      | .cont σ => go σ h
      | .brk σ => .ok (.next σ) h
      | .ret w => .ok (.ret w) h) D)
    (hN : ∀ ρ h1 ι1 H1 σ1, Ext ι h H ι1 h1 H1 → At K ι1 h1 H1 ρ σ1 → PostS K ι1 h1 H1 (go ρ h1) D → N σ1 H1) : PostS K ι h H m { D with nx := N, ct := N, bk := D.nx } := by
  cases m with
  | bad => exact p
  | exn => exact p
  | ok f h1 =>
    cases f with
    | next ρ => exact fun ι' H' σ' e a => hN ρ h1 ι' H' σ' e a (PostS.later p e)
    | cont ρ => exact fun ι' H' σ' e a => hN ρ h1 ι' H' σ' e a (PostS.later p e)
    | brk ρ => exact p
    | ret w => exact p
theorem drop_at {α : Type} {ws : List α} {i : Nat} {w : α} (e : ws[i]? = some w) : ws.drop i = w :: ws.drop (i + 1) := by
  obtain ⟨hi, e⟩ := List.getElem?_eq_some_iff.mp e
  rw [List.drop_eq_getElem_cons hi, e]
theorem upTo_get : ∀ (n : Nat) (lo : Int) (i : Nat), i < n → (Tw.upTo lo n).drop i = .int (lo + i) :: (Tw.upTo lo n).drop (i + 1)
  | 0, _, _, h => by omega
  | n + 1, lo, 0, _ => by simp [Tw.upTo]
  | n + 1, lo, i + 1, h => by
    rw [Tw.upTo, List.drop_succ_cons, List.drop_succ_cons, upTo_get n (lo + 1) i (by omega)]
    congr 2
    push_cast
    omega
theorem upTo_len : ∀ (n : Nat) (lo : Int), (Tw.upTo lo n).length = n
  | 0, _ => rfl
  | n + 1, lo => by simp [Tw.upTo, upTo_len n]
end
end TwS

set_option Elab.async false
set_option linter.all false
set_option maxRecDepth 100000
set_option maxHeartbeats 1000000
namespace TwS
open PySem L2 PyProof.Rows
section
variable {K : PySem.W.Frag} {ι ι1 : Nat → Addr} {h h1 : Tw.Hp} {H H1 : L2.Hp} {ρ : Tw.Env} {σ : L2.St} {a : Addr}
/-- not one of ours -/
def Alien (ι : Nat → Addr) (h : Tw.Hp) (a : Addr) : Prop := ∀ (i : Nat) (o : Tw.O), h[i]? = some o → isMut o = true → ι i ≠ a
theorem Alien.later (al : Alien ι h a) (e : Ext ι h H ι1 h1 H1) (ha : H a ≠ none) : Alien ι1 h1 a := fun i o ei m z => by
  by_cases hi : i < h.length
  · obtain ⟨o', eo⟩ : ∃ o', h[i]? = some o' := ⟨_, List.getElem?_eq_getElem hi⟩
    rw [e.same i hi] at z
    exact al i o' eo (by rw [← e.fz i o' o eo ei]; exact m) z
  · exact ha (by rw [← z]; exact e.new i (Nat.not_lt.mp hi) (lt_of ei))
theorem HR.other {u o : HO} (r : HR K ι h H) (al : Alien ι h a) (ha : H a = some u) (n1 : ∀ xs, u ≠ .tup xs) (n2 : ∀ o v, u ≠ .frz o v) : HR K ι h (upd H a o) := by
  have kp : Keeps ι h.length H ι h.length (upd H a o) := ⟨Nat.le_refl _, fun _ _ => rfl, fun b xs e => by
    rw [upd_ne (fun z => by rw [z, ha] at e; cases e; exact n1 _ rfl)]; exact e⟩
  refine ⟨fun i v q => ?_, r.inj⟩
  by_cases m : isMut v = true
  · exact (r.obj i v q).keep kp fun w e => by rw [upd_ne (al i v q m)]; exact e
  · cases v with
    | frz ws =>
      obtain ⟨xs, sq, rr⟩ := r.obj i _ q
      rcases sq with ⟨o', sq⟩ | sq
      · refine ⟨xs, .inl ⟨o', ?_⟩, rr.keep kp⟩
        rw [upd_ne (fun z => by rw [z, ha] at sq; cases sq; exact n2 _ _ rfl)]; exact sq
      · exact ⟨xs, .inr sq, rr.keep kp⟩
    | _ => exact absurd rfl m
theorem Ext.other {u o : HO} (e : Ext ι h H ι1 h1 H1) (ha : H a = none) (ha1 : H1 a = some u) : Ext ι h H ι1 h1 (upd H1 a o) :=
  ⟨e.len, e.same, fun b v q n => by rw [upd_ne (ne_of_none q ha)]; exact e.fr b v q n, e.new, fun b q => e.dom b (dom_upd b q), e.fz⟩
theorem HR.adopt {u : Tw.O} {o : HO} (r : HR K ι h H) (al : Alien ι h a) (ha : H a = some o) (m : isMut u = true) (ro : ∀ ι' n', Keeps ι h.length H ι' n' H → RO K ι' n' H a u) : HR K (iNew ι h.length a) (h ++ [u]) H := by
  have hl : (h ++ [u]).length = h.length + 1 := by simp
  have kp : Keeps ι h.length H (iNew ι h.length a) (h ++ [u]).length H := ⟨by omega, fun i hi => iNew_lt hi, fun _ _ e => e⟩
  have two : ∀ {i : Nat} {v : Tw.O}, (h ++ [u])[i]? = some v → (i < h.length ∧ h[i]? = some v) ∨ (i = h.length ∧ v = u) := fun {i v} e => by
    have hi := lt_of e
    by_cases z : i < h.length
    · rw [List.getElem?_append_left z] at e; exact .inl ⟨z, e⟩
    · have z' : i = h.length := by omega
      subst z'
      simp at e
      exact .inr ⟨rfl, e.symm⟩
  refine ⟨fun i v q => ?_, fun i j v w q1 q2 m1 m2 z => ?_⟩
  · rcases two q with ⟨hi, q⟩ | ⟨rfl, rfl⟩
    · rw [iNew_lt hi]; exact (r.obj i v q).keep kp fun _ e => e
    · rw [iNew_at]; exact ro _ _ kp
  · rcases two q1 with ⟨hi, p1⟩ | ⟨ei, ev⟩ <;> rcases two q2 with ⟨hj, p2⟩ | ⟨ej, ew⟩
    · rw [iNew_lt hi, iNew_lt hj] at z; exact r.inj i j v w p1 p2 m1 m2 z
    · rw [iNew_lt hi, ej, iNew_at] at z; exact absurd z (al i v p1 m1)
    · rw [ei, iNew_at, iNew_lt hj] at z; exact absurd z.symm (al j w p2 m2)
    · rw [ei, ej]
theorem Ext.adopt {u : Tw.O} (e : Ext ι h H ι1 h1 H1) (ha : H a = none) : Ext ι h H (iNew ι1 h1.length a) (h1 ++ [u]) H1 := by
  have hl : (h1 ++ [u]).length = h1.length + 1 := by simp
  refine ⟨by have := e.len; omega, fun i hi => (iNew_lt (Nat.lt_of_lt_of_le hi e.len)).trans (e.same i hi), e.fr, fun i g1 g2 => ?_, e.dom, fun i o v q1 q2 => ?_⟩
  · by_cases hi : i < h1.length
    · rw [iNew_lt hi]; exact e.new i g1 hi
    · have : i = h1.length := by omega
      subst this
      rw [iNew_at]; exact ha
  · have hi := Nat.lt_of_lt_of_le (lt_of q1) e.len
    rw [List.getElem?_append_left hi] at q2
    exact e.fz i o v q1 q2
end
/-- the iterator gives our items -/
def Feeds (K : PySem.W.Frag) (J : It) (src : Tw.Src) (ι : Nat → Addr) (q : Nat) (H : L2.Hp) : Prop :=
  (∃ ad xs ws, J = Itt K ad ∧ src = .fix ws ∧ H ad = some (.tup xs) ∧ RWs ι q H ws xs) ∨ (∃ lo n, J = Itr lo n ∧ src = .fix (Tw.upTo lo n)) ∨ ∃ i n b, J = Itl K b ∧ b = ι i ∧ src = .at i n ∧ i < q
theorem Feeds.later {K : PySem.W.Frag} {J : It} {src : Tw.Src} {ι ι1 : Nat → Addr} {q q1 : Nat} {H H1 : L2.Hp} (f : Feeds K J src ι q H) (k : Keeps ι q H ι1 q1 H1) : Feeds K J src ι1 q1 H1 := by
  rcases f with ⟨ad, xs, ws, e1, e2, e3, r⟩ | f | ⟨i, n, b, e1, e2, e3, hi⟩
  · exact .inl ⟨ad, xs, ws, e1, e2, k.tup _ _ e3, r.keep k⟩
  · exact .inr (.inl f)
  · exact .inr (.inr ⟨i, n, b, e1, e2.trans (k.same i hi).symm, e3, Nat.lt_of_lt_of_le hi k.le⟩)
/-- the walk from turn i on, m turns at most -/
def wk (src : Tw.Src) (k : Tw.W → List Tw.W → Tw.Hp → Tw.R (List Tw.W)) (i m : Nat) (acc : List Tw.W) (h : Tw.Hp) : Tw.R (List Tw.W) := match src with
  | .fix ws => Tw.walkL k (ws.drop i) acc h
  | .at a _ => Tw.walkA a k m i acc h
def srcLen : Tw.Src → Nat
  | .fix ws => ws.length
  | .at _ n => n
theorem wk_start (src : Tw.Src) (k : Tw.W → List Tw.W → Tw.Hp → Tw.R (List Tw.W)) (h : Tw.Hp) : Tw.walk src k h = wk src k 0 (srcLen src) [] h := by
  cases src <;> rfl
theorem wk_turn {K : PySem.W.Frag} {J : It} {src : Tw.Src} {ι : Nat → Addr} {h : Tw.Hp} {H : L2.Hp} (r : HR K ι h H) (f : Feeds K J src ι h.length H) (k : Tw.W → List Tw.W → Tw.Hp → Tw.R (List Tw.W)) (i m : Nat) (acc : List Tw.W) (hm : ∀ ws, src = .fix ws → m = ws.length - i) :
    wk src k i m acc h = .bad ∨ (J.stop i H ∧ wk src k i m acc h = .ok acc h) ∨
      ∃ w m', m = m' + 1 ∧ J.go i H ∧ (∀ x H', J.yld i H x H' → H' = H ∧ RW ι h.length H w x) ∧ (∀ ws, src = .fix ws → m' = ws.length - (i + 1)) ∧ wk src k i m acc h = (k w acc h).bind fun acc h => wk src k (i + 1) m' acc h := by
  rcases f with ⟨ad, xs, ws, rfl, rfl, e3, rr⟩ | ⟨lo, n, rfl, rfl⟩ | ⟨j, n, b, rfl, rfl, rfl, hi⟩
  · have hm := hm ws rfl
    cases hw : ws[i]? with
    | none =>
      have hl := List.getElem?_eq_none_iff.mp hw
      refine .inr (.inl ⟨⟨xs, SqT.of e3, by rw [← rr.length]; exact hl⟩, ?_⟩)
      show Tw.walkL k (ws.drop i) acc h = _
      rw [List.drop_eq_nil_of_le hl]; rfl
    | some w =>
      obtain ⟨v, hv, rv⟩ := rr.get hw
      have hl := (List.getElem?_eq_some_iff.mp hw).1
      refine .inr (.inr ⟨w, ws.length - (i + 1), by omega, ⟨xs, v, SqT.of e3, hv⟩, fun x H' ⟨eH, hx⟩ => ⟨eH, ?_⟩, fun ws' e => by cases e; rfl, ?_⟩)
      · have := hx xs (SqT.of e3)
        rw [hv] at this; cases this; exact rv
      · show Tw.walkL k (ws.drop i) acc h = _
        rw [drop_at hw]; rfl
  · have hm := hm _ rfl
    rw [upTo_len] at hm
    by_cases hi : i < n
    · refine .inr (.inr ⟨.int (lo + i), n - (i + 1), by omega, hi, fun x H' ⟨eH, hx⟩ => ⟨eH, by rw [hx]; exact .int _⟩, fun ws' e => by cases e; rw [upTo_len], ?_⟩)
      show Tw.walkL k ((Tw.upTo lo n).drop i) acc h = _
      rw [upTo_get n lo i hi]; rfl
    · refine .inr (.inl ⟨Nat.not_lt.mp hi, ?_⟩)
      show Tw.walkL k ((Tw.upTo lo n).drop i) acc h = _
      rw [List.drop_eq_nil_of_le (by rw [upTo_len]; omega)]; rfl
  · cases e : Tw.lstAt h j with
    | none =>
      refine .inl ?_
      show Tw.walkA j k m i acc h = _
      unfold Tw.walkA; rw [e]
    | some ws =>
      obtain ⟨xs, sq, rr⟩ := r.at e
      cases hw : ws[i]? with
      | none =>
        refine .inr (.inl ⟨⟨xs, sq, by rw [← rr.length]; exact List.getElem?_eq_none_iff.mp hw⟩, ?_⟩)
        show Tw.walkA j k m i acc h = _
        unfold Tw.walkA; simp only [e, hw]
      | some w =>
        cases m with
        | zero =>
          refine .inl ?_
          show Tw.walkA j k 0 i acc h = _
          unfold Tw.walkA; simp only [e, hw]
        | succ m =>
          obtain ⟨v, hv, rv⟩ := rr.get hw
          refine .inr (.inr ⟨w, m, rfl, ⟨xs, v, sq, hv⟩, fun x H' ⟨eH, hx⟩ => ⟨eH, ?_⟩, (fun ws' e => nomatch e), ?_⟩)
          · have := hx xs sq
            rw [hv] at this; cases this; exact rv
          · show Tw.walkA j k (m + 1) i acc h = _
            conv => lhs; unfold Tw.walkA
            simp only [e, hw]
            rfl
def closL (env : Env) : List (Str × NameKind) → List (Str × Addr) → List (Str × Addr)
  | [], cs => cs
  | (n, k) :: r, cs => closL env r (if k == .free then (n, (env.cells.lookup n).getD 0) :: cs else cs)
theorem closure_eq {scope : Scope} {env : Env} (h : ∀ y ∈ scope.names, y.2 = .free → ∃ c, env.cells.lookup y.1 = some c) : closureFor scope env = pure (closL env scope.names []) := by
  have key : ∀ (names : List (Str × NameKind)) (cs : List (Str × Addr)), (∀ y ∈ names, y.2 = .free → ∃ c, env.cells.lookup y.1 = some c) →
      (forIn (m := Sem) names cs fun x r => match x with
        | (name, kind) => if (kind == NameKind.free) = true then do let c ← cellOf env name; pure (ForInStep.yield ((name, c) :: r)) else pure (ForInStep.yield r)) = pure (closL env names cs) := by
    intro names
    induction names with
    | nil => intro cs _; rfl
    | cons y r ih =>
      intro cs h
      obtain ⟨n, k⟩ := y
      have ih := fun cs => ih cs fun z hz => h z (List.mem_cons_of_mem _ hz)
      rw [List.forIn_cons]
      by_cases hk : k = .free
      · subst hk
        obtain ⟨c, hc⟩ := h (n, .free) List.mem_cons_self rfl
        have e : cellOf env n = pure c := by unfold cellOf; rw [hc]
        have t : closL env ((n, NameKind.free) :: r) cs = closL env r ((n, c) :: cs) := by
          rw [closL, hc]; rfl
        rw [t, ← ih]
        dsimp only
        rw [e]
        rfl
      · have hb : (k == NameKind.free) = false := by simpa using hk
        have t : closL env ((n, k) :: r) cs = closL env r cs := by
          rw [closL, hb]; rfl
        rw [t, ← ih]
        dsimp only
        rw [hb]
        rfl
  unfold closureFor
  have k2 := key scope.names [] h
  exact (congrArg (fun m : Sem (List (Str × Addr)) => m >>= fun cs => pure cs) k2).trans rfl
/-- what is found in the closure -/
theorem clos_look {env : Env} : ∀ {names : List (Str × NameKind)} {cs : List (Str × Addr)} {y : Str} {c : Addr}, (closL env names cs).lookup y = some c →
    cs.lookup y = some c ∨ ((y, NameKind.free) ∈ names ∧ (env.cells.lookup y).getD 0 = c)
  | [], cs, y, c, e => .inl e
  | (n, k) :: r, cs, y, c, e => by
    rw [closL] at e
    rcases clos_look e with e | ⟨h1, h2⟩
    · by_cases hk : k = .free
      · subst hk
        rw [if_pos (by rfl), List.lookup_cons] at e
        by_cases hy : (y == n) = true
        · rw [hy] at e
          have : y = n := by simpa using hy
          subst this
          cases e
          exact .inr ⟨List.mem_cons_self, rfl⟩
        · rw [Bool.not_eq_true] at hy
          rw [hy] at e
          exact .inl e
      · rw [if_neg (by simpa using hk)] at e
        exact .inl e
    · exact .inr ⟨List.mem_cons_of_mem _ h1, h2⟩
theorem clos_has {env : Env} : ∀ {names : List (Str × NameKind)} {cs : List (Str × Addr)} {y : Str}, ((y, NameKind.free) ∈ names ∨ ∃ c, cs.lookup y = some c) → ∃ c, (closL env names cs).lookup y = some c
  | [], cs, y, h => by
    rcases h with h | h
    · cases h
    · exact h
  | (n, k) :: r, cs, y, h => by
    rw [closL]
    refine clos_has ?_
    rcases h with h | ⟨c, h⟩
    · rcases List.mem_cons.mp h with h | h
      · cases h
        refine .inr ⟨(env.cells.lookup n).getD 0, ?_⟩
        rw [if_pos (by rfl), List.lookup_cons]
        simp
      · exact .inl h
    · refine .inr ?_
      by_cases hk : (k == NameKind.free) = true
      · rw [if_pos hk, List.lookup_cons]
        by_cases hy : (y == n) = true
        · rw [hy]; exact ⟨_, rfl⟩
        · rw [Bool.not_eq_true] at hy; rw [hy]; exact ⟨c, h⟩
      · rw [if_neg hk]; exact ⟨c, h⟩
end TwS

set_option Elab.async false
set_option linter.all false
set_option maxRecDepth 100000
set_option maxHeartbeats 1000000
namespace TwS
open PySem L2 PyProof.Rows
/-- the names of a comprehension's block: those around it, but for the one that it binds itself -/
def compN (N : List Str) (x : Str) : List Str := (N.map fun y => if y = x then ("" : Str) else y) ++ [x]
/-- what must be seen of a comprehension's scope -/
structure CScope (N : List Str) (outer : Scope) (x : Str) (sc : Scope) : Prop where
  kind : sc.kind = .function
  okind : outer.kind = .function
  nocell : ∀ y ∈ sc.names, y.2 ≠ .cell
  locs : ∀ y ∈ sc.names, y.2 = .local → sc.names.lookup y.1 = some .local
  isx : sc.names.lookup x = some .local
  only : ∀ y k, sc.names.lookup y = some k → k = .local → y ∈ N → y = x
  free : ∀ y ∈ sc.names, y.2 = .free → outer.names.lookup y.1 = some .cell ∨ outer.names.lookup y.1 = some .free
  noname : sc.names.lookup ("" : Str) = none
/-- the block's context -/
def compCx (X : Cx) (scope : Scope) (C : Addr) (x : Str) (s : Shared) (H : L2.Hp) (pins : List (Addr × Obj)) (fp : List Addr) : Cx :=
  { X with N := compN X.N x, s₀ := s, H₀ := H, env := compEnvC scope (closL X.env scope.names []) C X.env, outer := X.stack, stack := X.stack, ex := fp, fn := fun _ => false, pn := X.pn ++ pins, xe := fun _ _ => False }
theorem lookup_mem {l : List (Str × NameKind)} {y : Str} {k : NameKind} (h : l.lookup y = some k) : (y, k) ∈ l := PySem.mem_of_lookup h
theorem relabel_look {env : Env} {y : Str} {k : NameKind} : ∀ {names : List (Str × NameKind)}, (names.map fun (n, k) => if (k == NameKind.free && env.scope.kind == .function && env.kindOf n == some .cell) then (n, NameKind.cell) else (n, k)).lookup y = some k →
    ∃ k', names.lookup y = some k' ∧ (k = k' ∨ (k = .cell ∧ k' = .free))
  | [], h => by simp at h
  | (n, j) :: r, h => by
    rw [List.map_cons, List.lookup_cons] at h
    by_cases hc : (j == NameKind.free && env.scope.kind == .function && env.kindOf n == some .cell) = true
    · rw [if_pos hc] at h
      by_cases hy : (y == n) = true
      · simp only [hy] at h
        cases h
        refine ⟨j, by rw [List.lookup_cons, hy], .inr ⟨rfl, ?_⟩⟩
        simp only [Bool.and_eq_true, beq_iff_eq] at hc
        exact hc.1.1
      · rw [Bool.not_eq_true] at hy
        simp only [hy] at h
        obtain ⟨k', h1, h2⟩ := relabel_look h
        exact ⟨k', by rw [List.lookup_cons, hy]; exact h1, h2⟩
    · rw [if_neg hc] at h
      by_cases hy : (y == n) = true
      · simp only [hy] at h
        cases h
        exact ⟨_, by rw [List.lookup_cons, hy], .inl rfl⟩
      · rw [Bool.not_eq_true] at hy
        simp only [hy] at h
        obtain ⟨k', h1, h2⟩ := relabel_look h
        exact ⟨k', by rw [List.lookup_cons, hy]; exact h1, h2⟩
section
variable {X : Cx} {pins : List (Addr × Obj)} {σ : L2.St} {H : L2.Hp} {s : Shared} {scope : Scope} {x : Str}
theorem inv_vis (I : Inv X pins σ H s) (cs : CScope X.N X.env.scope x scope) : ∀ y ∈ scope.names, y.2 = .free → ∃ c, X.env.cells.lookup y.1 = some c := fun y hy hf => by
  rcases cs.free y hy hf with h | h
  · exact I.ok.has y.1 (.inl h)
  · exact I.ok.has y.1 (.inr h)
/-- a cell of the closure is one of the cells around -/
theorem inv_closc (I : Inv X pins σ H s) (cs : CScope X.N X.env.scope x scope) {y : Str} {c : Addr} (e : (closL X.env scope.names []).lookup y = some c) : X.env.cells.lookup y = some c := by
  rcases clos_look e with e | ⟨h1, h2⟩
  · simp at e
  · obtain ⟨c', hc⟩ := inv_vis I cs _ h1 rfl
    dsimp only at hc
    rw [hc] at h2 ⊢
    cases h2; rfl
/-- into the block -/
theorem inv_enter {h' : Heap} {t' : Nat} (I : Inv X pins σ H s) (cs : CScope X.N X.env.scope x scope) {fp : List Addr} (hf : ∀ b ∈ fp, FpOk X pins H b) (hlt : ∀ b ∈ fp, b < s.heap.objs.size)
    (ns : h'.Ns s.heap.objs.size fun _ => none) (kp : ∀ b o, s.heap.get? b = some o → h'.get? b = some o) :
    Inv (compCx X scope s.heap.objs.size x s H pins fp) [] (σ ++ [none]) H { s with heap := h', toks := t' } where
  ok := {
    mod := I.ok.mod
    kind := cs.kind
    glob := I.ok.glob
    blt := I.ok.blt
    above := Nat.le_refl _
    inj := fun y z c h1 h2 => I.ok.inj y z c (inv_closc I cs h1) (inv_closc I cs h2)
    has := fun y hy => by
      have hy : (relabel scope X.env).names.lookup y = some .cell ∨ (relabel scope X.env).names.lookup y = some .free := hy
      refine clos_has (.inl ?_)
      have fr : ∀ k, (k = .cell ∨ k = .free) → (relabel scope X.env).names.lookup y = some k → (y, NameKind.free) ∈ scope.names := fun k hk e => by
        obtain ⟨k', e', h⟩ := relabel_look (env := X.env) e
        have m := lookup_mem e'
        rcases h with h | ⟨_, h⟩
        · subst h
          rcases hk with hk | hk
          · exact absurd hk (cs.nocell _ m)
          · rw [← hk]; exact m
        · rw [← h]; exact m
      rcases hy with hy | hy
      · exact fr _ (.inl rfl) hy
      · exact fr _ (.inr rfl) hy
    cab := fun y c h => nomatch h
    hd := I.ok.hd
    frames := I.ok.frames
    stk := .inl rfl
    exf := fun b hb => ⟨Nat.ne_of_lt (hlt b hb), fun y c e => (hf b hb).2.2.2.2.1 y c (inv_closc I cs e)⟩
    bs := I.bs
    bsz := Nat.le_trans I.ok.bsz I.sz
    noex := fun b o e z => by
      rcases (hf b z).2.2.2.1 with w | w
      · exact I.ok.noex b o e w
      · exact absurd (Nat.lt_of_lt_of_le (Heap.lt_size e) (Nat.le_trans I.ok.bsz w)) (Nat.lt_irrefl _)
    exfs := fun b hb z => by
      rcases List.mem_cons.mp (I.stkSub b z) with w | w
      · exact (hf b hb).2.1 w
      · exact (hf b hb).2.2.1 w
    funs := I.stack
    frf := I.stkFree }
  os := rfl
  bare := I.bare
  base := Un.kept kp
  loc := by
    refine ⟨_, ns, fun i y v e1 e2 e3 => ?_⟩
    have hl : i < σ.length := by
      rcases Nat.lt_or_ge i σ.length with z | z
      · exact z
      · rw [List.getElem?_append_right z] at e2
        cases q : i - σ.length with
        | zero => rw [q] at e2; simp at e2
        | succ n => rw [q] at e2; simp at e2
    rw [List.getElem?_append_left hl] at e2
    have hN : i < X.N.length := by rw [← I.len]; exact hl
    have e1 : (compN X.N x)[i]? = some y := e1
    unfold compN at e1
    rw [List.getElem?_append_left (by simpa using hN), List.getElem?_map, List.getElem?_eq_getElem hN] at e1
    have e1 : (if X.N[i] = x then ("" : Str) else X.N[i]) = y := by simpa using e1
    -- how the name is seen in the block
    have hv : ∃ k, (relabel scope X.env).names.lookup y = some k := by
      rcases e3 with e3 | e3 | e3
      · exact ⟨_, e3⟩
      · exact ⟨_, e3⟩
      · exact ⟨_, e3⟩
    obtain ⟨k, hk⟩ := hv
    obtain ⟨k', hk', hkk⟩ := relabel_look (env := X.env) hk
    by_cases hx : X.N[i] = x
    · rw [if_pos hx] at e1
      rw [← e1, cs.noname] at hk'; cases hk'
    · rw [if_neg hx] at e1
      have yN : y ∈ X.N := by rw [← e1]; exact List.getElem_mem _
      have hfree : k' = .free ∧ (k = .cell ∨ k = .free) := by
        have hne : k' ≠ .local := fun z => hx (by rw [e1]; exact cs.only y k' hk' z yN)
        have hnc : k' ≠ .cell := fun z => cs.nocell _ (lookup_mem hk') z
        rcases e3 with e3 | e3 | e3
        · have e3 : (relabel scope X.env).names.lookup y = some .local := e3
          rw [hk] at e3; cases e3
          rcases hkk with z | ⟨z, _⟩
          · exact absurd z.symm hne
          · cases z
        · have e3 : (relabel scope X.env).names.lookup y = some .cell := e3
          rw [hk] at e3; cases e3
          rcases hkk with z | ⟨_, z⟩
          · exact absurd z.symm hnc
          · exact ⟨z, .inl rfl⟩
        · have e3 : (relabel scope X.env).names.lookup y = some .free := e3
          rw [hk] at e3; cases e3
          rcases hkk with z | ⟨z, _⟩
          · exact ⟨z.symm, .inr rfl⟩
          · cases z
      have m := lookup_mem hk'
      rw [hfree.1] at m
      have vis : Vis X.env.scope y := by
        rcases cs.free _ m rfl with z | z
        · exact .inr (.inl z)
        · exact .inr (.inr z)
      obtain ⟨mm, hns, hl⟩ := I.loc
      obtain ⟨u, ru, lk⟩ := hl i y v (by rw [List.getElem?_eq_getElem hN, e1]) e2 vis
      refine ⟨u, ru, .inr ⟨?_, ?_⟩⟩
      · rcases hfree.2 with z | z
        · exact .inl (by rw [← z]; exact hk)
        · exact .inr (by rw [← z]; exact hk)
      · rcases lk with ⟨z, _⟩ | ⟨_, c, ec, hc⟩
        · exfalso
          have z : X.env.scope.names.lookup y = some .local := z
          rcases cs.free _ m rfl with w | w
          · have w : X.env.scope.names.lookup y = some .cell := w
            rw [z] at w; cases w
          · have w : X.env.scope.names.lookup y = some .free := w
            rw [z] at w; cases w
        · obtain ⟨c', ec'⟩ := clos_has (env := X.env) (names := scope.names) (cs := []) (y := y) (.inl m)
          have := inv_closc I cs ec'
          rw [ec] at this; cases this
          refine ⟨c, ec', ?_⟩
          obtain ⟨o, ho, hd⟩ := hc
          exact ⟨o, kp _ _ ho, hd⟩
  cell := fun y c e => by
    obtain ⟨v, o, ho, hd⟩ := I.cell y c (inv_closc I cs e)
    exact ⟨v, o, kp _ _ ho, hd⟩
  free := I.hok.fresh (Nat.le_refl _)
  freeC := fun y c e => I.freeC y c (inv_closc I cs e)
  pin := fun p hp => by
    have hp : p ∈ (X.pn ++ pins) ++ [] := hp
    rw [List.append_nil] at hp
    obtain ⟨h1, h2, h3, h4, h5⟩ := I.pin p hp
    refine ⟨kp _ _ h1, h2, Nat.ne_of_lt (Heap.lt_size h1), fun z => ?_, h5⟩
    rcases List.mem_cons.mp (I.stkSub p.1 z) with w | w
    · exact h3 w
    · exact h4 w
  hok := I.hok.kept kp
  len := by
    show (σ ++ [none]).length = (compN X.N x).length
    unfold compN
    simp [I.len]
end
end TwS

set_option Elab.async false
set_option linter.all false
set_option maxRecDepth 100000
set_option maxHeartbeats 1000000
namespace TwS
open PySem L2 PyProof.Rows
abbrev tI (K : PySem.W.Frag) (d : Tw.Env → Tw.Hp → Tw.R Tw.Src) : TI := tG K (fun ι n H src J => Feeds K J src ι n H) d
section
variable {X : Cx} {a b : Expr} {pos : Pos} {da db : Tw.Env → Tw.Hp → Tw.R Tw.W}
theorem PI.imp {tg iter : Expr} {w w' : TI} (p : PI X tg iter w) (f : ∀ σ H R, w' σ H R → w σ H R) : PI X tg iter w' := fun pins s σ H R I q => p pins s σ H R I (f σ H R q)
theorem i_seq {tg : Expr} (ha : PE X a (tE X.K da)) : PI X tg a (tI X.K fun ρ h => (da ρ h).bind fun x h => Tw.R.of (Tw.src h x) h) := by
  refine PI.imp (PI.or (pi_list ha) (pi_tup ha)) fun σ H R ⟨ρ, h, ι, at', p⟩ => ?_
  dsimp only at p
  cases e0 : da ρ h with
  | bad => rw [e0] at p; exact p.elim
  | exn => rw [e0] at p; exact p.elim
  | ok w h1 =>
    rw [e0] at p
    simp only [Tw.R.bind_ok] at p
    cases w with
    | tup ws =>
      refine .inr ⟨ρ, h, ι, at', ?_⟩
      rw [e0]
      intro ι1 H1 x e1 r1 rx
      cases rx with
      | @tup ad xs _ ea ra => exact ⟨ad, rfl, ⟨xs, SqT.of ea⟩, p ι1 H1 _ e1 r1 (.inl ⟨ad, xs, ws, rfl, rfl, ea, ra⟩)⟩
    | ref i =>
      cases e2 : Tw.lstAt h1 i with
      | none =>
        have : Tw.src h1 (.ref i) = none := by
          unfold Tw.lstAt at e2
          simp only [Tw.src]
          split at e2
          · cases e2
          · cases e2
          · rfl
        rw [this] at p; exact p.elim
      | some ws0 =>
        have : Tw.src h1 (.ref i) = some (.at i ws0.length) := by
          unfold Tw.lstAt at e2
          simp only [Tw.src]
          split at e2
          · cases e2; rfl
          · cases e2; rfl
          · cases e2
        rw [this] at p
        refine .inl ⟨ρ, h, ι, at', ?_⟩
        rw [e0]
        intro ι1 H1 x e1 r1 rx
        cases rx with
        | ref hi =>
          obtain ⟨xs0, sq0, _⟩ := r1.at e2
          exact ⟨_, rfl, ⟨xs0, sq0⟩, p ι1 H1 _ e1 r1 (.inr (.inr ⟨i, _, _, rfl, rfl, rfl, hi⟩))⟩
    | _ => exact p.elim
theorem i_rng {tg : Expr} {p1 pos2 : Pos} (hgl : Gl X "range") (hm : X.mg "range" = none) (ha : PE X a (tE X.K da)) (hst : starEach [a] X.env = [(false, eval a X.env)]) :
    PI X tg (.Call (.Name "range" p1) [a] [] pos2) (tI X.K fun ρ h => (da ρ h).bind fun x h => match x with
      | .int j => if Tw.rngOk j then .ok (.fix (Tw.upTo 0 j.toNat)) h else .bad
      | _ => .bad) := by
  refine PI.imp (pi_range1 hgl hm (pa_cons ha pa_nil hst) hst) fun σ H R ⟨ρ, h, ι, at', p⟩ => ?_
  refine ⟨ρ, h, ι, at', (step at' p).mono fun x H1 ⟨w, h1, ι1, at1, e1, r1, p1⟩ => ?_⟩
  cases r1 with
  | int j =>
    dsimp only at p1
    by_cases c : Tw.rngOk j = true
    · rw [if_pos c] at p1
      simp only [Tw.rngOk, Bool.and_eq_true, decide_eq_true_eq] at c
      exact ⟨j, rfl, c.1, c.2, Post.self (a := Tw.Src.fix (Tw.upTo 0 j.toNat)) p1 at1.hr (.inr (.inl ⟨0, j.toNat, rfl, rfl⟩))⟩
    · rw [if_neg c] at p1; exact p1.elim
  | _ => exact p1.elim
theorem i_rng2 {tg : Expr} {p1 pos2 : Pos} (hgl : Gl X "range") (hm : X.mg "range" = none) (ha : PE X a (tE X.K da)) (hb' : PE X b (tE X.K db)) (hst : starEach [a, b] X.env = [(false, eval a X.env), (false, eval b X.env)]) (hst2 : starEach [b] X.env = [(false, eval b X.env)]) :
    PI X tg (.Call (.Name "range" p1) [a, b] [] pos2) (tI X.K fun ρ h => (da ρ h).bind fun x h => (db ρ h).bind fun y h => match x, y with
      | .int i, .int j => if Tw.rngOk i && Tw.rngOk j then .ok (.fix (Tw.upTo i (j - i).toNat)) h else .bad
      | _, _ => .bad) := by
  refine PI.imp (pi_range2 hgl hm (pa_cons ha (pa_cons hb' pa_nil hst2) (by rw [hst, hst2])) hst hst2) fun σ H R ⟨ρ, h, ι, at', p⟩ => ?_
  refine ⟨ρ, h, ι, at', (step at' p).mono fun x H1 ⟨w, h1, ι1, at1, e1, r1, p1⟩ => ⟨ρ, h1, ι1, at1, (step at1 p1).mono fun y H2 ⟨u, h2, ι2, at2, e2, r2, p2⟩ => ?_⟩⟩
  cases r1 with
  | int i =>
    cases r2 with
    | int j =>
      dsimp only at p2
      by_cases c : (Tw.rngOk i && Tw.rngOk j) = true
      · rw [if_pos c] at p2
        simp only [Tw.rngOk, Bool.and_eq_true, decide_eq_true_eq] at c
        exact ⟨i, j, rfl, ⟨c.1.1, c.1.2, c.2.1, c.2.2⟩, Post.self (a := Tw.Src.fix (Tw.upTo i (j - i).toNat)) p2 at2.hr (.inr (.inl ⟨i, _, rfl, rfl⟩))⟩
      · rw [if_neg c] at p2; exact p2.elim
    | _ => exact p2.elim
  | _ => cases u <;> exact p2.elim
end
theorem walkL_len {k : Tw.W → List Tw.W → Tw.Hp → Tw.R (List Tw.W)} (hk : ∀ w acc h acc' h', k w acc h = .ok acc' h' → acc.length ≤ acc'.length) :
    ∀ (ws acc : List Tw.W) (h : Tw.Hp) (acc' : List Tw.W) (h' : Tw.Hp), Tw.walkL k ws acc h = .ok acc' h' → acc.length ≤ acc'.length
  | [], acc, h, acc', h', e => by cases e; exact Nat.le_refl _
  | w :: ws, acc, h, acc', h', e => by
    rw [Tw.walkL] at e
    cases e1 : k w acc h with
    | bad => rw [e1] at e; cases e
    | exn => rw [e1] at e; cases e
    | ok acc1 h1 =>
      rw [e1] at e
      exact Nat.le_trans (hk _ _ _ _ _ e1) (walkL_len hk ws acc1 h1 acc' h' e)
theorem walkA_len {a : Nat} {k : Tw.W → List Tw.W → Tw.Hp → Tw.R (List Tw.W)} (hk : ∀ w acc h acc' h', k w acc h = .ok acc' h' → acc.length ≤ acc'.length) :
    ∀ (m i : Nat) (acc : List Tw.W) (h : Tw.Hp) (acc' : List Tw.W) (h' : Tw.Hp), Tw.walkA a k m i acc h = .ok acc' h' → acc.length ≤ acc'.length := by
  intro m
  induction m with
  | zero =>
    intro i acc h acc' h' e
    unfold Tw.walkA at e
    split at e
    · cases e
    · split at e
      · cases e; exact Nat.le_refl _
      · cases e
  | succ m ih =>
    intro i acc h acc' h' e
    unfold Tw.walkA at e
    split at e
    · cases e
    · split at e
      · cases e; exact Nat.le_refl _
      · next w _ =>
        dsimp only at e
        cases e1 : k w acc h with
        | bad => rw [e1] at e; cases e
        | exn => rw [e1] at e; cases e
        | ok acc1 h1 =>
          rw [e1] at e
          exact Nat.le_trans (hk _ _ _ _ _ e1) (ih (i + 1) acc1 h1 acc' h' e)
theorem wk_len {src : Tw.Src} {k : Tw.W → List Tw.W → Tw.Hp → Tw.R (List Tw.W)} (hk : ∀ w acc h acc' h', k w acc h = .ok acc' h' → acc.length ≤ acc'.length) {i m : Nat} {acc acc' : List Tw.W} {h h' : Tw.Hp}
    (e : wk src k i m acc h = .ok acc' h') : acc.length ≤ acc'.length := by
  cases src with
  | fix ws => exact walkL_len hk _ _ _ _ _ e
  | «at» a n => exact walkA_len hk _ _ _ _ _ _ e
theorem compK_len {dc : Tw.Env → Tw.Hp → Tw.R (Option Tw.W)} {de : Tw.Env → Tw.Hp → Tw.R Tw.W} {ρ : Tw.Env} (w : Tw.W) (acc : List Tw.W) (h : Tw.Hp) (acc' : List Tw.W) (h' : Tw.Hp) (e : Tw.compK dc de ρ w acc h = .ok acc' h') : acc.length ≤ acc'.length := by
  unfold Tw.compK at e
  cases e1 : dc (ρ ++ [some w]) h with
  | bad => rw [e1] at e; cases e
  | exn => rw [e1] at e; cases e
  | ok t h1 =>
    rw [e1] at e
    simp only [Tw.R.bind_ok] at e
    split at e
    · cases e
    · cases e2 : de (ρ ++ [some w]) h1 with
      | bad => rw [e2] at e; cases e
      | exn => rw [e2] at e; cases e
      | ok y h2 => rw [e2] at e; cases e; simp
    · cases e; exact Nat.le_refl _
theorem pure_then {α β : Type} {M : Model} {A : Around} {v : α} {Q : α → Shared → Prop} {E : Value → Shared → Prop} {s : Shared} {t : Sem β} {Q' : β → Shared → Prop} {E' : Value → Shared → Prop} (h : wpAny M A (pure v) Q E s) (k : Q v s → wpAny M A t Q' E' s) : wpAny M A t Q' E' s :=
  fun Γ p hΓ => k (h Γ p hΓ) Γ p hΓ
theorem At.snoc {K : PySem.W.Frag} {ι : Nat → Addr} {h : Tw.Hp} {H : L2.Hp} {ρ : Tw.Env} {σ : L2.St} {w : Tw.W} {v : V} (a : At K ι h H ρ σ) (r : RW ι h.length H w v) : At K ι h H (ρ ++ [some w]) (σ ++ [some v]) where
  hr := a.hr
  len := by simp [a.len]
  st := fun i u e => by
    rcases Nat.lt_or_ge i ρ.length with hi | hi
    · rw [List.getElem?_append_left hi] at e
      rw [List.getElem?_append_left (by rw [a.len]; exact hi)]
      exact a.st i u e
    · rw [List.getElem?_append_right hi] at e
      rw [List.getElem?_append_right (by rw [a.len]; exact hi), a.len]
      cases q : i - ρ.length with
      | zero => rw [q] at e; simp at e; subst e; exact ⟨v, rfl, r⟩
      | succ n => rw [q] at e; simp at e
end TwS

set_option Elab.async false
set_option linter.all false
set_option maxRecDepth 100000
set_option maxHeartbeats 1000000
namespace TwS
open PySem L2 PyProof.Rows
section
variable {X : Cx} {pins : List (Addr × Obj)} {σ σ' : L2.St} {H Hc : L2.Hp} {s s1 : Shared} {scope : Scope} {x : Str} {fp : List Addr}
/-- out of the block -/
theorem inv_leave {h' : Heap} (I : Inv X pins σ H s) (hf : ∀ b ∈ fp, FpOk X pins H b) (J : Inv (compCx X scope s.heap.objs.size x s H pins fp) [] σ' Hc s1) (hs : Heap.SameBut s.heap.objs.size s1.heap h') : Inv X pins σ Hc { s1 with heap := h' } := by
  have ne : ∀ b o, s.heap.get? b = some o → b ≠ s.heap.objs.size := fun b o e => Nat.ne_of_lt (Heap.lt_size e)
  have to' : ∀ b o, b ≠ s.heap.objs.size → s1.heap.get? b = some o → h'.get? b = some o := fun b o n e => hs.extBut b o n e
  have B := J.base
  have hC : Hc s.heap.objs.size = none := J.free
  have u : Un (frs X.stack) fp H Hc s.heap h' := by
    refine ⟨fun b o e n h1 h2 => to' b o (ne b o e) (B.keep b o e n h1 h2), fun b o e n h1 h2 => ?_, B.free, fun b o e h2 => ?_, B.tups, B.frzs, B.tbls⟩
    · obtain ⟨sl, q⟩ := B.slot b o e n h1 h2
      exact ⟨sl, to' b _ (ne b o e) q⟩
    · obtain ⟨o', q⟩ := B.there b o e h2
      exact ⟨o', to' b o' (ne b o e) q⟩
  have hok : HOk X.prog X.w Hc h' := fun b v e => by
    refine (J.hok b v e).stay (fun c w hc q => to' c w ?_ q) (fun _ q => q) fun _ _ q => q
    rcases hc with z | z
    · rw [z]; intro z'; rw [z', hC] at e; cases e
    · intro z'; rw [z', hC] at z; cases z
  have os : s1.os = s.os := J.os
  obtain ⟨hh, g, d, t, os'⟩ := s1
  cases os
  have fin := L2.Inv.call (s := s) (h' := h') (g' := g) (d' := d) (t' := t) (ch := fp) I u hok J.bare fun b hb => ⟨(hf b hb).2.2.2.1, (hf b hb).2.1, (hf b hb).2.2.2.2.1, (hf b hb).2.2.2.2.2⟩
  exact fin
end
/-- the test of a comprehension -/
def TestOk (X : Cx) (scope : Scope) (x : Str) (ifs : List Expr) (dc : Tw.Env → Tw.Hp → Tw.R (Option Tw.W)) : Prop :=
  (ifs = [] ∧ ∀ ρ h, dc ρ h = .ok none h) ∨ ∃ c d, ifs = [c] ∧ (∀ ρ h, dc ρ h = (d ρ h).bind fun w h => .ok (some w) h) ∧ ∀ C s H pins fp, PT (compCx X scope C x s H pins fp) c (tT X.K d)
section
variable {X : Cx} {elt iter : Expr} {x : Str} {px pos : Pos} {ifs : List Expr} {scope : Scope} {dit : Tw.Env → Tw.Hp → Tw.R Tw.Src} {dc : Tw.Env → Tw.Hp → Tw.R (Option Tw.W)} {de : Tw.Env → Tw.Hp → Tw.R Tw.W}
theorem compN_at (N : List Str) (x : Str) : (compN N x)[N.length]? = some x := by
  unfold compN
  rw [List.getElem?_append_right (by simp)]
  simp
theorem fp_in {pins : List (Addr × Obj)} {s3 : Shared} {H3 Hc : L2.Hp} {fp : List Addr} {σ : L2.St} (I : Inv X pins σ H3 s3) (cs : CScope X.N X.env.scope x scope) (f3 : ∀ b ∈ fp, FpOk X pins H3 b) (lt3 : ∀ b ∈ fp, b < s3.heap.objs.size) (fz : ∀ b ∈ fp, Hc b = none) :
    ∀ b ∈ fp, FpOk (compCx X scope s3.heap.objs.size x s3 H3 pins fp) [] Hc b := fun b hb => by
  obtain ⟨_, f1, f2, _, f4, f5⟩ := f3 b hb
  refine ⟨fz b hb, Nat.ne_of_lt (lt3 b hb), fun z => ?_, .inl hb, fun y c e => f4 y c (inv_closc I cs e), fun p hp => ?_⟩
  · rcases List.mem_cons.mp (I.stkSub b z) with w | w
    · exact f1 w
    · exact f2 w
  · have hp : p ∈ (X.pn ++ pins) ++ [] := hp
    rw [List.append_nil] at hp
    exact f5 p hp
theorem post_self {K : PySem.W.Frag} {α β γ δ : Type} {R : Rl α β} {R' : Rl γ δ} {ι ι0 : Nat → Addr} {h h0 : Tw.Hp} {H H0 : L2.Hp} {m : Tw.R α} {k : α → Tw.Hp → Tw.R γ} {Q : δ → L2.Hp → Prop} (p : Post K R' ι0 h0 H0 (m.bind k) Q) :
    Post K R ι h H m (fun b H' => ∃ a h' ι', m = .ok a h' ∧ Ext ι h H ι' h' H' ∧ HR K ι' h' H' ∧ R ι' h'.length H' a b) := by
  cases m with
  | ok w h1 => exact fun ι' H' b e r q => ⟨w, h1, ι', rfl, e, r, q⟩
  | exn => exact p
  | bad => exact p
theorem bind_asc {K : PySem.W.Frag} {α β γ δ : Type} {R' : Rl γ δ} {ι0 : Nat → Addr} {h0 : Tw.Hp} {H0 : L2.Hp} {m : Tw.R α} {f : α → Tw.Hp → Tw.R β} {g : β → Tw.Hp → Tw.R γ} {Q : δ → L2.Hp → Prop} (p : Post K R' ι0 h0 H0 ((m.bind f).bind g) Q) : Post K R' ι0 h0 H0 (m.bind fun a h => (f a h).bind g) Q := by
  cases m <;> exact p
theorem Keeps.trans {ι ι1 ι2 : Nat → Addr} {n n1 n2 : Nat} {H H1 H2 : L2.Hp} (a : Keeps ι n H ι1 n1 H1) (b : Keeps ι1 n1 H1 ι2 n2 H2) : Keeps ι n H ι2 n2 H2 :=
  ⟨Nat.le_trans a.le b.le, fun i hi => (b.same i (Nat.lt_of_lt_of_le hi a.le)).trans (a.same i hi), fun c xs e => b.tup c xs (a.tup c xs e)⟩
theorem comp_block {pins : List (Addr × Obj)} {s3 : Shared} {H2 H3 : L2.Hp} {fp : List Addr} {σ : L2.St} {ρ : Tw.Env} {ι1 : Nat → Addr} {h1 : Tw.Hp} {D it : Addr} {tn : Nat → Heap → Prop} {J : It} {src : Tw.Src} {Q : VK} {h4 : Heap} {t4 : Nat}
    (hc : X.calm = true) (cs : CScope X.N X.env.scope x scope) (hnd : (compN X.N x).Nodup) (hel : ∀ C s H pins fp, PE (compCx X scope C x s H pins fp) elt (tE X.K de)) (hts : TestOk X scope x ifs dc)
    (I3 : Inv X pins σ H3 s3) (hD : H3 D = some (.lst [])) (fresh : H2 D = none) (x3 : Ext ι1 h1 H2 ι1 h1 H3) (at3 : At X.K ι1 h1 H3 ρ σ) (al3 : Alien ι1 h1 D) (fd3 : Feeds X.K J src ι1 h1.length H3)
    (p1 : Post X.K RE ι1 h1 H2 ((wk src (Tw.compK dc de ρ) 0 (srcLen src) [] h1).bind Tw.newL) Q) (T : Turn X.prog X.w X.K (.Name x px) J fp it tn) (st3 : tn 0 s3.heap) (f3 : ∀ b ∈ fp, FpOk X pins H3 b) (lt3 : ∀ b ∈ fp, b < s3.heap.objs.size)
    (ns : h4.Ns s3.heap.objs.size fun _ => none) (kp : ∀ b o, s3.heap.get? b = some o → h4.get? b = some o)
    {RR : Result → Shared → Prop} (hR : ∀ s1 Hc σ', Inv (compCx X scope s3.heap.objs.size x s3 H3 pins fp) [] σ' Hc s1 → Q (.ref D) Hc → RR (.ok .next) s1) :
    codeAny (model X.prog X.w) X.A (.compStart (.ListComp elt [⟨.Name x px, iter, ifs, 0⟩] scope pos) 0 (.ref it) (.ref D) (compEnvC scope (closL X.env scope.names []) s3.heap.objs.size X.env))
      RR { s3 with heap := h4, toks := t4 } := by
  have I4 : Inv (compCx X scope s3.heap.objs.size x s3 H3 pins fp) [] (σ ++ [none]) H3 { s3 with heap := h4, toks := t4 } := inv_enter I3 cs f3 lt3 ns kp
  have st4 : tn 0 h4 := T.keep 0 _ _ st3 fun b _ o e => kp b o e
  have lsx : Loc (relabel scope X.env) x := .inl (lookup_relabel_local cs.isx)
  have loop : codeAny (model X.prog X.w) X.A (.compLoop (.ListComp elt [⟨.Name x px, iter, ifs, 0⟩] scope pos) 0 (.ref it) (.ref D) (compEnvC scope (closL X.env scope.names []) s3.heap.objs.size X.env))
      RR { s3 with heap := h4, toks := t4 } := by
    refine codeAny_compLoop_tests (fun n s' => ∃ i acc ys hh ι' Hc o, Inv (compCx X scope s3.heap.objs.size x s3 H3 pins fp) [] (σ ++ [o]) Hc s' ∧ tn i s'.heap ∧ (∀ b ∈ fp, Hc b = none) ∧ Hc D = some (.lst ys) ∧ Alien ι' hh D ∧
      At X.K ι' hh Hc ρ σ ∧ Ext ι1 h1 H2 ι' hh Hc ∧ RWs ι' hh.length Hc acc ys ∧ Feeds X.K J src ι' hh.length Hc ∧ (∀ ws, src = .fix ws → n = ws.length - i) ∧
      Post X.K RE ι1 h1 H2 ((wk src (Tw.compK dc de ρ) i n acc hh).bind Tw.newL) Q) ?_ (srcLen src)
      ⟨0, [], [], h1, ι1, H3, none, I4, st4, fun b hb => (f3 b hb).1, hD, al3, at3, x3, .nil, fd3, fun ws e => by subst e; rfl, p1⟩
    rintro n s' ⟨i, acc, ys, hh, ι', Hc, o, J1, tn1, fz, hDc, al, at5, ex, rr, fd, hm, pp⟩
    have fpo := fp_in (Hc := Hc) I3 cs f3 lt3 fz
    rcases wk_turn at5.hr fd (Tw.compK dc de ρ) i n acc hm with bad | ⟨stop, e⟩ | ⟨w, m, em, go, hy, hm', e⟩
    · rw [bad] at pp; exact pp.elim
    · -- the end
      refine thn (T.done (compCx X scope s3.heap.objs.size x s3 H3 pins fp) rfl rfl rfl hc i [] s' _ Hc _ J1 fpo tn1 stop) fun r s1 ⟨er, J2⟩ => ?_
      subst er
      rw [e] at pp
      refine hR s1 Hc _ J2 ?_
      have pp : Post X.K RE ι1 h1 H2 (if acc.length ≤ Tw.SZ then Tw.new (.lst acc) hh else .bad) Q := pp
      by_cases c : acc.length ≤ Tw.SZ
      · rw [if_pos c] at pp
        have hr' := at5.hr.adopt (u := .lst acc) al hDc rfl fun ι'' n'' k => ⟨ys, hDc, rr.keep k⟩
        have z : RW (iNew ι' hh.length D) (hh ++ [Tw.O.lst acc]).length Hc (.ref hh.length) (.ref (iNew ι' hh.length D hh.length)) := .ref (by simp)
        rw [iNew_at] at z
        exact pp _ _ _ (ex.adopt fresh) hr' z
      · rw [if_neg c] at pp; exact pp.elim
    · -- a turn
      subst em
      refine thn (T.item (compCx X scope s3.heap.objs.size x s3 H3 pins fp) rfl rfl rfl hc i [] s' _ Hc _ J1 fpo tn1 go) fun r s1 ⟨u, er, hl⟩ => ?_
      subst er
      refine pure_then (v := ()) hl fun ⟨v, Hc', J2, rv, yl, tn2, fz2⟩ => ?_
      obtain ⟨eH, rw'⟩ := hy v Hc' yl
      subst eH
      have J3 := J2.pinned fpo (T.obj _ _ tn2)
      have hset : (σ ++ [o]).set X.N.length (some v) = σ ++ [some v] := by
        rw [← I3.len, List.set_append_right _ _ (Nat.le_refl _)]
        simp
      have pg : PG (compCx X scope s3.heap.objs.size x s3 H3 pins fp) (.Name x px) (gName X.N.length) := pg_name hnd (compN_at X.N x) lsx (.inr (lookup_relabel_local cs.isx))
      refine wpAny_mono (pg _ s1 _ Hc' v u (fun σ2 H2' => σ2 = σ ++ [some v] ∧ H2' = Hc') J3 rv ⟨hset, rfl⟩) (fun _ sa ⟨σ2, Ha, Ja, e1, e2⟩ => ?_) fun _ _ f => f.elim
      subst e1 e2
      have at6 : At X.K ι' hh Ha (ρ ++ [some w]) (σ ++ [some v]) := at5.snoc rw'
      -- behind the test and the element
      have back : ∀ {Hb : L2.Hp} {sb : Shared} {acc' : List Tw.W} {ys' : List V} {hb : Tw.Hp} {ι2 : Nat → Addr}, Inv (compCx X scope s3.heap.objs.size x s3 H3 pins fp) ([] ++ pinsAt fp s1.heap) (σ ++ [some v]) Hb sb → Hb D = some (.lst ys') → Alien ι2 hb D →
          HR X.K ι2 hb Hb → Ext ι1 h1 H2 ι2 hb Hb → Keeps ι' hh.length Ha ι2 hb.length Hb → RWs ι2 hb.length Hb acc' ys' → Post X.K RE ι1 h1 H2 ((wk src (Tw.compK dc de ρ) (i + 1) m acc' hb).bind Tw.newL) Q →
          ∃ k, k < m + 1 ∧ ∃ i acc ys hh ι' Hc o, Inv (compCx X scope s3.heap.objs.size x s3 H3 pins fp) [] (σ ++ [o]) Hc sb ∧ tn i sb.heap ∧ (∀ b ∈ fp, Hc b = none) ∧ Hc D = some (.lst ys) ∧ Alien ι' hh D ∧
            At X.K ι' hh Hc ρ σ ∧ Ext ι1 h1 H2 ι' hh Hc ∧ RWs ι' hh.length Hc acc ys ∧ Feeds X.K J src ι' hh.length Hc ∧ (∀ ws, src = .fix ws → k = ws.length - i) ∧
            Post X.K RE ι1 h1 H2 ((wk src (Tw.compK dc de ρ) i k acc hh).bind Tw.newL) Q := fun {Hb sb acc' ys' hb ι2} Jb hDb alb rb exb kb rrb pb => by
        refine ⟨m, Nat.lt_succ_self _, i + 1, acc', ys', hb, ι2, Hb, some v, Jb.unpinned, T.keep _ _ _ tn2 fun b hb o e => (Jb.pin (b, o) (List.mem_append_right _ (List.mem_append_right _ (mem_pinsAt hb e)))).1, fun b hb => ?_, hDb, alb, ⟨rb, at5.len, fun j u q => ?_⟩, exb, rrb, fd.later kb, hm', pb⟩
        · obtain ⟨o, e, d⟩ := T.obj _ _ tn2 b hb
          exact (Jb.pin (b, o) (List.mem_append_right _ (List.mem_append_right _ (mem_pinsAt hb e)))).2.1
        · obtain ⟨v', q1, q2⟩ := at5.st j u q
          exact ⟨v', q1, q2.keep kb⟩
      rw [e] at pp
      -- the element and the append
      have elem : ∀ {Hb : L2.Hp} {sb : Shared} {hb : Tw.Hp} {ι2 : Nat → Addr}, Inv (compCx X scope s3.heap.objs.size x s3 H3 pins fp) ([] ++ pinsAt fp s1.heap) (σ ++ [some v]) Hb sb → Ext ι' hh Ha ι2 hb Hb → HR X.K ι2 hb Hb →
          Post X.K RE ι1 h1 H2 (((de (ρ ++ [some w]) hb).bind fun y h => (.ok (acc ++ [y]) h : Tw.R (List Tw.W))).bind fun acc h => (wk src (Tw.compK dc de ρ) (i + 1) m acc h).bind Tw.newL) Q →
          wpAny (model X.prog X.w) X.A (eval elt (compEnvC scope (closL X.env scope.names []) s3.heap.objs.size X.env)) (fun xq s₄ =>
            wpAny (model X.prog X.w) X.A (call (.builtin "list.append") [.ref D, xq]) (fun _ s₅ => ∃ k, k < m + 1 ∧ ∃ i acc ys hh ι' Hc o, Inv (compCx X scope s3.heap.objs.size x s3 H3 pins fp) [] (σ ++ [o]) Hc s₅ ∧ tn i s₅.heap ∧ (∀ b ∈ fp, Hc b = none) ∧ Hc D = some (.lst ys) ∧ Alien ι' hh D ∧
            At X.K ι' hh Hc ρ σ ∧ Ext ι1 h1 H2 ι' hh Hc ∧ RWs ι' hh.length Hc acc ys ∧ Feeds X.K J src ι' hh.length Hc ∧ (∀ ws, src = .fix ws → k = ws.length - i) ∧
            Post X.K RE ι1 h1 H2 ((wk src (Tw.compK dc de ρ) i k acc hh).bind Tw.newL) Q) (fun _ _ => False) s₄) (fun _ _ => False) sb := fun {Hb sb hb ι2} Jb eb rb pb => by
        have atb : At X.K ι2 hb Hb (ρ ++ [some w]) (σ ++ [some v]) := at6.later eb rb
        have pb' : Post X.K RE ι1 h1 H2 ((de (ρ ++ [some w]) hb).bind fun y h => (wk src (Tw.compK dc de ρ) (i + 1) m (acc ++ [y]) h).bind Tw.newL) Q := by
          cases q : de (ρ ++ [some w]) hb <;> rw [q] at pb <;> exact pb
        refine thn (hel _ _ _ _ _ _ sb _ Hb _ Jb ⟨_, hb, ι2, atb, post_self pb'⟩) fun xv s4 ⟨y, Hd, Jd, ry, yw, hd, ι3, ed, exd, rd, rwd⟩ => ?_
        rw [ed] at pb'
        have pb' : Post X.K RE ι1 h1 H2 ((wk src (Tw.compK dc de ρ) (i + 1) m (acc ++ [yw]) hd).bind Tw.newL) Q := pb'
        have e3 : Ext ι' hh Ha ι3 hd Hd := eb.trans exd
        have hDd : Hd D = some (.lst ys) := e3.fr D _ hDc al
        have ald : Alien ι3 hd D := al.later e3 (by rw [hDc]; exact fun z => nomatch z)
        have hlen : acc.length + 1 ≤ Tw.SZ := by
          cases q : wk src (Tw.compK dc de ρ) (i + 1) m (acc ++ [yw]) hd with
          | bad => rw [q] at pb'; exact pb'.elim
          | exn => rw [q] at pb'; exact pb'.elim
          | ok acc' h' =>
            rw [q] at pb'
            have pb' : Post X.K RE ι1 h1 H2 (if acc'.length ≤ Tw.SZ then Tw.new (.lst acc') h' else .bad) Q := pb'
            by_cases c : acc'.length ≤ Tw.SZ
            · have := wk_len compK_len q
              rw [List.length_append, List.length_singleton] at this
              omega
            · rw [if_neg c] at pb'; exact pb'.elim
        have kd : Keeps ι3 hd.length Hd ι3 hd.length (upd Hd D (.lst (ys ++ [y]))) := ⟨Nat.le_refl _, fun _ _ => rfl, fun b xs e => by
          rw [upd_ne (fun z => by rw [z, hDd] at e; cases e)]; exact e⟩
        refine thn (mt_append (X := compCx X scope s3.heap.objs.size x s3 H3 pins fp) _ s4 _ Hd (.ref D) [y] (.ref D) [xv] (fun _ Hn => Hn = upd Hd D (.lst (ys ++ [y]))) Jd rfl (.cons ry .nil) ⟨D, ys, y, rfl, rfl, hDd, ?_, rfl⟩) fun _ s5 ⟨_, Hn, Jn, _, eHn⟩ => ?_
        · rw [← rr.length, line_eq]; omega
        · subst eHn
          have al' : Alien ι3 hd D := ald
          have kk : Keeps ι' hh.length Ha ι3 hd.length (upd Hd D (.lst (ys ++ [y]))) := (e3.keeps at5.hr).trans kd
          exact back Jn upd_same al' (rd.other ald hDd (fun _ z => nomatch z) fun _ _ z => nomatch z) ((ex.trans e3).other fresh hDd) kk ((rr.keep kk).append (.cons (rwd.keep kd) .nil)) pb'
      have noE : ∀ {α : Type} {t : Sem α} {Q1 : α → Shared → Prop} {E1 : Value → Shared → Prop} {s0 : Shared}, wpAny (model X.prog X.w) X.A t Q1 (fun _ _ => False) s0 → wpAny (model X.prog X.w) X.A t Q1 E1 s0 := fun h => wpAny_mono h (fun _ _ q => q) fun _ _ f => f.elim
      rcases hts with ⟨rfl, hd0⟩ | ⟨c, d, rfl, hd1, hpt⟩
      · refine wpAny_tests_nil ?_
        rw [if_pos rfl]
        refine noE (thn (elem Ja (Ext.refl _ _ _) at5.hr ?_) fun _ _ q => noE q)
        have pp : Post X.K RE ι1 h1 H2 (((Tw.compK dc de ρ w acc hh).bind fun acc h => wk src (Tw.compK dc de ρ) (i + 1) m acc h).bind Tw.newL) Q := pp
        unfold Tw.compK at pp
        rw [hd0] at pp
        have pp := bind_asc pp
        exact pp
      · refine wpAny_tests_one (noE ?_)
        have pp : Post X.K RE ι1 h1 H2 (((Tw.compK dc de ρ w acc hh).bind fun acc h => wk src (Tw.compK dc de ρ) (i + 1) m acc h).bind Tw.newL) Q := pp
        have pp := bind_asc pp
        rw [Tw.compK.eq_def, hd1] at pp
        have pp := bind_asc (bind_asc pp)
        have pt : Post X.K RE ι1 h1 H2 ((dT d (ρ ++ [some w]) hh).bind fun b h => ((match b with
            | true => (de (ρ ++ [some w]) h).bind fun y h => (.ok (acc ++ [y]) h : Tw.R (List Tw.W))
            | false => .ok acc h).bind fun acc h => (wk src (Tw.compK dc de ρ) (i + 1) m acc h).bind Tw.newL)) Q := by
          cases q : d (ρ ++ [some w]) hh with
          | bad => rw [q] at pp; exact pp.elim
          | exn => rw [q] at pp; exact pp.elim
          | ok u hu =>
            rw [q] at pp
            simp only [dT, q, Tw.R.bind_ok, Tw.tested] at pp ⊢
            cases q2 : Tw.truth hu u with
            | none => rw [q2] at pp; exact pp.elim
            | some b =>
              rw [q2] at pp
              cases b <;> exact pp
        refine thn (hpt _ _ _ _ _ _ sa _ Ha _ Ja ⟨_, hh, ι', at6, post_self pt⟩) fun bb s4 ⟨Hd, Jd, b, hd, ι3, ed, exd, rd, eb⟩ => ?_
        rw [ed] at pt
        have eb : b = bb := eb
        subst eb
        cases b with
        | true =>
          rw [if_pos rfl]
          exact noE (thn (elem Jd exd rd pt) fun _ _ q => noE q)
        | false =>
          rw [if_neg (by decide)]
          exact back Jd (exd.fr D _ hDc al) (al.later exd (by rw [hDc]; exact fun z => nomatch z)) rd (ex.trans exd) (exd.keeps at5.hr) (rr.keep (exd.keeps at5.hr)) pt
  exact codeAny_compStart_list loop (T.self _ 0 _ _ _ st4 loop)
end
end TwS

set_option Elab.async false
set_option linter.all false
set_option maxRecDepth 100000
set_option maxHeartbeats 1000000
namespace TwS
open PySem L2 PyProof.Rows
section
variable {X : Cx} {elt iter : Expr} {x : Str} {px pos : Pos} {ifs : List Expr} {scope : Scope} {dit : Tw.Env → Tw.Hp → Tw.R Tw.Src} {dc : Tw.Env → Tw.Hp → Tw.R (Option Tw.W)} {de : Tw.Env → Tw.Hp → Tw.R Tw.W}
/-- the meaning of a comprehension -/
def dCmp (dit : Tw.Env → Tw.Hp → Tw.R Tw.Src) (dc : Tw.Env → Tw.Hp → Tw.R (Option Tw.W)) (de : Tw.Env → Tw.Hp → Tw.R Tw.W) : Tw.Env → Tw.Hp → Tw.R Tw.W :=
  fun ρ h => (dit ρ h).bind fun s h => (Tw.walk s (Tw.compK dc de ρ) h).bind Tw.newL
/-- the comprehension, whatever becomes of its list -/
theorem comp_wp {use : Option (Value → Sem Unit)} {pins : List (Addr × Obj)} {s : Shared} {σ : L2.St} {H : L2.Hp} {Q : VK} {QQ : Value → Shared → Prop} (I : Inv X pins σ H s)
    (hc : X.calm = true) (cs : CScope X.N X.env.scope x scope) (hnd : (compN X.N x).Nodup) (hi : PI X (.Name x px) iter (tI X.K dit)) (hs : ∀ v, foldedSetIterable iter X.env v = pure v)
    (hel : ∀ C s H pins fp, PE (compCx X scope C x s H pins fp) elt (tE X.K de)) (hts : TestOk X scope x ifs dc) (q : tE X.K (dCmp dit dc de) σ H Q)
    (hR : ∀ s3 H3 fp D, Inv X pins σ H3 s3 → (∀ b ∈ fp, FpOk X pins H3 b) → ∀ s1 Hc σ', Inv (compCx X scope s3.heap.objs.size x s3 H3 pins fp) [] σ' Hc s1 → Q (.ref D) Hc → compPost (model X.prog X.w) X.A X.xe use QQ (.ref D) s3.heap.objs.size (.ok .next) s1) :
    wpAny (model X.prog X.w) X.A (comprehension (.ListComp elt [⟨.Name x px, iter, ifs, 0⟩] scope pos) scope X.env (firstIterPos [⟨.Name x px, iter, ifs, 0⟩] pos) (newList []) false (eval iter X.env) use) QQ X.xe s := by
  obtain ⟨ρ, h, ι, at', p⟩ := q
  refine wpAny_comprehension_free rfl hs (closure_eq (inv_vis I cs)) cs.kind cs.locs (thn (hi pins s σ H (fun J H' => ∃ src h1 ι1, At X.K ι1 h1 H' ρ σ ∧ Ext ι h H ι1 h1 H' ∧ Feeds X.K J src ι1 h1.length H' ∧ Post X.K RE ι1 h1 H' ((Tw.walk src (Tw.compK dc de ρ) h1).bind Tw.newL) Q) I ⟨ρ, h, ι, at', ?_⟩) fun xv s1 h1 => thn h1 fun it s2 h2 => ?_)
  · exact step at' p
  · obtain ⟨it', fp, tn, J, H2, rfl, I2, T, tn0, fpo, src, h1', ι1, at1, e1, fd, p1⟩ := h2
    have hf : H2 s2.heap.objs.size = none := I2.hok.fresh (Nat.le_refl _)
    have I3 : Inv X pins σ (upd H2 s2.heap.objs.size (.lst [])) { s2 with heap := s2.heap.push { cls := .type "list", data := .seq #[] }, toks := s2.toks } :=
      I2.laid (fun b u e => Heap.get?_push_of_some _ e) (Nat.le_refl _) ⟨Nat.zero_le _, [], 0, .nil, Heap.get?_push_size _ rfl⟩
    have lt2 : ∀ b ∈ fp, b < s2.heap.objs.size := fun b hb => by
      obtain ⟨o, e, _⟩ := T.obj _ _ tn0 b hb
      exact Heap.lt_size e
    have f3 : ∀ b ∈ fp, FpOk X pins (upd H2 s2.heap.objs.size (.lst [])) b := fun b hb => by
      obtain ⟨g0, g1⟩ := fpo b hb
      exact ⟨by rw [upd_ne (Nat.ne_of_lt (lt2 b hb))]; exact g0, g1⟩
    refine wpAny_newObj_type (wpAny_newFunctionEnv cs.nocell (by intro y hy; simp at hy) (fun h₁ hns₁ hsb₁ => ?_) cs.kind)
    dsimp only at hns₁ hsb₁ ⊢
    obtain ⟨r3, x3⟩ := at1.hr.grow (o := .lst []) hf
    have al : Alien ι1 h1' s2.heap.objs.size := fun i o ei m z => by
      obtain ⟨u, q, _, _⟩ := at1.hr.there ei m
      rw [z, hf] at q; cases q
    rw [wk_start] at p1
    have sz : (s2.heap.push { cls := .type "list", data := .seq ([] : List Value).toArray }).objs.size = s2.heap.objs.size + 1 := Heap.size_push _ _
    exact comp_block (h4 := h₁) hc cs hnd hel hts I3 upd_same hf x3 (at1.later x3 r3) al (fd.later (x3.keeps at1.hr)) p1 T (T.keep 0 _ _ tn0 fun b _ o e => Heap.get?_push_of_some _ e) f3 (fun b hb => by
        show b < (s2.heap.push _).objs.size
        rw [sz]; exact Nat.lt_succ_of_lt (lt2 b hb)) hns₁
      (fun b o e => hsb₁.extBut b o (Nat.ne_of_lt (Heap.lt_size e)) (Heap.get?_push_of_some _ e)) (hR _ _ fp _ I3 f3)
theorem s_comp (hc : X.calm = true) (cs : CScope X.N X.env.scope x scope) (hnd : (compN X.N x).Nodup) (hi : PI X (.Name x px) iter (tI X.K dit)) (hs : ∀ v, foldedSetIterable iter X.env v = pure v)
    (hel : ∀ C s H pins fp, PE (compCx X scope C x s H pins fp) elt (tE X.K de)) (hts : TestOk X scope x ifs dc) :
    PE X (.ListComp elt [⟨.Name x px, iter, ifs, 0⟩] scope pos) (tE X.K (dCmp dit dc de)) := by
  intro pins s σ H Q I q
  rw [eval_ListComp]
  refine comp_wp (use := none) I hc cs hnd hi hs hel hts q fun s3 H3 fp D I3 f3 s1 Hc σ' J q => ?_
  obtain ⟨mm, hns2, _⟩ := J.loc
  exact ⟨mm, hns2, fun h' hs' => ⟨.ref D, Hc, inv_leave I3 f3 J hs', rfl, q⟩⟩
/-- x = [..], where the name is stored ahead of the end of the block -/
theorem s_setC {i : Nat} {y : Str} {py spos : Pos} (hc : X.calm = true) (cs : CScope X.N X.env.scope x scope) (hnd : (compN X.N x).Nodup) (hi : PI X (.Name x px) iter (tI X.K dit)) (hs : ∀ v, foldedSetIterable iter X.env v = pure v)
    (hel : ∀ C s H pins fp, PE (compCx X scope C x s H pins fp) elt (tE X.K de)) (hts : TestOk X scope x ifs dc) (hN : X.N.Nodup) (hy : X.N[i]? = some y) (hl : X.env.scope.names.lookup y = some .local)
    (hsw : swapsWith (.ListComp elt [⟨.Name x px, iter, ifs, 0⟩] scope pos) (some (.Name y py)) spos.line X.env = pure true) :
    PS X (.Assign [.Name y py] (.ListComp elt [⟨.Name x px, iter, ifs, 0⟩] scope pos) spos) (tSt X.K fun ρ h => (dCmp dit dc de ρ h).bind fun w h => .ok (.next (ρ.set i (some w))) h) := by
  intro pins s σ H D I ⟨ρ, h, ι, at', p⟩
  rw [exec_Assign_Name_used _ _ _ _ hsw]
  refine wpAny_bind (wpAny_standAt (wpAny_bind ?_))
  show wpAny _ _ (do let _ ← comprehension (.ListComp elt [⟨.Name x px, iter, ifs, 0⟩] scope pos) scope X.env (firstIterPos [⟨.Name x px, iter, ifs, 0⟩] pos) (newList []) false (eval iter X.env) (some (assign (.Name y py) X.env))) _ _ s
  refine wpAny_bind (thn (comp_wp (use := some (assign (.Name y py) X.env)) (QQ := fun _ s' => SP X pins D .next s') (Q := fun v H1 => D.nx (σ.set i (some v)) H1) I hc cs hnd hi hs hel hts ⟨ρ, h, ι, at', (stepS at' p).mono fun v H1 ⟨w, h1, ι1, at1, e1, r1, p1⟩ => p1.next (at1.set r1 i)⟩ fun s3 H3 fp A I3 f3 s1 Hc σ' J q => ?_) fun _ s' hq => wpAny_pure (wpAny_pure hq))
  have I1 : Inv X pins σ Hc s1 := inv_leave I3 f3 J (Heap.SameBut.refl _ _)
  have hC : FpOk X pins Hc s3.heap.objs.size := I3.fpOk (Nat.le_refl _) J.free
  obtain ⟨mm, ⟨o, es, ep, ho, hr⟩, _⟩ := J.loc
  have I2 : Inv X (pins ++ pinsAt [s3.heap.objs.size] s1.heap) σ Hc s1 := I1.pinned (fun b hb => by
      rw [List.mem_singleton] at hb; subst hb; exact hC) fun b hb => by
    rw [List.mem_singleton] at hb; subst hb
    exact ⟨o, ho, fun v z => by rw [hr.1] at z; cases z⟩
  refine thn ((pg_name (i := i) (pos := py) hN hy (.inl hl) (.inr hl) : PG X (.Name y py) (gName i)) _ s1 σ Hc (.ref A) (.ref A) (fun σ2 H2 => σ2 = σ.set i (some (.ref A)) ∧ H2 = Hc) I2 rfl ⟨rfl, rfl⟩) fun _ s2 ⟨σ2, H2, J2, e1, e2⟩ => ?_
  subst e1 e2
  have ho2 : s2.heap.get? s3.heap.objs.size = some o := (J2.pin (_, o) (List.mem_append_right _ (List.mem_append_right _ (mem_pinsAt (List.mem_singleton.mpr rfl) ho)))).1
  refine ⟨mm, ⟨o, es, ep, ho2, hr⟩, fun h' hs' => ?_⟩
  have J3 := J2.unpinned
  have nm : ∀ {b : Addr}, b ∉ [s3.heap.objs.size] → b ≠ s3.heap.objs.size := fun hb z => hb (List.mem_singleton.mpr z)
  have hf2 : H2 s3.heap.objs.size = none := hC.1
  have u : Un (frs X.stack) [s3.heap.objs.size] H2 H2 s2.heap h' :=
    ⟨fun b o e _ _ h2 => hs'.extBut b o (nm h2) e, fun b o e _ _ h2 => ⟨o.slots, hs'.extBut b o (nm h2) e⟩, fun b o _ n _ => n, fun b o e h2 => ⟨o, hs'.extBut b o (nm h2) e⟩, fun _ _ q => q, fun _ _ _ q => q, fun _ ps q => ⟨#[], by rw [q]; simp⟩⟩
  have hok : HOk X.prog X.w H2 h' := fun b v e => by
    refine (J3.hok b v e).stay (fun c w hc q => hs'.extBut c w ?_ q) (fun _ q => q) fun _ _ q => q
    rcases hc with z | z
    · rw [z]; intro z'; rw [z', hf2] at e; cases e
    · intro z'; rw [z', hf2] at z; cases z
  have fin := J3.call (h' := h') (g' := s2.gens) (d' := s2.drawn) (t' := s2.toks) (ch := [s3.heap.objs.size]) u hok J3.bare fun b hb => by
    rw [List.mem_singleton] at hb; subst hb
    exact ⟨hC.2.2.2.1, hC.2.1, hC.2.2.2.2.1, hC.2.2.2.2.2⟩
  exact ⟨_, _, fin, q⟩
end
end TwS

set_option Elab.async false
set_option linter.all false
set_option maxRecDepth 100000
set_option maxHeartbeats 1000000
namespace TwS
open PySem L2 PyProof.Rows
abbrev DE := Tw.Env → Tw.Hp → Tw.R Tw.W
def dPairs : List (DE × DE) → Tw.Env → Tw.Hp → Tw.R (List Tw.W)
  | [], _, h => .ok [] h
  | (dk, dv) :: r, ρ, h => (dk ρ h).bind fun x h => (dv ρ h).bind fun y h => (dPairs r ρ h).bind fun xs h => .ok (x :: y :: xs) h
inductive PV (ι : Nat → Addr) (n : Nat) (H : L2.Hp) : List Tw.W → List (V × V) → Prop
  | nil : PV ι n H [] []
  | cons {k w : Tw.W} {x y : V} {ws : List Tw.W} {ps : List (V × V)} : RW ι n H k x → RW ι n H w y → PV ι n H ws ps → PV ι n H (k :: w :: ws) ((x, y) :: ps)
theorem PV.keep {ι ι' : Nat → Addr} {n n' : Nat} {H H' : L2.Hp} (k : Keeps ι n H ι' n' H') : ∀ {ws : List Tw.W} {ps : List (V × V)}, PV ι n H ws ps → PV ι' n' H' ws ps
  | _, _, .nil => .nil
  | _, _, .cons a b r => .cons (a.keep k) (b.keep k) (r.keep k)
theorem mk_rel {ι : Nat → Addr} {n : Nat} {H : L2.Hp} : ∀ {ws : List Tw.W} {ps : List (V × V)}, PV ι n H ws ps → ∀ {acc kvs : List (Tw.W × Tw.W)} {xs : List (Key × V)}, Tw.mkDic ws acc = some kvs → RD ι n H acc xs →
    ∃ l : List (Key × V), ps = l.map (fun kv => (kV kv.1, kv.2)) ∧ RD ι n H kvs (mergeK xs l)
  | _, _, .nil, acc, kvs, xs, e, r => by cases e; exact ⟨[], rfl, r⟩
  | _, _, .cons (k := k) (w := w) (x := x) (y := y) a b t, acc, kvs, xs, e, r => by
    rw [Tw.mkDic] at e
    by_cases c : Tw.isKey k = true
    · rw [if_pos c] at e
      obtain ⟨q, rfl⟩ := key_of' a c
      obtain ⟨l, e1, r1⟩ := mk_rel t e (r.put a b)
      exact ⟨(q, y) :: l, by rw [e1]; rfl, r1⟩
    · rw [if_neg c] at e; cases e
section
variable {K : PySem.W.Frag}
theorem pairs_post {σ : L2.St} {ρ : Tw.Env} {γ δ : Type} {R' : Rl γ δ} {ι0 : Nat → Addr} {h0 : Tw.Hp} {H0 : L2.Hp} {Q0 : δ → L2.Hp → Prop} :
    ∀ (prs : List (DE × DE)) {ι : Nat → Addr} {h : Tw.Hp} {H : L2.Hp} {k : List Tw.W → Tw.Hp → Tw.R γ} (Qf : List (V × V) → L2.Hp → Prop), At K ι h H ρ σ → Post K R' ι0 h0 H0 ((dPairs prs ρ h).bind k) Q0 →
      (∀ ws h2 ι2 H2 ps, dPairs prs ρ h = .ok ws h2 → Ext ι h H ι2 h2 H2 → HR K ι2 h2 H2 → PV ι2 h2.length H2 ws ps → Qf ps H2) → tPairs (prs.map fun p => (tE K p.1, tE K p.2)) σ H Qf
  | [], ι, h, H, k, Qf, a, _, f => f [] h ι H [] rfl (Ext.refl _ _ _) a.hr .nil
  | (dk, dv) :: r, ι, h, H, k, Qf, a, p, f => by
    rw [dPairs] at p
    have p := bind_asc p
    refine ⟨ρ, h, ι, a, (post_self p).mono fun x H1 ⟨w, h1, ι1, e1, x1, r1, rw1⟩ => ?_⟩
    rw [e1] at p
    have p := bind_asc p
    refine ⟨ρ, h1, ι1, a.later x1 r1, (post_self p).mono fun y H2 ⟨u, h2, ι2, e2, x2, r2, rw2⟩ => ?_⟩
    rw [e2] at p
    have p := bind_asc p
    refine pairs_post r _ ((a.later x1 r1).later x2 r2) p fun ws h3 ι3 H3 ps e3 x3 r3 pv => ?_
    refine f (w :: u :: ws) h3 ι3 H3 _ ?_ ((x1.trans x2).trans x3) r3 (.cons ((rw1.keep (x2.keeps r1)).keep (x3.keeps r2)) (rw2.keep (x3.keeps r2)) pv)
    rw [dPairs, e1]
    simp only [Tw.R.bind_ok]
    rw [e2]
    simp only [Tw.R.bind_ok]
    rw [e3]
    rfl
end
def dDic (prs : List (DE × DE)) : DE := fun ρ h => (dPairs prs ρ h).bind fun xs h => match Tw.mkDic xs [] with
  | some kvs => Tw.new (.dic kvs) h
  | none => .bad
theorem s_dic {X : Cx} {pos : Pos} {keys : List (Option Expr)} {values : List Expr} {prs : List (DE × DE)} (h : PPs X pos keys values (prs.map fun p => (tE X.K p.1, tE X.K p.2))) (hall : keys.all (·.isSome) = true) (hl : keys.length = values.length) (h0 : keys ≠ [])
    (h15 : keys.length ≤ 15) (hn : prs.length = keys.length) : PE X (.Dict keys values pos) (tE X.K (dDic prs)) := by
  refine PE.imp (pe_disp h hall hl h0 h15) fun σ H Q ⟨ρ, hh, ι, at', p⟩ => fun a ha => ?_
  obtain ⟨r0, x0⟩ := at'.hr.grow (o := .dK []) ha
  have at0 := at'.later x0 r0
  have al : Alien ι hh a := fun i o ei m z => by
    obtain ⟨u, q, _, _⟩ := at'.hr.there ei m
    rw [z, ha] at q; cases q
  refine pairs_post prs _ at0 p fun ws h2 ι2 H2 ps e2 x2 r2 pv => ?_
  have ea : H2 a = some (.dK []) := x2.fr a _ upd_same al
  refine ⟨ea, ?_⟩
  have p : Post X.K RE ι hh H ((dPairs prs ρ hh).bind fun xs h => match Tw.mkDic xs [] with
    | some kvs => Tw.new (.dic kvs) h
    | none => .bad) Q := p
  rw [e2] at p
  have p : Post X.K RE ι hh H (match Tw.mkDic ws [] with
    | some kvs => Tw.new (.dic kvs) h2
    | none => .bad) Q := p
  cases em : Tw.mkDic ws [] with
  | none => rw [em] at p; exact p.elim
  | some kvs =>
    rw [em] at p
    obtain ⟨l, el, rd⟩ := mk_rel pv em .nil
    have al2 : Alien ι2 h2 a := al.later x2 (by rw [upd_same]; exact fun z => nomatch z)
    have hr1 : HR X.K ι2 h2 (upd H2 a (.dK (mergeK [] l))) := r2.other al2 ea (fun _ z => nomatch z) fun _ _ z => nomatch z
    have kp : Keeps ι2 h2.length H2 ι2 h2.length (upd H2 a (.dK (mergeK [] l))) := ⟨Nat.le_refl _, fun _ _ => rfl, fun b xs e => by
      rw [upd_ne (fun z => by rw [z, ea] at e; cases e)]; exact e⟩
    have hr2 := hr1.adopt (u := .dic kvs) al2 upd_same rfl fun ι'' n'' k => ⟨_, upd_same, (rd.keep kp).keep k⟩
    have lenp : ∀ {ws : List Tw.W} {ps : List (V × V)}, PV ι2 h2.length H2 ws ps → ws.length = 2 * ps.length := by
      intro ws ps pv
      induction pv with
      | nil => rfl
      | cons _ _ _ ih => simp only [List.length_cons, ih]; omega
    have lend : ∀ (prs : List (DE × DE)) (h : Tw.Hp) (ws : List Tw.W) (h2 : Tw.Hp), dPairs prs ρ h = .ok ws h2 → ws.length = 2 * prs.length := by
      intro prs
      induction prs with
      | nil => intro h ws h2 e; cases e; rfl
      | cons x r ih =>
        intro h ws h2 e
        rw [dPairs] at e
        cases e1 : x.1 ρ h with
        | ok w1 g1 =>
          rw [e1] at e
          simp only [Tw.R.bind_ok] at e
          cases e2 : x.2 ρ g1 with
          | ok w2 g2 =>
            rw [e2] at e
            simp only [Tw.R.bind_ok] at e
            cases e3 : dPairs r ρ g2 with
            | ok w3 g3 =>
              rw [e3] at e
              cases e
              have := ih g2 w3 _ e3
              simp only [List.length_cons, this]; omega
            | _ => rw [e3] at e; cases e
          | _ => rw [e2] at e; cases e
        | _ => rw [e1] at e; cases e
    have hlen : l.length ≤ 15 := by
      have h1 := lenp pv
      have h2 := lend prs _ _ _ e2
      rw [el, List.length_map] at h1
      omega
    refine ⟨l, el, hlen, ?_⟩
    have z : RW (iNew ι2 h2.length a) (h2 ++ [Tw.O.dic kvs]).length (upd H2 a (.dK (mergeK [] l))) (.ref h2.length) (.ref (iNew ι2 h2.length a h2.length)) := .ref (by simp)
    rw [iNew_at] at z
    exact p _ _ _ (((x0.trans x2).other ha ea).adopt ha) hr2 z
end TwS

set_option Elab.async false
set_option linter.all false
set_option maxRecDepth 100000
set_option maxHeartbeats 1000000
namespace TwS
open PySem L2 PyProof.Rows
/-- the turns from turn i on, m at most -/
def tk (src : Tw.Src) (t : Tw.Tg) (k : Tw.Env → Tw.Hp → Tw.R Tw.Fl) (i m : Nat) (ρ : Tw.Env) (h : Tw.Hp) : Tw.R Tw.Fl := match src with
  | .fix ws => Tw.turnsL t k (ws.drop i) ρ h
  | .at a _ => Tw.turnsA a t k m i ρ h
theorem tk_start (src : Tw.Src) (t : Tw.Tg) (k : Tw.Env → Tw.Hp → Tw.R Tw.Fl) (ρ : Tw.Env) (h : Tw.Hp) : Tw.turns src t k ρ h = tk src t k 0 (srcLen src) ρ h := by
  cases src <;> rfl
theorem tk_turn {K : PySem.W.Frag} {J : It} {src : Tw.Src} {ι : Nat → Addr} {h : Tw.Hp} {H : L2.Hp} (r : HR K ι h H) (f : Feeds K J src ι h.length H) (t : Tw.Tg) (k : Tw.Env → Tw.Hp → Tw.R Tw.Fl) (i m : Nat) (ρ : Tw.Env) (hm : ∀ ws, src = .fix ws → m = ws.length - i) :
    tk src t k i m ρ h = .bad ∨ (J.stop i H ∧ tk src t k i m ρ h = .ok (.next ρ) h) ∨
      ∃ w m', m = m' + 1 ∧ J.go i H ∧ (∀ x H', J.yld i H x H' → H' = H ∧ RW ι h.length H w x) ∧ (∀ ws, src = .fix ws → m' = ws.length - (i + 1)) ∧ tk src t k i m ρ h = Tw.turn t k w ρ h fun ρ h => tk src t k (i + 1) m' ρ h := by
  rcases f with ⟨ad, xs, ws, rfl, rfl, e3, rr⟩ | ⟨lo, n, rfl, rfl⟩ | ⟨j, n, b, rfl, rfl, rfl, hi⟩
  · have hm := hm ws rfl
    cases hw : ws[i]? with
    | none =>
      have hl := List.getElem?_eq_none_iff.mp hw
      refine .inr (.inl ⟨⟨xs, SqT.of e3, by rw [← rr.length]; exact hl⟩, ?_⟩)
      show Tw.turnsL t k (ws.drop i) ρ h = _
      rw [List.drop_eq_nil_of_le hl]; rfl
    | some w =>
      obtain ⟨v, hv, rv⟩ := rr.get hw
      have hl := (List.getElem?_eq_some_iff.mp hw).1
      refine .inr (.inr ⟨w, ws.length - (i + 1), by omega, ⟨xs, v, SqT.of e3, hv⟩, fun x H' ⟨eH, hx⟩ => ⟨eH, ?_⟩, fun ws' e => by cases e; rfl, ?_⟩)
      · have := hx xs (SqT.of e3)
        rw [hv] at this; cases this; exact rv
      · show Tw.turnsL t k (ws.drop i) ρ h = _
        rw [drop_at hw]; rfl
  · have hm := hm _ rfl
    rw [upTo_len] at hm
    by_cases hi : i < n
    · refine .inr (.inr ⟨.int (lo + i), n - (i + 1), by omega, hi, fun x H' ⟨eH, hx⟩ => ⟨eH, by rw [hx]; exact .int _⟩, fun ws' e => by cases e; rw [upTo_len], ?_⟩)
      show Tw.turnsL t k ((Tw.upTo lo n).drop i) ρ h = _
      rw [upTo_get n lo i hi]; rfl
    · refine .inr (.inl ⟨Nat.not_lt.mp hi, ?_⟩)
      show Tw.turnsL t k ((Tw.upTo lo n).drop i) ρ h = _
      rw [List.drop_eq_nil_of_le (by rw [upTo_len]; omega)]; rfl
  · cases e : Tw.lstAt h j with
    | none =>
      refine .inl ?_
      show Tw.turnsA j t k m i ρ h = _
      unfold Tw.turnsA; rw [e]
    | some ws =>
      obtain ⟨xs, sq, rr⟩ := r.at e
      cases hw : ws[i]? with
      | none =>
        refine .inr (.inl ⟨⟨xs, sq, by rw [← rr.length]; exact List.getElem?_eq_none_iff.mp hw⟩, ?_⟩)
        show Tw.turnsA j t k m i ρ h = _
        unfold Tw.turnsA; simp only [e, hw]
      | some w =>
        cases m with
        | zero =>
          refine .inl ?_
          show Tw.turnsA j t k 0 i ρ h = _
          unfold Tw.turnsA; simp only [e, hw]
        | succ m =>
          obtain ⟨v, hv, rv⟩ := rr.get hw
          refine .inr (.inr ⟨w, m, rfl, ⟨xs, v, sq, hv⟩, fun x H' ⟨eH, hx⟩ => ⟨eH, ?_⟩, (fun ws' e => nomatch e), ?_⟩)
          · have := hx xs sq
            rw [hv] at this; cases this; exact rv
          · show Tw.turnsA j t k (m + 1) i ρ h = _
            conv => lhs; unfold Tw.turnsA
            simp only [e, hw]
            rfl
/-- for .. in ..: whatever feeds it -/
theorem s_forG {X : Cx} {tg iter : Expr} {body : List Stmt} {pos : Pos} {g : TG} {t : Tw.Tg} {dit : Tw.Env → Tw.Hp → Tw.R Tw.Src} {tb : Tw.Env → Tw.Hp → Tw.R Tw.Fl} (hp : PassesOwn (model X.prog X.w) X.A X.env X.xe) (hc : X.calm = true) (hi : PI X tg iter (tI X.K dit)) (hg : PG X tg g) (ht : TgOk X.K t g)
    (hb : PSs X body (tSt X.K tb)) (hs : ∀ x, foldedSetIterable iter X.env x = pure x) :
    PS X (.For tg iter body [] pos) (tSt X.K fun ρ h => (dit ρ h).bind fun s h => Tw.turns s t tb ρ h) := by
  refine PS.imp (ps_for hp hc hi hg hb hs) fun D σ H ⟨ρ, h, ι, at', p⟩ => ⟨ρ, h, ι, at', (stepS at' p).mono fun J H1 ⟨src, h1, ι1, at1, e1, fd, p1⟩ => ?_⟩
  rw [tk_start] at p1
  refine ⟨fun i m σ' H' => ∃ ρ h ι, At X.K ι h H' ρ σ' ∧ Feeds X.K J src ι h.length H' ∧ (∀ ws, src = .fix ws → m = ws.length - i) ∧ PostS X.K ι h H' (tk src t tb i m ρ h) D, ⟨srcLen src, ρ, h1, ι1, at1, fd, fun ws e => by subst e; rfl, p1⟩, ?_⟩
  rintro i m σ2 H2 ⟨ρ2, h2, ι2, at2, fd2, hm, p2⟩
  rcases tk_turn at2.hr fd2 t tb i m ρ2 hm with e | ⟨st, e⟩ | ⟨w, m', rfl, go, hy, hm', e⟩
  · rw [e] at p2; exact p2.elim
  · rw [e] at p2; exact .inl ⟨st, p2.next at2⟩
  · rw [e, Tw.turn] at p2
    refine .inr ⟨go, fun σ' H' => ∃ ρ h ι, At X.K ι h H' ρ σ' ∧ Feeds X.K J src ι h.length H' ∧ (∀ ws, src = .fix ws → m' = ws.length - (i + 1)) ∧ PostS X.K ι h H' (tk src t tb (i + 1) m' ρ h) D, fun σ' H' q => ⟨m', Nat.lt_succ_self _, q⟩, fun x H' hx => ?_⟩
    obtain ⟨rfl, rv⟩ := hy x H' hx
    cases es : Tw.setT t w ρ2 with
    | none => rw [es] at p2; exact p2.elim
    | some ρ3 =>
      rw [es] at p2
      dsimp only at p2
      exact ht ι2 h2 _ ρ2 ρ3 σ2 w x _ at2 rv es fun σ3 at3 => ⟨ρ3, h2, ι2, at3, turn_post p2 fun ρ4 h4 ι4 H4 σ4 e4 at4 p4 => ⟨ρ4, h4, ι4, at4, fd2.later (e4.keeps at2.hr), hm', p4⟩⟩
end TwS

set_option Elab.async false
set_option linter.all false
set_option maxRecDepth 100000
set_option maxHeartbeats 1000000
namespace TwS
open PySem L2 PyProof.Rows
def plainE : Expr → Bool
  | .Name .. => true | .Constant .. => true | .Tuple .. => true | .List .. => true | .Dict .. => true | .BinOp .. => true | .Compare .. => true | .BoolOp .. => true
  | .UnaryOp .. => true | .IfExp .. => true | .Subscript .. => true | .Call .. => true | .Attribute .. => true | .ListComp .. => true
  | _ => false
def isComp : Expr → Bool
  | .ListComp .. => true
  | _ => false
/-- o.m(..) with o not f() -/
def noCall0 : Expr → Bool
  | .Call (.Name _ _) [] [] _ => false
  | _ => true
/-- truth by the value itself -/
def byVal : Expr → Bool
  | .UnaryOp .Not _ _ => false | .BoolOp .. => false | .IfExp .. => false | .Compare .. => false
  | _ => true
section
variable {a b : Expr} {es : List Expr} {env : Env}
theorem star_plain (h : plainE a = true) : starEach (a :: es) env = (false, eval a env) :: starEach es env := by
  cases a <;> first | rfl | cases h
theorem ix_plain (h : plainE b = true) : PlainIx b := by
  cases b <;> first | (intro _ _; rfl) | cases h
theorem marks_plain (o : CmpOp) (h : plainE b = true) : behindInMarks o b = false := by
  cases b <;> first | rfl | cases h
theorem folded_plain (h : plainE b = true) : ∀ x, foldedSetIterable b env x = pure x := by
  cases b <;> first | (intro _; rfl) | cases h
theorem swaps_plain {t : Option Expr} {l : Nat} (h : plainE a = true) (hn : isComp a = false) : swapsWith a t l env = pure false := by
  cases a <;> first | rfl | exact absurd (show false = true from h) Bool.false_ne_true | exact absurd (show false = true from hn) Bool.false_ne_true | exact absurd (show true = false from hn) (by decide)
theorem base_plain {m : Str} (h : plainE a = true) (hn : noCall0 a = true) : attributeBase a m env (eval a env) = eval a env := by
  cases a with
  | Call f as ks p =>
    cases f with
    | Name x q =>
      cases as with
      | nil =>
        cases ks with
        | nil => cases hn
        | cons _ _ => rfl
      | cons _ _ => rfl
    | _ => rfl
  | _ => first | rfl | cases h
theorem val_plain (h : plainE a = true) (hn : byVal a = true) (whole : Sem Value) : isTrue a env whole = (do let v ← whole; standAt a.pos; holding [v] (truthy v)) := by
  cases a with
  | UnaryOp o x p =>
    cases o with
    | Not => cases hn
    | _ => rfl
  | _ => first | rfl | exact absurd (show false = true from h) Bool.false_ne_true | exact absurd (show false = true from hn) Bool.false_ne_true | exact absurd (show true = false from hn) (by decide)
end
abbrev Sc := List (Str × NameKind)
def visB (sc : Sc) (x : Str) : Bool := match sc.lookup x with
  | some .local => true | some .cell => true | some .free => true
  | _ => false
def locB (sc : Sc) (x : Str) : Bool := match sc.lookup x with
  | some .local => true | some .cell => true
  | _ => false
def cfB (sc : Sc) (x : Str) : Bool := match sc.lookup x with
  | some .cell => true | some .free => true
  | _ => false
def glB (sc : Sc) (x : Str) : Bool := match sc.lookup x with
  | some .globalImplicit => true
  | _ => false
/-- what the scope says holds in the context -/
structure Sees (sc : Sc) (N : List Str) (X : Cx) : Prop where
  n : X.N = N
  kind : X.env.scope.kind = .function
  vis : ∀ x, visB sc x = true → Vis X.env.scope x
  gl : ∀ x, glB sc x = true → Gl X x
  cf : ∀ x, cfB sc x = true → X.env.scope.names.lookup x = some .cell ∨ X.env.scope.names.lookup x = some .free
theorem lookup_relabel {scope : Scope} {env : Env} {y : Str} {k : NameKind} : ∀ {names : List (Str × NameKind)}, names.lookup y = some k →
    (names.map fun (n, k) => if (k == NameKind.free && env.scope.kind == .function && env.kindOf n == some .cell) then (n, NameKind.cell) else (n, k)).lookup y = some k ∨
    (k = .free ∧ (names.map fun (n, k) => if (k == NameKind.free && env.scope.kind == .function && env.kindOf n == some .cell) then (n, NameKind.cell) else (n, k)).lookup y = some .cell)
  | [], h => by simp at h
  | (n, j) :: r, h => by
    rw [List.lookup_cons] at h
    by_cases hy : (y == n) = true
    · simp only [hy] at h
      cases h
      rw [List.map_cons]
      dsimp only
      by_cases hc : (k == NameKind.free && env.scope.kind == .function && env.kindOf n == some .cell) = true
      · refine .inr ⟨?_, ?_⟩
        · simp only [Bool.and_eq_true, beq_iff_eq] at hc; exact hc.1.1
        · rw [if_pos hc, List.lookup_cons]; simp only [hy]
      · refine .inl ?_
        rw [if_neg hc, List.lookup_cons]; simp only [hy]
    · rw [Bool.not_eq_true] at hy
      simp only [hy] at h
      rw [List.map_cons]
      dsimp only
      have ih := lookup_relabel (scope := scope) (env := env) h
      by_cases hc : (j == NameKind.free && env.scope.kind == .function && env.kindOf n == some .cell) = true
      · rw [if_pos hc, List.lookup_cons]; simp only [hy]; exact ih
      · rw [if_neg hc, List.lookup_cons]; simp only [hy]; exact ih
theorem look_relabel {scope : Scope} {env : Env} {y : Str} {k : NameKind} (h : scope.names.lookup y = some k) : (relabel scope env).names.lookup y = some k ∨ (k = .free ∧ (relabel scope env).names.lookup y = some .cell) :=
  lookup_relabel (scope := scope) h
/-- a comprehension's scope, seen from its block -/
theorem Sees.comp {X : Cx} {scope : Scope} {C : Addr} {x : Str} {s : Shared} {H : L2.Hp} {pins : List (Addr × Obj)} {fp : List Addr} (hk : scope.kind = .function) :
    Sees scope.names (compN X.N x) (compCx X scope C x s H pins fp) where
  n := rfl
  kind := hk
  vis := fun y hy => by
    show Vis (relabel scope X.env) y
    unfold visB at hy
    cases e : scope.names.lookup y with
    | none => rw [e] at hy; cases hy
    | some k =>
      rcases look_relabel (env := X.env) e with q | ⟨_, q⟩
      · rw [e] at hy
        cases k with
        | «local» => exact .inl q
        | cell => exact .inr (.inl q)
        | free => exact .inr (.inr q)
        | _ => cases hy
      · exact .inr (.inl q)
  gl := fun y hy => by
    show (relabel scope X.env).names.lookup y = some .globalImplicit
    unfold glB at hy
    cases e : scope.names.lookup y with
    | none => rw [e] at hy; cases hy
    | some k =>
      rw [e] at hy
      cases k with
      | globalImplicit =>
        rcases look_relabel (env := X.env) e with q | ⟨q, _⟩
        · exact q
        · cases q
      | _ => cases hy
  cf := fun y hy => by
    show (relabel scope X.env).names.lookup y = some .cell ∨ (relabel scope X.env).names.lookup y = some .free
    unfold cfB at hy
    cases e : scope.names.lookup y with
    | none => rw [e] at hy; cases hy
    | some k =>
      rw [e] at hy
      rcases look_relabel (env := X.env) e with q | ⟨_, q⟩
      · cases k with
        | cell => exact .inl q
        | free => exact .inr q
        | _ => cases hy
      · exact .inl q
/-- a comprehension's scope, checked -/
def cscB (N : List Str) (sc : Sc) (x : Str) (scope : Scope) : Bool :=
  decide (scope.kind = .function) && scope.names.all (fun y => (match y.2 with
    | .cell => false
    | .local => (match scope.names.lookup y.1 with | some .local => true | _ => false) && (decide (y.1 = x) || !(N.contains y.1))
    | .free => cfB sc y.1
    | _ => true) && !(y.1 == ("" : Str))) && (match scope.names.lookup x with | some .local => true | _ => false)
theorem csc_of {N : List Str} {sc : Sc} {x : Str} {scope : Scope} {X : Cx} (S : Sees sc N X) (h : cscB N sc x scope = true) : CScope X.N X.env.scope x scope := by
  unfold cscB at h
  simp only [Bool.and_eq_true, decide_eq_true_eq, List.all_eq_true] at h
  obtain ⟨⟨h1, h2⟩, h3⟩ := h
  have isx : scope.names.lookup x = some .local := by
    cases e : scope.names.lookup x with
    | none => rw [e] at h3; cases h3
    | some k => rw [e] at h3; cases k <;> first | rfl | cases h3
  refine ⟨h1, S.kind, fun y hy z => ?_, fun y hy z => ?_, isx, fun y k e z hN => ?_, fun y hy z => ?_, ?_⟩
  · obtain ⟨q, _⟩ := h2 y hy
    rw [z] at q; cases q
  · obtain ⟨q, _⟩ := h2 y hy
    rw [z] at q
    simp only [Bool.and_eq_true] at q
    cases e : scope.names.lookup y.1 with
    | none => rw [e] at q; cases q.1
    | some k => rw [e] at q; cases k <;> first | rfl | cases q.1
  · subst z
    obtain ⟨q, _⟩ := h2 (y, .local) (PySem.mem_of_lookup e)
    simp only [Bool.and_eq_true, Bool.or_eq_true, decide_eq_true_eq, Bool.not_eq_true'] at q
    rcases q.2 with q | q
    · exact q
    · rw [S.n] at hN
      rw [List.contains_eq_mem] at q
      exact absurd hN (by simpa using q)
  · obtain ⟨q, _⟩ := h2 y hy
    rw [z] at q
    exact S.cf _ q
  · cases e : scope.names.lookup ("" : Str) with
    | none => rfl
    | some k =>
      obtain ⟨_, q⟩ := h2 ("", k) (PySem.mem_of_lookup e)
      simp at q
end TwS

set_option Elab.async false
set_option linter.all false
set_option maxRecDepth 100000
set_option maxHeartbeats 1000000
namespace TwS
open PySem L2 PyProof.Rows
structure Cfg where
  fns : List Str
def opS : Tw.Op → Operator
  | .add => .Add | .sub => .Sub | .mul => .Mult | .fdiv => .FloorDiv | .mod => .Mod | .pow => .Pow
def cpS : Tw.Cp → CmpOp
  | .eq => .Eq | .ne => .NotEq | .lt => .Lt | .le => .LtE | .gt => .Gt | .ge => .GtE | .isin => .In | .notin => .NotIn | .isN => .Is | .notN => .IsNot
def cstB : Tw.W → Const → Bool
  | .non, .none => true
  | .bl b, .bool c => b == c
  | .int i, .int j => decide (i = j)
  | .str x, .str y => decide (y.cps.toList = x) && x.all (fun c => decide (c < 0x110000))
  | _, _ => false
def bN : Tw.B → Str
  | .len => "len" | .list => "list" | .tuple => "tuple" | .dict => "dict" | .int => "int"
def tyS : Tw.Ty → Str
  | .list => "list" | .tuple => "tuple" | .dict => "dict" | .int => "int" | .str => "str" | .bool => "bool"
def mN : Tw.Mt → Str
  | .append => "append" | .get => "get" | .join => "join"
def few : Tw.Mt → Nat → Bool
  | .append, 1 => true | .get, 1 => true | .get, 2 => true | .join, 1 => true
  | _, _ => false
def noIf : Expr → Bool
  | .IfExp .. => false
  | _ => true
def tstE (e : Expr) : Bool := plainE e && noIf e
mutual
def chkE (cf : Cfg) (sc : Sc) (N : List Str) : Tw.E → Expr → Bool
  | .var i, e => match e with
    | .Name x _ => decide (N[i]? = some x) && visB sc x && !(x == ("__debug__" : Str)) && !(x == ("__classdict__" : Str))
    | _ => false
  | .cst w, e => match e with
    | .Constant c _ _ => cstB w c
    | _ => false
  | .tup es, e => match e with
    | .Tuple xs _ _ => chkEs cf sc N es xs && decide (xs.length ≤ 1000)
    | _ => false
  | .lst es, e => match e with
    | .List xs _ => chkEs cf sc N es xs && decide (xs.length ≤ 1000)
    | _ => false
  | .dic es, e => match e with
    | .Dict ks vs _ => chkD cf sc N es ks vs && decide (ks.length ≤ 15)
    | _ => false
  | .bin op a b, e => match e with
    | .BinOp x o y _ => decide (o = opS op) && chkE cf sc N a x && chkE cf sc N b y
    | _ => false
  | .cmp op a b, e => match e with
    | .Compare x os ys _ => match os, ys with
      | [o], [y] => decide (o = cpS op) && plainE y && chkE cf sc N a x && chkE cf sc N b y
      | _, _ => false
    | _ => false
  | .and a b, e => match e with
    | .BoolOp .And xs pos => match xs with
      | x :: y :: r => tstE x && chkE cf sc N a x && (match r with
        | [] => tstE y && chkE cf sc N b y
        | _ => chkE cf sc N b (.BoolOp .And (y :: r) pos))
      | _ => false
    | _ => false
  | .or a b, e => match e with
    | .BoolOp .Or xs pos => match xs with
      | x :: y :: r => tstE x && chkE cf sc N a x && (match r with
        | [] => tstE y && chkE cf sc N b y
        | _ => chkE cf sc N b (.BoolOp .Or (y :: r) pos))
      | _ => false
    | _ => false
  | .not a, e => match e with
    | .UnaryOp .Not x _ => tstE x && chkE cf sc N a x
    | _ => false
  | .ite c a b, e => match e with
    | .IfExp z x y _ => tstE z && chkE cf sc N c z && chkE cf sc N a x && chkE cf sc N b y
    | _ => false
  | .idx a b, e => match e with
    | .Subscript x y _ => plainE y && chkE cf sc N a x && chkE cf sc N b y
    | _ => false
  | .sl a lo hi, e => match e with
    | .Subscript x (.Slice l u none _) _ => chkE cf sc N a x && chkEo cf sc N lo l && chkEo cf sc N hi u
    | _ => false
  | .call f es, e => match e with
    | .Call (.Name x _) (y :: ys) [] _ => decide (cf.fns[f]? = some x) && glB sc x && !(x == ("__debug__" : Str)) && chkEs cf sc N es (y :: ys)
    | _ => false
  | .blt b a, e => match e with
    | .Call (.Name x _) [y] [] _ => decide (x = bN b) && decide (b ≠ .int) && glB sc x && plainE y && chkE cf sc N a y
    | _ => false
  | .mth m o es, e => match e with
    | .Call (.Attribute v x ap) ys [] cp => decide (x = mN m) && few m ys.length && (ap.endLine == cp.line) && plainE v && noCall0 v && chkE cf sc N o v && chkEs cf sc N es ys
    | _ => false
  | .isa a t, e => match e with
    | .Call (.Name x _) [y, .Name n _] [] _ => decide (x = "isinstance") && decide (n = tyS t) && glB sc x && glB sc n && plainE y && chkE cf sc N a y
    | _ => false
  | .comp el it c, e => match e with
    | .ListComp y [⟨.Name x _, iter, ifs, 0⟩] scope _ => cscB N sc x scope && decide (compN N x).Nodup && plainE iter && chkI cf sc N it iter && chkE cf scope.names (compN N x) el y &&
      (match c, ifs with
        | .none, [] => true
        | .some d, [z] => tstE z && chkE cf scope.names (compN N x) d z
        | _, _ => false)
    | _ => false
def chkEs (cf : Cfg) (sc : Sc) (N : List Str) : Tw.Es → List Expr → Bool
  | .nil, xs => match xs with
    | [] => true
    | _ => false
  | .cons e es, xs => match xs with
    | x :: r => plainE x && chkE cf sc N e x && chkEs cf sc N es r
    | [] => false
def chkD (cf : Cfg) (sc : Sc) (N : List Str) : Tw.Es → List (Option Expr) → List Expr → Bool
  | .nil, ks, vs => match ks, vs with
    | [], [] => true
    | _, _ => false
  | .cons k es, ks, vs => match es with
    | .cons v r => match ks, vs with
      | some x :: ks, y :: vs => chkE cf sc N k x && chkE cf sc N v y && chkD cf sc N r ks vs
      | _, _ => false
    | .nil => false
def chkEo (cf : Cfg) (sc : Sc) (N : List Str) : Tw.Eo → Option Expr → Bool
  | .none, o => match o with
    | none => true
    | _ => false
  | .some e, o => match o with
    | some x => chkE cf sc N e x
    | none => false
def chkI (cf : Cfg) (sc : Sc) (N : List Str) : Tw.It → Expr → Bool
  | .seq a, e => chkE cf sc N a e
  | .rng a, e => match e with
    | .Call (.Name x _) [y] [] _ => decide (x = "range") && glB sc x && plainE y && chkE cf sc N a y
    | _ => false
  | .rng2 a b, e => match e with
    | .Call (.Name x _) [y, z] [] _ => decide (x = "range") && glB sc x && plainE y && plainE z && chkE cf sc N a y && chkE cf sc N b z
    | _ => false
  | .zip _ _, _ => false
end
/-- the built-ins' names that we use -/
def bnames : List Str := ["len", "list", "tuple", "dict", "int", "str", "bool", "isinstance", "range", "zip", "enumerate", "reversed"]
/-- what a context must have -/
structure Rdy (cf : Cfg) (C : Tw.Or) (X : Cx) : Prop where
  calm : X.calm = true
  units : X.A.units + 100 < cLine
  own : ∀ f x, cf.fns[f]? = some x → ∃ k g fd ps, FnOk X.prog X.w X.K X.mg X.base CX0 k g fd ps (spOf X.K (C f)) ∧ Room k X.A ∧ X.mg x = some (.ref g) ∧ PySem.W.keepIn X.K (.ref g) = true ∧ Binds X.K fd ps []
  blt : ∀ x ∈ bnames, X.mg x = none
theorem Rdy.comp {cf : Cfg} {C : Tw.Or} {X : Cx} (r : Rdy cf C X) {scope : Scope} {c : Addr} {x : Str} {s : Shared} {H : L2.Hp} {pins : List (Addr × Obj)} {fp : List Addr} : Rdy cf C (compCx X scope c x s H pins fp) :=
  ⟨r.calm, r.units, r.own, r.blt⟩
end TwS

set_option Elab.async false
set_option linter.all false
set_option maxRecDepth 100000
set_option maxHeartbeats 1000000
namespace TwS
open PySem L2 PyProof.Rows
section
variable {cf : Cfg} {C : Tw.Or}
/-- the value and the truth of an expression -/
def SE (C : Tw.Or) (X : Cx) (t : Tw.E) (e : Expr) : Prop := PE X e (tE X.K (Tw.evE C t)) ∧ (tstE e = true → PT X e (tT X.K (Tw.evE C t)))
theorem tst_plain {e : Expr} (h : tstE e = true) : plainE e = true := by
  unfold tstE at h; rw [Bool.and_eq_true] at h; exact h.1
theorem SE.val {X : Cx} {t : Tw.E} {e : Expr} (h : PE X e (tE X.K (Tw.evE C t))) (hv : byVal e = true) : SE C X t e := ⟨h, fun hp => s_truth h (val_plain (tst_plain hp) hv)⟩
theorem cst_ok {X : Cx} {w : Tw.W} {c : Const} {k : Nat} {p : Pos} (h : cstB w c = true) : SE C X (.cst w) (.Constant c k p) := by
  refine SE.val ?_ rfl
  rw [show Tw.evE C (.cst w) = fun _ h => .ok w h from by funext ρ h; rw [Tw.evE_cst]]
  cases w with
  | non => cases c <;> first | exact s_cst pe_non fun _ _ _ => .non | exact absurd (show false = true from h) Bool.false_ne_true
  | bl b =>
    cases c with
    | bool b' =>
      have h : (b == b') = true := h
      rw [beq_iff_eq] at h; subst h
      exact s_cst pe_bl fun _ _ _ => .bl _
    | _ => exact absurd (show false = true from h) Bool.false_ne_true
  | int i =>
    cases c with
    | int j =>
      have h : decide (i = j) = true := h
      rw [decide_eq_true_eq] at h; subst h
      exact s_cst pe_int fun _ _ _ => .int _
    | _ => exact absurd (show false = true from h) Bool.false_ne_true
  | str x =>
    cases c with
    | str y =>
      have h : (decide (y.cps.toList = x) && x.all (fun c => decide (c < 0x110000))) = true := h
      simp only [Bool.and_eq_true, decide_eq_true_eq, List.all_eq_true] at h
      obtain ⟨rfl, h2⟩ := h
      obtain ⟨y⟩ := y
      exact s_cst pe_str fun _ _ _ => by
        have := RW.str (ι := by assumption) (n := by assumption) (H := by assumption) y.toList h2
        simpa using this
    | _ => exact absurd (show false = true from h) Bool.false_ne_true
  | _ => exact absurd (show false = true from h) Bool.false_ne_true
theorem PT.bool {X : Cx} {op : BoolOp} {xs : List Expr} {p : Pos} {t : TT} (h : PT X (.BoolOp op xs p) t) : PW X (.BoolOp op xs p) t := fun _ => h
theorem PW.bool {X : Cx} {e : Expr} {t : TT} (h : PW X e t) : PT X e t := h _
theorem no {P : Prop} (h : false = true) : P := absurd h Bool.false_ne_true
/-- a comparison -/
theorem cmp_ok {X : Cx} (R : Rdy cf C X) {op : Tw.Cp} {a b : Tw.E} {x y : Expr} {p : Pos} (ha : SE C X a x) (hb : SE C X b y) (hp : plainE y = true) : SE C X (.cmp op a b) (.Compare x [cpS op] [y] p) := by
  have hu : X.A.units + 1 < cLine := by have := R.units; omega
  have key : ∀ {r : R2}, OpR X (compareOp (cpS op)) r → (∀ (ι : Nat → Addr) (h : Tw.Hp) (H : L2.Hp) (w u : Tw.W) (x y : V) (k : Bool) (Q : VK), HR X.K ι h H → RW ι h.length H w x → RW ι h.length H u y → Tw.cmp op w u h = some k → Q (.bl k) H → r x y H Q) → SE C X (.cmp op a b) (.Compare x [cpS op] [y] p) := fun {r} ho hr => by
    have z := s_cmpG (pos := p) (op := op) ho hr ha.1 hb.1 (marks_plain _ hp)
    have e : Tw.evE C (.cmp op a b) = fun ρ h => (Tw.evE C a ρ h).bind fun x h => (Tw.evE C b ρ h).bind fun y h => Tw.R.of ((Tw.cmp op x y h).map .bl) h := by funext ρ h; rw [Tw.evE_cmp]
    unfold SE
    rw [e]
    exact ⟨z.1, fun _ => z.2⟩
  cases op with
  | eq => exact key (op_eqW R.units) c_eq
  | ne => exact key (op_neW R.units) c_ne
  | lt => exact key op_lt (c_int fun w u h => by cases w <;> cases u <;> rfl)
  | le => exact key op_le (c_int fun w u h => by cases w <;> cases u <;> rfl)
  | gt => exact key op_gt (c_int (f := fun i j => decide (j < i)) fun w u h => by cases w <;> cases u <;> rfl)
  | ge => exact key op_ge (c_int (f := fun i j => decide (j ≤ i)) fun w u h => by cases w <;> cases u <;> rfl)
  | isin => exact key (op_inW hu) c_in
  | notin => exact key (op_notInW hu) c_notin
  | isN => exact key op_isN c_isN
  | notN => exact key op_notN c_notN
theorem bin_ok {X : Cx} {op : Tw.Op} {a b : Tw.E} {x y : Expr} {p : Pos} (ha : SE C X a x) (hb : SE C X b y) : SE C X (.bin op a b) (.BinOp x (opS op) y p) := by
  refine SE.val ?_ rfl
  rw [show Tw.evE C (.bin op a b) = fun ρ h => (Tw.evE C a ρ h).bind fun x h => (Tw.evE C b ρ h).bind fun y h => Tw.bin op x y h from by funext ρ h; rw [Tw.evE_bin]]
  cases op with
  | add => exact s_add ha.1 hb.1
  | sub => exact s_sub ha.1 hb.1
  | mul => exact s_mul ha.1 hb.1
  | fdiv => exact s_fdiv ha.1 hb.1
  | mod => exact s_mod ha.1 hb.1
  | pow => exact s_pow ha.1 hb.1
theorem and_ok {X : Cx} {a b : Tw.E} {x y : Expr} {r : List Expr} {p : Pos} (ha : SE C X a x) (hx : tstE x = true) (hb : PE X (.BoolOp .And (y :: r) p) (tE X.K (Tw.evE C b))) (hw : PW X (.BoolOp .And (y :: r) p) (tT X.K (Tw.evE C b))) :
    SE C X (.and a b) (.BoolOp .And (x :: y :: r) p) := by
  have e : Tw.evE C (.and a b) = dAnd (Tw.evE C a) (Tw.evE C b) := by funext ρ h; rw [Tw.evE_and]; rfl
  unfold SE
  rw [e]
  exact ⟨s_and ha.1 hb, fun _ => (w_and (ha.2 hx) hw).pt⟩
theorem or_ok {X : Cx} {a b : Tw.E} {x y : Expr} {r : List Expr} {p : Pos} (ha : SE C X a x) (hx : tstE x = true) (hb : PE X (.BoolOp .Or (y :: r) p) (tE X.K (Tw.evE C b))) (hw : PW X (.BoolOp .Or (y :: r) p) (tT X.K (Tw.evE C b))) :
    SE C X (.or a b) (.BoolOp .Or (x :: y :: r) p) := by
  have e : Tw.evE C (.or a b) = dOr (Tw.evE C a) (Tw.evE C b) := by funext ρ h; rw [Tw.evE_or]; rfl
  unfold SE
  rw [e]
  exact ⟨s_or ha.1 hb, fun _ => (w_or (ha.2 hx) hw).pt⟩
theorem not_ok {X : Cx} {a : Tw.E} {x : Expr} {p : Pos} (ha : SE C X a x) (hx : tstE x = true) : SE C X (.not a) (.UnaryOp .Not x p) := by
  have e : Tw.evE C (.not a) = fun ρ h => (Tw.evE C a ρ h).bind fun x h => Tw.R.of ((Tw.truth h x).map fun b => .bl (!b)) h := by funext ρ h; rw [Tw.evE_not]
  unfold SE
  rw [e]
  have z := s_not (pos := p) ha.1 (ha.2 hx)
  exact ⟨z.1, fun _ => z.2⟩
theorem blt_ok {X : Cx} (R : Rdy cf C X) {b : Tw.B} {a : Tw.E} {y : Expr} {p pos : Pos} (hb : b ≠ .int) (hg : Gl X (bN b)) (ha : SE C X a y) (hy : plainE y = true) : SE C X (.blt b a) (.Call (.Name (bN b) p) [y] [] pos) := by
  refine SE.val ?_ rfl
  rw [show Tw.evE C (.blt b a) = fun ρ h => (Tw.evE C a ρ h).bind fun x h => Tw.builtin b x h from by funext ρ h; rw [Tw.evE_blt]]
  have hst : starEach [y] X.env = (false, eval y X.env) :: starEach [] X.env := star_plain hy
  cases b with
  | len => exact s_blt (pe_callB call_lenW hg (R.blt _ (by simp [bnames, bN])) PySem.boot_len (pa_cons ha.1 pa_nil hst) (by decide) (by decide) hst rfl) len_ok
  | list => exact s_blt (pe_callTy (call_listW R.calm) hg (R.blt _ (by simp [bnames, bN])) PyProof.Rows.boot_list (pa_cons ha.1 pa_nil hst) (by decide) (by decide) hst rfl) list_ok
  | tuple => exact s_blt (pe_callTy call_tupW hg (R.blt _ (by simp [bnames, bN])) PyProof.Rows.boot_tuple (pa_cons ha.1 pa_nil hst) (by decide) (by decide) hst rfl) tuple_ok
  | dict => exact s_blt (pe_callTy call_dictW hg (R.blt _ (by simp [bnames, bN])) PyProof.Rows.boot_dict (pa_cons ha.1 pa_nil hst) (by decide) (by decide) hst rfl) dict_ok
  | int => exact absurd rfl hb
theorem me_ok {X : Cx} {v : Expr} {x : Str} {ap cp : Pos} {ys : List Expr} (hv : plainE v = true) (hn : noCall0 v = true) (hl : (ap.endLine == cp.line) = true) (hst : starEach ys X.env = ys.map fun y => (false, eval y X.env)) (hy : ys.length ≤ 2) : Me X v x ap ys cp := by
  refine ⟨base_plain hv hn, ?_, hl⟩
  rw [hst]
  simp only [backTo, List.map_map, Bool.and_eq_true]
  refine ⟨⟨by simp, rfl⟩, ?_⟩
  rw [decide_eq_true_eq]
  show ys.length + 0 + 0 < 30
  omega
end
end TwS

set_option Elab.async false
set_option linter.all false
set_option maxRecDepth 100000
set_option maxHeartbeats 1000000
namespace TwS
open PySem L2 PyProof.Rows
section
variable {cf : Cfg} {C : Tw.Or}
/-- the pairs of a display -/
def dPrs (C : Tw.Or) : Tw.Es → List (DE × DE)
  | .nil => []
  | .cons k es => match es with
    | .cons v r => (Tw.evE C k, Tw.evE C v) :: dPrs C r
    | .nil => []
theorem bool_ok {X : Cx} {a : Tw.E} {x : Expr} {p : Pos} (ha : SE C X a x) (hx : tstE x = true) (op : BoolOp) : PE X (.BoolOp op [x] p) (tE X.K (Tw.evE C a)) ∧ PW X (.BoolOp op [x] p) (tT X.K (Tw.evE C a)) := by
  refine ⟨pe_one ha.1, ?_⟩
  cases op with
  | And => exact pw_and1 (ha.2 hx)
  | Or => exact pw_or1 (ha.2 hx)
theorem boot_str' : bootBuiltins "str" = some (.type "str") := by decide +kernel
theorem boot_bool' : bootBuiltins "bool" = some (.type "bool") := by decide +kernel
theorem ty_ok {X : Cx} (R : Rdy cf C X) (t : Tw.Ty) {p : Pos} (hg : Gl X (tyS t)) : PE X (.Name (tyS t) p) (tC (.ty (tyN t))) := by
  cases t with
  | list => exact pe_bltn hg (R.blt _ (by simp [bnames, tyS])) PyProof.Rows.boot_list rfl (by decide) (by decide)
  | tuple => exact pe_bltn hg (R.blt _ (by simp [bnames, tyS])) PyProof.Rows.boot_tuple rfl (by decide) (by decide)
  | dict => exact pe_bltn hg (R.blt _ (by simp [bnames, tyS])) PyProof.Rows.boot_dict rfl (by decide) (by decide)
  | int => exact pe_bltn hg (R.blt _ (by simp [bnames, tyS])) PyProof.Rows.boot_int rfl (by decide) (by decide)
  | str => exact pe_bltn hg (R.blt _ (by simp [bnames, tyS])) boot_str' rfl (by decide) (by decide)
  | bool => exact pe_bltn hg (R.blt _ (by simp [bnames, tyS])) boot_bool' rfl (by decide) (by decide)
/-- a list of plain ones -/
theorem star_all {env : Env} : ∀ {ys : List Expr}, ys.all plainE = true → starEach ys env = ys.map fun y => (false, eval y env)
  | [], _ => rfl
  | y :: r, h => by
    rw [List.all_cons, Bool.and_eq_true] at h
    rw [star_plain h.1, star_all h.2, List.map_cons]
mutual
theorem sndE : ∀ (t : Tw.E) {sc : Sc} {N : List Str} {X : Cx} {e : Expr}, Rdy cf C X → Sees sc N X → chkE cf sc N t e = true → SE C X t e
  | .var i, sc, N, X, e, R, S, h => by
    rw [chkE.eq_def] at h; dsimp only at h
    split at h
    · next x p =>
      simp only [Bool.and_eq_true, decide_eq_true_eq, Bool.not_eq_true'] at h
      refine SE.val ?_ rfl
      rw [show Tw.evE C (.var i) = fun ρ h => (match ρ[i]? with | some (some w) => .ok w h | _ => .bad) from by funext ρ h; rw [Tw.evE_var] <;> rfl]
      exact s_var (by rw [S.n]; exact h.1.1.1) (S.vis x h.1.1.2) h.1.2 h.2
    · exact no h
  | .cst w, sc, N, X, e, R, S, h => by
    rw [chkE.eq_def] at h; dsimp only at h
    split at h
    · exact cst_ok h
    · exact no h
  | .tup es, sc, N, X, e, R, S, h => by
    rw [chkE.eq_def] at h; dsimp only at h
    split at h
    · simp only [Bool.and_eq_true, decide_eq_true_eq] at h
      obtain ⟨_, z⟩ := sndEs es R S h.1
      refine SE.val ?_ rfl
      rw [show Tw.evE C (.tup es) = fun ρ h => (Tw.evEs C es ρ h).bind fun xs h => .ok (.tup xs) h from by funext ρ h; rw [Tw.evE_tup]]
      exact s_tup z (by rw [sizeLine_eq]; omega)
    · exact no h
  | .lst es, sc, N, X, e, R, S, h => by
    rw [chkE.eq_def] at h; dsimp only at h
    split at h
    · simp only [Bool.and_eq_true, decide_eq_true_eq] at h
      obtain ⟨_, z⟩ := sndEs es R S h.1
      refine SE.val ?_ rfl
      rw [show Tw.evE C (.lst es) = fun ρ h => (Tw.evEs C es ρ h).bind fun xs h => Tw.new (.lst xs) h from by funext ρ h; rw [Tw.evE_lst]]
      exact s_lst z (by rw [sizeLine_eq]; omega)
    · exact no h
  | .dic es, sc, N, X, e, R, S, h => by
    rw [chkE.eq_def] at h; dsimp only at h
    split at h
    · next ks vs p =>
      simp only [Bool.and_eq_true, decide_eq_true_eq] at h
      obtain ⟨z1, z2, z3, z4, z5⟩ := sndD es (pos := p) R S h.1
      refine SE.val ?_ rfl
      have e : Tw.evE C (.dic es) = dDic (dPrs C es) := by
        funext ρ h
        rw [Tw.evE_dic]
        unfold dDic
        rw [z5] <;> rfl
      rw [e]
      by_cases c : ks = []
      · subst c
        have hv : vs = [] := List.length_eq_zero_iff.mp z3.symm
        subst hv
        have hp : dPrs C es = [] := List.length_eq_zero_iff.mp z4
        rw [hp]
        exact s_dic0
      · exact s_dic z1 z2 z3 c h.2 z4
    · exact no h
  | .bin op a b, sc, N, X, e, R, S, h => by
    rw [chkE.eq_def] at h; dsimp only at h
    split at h
    · simp only [Bool.and_eq_true, decide_eq_true_eq] at h
      obtain ⟨⟨rfl, h1⟩, h2⟩ := h
      exact bin_ok (sndE a R S h1) (sndE b R S h2)
    · exact no h
  | .cmp op a b, sc, N, X, e, R, S, h => by
    rw [chkE.eq_def] at h; dsimp only at h
    split at h
    · split at h
      · simp only [Bool.and_eq_true, decide_eq_true_eq] at h
        obtain ⟨⟨⟨rfl, h0⟩, h1⟩, h2⟩ := h
        exact cmp_ok R (sndE a R S h1) (sndE b R S h2) h0
      · exact no h
    · exact no h
  | .and a b, sc, N, X, e, R, S, h => by
    rw [chkE.eq_def] at h; dsimp only at h
    split at h
    · next xs p =>
      split at h
      · next x y r =>
        simp only [Bool.and_eq_true] at h
        obtain ⟨⟨h0, h1⟩, h2⟩ := h
        split at h2
        · simp only [Bool.and_eq_true] at h2
          have z := bool_ok (p := p) (sndE b R S h2.2) h2.1 .And
          exact and_ok (sndE a R S h1) h0 z.1 z.2
        · have z := sndE b R S h2
          exact and_ok (sndE a R S h1) h0 z.1 (PT.bool (z.2 rfl))
      · exact no h
    · exact no h
  | .or a b, sc, N, X, e, R, S, h => by
    rw [chkE.eq_def] at h; dsimp only at h
    split at h
    · next xs p =>
      split at h
      · next x y r =>
        simp only [Bool.and_eq_true] at h
        obtain ⟨⟨h0, h1⟩, h2⟩ := h
        split at h2
        · simp only [Bool.and_eq_true] at h2
          have z := bool_ok (p := p) (sndE b R S h2.2) h2.1 .Or
          exact or_ok (sndE a R S h1) h0 z.1 z.2
        · have z := sndE b R S h2
          exact or_ok (sndE a R S h1) h0 z.1 (PT.bool (z.2 rfl))
      · exact no h
    · exact no h
  | .not a, sc, N, X, e, R, S, h => by
    rw [chkE.eq_def] at h; dsimp only at h
    split at h
    · simp only [Bool.and_eq_true] at h
      exact not_ok (sndE a R S h.2) h.1
    · exact no h
  | .ite c a b, sc, N, X, e, R, S, h => by
    rw [chkE.eq_def] at h; dsimp only at h
    split at h
    · simp only [Bool.and_eq_true] at h
      obtain ⟨⟨⟨h0, h1⟩, h2⟩, h3⟩ := h
      refine ⟨?_, fun z => ?_⟩
      · rw [show Tw.evE C (.ite c a b) = fun ρ h => (Tw.evE C c ρ h).bind fun x h => match Tw.truth h x with
          | some true => Tw.evE C a ρ h
          | some false => Tw.evE C b ρ h
          | none => .bad from by funext ρ h; rw [Tw.evE_ite] <;> rfl]
        exact s_ite ((sndE c R S h1).2 h0) (sndE a R S h2).1 (sndE b R S h3).1
      · simp [tstE, noIf] at z
    · exact no h
  | .idx a b, sc, N, X, e, R, S, h => by
    rw [chkE.eq_def] at h; dsimp only at h
    split at h
    · simp only [Bool.and_eq_true] at h
      refine SE.val ?_ rfl
      rw [show Tw.evE C (.idx a b) = fun ρ h => (Tw.evE C a ρ h).bind fun x h => (Tw.evE C b ρ h).bind fun y h => Tw.idx x y h from by funext ρ h; rw [Tw.evE_idx]]
      exact s_idx (by have := R.units; omega) (sndE a R S h.1.2).1 (sndE b R S h.2).1 (ix_plain h.1.1)
    · exact no h
  | .sl a lo hi, sc, N, X, e, R, S, h => by
    rw [chkE.eq_def] at h; dsimp only at h
    split at h
    · simp only [Bool.and_eq_true] at h
      refine SE.val ?_ rfl
      rw [show Tw.evE C (.sl a lo hi) = fun ρ h => (Tw.evE C a ρ h).bind fun x h => (Tw.evEo C lo ρ h).bind fun l h => (Tw.evEo C hi ρ h).bind fun u h => Tw.slice x l u h from by funext ρ h; rw [Tw.evE_sl]]
      exact s_slice (sndE a R S h.1.1).1 (sndEo lo R S h.1.2) (sndEo hi R S h.2)
    · exact no h
  | .call f es, sc, N, X, e, R, S, h => by
    rw [chkE.eq_def] at h; dsimp only at h
    split at h
    · next x p y ys pos =>
      simp only [Bool.and_eq_true, decide_eq_true_eq, Bool.not_eq_true'] at h
      obtain ⟨⟨⟨h0, h1⟩, h2⟩, h3⟩ := h
      obtain ⟨hp, z⟩ := sndEs es R S h3
      obtain ⟨k, g, fd, ps, G, hr, hm, hk, hb⟩ := R.own f x h0
      refine SE.val ?_ rfl
      rw [show Tw.evE C (.call f es) = fun ρ h => (Tw.evEs C es ρ h).bind fun xs h => C f xs h from by funext ρ h; rw [Tw.evE_call]]
      have hp' : plainE y = true ∧ ys.all plainE = true := by rw [List.all_cons, Bool.and_eq_true] at hp; exact hp
      refine s_call G hr (S.gl x h1) hm hk hb z h2 (star_plain hp'.1) ?_
      rw [star_all hp'.2]
      simp [backTo]
    · exact no h
  | .blt b a, sc, N, X, e, R, S, h => by
    rw [chkE.eq_def] at h; dsimp only at h
    split at h
    · next x p y pos =>
      simp only [Bool.and_eq_true, decide_eq_true_eq] at h
      obtain ⟨⟨⟨⟨rfl, h1⟩, h2⟩, h3⟩, h4⟩ := h
      exact blt_ok R h1 (S.gl _ h2) (sndE a R S h4) h3
    · exact no h
  | .mth m o es, sc, N, X, e, R, S, h => by
    rw [chkE.eq_def] at h; dsimp only at h
    split at h
    · next v x ap ys cp =>
      simp only [Bool.and_eq_true, decide_eq_true_eq] at h
      obtain ⟨⟨⟨⟨⟨⟨rfl, h1⟩, h2⟩, h3⟩, h4⟩, h5⟩, h6⟩ := h
      have ho := (sndE o R S h5).1
      have hu : X.A.units + 1 < cLine := by have := R.units; omega
      refine SE.val ?_ rfl
      cases es with
      | nil =>
        rw [chkEs.eq_def] at h6; dsimp only at h6
        split at h6
        · cases m <;> exact no h1
        · exact no h6
      | cons e1 es =>
        cases es with
        | nil =>
          rw [chkEs.eq_def] at h6; dsimp only at h6
          split at h6
          · next y r =>
            simp only [Bool.and_eq_true] at h6
            obtain ⟨⟨p1, q1⟩, q2⟩ := h6
            rw [chkEs.eq_def] at q2; dsimp only at q2
            split at q2
            · have hst : starEach [y] X.env = [(false, eval y X.env)] := star_plain p1
              have he := (sndE e1 R S q1).1
              have me : Me X v (mN m) ap [y] cp := me_ok h3 h4 h2 (by rw [hst]; rfl) (by simp)
              have hev : Tw.evE C (.mth m o (.cons e1 .nil)) = dM1 m (Tw.evE C o) (Tw.evE C e1) := by
                funext ρ h
                rw [Tw.evE_mth]
                unfold dM1
                congr 1
                funext x h
                congr 1
                rw [Tw.evEs_cons]
                cases Tw.evE C e1 ρ h with
                | ok a h => simp
                | _ => rfl
              rw [hev]
              cases m with
              | append => exact s_append me hst ho he
              | get => exact s_get1 hu me (by rw [hst]; rfl) ho he
              | join => exact s_join me hst ho he
            · exact no q2
          · exact no h6
        | cons e2 es =>
          cases es with
          | nil =>
            rw [chkEs.eq_def] at h6; dsimp only at h6
            split at h6
            · next y r =>
              simp only [Bool.and_eq_true] at h6
              obtain ⟨⟨p1, q1⟩, q2⟩ := h6
              rw [chkEs.eq_def] at q2; dsimp only at q2
              split at q2
              · next y2 r =>
                simp only [Bool.and_eq_true] at q2
                obtain ⟨⟨p2, q2⟩, q3⟩ := q2
                rw [chkEs.eq_def] at q3; dsimp only at q3
                split at q3
                · have hst2 : starEach [y2] X.env = [(false, eval y2 X.env)] := star_plain p2
                  have hst : starEach [y, y2] X.env = [(false, eval y X.env), (false, eval y2 X.env)] := by rw [star_plain p1, hst2]
                  have me : Me X v (mN m) ap [y, y2] cp := me_ok h3 h4 h2 (by rw [hst]; rfl) (by simp)
                  have hev : Tw.evE C (.mth m o (.cons e1 (.cons e2 .nil))) = dM2 m (Tw.evE C o) (Tw.evE C e1) (Tw.evE C e2) := by
                    funext ρ h
                    rw [Tw.evE_mth]
                    unfold dM2
                    congr 1
                    funext x h
                    congr 1
                    rw [Tw.evEs_cons]
                    cases Tw.evE C e1 ρ h with
                    | ok a h =>
                      simp only [Tw.R.bind_ok, Tw.evEs_cons]
                      cases Tw.evE C e2 ρ h with
                      | ok a h => simp
                      | _ => rfl
                    | _ => rfl
                  rw [hev]
                  cases m with
                  | get => exact s_get2 hu me (by rw [hst]; rfl) ho (sndE e1 R S q1).1 (sndE e2 R S q2).1
                  | _ => exact no h1
                · exact no q3
              · exact no q2
            · exact no h6
          | cons e3 es =>
            rw [chkEs.eq_def] at h6; dsimp only at h6
            split at h6
            · simp only [Bool.and_eq_true] at h6
              obtain ⟨_, h6⟩ := h6
              rw [chkEs.eq_def] at h6; dsimp only at h6
              split at h6
              · simp only [Bool.and_eq_true] at h6
                obtain ⟨_, h6⟩ := h6
                rw [chkEs.eq_def] at h6; dsimp only at h6
                split at h6
                · cases m <;> exact no h1
                · exact no h6
              · exact no h6
            · exact no h6
    · exact no h
  | .isa a t, sc, N, X, e, R, S, h => by
    rw [chkE.eq_def] at h; dsimp only at h
    split at h
    · next x p y n p2 pos =>
      simp only [Bool.and_eq_true, decide_eq_true_eq] at h
      obtain ⟨⟨⟨⟨⟨rfl, rfl⟩, h1⟩, h2⟩, h3⟩, h4⟩ := h
      refine SE.val ?_ rfl
      rw [show Tw.evE C (.isa a t) = fun ρ h => (Tw.evE C a ρ h).bind fun x h => Tw.R.of ((Tw.isa x t h).map .bl) h from by funext ρ h; rw [Tw.evE_isa]]
      exact s_isa (S.gl _ h1) (R.blt _ (by simp [bnames])) (sndE a R S h4).1 (ty_ok R t (S.gl _ h2)) (star_plain h3)
    · exact no h
  | .comp el it c, sc, N, X, e, R, S, h => by
    rw [chkE.eq_def] at h; dsimp only at h
    split at h
    · next y x px iter ifs scope pos =>
      simp only [Bool.and_eq_true, decide_eq_true_eq] at h
      obtain ⟨⟨⟨⟨⟨h0, h1⟩, h2⟩, h3⟩, h4⟩, h5⟩ := h
      have cs := csc_of S h0
      have hk : scope.kind = .function := cs.kind
      have hnd : (compN X.N x).Nodup := by rw [S.n]; exact h1
      have sees : ∀ {Cc : Addr} {s : Shared} {H : L2.Hp} {pins : List (Addr × Obj)} {fp : List Addr}, Sees scope.names (compN N x) (compCx X scope Cc x s H pins fp) := fun {Cc s H pins fp} => by
        have z := Sees.comp (X := X) (scope := scope) (C := Cc) (x := x) (s := s) (H := H) (pins := pins) (fp := fp) hk
        rw [S.n] at z; exact z
      refine SE.val ?_ rfl
      have hev : Tw.evE C (.comp el it c) = dCmp (Tw.evIt C it) (Tw.evEo C c) (Tw.evE C el) := by
        funext ρ h
        rw [Tw.evE_comp]
        rfl
      rw [hev]
      refine s_comp R.calm cs hnd (sndI it R S h3) (folded_plain h2) (fun Cc s H pins fp => (sndE el R.comp sees h4).1) ?_
      cases c with
      | none =>
        cases ifs with
        | nil => exact .inl ⟨rfl, fun ρ h => by rw [Tw.evEo_none]⟩
        | cons _ _ => exact no h5
      | some d =>
        cases ifs with
        | nil => exact no h5
        | cons z r =>
          cases r with
          | nil =>
            have h5 : (tstE z && chkE cf scope.names (compN N x) d z) = true := h5
            rw [Bool.and_eq_true] at h5
            exact .inr ⟨z, Tw.evE C d, rfl, fun ρ h => by rw [Tw.evEo_some], fun Cc s H pins fp => (sndE d R.comp sees h5.2).2 h5.1⟩
          | cons _ _ => exact no h5
    · exact no h
theorem sndEs : ∀ (ts : Tw.Es) {sc : Sc} {N : List Str} {X : Cx} {es : List Expr}, Rdy cf C X → Sees sc N X → chkEs cf sc N ts es = true → es.all plainE = true ∧ PA X es (tA X.K es.length (Tw.evEs C ts))
  | .nil, sc, N, X, es, R, S, h => by
    rw [chkEs.eq_def] at h; dsimp only at h
    split at h
    · refine ⟨rfl, ?_⟩
      rw [show Tw.evEs C .nil = fun _ h => .ok [] h from by funext ρ h; rw [Tw.evEs_nil]]
      exact s_nil
    · exact no h
  | .cons t ts, sc, N, X, es, R, S, h => by
    rw [chkEs.eq_def] at h; dsimp only at h
    split at h
    · next x r =>
      simp only [Bool.and_eq_true] at h
      obtain ⟨⟨h0, h1⟩, h2⟩ := h
      obtain ⟨z1, z2⟩ := sndEs ts R S h2
      refine ⟨by rw [List.all_cons, h0, z1]; rfl, ?_⟩
      rw [show Tw.evEs C (.cons t ts) = fun ρ h => (Tw.evE C t ρ h).bind fun x h => (Tw.evEs C ts ρ h).bind fun xs h => .ok (x :: xs) h from by funext ρ h; rw [Tw.evEs_cons]]
      exact s_cons (sndE t R S h1).1 z2 (star_plain h0)
    · exact no h
theorem sndD : ∀ (ts : Tw.Es) {sc : Sc} {N : List Str} {X : Cx} {ks : List (Option Expr)} {vs : List Expr} {pos : Pos}, Rdy cf C X → Sees sc N X → chkD cf sc N ts ks vs = true →
    PPs X pos ks vs ((dPrs C ts).map fun p => (tE X.K p.1, tE X.K p.2)) ∧ ks.all (·.isSome) = true ∧ ks.length = vs.length ∧ (dPrs C ts).length = ks.length ∧ dPairs (dPrs C ts) = Tw.evEs C ts
  | .nil, sc, N, X, ks, vs, pos, R, S, h => by
    rw [chkD.eq_def] at h; dsimp only at h
    split at h
    · refine ⟨pps_nil, rfl, rfl, rfl, ?_⟩
      funext ρ h
      rw [Tw.evEs_nil]; rfl
    · exact no h
  | .cons t ts, sc, N, X, ks, vs, pos, R, S, h => by
    rw [chkD.eq_def] at h; dsimp only at h
    cases ts with
    | nil => exact no h
    | cons v r =>
      dsimp only at h
      split at h
      · next x ks y vs =>
        simp only [Bool.and_eq_true] at h
        obtain ⟨⟨h0, h1⟩, h2⟩ := h
        obtain ⟨z1, z2, z3, z4, z5⟩ := sndD r (pos := pos) R S h2
        refine ⟨pps_cons (sndE t R S h0).1 (sndE v R S h1).1 z1, by rw [List.all_cons, z2]; rfl, by rw [List.length_cons, List.length_cons, z3], by rw [List.length_cons, ← z4]; rfl, ?_⟩
        funext ρ h
        rw [Tw.evEs_cons]
        show (Tw.evE C t ρ h).bind (fun x h => (Tw.evE C v ρ h).bind fun y h => (dPairs (dPrs C r) ρ h).bind fun xs h => .ok (x :: y :: xs) h) = _
        rw [z5]
        congr 1
        funext x h
        rw [Tw.evEs_cons, bind_assoc]
        congr 1
        funext y h
        rw [bind_assoc]
        rfl
      · exact no h
theorem sndEo : ∀ (t : Tw.Eo) {sc : Sc} {N : List Str} {X : Cx} {o : Option Expr}, Rdy cf C X → Sees sc N X → chkEo cf sc N t o = true → PO X o (tPv X.K (Tw.evEo C t))
  | .none, sc, N, X, o, R, S, h => by
    rw [chkEo.eq_def] at h; dsimp only at h
    split at h
    · rw [show Tw.evEo C .none = fun _ h => .ok none h from by funext ρ h; rw [Tw.evEo_none]]
      exact po_none'
    · exact no h
  | .some t, sc, N, X, o, R, S, h => by
    rw [chkEo.eq_def] at h; dsimp only at h
    split at h
    · rw [show Tw.evEo C (.some t) = fun ρ h => (Tw.evE C t ρ h).bind fun x h => .ok (some x) h from by funext ρ h; rw [Tw.evEo_some]]
      exact po_some' (sndE t R S h).1
    · exact no h
theorem sndI : ∀ (t : Tw.It) {sc : Sc} {N : List Str} {X : Cx} {tg e : Expr}, Rdy cf C X → Sees sc N X → chkI cf sc N t e = true → PI X tg e (tI X.K (Tw.evIt C t))
  | .seq a, sc, N, X, tg, e, R, S, h => by
    rw [chkI.eq_def] at h; dsimp only at h
    rw [show Tw.evIt C (.seq a) = fun ρ h => (Tw.evE C a ρ h).bind fun x h => Tw.R.of (Tw.src h x) h from by funext ρ h; rw [Tw.evIt_seq]]
    exact i_seq (sndE a R S h).1
  | .rng a, sc, N, X, tg, e, R, S, h => by
    rw [chkI.eq_def] at h; dsimp only at h
    split at h
    · simp only [Bool.and_eq_true, decide_eq_true_eq] at h
      obtain ⟨⟨⟨rfl, h1⟩, h2⟩, h3⟩ := h
      rw [show Tw.evIt C (.rng a) = fun ρ h => (Tw.evE C a ρ h).bind fun x h => match x with
        | .int j => if Tw.rngOk j then .ok (.fix (Tw.upTo 0 j.toNat)) h else .bad
        | _ => .bad from by funext ρ h; rw [Tw.evIt_rng] <;> rfl]
      exact i_rng (S.gl _ h1) (R.blt _ (by simp [bnames])) (sndE a R S h3).1 (star_plain h2)
    · exact no h
  | .rng2 a b, sc, N, X, tg, e, R, S, h => by
    rw [chkI.eq_def] at h; dsimp only at h
    split at h
    · simp only [Bool.and_eq_true, decide_eq_true_eq] at h
      obtain ⟨⟨⟨⟨⟨rfl, h1⟩, h2⟩, h3⟩, h4⟩, h5⟩ := h
      rw [show Tw.evIt C (.rng2 a b) = fun ρ h => (Tw.evE C a ρ h).bind fun x h => (Tw.evE C b ρ h).bind fun y h => match x, y with
        | .int i, .int j => if Tw.rngOk i && Tw.rngOk j then .ok (.fix (Tw.upTo i (j - i).toNat)) h else .bad
        | _, _ => .bad from by funext ρ h; rw [Tw.evIt_rng2] <;> rfl]
      exact i_rng2 (S.gl _ h1) (R.blt _ (by simp [bnames])) (sndE a R S h4).1 (sndE b R S h5).1 (by rw [star_plain h2, star_plain h3]; rfl) (star_plain h3)
    · exact no h
  | .zip a b, sc, N, X, tg, e, R, S, h => by
    rw [chkI.eq_def] at h; dsimp only at h
    exact no h
end
end
end TwS

set_option Elab.async false
set_option linter.all false
set_option maxRecDepth 100000
set_option maxHeartbeats 1000000
namespace TwS
open PySem L2 PyProof.Rows
/-- the next one of an iterator over a list (false) or a tuple (true) -/
def SIt (T : Bool) (h : Heap) (it a : Addr) (k : Nat) : Prop := match T with
  | true => h.IsTupleIter it a k
  | false => h.IsListIter it a k
def SOb (T : Bool) (h : Heap) (a : Addr) (xs : Array Value) : Prop := match T with
  | true => h.IsTuple a xs
  | false => h.IsList a xs
theorem SIt.at {T : Bool} {h h' : Heap} {it a : Addr} {k : Nat} (x : SIt T h it a k) (e : ∀ o, h.get? it = some o → h'.get? it = some o) : SIt T h' it a k := by
  cases T with
  | true => exact Heap.IsTupleIter.at x e
  | false => exact Heap.IsListIter.at x e
theorem SOb.at {T : Bool} {h h' : Heap} {a : Addr} {xs : Array Value} (x : SOb T h a xs) (e : ∀ o, h.get? a = some o → h'.get? a = some o) : SOb T h' a xs := by
  cases T with
  | true => exact Heap.IsTuple.at x e
  | false => exact Heap.IsList.at x e
theorem SIt.there {T : Bool} {h : Heap} {it a : Addr} {k : Nat} (x : SIt T h it a k) : ∃ o, h.get? it = some o ∧ ∀ v, o.data ≠ .cell v := by
  cases T with
  | true => obtain ⟨o, e, _, d⟩ := x; exact ⟨o, e, fun v z => by rw [d] at z; cases z⟩
  | false => obtain ⟨o, e, _, d⟩ := x; exact ⟨o, e, fun v z => by rw [d] at z; cases z⟩
section
variable {prog : Program} {w : World} {A : Around} {E : Value → Shared → Prop} {s : Shared} {it t : Addr} {i : Nat} {xs : Array Value}
theorem tup_draw {x : Value} {Q : Value → Shared → Prop} (hit : s.heap.IsTupleIter it t i) (ht : s.heap.IsTuple t xs) (hx : xs[i]? = some x) (hQ : ∀ h', h'.IsTupleIter it t (i + 1) → Heap.SameBut it s.heap h' → Q x { s with heap := h' }) :
    wpAny (model prog w) A (Builtin.SmallTypes.nextOf (.ref it)) Q E s := by
  have tI := hit.typeIs
  obtain ⟨oI, gI, cI, dI⟩ := hit
  obtain ⟨oT, gT, cT, nT, dT⟩ := ht
  rw [Builtin.SmallTypes.nextOf]
  apply wpAny_bind
  refine wpAny_callSpecial?_slot (name := Str.ofString "__next__") tI F.slot_tuple_iterator_next ?_
  refine wpAny_call_entry F.slot_tuple_iterator_next tI F.entry_tuple_iterator_next ?_ (F.args_tuple_iterator_next_1 _)
  show wpAny _ _ (field (.ref it) 0 >>= _) _ _ _
  refine wpAny_bind (wpAny_field gI dI (x := Value.ref t) rfl ?_)
  show wpAny _ _ (ite ((Value.ref t == Value.none) = true) _ _) _ _ _
  refine (if_neg Bool.false_ne_true : ite ((Value.ref t == Value.none) = true) _ _ = _) ▸ ?_
  show wpAny _ _ (field (.ref it) 1 >>= _) _ _ _
  refine wpAny_bind (wpAny_field gI dI (x := Value.int i 0) rfl ?_)
  show wpAny _ _ (seqItems? (.ref t) >>= _) _ _ _
  refine wpAny_bind (wpAny_seqItems gT dT ?_)
  simp only [hx, Int.toNat_natCast]
  refine wpAny_bind (wpAny_setField gI dI (by simp) (wpAny_pure ⟨x, rfl, ?_⟩))
  refine wpAny_pure (hQ _ ⟨_, Heap.get?_update_self _ gI (Obj.isFreed_of_fields (Obj.data_mapFields dI _)), (Obj.cls_mapFields ..).trans cI, ?_⟩ (Heap.SameBut.update ..))
  rw [Obj.data_mapFields dI]
  simp [rawInt]
theorem tup_none {Q : Value → Shared → Prop} (hh : A.handled = none) (hit : s.heap.IsTupleIter it t i) (ht : s.heap.IsTuple t xs) (hx : xs[i]? = none)
    (hE : ∀ h' e, Heap.ExtBut it s.heap h' → (∃ o, h'.get? e = some o ∧ o.cls = .type "StopIteration") → E (.ref e) { s with heap := h' }) : wpAny (model prog w) A (Builtin.SmallTypes.nextOf (.ref it)) Q E s := by
  have tI := hit.typeIs
  obtain ⟨oI, gI, cI, dI⟩ := hit
  obtain ⟨oT, gT, cT, nT, dT⟩ := ht
  rw [Builtin.SmallTypes.nextOf]
  apply wpAny_bind
  refine wpAny_callSpecial?_slot (name := Str.ofString "__next__") tI F.slot_tuple_iterator_next ?_
  refine wpAny_call_entry F.slot_tuple_iterator_next tI F.entry_tuple_iterator_next ?_ (F.args_tuple_iterator_next_1 _)
  show wpAny _ _ (field (.ref it) 0 >>= _) _ _ _
  refine wpAny_bind (wpAny_field gI dI (x := Value.ref t) rfl ?_)
  show wpAny _ _ (ite ((Value.ref t == Value.none) = true) _ _) _ _ _
  refine (if_neg Bool.false_ne_true : ite ((Value.ref t == Value.none) = true) _ _ = _) ▸ ?_
  show wpAny _ _ (field (.ref it) 1 >>= _) _ _ _
  refine wpAny_bind (wpAny_field gI dI (x := Value.int i 0) rfl ?_)
  show wpAny _ _ (seqItems? (.ref t) >>= _) _ _ _
  refine wpAny_bind (wpAny_seqItems gT dT ?_)
  simp only [hx, Int.toNat_natCast]
  refine wpAny_bind (wpAny_rule (wpAny_bind (wpAny_setField gI dI (by simp) ?_)))
  show wpAny _ _ (newExc (.type "StopIteration") [] >>= raiseNew) _ _ _
  apply wpAny_bind
  rw [newExc, newTuple]
  apply wpAny_bind
  refine wpAny_newObj_type ?_ (by size_fits)
  refine wpAny_bind (m := firstArgMember _ _) (wpAny_of_eq (a := Value.none) (by simp only [firstArgMember]; rfl) ?_)
  refine wpAny_newObj_type ?_ (by size_fits)
  rw [raiseNew]
  refine wpAny_bind (wpAny_handled ?_)
  rw [show A.in1.handled = none from hh]
  refine wpAny_bind (wpAny_pure (wpAny_throw (hE _ _ ?_ ⟨_, Heap.get?_push_size _ rfl, rfl⟩)))
  exact ((Heap.SameBut.update ..).extBut.push _).push _
theorem s_draw {T : Bool} {x : Value} {Q : Value → Shared → Prop} (hit : SIt T s.heap it t i) (ht : SOb T s.heap t xs) (hx : xs[i]? = some x) (hQ : ∀ h', SIt T h' it t (i + 1) → Heap.SameBut it s.heap h' → Q x { s with heap := h' }) :
    wpAny (model prog w) A (Builtin.SmallTypes.nextOf (.ref it)) Q E s := by
  cases T with
  | true => exact tup_draw hit ht hx hQ
  | false => exact wpAny_nextOf_list_item hit ht hx hQ
theorem s_none {T : Bool} {Q : Value → Shared → Prop} (hh : A.handled = none) (hit : SIt T s.heap it t i) (ht : SOb T s.heap t xs) (hx : xs[i]? = none)
    (hE : ∀ h' e, Heap.ExtBut it s.heap h' → (∃ o, h'.get? e = some o ∧ o.cls = .type "StopIteration") → E (.ref e) { s with heap := h' }) : wpAny (model prog w) A (Builtin.SmallTypes.nextOf (.ref it)) Q E s := by
  cases T with
  | true => exact tup_none hh hit ht hx hE
  | false => exact wpAny_nextOf_list_end hh hit ht hx hE
end
section
variable {prog : Program} {w : World} {A : Around} {E : Value → Shared → Prop} {s : Shared} {z TI TO i1 i2 l1 l2 : Addr} {k : Nat} {xs ys : Array Value} {T1 T2 : Bool}
/-- a zip that is ready for its next pair -/
structure Zp (T1 T2 : Bool) (z TI TO i1 i2 l1 l2 : Addr) (k : Nat) (h : Heap) : Prop where
  zp : IsZip h z TI TO .none
  ti : IsPair h TI (.ref i1) (.ref i2)
  to : ∃ a b, IsPair h TO a b
  one : SIt T1 h i1 l1 k
  two : SIt T2 h i2 l2 k
theorem z_item {x y : Value} {Q : Value → Shared → Prop} (D : ZipApart z TI TO i1 i2 l1 l2) (Z : Zp T1 T2 z TI TO i1 i2 l1 l2 k s.heap) (b1 : SOb T1 s.heap l1 xs) (b2 : SOb T2 s.heap l2 ys) (hx : xs[k]? = some x) (hy : ys[k]? = some y)
    (hQ : ∀ h', IsZip h' z TI TO (rawInt s.heap.objs.size) → IsPair h' TO x y → SIt T1 h' i1 l1 (k + 1) → SIt T2 h' i2 l2 (k + 1) → IsPair h' s.heap.objs.size x y →
      (∀ c o, c ≠ z → c ≠ TO → c ≠ i1 → c ≠ i2 → s.heap.get? c = some o → h'.get? c = some o) → Q (.ref s.heap.objs.size) { s with heap := h' }) :
    wpAny (model prog w) A (Builtin.«zip.__next__» ⟨[.ref z], []⟩) (fun fin s' => ∃ v, fin = .done (.ret v) ∧ Q v s') E s := by
  obtain ⟨hz, hTI, ⟨a, b, hTO⟩, h1, h2⟩ := Z
  show wpAny _ _ (field (.ref z) 2 >>= _) _ _ s
  refine wpAny_bind (wpAny_field hz rfl (x := Value.bool false) rfl ?_)
  show wpAny _ _ (field (.ref z) 3 >>= _) _ _ s
  refine wpAny_bind (wpAny_field hz rfl (x := Value.ref TI) rfl (wpAny_bind (wpAny_seqItems hTI rfl ?_)))
  show wpAny _ _ (Builtin.SmallTypes.ownedTupleIsFree (.ref z) >>= _) _ _ s
  apply wpAny_bind
  rw [Builtin.SmallTypes.ownedTupleIsFree]
  refine wpAny_bind (wpAny_field hz rfl (x := Value.none) rfl (wpAny_pure ?_))
  rw [if_pos rfl]
  refine wpAny_bind (wpAny_rule (wpAny_bind (wpAny_field hz rfl (x := Value.ref TO) rfl (wpAny_bind (wpAny_setField_rec hz (by simp) fun g1 z1 u1 => ?_)))))
  have z1 : IsZip g1 z TI TO .ellipsis := z1
  apply wpAny_bind
  simp only [List.zipIdx_cons, List.zipIdx_nil, List.forIn_nil, List.forIn_cons]
  apply wpAny_bind; apply wpAny_bind; apply wpAny_onRaise
  show wpAny _ _ (Builtin.SmallTypes.nextOf (.ref i1) >>= fun v => pure (some v)) _ _ _
  have e1 : ∀ c o, c ≠ z → s.heap.get? c = some o → g1.get? c = some o := fun c o n => u1.extBut c o n
  refine wpAny_bind (s_draw (h1.at fun o => e1 _ o D.i1z) (b1.at fun o => e1 _ o D.l1z) hx fun g2 q2 u2 => wpAny_pure ?_)
  have e2 : ∀ c o, c ≠ z → c ≠ i1 → s.heap.get? c = some o → g2.get? c = some o := fun c o n m e => u2.extBut c o m (e1 c o n e)
  have t2 : IsPair g2 TO a b := e2 _ _ D.TOz D.TOi1 hTO
  refine wpAny_bind (wpAny_seqItems t2 rfl (wpAny_bind (wpAny_updateSeq_pair t2 fun g3 t3 u3 => wpAny_bind (wpAny_letGo (wpAny_pure ?_)))))
  have t3 : IsPair g3 TO x b := t3
  apply wpAny_bind; apply wpAny_bind; apply wpAny_onRaise
  show wpAny _ _ (Builtin.SmallTypes.nextOf (.ref i2) >>= fun v => pure (some v)) _ _ _
  have e3 : ∀ c o, c ≠ z → c ≠ i1 → c ≠ TO → s.heap.get? c = some o → g3.get? c = some o := fun c o n m r e => u3.extBut c o r (e2 c o n m e)
  refine wpAny_bind (s_draw (h2.at fun o => e3 _ o D.i2z D.i12.symm D.TOi2.symm) (b2.at fun o => e3 _ o D.l2z D.l2i1 D.l2TO) hy fun g4 q4 u4 => wpAny_pure ?_)
  have t4 : IsPair g4 TO x b := u4.extBut _ _ D.TOi2 t3
  refine wpAny_bind (wpAny_seqItems t4 rfl (wpAny_bind (wpAny_updateSeq_pair t4 fun g5 t5 u5 => wpAny_bind (wpAny_letGo (wpAny_pure (wpAny_pure ?_))))))
  have t5 : IsPair g5 TO x y := t5
  refine wpAny_bind (wpAny_seqItems t5 rfl (wpAny_bind (wpAny_newTuple ?_)))
  have sz5 : g5.objs.size = s.heap.objs.size := by rw [u5.1, u4.1, u3.1, u2.1, u1.1]
  have e5 : ∀ c o, c ≠ z → c ≠ TO → c ≠ i1 → c ≠ i2 → s.heap.get? c = some o → g5.get? c = some o := fun c o n r m m' e => u5.extBut c o r (u4.extBut c o m' (e3 c o n m r e))
  have z5 : IsZip g5 z TI TO .ellipsis := u5.extBut _ _ D.TOz.symm (u4.extBut _ _ D.i2z.symm (u3.extBut _ _ D.TOz.symm (u2.extBut _ _ D.i1z.symm z1)))
  have q5 : SIt T1 g5 i1 l1 (k + 1) := q2.at fun o e => u5.extBut _ _ D.TOi1.symm (u4.extBut _ _ D.i12 (u3.extBut _ _ D.TOi1.symm e))
  have r5 : SIt T2 g5 i2 l2 (k + 1) := q4.at fun o e => u5.extBut _ _ D.TOi2.symm e
  show wpAny _ _ (Builtin.SmallTypes.ownedTupleHandOut (.ref z) (.ref g5.objs.size) >>= _) _ _ _
  apply wpAny_bind
  rw [Builtin.SmallTypes.ownedTupleHandOut]
  have z6 : IsZip (g5.push { cls := .type "tuple", data := .seq #[x, y] }) z TI TO .ellipsis := Heap.get?_push_of_some _ z5
  refine wpAny_bind (wpAny_setField_rec z6 (by simp) fun g7 z7 u7 => ?_)
  have z7 : IsZip g7 z TI TO (rawInt g5.objs.size) := z7
  refine wpAny_setField_rec z7 (by simp) fun g8 z8 u8 => wpAny_pure ⟨_, rfl, ?_⟩
  have z8 : IsZip g8 z TI TO (rawInt g5.objs.size) := z8
  have e8 : ∀ c o, c ≠ z → g5.get? c = some o → g8.get? c = some o := fun c o n e => u8.extBut c o n (u7.extBut c o n (Heap.get?_push_of_some _ e))
  have nz : g5.objs.size ≠ z := Nat.ne_of_gt (Heap.lt_size z5)
  have p8 : IsPair g8 g5.objs.size x y := u8.extBut _ _ nz (u7.extBut _ _ nz (Heap.get?_push_size _ rfl))
  show Q (.ref g5.objs.size) _
  rw [sz5] at z8 p8 ⊢
  exact hQ g8 z8 (e8 _ _ D.TOz t5) (q5.at fun o => e8 _ o D.i1z) (r5.at fun o => e8 _ o D.i2z) p8 fun c o n r m m' e => e8 c o n (e5 c o n r m m' e)
theorem z_end {Q : Fin → Shared → Prop} (hh : A.handled = none) (D : ZipApart z TI TO i1 i2 l1 l2) (Z : Zp T1 T2 z TI TO i1 i2 l1 l2 k s.heap) (b1 : SOb T1 s.heap l1 xs) (b2 : SOb T2 s.heap l2 ys) (hend : xs[k]? = none ∨ ys[k]? = none)
    (hE : ∀ h' e, (∀ c o, c ≠ z → c ≠ TO → c ≠ i1 → c ≠ i2 → s.heap.get? c = some o → h'.get? c = some o) → (∃ o, h'.get? e = some o ∧ o.cls = .type "StopIteration") → E (.ref e) { s with heap := h' }) :
    wpAny (model prog w) A (Builtin.«zip.__next__» ⟨[.ref z], []⟩) Q E s := by
  obtain ⟨hz, hTI, ⟨a, b, hTO⟩, h1, h2⟩ := Z
  show wpAny _ _ (field (.ref z) 2 >>= _) _ _ s
  refine wpAny_bind (wpAny_field hz rfl (x := Value.bool false) rfl ?_)
  show wpAny _ _ (field (.ref z) 3 >>= _) _ _ s
  refine wpAny_bind (wpAny_field hz rfl (x := Value.ref TI) rfl (wpAny_bind (wpAny_seqItems hTI rfl ?_)))
  show wpAny _ _ (Builtin.SmallTypes.ownedTupleIsFree (.ref z) >>= _) _ _ s
  apply wpAny_bind
  rw [Builtin.SmallTypes.ownedTupleIsFree]
  refine wpAny_bind (wpAny_field hz rfl (x := Value.none) rfl (wpAny_pure ?_))
  rw [if_pos rfl]
  refine wpAny_bind (wpAny_rule (wpAny_bind (wpAny_field hz rfl (x := Value.ref TO) rfl (wpAny_bind (wpAny_setField_rec hz (by simp) fun g1 z1 u1 => ?_)))))
  have z1 : IsZip g1 z TI TO .ellipsis := z1
  apply wpAny_bind
  simp only [List.zipIdx_cons, List.zipIdx_nil, List.forIn_nil, List.forIn_cons]
  apply wpAny_bind; apply wpAny_bind; apply wpAny_onRaise
  show wpAny _ _ (Builtin.SmallTypes.nextOf (.ref i1) >>= fun v => pure (some v)) _ _ _
  have e1 : ∀ c o, c ≠ z → s.heap.get? c = some o → g1.get? c = some o := fun c o n => u1.extBut c o n
  cases hx : xs[k]? with
  | none =>
    refine wpAny_bind (s_none hh (h1.at fun o => e1 _ o D.i1z) (b1.at fun o => e1 _ o D.l1z) hx fun g2 e u2 ⟨oe, ge, ce⟩ => ?_)
    have z2 : IsZip g2 z TI TO .ellipsis := u2 _ _ D.i1z.symm z1
    have ne : e ≠ z := fun q => by subst q; rw [z2] at ge; cases ge; simp at ce
    exact wpAny_setField_rec z2 (by simp) fun g3 _ u3 => hE g3 e (fun c o n _ m _ q => u3.extBut c o n (u2 c o m (e1 c o n q))) ⟨oe, u3.extBut _ _ ne ge, ce⟩
  | some x =>
    have hy : ys[k]? = none := hend.resolve_left (by rw [hx]; exact fun q => nomatch q)
    refine wpAny_bind (s_draw (h1.at fun o => e1 _ o D.i1z) (b1.at fun o => e1 _ o D.l1z) hx fun g2 q2 u2 => wpAny_pure ?_)
    have e2 : ∀ c o, c ≠ z → c ≠ i1 → s.heap.get? c = some o → g2.get? c = some o := fun c o n m e => u2.extBut c o m (e1 c o n e)
    have t2 : IsPair g2 TO a b := e2 _ _ D.TOz D.TOi1 hTO
    refine wpAny_bind (wpAny_seqItems t2 rfl (wpAny_bind (wpAny_updateSeq_pair t2 fun g3 t3 u3 => wpAny_bind (wpAny_letGo (wpAny_pure ?_)))))
    apply wpAny_bind; apply wpAny_bind; apply wpAny_onRaise
    show wpAny _ _ (Builtin.SmallTypes.nextOf (.ref i2) >>= fun v => pure (some v)) _ _ _
    have e3 : ∀ c o, c ≠ z → c ≠ i1 → c ≠ TO → s.heap.get? c = some o → g3.get? c = some o := fun c o n m r e => u3.extBut c o r (e2 c o n m e)
    refine wpAny_bind (s_none hh (h2.at fun o => e3 _ o D.i2z D.i12.symm D.TOi2.symm) (b2.at fun o => e3 _ o D.l2z D.l2i1 D.l2TO) hy fun g4 e u4 ⟨oe, ge, ce⟩ => ?_)
    have z4 : IsZip g4 z TI TO .ellipsis := u4 _ _ D.i2z.symm (u3.extBut _ _ D.TOz.symm (u2.extBut _ _ D.i1z.symm z1))
    have ne : e ≠ z := fun q => by subst q; rw [z4] at ge; cases ge; simp at ce
    exact wpAny_setField_rec z4 (by simp) fun g5 _ u5 => hE g5 e (fun c o n r m m' q => u5.extBut c o n (u4 c o m' (e3 c o n m r q))) ⟨oe, u5.extBut _ _ ne ge, ce⟩
end
end TwS

set_option Elab.async false
set_option linter.all false
set_option maxRecDepth 100000
set_option maxHeartbeats 1000000
namespace TwS
open PySem L2 PyProof.Rows
/-- a new iterator over a list or a tuple -/
def itO (T : Bool) (a : Addr) : Obj := { cls := .type (match T with | true => "tuple_iterator" | false => "list_iterator"), data := .fields #[.ref a, .int 0 0] }
def z1 (T1 : Bool) (h : Heap) (l1 : Addr) : Heap := h.push (itO T1 l1)
def z2 (T1 T2 : Bool) (h : Heap) (l1 l2 : Addr) : Heap := (z1 T1 h l1).push (itO T2 l2)
def z3 (T1 T2 : Bool) (h : Heap) (l1 l2 : Addr) : Heap := (z2 T1 T2 h l1 l2).push { cls := .type "tuple", data := .seq #[.ref h.objs.size, .ref (z1 T1 h l1).objs.size] }
def z4 (T1 T2 : Bool) (h : Heap) (l1 l2 : Addr) : Heap := (z3 T1 T2 h l1 l2).push { cls := .type "tuple", data := .seq #[.none, .none] }
def z5 (T1 T2 : Bool) (h : Heap) (l1 l2 : Addr) : Heap := (z4 T1 T2 h l1 l2).push { cls := .type "zip", data := .fields #[.none, .bool false, .bool false, .ref (z2 T1 T2 h l1 l2).objs.size, .ref (z3 T1 T2 h l1 l2).objs.size] }
theorem z_meets (T1 T2 : Bool) (l1 l2 : Addr) (xs ys : Array Value) :
    Meets (Builtin.«zip.__new__» ⟨[.type "zip", .ref l1, .ref l2], []⟩) (fun _ R s => SOb T1 s.heap l1 xs ∧ SOb T2 s.heap l2 ys ∧ R (.ok (.ret (.ref (z4 T1 T2 s.heap l1 l2).objs.size))) { s with heap := z5 T1 T2 s.heap l1 l2 }) :=
  .of_wp fun prog w A R s h => by
    obtain ⟨hp, g, d, tk, os⟩ := s
    obtain ⟨b1, b2, h⟩ := h
    have hsub := sub_zip
    cases T1 with
    | true =>
      have p1 : Heap.IsTuple (Shared.heap ⟨hp, g, d, tk, os⟩) l1 xs := b1
      cases T2 with
      | true =>
        have p2 : Heap.IsTuple (Shared.heap ⟨hp.push { cls := .type "tuple_iterator", data := .fields #[.ref l1, .int 0 0] }, g, d, tk, os⟩) l2 ys := Heap.IsTuple.push b2 _
        wp_walk using wpAny_pyIter_tuple p1, wpAny_pyIter_tuple p2
        exact ⟨_, rfl, h⟩
      | false =>
        have p2 : Heap.IsList (Shared.heap ⟨hp.push { cls := .type "tuple_iterator", data := .fields #[.ref l1, .int 0 0] }, g, d, tk, os⟩) l2 ys := Heap.IsList.push b2 _
        wp_walk using wpAny_pyIter_tuple p1, wpAny_pyIter_list p2
        exact ⟨_, rfl, h⟩
    | false =>
      have p1 : Heap.IsList (Shared.heap ⟨hp, g, d, tk, os⟩) l1 xs := b1
      cases T2 with
      | true =>
        have p2 : Heap.IsTuple (Shared.heap ⟨hp.push { cls := .type "list_iterator", data := .fields #[.ref l1, .int 0 0] }, g, d, tk, os⟩) l2 ys := Heap.IsTuple.push b2 _
        wp_walk using wpAny_pyIter_list p1, wpAny_pyIter_tuple p2
        exact ⟨_, rfl, h⟩
      | false =>
        have p2 : Heap.IsList (Shared.heap ⟨hp.push { cls := .type "list_iterator", data := .fields #[.ref l1, .int 0 0] }, g, d, tk, os⟩) l2 ys := Heap.IsList.push b2 _
        wp_walk using wpAny_pyIter_list p1, wpAny_pyIter_list p2
        exact ⟨_, rfl, h⟩
section
variable {prog : Program} {w : World} {A : Around} {E : Value → Shared → Prop} {s : Shared} {l1 l2 : Addr} {xs ys : Array Value} {T1 T2 : Bool}
theorem it_new (T : Bool) (h : Heap) (a : Addr) : SIt T (h.push (itO T a)) h.objs.size a 0 := by
  cases T with
  | true => exact ⟨_, Heap.get?_push_size _ rfl, rfl, rfl⟩
  | false => exact ⟨_, Heap.get?_push_size _ rfl, rfl, rfl⟩
theorem z_new {Q : Value → Shared → Prop} (b1 : SOb T1 s.heap l1 xs) (b2 : SOb T2 s.heap l2 ys)
    (h : ∀ h', Zp T1 T2 (s.heap.objs.size + 4) (s.heap.objs.size + 2) (s.heap.objs.size + 3) s.heap.objs.size (s.heap.objs.size + 1) l1 l2 0 h' → (∀ c o, s.heap.get? c = some o → h'.get? c = some o) → Q (.ref (s.heap.objs.size + 4)) { s with heap := h' }) :
    wpAny (model prog w) A (call (.type "zip") [.ref l1, .ref l2]) Q E s := by
  refine callType_new F.called_zip (by decide) (F.typeCall_zip_2 _ _) (F.newCall_zip_2 _ _) (fun obj => F.args_object_init_3 obj _ _) F.entry_zip_new (z_meets T1 T2 l1 l2 xs ys) ⟨b1, b2, ?_⟩
  have n1 : (z1 T1 s.heap l1).objs.size = s.heap.objs.size + 1 := Heap.size_push ..
  have n2 : (z2 T1 T2 s.heap l1 l2).objs.size = s.heap.objs.size + 2 := by rw [z2, Heap.size_push, n1]
  have n3 : (z3 T1 T2 s.heap l1 l2).objs.size = s.heap.objs.size + 3 := by rw [z3, Heap.size_push, n2]
  have n4 : (z4 T1 T2 s.heap l1 l2).objs.size = s.heap.objs.size + 4 := by rw [z4, Heap.size_push, n3]
  have up4 : ∀ c o, (z4 T1 T2 s.heap l1 l2).get? c = some o → (z5 T1 T2 s.heap l1 l2).get? c = some o := fun c o e => Heap.get?_push_of_some _ e
  have up3 : ∀ c o, (z3 T1 T2 s.heap l1 l2).get? c = some o → (z5 T1 T2 s.heap l1 l2).get? c = some o := fun c o e => up4 c o (Heap.get?_push_of_some _ e)
  have up2 : ∀ c o, (z2 T1 T2 s.heap l1 l2).get? c = some o → (z5 T1 T2 s.heap l1 l2).get? c = some o := fun c o e => up3 c o (Heap.get?_push_of_some _ e)
  have up1 : ∀ c o, (z1 T1 s.heap l1).get? c = some o → (z5 T1 T2 s.heap l1 l2).get? c = some o := fun c o e => up2 c o (Heap.get?_push_of_some _ e)
  have up0 : ∀ c o, s.heap.get? c = some o → (z5 T1 T2 s.heap l1 l2).get? c = some o := fun c o e => up1 c o (Heap.get?_push_of_some _ e)
  have gz : (z5 T1 T2 s.heap l1 l2).get? (z4 T1 T2 s.heap l1 l2).objs.size = some _ := Heap.get?_push_size _ rfl
  have go : (z4 T1 T2 s.heap l1 l2).get? (z3 T1 T2 s.heap l1 l2).objs.size = some _ := Heap.get?_push_size _ rfl
  have gi : (z3 T1 T2 s.heap l1 l2).get? (z2 T1 T2 s.heap l1 l2).objs.size = some _ := Heap.get?_push_size _ rfl
  have j1 : SIt T1 (z1 T1 s.heap l1) s.heap.objs.size l1 0 := it_new T1 s.heap l1
  have j2 : SIt T2 (z2 T1 T2 s.heap l1 l2) (z1 T1 s.heap l1).objs.size l2 0 := it_new T2 (z1 T1 s.heap l1) l2
  show _ ∧ _
  rw [n2, n3, n4] at gz
  rw [n3] at go
  rw [n1, n2] at gi
  rw [n1] at j2
  have Z : Zp T1 T2 (s.heap.objs.size + 4) (s.heap.objs.size + 2) (s.heap.objs.size + 3) s.heap.objs.size (s.heap.objs.size + 1) l1 l2 0 (z5 T1 T2 s.heap l1 l2) := ⟨gz, up3 _ _ gi, ⟨_, _, up4 _ _ go⟩, j1.at fun o => up1 _ o, j2.at fun o => up2 _ o⟩
  rw [n4]
  exact ⟨⟨_, gz, rfl⟩, h _ Z up0⟩
end
end TwS

set_option Elab.async false
set_option linter.all false
set_option maxRecDepth 100000
set_option maxHeartbeats 1000000
namespace TwS
open PySem L2 PyProof.Rows
section
variable {X : Cx} {pins : List (Addr × Obj)} {σ : L2.St} {H : L2.Hp} {s : Shared} {h' : Heap} {fp : List Addr}
/-- an iterator's objects have turned -/
theorem turnedN {t' : Nat} (I : Inv X pins σ H s) (hf : ∀ b ∈ fp, FpOk X pins H b) (k : ∀ b o, b ∉ fp → s.heap.get? b = some o → h'.get? b = some o) : Inv X pins σ H { s with heap := h', toks := t' } := by
  have nf : ∀ b u, H b = some u → b ∉ fp := fun b u e z => by rw [(hf b z).1] at e; cases e
  have u : Un (frs X.stack) fp H H s.heap h' :=
    ⟨fun b o e _ _ h2 => k b o h2 e, fun b o e _ _ h2 => ⟨o.slots, k b o h2 e⟩, fun _ _ _ n _ => n, fun b o e h2 => ⟨o, k b o h2 e⟩, fun _ _ q => q, fun _ _ _ q => q, fun _ ps q => ⟨#[], by rw [q]; simp⟩⟩
  have hok : HOk X.prog X.w H h' := fun b v e => (I.hok b v e).stay (fun c w hc q => k c w (by
    rcases hc with z | z
    · rw [z]; exact nf _ _ e
    · exact nf _ _ z) q) (fun _ q => q) fun _ _ q => q
  exact I.call (g' := s.gens) (d' := s.drawn) (t' := t') u hok I.bare fun b hb => ⟨(hf b hb).2.2.2.1, (hf b hb).2.1, (hf b hb).2.2.2.2.1, (hf b hb).2.2.2.2.2⟩
/-- and a tuple was laid -/
theorem turnedT {t' : Nat} {a : Addr} {xs : List V} (I : Inv X pins σ H s) (hf : ∀ b ∈ fp, FpOk X pins H b) (k : ∀ b o, b ∉ fp → s.heap.get? b = some o → h'.get? b = some o) (ha : s.heap.objs.size ≤ a) (new : ObjOk X.prog X.w (upd H a (.tup xs)) h' a (.tup xs)) :
    Inv X pins σ (upd H a (.tup xs)) { s with heap := h', toks := t' } := by
  have hn : H a = none := I.hok.fresh ha
  have nf : ∀ b u, H b = some u → b ∉ fp := fun b u e z => by rw [(hf b z).1] at e; cases e
  have u : Un (frs X.stack) fp H (upd H a (.tup xs)) s.heap h' :=
    ⟨fun b o e _ _ h2 => k b o h2 e, fun b o e _ _ h2 => ⟨o.slots, k b o h2 e⟩, fun b o e n _ => by rw [upd_ne (Nat.ne_of_lt (Nat.lt_of_lt_of_le (Heap.lt_size e) ha))]; exact n, fun b o e h2 => ⟨o, k b o h2 e⟩,
      fun b ys q => by rw [upd_ne (ne_of_none q hn)]; exact q, fun b o v q => by rw [upd_ne (ne_of_none q hn)]; exact q, fun b ps q => ⟨#[], by rw [upd_ne (ne_of_none q hn), q]; simp⟩⟩
  have hok : HOk X.prog X.w (upd H a (.tup xs)) h' := fun b v e => by
    by_cases z : b = a
    · subst z; rw [upd_same] at e; cases e; exact new
    · rw [upd_ne z] at e
      refine (I.hok b v e).stay (fun c w hc q => k c w ?_ q) (fun c q => by rw [upd_ne (ne_of_none q hn)]; exact q) fun c ys q => by rw [upd_ne (ne_of_none q hn)]; exact q
      rcases hc with z | z
      · rw [z]; exact nf _ _ e
      · exact nf _ _ z
  exact I.call (g' := s.gens) (d' := s.drawn) (t' := t') u hok I.bare fun b hb => ⟨(hf b hb).2.2.2.1, (hf b hb).2.1, (hf b hb).2.2.2.2.1, (hf b hb).2.2.2.2.2⟩
end
/-- a list or a tuple of the layer's -/
def SqB (T : Bool) (K : PySem.W.Frag) (H : L2.Hp) (a : Addr) (xs : List V) : Prop := match T with
  | true => SqT K H a xs
  | false => SqL K H a xs
theorem SqB.ob {T : Bool} {X : Cx} {pins : List (Addr × Obj)} {σ : L2.St} {H : L2.Hp} {s : Shared} {a : Addr} {xs : List V} (I : Inv X pins σ H s) (q : SqB T X.K H a xs) : ∃ its, Vals xs its ∧ SOb T s.heap a its.toArray := by
  cases T with
  | true => obtain ⟨its, rv, p, hz⟩ := I.tuple q; exact ⟨its, rv, show s.heap.IsTuple a its.toArray from p⟩
  | false => obtain ⟨its, rv, p, hz⟩ := I.list q; exact ⟨its, rv, p.isList⟩
theorem SqB.inj {T : Bool} {X : Cx} {pins : List (Addr × Obj)} {σ : L2.St} {H : L2.Hp} {s : Shared} {a : Addr} {xs ys : List V} (I : Inv X pins σ H s) (q : SqB T X.K H a xs) (q' : SqB T X.K H a ys) : xs = ys := by
  cases T with
  | true => exact I.tuple_inj q q'
  | false => exact I.list_inj q q'
/-- the pairs of two, as they stand at each turn -/
def Itz (K : PySem.W.Frag) (T1 T2 : Bool) (a b : Addr) : It :=
  ⟨fun i H => ∃ xs ys x y, SqB T1 K H a xs ∧ SqB T2 K H b ys ∧ xs[i]? = some x ∧ ys[i]? = some y,
   fun i H v H' => ∃ t x y, v = .ref t ∧ H t = none ∧ H' = upd H t (.tup [x, y]) ∧ ∀ xs ys, SqB T1 K H a xs → SqB T2 K H b ys → xs[i]? = some x ∧ ys[i]? = some y,
   fun i H => ∃ xs ys, SqB T1 K H a xs ∧ SqB T2 K H b ys ∧ (xs.length ≤ i ∨ ys.length ≤ i)⟩
theorem turn_zip {P : Program} {w : World} {K : PySem.W.Frag} {es : List Expr} {n : Nat} {p : Pos} {T1 T2 : Bool} {z TI TO i1 i2 a b : Addr} (D : ZipApart z TI TO i1 i2 a b) : Turn P w K (.Tuple es n p) (Itz K T1 T2 a b) [z, TI, TO, i1, i2] z (Zp T1 T2 z TI TO i1 i2 a b) where
  mem := by simp
  obj := fun i h Z c hc => by
    obtain ⟨hz, hTI, ⟨x, y, hTO⟩, h1, h2⟩ := Z
    simp only [List.mem_cons, List.not_mem_nil, or_false] at hc
    rcases hc with rfl | rfl | rfl | rfl | rfl
    · exact ⟨_, hz, fun v q => nomatch q⟩
    · exact ⟨_, hTI, fun v q => nomatch q⟩
    · exact ⟨_, hTO, fun v q => nomatch q⟩
    · exact h1.there
    · exact h2.there
  keep := fun i h h' Z k => by
    obtain ⟨hz, hTI, ⟨x, y, hTO⟩, h1, h2⟩ := Z
    exact ⟨k _ (by simp) _ hz, k _ (by simp) _ hTI, ⟨x, y, k _ (by simp) _ hTO⟩, h1.at fun o => k _ (by simp) o, h2.at fun o => k _ (by simp) o⟩
  item := by
    intro X hP hw hK hc i pins s σ H E I hf Z hg
    subst hP hw hK
    obtain ⟨xs, ys, x, y, q1, q2, ex, ey⟩ := hg
    obtain ⟨us, r1, b1⟩ := q1.ob I
    obtain ⟨vs, r2, b2⟩ := q2.ob I
    obtain ⟨u, hu, ru⟩ := r1.get ex
    obtain ⟨v, hv, rv⟩ := r2.get ey
    have hT : s.TypeIs (.ref z) "zip" := ⟨_, Z.zp, rfl⟩
    have hzl : ∀ {c o}, s.heap.get? c = some o → c ≠ s.heap.objs.size := fun e => Nat.ne_of_lt (Heap.lt_size e)
    have nz := hzl Z.zp
    have hTI := Z.ti
    rw [pyNext]
    apply wpAny_bind; apply wpAny_attempt
    refine wpAny_callSpecial?_slot (name := Str.ofString "__next__") hT F.slot_zip_next ?_
    refine wpAny_call_entry F.slot_zip_next hT F.entry_zip_next (z_item D Z b1 b2 (x := u) (y := v) (by simpa using hu) (by simpa using hv) fun g zg tg o1 o2 pg kg => wpAny_pure ⟨_, rfl, ?_⟩) (F.args_zip_next_1 _)
    refine wpAny_letOwnedTupleGo_zip zg fun g' zg' sg => ?_
    have kg' : ∀ c o, c ∉ [z, TI, TO, i1, i2] → s.heap.get? c = some o → g'.get? c = some o := fun c o hc e => by
      simp only [List.mem_cons, List.not_mem_nil, or_false, not_or] at hc
      exact sg.extBut c o hc.1 (kg c o hc.1 hc.2.2.1 hc.2.2.2.1 hc.2.2.2.2 e)
    have pg' : IsPair g' s.heap.objs.size u v := sg.extBut _ _ nz.symm pg
    have I' : Inv X pins σ (upd H s.heap.objs.size (.tup [x, y])) { s with heap := g', toks := s.toks } := turnedT I hf kg' (Nat.le_refl _) ⟨by simp [sizeLine_eq], [u, v], .cons ru (.cons rv .nil), _, pg', rfl, _, rfl⟩
    refine ⟨.ref s.heap.objs.size, _, I', rfl, ⟨_, x, y, rfl, I.hok.fresh (Nat.le_refl _), rfl, fun xs' ys' p1 p2 => ?_⟩, ?_, fun c hc => ?_⟩
    · rw [SqB.inj I p1 q1, SqB.inj I p2 q2]; exact ⟨ex, ey⟩
    · exact ⟨zg', sg.extBut _ _ D.TIz (kg _ _ D.TIz D.TITO D.TIi1 D.TIi2 hTI), ⟨_, _, sg.extBut _ _ D.TOz tg⟩, o1.at fun o => sg.extBut _ o D.i1z, o2.at fun o => sg.extBut _ o D.i2z⟩
    · have f := hf c hc
      obtain ⟨hz, hTI, ⟨x, y, hTO⟩, h1, h2⟩ := Z
      have : ∃ o, s.heap.get? c = some o := by
        simp only [List.mem_cons, List.not_mem_nil, or_false] at hc
        rcases hc with rfl | rfl | rfl | rfl | rfl
        · exact ⟨_, hz⟩
        · exact ⟨_, hTI⟩
        · exact ⟨_, hTO⟩
        · obtain ⟨o, e, _⟩ := h1.there; exact ⟨o, e⟩
        · obtain ⟨o, e, _⟩ := h2.there; exact ⟨o, e⟩
      obtain ⟨o, e⟩ := this
      rw [upd_ne (hzl e)]; exact f.1
  done := by
    intro X hP hw hK hc i pins s σ H E I hf Z hg
    subst hP hw hK
    obtain ⟨xs, ys, q1, q2, hend⟩ := hg
    obtain ⟨us, r1, b1⟩ := q1.ob I
    obtain ⟨vs, r2, b2⟩ := q2.ob I
    have l1 := r1.length
    have l2 := r2.length
    have hT : s.TypeIs (.ref z) "zip" := ⟨_, Z.zp, rfl⟩
    rw [pyNext]
    apply wpAny_bind; apply wpAny_attempt
    refine wpAny_callSpecial?_slot (name := Str.ofString "__next__") hT F.slot_zip_next ?_
    refine wpAny_call_entry F.slot_zip_next hT F.entry_zip_next (z_end (I.ok.hd hc) D Z b1 b2 (by
      rcases hend with q | q
      · exact .inl (by simp; omega)
      · exact .inr (by simp; omega)) fun g e kg ⟨o, ge, ce⟩ => ?_) (F.args_zip_next_1 _)
    refine wpAny_bind (wpAny_isInstance (T := "StopIteration") (b := true) ⟨o, ge, ce⟩ isSubtype_stop (wpAny_pure ⟨rfl, ?_⟩))
    exact turnedN (t' := s.toks) I hf fun c o hc e => by
      simp only [List.mem_cons, List.not_mem_nil, or_false, not_or] at hc
      exact kg c o hc.1 hc.2.2.1 hc.2.2.2.1 hc.2.2.2.2 e
  self := fun _ _ _ _ _ Z h => wpAny_pyIter_zip Z.zp h
end TwS

set_option Elab.async false
set_option linter.all false
set_option maxRecDepth 100000
set_option maxHeartbeats 1000000
namespace TwS
open PySem L2 PyProof.Rows
theorem zip_apart {n l1 l2 : Addr} (h1 : l1 < n) (h2 : l2 < n) : ZipApart (n + 4) (n + 2) (n + 3) n (n + 1) l1 l2 := zipApart_new h1 h2
section
variable {X : Cx} {a b : Expr} {p pos p1 pos2 : Pos} {es : List Expr} {n : Nat} {da db : Tw.Env → Tw.Hp → Tw.R Tw.W}
theorem sq_lt {T : Bool} {pins : List (Addr × Obj)} {σ : L2.St} {H : L2.Hp} {s : Shared} {c : Addr} {xs : Array Value} (q : SOb T s.heap c xs) : c < s.heap.objs.size := by
  cases T with
  | true => obtain ⟨o, e, _⟩ := q; exact Heap.lt_size e
  | false => obtain ⟨o, e, _⟩ := q; exact Heap.lt_size e
theorem pi_zip (T1 T2 : Bool) {ta : TA} (hg : Gl X "zip") (hm : X.mg "zip" = none) (ha : PA X [a, b] ta) (hs : starEach [a, b] X.env = [(false, eval a X.env), (false, eval b X.env)]) (hs2 : starEach [b] X.env = [(false, eval b X.env)]) :
    PI X (.Tuple es n p1) (.Call (.Name "zip" p) [a, b] [] pos) (fun σ H R => ta σ H fun vs H1 => ∃ c d, vs = [.ref c, .ref d] ∧ (∃ xs, SqB T1 X.K H1 c xs) ∧ (∃ ys, SqB T2 X.K H1 d ys) ∧ R (Itz X.K T1 T2 c d) H1) := by
  intro pins s σ H R I h
  refine Call_ (ld_blt I hg hm PyProof.Rows.boot_zip (PyProof.Rows.callWith_type1 (thn (ha pos pins s σ H _ I h) fun us s1 ⟨vs, H1, I1, r1, c, d, e, ⟨xs, q1⟩, ⟨ys, q2⟩, q⟩ => ?_) (by rw [hs, hs2]) (by rw [hs2]; rfl)) (by decide) (by decide))
  subst e
  obtain ⟨u, v, rfl, ru, rv⟩ := vals2 r1
  cases ru
  cases rv
  obtain ⟨as, _, b1⟩ := q1.ob I1
  obtain ⟨bs, _, b2⟩ := q2.ob I1
  refine z_new b1 b2 fun h' Z k => ?_
  refine wpAny_pyIter_zip Z.zp ?_
  have I2 : Inv X pins σ H1 { s1 with heap := h', toks := s1.toks } := I1.kept (t' := s1.toks) k
  refine ⟨_, _, _, _, H1, rfl, I2, turn_zip (zip_apart (sq_lt (pins := pins) (σ := σ) (H := H1) b1) (sq_lt (pins := pins) (σ := σ) (H := H1) b2)), Z, fun c' hc' => ?_, q⟩
  have le : s1.heap.objs.size ≤ c' := by
    simp only [List.mem_cons, List.not_mem_nil, or_false] at hc'
    rcases hc' with rfl | rfl | rfl | rfl | rfl
    · exact Nat.le_add_right _ _
    · exact Nat.le_add_right _ _
    · exact Nat.le_add_right _ _
    · exact Nat.le_refl _
    · exact Nat.le_add_right _ _
  exact I1.fpOk le (I1.hok.fresh le)
theorem zips_get : ∀ {ws us : List Tw.W} {i : Nat} {w u : Tw.W}, ws[i]? = some w → us[i]? = some u → (Tw.zips ws us).drop i = .tup [w, u] :: (Tw.zips ws us).drop (i + 1)
  | [], _, _, _, _, h, _ => by simp at h
  | _ :: _, [], _, _, _, _, h => by simp at h
  | x :: ws, y :: us, 0, w, u, h1, h2 => by
    simp at h1 h2
    subst h1 h2
    simp
  | x :: ws, y :: us, i + 1, w, u, h1, h2 => by
    have := zips_get (ws := ws) (us := us) (i := i) (w := w) (u := u) (by simpa using h1) (by simpa using h2)
    simpa using this
theorem zips_end : ∀ {ws us : List Tw.W} {i : Nat}, (ws.length ≤ i ∨ us.length ≤ i) → (Tw.zips ws us).drop i = []
  | [], us, i, _ => by simp
  | _ :: _, [], i, _ => by simp
  | x :: ws, y :: us, 0, h => by simp at h
  | x :: ws, y :: us, i + 1, h => by
    have := zips_end (ws := ws) (us := us) (i := i) (by simpa using h)
    simpa using this
/-- for x, y in zip(a, b), of two tuples -/
theorem s_forZ {body : List Stmt} {g : TG} {t : Tw.Tg} {tb : Tw.Env → Tw.Hp → Tw.R Tw.Fl} (hp : PassesOwn (model X.prog X.w) X.A X.env X.xe) (hc : X.calm = true) (hgl : Gl X "zip") (hm : X.mg "zip" = none) (ha : PE X a (tE X.K da)) (hb' : PE X b (tE X.K db))
    (hg : PG X (.Tuple es n p1) g) (ht : TgOk X.K t g) (hb : PSs X body (tSt X.K tb)) (hst : starEach [a, b] X.env = [(false, eval a X.env), (false, eval b X.env)]) (hst2 : starEach [b] X.env = [(false, eval b X.env)]) :
    PS X (.For (.Tuple es n p1) (.Call (.Name "zip" p) [a, b] [] pos2) body [] pos) (tSt X.K fun ρ h => ((da ρ h).bind fun x h => (db ρ h).bind fun y h => match x, y with
      | .tup xs, .tup ys => .ok (.fix (Tw.zips xs ys)) h
      | _, _ => .bad).bind fun s h => Tw.turns s t tb ρ h) := by
  refine PS.imp (ps_for hp hc (pi_zip true true hgl hm (pa_cons ha (pa_cons hb' pa_nil hst2) (by rw [hst, hst2])) hst hst2) hg hb (fun _ => rfl)) fun D σ H ⟨ρ, h, ι, at', p⟩ => ?_
  dsimp only at p
  simp only [bind_assoc] at p
  refine ⟨ρ, h, ι, at', (stepS at' p).mono fun x H1 ⟨w, h1, ι1, at1, e1, r1, p1⟩ => ⟨ρ, h1, ι1, at1, (stepS at1 p1).mono fun y H2 ⟨u, h2, ι2, at2, e2, r2, p2⟩ => ?_⟩⟩
  have r1 := r1.keep (e2.keeps at1.hr)
  cases r1 with
  | @tup c xs ws ea ra =>
    cases r2 with
    | @tup d ys us eb rb =>
      have p2 : PostS X.K ι2 h2 H2 (Tw.turnsL t tb (Tw.zips ws us) ρ h2) D := p2
      refine ⟨c, d, rfl, ⟨xs, SqT.of ea⟩, ⟨ys, SqT.of eb⟩, fun i m σ H => ∃ ρ h ι, At X.K ι h H ρ σ ∧ H c = some (.tup xs) ∧ H d = some (.tup ys) ∧ RWs ι h.length H ws xs ∧ RWs ι h.length H us ys ∧ m = ws.length - i ∧ PostS X.K ι h H (Tw.turnsL t tb ((Tw.zips ws us).drop i) ρ h) D,
        ⟨_, ρ, h2, ι2, at2, ea, eb, ra, rb, rfl, p2⟩, ?_⟩
      rintro i m σ3 H3 ⟨ρ3, h3, ι3, at3, ea3, eb3, ra3, rb3, rfl, p3⟩
      cases hw : ws[i]? with
      | none =>
        have hl := List.getElem?_eq_none_iff.mp hw
        rw [zips_end (.inl hl)] at p3
        exact .inl ⟨⟨xs, ys, SqT.of ea3, SqT.of eb3, .inl (by rw [← ra3.length]; exact hl)⟩, p3.next at3⟩
      | some w =>
        cases hu : us[i]? with
        | none =>
          have hl := List.getElem?_eq_none_iff.mp hu
          rw [zips_end (.inr hl)] at p3
          exact .inl ⟨⟨xs, ys, SqT.of ea3, SqT.of eb3, .inr (by rw [← rb3.length]; exact hl)⟩, p3.next at3⟩
        | some u =>
          obtain ⟨vx, hx, rx⟩ := ra3.get hw
          obtain ⟨vy, hy, ry⟩ := rb3.get hu
          have hi := (List.getElem?_eq_some_iff.mp hw).1
          rw [zips_get hw hu, Tw.turnsL, Tw.turn] at p3
          refine .inr ⟨⟨xs, ys, vx, vy, SqT.of ea3, SqT.of eb3, hx, hy⟩, fun σ H => ∃ ρ h ι, At X.K ι h H ρ σ ∧ H c = some (.tup xs) ∧ H d = some (.tup ys) ∧ RWs ι h.length H ws xs ∧ RWs ι h.length H us ys ∧ PostS X.K ι h H (Tw.turnsL t tb ((Tw.zips ws us).drop (i + 1)) ρ h) D,
            fun σ' H' ⟨ρ', h', ι', q1, q2, q3, q4, q5, q6⟩ => ⟨_, by omega, ρ', h', ι', q1, q2, q3, q4, q5, rfl, q6⟩, fun v H' hv => ?_⟩
          obtain ⟨tt, x', y', rfl, fresh, rfl, hxy⟩ := hv
          obtain ⟨g1, g2⟩ := hxy xs ys (SqT.of ea3) (SqT.of eb3)
          rw [hx] at g1; cases g1
          rw [hy] at g2; cases g2
          obtain ⟨r4, x4⟩ := at3.hr.grow (o := .tup [vx, vy]) fresh
          have at4 := at3.later x4 r4
          have k4 := x4.keeps at3.hr
          cases es' : Tw.setT t (.tup [w, u]) ρ3 with
          | none => rw [es'] at p3; exact p3.elim
          | some ρ4 =>
            rw [es'] at p3
            dsimp only at p3
            refine ht ι3 h3 _ ρ3 ρ4 σ3 (.tup [w, u]) (.ref tt) _ at4 (.tup upd_same (.cons (rx.keep k4) (.cons (ry.keep k4) .nil))) es' fun σ5 at5 => ⟨ρ4, h3, ι3, at5, turn_post (PostS.later p3 x4) fun ρ6 h6 ι6 H6 σ6 e6 at6 p6 => ?_⟩
            have k6 := k4.trans (e6.keeps at4.hr)
            exact ⟨ρ6, h6, ι6, at6, k6.tup _ _ ea3, k6.tup _ _ eb3, ra3.keep k6, rb3.keep k6, p6⟩
    | _ => exact p2.elim
  | _ => cases u <;> exact p2.elim
end
end TwS

set_option Elab.async false
set_option linter.all false
set_option maxRecDepth 100000
set_option maxHeartbeats 1000000
namespace TwS
open PySem L2 PyProof.Rows
def tgB (sc : Sc) (N : List Str) (t : Tw.Tg) (tg : Expr) : Bool := match t, tg with
  | .var i, .Name x _ => decide (N[i]? = some x) && locB sc x
  | .two i j, .Tuple [.Name x _, .Name y _] _ _ => decide (N[i]? = some x) && locB sc x && decide (N[j]? = some y) && locB sc y
  | _, _ => false
def isTup : Expr → Bool
  | .Tuple .. => true
  | _ => false
mutual
def chkS (cf : Cfg) (sc : Sc) (N : List Str) : Tw.St → Stmt → Bool
  | .expr e, s => match s with
    | .Expr x _ => plainE x && !(isComp x) && chkE cf sc N e x
    | _ => false
  | .ret e, s => match s with
    | .Return (some x) _ => chkE cf sc N e x
    | _ => false
  | .retN, s => match s with
    | .Return none _ => true
    | _ => false
  | .set i e, s => match s with
    | .Assign [.Name y py] x _ => decide (N[i]? = some y) && locB sc y && plainE x && chkE cf sc N e x
    | _ => false
  | .put o k e, s => match s with
    | .Assign [.Subscript x y _] z _ => plainE y && chkE cf sc N o x && chkE cf sc N k y && chkE cf sc N e z
    | _ => false
  | .iff c a b, s => match s with
    | .If x ys zs _ => tstE x && chkE cf sc N c x && chkSs cf sc N a ys && chkSs cf sc N b zs
    | _ => false
  | .for t it b, s => match s with
    | .For tg iter ys [] _ => (match it with
      | .zip u v => (match iter with
        | .Call (.Name f _) [a, c] [] _ => decide (f = "zip") && glB sc f && plainE a && plainE c && chkE cf sc N u a && chkE cf sc N v c
        | _ => false) && (isTup tg && tgB sc N t tg) && chkSs cf sc N b ys
      | _ => plainE iter && chkI cf sc N it iter && chkSs cf sc N b ys && tgB sc N t tg)
    | _ => false
  | .pass, s => match s with
    | .Pass _ => true
    | _ => false
  | .brk, s => match s with
    | .Break _ => true
    | _ => false
  | .cont, s => match s with
    | .Continue _ => true
    | _ => false
def chkSs (cf : Cfg) (sc : Sc) (N : List Str) : List Tw.St → List Stmt → Bool
  | [], ss => match ss with
    | [] => true
    | _ => false
  | t :: ts, ss => match ss with
    | s :: r => chkS cf sc N t s && chkSs cf sc N ts r
    | [] => false
end
/-- what a def's body must have -/
structure RdyS (cf : Cfg) (C : Tw.Or) (sc : Sc) (N : List Str) (X : Cx) : Prop where
  rdy : Rdy cf C X
  sees : Sees sc N X
  same : X.env.scope.names = sc
  nd : N.Nodup
  fn : ∀ x, X.fn x = true
  pass : PassesOwn (model X.prog X.w) X.A X.env X.xe
  block : X.env.blockKind = .function
section
variable {cf : Cfg} {C : Tw.Or} {sc : Sc} {N : List Str} {X : Cx}
theorem RdyS.loc (R : RdyS cf C sc N X) {x : Str} (h : locB sc x = true) : Loc X.env.scope x := by
  unfold locB at h
  rw [← R.same] at h
  cases e : X.env.scope.names.lookup x with
  | none => rw [e] at h; exact no h
  | some k =>
    rw [e] at h
    cases k with
    | «local» => exact .inl e
    | cell => exact .inr e
    | _ => exact no h
theorem RdyS.tgt (R : RdyS cf C sc N X) {i : Nat} {x : Str} {p : Pos} (h1 : N[i]? = some x) (h2 : locB sc x = true) : PG X (.Name x p) (gName i) :=
  pg_name (by rw [R.sees.n]; exact R.nd) (by rw [R.sees.n]; exact h1) (R.loc h2) (.inl (R.fn x))
theorem sub_assign {o k : Expr} {pos' : Pos} {env : Env} (hk : plainE k = true) (v : Value) : assign (.Subscript o k pos') env v = (do
      let ov ← holding [v] (eval o env)
      let iv ← holding [v, ov] (eval k env)
      standAt pos'
      holding [v, ov, iv] (setItem ov iv v)
      release [v, ov, iv] []) := by
  cases k <;> first | rfl | exact absurd (show false = true from hk) Bool.false_ne_true
/-- a name is set -/
theorem set_ok (R : RdyS cf C sc N X) {i : Nat} {e : Tw.E} {y : Str} {py p : Pos} {x : Expr} (h1 : N[i]? = some y) (h2 : locB sc y = true) (h3 : plainE x = true) (h4 : chkE cf sc N e x = true) :
    PS X (.Assign [.Name y py] x p) (tSt X.K fun ρ h => (Tw.evE C e ρ h).bind fun w h => .ok (.next (ρ.set i (some w))) h) := by
  have plain : swapsWith x (some (.Name y py)) p.line X.env = pure false → PS X (.Assign [.Name y py] x p) (tSt X.K fun ρ h => (Tw.evE C e ρ h).bind fun w h => .ok (.next (ρ.set i (some w))) h) := fun hs =>
    s_set (by rw [R.sees.n]; exact R.nd) (by rw [R.sees.n]; exact h1) (R.loc h2) (sndE e R.rdy R.sees h4).1 hs (R.fn y)
  by_cases hc : isComp x = true
  · cases x with
    | ListComp elt gens scope pos =>
      have hsw : swapsWith (.ListComp elt gens scope pos) (some (.Name y py)) p.line X.env = pure (X.env.blockKind == .function && X.env.kindOf y == some .local && py.line == pos.line && !(scope.names.any fun (n, k) => n == y && (k == .local || k == .cell))) := rfl
      cases hb : (X.env.blockKind == .function && X.env.kindOf y == some .local && py.line == pos.line && !(scope.names.any fun (n, k) => n == y && (k == .local || k == .cell))) with
      | false => rw [hb] at hsw; exact plain hsw
      | true =>
        rw [hb] at hsw
        have hl : X.env.scope.names.lookup y = some .local := by
          simp only [Bool.and_eq_true, beq_iff_eq] at hb
          exact hb.1.1.2
        cases e with
        | comp el it c =>
          rw [chkE.eq_def] at h4; dsimp only at h4
          split at h4
          · next yy xx px iter ifs scope' pos' heq =>
            cases heq
            simp only [Bool.and_eq_true, decide_eq_true_eq] at h4
            obtain ⟨⟨⟨⟨⟨h0, h1'⟩, h2'⟩, h3'⟩, h4⟩, h5⟩ := h4
            have S := R.sees
            have cs := csc_of S h0
            have hk : scope.kind = .function := cs.kind
            have hnd : (compN X.N xx).Nodup := by rw [S.n]; exact h1'
            have sees : ∀ {Cc : Addr} {s : Shared} {H : L2.Hp} {pins : List (Addr × Obj)} {fp : List Addr}, Sees scope.names (compN N xx) (compCx X scope Cc xx s H pins fp) := fun {Cc s H pins fp} => by
              have z := Sees.comp (X := X) (scope := scope) (C := Cc) (x := xx) (s := s) (H := H) (pins := pins) (fp := fp) hk
              rw [S.n] at z; exact z
            have hev : Tw.evE C (.comp el it c) = dCmp (Tw.evIt C it) (Tw.evEo C c) (Tw.evE C el) := by
              funext ρ h
              rw [Tw.evE_comp]
              rfl
            rw [hev]
            refine s_setC R.rdy.calm cs hnd (sndI it R.rdy S h3') (folded_plain h2') (fun Cc s H pins fp => (sndE el R.rdy.comp sees h4).1) ?_ (by rw [S.n]; exact R.nd) (by rw [S.n]; exact h1) hl hsw
            cases c with
            | none =>
              cases ifs with
              | nil => exact .inl ⟨rfl, fun ρ h => by rw [Tw.evEo_none]⟩
              | cons _ _ => exact no h5
            | some d =>
              cases ifs with
              | nil => exact no h5
              | cons z r =>
                cases r with
                | nil =>
                  have h5 : (tstE z && chkE cf scope.names (compN N xx) d z) = true := h5
                  rw [Bool.and_eq_true] at h5
                  exact .inr ⟨z, Tw.evE C d, rfl, fun ρ h => by rw [Tw.evEo_some], fun Cc s H pins fp => (sndE d R.rdy.comp sees h5.2).2 h5.1⟩
                | cons _ _ => exact no h5
          · exact no h4
        | _ => rw [chkE.eq_def] at h4; exact no h4
    | _ => exact no hc
  · exact plain (swaps_plain h3 (by simpa using hc))
mutual
theorem sndS (R : RdyS cf C sc N X) : ∀ (t : Tw.St) {s : Stmt}, chkS cf sc N t s = true → PS X s (tSt X.K (Tw.evS C t))
  | .expr e, s, h => by
    rw [chkS.eq_def] at h; dsimp only at h
    split at h
    · simp only [Bool.and_eq_true, Bool.not_eq_true'] at h
      rw [show Tw.evS C (.expr e) = fun ρ h => (Tw.evE C e ρ h).bind fun _ h => .ok (.next ρ) h from by funext ρ h; rw [Tw.evS_expr]]
      exact s_expr (sndE e R.rdy R.sees h.2).1 (swaps_plain h.1.1 h.1.2)
    · exact no h
  | .ret e, s, h => by
    rw [chkS.eq_def] at h; dsimp only at h
    split at h
    · rw [show Tw.evS C (.ret e) = fun ρ h => (Tw.evE C e ρ h).bind fun x h => .ok (.ret x) h from by funext ρ h; rw [Tw.evS_ret]]
      exact s_ret (sndE e R.rdy R.sees h).1
    · exact no h
  | .retN, s, h => by
    rw [chkS.eq_def] at h; dsimp only at h
    split at h
    · rw [show Tw.evS C .retN = fun ρ h => .ok (.ret .non) h from by funext ρ h; rw [Tw.evS_retN]]
      exact s_retN
    · exact no h
  | .set i e, s, h => by
    rw [chkS.eq_def] at h; dsimp only at h
    split at h
    · simp only [Bool.and_eq_true, decide_eq_true_eq] at h
      rw [show Tw.evS C (.set i e) = fun ρ h => (Tw.evE C e ρ h).bind fun x h => .ok (.next (ρ.set i (some x))) h from by funext ρ h; rw [Tw.evS_set]]
      exact set_ok R h.1.1.1 h.1.1.2 h.1.2 h.2
    · exact no h
  | .put o k e, s, h => by
    rw [chkS.eq_def] at h; dsimp only at h
    split at h
    · simp only [Bool.and_eq_true] at h
      rw [show Tw.evS C (.put o k e) = fun ρ h => (Tw.evE C e ρ h).bind fun v h => (Tw.evE C o ρ h).bind fun x h => (Tw.evE C k ρ h).bind fun y h => (Tw.putI x y v h).bind fun _ h => .ok (.next ρ) h from by funext ρ h; rw [Tw.evS_put]]
      exact s_put (by have := R.rdy.units; omega) (sndE e R.rdy R.sees h.2).1 (sndE o R.rdy R.sees h.1.1.2).1 (sndE k R.rdy R.sees h.1.2).1 (sub_assign h.1.1.1)
    · exact no h
  | .iff c a b, s, h => by
    rw [chkS.eq_def] at h; dsimp only at h
    split at h
    · simp only [Bool.and_eq_true] at h
      rw [show Tw.evS C (.iff c a b) = fun ρ h => (Tw.evE C c ρ h).bind fun x h => match Tw.truth h x with
        | some true => Tw.evSs C a ρ h
        | some false => Tw.evSs C b ρ h
        | none => .bad from by funext ρ h; rw [Tw.evS_iff] <;> rfl]
      exact s_if ((sndE c R.rdy R.sees h.1.1.2).2 h.1.1.1) (sndSs R a h.1.2) (sndSs R b h.2)
    · exact no h
  | .for t it b, s, h => by
    rw [chkS.eq_def] at h; dsimp only at h
    split at h
    · next tg iter ys p =>
      rw [show Tw.evS C (.for t it b) = fun ρ h => (Tw.evIt C it ρ h).bind fun s h => Tw.turns s t (Tw.evSs C b) ρ h from by funext ρ h; rw [Tw.evS_for]]
      have other : (plainE iter && chkI cf sc N it iter && chkSs cf sc N b ys && tgB sc N t tg) = true → PS X (.For tg iter ys [] p) (tSt X.K fun ρ h => (Tw.evIt C it ρ h).bind fun s h => Tw.turns s t (Tw.evSs C b) ρ h) := fun h => by
        simp only [Bool.and_eq_true] at h
        obtain ⟨⟨⟨h0, h1⟩, h2⟩, h3⟩ := h
        unfold tgB at h3
        split at h3
        · simp only [Bool.and_eq_true, decide_eq_true_eq] at h3
          exact s_forG R.pass R.rdy.calm (sndI it R.rdy R.sees h1) (R.tgt h3.1 h3.2) (tg_var _ _) (sndSs R b h2) (folded_plain h0)
        · simp only [Bool.and_eq_true, decide_eq_true_eq] at h3
          exact s_forG R.pass R.rdy.calm (sndI it R.rdy R.sees h1) (pg_tup R.rdy.calm (pgs_cons (R.tgt h3.1.1.1 h3.1.1.2) (pgs_cons (R.tgt h3.1.2 h3.2) pgs_nil))) (tg_two _ _ _) (sndSs R b h2) (folded_plain h0)
        · exact no h3
      cases it with
      | zip u v =>
        rw [Bool.and_eq_true, Bool.and_eq_true, Bool.and_eq_true] at h
        obtain ⟨⟨h, ht, h3⟩, h2⟩ := h
        split at h
        · simp only [Bool.and_eq_true, decide_eq_true_eq] at h
          obtain ⟨⟨⟨⟨⟨rfl, h4⟩, h5⟩, h6⟩, h7⟩, h8⟩ := h
          rw [show Tw.evIt C (.zip u v) = fun ρ h => (Tw.evE C u ρ h).bind fun x h => (Tw.evE C v ρ h).bind fun y h => match x, y with
            | .tup xs, .tup ys => .ok (.fix (Tw.zips xs ys)) h
            | _, _ => .bad from by funext ρ h; rw [Tw.evIt_zip] <;> rfl]
          unfold tgB at h3
          split at h3
          · exact no ht
          · simp only [Bool.and_eq_true, decide_eq_true_eq] at h3
            exact s_forZ R.pass R.rdy.calm (R.sees.gl _ h4) (R.rdy.blt _ (by simp [bnames])) (sndE u R.rdy R.sees h7).1 (sndE v R.rdy R.sees h8).1 (pg_tup R.rdy.calm (pgs_cons (R.tgt h3.1.1.1 h3.1.1.2) (pgs_cons (R.tgt h3.1.2 h3.2) pgs_nil))) (tg_two _ _ _) (sndSs R b h2) (by rw [star_plain h5, star_plain h6]; rfl) (star_plain h6)
          · exact no h3
        · exact no h
      | seq e => exact other h
      | rng e => exact other h
      | rng2 e f => exact other h
    · exact no h
  | .pass, s, h => by
    rw [chkS.eq_def] at h; dsimp only at h
    split at h
    · rw [show Tw.evS C .pass = fun ρ h => .ok (.next ρ) h from by funext ρ h; rw [Tw.evS_pass]]
      exact s_pass
    · exact no h
  | .brk, s, h => by
    rw [chkS.eq_def] at h; dsimp only at h
    split at h
    · rw [show Tw.evS C .brk = fun ρ h => .ok (.brk ρ) h from by funext ρ h; rw [Tw.evS_brk]]
      exact s_brk
    · exact no h
  | .cont, s, h => by
    rw [chkS.eq_def] at h; dsimp only at h
    split at h
    · rw [show Tw.evS C .cont = fun ρ h => .ok (.cont ρ) h from by funext ρ h; rw [Tw.evS_cont]]
      exact s_cont
    · exact no h
theorem sndSs (R : RdyS cf C sc N X) : ∀ (ts : List Tw.St) {ss : List Stmt}, chkSs cf sc N ts ss = true → PSs X ss (tSt X.K (Tw.evSs C ts))
  | [], ss, h => by
    rw [chkSs.eq_def] at h; dsimp only at h
    split at h
    · rw [show Tw.evSs C [] = fun ρ h => .ok (.next ρ) h from by funext ρ h; rw [Tw.evSs_nil]]
      exact ss_nil
    · exact no h
  | t :: ts, ss, h => by
    rw [chkSs.eq_def] at h; dsimp only at h
    split at h
    · simp only [Bool.and_eq_true] at h
      rw [show Tw.evSs C (t :: ts) = fun ρ h => (Tw.evS C t ρ h).bind fun f h => match f with
        | .next ρ => Tw.evSs C ts ρ h
        | f => .ok f h from by funext ρ h; rw [Tw.evSs_cons] <;> rfl]
      exact ss_cons (sndS R t h.1) (sndSs R ts h.2)
    · exact no h
end
end
end TwS

set_option Elab.async false
set_option linter.all false
set_option maxRecDepth 100000
set_option maxHeartbeats 1000000
namespace TwS
open PySem L2 PyProof.Rows
/-- a def of the text: its name, its statement, its names (parameters first), its parameters -/
structure Dsc where
  name : Str
  st : Stmt
  N : List Str
  ps : List Str
def chkF (cf : Cfg) (d : Dsc) (fn : Tw.Fn) : Bool :=
  decide ((defScope d.st).kind = .function) && !(defScope d.st).isCoroutine && !(defScope d.st).isGenerator && decide d.N.Nodup && decide (d.N.take d.ps.length = d.ps) &&
  d.ps.all (locB (defScope d.st).names) && (defScope d.st).names.all (fun y => decide (y.2 ≠ .free)) && decide (fn.ps = d.ps.length) && decide (fn.ns = d.N.length) && chkSs cf (defScope d.st).names d.N fn.body (defBody d.st)
/-- the def as it lies behind the top -/
structure DefAt (K : PySem.W.Frag) (mg : Str → Option Value) (d : Dsc) (g : Addr) (fd : FuncData) : Prop where
  F : Fun K d.name d.name d.st g fd
  m : mg d.name = some (.ref g)
  b : ∀ us : List Value, us.length = d.ps.length → bindArgs fd ⟨us, []⟩ = pure (d.ps.zip us)
section
variable {P : Program} {w : World} {K : PySem.W.Frag} {mg : Str → Option Value} {base : Heap} {cf : Cfg} {C : Tw.Or}
theorem at_start {ι : Nat → Addr} {h : Tw.Hp} {H : L2.Hp} {ws : List Tw.W} {vs : List V} {N : List Str} (r : HR K ι h H) (rw' : RWs ι h.length H ws vs) (hl : vs.length ≤ N.length) :
    At K ι h H (ws.map some ++ List.replicate (N.length - ws.length) none) (start N vs) := by
  refine ⟨r, ?_, fun i w e => ?_⟩
  · unfold L2.start
    simp only [List.length_append, List.length_map, List.length_replicate, rw'.length]
  · have hi : i < ws.length := by
      by_cases hi : i < ws.length
      · exact hi
      · rw [List.getElem?_append_right (by simpa using hi), List.getElem?_replicate] at e
        split at e <;> cases e
    rw [List.getElem?_append_left (by simpa using hi), List.getElem?_map] at e
    cases e1 : ws[i]? with
    | none => rw [e1] at e; cases e
    | some u =>
      rw [e1] at e
      cases e
      obtain ⟨v, g1, g2⟩ := rw'.get e1
      refine ⟨v, ?_, g2⟩
      unfold L2.start
      rw [List.getElem?_append_left (by rw [List.length_map, ← rw'.length]; exact hi), List.getElem?_map, g1]
      rfl
theorem fn_ok {k : Nat} {d : Dsc} {fn : Tw.Fn} {g : Addr} {fd : FuncData} (D : DefAt K mg d g fd) (h : chkF cf d fn = true) (hb : ∀ x ∈ bnames, mg x = none)
    (own : ∀ f x, cf.fns[f]? = some x → ∃ g fd ps, FnOk P w K mg base CX0 k g fd ps (spOf K (C f)) ∧ mg x = some (.ref g) ∧ PySem.W.keepIn K (.ref g) = true ∧ Binds K fd ps []) :
    FnOk P w K mg base CX0 (k + 1) g fd d.ps (spOf K (Tw.evFn C fn)) := by
  unfold chkF at h
  simp only [Bool.and_eq_true, decide_eq_true_eq, Bool.not_eq_true', List.all_eq_true] at h
  obtain ⟨⟨⟨⟨⟨⟨⟨⟨⟨h1, h2⟩, h3⟩, h4⟩, h5⟩, h6⟩, h7⟩, h8⟩, h9⟩, h10⟩ := h
  have S : FnScope d.N d.ps (defScope d.st) := ⟨h1, h2, h3, h4, h5, fun x hx => by
    have z := h6 x hx
    unfold locB at z
    cases e : (defScope d.st).names.lookup x with
    | none => rw [e] at z; exact no z
    | some k =>
      rw [e] at z
      cases k with
      | «local» => exact .inl rfl
      | cell => exact .inr rfl
      | _ => exact no z, h7⟩
  have hpl : d.ps.length ≤ d.N.length := by
    have := congrArg List.length h5
    rw [List.length_take] at this; omega
  have len : ∀ vs H Q E, spOf K (Tw.evFn C fn) vs H Q E → vs.length = d.ps.length := fun vs H Q E ⟨ws, h, ι, hr, rr, p⟩ => by
    unfold Tw.evFn at p
    by_cases c : ws.length = fn.ps
    · rw [← rr.length, c, h8]
    · rw [if_neg c] at p; exact p.elim
  refine D.F.ok S len fun cdv A outer s H vs Q E hr hsp => ⟨tSt K (Tw.evSs C fn.body), ?_, ?_⟩
  · have R : RdyS cf C (defScope d.st).names d.N (cxOf CX0 P w K mg base d.N d.name (defScope d.st) g cdv A outer s H E).nox := by
      refine ⟨⟨rfl, ?_, fun f x e => ?_, hb⟩, ⟨rfl, h1, fun x hx => ?_, fun x hx => ?_, fun x hx => ?_⟩, rfl, h4, fun _ => rfl, PassesOwn.never, ?_⟩
      · have := hr.un
        show (A.deeper (envOfC d.name (defScope d.st) s.heap.objs.size g cdv)).units + 100 < cLine
        omega
      · obtain ⟨g', fd', ps', z1, z2, z3, z4⟩ := own f x e
        exact ⟨k, g', fd', ps', z1, hr, z2, z3, z4⟩
      · show Vis (defScope d.st) x
        unfold visB at hx
        cases e : (defScope d.st).names.lookup x with
        | none => rw [e] at hx; exact no hx
        | some k =>
          rw [e] at hx
          cases k with
          | «local» => exact .inl e
          | cell => exact .inr (.inl e)
          | free => exact .inr (.inr e)
          | _ => exact no hx
      · show (defScope d.st).names.lookup x = some .globalImplicit
        unfold glB at hx
        cases e : (defScope d.st).names.lookup x with
        | none => rw [e] at hx; exact no hx
        | some k =>
          rw [e] at hx
          cases k with
          | globalImplicit => rfl
          | _ => exact no hx
      · show (defScope d.st).names.lookup x = some .cell ∨ (defScope d.st).names.lookup x = some .free
        unfold cfB at hx
        cases e : (defScope d.st).names.lookup x with
        | none => rw [e] at hx; exact no hx
        | some k =>
          rw [e] at hx
          cases k with
          | cell => exact .inl rfl
          | free => exact .inr rfl
          | _ => exact no hx
      · show Env.blockKind (envOfC d.name (defScope d.st) s.heap.objs.size g cdv) = .function
        unfold Env.blockKind
        have hk : (envOfC d.name (defScope d.st) s.heap.objs.size g cdv).scope.kind = .function := h1
        rw [hk]
        exact ite_self _
    exact sndSs R fn.body h10
  · obtain ⟨ws, h, ι, hr', rr, p⟩ := hsp
    unfold Tw.evFn at p
    by_cases c : ws.length = fn.ps
    · rw [if_pos c] at p
      refine ⟨_, h, ι, at_start (N := d.N) hr' rr (by rw [← rr.length, c, h8]; exact hpl), ?_⟩
      rw [show d.N.length - ws.length = fn.ns - fn.ps by rw [h9, c]]
      cases e : Tw.evSs C fn.body (ws.map some ++ List.replicate (fn.ns - fn.ps) none) h with
      | bad => rw [e] at p; exact p.elim
      | exn => rw [e] at p; exact p.elim
      | ok fl h' =>
        rw [e] at p
        cases fl with
        | next ρ => exact fun ι' H' σ' ex a => p ι' H' .non ex a.hr .non
        | ret u => exact p
        | brk ρ => exact p.elim
        | cont ρ => exact p.elim
    · rw [if_neg c] at p; exact p.elim
/-- a whole text -/
def chkAll (cf : Cfg) : List Dsc → List Tw.Fn → Bool
  | [], [] => true
  | d :: ds, f :: fs => chkF cf d f && chkAll cf ds fs
  | _, _ => false
theorem chkAll_at {cf : Cfg} : ∀ {ds : List Dsc} {fs : List Tw.Fn}, chkAll cf ds fs = true → ∀ {i : Nat} {d : Dsc}, ds[i]? = some d → ∃ f, fs[i]? = some f ∧ chkF cf d f = true
  | [], [], _, i, d, e => by simp at e
  | [], _ :: _, h, _, _, _ => by exact no h
  | _ :: _, [], h, _, _, _ => by exact no h
  | a :: ds, f :: fs, h, 0, d, e => by
    rw [chkAll, Bool.and_eq_true] at h
    simp at e; subst e
    exact ⟨f, rfl, h.1⟩
  | a :: ds, f :: fs, h, i + 1, d, e => by
    rw [chkAll, Bool.and_eq_true] at h
    obtain ⟨f', z1, z2⟩ := chkAll_at h.2 (i := i) (d := d) (by simpa using e)
    exact ⟨f', by simpa using z1, z2⟩
theorem text_ok {Ds : List Dsc} {T : List Tw.Fn} (h : chkAll ⟨Ds.map (·.name)⟩ Ds T = true) (hD : ∀ d ∈ Ds, ∃ g fd, DefAt K mg d g fd) (hb : ∀ x ∈ bnames, mg x = none) :
    ∀ (k i : Nat) (d : Dsc), Ds[i]? = some d → ∀ g fd, DefAt K mg d g fd → FnOk P w K mg base CX0 k g fd d.ps (spOf K (Tw.run T k i)) := by
  intro k
  induction k with
  | zero =>
    intro i d e g fd D
    have bad : ∀ vs H Q E, ¬ spOf K (Tw.run T 0 i) vs H Q E := fun vs H Q E ⟨ws, h, ι, hr, rr, p⟩ => p.elim
    exact ⟨fun vs H Q E q => (bad vs H Q E q).elim, fun A outer s H args us vs Q E _ _ _ _ q => (bad vs H Q E q).elim⟩
  | succ k ih =>
    intro i d e g fd D
    obtain ⟨f, z1, z2⟩ := chkAll_at h e
    have er : Tw.run T (k + 1) i = Tw.evFn (Tw.run T k) f := by
      funext xs hh
      show (match T[i]? with | some fn => Tw.evFn (Tw.run T k) fn xs hh | none => .bad) = _
      rw [z1]
    rw [er]
    refine fn_ok D z2 hb fun j x ex => ?_
    have ex : (Ds.map (·.name))[j]? = some x := ex
    rw [List.getElem?_map] at ex
    cases ed : Ds[j]? with
    | none => rw [ed] at ex; cases ex
    | some d' =>
      rw [ed] at ex
      cases ex
      obtain ⟨g', fd', D'⟩ := hD d' (List.mem_of_getElem? ed)
      exact ⟨g', fd', d'.ps, ih j d' ed g' fd' D', D'.m, D'.F.kp, .all D'.b⟩
end
end TwS

set_option Elab.async false
set_option linter.all false
set_option maxRecDepth 100000
set_option maxHeartbeats 1000000
namespace TwS
open PySem L2 PyProof.Rows
theorem def_mk {K : PySem.W.Frag} {h : Heap} {mg : Str → Option Value} {x : Str} {st : Stmt} {N ps : List Str} {f : Addr} {od an : Option Addr} {sl : Array (Option Value)} {oc kV dc pm cd ct : Value} (X : K.In h) (G : h.Ns mainGlobals mg)
    (a : PySem.W.nsIn K mainGlobals x = some (some (.ref f))) (l : K.lookup f = some ⟨oc, od, .func (PySem.W.fnOf x x (defArgs st) (defBody st) (defScope st) .none kV dc pm an cd ct), sl⟩) (c : PySem.W.codeIn K cd x = true) (k : PySem.W.keepIn K (.ref f) = true)
    (b : ∀ (kV doc pm : Value) (an : Option Addr) (cdv ct : Value) (us : List Value), us.length = ps.length → bindArgs (PySem.W.fnOf x x (defArgs st) (defBody st) (defScope st) .none kV doc pm an cdv ct) ⟨us, []⟩ = pure (ps.zip us)) :
    ∃ g fd, DefAt K mg ⟨x, st, N, ps⟩ g fd :=
  have F := fun_mk (st := st) l c k
  ⟨f, _, F, PySem.W.mg_of X G a, fun us hl => b _ _ _ _ _ _ us hl⟩
theorem blt_mk {K : PySem.W.Frag} {h : Heap} {mg : Str → Option Value} (X : K.In h) (G : h.Ns mainGlobals mg)
    (z0 : PySem.W.nsIn K mainGlobals "len" = some none) (z1 : PySem.W.nsIn K mainGlobals "list" = some none) (z2 : PySem.W.nsIn K mainGlobals "tuple" = some none) (z3 : PySem.W.nsIn K mainGlobals "dict" = some none)
    (z4 : PySem.W.nsIn K mainGlobals "int" = some none) (z5 : PySem.W.nsIn K mainGlobals "str" = some none) (z6 : PySem.W.nsIn K mainGlobals "bool" = some none) (z7 : PySem.W.nsIn K mainGlobals "isinstance" = some none)
    (z8 : PySem.W.nsIn K mainGlobals "range" = some none) (z9 : PySem.W.nsIn K mainGlobals "zip" = some none) (z10 : PySem.W.nsIn K mainGlobals "enumerate" = some none) (z11 : PySem.W.nsIn K mainGlobals "reversed" = some none) : ∀ x ∈ bnames, mg x = none := by
  unfold bnames
  simp only [List.forall_mem_cons]
  exact ⟨PySem.W.mg_none_of X G z0, PySem.W.mg_none_of X G z1, PySem.W.mg_none_of X G z2, PySem.W.mg_none_of X G z3, PySem.W.mg_none_of X G z4, PySem.W.mg_none_of X G z5, PySem.W.mg_none_of X G z6, PySem.W.mg_none_of X G z7, PySem.W.mg_none_of X G z8, PySem.W.mg_none_of X G z9, PySem.W.mg_none_of X G z10, PySem.W.mg_none_of X G z11, fun _ h => nomatch h⟩
theorem ints_rel {ι : Nat → Addr} {n : Nat} {H : L2.Hp} : ∀ ns : List Int, RWs ι n H (ns.map Tw.W.int) (ns.map V.int)
  | [] => .nil
  | i :: r => .cons (.int i) (ints_rel r)
theorem law_walk {T : List Tw.Fn} {Ds : List Dsc} {i k : Nat} {st : Stmt} {N : List Str} {l : PySem.W.OpenLaw} {q : Program} {loose : List Str} {XP : (Str → Option Value) → Heap → Prop} {YP : World → Heap → Prop} {d : DefRec} {K : Params → PySem.W.Frag} {x : Str}
    (hc : chkAll ⟨Ds.map (·.name)⟩ Ds T = true) (hi : Ds[i]? = some ⟨"law", st, N, [x]⟩) (hn : l.most = some 63) (hdf : d.params.defaults = [])
    (hY : ∀ (w : World) (h : Heap), YP w h → (K w.params).In h) (hd : d.name = "law")
    (F : ∀ (w : World) (mg : Str → Option Value) (h : Heap), (K w.params).In h → h.Ns mainGlobals mg → (∀ d ∈ Ds, ∃ g fd, DefAt (K w.params) mg d g fd) ∧ ∀ x ∈ bnames, mg x = none)
    (hr : Room k callerA) (law : ∀ ns : List Int, ns.length ≤ 63 → ∃ h', Tw.run T k i [.ref 0] [.frz (ns.map .int)] = .ok (.bl true) h') :
    PySem.W.WalkO q loose XP YP l.row.toRowW d [] (fun f vs => PySem.call f vs) := by
  refine L2.walk_ofK (n := 63) (k := k) (x := x) (CX := CX0) (sp := fun K => spOf K (Tw.run T k i)) hn (by decide) hdf hr hY (fun w mg fa h KX G hmg => ?_) (fun K H a ns hl hO hS => ?_) fun _ _ _ _ z => z
  · obtain ⟨hD, hb⟩ := F w mg h KX G
    obtain ⟨g, fd, D⟩ := hD _ (List.mem_of_getElem? hi)
    rw [hd] at hmg
    have e : Value.ref fa = Value.ref g := Option.some.inj (hmg.symm.trans D.m)
    cases e
    refine ⟨fd, fun s u => ?_, fun base _ _ => text_ok hc hD hb k i _ hi _ fd D⟩
    exact .of_eq (D.b [u] rfl)
  · have sq : SqF K H a (ns.map V.int) := by
      rcases hS with (h | h) | h
      · rcases hO a with z | ⟨o, xs, z⟩
        · rw [h] at z; cases z
        · rw [h] at z; cases z
      · exact .inl h
      · exact .inr h
    obtain ⟨h', e⟩ := law ns hl
    refine ⟨[.ref 0], [.frz (ns.map .int)], fun _ => a, ⟨fun j o ej => ?_, fun j j' o u ej ej' m => ?_⟩, .cons (.ref (by simp)) .nil, ?_⟩
    · cases j with
      | zero => simp at ej; subst ej; exact ⟨_, sq, ints_rel ns⟩
      | succ j => simp at ej
    · cases j with
      | zero => simp at ej; subst ej; cases m
      | succ j => simp at ej
    · rw [e]
      intro ι' H' b _ _ r
      cases r
      rfl
end TwS

namespace Tw
theorem look_app {h : Hp} {a : Nat} {o : O} (x : List O) (e : h[a]? = some o) : (h ++ x)[a]? = some o := by
  have : a < h.length := by
    rcases Nat.lt_or_ge a h.length with q | q
    · exact q
    · rw [List.getElem?_eq_none q] at e; cases e
  rw [List.getElem?_append_left this]; exact e
theorem look_lt {h : Hp} {a : Nat} {o : O} (e : h[a]? = some o) : a < h.length := by
  rcases Nat.lt_or_ge a h.length with q | q
  · exact q
  · rw [List.getElem?_eq_none q] at e; cases e
@[simp] theorem look_new (h : Hp) (o : O) : (h ++ [o])[h.length]? = some o := by simp
theorem look_set {h : Hp} {a b : Nat} {o u : O} (n : a ≠ b) (e : h[b]? = some u) : (h.set a o)[b]? = some u := by
  rw [List.getElem?_set_ne n]; exact e
theorem look_set_same {h : Hp} {a : Nat} {o u : O} (e : h[a]? = some u) : (h.set a o)[a]? = some o := by
  rw [List.getElem?_set_self (look_lt e)]

/-- all but p is as it was -/
structure Ext (p : Nat) (h h' : Hp) : Prop where
  len : h.length ≤ h'.length
  keep : ∀ q o, h[q]? = some o → q ≠ p → h'[q]? = some o
theorem Ext.refl (p : Nat) (h : Hp) : Ext p h h := ⟨Nat.le_refl _, fun _ _ e _ => e⟩
theorem Ext.trans {p : Nat} {h h1 h2 : Hp} (a : Ext p h h1) (b : Ext p h1 h2) : Ext p h h2 :=
  ⟨Nat.le_trans a.len b.len, fun q o e n => b.keep q o (a.keep q o e n) n⟩
theorem Ext.app (p : Nat) (h : Hp) (x : List O) : Ext p h (h ++ x) := ⟨by simp, fun _ _ e _ => look_app x e⟩
theorem Ext.set (p : Nat) (h : Hp) (o : O) : Ext p h (h.set p o) := ⟨by simp, fun _ _ e n => look_set (Ne.symm n) e⟩

theorem rds_ints (h : Hp) (n : Nat) : ∀ ns : List Int, rds h n (ns.map W.int) = some (ns.map W.int)
  | [] => by simp [rds]
  | x :: r => by simp [rds, rd, rds_ints h n r]
theorem rds_strs (h : Hp) (n : Nat) : ∀ ns : List S, rds h n (ns.map W.str) = some (ns.map W.str)
  | [] => by simp [rds]
  | x :: r => by simp [rds, rd, rds_strs h n r]

structure Gen (p : Nat) (h : Hp) : Prop where
  ex : ∃ (a c : Int) (l : Nat) (ns : List Int), h[p]? = some (.lst [.int a, .ref l, .int c]) ∧ h[l]? = some (.lst (ns.map W.int)) ∧ p ≠ l
theorem Gen.ext {p : Nat} {h : Hp} (g : Gen p h) (x : List O) : Gen p (h ++ x) := by
  obtain ⟨a, c, l, ns, e1, e2, e3⟩ := g.ex
  exact ⟨a, c, l, ns, look_app x e1, look_app x e2, e3⟩
def nextFn : Fn := ⟨2, 3, [
  .set 2 (.ite (.cmp .ne (.idx (.var 0) (.cst (.int 1))) (.lst .nil)) (.idx (.idx (.var 0) (.cst (.int 1))) (.bin .mod (.idx (.var 0) (.cst (.int 2))) (.blt .len (.idx (.var 0) (.cst (.int 1)))))) (.cst (.int 0))),
  .put (.var 0) (.cst (.int 0)) (.bin .mod (.bin .add (.bin .add (.bin .mul (.idx (.var 0) (.cst (.int 0))) (.cst (.int 48271))) (.bin .mul (.var 2) (.cst (.int 69621)))) (.cst (.int 11))) (.cst (.int 2147483647))),
  .put (.var 0) (.cst (.int 2)) (.bin .add (.idx (.var 0) (.cst (.int 2))) (.cst (.int 1))),
  .ret (.bin .mod (.bin .fdiv (.idx (.var 0) (.cst (.int 0))) (.cst (.int 7))) (.var 1))]⟩

theorem atI_nat {α : Type} (xs : List α) (i : Nat) (h : i < xs.length) : atI xs (i : Int) = some xs[i] := by
  have e1 : (0 : Int) ≤ (i : Int) := by omega
  have e2 : (i : Int) < (xs.length : Int) := by omega
  simp [atI, ixN, e1, e2, List.getElem?_eq_getElem h]
theorem atI_mod {α : Type} (xs : List α) (c : Int) (h : 0 < xs.length) : ∃ x, x ∈ xs ∧ atI xs (c % (xs.length : Int)) = some x := by
  have e1 : 0 ≤ c % (xs.length : Int) := Int.emod_nonneg _ (by omega)
  have e2 : c % (xs.length : Int) < (xs.length : Int) := Int.emod_lt_of_pos _ (by omega)
  have e3 : (c % (xs.length : Int)).toNat < xs.length := by omega
  refine ⟨xs[(c % (xs.length : Int)).toNat], List.getElem_mem _, ?_⟩
  have := atI_nat xs _ e3
  rw [show (((c % (xs.length : Int)).toNat : Nat) : Int) = c % (xs.length : Int) by omega] at this
  exact this


@[simp] theorem atI_0 {α : Type} (x : α) (xs : List α) : atI (x :: xs) 0 = some x := by
  have : ((0 : Nat) : Int) < ((xs.length : Int) + 1) := by omega
  simp [atI, ixN]
@[simp] theorem atI_1 {α : Type} (x y : α) (xs : List α) : atI (x :: y :: xs) 1 = some y := by
  have := atI_nat (x :: y :: xs) 1 (by simp)
  simpa using this
@[simp] theorem atI_2 {α : Type} (x y z : α) (xs : List α) : atI (x :: y :: z :: xs) 2 = some z := by
  have := atI_nat (x :: y :: z :: xs) 2 (by simp)
  simpa using this
@[simp] theorem ixN_3_0 : ixN 3 0 = some 0 := rfl
@[simp] theorem ixN_3_2 : ixN 3 2 = some 2 := rfl
@[simp] theorem small_c1 : small 48271 = true := by decide
@[simp] theorem small_c2 : small 69621 = true := by decide
theorem next_ok {C : Or} {p : Nat} {h : Hp} (g : Gen p h) {m : Int} (hm : 0 < m) :
    ∃ v h', evFn C nextFn [.ref p, .int m] h = .ok (.int v) h' ∧ 0 ≤ v ∧ v < m ∧ Ext p h h' ∧ Gen p h' := by
  obtain ⟨a, c, l, ns, e1, e2, e3⟩ := g.ex
  have f1 := look_app [O.lst []] e1
  have f2 := look_app [O.lst []] e2
  have key : ∃ x : Int, evE C (.ite (.cmp .ne (.idx (.var 0) (.cst (.int 1))) (.lst .nil)) (.idx (.idx (.var 0) (.cst (.int 1))) (.bin .mod (.idx (.var 0) (.cst (.int 2))) (.blt .len (.idx (.var 0) (.cst (.int 1)))))) (.cst (.int 0)))
      [some (.ref p), some (.int m), none] h = .ok (.int x) (h ++ [O.lst []]) := by
    cases ns with
    | nil =>
      refine ⟨0, ?_⟩
      simp [e1, f2, eqV, isDic]
    | cons n r =>
      obtain ⟨x, hx, ex⟩ := atI_mod ((n :: r).map W.int) c (by simp)
      obtain ⟨y, _, rfl⟩ := List.mem_map.mp hx
      refine ⟨y, ?_⟩
      have pos : (0 : Int) < (r.length : Int) + 1 := by omega
      have t := rds_ints (h ++ [O.lst []]) 59 r
      simp only [List.map_cons] at e2 f2 ex
      simp only [List.length_cons, List.length_map] at ex
      push_cast at ex
      simp [e1, f1, f2, t, pos, ex, eqV, isDic]
  obtain ⟨x, ex⟩ := key
  have g1 := look_set_same (o := O.lst [.int ((a * 48271 + x * 69621 + 11) % 2147483647), .ref l, .int c]) f1
  have g2 := look_set_same (o := O.lst [.int ((a * 48271 + x * 69621 + 11) % 2147483647), .ref l, .int (c + 1)]) g1
  have g3 := look_set (o := O.lst [.int ((a * 48271 + x * 69621 + 11) % 2147483647), .ref l, .int c]) e3 f2
  have g4 := look_set (o := O.lst [.int ((a * 48271 + x * 69621 + 11) % 2147483647), .ref l, .int (c + 1)]) e3 g3
  refine ⟨(((a * 48271 + x * 69621 + 11) % 2147483647) / 7) % m, (((h ++ [O.lst []]).set p (.lst [.int ((a * 48271 + x * 69621 + 11) % 2147483647), .ref l, .int c]))).set p (.lst [.int ((a * 48271 + x * 69621 + 11) % 2147483647), .ref l, .int (c + 1)]), ?_, Int.emod_nonneg _ (by omega), Int.emod_lt_of_pos _ hm, ?_, ?_⟩
  · unfold evFn nextFn
    simp only [evSs, evS, List.length_cons, List.length_nil, if_true, List.map_cons, List.map_nil, Nat.reduceSub, List.replicate, List.cons_append, List.nil_append, Nat.reduceAdd, ex]
    simp [f1, g1, g2, hm, -List.set_set]
  · exact ((Ext.app p h _).trans (Ext.set p _ _)).trans (Ext.set p _ _)
  · exact ⟨_, _, _, _, g2, g4, e3⟩
end Tw

namespace Tw
set_option maxHeartbeats 1000000
set_option linter.all false
inductive Kd where
  | num | tru | row (k : Kd) | pair (a b : Kd) | work (a b : Kd) | any (x : S) | gap (n : Int)
  deriving DecidableEq
abbrev sNumber : S := [110, 117, 109, 98, 101, 114]
abbrev sTruth : S := [116, 114, 117, 116, 104]
abbrev sRow : S := [114, 111, 119]
abbrev sPair : S := [112, 97, 105, 114]
abbrev sWork : S := [119, 111, 114, 107]
abbrev sAny : S := [97, 110, 121]
abbrev sGap : S := [103, 97, 112]
def Kd.toW : Kd → W
  | .num => .tup [.str sNumber]
  | .tru => .tup [.str sTruth]
  | .row k => .tup [.str sRow, k.toW]
  | .pair a b => .tup [.str sPair, a.toW, b.toW]
  | .work a b => .tup [.str sWork, a.toW, b.toW]
  | .any x => .tup [.str sAny, .str x]
  | .gap n => .tup [.str sGap, .int n]
def Kd.depth : Kd → Nat
  | .row k => k.depth + 1
  | .pair a b => max a.depth b.depth + 1
  | .work a b => max a.depth b.depth + 1
  | _ => 0
/-- its names are among these, and it has no gaps -/
def Kd.over (l : List S) : Kd → Prop
  | .row k => k.over l
  | .pair a b => a.over l ∧ b.over l
  | .work a b => a.over l ∧ b.over l
  | .any x => x ∈ l
  | .gap _ => False
  | _ => True
theorem Kd.rd (h : Hp) : ∀ (k : Kd) (n : Nat), k.depth + 1 ≤ n → Tw.rd h n k.toW = some k.toW
  | .num, n + 1, _ => by simp [Kd.toW]
  | .tru, n + 1, _ => by simp [Kd.toW]
  | .any x, n + 1, _ => by simp [Kd.toW]
  | .gap x, n + 1, _ => by simp [Kd.toW]
  | .row k, n + 1, e => by
    have := Kd.rd h k n (by simp [Kd.depth] at e; omega)
    simp [Kd.toW, this]
  | .pair a b, n + 1, e => by
    have h1 := Kd.rd h a n (by simp [Kd.depth] at e; omega)
    have h2 := Kd.rd h b n (by simp [Kd.depth] at e; omega)
    simp [Kd.toW, h1, h2]
  | .work a b, n + 1, e => by
    have h1 := Kd.rd h a n (by simp [Kd.depth] at e; omega)
    have h2 := Kd.rd h b n (by simp [Kd.depth] at e; omega)
    simp [Kd.toW, h1, h2]
theorem Kd.eqW : ∀ a b : Kd, Tw.eqW a.toW b.toW = decide (a = b) := by
  intro a
  induction a with
  | num => intro b; cases b <;> simp [Kd.toW]
  | tru => intro b; cases b <;> simp [Kd.toW]
  | any x => intro b; cases b <;> simp [Kd.toW, Bool.beq_eq_decide_eq]
  | gap x => intro b; cases b <;> simp [Kd.toW, Bool.beq_eq_decide_eq]
  | row k ih => intro b; cases b <;> simp [Kd.toW, ih]
  | pair a b iha ihb => intro c; cases c <;> simp [Kd.toW, iha, ihb]
  | work a b iha ihb => intro c; cases c <;> simp [Kd.toW, iha, ihb]
theorem Kd.isDic (h : Hp) (k : Kd) : Tw.isDic h k.toW = none := by cases k <;> simp [Kd.toW, Tw.isDic]
theorem Kd.eqV (h : Hp) (a b : Kd) (ha : a.depth ≤ 50) (hb : b.depth ≤ 50) : Tw.eqV h a.toW b.toW = some (decide (a = b)) := by
  simp [Tw.eqV, Kd.isDic, Kd.rd h a 60 (by omega), Kd.rd h b 60 (by omega), Kd.eqW]

theorem run_eq {T : List Fn} {f : Nat} {fn : Fn} (e : T[f]? = some fn) (k : Nat) (xs : List W) (h : Hp) : run T (k + 1) f xs h = evFn (run T k) fn xs h := by
  simp [run, e]

def kindFn (nx self : Nat) : Fn := ⟨3, 5, [
  .set 3 (.call nx (.cons (.var 0) (.cons (.cst (.int 8)) .nil))),
  .iff (.and (.cmp .ne (.var 2) (.lst .nil)) (.cmp .eq (.var 3) (.cst (.int 7)))) [.ret (.tup (.cons (.cst (.str [97, 110, 121])) (.cons (.idx (.var 2) (.call nx (.cons (.var 0) (.cons (.blt .len (.var 2)) .nil)))) .nil)))] [],
  .iff (.or (.cmp .eq (.var 1) (.cst (.int 0))) (.cmp .lt (.var 3) (.cst (.int 3)))) [.ret (.idx (.lst (.cons (.tup (.cons (.cst (.str [110, 117, 109, 98, 101, 114])) .nil)) (.cons (.tup (.cons (.cst (.str [116, 114, 117, 116, 104])) .nil)) .nil))) (.call nx (.cons (.var 0) (.cons (.cst (.int 2)) .nil))))] [],
  .set 4 (.call self (.cons (.var 0) (.cons (.bin .sub (.var 1) (.cst (.int 1))) (.cons (.var 2) .nil)))),
  .iff (.cmp .lt (.var 3) (.cst (.int 5))) [.ret (.tup (.cons (.cst (.str [114, 111, 119])) (.cons (.var 4) .nil)))] [],
  .ret (.tup (.cons (.idx (.lst (.cons (.cst (.str [112, 97, 105, 114])) (.cons (.cst (.str [119, 111, 114, 107])) .nil))) (.bin .fdiv (.call nx (.cons (.var 0) (.cons (.cst (.int 3)) .nil))) (.cst (.int 2)))) (.cons (.var 4) (.cons (.call self (.cons (.var 0) (.cons (.bin .sub (.var 1) (.cst (.int 1))) (.cons (.var 2) .nil)))) .nil))))]⟩
theorem atI_lt {α : Type} (xs : List α) (i : Int) (h0 : 0 ≤ i) (h : i < (xs.length : Int)) : ∃ x, x ∈ xs ∧ atI xs i = some x := by
  have e3 : i.toNat < xs.length := by omega
  refine ⟨xs[i.toNat], List.getElem_mem _, ?_⟩
  have := atI_nat xs _ e3
  rw [show ((i.toNat : Nat) : Int) = i by omega] at this
  exact this

theorem ne_nil {h : Hp} {q : Nat} {names : List S} (e : h[q]? = some (.lst (names.map W.str))) :
    eqV (h ++ [O.lst []]) (.ref q) (.ref h.length) = some (decide (names = [])) := by
  have e2 := look_app [O.lst []] e
  cases names with
  | nil => simp [eqV, isDic, e2]
  | cons x r =>
    have t := rds_strs (h ++ [O.lst []]) 59 r
    simp only [List.map_cons] at e2
    simp [eqV, isDic, e2, t]

/-- kd lies so -/
structure IsKd (p : Nat) (names : List S) (d : Nat) (h : Hp) (r : R W) (kd : Kd) (h' : Hp) : Prop where
  eq : r = .ok kd.toW h'
  deep : kd.depth ≤ d
  over : kd.over names
  ext : Ext p h h'
  gen : Gen p h'

abbrev Nxt (C : Or) (nx p : Nat) : Prop := ∀ (m : Int) (h : Hp), Gen p h → 0 < m → ∃ v h', C nx [.ref p, .int m] h = .ok (.int v) h' ∧ 0 ≤ v ∧ v < m ∧ Ext p h h' ∧ Gen p h'

theorem kind_body {C : Or} {nx self p q : Nat} {names : List S} (nxt : Nxt C nx p) (hq : q ≠ p) (d : Nat)
    (ih : 0 < d → ∀ h, Gen p h → h[q]? = some (.lst (names.map W.str)) → ∃ kd h', IsKd p names (d - 1) h (C self [.ref p, .int ((d : Int) - 1), .ref q] h) kd h')
    (h : Hp) (g : Gen p h) (eq : h[q]? = some (.lst (names.map W.str))) : ∃ kd h', IsKd p names d h (evFn C (kindFn nx self) [.ref p, .int d, .ref q] h) kd h' := by
  obtain ⟨w, h1, r1, a1, b1, x1, g1⟩ := nxt 8 h g (by decide)
  have eq1 := x1.keep _ _ eq hq
  have n1 := ne_nil eq1
  have eq2 := look_app [O.lst []] eq1
  have g2 := g1.ext [O.lst []]
  have x2 := x1.trans (Ext.app p h1 [O.lst []])
  unfold evFn kindFn
  by_cases c1 : names ≠ [] ∧ w = 7
  · obtain ⟨c1, rfl⟩ := c1
    obtain ⟨v, h3, r3, a3, b3, x3, g3⟩ := nxt names.length (h1 ++ [O.lst []]) g2 (by
      have := List.length_pos_iff.mpr c1; omega)
    obtain ⟨x, hx, ex⟩ := atI_lt (names.map W.str) v a3 (by simpa using b3)
    obtain ⟨y, hy, rfl⟩ := List.mem_map.mp hx
    have eq3 := x3.keep _ _ eq2 hq
    refine ⟨.any y, h3, ?_, Nat.zero_le _, hy, x2.trans x3, g3⟩
    simp [r1, n1, c1, eq2, r3, eq3, ex, Kd.toW]
  · have c1' : names = [] ∨ (names ≠ [] ∧ w ≠ 7) := by
      by_cases hn : names = []
      · exact .inl hn
      · exact .inr ⟨hn, fun z => c1 ⟨hn, z⟩⟩
    have far : ∀ (h : Hp), Gen p h → p ≠ h.length := fun h g => by
      obtain ⟨_, _, _, _, e, _⟩ := g.ex
      exact fun z => absurd (look_lt e) (by rw [← z]; omega)
    by_cases c2 : d = 0 ∨ w < 3
    · obtain ⟨v, h3, r3, a3, b3, x3, g3⟩ := nxt 2 ((h1 ++ [O.lst []]) ++ [.lst [.tup [.str sNumber], .tup [.str sTruth]]]) (g2.ext _) (by decide)
      have el := x3.keep _ _ (look_new (h1 ++ [O.lst []]) (.lst [.tup [.str sNumber], .tup [.str sTruth]])) (Ne.symm (far _ g2))
      have x4 := (x2.trans (Ext.app p _ [.lst [.tup [.str sNumber], .tup [.str sTruth]]])).trans x3
      have hv : v = 0 ∨ v = 1 := by omega
      refine ⟨if v = 0 then .num else .tru, h3, ?_, ?_, ?_, x4, g3⟩
      · simp only [List.length_append, List.length_cons, List.length_nil, List.append_assoc, List.cons_append, List.nil_append] at el r3
        have c2' : d = 0 ∨ (d ≠ 0 ∧ w < 3) := by omega
        have ev : atI [W.tup [.str sNumber], .tup [.str sTruth]] v = some (if v = 0 then Kd.num else Kd.tru).toW := by rcases hv with rfl | rfl <;> rfl
        rcases c1' with c1' | ⟨c1', c1''⟩ <;> rcases c2' with c2 | ⟨c2, c2'⟩
        · simp [r1, n1, c1', c2, r3, el, ev]
        · simp [r1, n1, c1', c2, c2', r3, el, ev]
        · simp [r1, n1, c1', c1'', c2, r3, el, ev]
        · simp [r1, n1, c1', c1'', c2, c2', r3, el, ev]
      · rcases hv with rfl | rfl <;> simp [Kd.depth]
      · rcases hv with rfl | rfl <;> simp [Kd.over]
    · have hd : 0 < d := by omega
      obtain ⟨k1, h3, i1⟩ := ih hd (h1 ++ [O.lst []]) g2 eq2
      have eq3 := i1.ext.keep _ _ eq2 hq
      by_cases c3 : w < 5
      · refine ⟨.row k1, h3, ?_, ?_, i1.over, x2.trans i1.ext, i1.gen⟩
        · have t1 := i1.eq
          have d0 : d ≠ 0 := by omega
          have w3 : ¬ w < 3 := fun z => c2 (.inr z)
          rcases c1' with c1' | ⟨c1', c1''⟩
          · simp [r1, n1, c1', d0, w3, t1, c3, Kd.toW]
          · simp [r1, n1, c1', c1'', d0, w3, t1, c3, Kd.toW]
        · have := i1.deep; simp [Kd.depth]; omega
      · obtain ⟨v, h5, r5, a5, b5, x5, g5⟩ := nxt 3 (h3 ++ [.lst [.str sPair, .str sWork]]) (i1.gen.ext _) (by decide)
        have el := x5.keep _ _ (look_new h3 (.lst [.str sPair, .str sWork])) (Ne.symm (far _ i1.gen))
        have eq5 := x5.keep _ _ (look_app [O.lst [.str sPair, .str sWork]] eq3) hq
        obtain ⟨k2, h6, i2⟩ := ih hd h5 g5 eq5
        have hv : v / 2 = 0 ∨ v / 2 = 1 := by omega
        refine ⟨if v / 2 = 0 then .pair k1 k2 else .work k1 k2, h6, ?_, ?_, ?_, (((x2.trans i1.ext).trans (Ext.app p _ _)).trans x5).trans i2.ext, i2.gen⟩
        · have t1 := i1.eq
          have t2 := i2.eq
          have d0 : d ≠ 0 := by omega
          have w3 : ¬ w < 3 := fun z => c2 (.inr z)
          rcases c1' with c1' | ⟨c1', c1''⟩ <;> rcases hv with hv | hv
          · simp [r1, n1, c1', d0, w3, t1, t2, c3, r5, el, hv, Kd.toW]
          · simp [r1, n1, c1', d0, w3, t1, t2, c3, r5, el, hv, Kd.toW]
          · simp [r1, n1, c1', c1'', d0, w3, t1, t2, c3, r5, el, hv, Kd.toW]
          · simp [r1, n1, c1', c1'', d0, w3, t1, t2, c3, r5, el, hv, Kd.toW]
        · have := i1.deep; have := i2.deep
          rcases hv with hv | hv <;> simp [Kd.depth, hv] <;> omega
        · rcases hv with hv | hv <;> simp [Kd.over, hv] <;> exact ⟨i1.over, i2.over⟩
theorem nxt_run {T : List Fn} {nx : Nat} (hn : T[nx]? = some nextFn) (k p : Nat) : Nxt (run T (k + 1)) nx p := fun m h g hm => by
  rw [run_eq hn]; exact next_ok g hm
theorem kind_ok {T : List Fn} {nx self p q : Nat} {names : List S} (hn : T[nx]? = some nextFn) (hs : T[self]? = some (kindFn nx self)) (hq : q ≠ p) :
    ∀ (d k : Nat) (h : Hp), Gen p h → h[q]? = some (.lst (names.map W.str)) → ∃ kd h', IsKd p names d h (run T (d + k + 2) self [.ref p, .int d, .ref q] h) kd h'
  | 0, k, h, g, e => by
    rw [show 0 + k + 2 = (k + 1) + 1 by omega, run_eq hs]
    exact kind_body (nxt_run hn k p) hq 0 (fun z => absurd z (by omega)) h g e
  | d + 1, k, h, g, e => by
    rw [show d + 1 + k + 2 = (d + k + 2) + 1 by omega, run_eq hs]
    refine kind_body (nxt_run hn (d + k + 1) p) hq (d + 1) (fun _ h g e => ?_) h g e
    have := kind_ok hn hs hq d k h g e
    simpa using this
end Tw

namespace Tw
set_option maxHeartbeats 1000000
set_option linter.all false
abbrev sAbc : S := [97, 98, 99, 100, 101, 102, 103, 104, 105, 106, 107, 108, 109, 110, 111, 112, 113, 114, 115, 116, 117, 118, 119, 120, 121, 122]
def wordFn (nx : Nat) : Fn := ⟨1, 2, [
  .set 1 (.cst (.str [97, 98, 99, 100, 101, 102, 103, 104, 105, 106, 107, 108, 109, 110, 111, 112, 113, 114, 115, 116, 117, 118, 119, 120, 121, 122])),
  .ret (.mth .join (.cst (.str [])) (.cons (.comp (.idx (.var 1) (.call nx (.cons (.var 0) (.cons (.cst (.int 26)) .nil)))) (.rng (.bin .add (.cst (.int 1)) (.call nx (.cons (.var 0) (.cons (.cst (.int 8)) .nil))))) .none) .nil))]⟩
theorem upTo_length : ∀ (n : Nat) (lo : Int), (upTo lo n).length = n
  | 0, _ => rfl
  | n + 1, lo => by simp [upTo, upTo_length n]
theorem texts_single : ∀ ys : List Nat, texts (ys.map fun c => W.str [c]) = some (ys.map fun c => [c])
  | [] => by simp
  | c :: r => by simp [texts_single r]
theorem joinS_nil : ∀ ys : List S, joinS [] ys = ys.flatten
  | [] => rfl
  | [x] => by simp
  | x :: y :: r => by simp [joinS, joinS_nil (y :: r)]
theorem flat_single : ∀ ys : List Nat, (ys.map fun c => [c]).flatten = ys
  | [] => rfl
  | c :: r => by simp [flat_single r]
theorem word_walk {p : Nat} {k : W → List W → Hp → R (List W)}
    (hk : ∀ x acc h, Gen p h → ∃ c h', k x acc h = .ok (acc ++ [W.str [c]]) h' ∧ Ext p h h' ∧ Gen p h') :
    ∀ (l : List W) (acc : List W) (h : Hp), Gen p h → ∃ (ys : List Nat) (h' : Hp), walkL k l acc h = .ok (acc ++ ys.map fun c => W.str [c]) h' ∧ ys.length = l.length ∧ Ext p h h' ∧ Gen p h'
  | [], acc, h, g => ⟨[], h, by simp, rfl, Ext.refl p h, g⟩
  | x :: l, acc, h, g => by
    obtain ⟨c, h1, e1, x1, g1⟩ := hk x acc h g
    obtain ⟨ys, h2, e2, l2, x2, g2⟩ := word_walk hk l (acc ++ [W.str [c]]) h1 g1
    exact ⟨c :: ys, h2, by simp [e1, e2], by simp [l2], x1.trans x2, g2⟩
theorem word_ok {C : Or} {nx p : Nat} (nxt : Nxt C nx p) (h : Hp) (g : Gen p h) :
    ∃ x h', evFn C (wordFn nx) [.ref p] h = .ok (.str x) h' ∧ x.length ≤ 8 ∧ Ext p h h' ∧ Gen p h' := by
  obtain ⟨v, h1, r1, a1, b1, x1, g1⟩ := nxt 8 h g (by decide)
  obtain ⟨ys, h2, e2, l2, x2, g2⟩ := word_walk (p := p) (k := compK (evEo C .none) (evE C (.idx (.var 1) (.call nx (.cons (.var 0) (.cons (.cst (.int 26)) .nil))))) [some (W.ref p), some (W.str sAbc)]) (fun x acc h g => by
    obtain ⟨v, h1, r1, a1, b1, x1, g1⟩ := nxt 26 h g (by decide)
    obtain ⟨c, hc, ec⟩ := atI_lt sAbc v a1 b1
    exact ⟨c, h1, by simp [compK, r1, ec, SZ], x1, g1⟩) (upTo 0 (1 + v).toNat) [] h1 g1
  rw [upTo_length] at l2
  have hr : rngOk (1 + v) = true := by simp [rngOk]; omega
  have ly : ys.length ≤ 8 := by omega
  refine ⟨ys, h2 ++ [.lst (ys.map fun c => W.str [c])], ?_, ly, (x1.trans x2).trans (Ext.app _ _ _), g2.ext _⟩
  have z1 : ys.length ≤ SZ := Nat.le_trans ly (by decide)
  have ei : evIt C (.rng (.bin .add (.cst (.int 1)) (.call nx (.cons (.var 0) (.cons (.cst (.int 8)) .nil))))) [some (W.ref p), some (W.str sAbc)] h = .ok (.fix (upTo 0 (1 + v).toNat)) h1 := by
    simp [r1, hr]
  have ec : evE C (.comp (.idx (.var 1) (.call nx (.cons (.var 0) (.cons (.cst (.int 26)) .nil)))) (.rng (.bin .add (.cst (.int 1)) (.call nx (.cons (.var 0) (.cons (.cst (.int 8)) .nil))))) .none) [some (W.ref p), some (W.str sAbc)] h = .ok (.ref h2.length) (h2 ++ [.lst (ys.map fun c => W.str [c])]) := by
    rw [evE_comp, ei, R.bind_ok]
    simp only [walk]
    rw [e2]
    simp [newL, z1]
  unfold evFn wordFn
  have z2 : ((ys.map fun c => [c]).map (·.length)).sum = ys.length := by
    clear ec ei e2 l2 z1 ly
    induction ys with
    | nil => rfl
    | cons c r ih => simp only [List.map_cons, List.sum_cons, ih, List.length_cons, List.length_nil]; omega
  simp only [List.map_map] at z2
  simp [ec, z1, z2, texts_single, joinS_nil, flat_single]
end Tw

set_option maxHeartbeats 1000000
set_option linter.all false
namespace Tw
theorem any_str (x : S) : ∀ l : List S, ((l.map W.str).any fun z => eqW z (.str x)) = decide (x ∈ l)
  | [] => by simp
  | y :: r => by
    simp only [List.map_cons, List.any_cons, any_str x r, eqW_str_str, List.mem_cons]
    by_cases e : y = x <;> by_cases f : x ∈ r <;> simp [e, f] <;> simp_all [eq_comm]
theorem all_flat : ∀ l : List S, (l.map W.str).all flat = true
  | [] => rfl
  | x :: r => by simp [all_flat r]
theorem isIn_tup (x : S) (l : List S) (h : Hp) : isIn (.str x) (.tup (l.map W.str)) h = some (decide (x ∈ l)) := by
  unfold isIn
  have := all_flat l
  simp only [isDic, seqs, any_str, this]
  simp

/-- all is as it was -/
structure Grow (h h' : Hp) : Prop where
  len : h.length ≤ h'.length
  keep : ∀ (q : Nat) (o : O), h[q]? = some o → h'[q]? = some o
theorem Grow.refl (h : Hp) : Grow h h := ⟨Nat.le_refl _, fun _ _ e => e⟩
theorem Grow.trans {h h1 h2 : Hp} (a : Grow h h1) (b : Grow h1 h2) : Grow h h2 := ⟨Nat.le_trans a.len b.len, fun q o e => b.keep q o (a.keep q o e)⟩
theorem Grow.app (h : Hp) (x : List O) : Grow h (h ++ x) := ⟨by simp, fun _ _ e => look_app x e⟩
theorem Grow.gen {p : Nat} {h h' : Hp} (g : Gen p h) (x : Grow h h') : Gen p h' := by
  obtain ⟨a, c, l, ns, e1, e2, e3⟩ := g.ex
  exact ⟨a, c, l, ns, x.keep _ _ e1, x.keep _ _ e2, e3⟩
theorem Grow.ext {h h' : Hp} (g : Grow h h') (p : Nat) : Ext p h h' := ⟨g.len, fun q o e _ => g.keep q o e⟩

mutual
def W.pure : W → Bool
  | .tup xs => pures xs
  | .ref _ => false
  | .lst _ => false
  | _ => true
def pures : List W → Bool
  | [] => true
  | x :: xs => x.pure && pures xs
end
mutual
theorem rd_pure (h : Hp) : ∀ (w : W) (n : Nat), w.pure = true → w.deep ≤ n → rd h n w = some w
  | .non, n, _, _ => by simp
  | .bl _, n, _, _ => by simp
  | .int _, n, _, _ => by simp
  | .str _, n, _, _ => by simp
  | .ref _, n, p, _ => by simp [W.pure] at p
  | .lst _, n, p, _ => by simp [W.pure] at p
  | .tup xs, 0, _, d => by simp [W.deep] at d
  | .tup xs, n + 1, p, d => by
    simp only [W.pure] at p
    simp only [W.deep] at d
    simp [rds_pure h xs n p (by omega)]
theorem rds_pure (h : Hp) : ∀ (xs : List W) (n : Nat), pures xs = true → deeps xs ≤ n → rds h n xs = some xs
  | [], n, _, _ => by simp
  | x :: xs, n, p, d => by
    simp only [pures, Bool.and_eq_true] at p
    simp only [deeps] at d
    simp [rd_pure h x n p.1 (by omega), rds_pure h xs n p.2 (by omega)]
end
mutual
theorem eqW_refl : ∀ (w : W), w.pure = true → eqW w w = true
  | .non, _ => by simp
  | .bl _, _ => by simp
  | .int _, _ => by simp
  | .str _, _ => by simp
  | .ref _, p => by simp [W.pure] at p
  | .lst _, p => by simp [W.pure] at p
  | .tup xs, p => by
    simp only [W.pure] at p
    simp [eqWs_refl xs p]
theorem eqWs_refl : ∀ (xs : List W), pures xs = true → eqWs xs xs = true
  | [], _ => by simp
  | x :: xs, p => by
    simp only [pures, Bool.and_eq_true] at p
    simp [eqW_refl x p.1, eqWs_refl xs p.2]
end
theorem toW_pure : ∀ k : Kd, k.toW.pure = true
  | .num => rfl
  | .tru => rfl
  | .any _ => rfl
  | .gap _ => rfl
  | .row k => by simp [Kd.toW, W.pure, pures, toW_pure k]
  | .pair a b => by simp [Kd.toW, W.pure, pures, toW_pure a, toW_pure b]
  | .work a b => by simp [Kd.toW, W.pure, pures, toW_pure a, toW_pure b]
theorem toW_deep : ∀ k : Kd, k.toW.deep ≤ k.depth + 1
  | .num => by simp [Kd.toW, W.deep, deeps]
  | .tru => by simp [Kd.toW, W.deep, deeps]
  | .any _ => by simp [Kd.toW, W.deep, deeps]
  | .gap _ => by simp [Kd.toW, W.deep, deeps]
  | .row k => by have := toW_deep k; simp [Kd.toW, W.deep, deeps, Kd.depth]; omega
  | .pair a b => by have := toW_deep a; have := toW_deep b; simp [Kd.toW, W.deep, deeps, Kd.depth]; omega
  | .work a b => by have := toW_deep a; have := toW_deep b; simp [Kd.toW, W.deep, deeps, Kd.depth]; omega
theorem eqV_nil {h : Hp} {a : Nat} {ws : List W} (e : h[a]? = some (.lst ws)) (p : pures ws = true) (d : deeps ws ≤ 59) :
    eqV (h ++ [O.lst []]) (.ref a) (.ref h.length) = some ws.isEmpty := by
  have e2 := look_app [O.lst []] e
  simp only [eqV, isDic, e2, look_new, rd, rds_pure _ ws 59 p d]
  cases ws <;> simp
theorem keyEq_str (x y : S) : keyEq (.str x) (.str y) = decide (x = y) := by
  simp [keyEq, Bool.beq_eq_decide_eq]
theorem turnsA_inv {a : Nat} {t : Tg} {k : Env → Hp → R Fl} {xs : List W} (P : Nat → Env → Hp → Prop) (hl : ∀ i σ h, P i σ h → lstAt h a = some xs)
    (step : ∀ i σ h x, P i σ h → xs[i]? = some x → ∃ σ1, setT t x σ = some σ1 ∧ ∃ σ' h', k σ1 h = .ok (.next σ') h' ∧ P (i + 1) σ' h') :
    ∀ n i σ h, i + n = xs.length → P i σ h → ∃ σ' h', turnsA a t k n i σ h = .ok (.next σ') h' ∧ P xs.length σ' h' := by
  intro n
  induction n with
  | zero =>
    intro i σ h e p
    refine ⟨σ, h, ?_, by have : i = xs.length := by omega
                         subst this; exact p⟩
    unfold turnsA
    have : xs[i]? = none := List.getElem?_eq_none (by omega)
    simp only [hl i σ h p, this]
  | succ n ih =>
    intro i σ h e p
    have hx : xs[i]? = some xs[i] := List.getElem?_eq_getElem (by omega)
    obtain ⟨σ1, e1, σ2, h2, e2, p2⟩ := step i σ h _ p hx
    obtain ⟨σ3, h3, e3, p3⟩ := ih (i + 1) σ2 h2 (by omega) p2
    refine ⟨σ3, h3, ?_, p3⟩
    unfold turnsA
    simp only [hl i σ h p, hx, turn, e1, e2, R.bind_ok, e3]
end Tw

set_option maxHeartbeats 1000000
set_option linter.all false
namespace Tw
def partsFn : Fn := ⟨1, 1, [
  .iff (.cmp .isin (.idx (.var 0) (.cst (.int 0))) (.tup (.cons (.cst (.str [114, 111, 119])) (.cons (.cst (.str [112, 97, 105, 114])) (.cons (.cst (.str [119, 111, 114, 107])) .nil))))) [.ret (.sl (.var 0) (.some (.cst (.int 1))) .none)] [],
  .ret (.tup .nil)]⟩
def kparts : Kd → List Kd
  | .row k => [k]
  | .pair a b => [a, b]
  | .work a b => [a, b]
  | _ => []
theorem parts_ev (C : Or) (kd : Kd) (h : Hp) : evFn C partsFn [kd.toW] h = .ok (.tup ((kparts kd).map Kd.toW)) h := by
  unfold evFn partsFn
  have t := fun x => isIn_tup x [sRow, sPair, sWork] h
  simp only [List.map_cons, List.map_nil] at t
  cases kd <;> simp [Kd.toW, t, kparts, cut, sIx]
def Kd.fill (F : S → Option Kd) : Kd → Kd
  | .row k => .row (k.fill F)
  | .pair a b => .pair (a.fill F) (b.fill F)
  | .work a b => .work (a.fill F) (b.fill F)
  | .any x => (F x).getD (.any x)
  | k => k
theorem tup_ne (h : Hp) (x : W) (xs : List W) (p : x.pure = true) (q : pures xs = true) (d : max x.deep (deeps xs) ≤ 50) : eqV h (.tup (x :: xs)) (.tup []) = some false := by
  have h1 := rd_pure h x 59 p (by omega)
  have h2 := rds_pure h xs 59 q (by omega)
  simp [eqV, isDic, h1, h2]
theorem tup_nil (h : Hp) : eqV h (.tup []) (.tup []) = some true := by simp [eqV, isDic]
def addN (l : List S) (x : S) : List S := if x ∈ l then l else l ++ [x]
def Kd.put : Kd → List S → List S
  | .row k, l => k.put l
  | .pair a b, l => b.put (a.put l)
  | .work a b, l => b.put (a.put l)
  | .any x, l => addN l x
  | _, l => l
def nmD (l : List S) : List (W × W) := l.map fun x => (.str x, .bl true)
theorem put_nm (x : S) : ∀ l : List S, dput (.str x) (.bl true) (nmD l) = nmD (addN l x)
  | [] => by simp [nmD, addN]
  | y :: r => by
    have ih := put_nm x r
    simp only [nmD, List.map_cons, dput, keyEq_str] at ih ⊢
    by_cases e : y = x
    · subst e; simp [addN]
    · rw [if_neg (by simp [e]), ih]
      unfold addN
      by_cases m : x ∈ r
      · simp [m]
      · have : x ≠ y := fun z => e z.symm
        simp [m, this]
theorem addN_len (l : List S) (x : S) : (addN l x).length ≤ l.length + 1 := by
  unfold addN; split <;> simp
theorem put_len : ∀ (kd : Kd) (l : List S), (kd.put l).length ≤ l.length + 2 ^ kd.depth := by
  intro kd
  induction kd with
  | any x => intro l; have := addN_len l x; simpa [Kd.put, Kd.depth] using this
  | row a ih => intro l; have := ih l; simp only [Kd.put, Kd.depth, Nat.pow_succ]; omega
  | pair a b iha ihb =>
    intro l
    have h1 := iha l; have h2 := ihb (a.put l)
    have c1 : 2 ^ a.depth ≤ 2 ^ (max a.depth b.depth) := Nat.pow_le_pow_right (by decide) (by omega)
    have c2 : 2 ^ b.depth ≤ 2 ^ (max a.depth b.depth) := Nat.pow_le_pow_right (by decide) (by omega)
    simp only [Kd.put, Kd.depth, Nat.pow_succ]; omega
  | work a b iha ihb =>
    intro l
    have h1 := iha l; have h2 := ihb (a.put l)
    have c1 : 2 ^ a.depth ≤ 2 ^ (max a.depth b.depth) := Nat.pow_le_pow_right (by decide) (by omega)
    have c2 : 2 ^ b.depth ≤ 2 ^ (max a.depth b.depth) := Nat.pow_le_pow_right (by decide) (by omega)
    simp only [Kd.put, Kd.depth, Nat.pow_succ]; omega
  | _ => intro l; simp [Kd.put]
def putLoop (self : Nat) : List St := [.expr (.call self (.cons (.var 2) (.cons (.var 1) .nil)))]
def putFn (pt self : Nat) : Fn := ⟨2, 3, [
  .iff (.cmp .eq (.idx (.var 0) (.cst (.int 0))) (.cst (.str [97, 110, 121]))) [.put (.var 1) (.idx (.var 0) (.cst (.int 1))) (.cst (.bl true))] [],
  .for (.var 2) (.seq (.call pt (.cons (.var 0) .nil))) (putLoop self)]⟩
theorem set_self {h : Hp} {q : Nat} {o : O} (e : h[q]? = some o) : h.set q o = h := by
  apply List.ext_getElem?
  intro i
  by_cases z : q = i
  · subst z; rw [List.getElem?_set_self (look_lt e), e]
  · rw [List.getElem?_set_ne z]
theorem put_ok {T : List Fn} {pt self q : Nat} (hp : T[pt]? = some partsFn) (hs : T[self]? = some (putFn pt self)) :
    ∀ (kd : Kd) (k : Nat) (h : Hp) (l : List S), kd.depth + 2 ≤ k → l.length + 2 ^ kd.depth ≤ SZ → h[q]? = some (.dic (nmD l)) → run T k self [kd.toW, .ref q] h = .ok .non (h.set q (.dic (nmD (kd.put l)))) := by
  intro kd
  induction kd with
  | num =>
    intro k h l hk hl e; obtain ⟨k, rfl⟩ : ∃ j, k = j + 2 := ⟨k - 2, by omega⟩
    have p := parts_ev (run T k) .num h
    rw [← run_eq hp] at p
    rw [run_eq hs]; unfold evFn putFn
    simp only [Kd.toW, kparts, List.map_nil] at p
    simp [Kd.toW, p, evS_for, Kd.put, set_self e]
  | tru =>
    intro k h l hk hl e; obtain ⟨k, rfl⟩ : ∃ j, k = j + 2 := ⟨k - 2, by omega⟩
    have p := parts_ev (run T k) .tru h
    rw [← run_eq hp] at p
    rw [run_eq hs]; unfold evFn putFn
    simp only [Kd.toW, kparts, List.map_nil] at p
    simp [Kd.toW, p, evS_for, Kd.put, set_self e]
  | gap n =>
    intro k h l hk hl e; obtain ⟨k, rfl⟩ : ∃ j, k = j + 2 := ⟨k - 2, by omega⟩
    have p := parts_ev (run T k) (.gap n) h
    rw [← run_eq hp] at p
    rw [run_eq hs]; unfold evFn putFn
    simp only [Kd.toW, kparts, List.map_nil] at p
    simp [Kd.toW, p, evS_for, Kd.put, set_self e]
  | any x =>
    intro k h l hk hl e; obtain ⟨k, rfl⟩ : ∃ j, k = j + 2 := ⟨k - 2, by omega⟩
    have p := parts_ev (run T k) (.any x) (h.set q (.dic (nmD (addN l x))))
    rw [← run_eq hp] at p
    rw [run_eq hs]; unfold evFn putFn
    simp only [Kd.toW, kparts, List.map_nil] at p
    have hl' : (nmD l).length < SZ := by simp [nmD, Kd.depth] at hl ⊢; omega
    simp [Kd.toW, p, evS_for, Kd.put, e, put_nm, hl']
  | row a iha =>
    intro k h l hk hl e
    simp only [Kd.depth, Nat.pow_succ] at hk hl
    obtain ⟨k, rfl⟩ : ∃ j, k = j + 2 := ⟨k - 2, by omega⟩
    have p := parts_ev (run T k) (.row a) h
    rw [← run_eq hp] at p
    have h1 := iha (k + 1) h l (by omega) (by omega) e
    rw [run_eq hs]; unfold evFn putFn
    simp only [Kd.toW, kparts, List.map_nil, List.map_cons] at p
    simp [Kd.toW, p, evS_for, putLoop, h1, Kd.put]
  | pair a b iha ihb =>
    intro k h l hk hl e
    have c1 : 2 ^ a.depth ≤ 2 ^ (max a.depth b.depth) := Nat.pow_le_pow_right (by decide) (by omega)
    have c2 : 2 ^ b.depth ≤ 2 ^ (max a.depth b.depth) := Nat.pow_le_pow_right (by decide) (by omega)
    simp only [Kd.depth, Nat.pow_succ] at hk hl
    obtain ⟨k, rfl⟩ : ∃ j, k = j + 2 := ⟨k - 2, by omega⟩
    have p := parts_ev (run T k) (.pair a b) h
    rw [← run_eq hp] at p
    have h1 := iha (k + 1) h l (by omega) (by omega) e
    have pl := put_len a l
    have h2 := ihb (k + 1) (h.set q (.dic (nmD (a.put l)))) (a.put l) (by omega) (by omega) (look_set_same e)
    rw [run_eq hs]; unfold evFn putFn
    simp only [Kd.toW, kparts, List.map_nil, List.map_cons] at p
    simp [Kd.toW, p, evS_for, putLoop, h1, h2, Kd.put]
  | work a b iha ihb =>
    intro k h l hk hl e
    have c1 : 2 ^ a.depth ≤ 2 ^ (max a.depth b.depth) := Nat.pow_le_pow_right (by decide) (by omega)
    have c2 : 2 ^ b.depth ≤ 2 ^ (max a.depth b.depth) := Nat.pow_le_pow_right (by decide) (by omega)
    simp only [Kd.depth, Nat.pow_succ] at hk hl
    obtain ⟨k, rfl⟩ : ∃ j, k = j + 2 := ⟨k - 2, by omega⟩
    have p := parts_ev (run T k) (.work a b) h
    rw [← run_eq hp] at p
    have h1 := iha (k + 1) h l (by omega) (by omega) e
    have pl := put_len a l
    have h2 := ihb (k + 1) (h.set q (.dic (nmD (a.put l)))) (a.put l) (by omega) (by omega) (look_set_same e)
    rw [run_eq hs]; unfold evFn putFn
    simp only [Kd.toW, kparts, List.map_nil, List.map_cons] at p
    simp [Kd.toW, p, evS_for, putLoop, h1, h2, Kd.put]
end Tw

namespace K02
open Tw
-- 0: 1 names
def f0 : Fn := ⟨1, 1, [
  .iff (.cmp .isin (.idx (.var 0) (.cst (.int 0))) (.tup (.cons (.cst (.str [114, 111, 119])) (.cons (.cst (.str [112, 97, 105, 114])) (.cons (.cst (.str [119, 111, 114, 107])) .nil))))) [.ret (.sl (.var 0) (.some (.cst (.int 1))) .none)] [],
  .ret (.tup .nil)]⟩
-- 1: 7 names
def f1l0 : List St := [.set 4 (.call 1 (.cons (.var 5) (.cons (.var 6) (.cons (.var 4) .nil)))), .iff (.cmp .isN (.var 4) (.cst .non)) [.ret (.cst .non)] []]
def f1 : Fn := ⟨3, 7, [
  .iff (.cmp .eq (.idx (.var 0) (.cst (.int 0))) (.cst (.str [103, 97, 112]))) [.ret (.call 2 (.cons (.idx (.var 0) (.cst (.int 1))) (.cons (.var 1) (.cons (.var 2) .nil))))] [],
  .set 3 (.call 0 (.cons (.var 0) .nil)),
  .iff (.cmp .eq (.var 3) (.tup .nil)) [.ret (.ite (.cmp .eq (.var 0) (.var 1)) (.blt .dict (.var 2)) (.cst .non))] [],
  .iff (.cmp .ne (.idx (.var 0) (.cst (.int 0))) (.idx (.var 1) (.cst (.int 0)))) [.ret (.cst .non)] [],
  .set 4 (.var 2),
  .for (.two 5 6) (.zip (.var 3) (.call 0 (.cons (.var 1) .nil))) f1l0,
  .ret (.var 4)]⟩
-- 2: 4 names
def f2 : Fn := ⟨3, 4, [
  .iff (.cmp .ne (.mth .get (.var 2) (.cons (.var 0) (.cons (.var 1) .nil))) (.var 1)) [.ret (.cst .non)] [],
  .set 3 (.blt .dict (.var 2)),
  .put (.var 3) (.var 0) (.var 1),
  .ret (.var 3)]⟩
-- 3: 3 names
def f3 : Fn := ⟨2, 3, [
  .set 2 (.ite (.cmp .ne (.idx (.var 0) (.cst (.int 1))) (.lst .nil)) (.idx (.idx (.var 0) (.cst (.int 1))) (.bin .mod (.idx (.var 0) (.cst (.int 2))) (.blt .len (.idx (.var 0) (.cst (.int 1)))))) (.cst (.int 0))),
  .put (.var 0) (.cst (.int 0)) (.bin .mod (.bin .add (.bin .add (.bin .mul (.idx (.var 0) (.cst (.int 0))) (.cst (.int 48271))) (.bin .mul (.var 2) (.cst (.int 69621)))) (.cst (.int 11))) (.cst (.int 2147483647))),
  .put (.var 0) (.cst (.int 2)) (.bin .add (.idx (.var 0) (.cst (.int 2))) (.cst (.int 1))),
  .ret (.bin .mod (.bin .fdiv (.idx (.var 0) (.cst (.int 0))) (.cst (.int 7))) (.var 1))]⟩
-- 4: 2 names
def f4c0 : E := (.idx (.var 1) (.call 3 (.cons (.var 0) (.cons (.cst (.int 26)) .nil))))
def f4 : Fn := ⟨1, 2, [
  .set 1 (.cst (.str [97, 98, 99, 100, 101, 102, 103, 104, 105, 106, 107, 108, 109, 110, 111, 112, 113, 114, 115, 116, 117, 118, 119, 120, 121, 122])),
  .ret (.mth .join (.cst (.str [])) (.cons (.comp f4c0 (.rng (.bin .add (.cst (.int 1)) (.call 3 (.cons (.var 0) (.cons (.cst (.int 8)) .nil))))) .none) .nil))]⟩
-- 5: 5 names
def f5 : Fn := ⟨3, 5, [
  .set 3 (.call 3 (.cons (.var 0) (.cons (.cst (.int 8)) .nil))),
  .iff (.and (.cmp .ne (.var 2) (.lst .nil)) (.cmp .eq (.var 3) (.cst (.int 7)))) [.ret (.tup (.cons (.cst (.str [97, 110, 121])) (.cons (.idx (.var 2) (.call 3 (.cons (.var 0) (.cons (.blt .len (.var 2)) .nil)))) .nil)))] [],
  .iff (.or (.cmp .eq (.var 1) (.cst (.int 0))) (.cmp .lt (.var 3) (.cst (.int 3)))) [.ret (.idx (.lst (.cons (.tup (.cons (.cst (.str [110, 117, 109, 98, 101, 114])) .nil)) (.cons (.tup (.cons (.cst (.str [116, 114, 117, 116, 104])) .nil)) .nil))) (.call 3 (.cons (.var 0) (.cons (.cst (.int 2)) .nil))))] [],
  .set 4 (.call 5 (.cons (.var 0) (.cons (.bin .sub (.var 1) (.cst (.int 1))) (.cons (.var 2) .nil)))),
  .iff (.cmp .lt (.var 3) (.cst (.int 5))) [.ret (.tup (.cons (.cst (.str [114, 111, 119])) (.cons (.var 4) .nil)))] [],
  .ret (.tup (.cons (.idx (.lst (.cons (.cst (.str [112, 97, 105, 114])) (.cons (.cst (.str [119, 111, 114, 107])) .nil))) (.bin .fdiv (.call 3 (.cons (.var 0) (.cons (.cst (.int 3)) .nil))) (.cst (.int 2)))) (.cons (.var 4) (.cons (.call 5 (.cons (.var 0) (.cons (.bin .sub (.var 1) (.cst (.int 1))) (.cons (.var 2) .nil)))) .nil))))]⟩
-- 6: 3 names
def f6c0 : E := (.bin .add (.tup (.cons (.var 2) .nil)) (.var 3))
def f6l0 : List St := [.set 1 (.bin .add (.var 1) (.comp f6c0 (.seq (.call 6 (.cons (.idx (.var 0) (.var 2)) .nil))) .none))]
def f6 : Fn := ⟨1, 3, [
  .set 1 (.lst (.cons (.tup .nil) .nil)),
  .iff (.cmp .notin (.idx (.var 0) (.cst (.int 0))) (.tup (.cons (.cst (.str [97, 110, 121])) (.cons (.cst (.str [103, 97, 112])) .nil)))) [.for (.var 2) (.rng2 (.cst (.int 1)) (.blt .len (.var 0))) f6l0] [],
  .ret (.var 1)]⟩
-- 7: 3 names
def f7l0 : List St := [.set 0 (.idx (.var 0) (.var 2))]
def f7 : Fn := ⟨2, 3, [
  .for (.var 2) (.seq (.var 1)) f7l0,
  .ret (.var 0)]⟩
-- 8: 3 names
def f8 : Fn := ⟨3, 3, [
  .iff (.cmp .eq (.var 1) (.tup .nil)) [.ret (.var 2)] [],
  .ret (.bin .add (.bin .add (.sl (.var 0) .none (.some (.idx (.var 1) (.cst (.int 0))))) (.tup (.cons (.call 8 (.cons (.idx (.var 0) (.idx (.var 1) (.cst (.int 0)))) (.cons (.sl (.var 1) (.some (.cst (.int 1))) .none) (.cons (.var 2) .nil)))) .nil))) (.sl (.var 0) (.some (.bin .add (.idx (.var 1) (.cst (.int 0))) (.cst (.int 1)))) .none))]⟩
-- 9: 4 names
def f9c0 : E := (.var 4)
def f9t0 : E := (.call 10 (.cons (.call 7 (.cons (.var 1) (.cons (.var 4) .nil))) .nil))
def f9l0 : List St := [.set 3 (.comp f9c0 (.seq (.call 6 (.cons (.var 1) .nil))) (.some f9t0)), .iff (.cmp .ne (.var 3) (.lst .nil)) [.set 1 (.call 8 (.cons (.var 1) (.cons (.idx (.var 3) (.call 3 (.cons (.var 0) (.cons (.blt .len (.var 3)) .nil)))) (.cons (.tup (.cons (.cst (.str [103, 97, 112])) (.cons (.call 3 (.cons (.var 0) (.cons (.cst (.int 3)) .nil))) .nil))) .nil))))] []]
def f9 : Fn := ⟨2, 4, [
  .for (.var 2) (.rng (.call 3 (.cons (.var 0) (.cons (.cst (.int 4)) .nil)))) f9l0,
  .ret (.var 1)]⟩
-- 10: 1 names
def f10c0 : E := (.var 1)
def f10t0 : E := (.not (.call 10 (.cons (.var 1) .nil)))
def f10 : Fn := ⟨1, 1, [
  .iff (.cmp .eq (.idx (.var 0) (.cst (.int 0))) (.cst (.str [103, 97, 112]))) [.ret (.cst (.bl false))] [],
  .ret (.or (.cmp .eq (.idx (.var 0) (.cst (.int 0))) (.cst (.str [97, 110, 121]))) (.cmp .eq (.comp f10c0 (.seq (.sl (.var 0) (.some (.cst (.int 1))) .none)) (.some f10t0)) (.lst .nil)))]⟩
-- 11: 4 names
def f11l0 : List St := [.iff (.cmp .notN (.var 2) (.cst .non)) [.set 2 (.call 11 (.cons (.idx (.var 0) (.var 3)) (.cons (.idx (.var 1) (.var 3)) (.cons (.var 2) .nil))))] []]
def f11 : Fn := ⟨3, 4, [
  .iff (.cmp .eq (.idx (.var 0) (.cst (.int 0))) (.cst (.str [103, 97, 112]))) [.ret (.bin .add (.var 2) (.lst (.cons (.tup (.cons (.idx (.var 0) (.cst (.int 1))) (.cons (.var 1) .nil))) .nil)))] [],
  .iff (.or (.cmp .ne (.idx (.var 0) (.cst (.int 0))) (.idx (.var 1) (.cst (.int 0)))) (.or (.cmp .ne (.blt .len (.var 0)) (.blt .len (.var 1))) (.and (.cmp .eq (.idx (.var 1) (.cst (.int 0))) (.cst (.str [97, 110, 121]))) (.cmp .ne (.var 0) (.var 1))))) [.ret (.cst .non)] [],
  .iff (.cmp .eq (.idx (.var 1) (.cst (.int 0))) (.cst (.str [97, 110, 121]))) [.ret (.var 2)] [],
  .for (.var 3) (.rng2 (.cst (.int 1)) (.blt .len (.var 1))) f11l0,
  .ret (.var 2)]⟩
-- 12: 17 names
def f12l0 : List St := [.put (.var 9) (.var 10) (.call 5 (.cons (.var 1) (.cons (.cst (.int 1)) (.cons (.var 3) .nil))))]
def f12l1 : List St := [.put (.var 9) (.idx (.var 12) (.cst (.int 0))) (.idx (.var 12) (.cst (.int 1)))]
def f12l2 : List St := [.iff (.and (.cmp .notN (.var 13) (.cst .non)) (.cmp .eq (.mth .get (.var 13) (.cons (.var 10) (.cons (.var 14) .nil))) (.var 14))) [.put (.var 13) (.var 10) (.var 14)] [.set 13 (.cst .non)]]
def f12l3 : List St := [.set 9 (.dic .nil), .for (.var 10) (.rng (.call 3 (.cons (.var 1) (.cons (.cst (.int 3)) .nil)))) f12l0, .set 11 (.call 11 (.cons (.var 5) (.cons (.var 8) (.cons (.lst .nil) .nil)))), .iff (.and (.cmp .notN (.var 11) (.cst .non)) (.cmp .eq (.call 3 (.cons (.var 1) (.cons (.cst (.int 2)) .nil))) (.cst (.int 0)))) [.set 9 (.dic .nil), .for (.var 12) (.seq (.sl (.var 11) .none (.some (.cst (.int 1))))) f12l1] [], .set 13 (.cst .non), .iff (.cmp .notN (.var 11) (.cst .non)) [.set 13 (.blt .dict (.var 9)), .for (.two 10 14) (.seq (.var 11)) f12l2] [], .set 15 (.blt .dict (.var 9)), .set 16 (.call 1 (.cons (.var 5) (.cons (.var 8) (.cons (.var 15) .nil)))), .iff (.or (.cmp .ne (.var 15) (.var 9)) (.and (.cmp .isN (.var 13) (.cst .non)) (.cmp .notN (.var 16) (.cst .non)))) [.ret (.cst (.bl false))] [], .iff (.and (.cmp .notN (.var 13) (.cst .non)) (.or (.not (.isa (.var 16) .dict)) (.cmp .ne (.var 16) (.var 13)))) [.ret (.cst (.bl false))] []]
def f12 : Fn := ⟨1, 17, [
  .set 1 (.lst (.cons (.cst (.int 11)) (.cons (.blt .list (.var 0)) (.cons (.cst (.int 0)) .nil)))),
  .set 2 (.sl (.call 4 (.cons (.var 1) .nil)) .none (.some (.cst (.int 7)))),
  .set 3 (.lst (.cons (.bin .add (.var 2) (.cst (.str [97]))) (.cons (.bin .add (.var 2) (.cst (.str [98]))) .nil))),
  .set 4 (.call 5 (.cons (.var 1) (.cons (.cst (.int 3)) (.cons (.var 3) .nil)))),
  .set 5 (.call 9 (.cons (.var 1) (.cons (.var 4) .nil))),
  .set 6 (.call 6 (.cons (.var 4) .nil)),
  .set 7 (.call 8 (.cons (.var 4) (.cons (.idx (.var 6) (.call 3 (.cons (.var 1) (.cons (.blt .len (.var 6)) .nil)))) (.cons (.call 5 (.cons (.var 1) (.cons (.cst (.int 1)) (.cons (.var 3) .nil)))) .nil)))),
  .for (.var 8) (.seq (.lst (.cons (.var 4) (.cons (.var 7) (.cons (.call 5 (.cons (.var 1) (.cons (.cst (.int 2)) (.cons (.var 3) .nil)))) .nil))))) f12l3,
  .ret (.cmp .eq (.call 1 (.cons (.tup (.cons (.cst (.str [110, 117, 109, 98, 101, 114])) .nil)) (.cons (.tup (.cons (.cst (.str [110, 117, 109, 98, 101, 114])) .nil)) (.cons (.dic .nil) .nil)))) (.dic .nil))]⟩
def T : List Fn := [f0, f1, f2, f3, f4, f5, f6, f7, f8, f9, f10, f11, f12]
end K02

set_option maxHeartbeats 2000000
set_option linter.all false
namespace Tw
theorem lstAt_of' {h : Hp} {a : Nat} {xs : List W} (e : h[a]? = some (.lst xs)) : lstAt h a = some xs := by simp [lstAt, e]
/-- a comprehension's walk over a list that stays: each item by a pure part -/
theorem walkA_map {b : Nat} {xs : List W} {k : W → List W → Hp → R (List W)} {f : W → W} {h : Hp} (hb : lstAt h b = some xs) (hk : ∀ x ∈ xs, ∀ acc, k x acc h = .ok (acc ++ [f x]) h) :
    ∀ n i acc, i + n = xs.length → walkA b k n i acc h = .ok (acc ++ (xs.drop i).map f) h := by
  intro n
  induction n with
  | zero =>
    intro i acc e
    unfold walkA
    have : xs[i]? = none := List.getElem?_eq_none (by omega)
    have d : xs.drop i = [] := List.drop_eq_nil_of_le (by omega)
    simp [hb, this, d]
  | succ n ih =>
    intro i acc e
    have hi : i < xs.length := by omega
    have hx : xs[i]? = some xs[i] := List.getElem?_eq_getElem hi
    have d : xs.drop i = xs[i] :: xs.drop (i + 1) := List.drop_eq_getElem_cons hi
    unfold walkA
    simp only [hb, hx, hk _ (List.getElem_mem hi), R.bind_ok]
    rw [ih (i + 1) _ (by omega), d]
    simp only [List.map_cons, List.append_assoc, List.cons_append, List.nil_append]
/-- some items are kept, the heap grows -/
theorem walkA_sub {b : Nat} {xs : List W} {k : W → List W → Hp → R (List W)} (P : Hp → Prop) (hP : ∀ h, P h → lstAt h b = some xs) (hk : ∀ x ∈ xs, ∀ acc h, P h → ∃ (h' : Hp) (q : Bool), k x acc h = .ok (if q then acc ++ [x] else acc) h' ∧ Grow h h' ∧ P h') :
    ∀ n i acc h, i + n = xs.length → P h → ∃ ys h', walkA b k n i acc h = .ok (acc ++ ys) h' ∧ ys.Sublist (xs.drop i) ∧ Grow h h' ∧ P h' := by
  intro n
  induction n with
  | zero =>
    intro i acc h e p
    refine ⟨[], h, ?_, List.nil_sublist _, Grow.refl _, p⟩
    unfold walkA
    have : xs[i]? = none := List.getElem?_eq_none (by omega)
    simp [hP h p, this]
  | succ n ih =>
    intro i acc h e p
    have hi : i < xs.length := by omega
    have hx : xs[i]? = some xs[i] := List.getElem?_eq_getElem hi
    have d : xs.drop i = xs[i] :: xs.drop (i + 1) := List.drop_eq_getElem_cons hi
    obtain ⟨h1, q, e1, g1, p1⟩ := hk _ (List.getElem_mem hi) acc h p
    obtain ⟨ys, h2, e2, s2, g2, p2⟩ := ih (i + 1) (if q then acc ++ [xs[i]] else acc) h1 (by omega) p1
    cases q with
    | true =>
      refine ⟨xs[i] :: ys, h2, ?_, by rw [d]; exact s2.cons₂ _, g1.trans g2, p2⟩
      rw [if_pos rfl] at e1 e2
      unfold walkA
      simp only [hP h p, hx, e1, R.bind_ok, e2]
      simp
    | false =>
      refine ⟨ys, h2, ?_, by rw [d]; exact s2.cons _, g1.trans g2, p2⟩
      rw [if_neg (by decide)] at e1 e2
      unfold walkA
      simp only [hP h p, hx, e1, R.bind_ok, e2]
def Kd.places : Kd → List (List Nat)
  | .row a => [] :: (a.places.map fun p => 1 :: p)
  | .pair a b => [] :: ((a.places.map fun p => 1 :: p) ++ (b.places.map fun p => 2 :: p))
  | .work a b => [] :: ((a.places.map fun p => 1 :: p) ++ (b.places.map fun p => 2 :: p))
  | _ => [[]]
def Kd.at : Kd → List Nat → Kd
  | k, [] => k
  | .row a, 1 :: p => a.at p
  | .pair a _, 1 :: p => a.at p
  | .pair _ b, 2 :: p => b.at p
  | .work a _, 1 :: p => a.at p
  | .work _ b, 2 :: p => b.at p
  | k, _ => k
def Kd.putAt : Kd → List Nat → Kd → Kd
  | _, [], n => n
  | .row a, 1 :: p, n => .row (a.putAt p n)
  | .pair a b, 1 :: p, n => .pair (a.putAt p n) b
  | .pair a b, 2 :: p, n => .pair a (b.putAt p n)
  | .work a b, 1 :: p, n => .work (a.putAt p n) b
  | .work a b, 2 :: p, n => .work a (b.putAt p n)
  | k, _, _ => k
def plW (p : List Nat) : W := .tup (p.map fun (n : Nat) => W.int (n : Int))
theorem places_len : ∀ k : Kd, k.places.length ≤ 2 ^ (k.depth + 1) - 1 := by
  intro k
  induction k with
  | row a ih => simp only [Kd.places, Kd.depth, List.length_cons, List.length_map, Nat.pow_succ] at ih ⊢; have : 0 < 2 ^ a.depth := Nat.two_pow_pos _; omega
  | pair a b iha ihb =>
    have c1 : 2 ^ a.depth ≤ 2 ^ (max a.depth b.depth) := Nat.pow_le_pow_right (by decide) (by omega)
    have c2 : 2 ^ b.depth ≤ 2 ^ (max a.depth b.depth) := Nat.pow_le_pow_right (by decide) (by omega)
    have : 0 < 2 ^ a.depth := Nat.two_pow_pos _
    have : 0 < 2 ^ b.depth := Nat.two_pow_pos _
    simp only [Kd.places, Kd.depth, List.length_cons, List.length_append, List.length_map, Nat.pow_succ] at iha ihb ⊢; omega
  | work a b iha ihb =>
    have c1 : 2 ^ a.depth ≤ 2 ^ (max a.depth b.depth) := Nat.pow_le_pow_right (by decide) (by omega)
    have c2 : 2 ^ b.depth ≤ 2 ^ (max a.depth b.depth) := Nat.pow_le_pow_right (by decide) (by omega)
    have : 0 < 2 ^ a.depth := Nat.two_pow_pos _
    have : 0 < 2 ^ b.depth := Nat.two_pow_pos _
    simp only [Kd.places, Kd.depth, List.length_cons, List.length_append, List.length_map, Nat.pow_succ] at iha ihb ⊢; omega
  | _ => simp [Kd.places, Kd.depth]
theorem putAt_depth (n : Kd) : ∀ (k : Kd) (p : List Nat), p ∈ k.places → (k.putAt p n).depth ≤ k.depth + n.depth := by
  intro k
  induction k with
  | row a ih =>
    intro p hp
    simp only [Kd.places, List.mem_cons, List.mem_map] at hp
    rcases hp with rfl | ⟨r, hr, rfl⟩
    · simp [Kd.putAt]
    · have := ih r hr; simp only [Kd.putAt, Kd.depth]; omega
  | pair a b iha ihb =>
    intro p hp
    simp only [Kd.places, List.mem_cons, List.mem_append, List.mem_map] at hp
    rcases hp with rfl | ⟨r, hr, rfl⟩ | ⟨r, hr, rfl⟩
    · simp [Kd.putAt]
    · have := iha r hr; simp only [Kd.putAt, Kd.depth]; omega
    · have := ihb r hr; simp only [Kd.putAt, Kd.depth]; omega
  | work a b iha ihb =>
    intro p hp
    simp only [Kd.places, List.mem_cons, List.mem_append, List.mem_map] at hp
    rcases hp with rfl | ⟨r, hr, rfl⟩ | ⟨r, hr, rfl⟩
    · simp [Kd.putAt]
    · have := iha r hr; simp only [Kd.putAt, Kd.depth]; omega
    · have := ihb r hr; simp only [Kd.putAt, Kd.depth]; omega
  | _ => intro p hp; simp [Kd.places] at hp; subst hp; simp [Kd.putAt]
end Tw
namespace K02
open Tw
/-- a turn of the places -/
theorem places_turn {C : Or} {h h1 : Hp} {a b : Nat} {l : List (List Nat)} {ps : List (List Nat)} {ws : List W} {part : W} {n : Nat} (hi : atI ws (n : Int) = some part) (r : C 6 [part] h = .ok (.ref b) h1) (g : Grow h h1) (ea : h[a]? = some (.lst (l.map plW))) (eb : h1[b]? = some (.lst (ps.map plW)))
    (hl : l.length + ps.length ≤ 1000) (hp : ∀ p ∈ ps, p.length ≤ 100) :
    ∃ c h2, evSs C f6l0 [some (.tup ws), some (.ref a), some (.int n)] h = .ok (.next [some (.tup ws), some (.ref c), some (.int n)]) h2 ∧ Grow h h2 ∧ h2[c]? = some (.lst ((l ++ ps.map fun p => n :: p).map plW)) := by
  have ea1 := g.keep _ _ ea
  have wk := walkA_map (b := b) (xs := ps.map plW) (k := compK (evEo C .none) (evE C f6c0) [some (.tup ws), some (.ref a), some (.int n)]) (f := fun w => match w with | .tup xs => .tup (.int n :: xs) | w => w) (h := h1) (lstAt_of' eb) (fun y hy acc => by
    obtain ⟨p, hp', rfl⟩ := List.mem_map.mp hy
    have := hp p hp'
    have z : 1 + p.length ≤ SZ := by simp only [SZ]; omega
    simp [compK, f6c0, plW, z]) ps.length 0 [] (by simp)
  have em : ((ps.map plW).map fun w => match w with | .tup xs => W.tup (.int n :: xs) | w => w) = (ps.map fun p => n :: p).map plW := by
    rw [List.map_map, List.map_map]
    apply List.map_congr_left
    intro p _
    simp [plW]
  simp only [List.drop_zero, List.nil_append] at wk
  rw [em] at wk
  have z1 : ps.length ≤ SZ := by simp only [SZ]; omega
  have z2 : l.length + ps.length ≤ SZ := by simp only [SZ]; omega
  have ea2 := look_app [O.lst ((ps.map fun p => n :: p).map plW)] ea1
  refine ⟨h1.length + 1, (h1 ++ [.lst ((ps.map fun p => n :: p).map plW)]) ++ [.lst ((l ++ ps.map fun p => n :: p).map plW)], ?_, (g.trans (Grow.app _ _)).trans (Grow.app _ _), by simp⟩
  unfold f6l0
  simp only [List.map_map] at wk ea2
  simp [evE_comp, hi, r, eb, wk, newL, z1, z2, ea2]
theorem places_plen : ∀ k : Kd, ∀ p ∈ k.places, p.length ≤ k.depth := by
  intro k
  induction k with
  | row a ih => intro p hp; simp only [Kd.places, List.mem_cons, List.mem_map] at hp; rcases hp with rfl | ⟨r, hr, rfl⟩ <;> simp [Kd.depth]; exact ih r hr
  | pair a b iha ihb =>
    intro p hp; simp only [Kd.places, List.mem_cons, List.mem_append, List.mem_map] at hp
    rcases hp with rfl | ⟨r, hr, rfl⟩ | ⟨r, hr, rfl⟩
    · simp
    · have := iha r hr; simp [Kd.depth]; omega
    · have := ihb r hr; simp [Kd.depth]; omega
  | work a b iha ihb =>
    intro p hp; simp only [Kd.places, List.mem_cons, List.mem_append, List.mem_map] at hp
    rcases hp with rfl | ⟨r, hr, rfl⟩ | ⟨r, hr, rfl⟩
    · simp
    · have := iha r hr; simp [Kd.depth]; omega
    · have := ihb r hr; simp [Kd.depth]; omega
  | _ => intro p hp; simp [Kd.places] at hp; subst hp; simp
theorem upTo12 : upTo 1 1 = [.int 1] := rfl
theorem upTo13 : upTo 1 2 = [.int 1, .int 2] := rfl
theorem upTo10 : upTo 1 0 = [] := rfl
theorem places_ok : ∀ (kd : Kd) (k : Nat) (h : Hp), kd.depth ≤ 6 → kd.depth + 1 ≤ k → ∃ a h', run T k 6 [kd.toW] h = .ok (.ref a) h' ∧ Grow h h' ∧ h'[a]? = some (.lst (kd.places.map plW)) := by
  have leaf : ∀ (kd : Kd) (k : Nat) (h : Hp), kd = .num ∨ kd = .tru ∨ (∃ x, kd = .any x) ∨ (∃ n, kd = .gap n) → 1 ≤ k → ∃ a h', run T k 6 [kd.toW] h = .ok (.ref a) h' ∧ Grow h h' ∧ h'[a]? = some (.lst (kd.places.map plW)) := by
    intro kd k h hk hk1
    obtain ⟨k, rfl⟩ : ∃ j, k = j + 1 := ⟨k - 1, by omega⟩
    rw [run_eq (fn := f6) rfl]; unfold evFn f6
    have t := fun x h => isIn_tup x [sAny, sGap] h
    simp only [List.map_cons, List.map_nil] at t
    rcases hk with rfl | rfl | ⟨x, rfl⟩ | ⟨n, rfl⟩ <;> refine ⟨h.length, h ++ [.lst [.tup []]], ?_, Grow.app _ _, by simp [Kd.places, plW]⟩ <;> simp [Kd.toW, t, evS_for, rngOk, upTo10]
  have two : ∀ (a b : Kd) (w : S) (k : Nat) (h : Hp), w = sPair ∨ w = sWork → max a.depth b.depth + 1 ≤ 6 →
      (∃ b1 h1, run T k 6 [a.toW] (h ++ [.lst [.tup []]]) = .ok (.ref b1) h1 ∧ Grow (h ++ [.lst [.tup []]]) h1 ∧ h1[b1]? = some (.lst (a.places.map plW))) →
      (∀ h, ∃ b1 h1, run T k 6 [b.toW] h = .ok (.ref b1) h1 ∧ Grow h h1 ∧ h1[b1]? = some (.lst (b.places.map plW))) →
      ∃ c h', run T (k + 1) 6 [.tup [.str w, a.toW, b.toW]] h = .ok (.ref c) h' ∧ Grow h h' ∧ h'[c]? = some (.lst (([] :: ((a.places.map fun p => 1 :: p) ++ (b.places.map fun p => 2 :: p))).map plW)) := by
    intro a b w k h hw hd ⟨b1, h1, r1, g1, e1⟩ ihb
    have la := places_len a
    have lb := places_len b
    have pa := places_plen a
    have pb := places_plen b
    have c1 : 2 ^ (a.depth + 1) ≤ 2 ^ 6 := Nat.pow_le_pow_right (by decide) (by omega)
    have c2 : 2 ^ (b.depth + 1) ≤ 2 ^ 6 := Nat.pow_le_pow_right (by decide) (by omega)
    obtain ⟨c, h2, t1, g2, e2⟩ := places_turn (ws := [.str w, a.toW, b.toW]) (n := 1) (a := h.length) (l := [[]]) (by simp) r1 g1 (by simp [plW]) e1 (by simp; omega) (fun p hp => by have := pa p hp; omega)
    obtain ⟨b3, h3, r3, g3, e3⟩ := ihb h2
    obtain ⟨c4, h4, t4, g4, e4⟩ := places_turn (ws := [.str w, a.toW, b.toW]) (n := 2) (by simp) r3 g3 e2 e3 (by simp; omega) (fun p hp => by have := pb p hp; omega)
    rw [run_eq (fn := f6) rfl]; unfold evFn f6
    refine ⟨c4, h4, ?_, ((Grow.app _ _).trans g2).trans g4, by simpa using e4⟩
    have t := fun x h => isIn_tup x [sAny, sGap] h
    simp only [List.map_cons, List.map_nil] at t
    have t1' : evSs (run T k) f6l0 [some (W.tup [.str w, a.toW, b.toW]), some (W.ref h.length), some (.int 1)] (h ++ [O.lst [.tup []]]) = .ok (.next [some (W.tup [.str w, a.toW, b.toW]), some (.ref c), some (.int 1)]) h2 := t1
    have t4' : evSs (run T k) f6l0 [some (W.tup [.str w, a.toW, b.toW]), some (W.ref c), some (.int 2)] h2 = .ok (.next [some (W.tup [.str w, a.toW, b.toW]), some (.ref c4), some (.int 2)]) h4 := t4
    rcases hw with rfl | rfl <;> simp [t, evS_for, rngOk, upTo13, t1', t4']
  intro kd
  induction kd with
  | num => intro k h _ hk; exact leaf _ k h (.inl rfl) (by omega)
  | tru => intro k h _ hk; exact leaf _ k h (.inr (.inl rfl)) (by omega)
  | any x => intro k h _ hk; exact leaf _ k h (.inr (.inr (.inl ⟨x, rfl⟩))) (by omega)
  | gap n => intro k h _ hk; exact leaf _ k h (.inr (.inr (.inr ⟨n, rfl⟩))) (by omega)
  | row a iha =>
    intro k h hd hk
    simp only [Kd.depth] at hd hk
    obtain ⟨k, rfl⟩ : ∃ j, k = j + 1 := ⟨k - 1, by omega⟩
    obtain ⟨b1, h1, r1, g1, e1⟩ := iha k (h ++ [.lst [.tup []]]) (by omega) (by omega)
    have la := places_len a
    have pa := places_plen a
    have c1 : 2 ^ (a.depth + 1) ≤ 2 ^ 6 := Nat.pow_le_pow_right (by decide) (by omega)
    obtain ⟨c, h2, t1, g2, e2⟩ := places_turn (ws := [.str sRow, a.toW]) (n := 1) (a := h.length) (l := [[]]) (by simp [Kd.toW]) r1 g1 (by simp [plW]) e1 (by simp; omega) (fun p hp => by have := pa p hp; omega)
    rw [run_eq (fn := f6) rfl]; unfold evFn f6
    refine ⟨c, h2, ?_, (Grow.app _ _).trans g2, by simpa [Kd.places] using e2⟩
    have t := fun x h => isIn_tup x [sAny, sGap] h
    simp only [List.map_cons, List.map_nil] at t
    have t1' : evSs (run T k) f6l0 [some (W.tup [.str sRow, a.toW]), some (W.ref h.length), some (.int 1)] (h ++ [O.lst [.tup []]]) = .ok (.next [some (W.tup [.str sRow, a.toW]), some (.ref c), some (.int 1)]) h2 := t1
    simp [Kd.toW, t, evS_for, rngOk, upTo12, t1']
  | pair a b iha ihb =>
    intro k h hd hk
    simp only [Kd.depth] at hd hk
    obtain ⟨k, rfl⟩ : ∃ j, k = j + 1 := ⟨k - 1, by omega⟩
    exact two a b sPair k h (.inl rfl) hd (iha k _ (by omega) (by omega)) fun h => ihb k h (by omega) (by omega)
  | work a b iha ihb =>
    intro k h hd hk
    simp only [Kd.depth] at hd hk
    obtain ⟨k, rfl⟩ : ∃ j, k = j + 1 := ⟨k - 1, by omega⟩
    exact two a b sWork k h (.inr rfl) hd (iha k _ (by omega) (by omega)) fun h => ihb k h (by omega) (by omega)
end K02

set_option maxHeartbeats 2000000
set_option linter.all false
namespace Tw
theorem pl_pure (p : List Nat) : (plW p).pure = true := by
  unfold plW
  simp only [W.pure]
  induction p with
  | nil => rfl
  | cons n r ih => simp only [List.map_cons, pures, ih, W.pure, Bool.and_self]
theorem pl_deep (p : List Nat) : (plW p).deep ≤ 1 := by
  unfold plW
  simp only [W.deep]
  have : deeps (p.map fun (n : Nat) => W.int (n : Int)) = 0 := by
    induction p with
    | nil => rfl
    | cons n r ih => simp only [List.map_cons, deeps, ih, W.deep]; rfl
  omega
theorem pls_pure : ∀ l : List (List Nat), pures (l.map plW) = true
  | [] => rfl
  | p :: r => by simp only [List.map_cons, pures, pl_pure, pls_pure r, Bool.and_self]
theorem pls_deep : ∀ l : List (List Nat), deeps (l.map plW) ≤ 1
  | [] => by simp [deeps]
  | p :: r => by have := pl_deep p; have := pls_deep r; simp only [List.map_cons, deeps]; omega
theorem eqV_pl (h : Hp) (p : List Nat) : eqV h (plW p) (.tup []) = some (decide (p = [])) := by
  have h1 := rd_pure h (plW p) 60 (pl_pure p) (by have := pl_deep p; omega)
  have h2 : rd h 60 (.tup []) = some (.tup []) := by simp
  have h3 : isDic h (plW p) = none := rfl
  simp only [eqV, h1, h2, h3, isDic]
  cases p <;> simp [plW]
/-- a place leads into the kind -/
theorem pl_cons {kd : Kd} {n : Nat} {r : List Nat} (h : n :: r ∈ kd.places) : (∃ a, kd = .row a ∧ n = 1 ∧ r ∈ a.places) ∨ (∃ a b, (kd = .pair a b ∨ kd = .work a b) ∧ ((n = 1 ∧ r ∈ a.places) ∨ (n = 2 ∧ r ∈ b.places))) := by
  cases kd with
  | row a =>
    simp only [Kd.places, List.mem_cons, List.mem_map] at h
    rcases h with h | ⟨p, hp, e⟩
    · cases h
    · cases e; exact .inl ⟨a, rfl, rfl, hp⟩
  | pair a b =>
    simp only [Kd.places, List.mem_cons, List.mem_append, List.mem_map] at h
    rcases h with h | ⟨p, hp, e⟩ | ⟨p, hp, e⟩
    · cases h
    · cases e; exact .inr ⟨a, b, .inl rfl, .inl ⟨rfl, hp⟩⟩
    · cases e; exact .inr ⟨a, b, .inl rfl, .inr ⟨rfl, hp⟩⟩
  | work a b =>
    simp only [Kd.places, List.mem_cons, List.mem_append, List.mem_map] at h
    rcases h with h | ⟨p, hp, e⟩ | ⟨p, hp, e⟩
    · cases h
    · cases e; exact .inr ⟨a, b, .inr rfl, .inl ⟨rfl, hp⟩⟩
    · cases e; exact .inr ⟨a, b, .inr rfl, .inr ⟨rfl, hp⟩⟩
  | _ => simp [Kd.places] at h
@[simp] theorem cast1 : ((1 : Nat) : Int) = 1 := rfl
@[simp] theorem cast2 : ((2 : Nat) : Int) = 2 := rfl
end Tw
namespace K02
open Tw
theorem part_loop {C : Or} {h : Hp} {w1 : W} : ∀ (p : List Nat) (kd : Kd) (o : Option W), p ∈ kd.places → ∃ o', turnsL (.var 2) (evSs C f7l0) (p.map fun (n : Nat) => W.int (n : Int)) [some kd.toW, some w1, o] h = .ok (.next [some (kd.at p).toW, some w1, o']) h := by
  intro p
  induction p with
  | nil => intro kd o _; exact ⟨o, by simp [Kd.at]⟩
  | cons n r ih =>
    intro kd o hp
    rcases pl_cons hp with ⟨a, rfl, rfl, hr⟩ | ⟨a, b, hk, hr⟩
    · obtain ⟨o', e⟩ := ih a (some (.int 1)) hr
      exact ⟨o', by simp [f7l0, Kd.toW, Kd.at]; simpa [f7l0] using e⟩
    · rcases hr with ⟨rfl, hr⟩ | ⟨rfl, hr⟩
      · obtain ⟨o', e⟩ := ih a (some (.int 1)) hr
        rcases hk with rfl | rfl <;> exact ⟨o', by simp [f7l0, Kd.toW, Kd.at]; simpa [f7l0] using e⟩
      · obtain ⟨o', e⟩ := ih b (some (.int 2)) hr
        rcases hk with rfl | rfl <;> exact ⟨o', by simp [f7l0, Kd.toW, Kd.at]; simpa [f7l0] using e⟩
theorem part_ok (k : Nat) (h : Hp) (kd : Kd) (p : List Nat) (hp : p ∈ kd.places) : run T (k + 1) 7 [kd.toW, plW p] h = .ok (kd.at p).toW h := by
  obtain ⟨o', e⟩ := part_loop (C := run T k) (h := h) (w1 := plW p) p kd none hp
  rw [run_eq (fn := f7) rfl]; unfold evFn f7
  simp only [plW] at e ⊢
  simp [evS_for, e]
theorem put_ok (n : Kd) (h : Hp) : ∀ (p : List Nat) (kd : Kd) (k : Nat), p ∈ kd.places → p.length + 1 ≤ k → run T k 8 [kd.toW, plW p, n.toW] h = .ok (kd.putAt p n).toW h := by
  intro p
  induction p with
  | nil =>
    intro kd k _ hk
    obtain ⟨k, rfl⟩ : ∃ j, k = j + 1 := ⟨k - 1, by omega⟩
    rw [run_eq (fn := f8) rfl]; unfold evFn f8
    have e := eqV_pl h []
    simp [e, Kd.putAt]
  | cons m r ih =>
    intro kd k hp hk
    simp only [List.length_cons] at hk
    obtain ⟨k, rfl⟩ : ∃ j, k = j + 1 := ⟨k - 1, by omega⟩
    have e := eqV_pl h (m :: r)
    have tk : List.take r.length (r.map fun (n : Nat) => W.int (n : Int)) = r.map fun (n : Nat) => W.int (n : Int) := by
      rw [show r.length = (r.map fun (n : Nat) => W.int (n : Int)).length by simp, List.take_length]
    rcases pl_cons hp with ⟨a, rfl, rfl, hr⟩ | ⟨a, b, hk', hr⟩
    · have i := ih a k hr (by omega)
      rw [run_eq (fn := f8) rfl]; unfold evFn f8
      simp only [plW, List.map_cons, cast1] at e i ⊢
      simp [e, Kd.toW, Kd.putAt, cut, sIx, tk, i, SZ]
    · rcases hr with ⟨rfl, hr⟩ | ⟨rfl, hr⟩
      · have i := ih a k hr (by omega)
        rcases hk' with rfl | rfl
        all_goals
          rw [run_eq (fn := f8) rfl]; unfold evFn f8
          simp only [plW, List.map_cons, cast1] at e i ⊢
          simp [e, Kd.toW, Kd.putAt, cut, sIx, tk, i, SZ]
      · have i := ih b k hr (by omega)
        rcases hk' with rfl | rfl
        all_goals
          rw [run_eq (fn := f8) rfl]; unfold evFn f8
          simp only [plW, List.map_cons, cast2] at e i ⊢
          simp [e, Kd.toW, Kd.putAt, cut, sIx, tk, i, SZ]
theorem whole_ok : ∀ (kd : Kd) (k : Nat) (h : Hp), kd.depth ≤ 50 → kd.depth + 1 ≤ k → ∃ b h', run T k 10 [kd.toW] h = .ok (.bl b) h' ∧ Grow h h' := by
  have cmpE : ∀ (h : Hp) (ws : List W), pures ws = true → deeps ws ≤ 59 → eqV (h ++ [O.lst ws] ++ [O.lst []]) (.ref h.length) (.ref (h.length + 1)) = some ws.isEmpty := fun h ws p d => by
    have := eqV_nil (h := h ++ [O.lst ws]) (a := h.length) (ws := ws) (look_new _ _) p d
    simpa using this
  have two : ∀ (a b : Kd) (w : S) (k : Nat) (h : Hp), w = sPair ∨ w = sWork → max a.depth b.depth ≤ 50 → (∃ q h', run T k 10 [a.toW] h = .ok (.bl q) h' ∧ Grow h h') → (∀ h, ∃ q h', run T k 10 [b.toW] h = .ok (.bl q) h' ∧ Grow h h') →
      ∃ q h', run T (k + 1) 10 [.tup [.str w, a.toW, b.toW]] h = .ok (.bl q) h' ∧ Grow h h' := by
    intro a b w k h hw hd ⟨q1, h1, e1, g1⟩ hb
    obtain ⟨q2, h2, e2, g2⟩ := hb h1
    have d1 := toW_deep a
    have d2 := toW_deep b
    have c := fun ws => cmpE h2 ws
    have c0 := c [] rfl (by simp [deeps])
    have c1 := c [a.toW] (by simp [pures, toW_pure]) (by simp [deeps]; omega)
    have c2 := c [b.toW] (by simp [pures, toW_pure]) (by simp [deeps]; omega)
    have c3 := c [a.toW, b.toW] (by simp [pures, toW_pure]) (by simp [deeps]; omega)
    simp only [List.append_assoc, List.cons_append, List.nil_append] at c0 c1 c2 c3
    rw [run_eq (fn := f10) rfl]; unfold evFn f10
    cases q1 <;> cases q2
    · exact ⟨false, h2 ++ [.lst [a.toW, b.toW], .lst []], by rcases hw with rfl | rfl <;> simp [evE_comp, cut, sIx, compK, f10c0, f10t0, e1, e2, newL, SZ, c3], (g1.trans g2).trans (Grow.app _ _)⟩
    · exact ⟨false, h2 ++ [.lst [a.toW], .lst []], by rcases hw with rfl | rfl <;> simp [evE_comp, cut, sIx, compK, f10c0, f10t0, e1, e2, newL, SZ, c1], (g1.trans g2).trans (Grow.app _ _)⟩
    · exact ⟨false, h2 ++ [.lst [b.toW], .lst []], by rcases hw with rfl | rfl <;> simp [evE_comp, cut, sIx, compK, f10c0, f10t0, e1, e2, newL, SZ, c2], (g1.trans g2).trans (Grow.app _ _)⟩
    · exact ⟨true, h2 ++ [.lst [], .lst []], by rcases hw with rfl | rfl <;> simp [evE_comp, cut, sIx, compK, f10c0, f10t0, e1, e2, newL, SZ, c0], (g1.trans g2).trans (Grow.app _ _)⟩
  intro kd
  induction kd with
  | num =>
    intro k h _ hk; obtain ⟨k, rfl⟩ : ∃ j, k = j + 1 := ⟨k - 1, by omega⟩
    rw [run_eq (fn := f10) rfl]; unfold evFn f10
    have c0 := cmpE h [] rfl (by simp [deeps])
    simp only [List.append_assoc, List.cons_append, List.nil_append] at c0
    exact ⟨true, h ++ [.lst [], .lst []], by simp [Kd.toW, evE_comp, cut, sIx, newL, SZ, c0], Grow.app _ _⟩
  | tru =>
    intro k h _ hk; obtain ⟨k, rfl⟩ : ∃ j, k = j + 1 := ⟨k - 1, by omega⟩
    rw [run_eq (fn := f10) rfl]; unfold evFn f10
    have c0 := cmpE h [] rfl (by simp [deeps])
    simp only [List.append_assoc, List.cons_append, List.nil_append] at c0
    exact ⟨true, h ++ [.lst [], .lst []], by simp [Kd.toW, evE_comp, cut, sIx, newL, SZ, c0], Grow.app _ _⟩
  | any x =>
    intro k h _ hk; obtain ⟨k, rfl⟩ : ∃ j, k = j + 1 := ⟨k - 1, by omega⟩
    rw [run_eq (fn := f10) rfl]; unfold evFn f10
    exact ⟨true, h, by simp [Kd.toW], Grow.refl _⟩
  | gap n =>
    intro k h _ hk; obtain ⟨k, rfl⟩ : ∃ j, k = j + 1 := ⟨k - 1, by omega⟩
    rw [run_eq (fn := f10) rfl]; unfold evFn f10
    exact ⟨false, h, by simp [Kd.toW], Grow.refl _⟩
  | row a iha =>
    intro k h hd hk
    simp only [Kd.depth] at hd hk
    obtain ⟨k, rfl⟩ : ∃ j, k = j + 1 := ⟨k - 1, by omega⟩
    obtain ⟨q1, h1, e1, g1⟩ := iha k h (by omega) (by omega)
    have d1 := toW_deep a
    have c0 := cmpE h1 [] rfl (by simp [deeps])
    have c1 := cmpE h1 [a.toW] (by simp [pures, toW_pure]) (by simp [deeps]; omega)
    simp only [List.append_assoc, List.cons_append, List.nil_append] at c0 c1
    rw [run_eq (fn := f10) rfl]; unfold evFn f10
    cases q1
    · exact ⟨false, h1 ++ [.lst [a.toW], .lst []], by simp [Kd.toW, evE_comp, cut, sIx, compK, f10c0, f10t0, e1, newL, SZ, c1], g1.trans (Grow.app _ _)⟩
    · exact ⟨true, h1 ++ [.lst [], .lst []], by simp [Kd.toW, evE_comp, cut, sIx, compK, f10c0, f10t0, e1, newL, SZ, c0], g1.trans (Grow.app _ _)⟩
  | pair a b iha ihb =>
    intro k h hd hk
    simp only [Kd.depth] at hd hk
    obtain ⟨k, rfl⟩ : ∃ j, k = j + 1 := ⟨k - 1, by omega⟩
    exact two a b sPair k h (.inl rfl) (by omega) (iha k h (by omega) (by omega)) fun h => ihb k h (by omega) (by omega)
  | work a b iha ihb =>
    intro k h hd hk
    simp only [Kd.depth] at hd hk
    obtain ⟨k, rfl⟩ : ∃ j, k = j + 1 := ⟨k - 1, by omega⟩
    exact two a b sWork k h (.inr rfl) (by omega) (iha k h (by omega) (by omega)) fun h => ihb k h (by omega) (by omega)
end K02

set_option maxHeartbeats 2000000
set_option linter.all false
namespace Tw
theorem at_depth : ∀ (kd : Kd) (p : List Nat), p ∈ kd.places → (kd.at p).depth ≤ kd.depth := by
  intro kd
  induction kd with
  | row a ih =>
    intro p hp
    simp only [Kd.places, List.mem_cons, List.mem_map] at hp
    rcases hp with rfl | ⟨r, hr, rfl⟩
    · simp [Kd.at]
    · have := ih r hr; simp only [Kd.at, Kd.depth]; omega
  | pair a b iha ihb =>
    intro p hp
    simp only [Kd.places, List.mem_cons, List.mem_append, List.mem_map] at hp
    rcases hp with rfl | ⟨r, hr, rfl⟩ | ⟨r, hr, rfl⟩
    · simp [Kd.at]
    · have := iha r hr; simp only [Kd.at, Kd.depth]; omega
    · have := ihb r hr; simp only [Kd.at, Kd.depth]; omega
  | work a b iha ihb =>
    intro p hp
    simp only [Kd.places, List.mem_cons, List.mem_append, List.mem_map] at hp
    rcases hp with rfl | ⟨r, hr, rfl⟩ | ⟨r, hr, rfl⟩
    · simp [Kd.at]
    · have := iha r hr; simp only [Kd.at, Kd.depth]; omega
    · have := ihb r hr; simp only [Kd.at, Kd.depth]; omega
  | _ => intro p hp; simp [Kd.places] at hp; subst hp; simp [Kd.at]
theorem Grow.toExt {h h' : Hp} (g : Grow h h') (p : Nat) : Ext p h h' := ⟨g.len, fun q o e _ => g.keep q o e⟩
end Tw
namespace K02
open Tw
theorem hp3 : T[3]? = some nextFn := rfl
theorem hp4 : T[4]? = some (wordFn 3) := rfl
theorem hp5 : T[5]? = some (kindFn 3 5) := rfl
theorem gap_turn {h : Hp} {kd : Kd} {p : Nat} (g : Gen p h) (hd : kd.depth ≤ 3) (o2 o3 : Option W) :
    ∃ (kd' : Kd) (o3' : Option W) (h' : Hp), evSs (run T 10) f9l0 [some (.ref p), some kd.toW, o2, o3] h = .ok (.next [some (.ref p), some kd'.toW, o2, o3']) h' ∧ Gen p h' ∧ Ext p h h' ∧ kd'.depth ≤ 3 := by
  obtain ⟨b, h1, r1, g1, e1⟩ := places_ok kd 10 h (by omega) (by omega)
  obtain ⟨ys, h2, w2, s2, g2, e2⟩ := walkA_sub (b := b) (xs := kd.places.map plW) (k := compK (evEo (run T 10) (.some f9t0)) (evE (run T 10) f9c0) [some (.ref p), some kd.toW, o2, o3]) (fun h => h[b]? = some (.lst (kd.places.map plW))) (fun h e => lstAt_of' e)
    (fun x hx acc h e => by
      obtain ⟨q, hq, rfl⟩ := List.mem_map.mp hx
      have pp := part_ok 9 h kd q hq
      have pp : run T 10 7 [kd.toW, plW q] h = .ok (kd.at q).toW h := pp
      have dd := at_depth kd q hq
      obtain ⟨bq, h', ww, gg⟩ := whole_ok (kd.at q) 10 h (by omega) (by omega)
      refine ⟨h', bq, ?_, gg, gg.keep _ _ e⟩
      cases bq <;> simp [compK, f9t0, f9c0, pp, ww]) kd.places.length 0 [] h1 (by simp) e1
  simp only [List.drop_zero] at s2
  obtain ⟨l, sl, rfl⟩ := List.sublist_map_iff.mp s2
  have ll := sl.length_le
  have pl := places_len kd
  have c1 : 2 ^ (kd.depth + 1) ≤ 2 ^ 4 := Nat.pow_le_pow_right (by decide) (by omega)
  have z1 : l.length ≤ SZ := by simp only [SZ]; omega
  have gA : Grow h (h2 ++ [.lst (l.map plW)] ++ [.lst []]) := ((g1.trans g2).trans (Grow.app _ _)).trans (Grow.app _ _)
  have q1 := eqV_nil (h := h2 ++ [O.lst (l.map plW)]) (a := h2.length) (look_new _ _) (pls_pure l) (by have := pls_deep l; omega)
  have gen4 := gA.gen g
  simp only [List.nil_append] at w2
  cases hl : l with
  | nil =>
    subst hl
    refine ⟨kd, some (.ref h2.length), h2 ++ [.lst []] ++ [.lst []], ?_, by simpa using gen4, by simpa using gA.toExt p, hd⟩
    unfold f9l0
    simp only [List.map_nil] at w2 q1
    simp only [List.append_assoc, List.cons_append, List.nil_append, List.length_append, List.length_cons, List.length_nil] at q1
    simp [evE_comp, r1, e1, w2, newL, q1, SZ]
  | cons x0 rest =>
    have pos : 0 < (l.length : Int) := by rw [hl]; simp only [List.length_cons]; omega
    obtain ⟨v, h5, r5, a5, b5, x5, g5⟩ := nxt_run hp3 9 p (l.length : Int) _ gen4 pos
    have hlp : h2.length ≠ p := fun z => by
      obtain ⟨_, _, _, _, e, _⟩ := ((g1.trans g2).gen g).ex
      have := look_lt e; omega
    have k5 : h5[h2.length]? = some (.lst (l.map plW)) := x5.keep _ _ (look_app _ (look_new _ _)) hlp
    obtain ⟨y, hy, ey⟩ := atI_lt (l.map plW) v a5 (by simpa using b5)
    obtain ⟨q, hq, rfl⟩ := List.mem_map.mp hy
    obtain ⟨n, h6, r6, a6, b6, x6, g6⟩ := nxt_run hp3 9 p 3 h5 g5 (by decide)
    have hqp := sl.subset hq
    have pq := places_plen kd q hqp
    have pu := put_ok (.gap n) h6 q kd 10 hqp (by omega)
    refine ⟨kd.putAt q (.gap n), some (.ref h2.length), h6, ?_, g6, ((gA.toExt p).trans x5).trans x6, Nat.le_trans (putAt_depth _ kd q hqp) (by have : (Kd.gap n).depth = 0 := rfl; omega)⟩
    unfold f9l0
    have ne : (l.map plW).isEmpty = false := by rw [hl]; rfl
    rw [ne] at q1
    simp only [List.append_assoc, List.cons_append, List.nil_append, List.length_append, List.length_cons, List.length_nil] at q1 r5
    simp only [Kd.toW] at pu
    simp [evE_comp, r1, e1, w2, newL, q1, z1, r5, k5, ey, r6, pu]
theorem gap_loop {p : Nat} : ∀ (xs : List W) (kd : Kd) (h : Hp) (o2 o3 : Option W), Gen p h → kd.depth ≤ 3 → ∃ (kd' : Kd) (o2' o3' : Option W) (h' : Hp), turnsL (.var 2) (evSs (run T 10) f9l0) xs [some (.ref p), some kd.toW, o2, o3] h = .ok (.next [some (.ref p), some kd'.toW, o2', o3']) h' ∧ Gen p h' ∧ Ext p h h' ∧ kd'.depth ≤ 3 := by
  intro xs
  induction xs with
  | nil => intro kd h o2 o3 g hd; exact ⟨kd, o2, o3, h, by simp, g, Ext.refl _ _, hd⟩
  | cons x xs ih =>
    intro kd h o2 o3 g hd
    obtain ⟨kd1, o31, h1, e1, g1, x1, d1⟩ := gap_turn g hd (some x) o3
    obtain ⟨kd2, o22, o32, h2, e2, g2, x2, d2⟩ := ih kd1 h1 (some x) o31 g1 d1
    exact ⟨kd2, o22, o32, h2, by simp [e1, e2], g2, x1.trans x2, d2⟩
theorem gapped_ok {h : Hp} {kd : Kd} {p : Nat} (g : Gen p h) (hd : kd.depth ≤ 3) : ∃ (kd' : Kd) (h' : Hp), run T 11 9 [.ref p, kd.toW] h = .ok kd'.toW h' ∧ Gen p h' ∧ Ext p h h' ∧ kd'.depth ≤ 3 := by
  obtain ⟨m, h1, r1, a1, b1, x1, g1⟩ := nxt_run hp3 9 p 4 h g (by decide)
  obtain ⟨kd', o2, o3, h2, e2, g2, x2, d2⟩ := gap_loop (upTo 0 m.toNat) kd h1 none none g1 hd
  refine ⟨kd', h2, ?_, g2, x1.trans x2, d2⟩
  rw [run_eq (fn := f9) rfl]; unfold evFn f9
  have hr : rngOk m = true := by simp [rngOk]; omega
  simp [evS_for, r1, hr, e2]
end K02

set_option maxHeartbeats 2000000
set_option linter.all false
namespace Tw
abbrev GD := List (Int × Kd)
def gD (D : GD) : List (W × W) := D.map fun p => (.int p.1, p.2.toW)
def putG (n : Int) (k : Kd) : GD → GD
  | [] => [(n, k)]
  | (m, u) :: r => if m = n then (m, k) :: r else (m, u) :: putG n k r
theorem keyEq_int (a b : Int) : keyEq (.int a) (.int b) = decide (a = b) := by simp [keyEq, Bool.beq_eq_decide_eq]
theorem dput_gD (n : Int) (k : Kd) : ∀ D : GD, dput (.int n) k.toW (gD D) = gD (putG n k D)
  | [] => rfl
  | (m, u) :: r => by
    have ih := dput_gD n k r
    simp only [gD, List.map_cons, dput, keyEq_int] at ih ⊢
    by_cases e : m = n
    · simp [e, putG]
    · rw [if_neg (by simp [e]), ih]; simp [putG, e]
theorem dget_gD (n : Int) : ∀ D : GD, dget (.int n) (gD D) = (D.lookup n).map Kd.toW
  | [] => rfl
  | (m, u) :: r => by
    have ih := dget_gD n r
    simp only [gD, List.map_cons, dget, keyEq_int, List.lookup_cons] at ih ⊢
    by_cases e : m = n
    · subst e; simp
    · have : (n == m) = false := by simpa using fun z => e z.symm
      rw [if_neg (by simp [e]), ih, this]
theorem putG_keys {n m : Int} {k : Kd} : ∀ {D : GD}, m ∈ (putG n k D).map (·.1) → m = n ∨ m ∈ D.map (·.1)
  | [], h => by simp [putG] at h; exact .inl h
  | (z, u) :: r, h => by
    simp only [putG] at h
    split at h
    · exact .inr (by simpa using h)
    · simp only [List.map_cons, List.mem_cons] at h ⊢
      rcases h with h | h
      · exact .inr (.inl h)
      · rcases putG_keys h with h | h
        · exact .inl h
        · exact .inr (.inr h)
theorem putG_len (n : Int) (k : Kd) : ∀ D : GD, (putG n k D).length ≤ D.length + 1
  | [] => by simp [putG]
  | (y, u) :: r => by
    simp only [putG]; split
    · simp
    · have := putG_len n k r; simp; omega
/-- what a dict of gaps is to be: keys once, kinds not too deep -/
structure GOk (D : GD) : Prop where
  nd : (D.map (·.1)).Nodup
  dp : ∀ p ∈ D, p.2.depth ≤ 10
theorem GOk.nil : GOk [] := ⟨by simp, by simp⟩
theorem GOk.put {D : GD} {n : Int} {k : Kd} (g : GOk D) (hk : k.depth ≤ 10) : GOk (putG n k D) := by
  obtain ⟨nd, dp⟩ := g
  induction D with
  | nil => exact ⟨by simp [putG], by intro p hp; simp [putG] at hp; subst hp; exact hk⟩
  | cons a r ih =>
    obtain ⟨m, u⟩ := a
    simp only [List.map_cons, List.nodup_cons] at nd
    obtain ⟨i1, i2⟩ := ih nd.2 fun p hp => dp p (List.mem_cons_of_mem _ hp)
    simp only [putG]
    split
    · refine ⟨by simp only [List.map_cons, List.nodup_cons]; exact nd, fun p hp => ?_⟩
      rcases List.mem_cons.mp hp with rfl | hp
      · exact hk
      · exact dp p (List.mem_cons_of_mem _ hp)
    · next hz =>
      refine ⟨?_, fun p hp => ?_⟩
      · simp only [List.map_cons, List.nodup_cons]
        refine ⟨fun q => ?_, i1⟩
        rcases putG_keys q with q | q
        · exact hz q
        · exact nd.1 q
      · rcases List.mem_cons.mp hp with rfl | hp
        · exact dp _ List.mem_cons_self
        · exact i2 p hp
theorem lookupG {n : Int} {k : Kd} : ∀ {D : GD}, (D.map (·.1)).Nodup → (n, k) ∈ D → D.lookup n = some k
  | [], _, h => nomatch h
  | (y, u) :: r, nd, h => by
    simp only [List.map_cons, List.nodup_cons] at nd
    rw [List.lookup_cons]
    rcases List.mem_cons.mp h with e | hm
    · cases e; simp
    · have : (n == y) = false := by
        simp only [beq_eq_false_iff_ne]
        intro z; subst z
        exact nd.1 (List.mem_map.mpr ⟨(n, k), hm, rfl⟩)
      rw [this]
      exact lookupG nd.2 hm
theorem lookupG_mem {n : Int} {k : Kd} : ∀ {D : GD}, D.lookup n = some k → (n, k) ∈ D
  | [], h => by simp at h
  | (y, u) :: r, h => by
    rw [List.lookup_cons] at h
    split at h
    · next e => cases h; rw [beq_iff_eq] at e; subst e; exact List.mem_cons_self
    · exact List.mem_cons_of_mem _ (lookupG_mem h)
theorem dsub_gD (h : Hp) {D0 : GD} (g : GOk D0) : ∀ D : GD, (∀ p ∈ D, p ∈ D0) → dsub h (gD D0) (gD D) = some true
  | [], _ => rfl
  | (n, k) :: r, hs => by
    have ih := dsub_gD h g r fun p hp => hs p (List.mem_cons_of_mem _ hp)
    have m := hs _ List.mem_cons_self
    have l := lookupG g.nd m
    have d := g.dp _ m
    have q := dget_gD n D0
    rw [l] at q
    have rdk := Kd.rd h k 40 (by simp only at d; omega)
    have eq := Kd.eqW k k
    simp only [gD, List.map_cons] at ih q ⊢
    simp only [dsub, q, Option.map_some, rdk, ih, eq]
    simp
theorem eqV_gD {h : Hp} {a b : Nat} {D : GD} (ea : h[a]? = some (.dic (gD D))) (eb : h[b]? = some (.dic (gD D))) (g : GOk D) : eqV h (.ref a) (.ref b) = some true := by
  simp [eqV, isDic, ea, eb, dsub_gD h g D fun _ hp => hp]
/-- one gap -/
def gap1 (n : Int) (k : Kd) (D : GD) : Option GD := if (D.lookup n).getD k = k then some (putG n k D) else none
def Kd.met : Kd → Kd → GD → Option GD
  | .gap n, k, D => gap1 n k D
  | .row a, .row b, D => a.met b D
  | .pair a b, .pair c d, D => (a.met c D).bind fun D => b.met d D
  | .work a b, .work c d, D => (a.met c D).bind fun D => b.met d D
  | .num, .num, D => some D
  | .tru, .tru, D => some D
  | .any x, .any y, D => if x = y then some D else none
  | _, _, _ => none
theorem gap1_ok {n : Int} {k : Kd} {D D' : GD} (g : GOk D) (hk : k.depth ≤ 10) (e : gap1 n k D = some D') : GOk D' := by
  unfold gap1 at e
  split at e
  · cases e; exact g.put hk
  · cases e
theorem met_gok : ∀ (p k : Kd) (D D' : GD), GOk D → k.depth ≤ 10 → p.met k D = some D' → GOk D' := by
  intro p
  induction p with
  | gap n => intro k D D' g hk e; exact gap1_ok g hk (by simpa [Kd.met] using e)
  | row a ih => intro k D D' g hk e; cases k <;> simp only [Kd.met] at e <;> first | (simp only [Kd.depth] at hk; exact ih _ _ _ g (by omega) e) | cases e
  | pair a b iha ihb =>
    intro k D D' g hk e
    cases k with
    | pair c d =>
      simp only [Kd.met] at e
      simp only [Kd.depth] at hk
      cases e1 : a.met c D with
      | none => rw [e1] at e; cases e
      | some D1 => rw [e1] at e; exact ihb _ _ _ (iha _ _ _ g (by omega) e1) (by omega) e
    | _ => simp [Kd.met] at e
  | work a b iha ihb =>
    intro k D D' g hk e
    cases k with
    | work c d =>
      simp only [Kd.met] at e
      simp only [Kd.depth] at hk
      cases e1 : a.met c D with
      | none => rw [e1] at e; cases e
      | some D1 => rw [e1] at e; exact ihb _ _ _ (iha _ _ _ g (by omega) e1) (by omega) e
    | _ => simp [Kd.met] at e
  | any x =>
    intro k D D' g hk e
    cases k with
    | any y => simp only [Kd.met] at e; split at e <;> cases e; exact g
    | _ => simp [Kd.met] at e
  | num => intro k D D' g hk e; cases k <;> simp [Kd.met] at e; subst e; exact g
  | tru => intro k D D' g hk e; cases k <;> simp [Kd.met] at e; subst e; exact g
theorem met_len : ∀ (p k : Kd) (D D' : GD), p.met k D = some D' → D'.length ≤ D.length + 2 ^ p.depth := by
  intro p
  induction p with
  | gap n =>
    intro k D D' e
    simp only [Kd.met, gap1] at e
    split at e
    · cases e; have := putG_len n k D; simp [Kd.depth]; omega
    · cases e
  | row a ih => intro k D D' e; cases k <;> simp only [Kd.met] at e <;> first | (have := ih _ _ _ e; simp only [Kd.depth, Nat.pow_succ]; omega) | cases e
  | pair a b iha ihb =>
    intro k D D' e
    have c1 : 2 ^ a.depth ≤ 2 ^ (max a.depth b.depth) := Nat.pow_le_pow_right (by decide) (by omega)
    have c2 : 2 ^ b.depth ≤ 2 ^ (max a.depth b.depth) := Nat.pow_le_pow_right (by decide) (by omega)
    cases k with
    | pair c d =>
      simp only [Kd.met] at e
      cases e1 : a.met c D with
      | none => rw [e1] at e; cases e
      | some D1 => rw [e1] at e; have := iha _ _ _ e1; have := ihb _ _ _ e; simp only [Kd.depth, Nat.pow_succ]; omega
    | _ => simp [Kd.met] at e
  | work a b iha ihb =>
    intro k D D' e
    have c1 : 2 ^ a.depth ≤ 2 ^ (max a.depth b.depth) := Nat.pow_le_pow_right (by decide) (by omega)
    have c2 : 2 ^ b.depth ≤ 2 ^ (max a.depth b.depth) := Nat.pow_le_pow_right (by decide) (by omega)
    cases k with
    | work c d =>
      simp only [Kd.met] at e
      cases e1 : a.met c D with
      | none => rw [e1] at e; cases e
      | some D1 => rw [e1] at e; have := iha _ _ _ e1; have := ihb _ _ _ e; simp only [Kd.depth, Nat.pow_succ]; omega
    | _ => simp [Kd.met] at e
  | any x => intro k D D' e; cases k <;> simp [Kd.met] at e; rw [← e.2]; exact Nat.le_add_right _ _
  | num => intro k D D' e; cases k <;> simp [Kd.met] at e; subst e; exact Nat.le_add_right _ _
  | tru => intro k D D' e; cases k <;> simp [Kd.met] at e; subst e; exact Nat.le_add_right _ _
/-- what met hands back -/
def MetR (h : Hp) (o : Option GD) (r : R W) : Prop := match o with
  | none => ∃ h', r = .ok .non h' ∧ Grow h h'
  | some D => ∃ a h', r = .ok (.ref a) h' ∧ Grow h h' ∧ h.length ≤ a ∧ h'[a]? = some (.dic (gD D))
def gapFn : Fn := ⟨3, 4, [
  .iff (.cmp .ne (.mth .get (.var 2) (.cons (.var 0) (.cons (.var 1) .nil))) (.var 1)) [.ret (.cst .non)] [],
  .set 3 (.blt .dict (.var 2)),
  .put (.var 3) (.var 0) (.var 1),
  .ret (.var 3)]⟩
theorem gap_ev {C : Or} {h : Hp} {q : Nat} {D : GD} {n : Int} {k : Kd} (e : h[q]? = some (.dic (gD D))) (hl : D.length < 1000) (g : GOk D) (hk : k.depth ≤ 10) : MetR h (gap1 n k D) (evFn C gapFn [.int n, k.toW, .ref q] h) := by
  have dg := dget_gD n D
  have lz : (gD D).length < SZ := by simp only [gD, List.length_map, SZ]; omega
  have ad : ((D.lookup n).getD k).depth ≤ 10 := by
    cases c : D.lookup n with
    | none => exact hk
    | some u => exact g.dp _ (lookupG_mem c)
  have ev := Kd.eqV h ((D.lookup n).getD k) k (by omega) (by omega)
  have gd : (Option.map Kd.toW (D.lookup n)).getD k.toW = ((D.lookup n).getD k).toW := by cases D.lookup n <;> rfl
  unfold evFn gapFn MetR gap1
  by_cases c : (D.lookup n).getD k = k
  · rw [if_pos c]
    refine ⟨h.length, h ++ [.dic (gD (putG n k D))], ?_, Grow.app _ _, Nat.le_refl _, look_new _ _⟩
    rw [c] at gd
    have ev' := Kd.eqV h k k (by omega) (by omega)
    have st : (h ++ [O.dic (gD D)]).set h.length (O.dic (gD (putG n k D))) = h ++ [O.dic (gD (putG n k D))] := by
      rw [List.set_append_right _ _ (Nat.le_refl _)]; simp
    simp [e, dg, gd, ev', lz, dput_gD, st]
  · rw [if_neg c]
    refine ⟨h, ?_, Grow.refl _⟩
    simp [e, dg, gd, ev, c]
def metLoop (self : Nat) : List St := [.set 4 (.call self (.cons (.var 5) (.cons (.var 6) (.cons (.var 4) .nil)))), .iff (.cmp .isN (.var 4) (.cst .non)) [.ret (.cst .non)] []]
def metFn (pt self gp : Nat) : Fn := ⟨3, 7, [
  .iff (.cmp .eq (.idx (.var 0) (.cst (.int 0))) (.cst (.str [103, 97, 112]))) [.ret (.call gp (.cons (.idx (.var 0) (.cst (.int 1))) (.cons (.var 1) (.cons (.var 2) .nil))))] [],
  .set 3 (.call pt (.cons (.var 0) .nil)),
  .iff (.cmp .eq (.var 3) (.tup .nil)) [.ret (.ite (.cmp .eq (.var 0) (.var 1)) (.blt .dict (.var 2)) (.cst .non))] [],
  .iff (.cmp .ne (.idx (.var 0) (.cst (.int 0))) (.idx (.var 1) (.cst (.int 0)))) [.ret (.cst .non)] [],
  .set 4 (.var 2),
  .for (.two 5 6) (.zip (.var 3) (.call pt (.cons (.var 1) .nil))) (metLoop self),
  .ret (.var 4)]⟩
/-- a kind's word -/
def Kd.word : Kd → S
  | .num => sNumber | .tru => sTruth | .row _ => sRow | .pair _ _ => sPair | .work _ _ => sWork | .any _ => sAny | .gap _ => sGap
theorem toW_word (k : Kd) : ∃ r, k.toW = .tup (.str k.word :: r) := by cases k <;> exact ⟨_, rfl⟩
theorem leaf_met {p k : Kd} {D : GD} (h : p = .num ∨ p = .tru ∨ ∃ x, p = .any x) : p.met k D = if p = k then some D else none := by
  rcases h with rfl | rfl | ⟨x, rfl⟩ <;> cases k <;> simp [Kd.met]
theorem met_ok {T : List Fn} {pt self gp : Nat} (hp : T[pt]? = some partsFn) (hs : T[self]? = some (metFn pt self gp)) (hg : T[gp]? = some gapFn) :
    ∀ (p k : Kd) (f q : Nat) (h : Hp) (D : GD), p.depth ≤ 10 → k.depth ≤ 10 → p.depth + 2 ≤ f → h[q]? = some (.dic (gD D)) → D.length + 2 ^ p.depth < 1000 → GOk D → MetR h (p.met k D) (run T f self [p.toW, k.toW, .ref q] h) := by
  have leaf : ∀ (p k : Kd) (f q : Nat) (h : Hp) (D : GD), p = .num ∨ p = .tru ∨ (∃ x, p = .any x) → p.depth ≤ 10 → k.depth ≤ 10 → 2 ≤ f → h[q]? = some (.dic (gD D)) → MetR h (p.met k D) (run T f self [p.toW, k.toW, .ref q] h) := by
    intro p k f q h D hpl hd hk hf e
    obtain ⟨f, rfl⟩ : ∃ j, f = j + 2 := ⟨f - 2, by omega⟩
    have pe := parts_ev (run T f) p h
    rw [← run_eq hp] at pe
    have kp : kparts p = [] := by rcases hpl with rfl | rfl | ⟨x, rfl⟩ <;> rfl
    rw [kp] at pe
    have ev := Kd.eqV h p k (by omega) (by omega)
    rw [leaf_met hpl, run_eq hs]
    unfold evFn metFn MetR
    have hw : ∃ w r, p.toW = .tup (.str w :: r) ∧ w ≠ sGap := by rcases hpl with rfl | rfl | ⟨x, rfl⟩ <;> exact ⟨_, _, rfl, by decide⟩
    obtain ⟨w, r, ew, nw⟩ := hw
    rw [ew] at pe ev ⊢
    simp only [List.map_nil] at pe
    have nw' : ¬ w = [103, 97, 112] := nw
    by_cases c : p = k
    · rw [if_pos c]
      simp only [c, decide_true] at ev
      refine ⟨h.length, h ++ [.dic (gD D)], ?_, Grow.app _ _, Nat.le_refl _, look_new _ _⟩
      simp [nw', pe, tup_nil, ev, e]
    · rw [if_neg c]
      simp only [c, decide_false] at ev
      refine ⟨h, ?_, Grow.refl _⟩
      simp [nw', pe, tup_nil, ev]
  have two : ∀ (a b : Kd) (w : S) (p k : Kd) (f q : Nat) (h : Hp) (D : GD), (w = sPair ∧ p = .pair a b) ∨ (w = sWork ∧ p = .work a b) → p.depth ≤ 10 → k.depth ≤ 10 → p.depth + 2 ≤ f → h[q]? = some (.dic (gD D)) → D.length + 2 ^ p.depth < 1000 → GOk D →
      (∀ (k : Kd) (f q : Nat) (h : Hp) (D : GD), a.depth ≤ 10 → k.depth ≤ 10 → a.depth + 2 ≤ f → h[q]? = some (.dic (gD D)) → D.length + 2 ^ a.depth < 1000 → GOk D → MetR h (a.met k D) (run T f self [a.toW, k.toW, .ref q] h)) →
      (∀ (k : Kd) (f q : Nat) (h : Hp) (D : GD), b.depth ≤ 10 → k.depth ≤ 10 → b.depth + 2 ≤ f → h[q]? = some (.dic (gD D)) → D.length + 2 ^ b.depth < 1000 → GOk D → MetR h (b.met k D) (run T f self [b.toW, k.toW, .ref q] h)) →
      MetR h (p.met k D) (run T f self [p.toW, k.toW, .ref q] h) := by
    intro a b w p k f q h D hw h1 h2 h3 e hl g iha ihb
    have hpd : p.depth = max a.depth b.depth + 1 := by rcases hw with ⟨_, rfl⟩ | ⟨_, rfl⟩ <;> rfl
    have c1 : 2 ^ a.depth ≤ 2 ^ (max a.depth b.depth) := Nat.pow_le_pow_right (by decide) (by omega)
    have c2 : 2 ^ b.depth ≤ 2 ^ (max a.depth b.depth) := Nat.pow_le_pow_right (by decide) (by omega)
    rw [hpd] at h1 h3 hl
    rw [Nat.pow_succ] at hl
    obtain ⟨f, rfl⟩ : ∃ j, f = j + 2 := ⟨f - 2, by omega⟩
    have pe := parts_ev (run T f) p h
    have pk := parts_ev (run T f) k h
    rw [← run_eq hp] at pe pk
    have pw : p.toW = .tup [.str w, a.toW, b.toW] := by rcases hw with ⟨rfl, rfl⟩ | ⟨rfl, rfl⟩ <;> rfl
    have kp : kparts p = [a, b] := by rcases hw with ⟨_, rfl⟩ | ⟨_, rfl⟩ <;> rfl
    rw [kp, pw] at pe
    simp only [List.map_cons, List.map_nil] at pe
    have d1 := toW_deep a
    have d2 := toW_deep b
    have n1 := tup_ne h a.toW [b.toW] (toW_pure a) (by simp [pures, toW_pure]) (by simp [deeps]; omega)
    have nw : ¬ w = [103, 97, 112] := by rcases hw with ⟨rfl, _⟩ | ⟨rfl, _⟩ <;> decide
    rw [run_eq hs, pw]
    by_cases same : ∃ c d, (w = sPair ∧ p = .pair a b ∧ k = .pair c d) ∨ (w = sWork ∧ p = .work a b ∧ k = .work c d)
    · obtain ⟨c, d, sm⟩ := same
      have kw : k.toW = .tup [.str w, c.toW, d.toW] := by rcases sm with ⟨rfl, _, rfl⟩ | ⟨rfl, _, rfl⟩ <;> rfl
      have kk : kparts k = [c, d] := by rcases sm with ⟨_, _, rfl⟩ | ⟨_, _, rfl⟩ <;> rfl
      have km : p.met k D = (a.met c D).bind fun D => b.met d D := by rcases sm with ⟨_, rfl, rfl⟩ | ⟨_, rfl, rfl⟩ <;> rfl
      have kd : c.depth ≤ 10 ∧ d.depth ≤ 10 := by rcases sm with ⟨_, _, rfl⟩ | ⟨_, _, rfl⟩ <;> simp only [Kd.depth] at h2 <;> omega
      rw [kk, kw] at pk
      simp only [List.map_cons, List.map_nil] at pk
      rw [km, kw]
      have i := iha c (f + 1) q h D (by omega) kd.1 (by omega) e (by omega) g
      unfold MetR at i ⊢
      cases c3 : a.met c D with
      | none =>
        rw [c3] at i
        obtain ⟨h', ei, gg⟩ := i
        refine ⟨h', ?_, gg⟩
        unfold evFn metFn
        simp [nw, pe, n1, pk, evS_for, metLoop, ei]
      | some D1 =>
        rw [c3] at i
        obtain ⟨a1, h', ei, gg, la, ea⟩ := i
        have l1 := met_len a c D D1 c3
        have i2 := ihb d (f + 1) a1 h' D1 (by omega) kd.2 (by omega) ea (by omega) (met_gok a c D D1 g kd.1 c3)
        unfold MetR at i2
        simp only [Option.bind_some]
        cases c4 : b.met d D1 with
        | none =>
          rw [c4] at i2
          obtain ⟨h2', e2, gg2⟩ := i2
          refine ⟨h2', ?_, gg.trans gg2⟩
          unfold evFn metFn
          simp [nw, pe, n1, pk, evS_for, metLoop, ei, e2]
        | some D2 =>
          rw [c4] at i2
          obtain ⟨a2, h2', e2, gg2, la2, ea2⟩ := i2
          refine ⟨a2, h2', ?_, gg.trans gg2, Nat.le_trans gg.len la2, ea2⟩
          unfold evFn metFn
          simp [nw, pe, n1, pk, evS_for, metLoop, ei, e2]
    · have km : p.met k D = none := by
        rcases hw with ⟨rfl, rfl⟩ | ⟨rfl, rfl⟩ <;> cases k <;> first | rfl | (exfalso; exact same ⟨_, _, .inl ⟨rfl, rfl, rfl⟩⟩) | (exfalso; exact same ⟨_, _, .inr ⟨rfl, rfl, rfl⟩⟩)
      obtain ⟨r, kw⟩ := toW_word k
      have kn : ¬ w = k.word := by
        rcases hw with ⟨rfl, rfl⟩ | ⟨rfl, rfl⟩ <;> cases k <;> first | (exfalso; exact same ⟨_, _, .inl ⟨rfl, rfl, rfl⟩⟩) | (exfalso; exact same ⟨_, _, .inr ⟨rfl, rfl, rfl⟩⟩) | (simp only [Kd.word]; decide)
      rw [km, kw]
      refine ⟨h, ?_, Grow.refl _⟩
      unfold evFn metFn
      simp [nw, pe, n1, kn]
  intro p
  induction p with
  | num => intro k f q h D h1 h2 h3 e _ _; exact leaf _ k f q h D (.inl rfl) h1 h2 (by omega) e
  | tru => intro k f q h D h1 h2 h3 e _ _; exact leaf _ k f q h D (.inr (.inl rfl)) h1 h2 (by omega) e
  | any x => intro k f q h D h1 h2 h3 e _ _; exact leaf _ k f q h D (.inr (.inr ⟨x, rfl⟩)) h1 h2 (by omega) e
  | gap n =>
    intro k f q h D h1 h2 h3 e hl g
    obtain ⟨f, rfl⟩ : ∃ j, f = j + 2 := ⟨f - 2, by omega⟩
    have ge := gap_ev (C := run T f) (n := n) e (by have : 0 < 2 ^ (Kd.gap n).depth := Nat.two_pow_pos _; omega) g h2
    rw [← run_eq hg] at ge
    rw [run_eq hs]
    unfold MetR at ge ⊢
    simp only [Kd.met]
    cases c : gap1 n k D with
    | none =>
      rw [c] at ge
      obtain ⟨h', ge, gg⟩ := ge
      refine ⟨h', ?_, gg⟩
      unfold evFn metFn
      simp [Kd.toW, ge]
    | some D' =>
      rw [c] at ge
      obtain ⟨a, h', ge, gg⟩ := ge
      refine ⟨a, h', ?_, gg⟩
      unfold evFn metFn
      simp [Kd.toW, ge]
  | row a ih =>
    intro k f q h D h1 h2 h3 e hl g
    simp only [Kd.depth, Nat.pow_succ] at h1 h3 hl
    obtain ⟨f, rfl⟩ : ∃ j, f = j + 2 := ⟨f - 2, by omega⟩
    have pe := parts_ev (run T f) (.row a) h
    have pk := parts_ev (run T f) k h
    rw [← run_eq hp] at pe pk
    have d1 := toW_deep a
    have n1 := tup_ne h a.toW [] (toW_pure a) rfl (by simp [deeps]; omega)
    rw [run_eq hs]
    simp only [Kd.toW, kparts, List.map_nil, List.map_cons] at pe
    cases k with
    | row b =>
      simp only [Kd.depth] at h2
      have i := ih b (f + 1) q h D (by omega) (by omega) (by omega) e (by have : 0 < 2 ^ a.depth := Nat.two_pow_pos _; omega) g
      simp only [Kd.toW, kparts, List.map_nil, List.map_cons] at pk
      simp only [Kd.met]
      unfold MetR at i ⊢
      cases c : a.met b D with
      | none =>
        rw [c] at i
        obtain ⟨h', ei, gg⟩ := i
        refine ⟨h', ?_, gg⟩
        unfold evFn metFn
        simp [Kd.toW, pe, n1, pk, evS_for, metLoop, ei]
      | some D' =>
        rw [c] at i
        obtain ⟨a', h', ei, gg⟩ := i
        refine ⟨a', h', ?_, gg⟩
        unfold evFn metFn
        simp [Kd.toW, pe, n1, pk, evS_for, metLoop, ei]
    | _ =>
      simp only [Kd.met]
      refine ⟨h, ?_, Grow.refl _⟩
      unfold evFn metFn
      simp [Kd.toW, pe, n1]
  | pair a b iha ihb =>
    intro k f q h D h1 h2 h3 e hl g
    exact two a b sPair _ k f q h D (.inl ⟨rfl, rfl⟩) h1 h2 h3 e hl g iha ihb
  | work a b iha ihb =>
    intro k f q h D h1 h2 h3 e hl g
    exact two a b sWork _ k f q h D (.inr ⟨rfl, rfl⟩) h1 h2 h3 e hl g iha ihb
end Tw

set_option maxHeartbeats 4000000
set_option linter.all false
namespace Tw
def Kd.due : Kd → Kd → Option GD
  | .gap n, k => some [(n, k)]
  | .row a, .row b => a.due b
  | .pair a b, .pair c d => (a.due c).bind fun r => (b.due d).map (r ++ ·)
  | .work a b, .work c d => (a.due c).bind fun r => (b.due d).map (r ++ ·)
  | .num, .num => some []
  | .tru, .tru => some []
  | .any x, .any y => if x = y then some [] else none
  | _, _ => none
def stepG (o : Option GD) (p : Int × Kd) : Option GD := o.bind (gap1 p.1 p.2)
theorem fold_none : ∀ rows : GD, rows.foldl stepG none = none
  | [] => rfl
  | _ :: r => fold_none r
theorem fold_bind (o : Option GD) (rows : GD) : (o.bind fun D => rows.foldl stepG (some D)) = rows.foldl stepG o := by
  cases o with
  | none => simp [fold_none]
  | some D => rfl
theorem met_due : ∀ (p k : Kd) (D : GD), p.met k D = (p.due k).bind fun rows => rows.foldl stepG (some D) := by
  intro p
  induction p with
  | gap n => intro k D; simp [Kd.met, Kd.due, stepG]
  | row a ih => intro k D; cases k <;> simp [Kd.met, Kd.due, ih]
  | pair a b iha ihb =>
    intro k D
    cases k with
    | pair c d =>
      simp only [Kd.met, Kd.due, iha]
      cases a.due c with
      | none => rfl
      | some r1 =>
        simp only [Option.bind_some]
        cases e : b.due d with
        | none =>
          have : ∀ D, b.met d D = none := fun D => by rw [ihb, e]; rfl
          simp [this]
        | some r2 =>
          have : (fun D => b.met d D) = fun D => r2.foldl stepG (some D) := by funext D; rw [ihb, e]; rfl
          rw [this, fold_bind]
          simp [List.foldl_append]
    | _ => simp [Kd.met, Kd.due]
  | work a b iha ihb =>
    intro k D
    cases k with
    | work c d =>
      simp only [Kd.met, Kd.due, iha]
      cases a.due c with
      | none => rfl
      | some r1 =>
        simp only [Option.bind_some]
        cases e : b.due d with
        | none =>
          have : ∀ D, b.met d D = none := fun D => by rw [ihb, e]; rfl
          simp [this]
        | some r2 =>
          have : (fun D => b.met d D) = fun D => r2.foldl stepG (some D) := by funext D; rw [ihb, e]; rfl
          rw [this, fold_bind]
          simp [List.foldl_append]
    | _ => simp [Kd.met, Kd.due]
  | any x => intro k D; cases k <;> simp [Kd.met, Kd.due]; split <;> rfl
  | num => intro k D; cases k <;> simp [Kd.met, Kd.due]
  | tru => intro k D; cases k <;> simp [Kd.met, Kd.due]
theorem due_len : ∀ (p k : Kd) (r : GD), p.due k = some r → r.length ≤ 2 ^ p.depth := by
  intro p
  induction p with
  | gap n => intro k r e; simp [Kd.due] at e; subst e; simp [Kd.depth]
  | row a ih => intro k r e; cases k <;> simp [Kd.due] at e; have := ih _ _ e; simp only [Kd.depth, Nat.pow_succ]; omega
  | pair a b iha ihb =>
    intro k r e
    have c1 : 2 ^ a.depth ≤ 2 ^ (max a.depth b.depth) := Nat.pow_le_pow_right (by decide) (by omega)
    have c2 : 2 ^ b.depth ≤ 2 ^ (max a.depth b.depth) := Nat.pow_le_pow_right (by decide) (by omega)
    cases k with
    | pair c d =>
      simp only [Kd.due] at e
      cases e1 : a.due c with
      | none => rw [e1] at e; cases e
      | some r1 =>
        cases e2 : b.due d with
        | none => rw [e1, e2] at e; cases e
        | some r2 => rw [e1, e2] at e; cases e; have := iha _ _ e1; have := ihb _ _ e2; simp only [Kd.depth, Nat.pow_succ, List.length_append]; omega
    | _ => simp [Kd.due] at e
  | work a b iha ihb =>
    intro k r e
    have c1 : 2 ^ a.depth ≤ 2 ^ (max a.depth b.depth) := Nat.pow_le_pow_right (by decide) (by omega)
    have c2 : 2 ^ b.depth ≤ 2 ^ (max a.depth b.depth) := Nat.pow_le_pow_right (by decide) (by omega)
    cases k with
    | work c d =>
      simp only [Kd.due] at e
      cases e1 : a.due c with
      | none => rw [e1] at e; cases e
      | some r1 =>
        cases e2 : b.due d with
        | none => rw [e1, e2] at e; cases e
        | some r2 => rw [e1, e2] at e; cases e; have := iha _ _ e1; have := ihb _ _ e2; simp only [Kd.depth, Nat.pow_succ, List.length_append]; omega
    | _ => simp [Kd.due] at e
  | any x => intro k r e; cases k <;> simp [Kd.due] at e; rw [e.2]; simp
  | num => intro k r e; cases k <;> simp [Kd.due] at e; subst e; simp
  | tru => intro k r e; cases k <;> simp [Kd.due] at e; subst e; simp
theorem due_deep : ∀ (p k : Kd) (r : GD), p.due k = some r → ∀ x ∈ r, x.2.depth ≤ k.depth := by
  intro p
  induction p with
  | gap n => intro k r e x hx; simp [Kd.due] at e; subst e; simp at hx; subst hx; exact Nat.le_refl _
  | row a ih => intro k r e x hx; cases k <;> simp [Kd.due] at e; have := ih _ _ e x hx; simp only [Kd.depth]; omega
  | pair a b iha ihb =>
    intro k r e x hx
    cases k with
    | pair c d =>
      simp only [Kd.due] at e
      cases e1 : a.due c with
      | none => rw [e1] at e; cases e
      | some r1 =>
        cases e2 : b.due d with
        | none => rw [e1, e2] at e; cases e
        | some r2 =>
          rw [e1, e2] at e; cases e
          simp only [Kd.depth]
          rcases List.mem_append.mp hx with hx | hx
          · have := iha _ _ e1 x hx; omega
          · have := ihb _ _ e2 x hx; omega
    | _ => simp [Kd.due] at e
  | work a b iha ihb =>
    intro k r e x hx
    cases k with
    | work c d =>
      simp only [Kd.due] at e
      cases e1 : a.due c with
      | none => rw [e1] at e; cases e
      | some r1 =>
        cases e2 : b.due d with
        | none => rw [e1, e2] at e; cases e
        | some r2 =>
          rw [e1, e2] at e; cases e
          simp only [Kd.depth]
          rcases List.mem_append.mp hx with hx | hx
          · have := iha _ _ e1 x hx; omega
          · have := ihb _ _ e2 x hx; omega
    | _ => simp [Kd.due] at e
  | any y => intro k r e x hx; cases k <;> simp [Kd.due] at e; rw [e.2] at hx; cases hx
  | num => intro k r e x hx; cases k <;> simp [Kd.due] at e; subst e; cases hx
  | tru => intro k r e x hx; cases k <;> simp [Kd.due] at e; subst e; cases hx
def rW (p : Int × Kd) : W := .tup [.int p.1, p.2.toW]
/-- what the law's due hands back -/
def DueR (h : Hp) (acc : GD) (o : Option GD) (r : R W) : Prop := match o with
  | none => ∃ h', r = .ok .non h' ∧ Grow h h'
  | some D => ∃ a h', r = .ok (.ref a) h' ∧ Grow h h' ∧ h'[a]? = some (.lst ((acc ++ D).map rW))
end Tw
namespace K02
open Tw
theorem f11_differ (a b : S) (ps ks : List W) (ha : a ≠ sGap) (hb : a ≠ b) (C : Or) (l : Nat) (h : Hp) : evFn C f11 [.tup (.str a :: ps), .tup (.str b :: ks), .ref l] h = .ok .non h := by
  have ha' : ¬ (a = [103, 97, 112]) := ha
  unfold evFn f11
  simp [atI, ixN, ha', hb]
theorem due_ok : ∀ (p k : Kd) (f l : Nat) (h : Hp) (acc : GD), p.depth ≤ 10 → k.depth ≤ 10 → p.depth + 1 ≤ f → h[l]? = some (.lst (acc.map rW)) → acc.length + 2 ^ p.depth < 5000 → DueR h acc (p.due k) (run T f 11 [p.toW, k.toW, .ref l] h) := by
  have leaf : ∀ (p k : Kd) (f l : Nat) (h : Hp) (acc : GD), p = .num ∨ p = .tru ∨ (∃ x, p = .any x) → p.depth ≤ 10 → k.depth ≤ 10 → 1 ≤ f → h[l]? = some (.lst (acc.map rW)) → DueR h acc (p.due k) (run T f 11 [p.toW, k.toW, .ref l] h) := by
    intro p k f l h acc hpl hd hk hf e
    obtain ⟨f, rfl⟩ : ∃ j, f = j + 1 := ⟨f - 1, by omega⟩
    have ev := Kd.eqV h p k (by omega) (by omega)
    rw [run_eq (fn := f11) rfl]
    rcases hpl with rfl | rfl | ⟨x, rfl⟩
    · cases k with
      | num => exact ⟨l, h, by unfold evFn f11; simp [Kd.toW, evS_for, rngOk, upTo10], Grow.refl _, by simpa [Kd.due] using e⟩
      | _ => exact ⟨h, f11_differ _ _ _ _ (by decide) (by decide) _ _ _, Grow.refl _⟩
    · cases k with
      | tru => exact ⟨l, h, by unfold evFn f11; simp [Kd.toW, evS_for, rngOk, upTo10], Grow.refl _, by simpa [Kd.due] using e⟩
      | _ => exact ⟨h, f11_differ _ _ _ _ (by decide) (by decide) _ _ _, Grow.refl _⟩
    · cases k with
      | any y =>
        by_cases c : x = y
        · subst c
          simp only [decide_true, Kd.toW] at ev
          rw [show (Kd.any x).due (.any x) = some [] by simp [Kd.due]]
          exact ⟨l, h, by unfold evFn f11; simp [Kd.toW, ev], Grow.refl _, by simpa using e⟩
        · have c' : ¬ (Kd.any x = Kd.any y) := fun z => c (by cases z; rfl)
          simp only [c', decide_false, Kd.toW] at ev
          rw [show (Kd.any x).due (.any y) = none by simp [Kd.due, c]]
          exact ⟨h, by unfold evFn f11; simp [Kd.toW, ev], Grow.refl _⟩
      | _ => exact ⟨h, f11_differ _ _ _ _ (by decide) (by decide) _ _ _, Grow.refl _⟩
  have two : ∀ (a b c d : Kd) (w : S) (f l : Nat) (h : Hp) (acc : GD), w = sPair ∨ w = sWork → acc.length + 2 ^ a.depth + 2 ^ b.depth < 5000 → DueR h acc (a.due c) (run T f 11 [a.toW, c.toW, .ref l] h) →
      (∀ (l : Nat) (h : Hp) (acc : GD), h[l]? = some (.lst (acc.map rW)) → acc.length + 2 ^ b.depth < 5000 → DueR h acc (b.due d) (run T f 11 [b.toW, d.toW, .ref l] h)) →
      DueR h acc ((a.due c).bind fun r => (b.due d).map (r ++ ·)) (run T (f + 1) 11 [.tup [.str w, a.toW, b.toW], .tup [.str w, c.toW, d.toW], .ref l] h) := by
    intro a b c d w f l h acc hw hl i1 i2
    have n1 : ¬ (w = [103, 97, 112]) := by rcases hw with rfl | rfl <;> decide
    have n2 : ¬ (w = [97, 110, 121]) := by rcases hw with rfl | rfl <;> decide
    rw [run_eq (fn := f11) rfl]
    unfold DueR at i1 ⊢
    cases c1 : a.due c with
    | none =>
      rw [c1] at i1
      obtain ⟨h1, e1, g1⟩ := i1
      refine ⟨h1, ?_, g1⟩
      unfold evFn f11
      simp [evS_for, rngOk, upTo13, f11l0, e1, n1, n2]
    | some r1 =>
      rw [c1] at i1
      obtain ⟨a1, h1, e1, g1, ea1⟩ := i1
      have l1 := due_len a c r1 c1
      have i2 := i2 a1 h1 (acc ++ r1) ea1 (by simp; omega)
      unfold DueR at i2
      simp only [Option.bind_some]
      cases c2 : b.due d with
      | none =>
        rw [c2] at i2
        obtain ⟨h2, e2, g2⟩ := i2
        refine ⟨h2, ?_, g1.trans g2⟩
        unfold evFn f11
        simp [evS_for, rngOk, upTo13, f11l0, e1, e2, n1, n2]
      | some r2 =>
        rw [c2] at i2
        obtain ⟨a2, h2, e2, g2, ea2⟩ := i2
        refine ⟨a2, h2, ?_, g1.trans g2, by simpa using ea2⟩
        unfold evFn f11
        simp [evS_for, rngOk, upTo13, f11l0, e1, e2, n1, n2]
  intro p
  induction p with
  | num => intro k f l h acc h1 h2 h3 e _; exact leaf _ k f l h acc (.inl rfl) h1 h2 (by omega) e
  | tru => intro k f l h acc h1 h2 h3 e _; exact leaf _ k f l h acc (.inr (.inl rfl)) h1 h2 (by omega) e
  | any x => intro k f l h acc h1 h2 h3 e _; exact leaf _ k f l h acc (.inr (.inr ⟨x, rfl⟩)) h1 h2 (by omega) e
  | gap n =>
    intro k f l h acc h1 h2 h3 e hl
    obtain ⟨f, rfl⟩ : ∃ j, f = j + 1 := ⟨f - 1, by omega⟩
    rw [run_eq (fn := f11) rfl]
    simp only [Kd.due, DueR]
    have z : acc.length + 1 ≤ SZ := by have : 0 < 2 ^ (Kd.gap n).depth := Nat.two_pow_pos _; simp only [SZ]; omega
    have e' := look_app [O.lst [.tup [.int n, k.toW]]] e
    refine ⟨h.length + 1, h ++ [.lst [.tup [.int n, k.toW]]] ++ [.lst (acc.map rW ++ [.tup [.int n, k.toW]])], ?_, (Grow.app _ _).trans (Grow.app _ _), by simp [rW]⟩
    unfold evFn f11
    simp [Kd.toW, e', z]
  | row a ih =>
    intro k f l h acc h1 h2 h3 e hl
    simp only [Kd.depth, Nat.pow_succ] at h1 h3 hl
    obtain ⟨f, rfl⟩ : ∃ j, f = j + 1 := ⟨f - 1, by omega⟩
    rw [run_eq (fn := f11) rfl]
    cases k with
    | row b =>
      simp only [Kd.depth] at h2
      have i := ih b f l h acc (by omega) (by omega) (by omega) e (by have : 0 < 2 ^ a.depth := Nat.two_pow_pos _; omega)
      simp only [Kd.due]
      unfold DueR at i ⊢
      cases c : a.due b with
      | none =>
        rw [c] at i
        obtain ⟨h', ei, gg⟩ := i
        exact ⟨h', by unfold evFn f11; simp [Kd.toW, evS_for, rngOk, upTo12, f11l0, ei], gg⟩
      | some D' =>
        rw [c] at i
        obtain ⟨a', h', ei, gg⟩ := i
        exact ⟨a', h', by unfold evFn f11; simp [Kd.toW, evS_for, rngOk, upTo12, f11l0, ei], gg⟩
    | _ => exact ⟨h, f11_differ _ _ _ _ (by decide) (by decide) _ _ _, Grow.refl _⟩
  | pair a b iha ihb =>
    intro k f l h acc h1 h2 h3 e hl
    have c1 : 2 ^ a.depth ≤ 2 ^ (max a.depth b.depth) := Nat.pow_le_pow_right (by decide) (by omega)
    have c2 : 2 ^ b.depth ≤ 2 ^ (max a.depth b.depth) := Nat.pow_le_pow_right (by decide) (by omega)
    simp only [Kd.depth, Nat.pow_succ] at h1 h3 hl
    obtain ⟨f, rfl⟩ : ∃ j, f = j + 1 := ⟨f - 1, by omega⟩
    cases k with
    | pair c d =>
      simp only [Kd.depth] at h2
      exact two a b c d sPair f l h acc (.inl rfl) (by omega) (iha c f l h acc (by omega) (by omega) (by omega) e (by omega)) fun l h acc e hl => ihb d f l h acc (by omega) (by omega) (by omega) e hl
    | _ => rw [run_eq (fn := f11) rfl]; exact ⟨h, f11_differ _ _ _ _ (by decide) (by decide) _ _ _, Grow.refl _⟩
  | work a b iha ihb =>
    intro k f l h acc h1 h2 h3 e hl
    have c1 : 2 ^ a.depth ≤ 2 ^ (max a.depth b.depth) := Nat.pow_le_pow_right (by decide) (by omega)
    have c2 : 2 ^ b.depth ≤ 2 ^ (max a.depth b.depth) := Nat.pow_le_pow_right (by decide) (by omega)
    simp only [Kd.depth, Nat.pow_succ] at h1 h3 hl
    obtain ⟨f, rfl⟩ : ∃ j, f = j + 1 := ⟨f - 1, by omega⟩
    cases k with
    | work c d =>
      simp only [Kd.depth] at h2
      exact two a b c d sWork f l h acc (.inr rfl) (by omega) (iha c f l h acc (by omega) (by omega) (by omega) e (by omega)) fun l h acc e hl => ihb d f l h acc (by omega) (by omega) (by omega) e hl
    | _ => rw [run_eq (fn := f11) rfl]; exact ⟨h, f11_differ _ _ _ _ (by decide) (by decide) _ _ _, Grow.refl _⟩
end K02

set_option maxHeartbeats 4000000
set_option linter.all false
namespace Tw
theorem Gen.set' {p q : Nat} {h : Hp} {o : O} {kvs : List (W × W)} (g : Gen p h) (e : h[q]? = some (.dic kvs)) (n : q ≠ p) : Gen p (h.set q o) := by
  obtain ⟨a, c, l, ns, e1, e2, e3⟩ := g.ex
  refine ⟨a, c, l, ns, look_set n e1, look_set (fun z => ?_) e2, e3⟩
  rw [← z, e] at e2; cases e2
theorem Gen.lt {p : Nat} {h : Hp} (g : Gen p h) : p < h.length := by obtain ⟨_, _, _, _, e, _⟩ := g.ex; exact look_lt e
end Tw
namespace K02
open Tw
theorem mt1 : T[1]? = some (metFn 0 1 2) := rfl
theorem mt2 : T[2]? = some gapFn := rfl
theorem mt0 : T[0]? = some partsFn := rfl
/-- the frame of a turn -/
abbrev sig (s0 s2 : Option W) (q : Nat) (s4 : Option W) (pt : Kd) (s6 s7 : Option W) (kd : Kd) (o9 o10 o11 o12 o13 o14 o15 o16 : Option W) : Env :=
  [s0, some (.ref 2), s2, some (.ref q), s4, some pt.toW, s6, s7, some kd.toW, o9, o10, o11, o12, o13, o14, o15, o16]
section
variable {s0 s2 s4 s6 s7 : Option W} {q : Nat} {pt kd : Kd} {names : List S}
/-- the gaps that are found ahead -/
theorem ahead_loop {a9 : Nat} (hq : q ≠ 2) (h9 : a9 ≠ 2) (hqa : q ≠ a9) {o11 o12 o13 o14 o15 o16 : Option W} : ∀ (xs : List Int) (h : Hp) (D : GD) (o10 : Option W), Gen 2 h → h[q]? = some (.lst (names.map W.str)) → h[a9]? = some (.dic (gD D)) → GOk D → D.length + xs.length ≤ 100 →
    ∃ (D' : GD) (o10' : Option W) (h' : Hp), turnsL (.var 10) (evSs (run T 11) f12l0) (xs.map W.int) (sig s0 s2 q s4 pt s6 s7 kd (some (.ref a9)) o10 o11 o12 o13 o14 o15 o16) h = .ok (.next (sig s0 s2 q s4 pt s6 s7 kd (some (.ref a9)) o10' o11 o12 o13 o14 o15 o16)) h' ∧
      Gen 2 h' ∧ h'[q]? = some (.lst (names.map W.str)) ∧ h'[a9]? = some (.dic (gD D')) ∧ GOk D' ∧ D'.length ≤ D.length + xs.length ∧ ∀ c o, h[c]? = some o → c ≠ 2 → c ≠ a9 → h'[c]? = some o := by
  intro xs
  induction xs with
  | nil => intro h D o10 g eq e9 go _; exact ⟨D, o10, h, by simp, g, eq, e9, go, by simp, fun _ _ e _ _ => e⟩
  | cons x xs ih =>
    intro h D o10 g eq e9 go hl
    simp only [List.length_cons] at hl
    obtain ⟨k1, h1, r1, d1, _, x1, g1⟩ := kind_ok (names := names) hp3 hp5 hq 1 8 h g eq
    have e9' := x1.keep _ _ e9 h9
    have eq' := x1.keep _ _ eq hq
    have r1' : run T 11 5 [.ref 2, .int 1, .ref q] h = .ok k1.toW h1 := r1
    have lz : (gD D).length < SZ := by simp only [gD, List.length_map, SZ]; omega
    have pl := putG_len x k1 D
    obtain ⟨D', o10', h', e', g', eq'', e9'', go', l', kp⟩ := ih (h1.set a9 (.dic (gD (putG x k1 D)))) (putG x k1 D) (some (.int x)) (g1.set' e9' h9) (look_set hqa.symm eq') (look_set_same e9') (go.put (by omega)) (by omega)
    refine ⟨D', o10', h', ?_, g', eq'', e9'', go', by simp only [List.length_cons]; omega, fun c o e n m => kp c o (look_set (fun z => m z.symm) (x1.keep _ _ e n)) n m⟩
    have one : evSs (run T 11) f12l0 (sig s0 s2 q s4 pt s6 s7 kd (some (.ref a9)) (some (.int x)) o11 o12 o13 o14 o15 o16) h = .ok (.next (sig s0 s2 q s4 pt s6 s7 kd (some (.ref a9)) (some (.int x)) o11 o12 o13 o14 o15 o16)) (h1.set a9 (.dic (gD (putG x k1 D)))) := by
      unfold f12l0
      simp [r1', e9', lz, dput_gD]
    simp only [List.map_cons, turnsL, turn, setT, List.set_cons_succ, List.set_cons_zero, one, R.bind_ok, e']
end
theorem upTo_ints : ∀ (n : Nat) (lo : Int), ∃ l : List Int, upTo lo n = l.map W.int ∧ l.length = n
  | 0, lo => ⟨[], rfl, rfl⟩
  | n + 1, lo => by
    obtain ⟨l, e, hl⟩ := upTo_ints n (lo + 1)
    exact ⟨lo :: l, by simp [upTo, e], by simp [hl]⟩
end K02

set_option maxHeartbeats 4000000
set_option linter.all false
namespace Tw
theorem evSs_app (C : Or) : ∀ (a b : List St) (σ : Env) (h : Hp), evSs C (a ++ b) σ h = (evSs C a σ h).bind fun f h => match f with
    | .next σ => evSs C b σ h
    | f => .ok f h
  | [], b, σ, h => by simp
  | s :: r, b, σ, h => by
    rw [List.cons_append, evSs_cons, evSs_cons]
    cases evS C s σ h with
    | ok f h1 =>
      simp only [R.bind_ok]
      cases f with
      | next σ1 => simp only [evSs_app C r b σ1 h1]
      | _ => rfl
    | _ => rfl
end Tw
namespace K02
open Tw
def fA : List St := [.set 9 (.dic .nil), .for (.var 10) (.rng (.call 3 (.cons (.var 1) (.cons (.cst (.int 3)) .nil)))) f12l0, .set 11 (.call 11 (.cons (.var 5) (.cons (.var 8) (.cons (.lst .nil) .nil))))]
def st4 : St := .iff (.and (.cmp .notN (.var 11) (.cst .non)) (.cmp .eq (.call 3 (.cons (.var 1) (.cons (.cst (.int 2)) .nil))) (.cst (.int 0)))) [.set 9 (.dic .nil), .for (.var 12) (.seq (.sl (.var 11) .none (.some (.cst (.int 1))))) f12l1] []
def fB : List St := [.set 13 (.cst .non), .iff (.cmp .notN (.var 11) (.cst .non)) [.set 13 (.blt .dict (.var 9)), .for (.two 10 14) (.seq (.var 11)) f12l2] []]
def fC : List St := [.set 15 (.blt .dict (.var 9)), .set 16 (.call 1 (.cons (.var 5) (.cons (.var 8) (.cons (.var 15) .nil)))), .iff (.or (.cmp .ne (.var 15) (.var 9)) (.and (.cmp .isN (.var 13) (.cst .non)) (.cmp .notN (.var 16) (.cst .non)))) [.ret (.cst (.bl false))] [], .iff (.and (.cmp .notN (.var 13) (.cst .non)) (.or (.not (.isa (.var 16) .dict)) (.cmp .ne (.var 16) (.var 13)))) [.ret (.cst (.bl false))] []]
theorem f12l3_eq : f12l3 = fA ++ (st4 :: (fB ++ fC)) := rfl
section
variable {s0 s2 s4 s6 s7 : Option W} {q : Nat} {pt kd : Kd} {names : List S}
/-- what stands in due -/
def DueIs (D : GD) (rows : GD) (i d0 : Nat) (o13 : Option W) (h : Hp) : Prop := match (rows.take i).foldl stepG (some D) with
  | some D' => o13 = some (.ref d0) ∧ h[d0]? = some (.dic (gD D')) ∧ GOk D' ∧ D'.length ≤ D.length + i
  | none => o13 = some .non
theorem due_loop {d0 L : Nat} {rows D : GD} {h0 : Hp} {o9 o10 o12 o14 o15 o16 : Option W} (hL : L ≠ d0) (eL : h0[L]? = some (.lst (rows.map rW))) (ed : h0[d0]? = some (.dic (gD D))) (go : GOk D) (dr : ∀ x ∈ rows, x.2.depth ≤ 10) (lr : D.length + rows.length ≤ 900) :
    ∃ (o10' o13' o14' : Option W) (h' : Hp), turnsA L (.two 10 14) (evSs (run T 11) f12l2) rows.length 0 (sig s0 s2 q s4 pt s6 s7 kd o9 o10 (some (.ref L)) o12 (some (.ref d0)) o14 o15 o16) h0 =
      .ok (.next (sig s0 s2 q s4 pt s6 s7 kd o9 o10' (some (.ref L)) o12 o13' o14' o15 o16)) h' ∧ Ext d0 h0 h' ∧ DueIs D rows rows.length d0 o13' h' := by
  obtain ⟨σ', h', e', o10', o13', o14', rfl, xx, dd⟩ := turnsA_inv (a := L) (t := .two 10 14) (k := evSs (run T 11) f12l2) (xs := rows.map rW)
    (fun i σ h => ∃ o10' o13' o14' : Option W, σ = sig s0 s2 q s4 pt s6 s7 kd o9 o10' (some (.ref L)) o12 o13' o14' o15 o16 ∧ Ext d0 h0 h ∧ DueIs D rows i d0 o13' h)
    (fun i σ h ⟨_, _, _, _, x, _⟩ => lstAt_of' (x.keep _ _ eL hL))
    (fun i σ h x ⟨o10', o13', o14', eσ, xx, dd⟩ hx => by
      subst eσ
      rw [List.getElem?_map] at hx
      obtain ⟨⟨n, k⟩, hy, rfl⟩ : ∃ y, rows[i]? = some y ∧ x = rW y := by
        cases e : rows[i]? with
        | none => rw [e] at hx; cases hx
        | some y => rw [e] at hx; cases hx; exact ⟨y, rfl, rfl⟩
      have hi : i < rows.length := (List.getElem?_eq_some_iff.mp hy).1
      have tk : rows.take (i + 1) = rows.take i ++ [(n, k)] := by rw [List.take_add_one, hy]; rfl
      have dk := dr _ (List.mem_of_getElem? hy)
      simp only at dk
      have fs : (rows.take (i + 1)).foldl stepG (some D) = stepG ((rows.take i).foldl stepG (some D)) (n, k) := by rw [tk, List.foldl_append]; rfl
      refine ⟨_, rfl, ?_⟩
      unfold DueIs at dd
      cases c : (rows.take i).foldl stepG (some D) with
      | none =>
        rw [c] at dd
        simp only at dd
        subst dd
        refine ⟨_, h, ?_, some (.int n), some .non, some k.toW, rfl, xx, ?_⟩
        · unfold f12l2
          simp
        · unfold DueIs; rw [fs, c]; rfl
      | some D' =>
        rw [c] at dd
        obtain ⟨rfl, e1, g1, l1⟩ := dd
        have dg := dget_gD n D'
        have lz : (gD D').length < SZ := by simp only [gD, List.length_map, SZ]; omega
        have ad : ((D'.lookup n).getD k).depth ≤ 10 := by
          cases c : D'.lookup n with
          | none => exact dk
          | some u => exact g1.dp _ (lookupG_mem c)
        have gd : (Option.map Kd.toW (D'.lookup n)).getD k.toW = ((D'.lookup n).getD k).toW := by cases D'.lookup n <;> rfl
        have ev := Kd.eqV h ((D'.lookup n).getD k) k (by omega) (by omega)
        by_cases cc : (D'.lookup n).getD k = k
        · have ev' := Kd.eqV h k k (by omega) (by omega)
          rw [cc] at gd
          refine ⟨_, h.set d0 (.dic (gD (putG n k D'))), ?_, some (.int n), some (.ref d0), some k.toW, rfl, xx.trans (Ext.set _ _ _), ?_⟩
          · unfold f12l2
            simp [e1, dg, gd, ev', lz, dput_gD]
          · unfold DueIs; rw [fs, c]
            simp only [stepG, Option.bind_some, gap1, if_pos cc]
            exact ⟨trivial, look_set_same e1, g1.put dk, by have := putG_len n k D'; omega⟩
        · simp only [cc, decide_false] at ev
          refine ⟨_, h, ?_, some (.int n), some .non, some k.toW, rfl, xx, ?_⟩
          · unfold f12l2
            simp [e1, dg, gd, ev]
          · unfold DueIs; rw [fs, c]
            simp only [stepG, Option.bind_some, gap1, if_neg cc])
    rows.length 0 (sig s0 s2 q s4 pt s6 s7 kd o9 o10 (some (.ref L)) o12 (some (.ref d0)) o14 o15 o16) h0 (by simp) ⟨o10, _, o14, rfl, Ext.refl _ _, by
      unfold DueIs
      simp only [List.take_zero, List.foldl_nil]
      exact ⟨trivial, ed, go, by omega⟩⟩
  refine ⟨o10', o13', o14', h', e', xx, by simpa using dd⟩
/-- a turn of the law -/
theorem turn_ok (hq : q ≠ 2) (hpt : pt.depth ≤ 3) (hkd : kd.depth ≤ 4) (h : Hp) (g : Gen 2 h) (eq : h[q]? = some (.lst (names.map W.str))) (o9 o10 o11 o12 o13 o14 o15 o16 : Option W) :
    ∃ (p9 p10 p11 p12 p13 p14 p15 p16 : Option W) (h' : Hp), evSs (run T 11) f12l3 (sig s0 s2 q s4 pt s6 s7 kd o9 o10 o11 o12 o13 o14 o15 o16) h = .ok (.next (sig s0 s2 q s4 pt s6 s7 kd p9 p10 p11 p12 p13 p14 p15 p16)) h' ∧ Gen 2 h' ∧ h'[q]? = some (.lst (names.map W.str)) ∧ ∀ c o, h[c]? = some o → c ≠ 2 → h'[c]? = some o := by
  have nxt := nxt_run hp3 10 2
  have hlq := look_lt eq
  have gl := g.lt
  -- the gaps ahead
  obtain ⟨m, h1, r1, a1, b1, x1, g1⟩ := nxt 3 (h ++ [O.dic (gD [])]) (g.ext _) (by decide)
  have eq1 := x1.keep _ _ (look_app [O.dic (gD [])] eq) hq
  have e91 : h1[h.length]? = some (.dic (gD [])) := x1.keep _ _ (look_new _ _) (by omega)
  obtain ⟨xs, exs, lxs⟩ := upTo_ints m.toNat 0
  obtain ⟨D1, p10, h2, e2, g2, eq2, e92, go1, l1, kp2⟩ := ahead_loop (s0 := s0) (s2 := s2) (s4 := s4) (s6 := s6) (s7 := s7) (pt := pt) (kd := kd) (names := names) (a9 := h.length) hq (by omega) (by omega) (o11 := o11) (o12 := o12) (o13 := o13) (o14 := o14) (o15 := o15) (o16 := o16) xs h1 [] o10 g1 eq1 e91 GOk.nil (by simp; omega)
  rw [← exs] at e2
  have k2 : ∀ c o, h[c]? = some o → c ≠ 2 → h2[c]? = some o := fun c o e n => kp2 c o (x1.keep _ _ (look_app _ e) n) n (by have := look_lt e; omega)
  have hr : rngOk m = true := by simp [rngOk]; omega
  have ll1 : D1.length ≤ 3 := by simp at l1; omega
  -- the rows
  have dd := due_ok pt kd 11 h2.length (h2 ++ [O.lst []]) [] (by omega) (by omega) (by omega) (by simp) (by have : 2 ^ pt.depth ≤ 2 ^ 3 := Nat.pow_le_pow_right (by decide) hpt; simp; omega)
  have ptl : 2 ^ pt.depth ≤ 2 ^ 3 := Nat.pow_le_pow_right (by decide) hpt
  have md := met_due pt kd
  unfold DueR at dd
  cases cd : pt.due kd with
  | none =>
    rw [cd] at dd
    obtain ⟨h3, e3, g3⟩ := dd
    have gA : Grow h2 h3 := (Grow.app _ _).trans g3
    have e93 := gA.keep _ _ e92
    have mt := met_ok mt0 mt1 mt2 pt kd 11 h3.length (h3 ++ [O.dic (gD D1)]) D1 (by omega) (by omega) (by omega) (look_new _ _) (by omega) go1
    rw [md, cd] at mt
    obtain ⟨h4, e4, g4⟩ := mt
    have gB : Grow h2 h4 := (gA.trans (Grow.app _ _)).trans g4
    have eqd := eqV_gD (h := h4) (a := h3.length) (b := h.length) (g4.keep _ _ (look_new _ _)) (gB.keep _ _ e92) go1
    refine ⟨some (.ref h.length), p10, some .non, o12, some .non, o14, some (.ref h3.length), some .non, h4, ?_, gB.gen g2, gB.keep _ _ eq2, fun c o e n => gB.keep _ _ (k2 c o e n)⟩
    unfold f12l3
    simp only [gD, List.map_nil] at r1
    simp only [gD] at e93 e4 
    simp [sig, evS_for, r1, hr, e2, e3, e93, gD, e4, eqd]
  | some rows =>
    rw [cd] at dd
    obtain ⟨L, h3, e3, g3, eL⟩ := dd
    simp only [List.nil_append] at eL
    have gA : Grow h2 h3 := (Grow.app _ _).trans g3
    have e93 := gA.keep _ _ e92
    have eq3 := gA.keep _ _ eq2
    have gn3 := gA.gen g2
    have rl := due_len pt kd rows cd
    have rd := due_deep pt kd rows cd
    have lr8 : rows.length ≤ 8 := by omega
    -- the first row, maybe
    have mid : ∃ (a9 : Nat) (D : GD) (p12 : Option W) (h5 : Hp), evS (run T 11) st4 (sig s0 s2 q s4 pt s6 s7 kd (some (.ref h.length)) p10 (some (.ref L)) o12 o13 o14 o15 o16) h3 = .ok (.next (sig s0 s2 q s4 pt s6 s7 kd (some (.ref a9)) p10 (some (.ref L)) p12 o13 o14 o15 o16)) h5 ∧
        h5[a9]? = some (.dic (gD D)) ∧ GOk D ∧ D.length ≤ 3 ∧ Gen 2 h5 ∧ h5[q]? = some (.lst (names.map W.str)) ∧ h5[L]? = some (.lst (rows.map rW)) ∧ ∀ c o, h3[c]? = some o → c ≠ 2 → h5[c]? = some o := by
      obtain ⟨v, h4, r4, a4, b4, x4, g4⟩ := nxt 2 h3 gn3 (by decide)
      have L2 : L ≠ 2 := fun z => by
        obtain ⟨c0, c1, l, ns, e, _⟩ := gn3.ex
        rw [z, e] at eL
        cases rows with
        | nil => cases eL
        | cons a r => simp [rW] at eL
      have eL4 := x4.keep _ _ eL L2
      have eq4 := x4.keep _ _ eq3 hq
      have e94 := x4.keep _ _ e93 (by omega)
      rcases (by omega : v = 0 ∨ v = 1) with rfl | rfl
      · have g4l := g4.lt
        cases rows with
        | nil =>
          refine ⟨h4.length, [], o12, h4 ++ [O.dic [], O.lst []], ?_, by simp [gD], GOk.nil, by simp, g4.ext _, look_app _ eq4, look_app _ eL4, fun c o e n => look_app _ (x4.keep _ _ e n)⟩
          unfold st4
          have eL4' : (h4 ++ [O.dic []])[L]? = some (.lst []) := look_app _ eL4
          have none' : turnsA (h4.length + 1) (.var 12) (evSs (run T 11) f12l1) 0 0 (sig s0 s2 q s4 pt s6 s7 kd (some (.ref h4.length)) p10 (some (.ref L)) o12 o13 o14 o15 o16) (h4 ++ [O.dic [], O.lst []]) =
              .ok (.next (sig s0 s2 q s4 pt s6 s7 kd (some (.ref h4.length)) p10 (some (.ref L)) o12 o13 o14 o15 o16)) (h4 ++ [O.dic [], O.lst []]) := by
            have l1 : lstAt (h4 ++ [O.dic [], O.lst []]) (h4.length + 1) = some [] := lstAt_of' (by simp)
            unfold turnsA
            simp [l1]
          simp [sig, r4, evS_for, eL4', cut, none']
        | cons a r =>
          obtain ⟨n, k⟩ := a
          have dk : k.depth ≤ 10 := by have := rd (n, k) List.mem_cons_self; simp only at this; omega
          have go : GOk [(n, k)] := ⟨by simp, by intro p hp; simp at hp; subst hp; exact dk⟩
          refine ⟨h4.length, [(n, k)], some (rW (n, k)), (h4 ++ [O.dic [(.int n, k.toW)]]) ++ [O.lst [rW (n, k)]], ?_, by simp [gD], go, by simp, (g4.ext _).ext _, look_app _ (look_app _ eq4), look_app _ (look_app _ eL4), fun c o e n => look_app _ (look_app _ (x4.keep _ _ e n))⟩
          unfold st4
          have eL4' : (h4 ++ [O.dic []])[L]? = some (.lst (rW (n, k) :: r.map rW)) := look_app _ eL4
          have st : ((h4 ++ [O.dic []]) ++ [O.lst [rW (n, k)]]).set h4.length (O.dic [(.int n, k.toW)]) = (h4 ++ [O.dic [(.int n, k.toW)]]) ++ [O.lst [rW (n, k)]] := by
            simp [List.set_append]
          have cu : cut (rW (n, k) :: r.map rW) none (some 1) = [rW (n, k)] := by simp [cut, sIx]
          have lk : ((h4 ++ [O.dic []]) ++ [O.lst [rW (n, k)]])[h4.length]? = some (O.dic []) := look_app _ (look_new _ _)
          have one : turnsA (h4.length + 1) (.var 12) (evSs (run T 11) f12l1) 1 0 (sig s0 s2 q s4 pt s6 s7 kd (some (.ref h4.length)) p10 (some (.ref L)) o12 o13 o14 o15 o16) ((h4 ++ [O.dic []]) ++ [O.lst [rW (n, k)]]) =
              .ok (.next (sig s0 s2 q s4 pt s6 s7 kd (some (.ref h4.length)) p10 (some (.ref L)) (some (rW (n, k))) o13 o14 o15 o16)) ((h4 ++ [O.dic [(.int n, k.toW)]]) ++ [O.lst [rW (n, k)]]) := by
            have l1 : lstAt ((h4 ++ [O.dic []]) ++ [O.lst [rW (n, k)]]) (h4.length + 1) = some [rW (n, k)] := lstAt_of' (by simp)
            have l2 : lstAt ((h4 ++ [O.dic [(.int n, k.toW)]]) ++ [O.lst [rW (n, k)]]) (h4.length + 1) = some [rW (n, k)] := lstAt_of' (by simp)
            have bd : evSs (run T 11) f12l1 (sig s0 s2 q s4 pt s6 s7 kd (some (.ref h4.length)) p10 (some (.ref L)) (some (rW (n, k))) o13 o14 o15 o16) ((h4 ++ [O.dic []]) ++ [O.lst [rW (n, k)]]) =
                .ok (.next (sig s0 s2 q s4 pt s6 s7 kd (some (.ref h4.length)) p10 (some (.ref L)) (some (rW (n, k))) o13 o14 o15 o16)) ((h4 ++ [O.dic [(.int n, k.toW)]]) ++ [O.lst [rW (n, k)]]) := by
              rw [← st]
              unfold f12l1
              simp [sig, rW, SZ]
            unfold turnsA
            simp only [l1, List.getElem?_cons_zero, turn, setT, sig, List.set_cons_succ, List.set_cons_zero]
            simp only [sig] at bd
            rw [bd]
            simp only [R.bind_ok]
            unfold turnsA
            simp only [l2]
            simp
          simp only [List.append_assoc, List.cons_append, List.nil_append] at one
          simp [sig, r4, evS_for, eL4', cu, one]
      · refine ⟨h.length, D1, o12, h4, ?_, e94, go1, by omega, g4, eq4, eL4, fun c o e n => x4.keep _ _ e n⟩
        unfold st4
        simp [sig, r4]
    obtain ⟨a9, D, p12, h5, e5, e95, go5, l5, g5, eq5, eL5, kp5⟩ := mid
    have k5 : ∀ c o, h[c]? = some o → c ≠ 2 → h5[c]? = some o := fun c o e n => kp5 c o (gA.keep _ _ (k2 c o e n)) n
    have La := look_lt eL5
    have l9 := look_lt e95
    have e3' : run T 11 11 [pt.toW, kd.toW, .ref h2.length] (h2 ++ [O.lst []]) = .ok (.ref L) h3 := e3
    have eA : evSs (run T 11) fA (sig s0 s2 q s4 pt s6 s7 kd o9 o10 o11 o12 o13 o14 o15 o16) h = .ok (.next (sig s0 s2 q s4 pt s6 s7 kd (some (.ref h.length)) p10 (some (.ref L)) o12 o13 o14 o15 o16)) h3 := by
      unfold fA
      simp only [gD, List.map_nil] at r1
      simp [sig, evS_for, r1, hr, e2, e3']
    -- what is due
    obtain ⟨q10, q13, q14, h7, e7, x7, di⟩ := due_loop (s0 := s0) (s2 := s2) (s4 := s4) (s6 := s6) (s7 := s7) (q := q) (pt := pt) (kd := kd) (d0 := h5.length) (L := L) (rows := rows) (D := D) (h0 := h5 ++ [O.dic (gD D)]) (o9 := some (.ref a9)) (o10 := p10) (o12 := p12) (o14 := o14) (o15 := o15) (o16 := o16)
      (by omega) (look_app _ eL5) (look_new _ _) go5 (fun x hx => by have := rd x hx; omega) (by omega)
    have g5l := g5.lt
    have hq5 := look_lt eq5
    have eB : evSs (run T 11) fB (sig s0 s2 q s4 pt s6 s7 kd (some (.ref a9)) p10 (some (.ref L)) p12 o13 o14 o15 o16) h5 = .ok (.next (sig s0 s2 q s4 pt s6 s7 kd (some (.ref a9)) q10 (some (.ref L)) p12 q13 q14 o15 o16)) h7 := by
      unfold fB
      have eL6 : (h5 ++ [O.dic (gD D)])[L]? = some (.lst (rows.map rW)) := look_app _ eL5
      simp only [sig] at e7
      simp [sig, e95, evS_for, eL6, e7]
    have e97 : h7[a9]? = some (.dic (gD D)) := x7.keep _ _ (look_app _ e95) (by omega)
    have eq7 : h7[q]? = some (.lst (names.map W.str)) := x7.keep _ _ (look_app _ eq5) (by omega)
    have g7 : Gen 2 h7 := by
      obtain ⟨c0, c1, l, ns, e, e', n⟩ := (g5.ext [O.dic (gD D)]).ex
      refine ⟨c0, c1, l, ns, x7.keep _ _ e (by omega), x7.keep _ _ e' (fun z => ?_), n⟩
      rw [z, look_new] at e'; cases e'
    have mt := met_ok mt0 mt1 mt2 pt kd 11 h7.length (h7 ++ [O.dic (gD D)]) D (by omega) (by omega) (by omega) (look_new _ _) (by omega) go5
    rw [md, cd] at mt
    unfold DueIs at di
    rw [List.take_length] at di
    simp only [Option.bind_some] at mt
    cases cf : rows.foldl stepG (some D) with
    | none =>
      rw [cf] at mt di
      obtain ⟨h9, e9, g9⟩ := mt
      simp only at di
      subst di
      have gC : Grow h7 h9 := (Grow.app _ _).trans g9
      have eqd := eqV_gD (h := h9) (a := h7.length) (b := a9) (g9.keep _ _ (look_new _ _)) (gC.keep _ _ e97) go5
      have eC : evSs (run T 11) fC (sig s0 s2 q s4 pt s6 s7 kd (some (.ref a9)) q10 (some (.ref L)) p12 (some .non) q14 o15 o16) h7 = .ok (.next (sig s0 s2 q s4 pt s6 s7 kd (some (.ref a9)) q10 (some (.ref L)) p12 (some .non) q14 (some (.ref h7.length)) (some .non))) h9 := by
        unfold fC
        simp [sig, e97, e9, eqd]
      refine ⟨some (.ref a9), q10, some (.ref L), p12, some .non, q14, some (.ref h7.length), some .non, h9, ?_, gC.gen g7, gC.keep _ _ eq7, fun c o e n => gC.keep _ _ (x7.keep _ _ (look_app _ (k5 c o e n)) (by have := look_lt (k5 c o e n); omega))⟩
      rw [f12l3_eq, evSs_app, eA]
      simp only [R.bind_ok]
      rw [evSs_cons, e5]
      simp only [R.bind_ok]
      rw [evSs_app, eB]
      simp only [R.bind_ok]
      exact eC
    | some D2 =>
      rw [cf] at mt di
      obtain ⟨a16, h9, e9, g9, la16, e16⟩ := mt
      obtain ⟨rfl, ed7, go7, _⟩ := di
      have gC : Grow h7 h9 := (Grow.app _ _).trans g9
      have eqd := eqV_gD (h := h9) (a := h7.length) (b := a9) (g9.keep _ _ (look_new _ _)) (gC.keep _ _ e97) go5
      have eqf := eqV_gD (h := h9) (a := a16) (b := h5.length) e16 (gC.keep _ _ ed7) go7
      have eC : evSs (run T 11) fC (sig s0 s2 q s4 pt s6 s7 kd (some (.ref a9)) q10 (some (.ref L)) p12 (some (.ref h5.length)) q14 o15 o16) h7 = .ok (.next (sig s0 s2 q s4 pt s6 s7 kd (some (.ref a9)) q10 (some (.ref L)) p12 (some (.ref h5.length)) q14 (some (.ref h7.length)) (some (.ref a16)))) h9 := by
        unfold fC
        simp [sig, e97, e9, eqd, eqf, e16]
      refine ⟨some (.ref a9), q10, some (.ref L), p12, some (.ref h5.length), q14, some (.ref h7.length), some (.ref a16), h9, ?_, gC.gen g7, gC.keep _ _ eq7, fun c o e n => gC.keep _ _ (x7.keep _ _ (look_app _ (k5 c o e n)) (by have := look_lt (k5 c o e n); omega))⟩
      rw [f12l3_eq, evSs_app, eA]
      simp only [R.bind_ok]
      rw [evSs_cons, e5]
      simp only [R.bind_ok]
      rw [evSs_app, eB]
      simp only [R.bind_ok]
      exact eC
end
end K02

set_option maxHeartbeats 4000000
set_option linter.all false
namespace K02
open Tw
theorem law_ok (ns : List Int) : ∃ h', run T 12 12 [.ref 0] [.frz (ns.map .int)] = .ok (.bl true) h' := by
  rw [run_eq (fn := f12) rfl]
  have g0 : Gen 2 [O.frz (ns.map .int), .lst (ns.map .int), .lst [.int 11, .ref 1, .int 0]] := ⟨11, 0, 1, ns, rfl, rfl, by decide⟩
  have nxt := nxt_run hp3 10 2
  obtain ⟨wd, h1, r1, b1, x1, g1⟩ := word_ok (nxt_run hp3 9 2) _ g0
  have r1' : run T 11 4 [.ref 2] [O.frz (ns.map .int), .lst (ns.map .int), .lst [.int 11, .ref 1, .int 0]] = .ok (.str wd) h1 := by rw [run_eq hp4]; exact r1
  generalize ew : cut wd none (some 7) = w7
  have lw : w7.length ≤ 8 := by rw [← ew]; simp [cut, sIx]; omega
  generalize en : [w7 ++ [97], w7 ++ [98]] = names
  have h1l := g1.lt
  have hq : h1.length ≠ 2 := by omega
  have g2 := g1.ext [O.lst (names.map W.str)]
  have eq2 : (h1 ++ [O.lst (names.map W.str)])[h1.length]? = some (.lst (names.map W.str)) := look_new _ _
  obtain ⟨kd, h3, r3, d3, o3, x3, g3⟩ := kind_ok (names := names) hp3 hp5 hq 3 6 _ g2 eq2
  have eq3 := x3.keep _ _ eq2 hq
  obtain ⟨pt, h4, r4, g4, x4, d4⟩ := gapped_ok g3 d3
  have eq4 := x4.keep _ _ eq3 hq
  obtain ⟨b, h5, r5, gg5, e5⟩ := places_ok kd 11 h4 (by omega) (by omega)
  have g5 := gg5.gen g4
  have eq5 := gg5.keep _ _ eq4
  have pos : 0 < (kd.places.length : Int) := by cases kd <;> simp [Kd.places] <;> omega
  obtain ⟨v, h6, r6, a6, b6, x6, g6⟩ := nxt (kd.places.length : Int) h5 g5 pos
  have eq6 := x6.keep _ _ eq5 hq
  have b2 : b ≠ 2 := fun z => by
    obtain ⟨c0, c1, l, ns', e, _⟩ := g5.ex
    rw [z, e] at e5
    cases hp : kd.places with
    | nil => rw [hp] at e5; cases e5
    | cons a r => rw [hp] at e5; simp [plW] at e5
  have e6 := x6.keep _ _ e5 b2
  obtain ⟨y, hy, ey⟩ := atI_lt (kd.places.map plW) v a6 (by simpa using b6)
  obtain ⟨p, hpp, rfl⟩ := List.mem_map.mp hy
  obtain ⟨k1, h7, r7, d7, o7, x7, g7⟩ := kind_ok (names := names) hp3 hp5 hq 1 8 h6 g6 eq6
  have eq7 := x7.keep _ _ eq6 hq
  have pq := places_plen kd p hpp
  have pu := put_ok k1 h7 p kd 11 hpp (by omega)
  have pd := putAt_depth k1 kd p hpp
  generalize eo : kd.putAt p k1 = other at pu pd
  obtain ⟨k2, h8, r8, d8, o8, x8, g8⟩ := kind_ok (names := names) hp3 hp5 hq 2 7 h7 g7 eq7
  have eq8 := x8.keep _ _ eq7 hq
  have g8l := g8.lt
  have g9 := g8.ext [O.lst [kd.toW, other.toW, k2.toW]]
  have eq9 := look_app [O.lst [kd.toW, other.toW, k2.toW]] eq8
  have eL : (h8 ++ [O.lst [kd.toW, other.toW, k2.toW]])[h8.length]? = some (.lst [kd.toW, other.toW, k2.toW]) := look_new _ _
  -- three turns
  have L2 : h8.length ≠ 2 := by omega
  obtain ⟨p9, p10, p11, p12, p13, p14, p15, p16, h10, t1, g10, eq10, kp10⟩ := turn_ok (s0 := some (.ref 0)) (s2 := some (.str w7)) (s4 := some kd.toW) (s6 := some (.ref b)) (s7 := some other.toW) (pt := pt) (kd := kd) (names := names) hq d4 (by omega) _ g9 eq9 none none none none none none none none
  have eL10 := kp10 _ _ eL L2
  obtain ⟨q9, q10, q11, q12, q13, q14, q15, q16, h11, t2, g11, eq11, kp11⟩ := turn_ok (s0 := some (.ref 0)) (s2 := some (.str w7)) (s4 := some kd.toW) (s6 := some (.ref b)) (s7 := some other.toW) (pt := pt) (kd := other) (names := names) hq d4 (by omega) _ g10 eq10 p9 p10 p11 p12 p13 p14 p15 p16
  have eL11 := kp11 _ _ eL10 L2
  obtain ⟨u9, u10, u11, u12, u13, u14, u15, u16, h12, t3, g12, eq12, kp12⟩ := turn_ok (s0 := some (.ref 0)) (s2 := some (.str w7)) (s4 := some kd.toW) (s6 := some (.ref b)) (s7 := some other.toW) (pt := pt) (kd := k2) (names := names) hq d4 (by omega) _ g11 eq11 q9 q10 q11 q12 q13 q14 q15 q16
  have eL12 := kp12 _ _ eL11 L2
  have loop : turnsA h8.length (.var 8) (evSs (run T 11) f12l3) 3 0 [some (.ref 0), some (.ref 2), some (.str w7), some (.ref h1.length), some kd.toW, some pt.toW, some (.ref b), some other.toW, none, none, none, none, none, none, none, none, none] (h8 ++ [O.lst [kd.toW, other.toW, k2.toW]]) =
      .ok (.next (sig (some (.ref 0)) (some (.str w7)) h1.length (some kd.toW) pt (some (.ref b)) (some other.toW) k2 u9 u10 u11 u12 u13 u14 u15 u16)) h12 := by
    simp only [sig] at t1 t2 t3 ⊢
    unfold turnsA
    simp only [lstAt_of' eL, List.getElem?_cons_zero, turn, setT, List.set_cons_succ, List.set_cons_zero, t1, R.bind_ok]
    unfold turnsA
    simp only [lstAt_of' eL10, Nat.zero_add, List.getElem?_cons_zero, List.getElem?_cons_succ, turn, setT, List.set_cons_succ, List.set_cons_zero, t2, R.bind_ok]
    unfold turnsA
    simp only [lstAt_of' eL11, Nat.reduceAdd, List.getElem?_cons_zero, List.getElem?_cons_succ, turn, setT, List.set_cons_succ, List.set_cons_zero, t3, R.bind_ok]
    unfold turnsA
    simp [lstAt_of' eL12]
  -- the last word
  have mt := met_ok mt0 mt1 mt2 .num .num 11 h12.length (h12 ++ [O.dic (gD [])]) [] (by decide) (by decide) (by decide) (look_new _ _) (by decide) GOk.nil
  obtain ⟨a, h13, e13, g13, la, ea⟩ := mt
  have e13' : run T 11 1 [.tup [.str sNumber], .tup [.str sNumber], .ref h12.length] (h12 ++ [O.dic []]) = .ok (.ref a) h13 := e13
  have ea' : (h13 ++ [O.dic []])[a]? = some (.dic (gD [])) := look_app _ ea
  have eqz := eqV_gD (h := h13 ++ [O.dic []]) (a := a) (b := h13.length) ea' (look_new _ _) GOk.nil
  refine ⟨h13 ++ [O.dic []], ?_⟩
  have c1 : w7.length + 1 ≤ SZ := Nat.le_trans (Nat.add_le_add_right lw 1) (by decide)
  have c5 : wd.length ≤ SZ := Nat.le_trans b1 (by decide)
  have r3' : run T 11 5 [.ref 2, .int 3, .ref h1.length] (h1 ++ [O.lst (names.map W.str)]) = .ok kd.toW h3 := r3
  have r7' : run T 11 5 [.ref 2, .int 1, .ref h1.length] h6 = .ok k1.toW h7 := r7
  have r8' : run T 11 5 [.ref 2, .int 2, .ref h1.length] h7 = .ok k2.toW h8 := r8
  unfold evFn f12
  subst en
  simp only [List.map_cons, List.map_nil] at r3'
  simp only [sig] at loop
  simp [evS_for, r1', ew, c1, c5, r3', r4, r5, e5, r6, e6, ey, r7', pu, r8', loop, e13', eqz]
end K02

set_option Elab.async false
set_option maxRecDepth 100000
namespace K02
open PySem L2 TwS PyProof.Rows
def top (i : Nat) : Stmt := PySem.Challenge.pw_twomeet_k02_gaps_met.main.body.getD i (.Pass ⟨0, 0, 0, 0⟩)
abbrev s0 : Stmt := top 1
abbrev d0 : Dsc := ⟨"parts", s0, ["kind"], ["kind"]⟩
abbrev s1 : Stmt := top 2
abbrev d1 : Dsc := ⟨"met", s1, ["pattern", "kind", "found", "within", "known", "part", "other"], ["pattern", "kind", "found"]⟩
abbrev s2 : Stmt := top 3
abbrev d2 : Dsc := ⟨"met_gap", s2, ["number", "kind", "found", "known"], ["number", "kind", "found"]⟩
abbrev s3 : Stmt := top 5
abbrev d3 : Dsc := ⟨"_law_next", s3, ["_law_h", "_law_many", "_law_cell"], ["_law_h", "_law_many"]⟩
abbrev s4 : Stmt := top 6
abbrev d4 : Dsc := ⟨"_law_word", s4, ["_law_h", "_law_some"], ["_law_h"]⟩
abbrev s5 : Stmt := top 7
abbrev d5 : Dsc := ⟨"_law_kind", s5, ["_law_h", "_law_deep", "_law_names", "_law_way", "_law_one"], ["_law_h", "_law_deep", "_law_names"]⟩
abbrev s6 : Stmt := top 8
abbrev d6 : Dsc := ⟨"_law_places", s6, ["_law_kind_here", "_law_found", "_law_k"], ["_law_kind_here"]⟩
abbrev s7 : Stmt := top 9
abbrev d7 : Dsc := ⟨"_law_part", s7, ["_law_kind_here", "_law_place", "_law_k"], ["_law_kind_here", "_law_place"]⟩
abbrev s8 : Stmt := top 10
abbrev d8 : Dsc := ⟨"_law_put", s8, ["_law_kind_here", "_law_place", "_law_new"], ["_law_kind_here", "_law_place", "_law_new"]⟩
abbrev s9 : Stmt := top 11
abbrev d9 : Dsc := ⟨"_law_gapped", s9, ["_law_h", "_law_kind_here", "_law_turn", "_law_ways"], ["_law_h", "_law_kind_here"]⟩
abbrev s10 : Stmt := top 12
abbrev d10 : Dsc := ⟨"_law_whole", s10, ["_law_kind_here"], ["_law_kind_here"]⟩
abbrev s11 : Stmt := top 13
abbrev d11 : Dsc := ⟨"_law_due", s11, ["_law_pattern", "_law_kind_here", "_law_found", "_law_k"], ["_law_pattern", "_law_kind_here", "_law_found"]⟩
abbrev s12 : Stmt := top 14
abbrev d12 : Dsc := ⟨"law", s12, ["_law_script", "_law_h", "_law_word_here", "_law_names", "_law_kind_here", "_law_pattern", "_law_ways", "_law_other", "_law_one", "_law_ahead", "_law_gap", "_law_rows", "_law_row", "_law_due_here", "_law_part_here", "_law_handed", "_law_found"], ["_law_script"]⟩
def Ds : List Dsc := [d0, d1, d2, d3, d4, d5, d6, d7, d8, d9, d10, d11, d12]
theorem chk : chkAll ⟨Ds.map (·.name)⟩ Ds T = true := by decide +kernel
theorem walk {l : PySem.W.OpenLaw} {q : Program} {loose : List Str} {XP : (Str → Option Value) → Heap → Prop} {YP : World → Heap → Prop} {d : DefRec} {K : Params → PySem.W.Frag} (hn : l.most = some 63) (hdf : d.params.defaults = [])
    (hY : ∀ (w : World) (h : Heap), YP w h → (K w.params).In h) (hd : d.name = "law")
    (F : ∀ (w : World) (mg : Str → Option Value) (h : Heap), (K w.params).In h → h.Ns mainGlobals mg → (∀ d ∈ Ds, ∃ g fd, DefAt (K w.params) mg d g fd) ∧ ∀ x ∈ bnames, mg x = none) :
    PySem.W.WalkO q loose XP YP l.row.toRowW d [] (fun f vs => PySem.call f vs) := by
  refine law_walk (T := T) (Ds := Ds) (i := 12) (k := 12) chk rfl hn hdf hY hd F (by exact ⟨rfl, by decide, by decide⟩) fun ns hl => law_ok ns
end K02
open PySem PySem.W PyProof.Rows
set_option maxRecDepth 100000 in
set_option maxHeartbeats 0 in
theorem PySem.Challenge.cw_twomeet_k02_gaps_met_holds : PySem.Challenge.rw_twomeet_k02_gaps_met.Holds := by
  w_on; o_law; k_head; (case hw => w_witness2)
  k_fill
  refine K02.walk (l := PySem.Challenge.rw_twomeet_k02_gaps_met) rfl rfl (fun w h Y => PySem.W.kIn_of Y) rfl ?F
  case F =>
    intro w mg h KX G
    refine ⟨?D, ?B⟩
    case D =>
      show ∀ d ∈ [K02.d0, K02.d1, K02.d2, K02.d3, K02.d4, K02.d5, K02.d6, K02.d7, K02.d8, K02.d9, K02.d10, K02.d11, K02.d12], _
      simp only [List.forall_mem_cons]
      refine ⟨?D0, ?D1, ?D2, ?D3, ?D4, ?D5, ?D6, ?D7, ?D8, ?D9, ?D10, ?D11, ?D12, fun _ h => nomatch h⟩
      case D0 =>
        refine' TwS.def_mk KX G ?a ?l ?c ?k ?b
        (case a => k_is); (case l => k_is); (case c => k_is); (case k => k_is)
        (case b => exact fun _ _ _ _ _ _ us hl => match us, hl with | [_], _ => rfl)
      case D1 =>
        refine' TwS.def_mk KX G ?a ?l ?c ?k ?b
        (case a => k_is); (case l => k_is); (case c => k_is); (case k => k_is)
        (case b => exact fun _ _ _ _ _ _ us hl => match us, hl with | [_, _, _], _ => rfl)
      case D2 =>
        refine' TwS.def_mk KX G ?a ?l ?c ?k ?b
        (case a => k_is); (case l => k_is); (case c => k_is); (case k => k_is)
        (case b => exact fun _ _ _ _ _ _ us hl => match us, hl with | [_, _, _], _ => rfl)
      case D3 =>
        refine' TwS.def_mk KX G ?a ?l ?c ?k ?b
        (case a => k_is); (case l => k_is); (case c => k_is); (case k => k_is)
        (case b => exact fun _ _ _ _ _ _ us hl => match us, hl with | [_, _], _ => rfl)
      case D4 =>
        refine' TwS.def_mk KX G ?a ?l ?c ?k ?b
        (case a => k_is); (case l => k_is); (case c => k_is); (case k => k_is)
        (case b => exact fun _ _ _ _ _ _ us hl => match us, hl with | [_], _ => rfl)
      case D5 =>
        refine' TwS.def_mk KX G ?a ?l ?c ?k ?b
        (case a => k_is); (case l => k_is); (case c => k_is); (case k => k_is)
        (case b => exact fun _ _ _ _ _ _ us hl => match us, hl with | [_, _, _], _ => rfl)
      case D6 =>
        refine' TwS.def_mk KX G ?a ?l ?c ?k ?b
        (case a => k_is); (case l => k_is); (case c => k_is); (case k => k_is)
        (case b => exact fun _ _ _ _ _ _ us hl => match us, hl with | [_], _ => rfl)
      case D7 =>
        refine' TwS.def_mk KX G ?a ?l ?c ?k ?b
        (case a => k_is); (case l => k_is); (case c => k_is); (case k => k_is)
        (case b => exact fun _ _ _ _ _ _ us hl => match us, hl with | [_, _], _ => rfl)
      case D8 =>
        refine' TwS.def_mk KX G ?a ?l ?c ?k ?b
        (case a => k_is); (case l => k_is); (case c => k_is); (case k => k_is)
        (case b => exact fun _ _ _ _ _ _ us hl => match us, hl with | [_, _, _], _ => rfl)
      case D9 =>
        refine' TwS.def_mk KX G ?a ?l ?c ?k ?b
        (case a => k_is); (case l => k_is); (case c => k_is); (case k => k_is)
        (case b => exact fun _ _ _ _ _ _ us hl => match us, hl with | [_, _], _ => rfl)
      case D10 =>
        refine' TwS.def_mk KX G ?a ?l ?c ?k ?b
        (case a => k_is); (case l => k_is); (case c => k_is); (case k => k_is)
        (case b => exact fun _ _ _ _ _ _ us hl => match us, hl with | [_], _ => rfl)
      case D11 =>
        refine' TwS.def_mk KX G ?a ?l ?c ?k ?b
        (case a => k_is); (case l => k_is); (case c => k_is); (case k => k_is)
        (case b => exact fun _ _ _ _ _ _ us hl => match us, hl with | [_, _, _], _ => rfl)
      case D12 =>
        refine' TwS.def_mk KX G ?a ?l ?c ?k ?b
        (case a => k_is); (case l => k_is); (case c => k_is); (case k => k_is)
        (case b => exact fun _ _ _ _ _ _ us hl => match us, hl with | [_], _ => rfl)
    case B =>
      refine' TwS.blt_mk KX G ?z0 ?z1 ?z2 ?z3 ?z4 ?z5 ?z6 ?z7 ?z8 ?z9 ?z10 ?z11
      (case z0 => k_is)
      (case z1 => k_is)
      (case z2 => k_is)
      (case z3 => k_is)
      (case z4 => k_is)
      (case z5 => k_is)
      (case z6 => k_is)
      (case z7 => k_is)
      (case z8 => k_is)
      (case z9 => k_is)
      (case z10 => k_is)
      (case z11 => k_is)

