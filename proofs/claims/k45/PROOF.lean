import PyProof.Rows.All
import Wide.All
import OpenK.AllK
import Wide.FinOn
import Lean
import PyProof.EqAt
import PyProof.EqKinds
import PyProof.TupleCall
import PyProof.P3Eq
import PyProof.NeData
import PySem.Challenge.RW_allfirst_k45_whole_let_books_are_let
set_option Elab.async false
set_option linter.all false
set_option maxRecDepth 100000
namespace L2
open PySem PySem.Spec PyProof.Rows

/-- a key: an int or a str -/
abbrev Key := Sum Int Str
def keyIs : Key → Value → Bool
  | .inl k, v => Value.isInt k v
  | .inr x, v => Value.isStrOf x v
def keyH (w : World) : Key → Int
  | .inl k => hashInt k
  | .inr x => hashStr w x
theorem keyIs_shape : ∀ {k : Key} {v : Value}, keyIs k v = true → (∃ i t, k = Sum.inl i ∧ v = Value.int i t) ∨ (∃ x t, k = Sum.inr x ∧ v = Value.str x t)
  | .inl i, v, h => by
    obtain ⟨t, e⟩ := Value.isInt_shape (k := i) (v := v) h
    exact .inl ⟨i, t, rfl, e⟩
  | .inr x, v, h => by
    obtain ⟨t, e⟩ := Value.isStrOf_shape (x := x) (v := v) h
    exact .inr ⟨x, t, rfl, e⟩
theorem keyIs_int (i : Int) (t : Tok) : keyIs (.inl i) (.int i t) = true := by simp [keyIs, Value.isInt]
theorem keyIs_str (x : Str) (t : Tok) : keyIs (.inr x) (.str x t) = true := by simp [keyIs, Value.isStrOf]
theorem key_ll (a b : Int) : decide ((Sum.inl a : Key) = Sum.inl b) = (a == b) := by
  by_cases e : a = b
  · subst e; simp
  · have h : ¬ (Sum.inl a : Key) = Sum.inl b := fun q => e (Sum.inl.inj q)
    rw [decide_eq_false h]
    exact (beq_eq_false_iff_ne.mpr e).symm
theorem key_rr (a b : Str) : decide ((Sum.inr a : Key) = Sum.inr b) = decide (a = b) := by
  by_cases e : a = b
  · subst e; simp
  · have h : ¬ (Sum.inr a : Key) = Sum.inr b := fun q => e (Sum.inr.inj q)
    rw [decide_eq_false h, decide_eq_false e]
theorem key_lr (a : Int) (b : Str) : decide ((Sum.inl a : Key) = Sum.inr b) = false := decide_eq_false (fun q => nomatch q)
theorem key_rl (a : Str) (b : Int) : decide ((Sum.inr a : Key) = Sum.inl b) = false := decide_eq_false (fun q => nomatch q)

def mixKind (prog : Program) (w : World) : PySem.KeyKind prog w Key where
  is := keyIs
  hash := keyH w
  inj := fun v a b ha hb => by
    rcases keyIs_shape ha with ⟨i, t, rfl, rfl⟩ | ⟨x, t, rfl, rfl⟩
    · rcases keyIs_shape hb with ⟨j, u, rfl, e⟩ | ⟨y, u, rfl, e⟩
      · injection e with e1 _; rw [e1]
      · exact nomatch e
    · rcases keyIs_shape hb with ⟨j, u, rfl, e⟩ | ⟨y, u, rfl, e⟩
      · exact nomatch e
      · injection e with e1 _; rw [e1]
  byValue := fun k v h => by
    rcases keyIs_shape h with ⟨i, t, rfl, rfl⟩ | ⟨x, t, rfl, rfl⟩ <;> rfl
  pyHash := fun hv h => by
    rcases keyIs_shape hv with ⟨i, t, rfl, rfl⟩ | ⟨x, t, rfl, rfl⟩
    · exact wpAny_pyHash_int h
    · exact wpAny_pyHash_str h
  eqBool := fun hu hv h => by
    rcases keyIs_shape hu with ⟨i, t, rfl, rfl⟩ | ⟨x, t, rfl, rfl⟩
    · rcases keyIs_shape hv with ⟨j, u, rfl, rfl⟩ | ⟨y, u, rfl, rfl⟩
      · rw [key_ll] at h; exact wpAny_eqBool_int h
      · rw [key_lr] at h; exact SeqAt.EqAt.int_str i t y u _ _ _ _ h
    · rcases keyIs_shape hv with ⟨j, u, rfl, rfl⟩ | ⟨y, u, rfl, rfl⟩
      · rw [key_rl] at h; exact SeqAt.EqAt.str_int x t j u _ _ _ _ h
      · rw [key_rr] at h; exact wpAny_eqBool_str h
  «strs» := fun k x t v h => by
    rcases keyIs_shape h with ⟨i, u, rfl, e⟩ | ⟨y, u, rfl, e⟩
    · exact nomatch e
    · injection e with e1 _
      subst e1
      cases v <;> rfl

theorem mixKind_int (prog : Program) (w : World) (i : Int) (t : Tok) : (mixKind prog w).is (.inl i) (.int i t) = true := keyIs_int i t
theorem mixKind_str (prog : Program) (w : World) (x : Str) (t : Tok) : (mixKind prog w).is (.inr x) (.str x t) = true := keyIs_str x t
end L2

namespace L2
open PySem PySem.Spec PyProof.Rows

/-- a value, without the heap -/
inductive V where
  | non | bl (b : Bool) | int (i : Int) | str (x : Str) | byt (b : Array UInt8) | flt (b : UInt64) | ref (a : Addr) | ty (n : String)
  deriving DecidableEq

def RelV : V → Value → Prop
  | .non, u => u = Value.none
  | .bl b, u => u = Value.bool b
  | .int i, u => ∃ t, u = Value.int i t
  | .str x, u => ∃ t, u = Value.str x t
  | .byt b, u => ∃ t, u = Value.bytes b t
  | .flt b, u => ∃ t, u = Value.float b t
  | .ref a, u => u = Value.ref a
  | .ty n, u => u = Value.type n

abbrev Vals : List V → List Value → Prop := Paired RelV
theorem Vals.length {xs : List V} {us : List Value} (r : Vals xs us) : xs.length = us.length := Paired.length r
theorem Vals.get : ∀ {xs : List V} {us : List Value} {i : Nat} {x : V}, Vals xs us → xs[i]? = some x → ∃ u, us[i]? = some u ∧ RelV x u
  | _, _, _, _, .nil, e => by simp at e
  | _, _, 0, _, .cons r _, e => by simp at e; subst e; exact ⟨_, rfl, r⟩
  | _, _, i + 1, x, .cons _ t, e => by
    obtain ⟨u, h1, h2⟩ := Vals.get (i := i) (x := x) t (by simpa using e)
    exact ⟨u, by simpa using h1, h2⟩
theorem Vals.append : ∀ {xs ys : List V} {us ws : List Value}, Vals xs us → Vals ys ws → Vals (xs ++ ys) (us ++ ws)
  | _, _, _, _, .nil, s => s
  | _, _, _, _, .cons r t, s => .cons r (Vals.append t s)
theorem Vals.none_of : ∀ {xs : List V} {us : List Value} {i : Nat}, Vals xs us → xs[i]? = none → us[i]? = none := fun {xs us i} r e => by
  have h1 := r.length
  have h2 : xs.length ≤ i := List.getElem?_eq_none_iff.mp e
  exact List.getElem?_eq_none_iff.mpr (by omega)

def RelO : Option V → Option Value → Prop
  | some v, some u => RelV v u
  | none, none => True
  | _, _ => False
def KV {κ : Type} : List (κ × V) → List (κ × Value) → Prop := Paired fun (p : κ × V) (q : κ × Value) => p.1 = q.1 ∧ RelV p.2 q.2

/-- a key of a dict (00_mix): an int or a text -/
def kV : Key → V
  | .inl i => .int i
  | .inr x => .str x

/-- what stands at a tracked address -/
inductive HO where
  /-- a list -/
  | lst (xs : List V)
  /-- a tuple (never changes) -/
  | tup (xs : List V)
  /-- a dict whose keys are ints and texts; one whose keys are tuples of ints and texts (the empty one is both) -/
  | dK (kvs : List (Key × V)) | dT (kvs : List (List Key × V))
  /-- a set of ints: its members, its size -/
  | set (S : Int → Bool) (n : Nat)
  /-- an instance of the class at C, its dict at dx, its attributes -/
  | ins (C dx : Addr) (fs : List (Str × V))
  /-- the dict of the instance at x -/
  | own (x : Addr)
  /-- the dict of an exception -/
  | xd (fs : List (Str × V))
  /-- a bound method, f of x -/
  | met (f x : Addr)
  /-- a range object lo, lo + 1, .. below hi -/
  | rng (lo hi : Int)
  /-- a thing that is known to the object (the script; a dict while a loop walks it): read, never written while it is so -/
  | frz (o : Obj) (u : HO)
  /-- a code object's table -/
  | tbl (ps : Array Value)
  /-- any other thing, by what is true of its one object (a def of one's own: SetO a S n := HO.ext fun h => ..) -/
  | ext (φ : Heap → Prop)

abbrev Hp := Addr → Option HO
def upd (H : Hp) (a : Addr) (o : HO) : Hp := fun b => if b = a then some o else H b
theorem upd_same {H : Hp} {a : Addr} {o : HO} : upd H a o a = some o := by unfold upd; rw [if_pos rfl]
theorem upd_ne {H : Hp} {a b : Addr} {o : HO} (h : b ≠ a) : upd H a o b = H b := by unfold upd; rw [if_neg h]
/-- two objects of different content stand apart -/
theorem ne_of {H : Hp} {a b : Addr} {o u : HO} (h : H a = some o) (h' : H b = some u) (d : o ≠ u) : a ≠ b := by
  intro e; subst e; rw [h] at h'; exact d (Option.some.inj h')
theorem ne_of_none {H : Hp} {a b : Addr} {o : HO} (h : H a = some o) (h' : H b = none) : a ≠ b := by
  intro e; subst e; rw [h] at h'; cases h'

section
variable (P : Program) (w : World)
def ObjOk (H : Hp) (h : Heap) (a : Addr) : HO → Prop
  | .lst xs => xs.length ≤ sizeLine ∧ ∃ (its : List Value) (n : Nat), Vals xs its ∧ h.get? a = some { cls := .type "list", data := .seq its.toArray n }
  | .tup xs => (xs.length ≤ sizeLine ∧ ∃ o, h.get? a = some o ∧ o.dict = none) ∧ ∃ its : List Value, Vals xs its ∧ IsTup h a its.toArray
  | .dK kvs => kvs.length ≤ sizeLine ∧ (a == sysModules) = false ∧ ∃ vs, KV kvs vs ∧ h.DictOf (mixKind P w) a vs
  | .dT kvs => kvs.length ≤ sizeLine ∧ (a == sysModules) = false ∧ ∃ xs : List (List Key × Addr × Value),
      Paired (fun (p : List Key × V) (q : List Key × Addr × Value) => p.1 = q.1 ∧ H q.2.1 = some (.tup (p.1.map kV)) ∧ RelV p.2 q.2.2) kvs xs ∧
      ∃ o es ep, h.get? a = some o ∧ o.ExactDict ∧ o.data = .dict es ep ∧ es.toList = xs.map (entryOfKey (tupleKind (mixKind P w))) ∧ (xs.map (·.1)).Nodup
  | .set S n => h.SetOf (intKind P w) a S n
  | .ins C dx fs => H dx = some (.own a) ∧ fs.length ≤ 1000 ∧ dx ≠ a ∧ h.get? a = some (PySem.W.instObj C dx) ∧
      ∃ mA, h.Ns1 dx mA ∧ (∀ f, RelO (fs.lookup f) (mA f)) ∧ PySem.Within mA (fs.map (·.1))
  | .own _ => ∃ o, h.get? a = some o
  | .xd fs => ∃ mA, h.Ns1 a mA ∧ ∀ f, RelO (fs.lookup f) (mA f)
  | .rng lo hi => ∃ t u v, h.get? a = some { cls := .type "range", data := .fields #[.int lo t, .int hi u, .int 1 v] }
  | .frz o u => h.get? a = some o ∧ ObjOk H h a u
  | .tbl ps => h.get? a = some { cls := .none, data := .fields ps }
  | .met f x => h.get? a = some (PySem.W.methodObj (.ref f) (.ref x))
  | .ext φ => φ h ∧ (∃ o, h.get? a = some o) ∧ ∀ h1 h2 : Heap, φ h1 → (∀ o, h1.get? a = some o → h2.get? a = some o) → φ h2
/-- the abstract heap is held -/
def HOk (H : Hp) (h : Heap) : Prop := ∀ a o, H a = some o → ObjOk P w H h a o
end

section
variable {P : Program} {w : World} {H H' : Hp} {h h' : Heap} {a : Addr} {o : HO}
theorem ObjOk.lt (x : ObjOk P w H h a o) : a < h.objs.size := by
  cases o with
  | lst xs => obtain ⟨_, _, _, _, e⟩ := x; exact Heap.lt_size e
  | tup xs => obtain ⟨_, _, _, p⟩ := x; exact p.lt
  | dK kvs => obtain ⟨_, _, _, _, o, _, _, e, _⟩ := x; exact Heap.lt_size e
  | dT kvs => obtain ⟨_, _, _, _, o, _, _, e, _⟩ := x; exact Heap.lt_size e
  | set S n => obtain ⟨o, _, _, _, e, _⟩ := x; exact Heap.lt_size e
  | ins C dx fs => obtain ⟨_, _, _, e, _⟩ := x; exact Heap.lt_size e
  | own y => obtain ⟨_, e⟩ := x; exact Heap.lt_size e
  | xd fs => obtain ⟨_, ⟨_, _, _, e, _⟩, _⟩ := x; exact Heap.lt_size e
  | rng lo hi => obtain ⟨_, _, _, e⟩ := x; exact Heap.lt_size e
  | frz ob u => obtain ⟨e, _⟩ := x; exact Heap.lt_size e
  | tbl ps => exact Heap.lt_size (show h.get? a = some _ from x)
  | met f y => exact Heap.lt_size (show h.get? a = some _ from x)
  | ext φ => obtain ⟨_, ⟨_, e⟩, _⟩ := x; exact Heap.lt_size e
theorem Paired.mapP {α β : Type} {F G : α → β → Prop} : ∀ {l₁ : List α} {l₂ : List β}, Paired F l₁ l₂ → (∀ a b, F a b → G a b) → Paired G l₁ l₂
  | _, _, .nil, _ => .nil
  | _, _, .cons r t, f => .cons (f _ _ r) (Paired.mapP t f)
/-- what an object's description leans on: its own object, its own dict, the tuples -/
theorem ObjOk.stay (x : ObjOk P w H h a o) (k : ∀ b u, (b = a ∨ H b = some (.own a)) → h.get? b = some u → h'.get? b = some u)
    (ho : ∀ b, H b = some (.own a) → H' b = some (.own a)) (ht : ∀ b xs, H b = some (.tup xs) → H' b = some (.tup xs)) : ObjOk P w H' h' a o := by
  induction o with
  | lst xs => obtain ⟨z, its, n, r, e⟩ := x; exact ⟨z, its, n, r, k _ _ (.inl rfl) e⟩
  | tup xs => obtain ⟨⟨z, od, ed, dd⟩, its, r, ob, e, c⟩ := x; exact ⟨⟨z, od, k _ _ (.inl rfl) ed, dd⟩, its, r, ob, k _ _ (.inl rfl) e, c⟩
  | dK kvs => obtain ⟨z, y, vs, r, ob, es, ep, e, c⟩ := x; exact ⟨z, y, vs, r, ob, es, ep, k _ _ (.inl rfl) e, c⟩
  | dT kvs =>
    obtain ⟨z, y, xs, r, ob, es, ep, e, c⟩ := x
    exact ⟨z, y, xs, Paired.mapP r fun p q z => ⟨z.1, ht _ _ z.2.1, z.2.2⟩, ob, es, ep, k _ _ (.inl rfl) e, c⟩
  | set S n => obtain ⟨ob, es, ep, t, e, c⟩ := x; exact ⟨ob, es, ep, t, k _ _ (.inl rfl) e, c⟩
  | ins C dx fs =>
    obtain ⟨d, z, ne, e, mA, ⟨od, es, ep, e2, c⟩, r⟩ := x
    exact ⟨ho _ d, z, ne, k _ _ (.inl rfl) e, mA, ⟨od, es, ep, k _ _ (.inr d) e2, c⟩, r⟩
  | own y => obtain ⟨ob, e⟩ := x; exact ⟨ob, k _ _ (.inl rfl) e⟩
  | xd fs => obtain ⟨mA, ⟨od, es, ep, e, c⟩, r⟩ := x; exact ⟨mA, ⟨od, es, ep, k _ _ (.inl rfl) e, c⟩, r⟩
  | rng lo hi => obtain ⟨t, u, v, e⟩ := x; exact ⟨t, u, v, k _ _ (.inl rfl) e⟩
  | frz ob u ih => obtain ⟨e, q⟩ := x; exact ⟨k _ _ (.inl rfl) e, ih q⟩
  | tbl ps =>
    have e : h.get? a = some { cls := .none, data := .fields ps } := x
    show h'.get? a = some { cls := .none, data := .fields ps }
    exact k a _ (.inl rfl) e
  | met f y =>
    have e : h.get? a = some (PySem.W.methodObj (.ref f) (.ref y)) := x
    show h'.get? a = some (PySem.W.methodObj (.ref f) (.ref y))
    exact k a _ (.inl rfl) e
  | ext φ => obtain ⟨p, ⟨o, e⟩, st⟩ := x; exact ⟨st _ _ p fun o q => k _ _ (.inl rfl) q, ⟨o, k _ _ (.inl rfl) e⟩, st⟩
theorem HOk.lt (x : HOk P w H h) (e : H a = some o) : a < h.objs.size := (x a o e).lt
theorem HOk.fresh (x : HOk P w H h) (e : h.objs.size ≤ a) : H a = none := by
  cases q : H a with
  | none => rfl
  | some u => exact absurd (Nat.lt_of_lt_of_le (x.lt q) e) (Nat.lt_irrefl _)
/-- every object of the heap is kept -/
theorem HOk.kept (x : HOk P w H h) (k : ∀ b u, h.get? b = some u → h'.get? b = some u) : HOk P w H h' := fun a o e =>
  (x a o e).stay (fun b u _ q => k b u q) (fun _ q => q) fun _ _ q => q
/-- a new object is laid and tracked -/
theorem HOk.laid (x : HOk P w H h) (k : ∀ b u, h.get? b = some u → h'.get? b = some u) (hp : h.objs.size ≤ a) (new : ObjOk P w (upd H a o) h' a o) : HOk P w (upd H a o) h' := fun b u e => by
  have hn := x.fresh hp
  by_cases hb : b = a
  · subst hb; rw [upd_same] at e; cases e; exact new
  · rw [upd_ne hb] at e
    exact (x b u e).stay (fun c v _ q => k c v q) (fun c q => by rw [upd_ne (ne_of_none q hn)]; exact q) fun c xs q => by rw [upd_ne (ne_of_none q hn)]; exact q
end

/-- what may be read as u: it is u, or a known u -/
def Rd (H : Hp) (a : Addr) (u : HO) : Prop := H a = some u ∨ ∃ o, H a = some (.frz o u)
theorem Rd.ok {P : Program} {w : World} {H : Hp} {h : Heap} {a : Addr} {u : HO} (r : Rd H a u) (x : HOk P w H h) : ObjOk P w H h a u := by
  rcases r with r | ⟨o, r⟩
  · exact x a u r
  · obtain ⟨_, q⟩ := x a _ r
    exact q
/-- what may be written -/
def Mut : Option HO → Prop
  | some (.lst _) => True
  | some (.dK _) => True
  | some (.dT _) => True
  | some (.set _ _) => True
  | some (.ins _ _ _) => True
  | some (.ext _) => True
  | _ => False
section
variable {P : Program} {w : World} {H : Hp} {h h' : Heap} {x e : Addr} {o' : HO}
/-- the object at e is changed: x itself, or the dict of the instance x -/
theorem HOk.write (ok : HOk P w H h) (mu : Mut (H x)) (he : e = x ∨ H e = some (.own x)) (k : ∀ b u, b ≠ e → h.get? b = some u → h'.get? b = some u) (heo : ∃ u, h'.get? e = some u)
    (new : ObjOk P w (upd H x o') h' x o') : HOk P w (upd H x o') h' := fun b u q => by
  have nown : ∀ c y, H c = some (.own y) → c ≠ x := fun c y r z => by subst z; rw [r] at mu; exact mu
  have ntup : ∀ c xs, H c = some (.tup xs) → c ≠ x := fun c xs r z => by subst z; rw [r] at mu; exact mu
  by_cases hb : b = x
  · subst hb; rw [upd_same] at q; cases q; exact new
  · rw [upd_ne hb] at q
    by_cases hbe : b = e
    · have q' : H b = some (.own x) := by
        rcases he with z | z
        · exact absurd (hbe.trans z) hb
        · rw [hbe]; exact z
      rw [q] at q'; cases q'
      obtain ⟨v, hv⟩ := heo
      exact ⟨v, by rw [hbe]; exact hv⟩
    · refine (ok b u q).stay (fun c v hc r => k c v ?_ r) (fun c r => by rw [upd_ne (nown c b r)]; exact r) fun c xs r => by rw [upd_ne (ntup c xs r)]; exact r
      rcases hc with rfl | hc
      · exact hbe
      · rintro rfl
        rcases he with z | z
        · exact nown c b hc z
        · rw [hc] at z; cases z; exact hb rfl
end

structure Un (fs ex : List Addr) (H H' : Hp) (h h' : Heap) : Prop where
  keep : ∀ b o, h.get? b = some o → H b = none → b ∉ fs → b ∉ ex → h'.get? b = some o
  slot : ∀ b o, h.get? b = some o → H b = none → b ∈ fs → b ∉ ex → ∃ sl, h'.get? b = some { o with slots := sl }
  free : ∀ b o, h.get? b = some o → H b = none → b ∉ ex → H' b = none
  there : ∀ b o, h.get? b = some o → b ∉ ex → ∃ o', h'.get? b = some o'
  tups : ∀ b xs, H b = some (.tup xs) → H' b = some (.tup xs)
  frzs : ∀ b o u, H b = some (.frz o u) → H' b = some (.frz o u)
  tbls : ∀ b ps, H b = some (.tbl ps) → ∃ more, H' b = some (.tbl (ps ++ more))
section
variable {fs fs' ex ex' : List Addr} {H H1 H2 : Hp} {h h1 h2 h' : Heap} {a x e : Addr} {o : HO}
theorem Un.any (u : Un fs ex H H1 h h1) {b : Addr} {ob : Obj} (q : h.get? b = some ob) (n : H b = none) (hx : b ∉ ex) : ∃ sl, h1.get? b = some { ob with slots := sl } := by
  by_cases hb : b ∈ fs
  · exact u.slot b ob q n hb hx
  · exact ⟨ob.slots, u.keep b ob q n hb hx⟩
theorem Un.kept (k : ∀ b u, h.get? b = some u → h'.get? b = some u) : Un fs ex H H h h' :=
  ⟨fun b ob q _ _ _ => k b ob q, fun b ob q _ _ _ => ⟨ob.slots, k b ob q⟩, fun _ _ _ n _ => n, fun b ob q _ => ⟨ob, k b ob q⟩, fun _ _ q => q, fun _ _ _ q => q, fun _ ps q => ⟨#[], by rw [q]; simp⟩⟩
theorem Un.refl : Un fs ex H H h h := Un.kept fun _ _ q => q
theorem Un.laid (k : ∀ b u, h.get? b = some u → h'.get? b = some u) (hp : h.objs.size ≤ a) (hn : H a = none) : Un fs ex H (upd H a o) h h' where
  keep := fun b u q _ _ _ => k b u q
  slot := fun b u q _ _ _ => ⟨u.slots, k b u q⟩
  free := fun b u q n _ => by rw [upd_ne (Nat.ne_of_lt (Nat.lt_of_lt_of_le (Heap.lt_size q) hp))]; exact n
  there := fun b u q _ => ⟨u, k b u q⟩
  tups := fun b xs q => by rw [upd_ne (ne_of_none q hn)]; exact q
  frzs := fun b u xs q => by rw [upd_ne (ne_of_none q hn)]; exact q
  tbls := fun b ps q => ⟨#[], by rw [upd_ne (ne_of_none q hn), q]; simp⟩
theorem Un.write (mu : Mut (H x)) (he : e = x ∨ H e = some (.own x)) (k : ∀ b u, b ≠ e → h.get? b = some u → h'.get? b = some u) (heo : ∃ u, h'.get? e = some u) : Un fs ex H (upd H x o) h h' := by
  have hx : ∀ b, H b = none → b ≠ x := fun b n z => by subst z; rw [n] at mu; exact mu
  have hb : ∀ b, H b = none → b ≠ e := fun b n z => by
    subst z
    rcases he with r | r
    · exact hx b n r
    · rw [n] at r; cases r
  have hm : ∀ b u, H b = some u → ¬ Mut (some u) → b ≠ x := fun b u q nm z => by subst z; rw [q] at mu; exact nm mu
  refine ⟨fun b u q n _ _ => k b u (hb b n) q, fun b u q n _ _ => ⟨u.slots, k b u (hb b n) q⟩, fun b u q n _ => by rw [upd_ne (hx b n)]; exact n, fun b u q _ => ?_,
    fun b xs q => by rw [upd_ne (hm b _ q fun z => z)]; exact q, fun b u xs q => by rw [upd_ne (hm b _ q fun z => z)]; exact q, fun b ps q => ⟨#[], by rw [upd_ne (hm b _ q fun z => z), q]; simp⟩⟩
  by_cases hbe : b = e
  · subst hbe; exact heo
  · exact ⟨u, k b u hbe q⟩
end

def trk (h : Heap) (H : Hp) : List Addr := (List.range h.objs.size).filter fun a => (H a).isSome
def hidT (h : Heap) (H : Hp) : Heap := PySem.W.hideAll h (trk h H)
theorem hidT_size (h : Heap) (H : Hp) : (hidT h H).objs.size = h.objs.size := PySem.W.hideAll_size _ _
theorem hidT_get {h : Heap} {H : Hp} {b : Addr} {o : Obj} (e : h.get? b = some o) (n : H b = none) : (hidT h H).get? b = some o :=
  PySem.W.hideAll_get _ e fun hm => by
    have q : (H b).isSome = true := (List.mem_filter.mp hm).2
    rw [n] at q; simp at q
theorem of_hidT {h : Heap} {H : Hp} {b : Addr} {o : Obj} (e : (hidT h H).get? b = some o) : h.get? b = some o ∧ H b = none := by
  have e' : h.get? b = some o := PySem.W.of_hideAll (trk h H) e
  refine ⟨e', ?_⟩
  cases q : H b with
  | none => rfl
  | some x =>
    have hm : b ∈ trk h H := List.mem_filter.mpr ⟨List.mem_range.mpr (Heap.lt_size e'), by simp [q]⟩
    have z : (hidT h H).get? b = none := PySem.W.hideAll_none (trk h H) hm
    rw [z] at e; cases e

end L2

namespace L2
open PySem PySem.Spec PyProof.Rows

/-- the module's facts, over the base: the heap at the law's entry without what is tracked there -/
structure Mod (K : PySem.W.Frag) (mg : Str → Option Value) (base : Heap) : Prop where
  kin : K.In base
  glob : base.Ns mainGlobals mg
  blt : ∃ mb, base.Ns builtinsNs mb ∧ ∀ x : Str, x ≠ "__name__" → mb x = bootBuiltins x
  nolimit : base.NoLimit

/-- the context: a def's body (or a comprehension's block) running. base: fixed through the whole law; s₀, H₀: the entry; outer: the frames whose slots others may change (a def's callers); stack: all frames that run;
   ex: iterators that were made ahead of the entry and are walked here (a comprehension's); fn: the names whose cells were made at the entry (a def: all; a comprehension's block: its own); calm: not within an except suite; pn: pins that every state bears; xe: what is wanted of an exception that leaves the code -/
structure Cx where
  prog : Program
  w : World
  K : PySem.W.Frag
  mg : Str → Option Value
  base : Heap
  A : Around
  N : List Str
  s₀ : Shared
  H₀ : Hp
  env : Env
  outer : List Env
  stack : List Env
  ex : List Addr
  fn : Str → Bool
  calm : Bool
  pn : List (Addr × Obj)
  xe : Value → Shared → Prop
/-- the callers' frames -/
def frs (l : List Env) : List Addr := l.filterMap (·.frame)
abbrev Cx.fs (X : Cx) : List Addr := frs X.outer

def Vis (sc : Scope) (x : Str) : Prop := sc.names.lookup x = some .local ∨ sc.names.lookup x = some .cell ∨ sc.names.lookup x = some .free
def Loc (sc : Scope) (x : Str) : Prop := sc.names.lookup x = some .local ∨ sc.names.lookup x = some .cell
def Look (env : Env) (h : Heap) (m : Str → Option Value) (x : Str) (u : Value) : Prop :=
  (env.kindOf x = some .local ∧ m x = some u) ∨ ((env.kindOf x = some .cell ∨ env.kindOf x = some .free) ∧ ∃ c, env.cells.lookup x = some c ∧ h.IsCell c (some u))

structure Cx.Ok (X : Cx) : Prop where
  mod : Mod X.K X.mg X.base
  kind : X.env.scope.kind = .function
  glob : X.env.globals = mainGlobals
  blt : X.env.builtins = builtinsNs
  above : X.s₀.heap.objs.size ≤ X.env.locals
  inj : ∀ x y c, X.env.cells.lookup x = some c → X.env.cells.lookup y = some c → x = y
  has : ∀ x, (X.env.kindOf x = some .cell ∨ X.env.kindOf x = some .free) → ∃ c, X.env.cells.lookup x = some c
  cab : ∀ x c, X.fn x = true → X.env.cells.lookup x = some c → X.s₀.heap.objs.size ≤ c
  hd : X.calm = true → X.A.handled = none
  frames : X.A.frames = some X.stack
  stk : X.stack = X.outer ∨ (X.stack = X.env :: X.outer ∧ X.env.frame = some X.env.locals)
  exf : ∀ b ∈ X.ex, b ≠ X.env.locals ∧ ∀ x c, X.env.cells.lookup x = some c → c ≠ b
  bs : ∀ b o, X.base.get? b = some o → X.s₀.heap.get? b = some o ∧ X.H₀ b = none
  bsz : X.base.objs.size ≤ X.s₀.heap.objs.size
  noex : ∀ b o, X.base.get? b = some o → b ∉ X.ex
  exfs : ∀ b ∈ X.ex, b ∉ X.fs
  funs : X.s₀.heap.FunFrames X.base X.outer
  frf : ∀ b ∈ X.fs, X.H₀ b = none

structure Inv (X : Cx) (pins : List (Addr × Obj)) (σ : List (Option V)) (H : Hp) (s : Shared) : Prop where
  ok : X.Ok
  os : s.os = X.s₀.os
  bare : AllBare s.gens
  base : Un X.fs X.ex X.H₀ H X.s₀.heap s.heap
  loc : ∃ m, s.heap.Ns X.env.locals m ∧ ∀ (i : Nat) (x : Str) (v : V), X.N[i]? = some x → σ[i]? = some (some v) → Vis X.env.scope x → ∃ u, RelV v u ∧ Look X.env s.heap m x u
  cell : ∀ x c, X.env.cells.lookup x = some c → ∃ v, s.heap.IsCell c v
  free : H X.env.locals = none
  freeC : ∀ x c, X.env.cells.lookup x = some c → H c = none
  pin : ∀ p ∈ X.pn ++ pins, s.heap.get? p.1 = some p.2 ∧ H p.1 = none ∧ p.1 ≠ X.env.locals ∧ p.1 ∉ X.fs ∧ ∀ v, p.2.data ≠ .cell v
  hok : HOk X.prog X.w H s.heap
  len : σ.length = X.N.length

section
variable {X : Cx} {pins : List (Addr × Obj)} {σ : List (Option V)} {H H' : Hp} {s : Shared} {h' : Heap}

theorem Cx.Ok.nofr (ok : X.Ok) {b : Addr} {o : Obj} (e : X.base.get? b = some o) : b ∉ X.fs := fun hb => by
  have := (ok.funs.mem hb).1
  rw [e] at this; cases this
theorem Inv.bs (I : Inv X pins σ H s) : ∀ b o, X.base.get? b = some o → s.heap.get? b = some o ∧ H b = none := fun b o e =>
  ⟨I.base.keep b o (I.ok.bs b o e).1 (I.ok.bs b o e).2 (I.ok.nofr e) (I.ok.noex b o e), I.base.free b o (I.ok.bs b o e).1 (I.ok.bs b o e).2 (I.ok.noex b o e)⟩
theorem Inv.bk (I : Inv X pins σ H s) : ∀ b o, X.base.get? b = some o → s.heap.get? b = some o := fun b o e => (I.bs b o e).1
theorem Inv.mod (I : Inv X pins σ H s) : Mod X.K X.mg X.base := I.ok.mod
theorem Inv.kIn (I : Inv X pins σ H s) : X.K.In s.heap := I.ok.mod.kin.keeps I.bk
theorem Inv.lt (I : Inv X pins σ H s) : X.env.locals < s.heap.objs.size := let ⟨_, hn, _⟩ := I.loc; hn.lt
theorem Inv.sz (I : Inv X pins σ H s) : X.s₀.heap.objs.size ≤ s.heap.objs.size := Nat.le_trans I.ok.above (Nat.le_of_lt I.lt)
theorem Inv.nofs (I : Inv X pins σ H s) {a : Addr} (h : s.heap.objs.size ≤ a) : a ∉ X.fs := fun hb => by
  obtain ⟨_, o, ho, _⟩ := I.ok.funs.mem hb
  exact absurd (Nat.lt_of_lt_of_le (Heap.lt_size ho) (Nat.le_trans I.sz h)) (Nat.lt_irrefl _)
theorem Inv.cne (I : Inv X pins σ H s) : ∀ x c, X.env.cells.lookup x = some c → c ≠ X.env.locals := fun x c e z => by
  obtain ⟨v, o, ho, hd⟩ := I.cell x c e
  obtain ⟨m, ⟨o', es, ep, ho', hd', _⟩, _⟩ := I.loc
  rw [z, ho'] at ho; cases ho; rw [hd'] at hd; cases hd
theorem Inv.funs (I : Inv X pins σ H s) : s.heap.FunFrames X.base X.outer := by
  have all : ∀ (l : List Env), (∀ b ∈ frs l, b ∈ X.fs) → X.s₀.heap.FunFrames X.base l → s.heap.FunFrames X.base l := by
    intro l
    induction l with
    | nil => intro _ _; trivial
    | cons env r ih =>
      intro hs hl
      obtain ⟨hk, ⟨L, o, hf, hn, ho, hd⟩, hr⟩ := hl
      have hL : L ∈ X.fs := hs L (by unfold frs; rw [List.filterMap_cons, hf]; exact List.mem_cons_self)
      obtain ⟨sl, e⟩ := I.base.slot L o ho (I.ok.frf L hL) hL fun z => I.ok.exfs L z hL
      exact ⟨hk, ⟨L, _, hf, hn, e, hd⟩, ih (fun b hb => hs b (by unfold frs; rw [List.filterMap_cons, hf]; exact List.mem_cons_of_mem _ hb)) hr⟩
  exact all X.outer (fun _ hb => hb) I.ok.funs

/-- the frames that run, for a call -/
theorem Inv.stack (I : Inv X pins σ H s) : s.heap.FunFrames X.base X.stack := by
  rcases I.ok.stk with e | ⟨e, hf⟩
  · rw [e]; exact I.funs
  · rw [e]
    obtain ⟨m, hn, _⟩ := I.loc
    refine .cons (by rw [I.ok.kind]; decide) hf hn ?_ I.funs
    exact Heap.get?_none_of_le (Nat.le_trans I.ok.bsz I.ok.above)
theorem Inv.stkSub (I : Inv X pins σ H s) : ∀ b ∈ frs X.stack, b ∈ X.env.locals :: X.fs := fun b hb => by
  rcases I.ok.stk with e | ⟨e, hf⟩
  · rw [e] at hb; exact List.mem_cons_of_mem _ hb
  · rw [e] at hb
    unfold frs at hb
    rw [List.filterMap_cons, hf] at hb
    exact hb
theorem Inv.stkFree (I : Inv X pins σ H s) : ∀ b ∈ frs X.stack, H b = none := fun b hb => by
  rcases List.mem_cons.mp (I.stkSub b hb) with e | hb
  · rw [e]; exact I.free
  · obtain ⟨_, o, ho, _⟩ := I.ok.funs.mem hb
    exact I.base.free b o ho (I.ok.frf b hb) fun z => I.ok.exfs b z hb

/-- THE STEP: the untracked objects but the frame and the records at ch are kept (the callers' frames up to slots), the frame's map is kept, the new abstract heap is held -/
theorem Inv.step {g' : Array GenState} {t' : Nat} {d' : Drawn} {ch : List Addr} (I : Inv X pins σ H s)
    (hch : ∀ b ∈ ch, (b ∈ X.ex ∨ X.s₀.heap.objs.size ≤ b) ∧ b ≠ X.env.locals ∧ (∀ x c, X.env.cells.lookup x = some c → c ≠ b) ∧ ∀ p ∈ X.pn ++ pins, p.1 ≠ b)
    (keep : ∀ b o, b ≠ X.env.locals → b ∉ X.fs → b ∉ ch → s.heap.get? b = some o → H b = none → h'.get? b = some o)
    (slot : ∀ b o, b ≠ X.env.locals → b ∈ X.fs → b ∉ ch → s.heap.get? b = some o → H b = none → ∃ sl, h'.get? b = some { o with slots := sl }) (free : ∀ b o, b ∉ ch → s.heap.get? b = some o → H b = none → H' b = none)
    (there : ∀ b o, b ∉ ch → s.heap.get? b = some o → ∃ o', h'.get? b = some o')
    (tups : ∀ b xs, H b = some (.tup xs) → H' b = some (.tup xs)) (frzs : ∀ b o u, H b = some (.frz o u) → H' b = some (.frz o u)) (tbls : ∀ b ps, H b = some (.tbl ps) → ∃ more, H' b = some (.tbl (ps ++ more)))
    (ns : ∀ m, s.heap.Ns X.env.locals m → h'.Ns X.env.locals m) (hok : HOk X.prog X.w H' h') (hg : AllBare g') :
    Inv X pins σ H' { s with heap := h', gens := g', drawn := d', toks := t' } := by
  have neL : ∀ b o, X.s₀.heap.get? b = some o → b ≠ X.env.locals := fun b o e => Nat.ne_of_lt (Nat.lt_of_lt_of_le (Heap.lt_size e) I.ok.above)
  have neC : ∀ b o, X.s₀.heap.get? b = some o → b ∉ X.ex → b ∉ ch := fun b o e hx hb => by
    rcases (hch b hb).1 with z | z
    · exact hx z
    · exact absurd (Nat.lt_of_lt_of_le (Heap.lt_size e) z) (Nat.lt_irrefl _)
  have cellK : ∀ x c, X.env.cells.lookup x = some c → ∀ v, s.heap.IsCell c v → h'.IsCell c v := fun x c e v ⟨o, ho, hd⟩ => by
    have nch : c ∉ ch := fun z => (hch c z).2.2.1 x c e rfl
    by_cases hc : c ∈ X.fs
    · obtain ⟨sl, q⟩ := slot c o (I.cne x c e) hc nch ho (I.freeC x c e)
      exact ⟨_, q, hd⟩
    · exact ⟨o, keep c o (I.cne x c e) hc nch ho (I.freeC x c e), hd⟩
  refine ⟨I.ok, I.os, hg, ⟨fun b o e n hb hx => ?_, fun b o e n hb hx => ?_, fun b o e n hx => ?_, fun b o e hx => ?_, fun b xs e => tups b xs (I.base.tups b xs e), fun b o xs e => frzs b o xs (I.base.frzs b o xs e), fun b ps e => ?_⟩, ?_, fun x c e => ?_, ?_, fun x c e => ?_, fun p hp => ?_, hok, I.len⟩
  · exact keep b o (neL b o e) hb (neC b o e hx) (I.base.keep b o e n hb hx) (I.base.free b o e n hx)
  · obtain ⟨sl, e1⟩ := I.base.slot b o e n hb hx
    obtain ⟨sl', e2⟩ := slot b _ (neL b o e) hb (neC b o e hx) e1 (I.base.free b o e n hx)
    exact ⟨sl', e2⟩
  · obtain ⟨o', e1⟩ := I.base.there b o e hx
    exact free b o' (neC b o e hx) e1 (I.base.free b o e n hx)
  · obtain ⟨o', e1⟩ := I.base.there b o e hx
    exact there b o' (neC b o e hx) e1
  · obtain ⟨m1, e1⟩ := I.base.tbls b ps e
    obtain ⟨m2, e2⟩ := tbls b _ e1
    exact ⟨m1 ++ m2, by rw [e2, Array.append_assoc]⟩
  · obtain ⟨m, hn, hl⟩ := I.loc
    refine ⟨m, ns m hn, fun i x v e1 e2 e3 => ?_⟩
    obtain ⟨u, r, l⟩ := hl i x v e1 e2 e3
    refine ⟨u, r, ?_⟩
    rcases l with l | ⟨k, c, e, z⟩
    · exact .inl l
    · exact .inr ⟨k, c, e, cellK x c e _ z⟩
  · obtain ⟨v, z⟩ := I.cell x c e
    exact ⟨v, cellK x c e v z⟩
  · obtain ⟨m, ⟨o, _, _, ho, _⟩, _⟩ := I.loc
    exact free _ o (fun z => (hch _ z).2.1 rfl) ho I.free
  · obtain ⟨v, o, ho, hd⟩ := I.cell x c e
    exact free c o (fun z => (hch c z).2.2.1 x c e rfl) ho (I.freeC x c e)
  · obtain ⟨e, n, ne, nf, d⟩ := I.pin p hp
    have nch : p.1 ∉ ch := fun z => (hch p.1 z).2.2.2 p hp rfl
    exact ⟨keep p.1 p.2 ne nf nch e n, free p.1 p.2 nch e n, ne, nf, d⟩
/-- .. where the frame's own object is kept too -/
theorem Inv.un {t' : Nat} (I : Inv X pins σ H s) (u : Un X.fs [] H H' s.heap h') (hok : HOk X.prog X.w H' h') : Inv X pins σ H' { s with heap := h', toks := t' } := by
  obtain ⟨m, ⟨o, es, ep, ho, r⟩, _⟩ := id I.loc
  obtain ⟨sl, hL⟩ := u.any ho I.free (by simp)
  exact I.step (g' := s.gens) (d' := s.drawn) (ch := []) (fun _ z => nomatch z) (fun b o _ hb _ e n => u.keep b o e n hb (by simp)) (fun b o _ hb _ e n => u.slot b o e n hb (by simp)) (fun b o _ e n => u.free b o e n (by simp)) (fun b o _ e => u.there b o e (by simp)) u.tups u.frzs u.tbls (fun m' hm => by
    obtain ⟨o', es', ep', ho', r'⟩ := hm
    rw [ho] at ho'; cases ho'
    exact ⟨_, es', ep', hL, r'⟩) hok I.bare
/-- behind a call (or a comprehension's block): the slots of this frame may have changed too, the records at ch may have turned -/
theorem Inv.call {g' : Array GenState} {t' : Nat} {d' : Drawn} {ch : List Addr} (I : Inv X pins σ H s) (u : Un (frs X.stack) ch H H' s.heap h') (hok : HOk X.prog X.w H' h') (hg : AllBare g')
    (hch : ∀ b ∈ ch, (b ∈ X.ex ∨ X.s₀.heap.objs.size ≤ b) ∧ b ≠ X.env.locals ∧ (∀ x c, X.env.cells.lookup x = some c → c ≠ b) ∧ ∀ p ∈ X.pn ++ pins, p.1 ≠ b) :
    Inv X pins σ H' { s with heap := h', gens := g', drawn := d', toks := t' } := by
  obtain ⟨m, ⟨o, es, ep, ho, r⟩, _⟩ := id I.loc
  obtain ⟨sl, hL⟩ := u.any ho I.free fun z => (hch _ z).2.1 rfl
  exact I.step (ch := ch) hch (fun b o hL hb hc e n => u.keep b o e n (fun z => (List.mem_cons.mp (I.stkSub b z)).elim hL hb) hc) (fun b o _ _ hc e n => u.any e n hc) (fun b o hc e n => u.free b o e n hc) (fun b o hc e => u.there b o e hc) u.tups u.frzs u.tbls (fun m' hm => by
    obtain ⟨o', es', ep', ho', r'⟩ := hm
    rw [ho] at ho'; cases ho'
    exact ⟨_, es', ep', hL, r'⟩) hok hg
/-- an untracked record of ours (an iterator) has turned -/
theorem Inv.turned {t' : Nat} {it : Addr} (I : Inv X pins σ H s) (k : ∀ b o, b ≠ it → s.heap.get? b = some o → h'.get? b = some o) (hn : H it = none) (hL : it ≠ X.env.locals)
    (h1 : it ∈ X.ex ∨ X.s₀.heap.objs.size ≤ it) (h2 : ∀ x c, X.env.cells.lookup x = some c → c ≠ it) (h3 : ∀ p ∈ X.pn ++ pins, p.1 ≠ it) : Inv X pins σ H { s with heap := h', toks := t' } := by
  have nit : ∀ b u, H b = some u → b ≠ it := fun b u e z => by rw [z, hn] at e; cases e
  refine I.step (g' := s.gens) (d' := s.drawn) (ch := [it]) (fun b hb => ?_) (fun b o _ _ hc e _ => k b o (fun z => hc (by simp [z])) e) (fun b o _ _ hc e _ => ⟨o.slots, k b o (fun z => hc (by simp [z])) e⟩) (fun _ _ _ _ n => n)
    (fun b o hc e => ⟨o, k b o (fun z => hc (by simp [z])) e⟩) (fun _ _ e => e) (fun _ _ _ e => e) (fun b ps e => ⟨#[], by rw [e]; simp⟩) (fun m hm => ?_) (fun b u e => ?_) I.bare
  · have e : b = it := by simpa using hb
    subst e
    exact ⟨h1, hL, h2, h3⟩
  · obtain ⟨o, es, ep, ho, r⟩ := hm
    exact ⟨o, es, ep, k _ o (Ne.symm hL) ho, r⟩
  · refine (I.hok b u e).stay (fun c v hc q => k c v ?_ q) (fun _ q => q) fun _ _ q => q
    rcases hc with z | z
    · rw [z]; exact nit b u e
    · exact nit c _ z
theorem Inv.tok (I : Inv X pins σ H s) (t : Nat) : Inv X pins σ H { s with toks := t } := I.un (h' := s.heap) (t' := t) Un.refl I.hok
/-- all objects kept -/
theorem Inv.kept {t' : Nat} (I : Inv X pins σ H s) (k : ∀ b u, s.heap.get? b = some u → h'.get? b = some u) : Inv X pins σ H { s with heap := h', toks := t' } := I.un (Un.kept k) (I.hok.kept k)
/-- a new object laid and tracked -/
theorem Inv.laid {a : Addr} {o : HO} {t' : Nat} (I : Inv X pins σ H s) (k : ∀ b u, s.heap.get? b = some u → h'.get? b = some u) (hp : s.heap.objs.size ≤ a) (new : ObjOk X.prog X.w (upd H a o) h' a o) :
    Inv X pins σ (upd H a o) { s with heap := h', toks := t' } := I.un (Un.laid k hp (I.hok.fresh hp)) (I.hok.laid k hp new)
/-- an object written -/
theorem Inv.write {x e : Addr} {o : HO} {t' : Nat} (I : Inv X pins σ H s) (mu : Mut (H x)) (he : e = x ∨ H e = some (.own x)) (k : ∀ b u, b ≠ e → s.heap.get? b = some u → h'.get? b = some u) (heo : ∃ u, h'.get? e = some u)
    (new : ObjOk X.prog X.w (upd H x o) h' x o) : Inv X pins σ (upd H x o) { s with heap := h', toks := t' } := I.un (Un.write mu he k heo) (I.hok.write mu he k heo new)
theorem Inv.pins_of {pins' : List (Addr × Obj)} (I : Inv X pins σ H s) (h : ∀ p ∈ pins', s.heap.get? p.1 = some p.2 ∧ H p.1 = none ∧ p.1 ≠ X.env.locals ∧ p.1 ∉ X.fs ∧ ∀ v, p.2.data ≠ .cell v) : Inv X pins' σ H s :=
  ⟨I.ok, I.os, I.bare, I.base, I.loc, I.cell, I.free, I.freeC, fun p hp => (List.mem_append.mp hp).elim (fun z => I.pin p (List.mem_append_left _ z)) (h p), I.hok, I.len⟩

theorem nodup_ix {N : List Str} (hN : N.Nodup) {i j : Nat} {x : Str} (a : N[i]? = some x) (b : N[j]? = some x) : i = j := by
  obtain ⟨h1, e1⟩ := List.getElem?_eq_some_iff.mp a
  obtain ⟨h2, e2⟩ := List.getElem?_eq_some_iff.mp b
  exact (List.getElem_inj hN).mp (e1.trans e2.symm)

/-- a name is stored; what changed -/
theorem store_ok2 {M : Model} {A : Around} {E : Value → Shared → Prop} {i : Nat} {x : Str} {v : V} {u : Value} {Q : Unit → Shared → Prop} (I : Inv X pins σ H s) (hN : X.N.Nodup) (hi : X.N[i]? = some x) (hx : Loc X.env.scope x) (r : RelV v u)
    (h : ∀ s', Inv X pins (σ.set i (some v)) H s' → (∃ a, Heap.SameBut a s.heap s'.heap ∧ (a = X.env.locals ∨ X.env.cells.lookup x = some a)) → Q () s') (hf : X.fn x = true ∨ X.env.scope.names.lookup x = some .local := by first | exact .inl rfl | exact .inr rfl | assumption) : wpAny M A (storeName X.env x u) Q E s := by
  obtain ⟨m, hn, hl⟩ := id I.loc
  have hcls : (X.env.scope.kind == .class || (X.env.scope.kind == .module && X.env.locals != X.env.globals)) = false := by rw [I.ok.kind]; rfl
  have hiσ : i < σ.length := by rw [I.len]; exact (List.getElem?_eq_some_iff.mp hi).1
  have cne := I.cne
  have tracked : ∀ {a : Addr} {h' : Heap}, (∃ o, s.heap.get? a = some o ∧ H a = none) → Heap.SameBut a s.heap h' → HOk X.prog X.w H h' := fun {a h'} ha hs b ob e => by
    obtain ⟨_, _, hfree⟩ := ha
    refine (I.hok b ob e).stay (fun c w' hc q => (hs.2 c ?_).trans q) (fun _ q => q) fun _ _ q => q
    rintro rfl
    rcases hc with rfl | hc
    · rw [hfree] at e; cases e
    · rw [hfree] at hc; cases hc
  rcases hx with hk | hk
  · refine wpAny_storeName_local hk hn (fun h' hn' hs => ?_) hcls
    obtain ⟨oL, _, _, hoL, _⟩ := id hn
    refine h _ ⟨I.ok, I.os, I.bare, ⟨fun b o e n hb hx => ?_, fun b o e n hb hx => ?_, I.base.free, fun b o e hx => ?_, I.base.tups, I.base.frzs, I.base.tbls⟩, ⟨_, hn', fun j y v' e1 e2 e3 => ?_⟩, fun y c e => ?_, I.free, I.freeC, fun p hp => ?_, tracked ⟨oL, hoL, I.free⟩ hs, by simpa using I.len⟩ ⟨_, hs, .inl rfl⟩
    · exact (hs.2 b (Nat.ne_of_lt (Nat.lt_of_lt_of_le (Heap.lt_size e) I.ok.above))).trans (I.base.keep b o e n hb hx)
    · obtain ⟨sl, e1⟩ := I.base.slot b o e n hb hx
      exact ⟨sl, (hs.2 b (Nat.ne_of_lt (Nat.lt_of_lt_of_le (Heap.lt_size e) I.ok.above))).trans e1⟩
    · obtain ⟨o', e1⟩ := I.base.there b o e hx
      exact ⟨o', (hs.2 b (Nat.ne_of_lt (Nat.lt_of_lt_of_le (Heap.lt_size e) I.ok.above))).trans e1⟩
    · by_cases hj : j = i
      · subst hj
        rw [hi] at e1; cases e1
        rw [List.getElem?_set_self hiσ] at e2
        cases e2
        exact ⟨u, r, .inl ⟨hk, by simp⟩⟩
      · rw [List.getElem?_set_ne (Ne.symm hj)] at e2
        obtain ⟨u', r', q⟩ := hl j y v' e1 e2 e3
        refine ⟨u', r', ?_⟩
        rcases q with ⟨k, e⟩ | ⟨k, c, e, z⟩
        · refine .inl ⟨k, ?_⟩
          have : y ≠ x := fun e => hj (nodup_ix hN e1 (e ▸ hi))
          simp [this, e]
        · exact .inr ⟨k, c, e, z.sameBut hs (cne y c e)⟩
    · obtain ⟨w', z⟩ := I.cell y c e
      exact ⟨w', z.sameBut hs (cne y c e)⟩
    · obtain ⟨e, n, ne, nf, d⟩ := I.pin p hp
      exact ⟨(hs.2 p.1 ne).trans e, n, ne, nf, d⟩
  · have hfn : X.fn x = true := by
      rcases hf with z | z
      · exact z
      · rw [z] at hk; cases hk
    obtain ⟨c, hc⟩ := I.ok.has x (.inl hk)
    obtain ⟨w', z⟩ := I.cell x c hc
    refine wpAny_storeName_cell I.ok.kind hk hc z (fun h' hc' hs => ?_)
    obtain ⟨oc, hoc, hocd⟩ := id z
    refine h { s with heap := h' } ⟨I.ok, I.os, I.bare, ⟨fun b o e n hb hx => ?_, fun b o e n hb hx => ?_, I.base.free, fun b o e hx => ?_, I.base.tups, I.base.frzs, I.base.tbls⟩, ⟨m, hn.sameBut hs (Ne.symm (cne x c hc)), fun j y v' e1 e2 e3 => ?_⟩, fun y c' e => ?_, I.free, I.freeC, fun p hp => ?_, tracked ⟨oc, hoc, I.freeC x c hc⟩ hs, by simpa using I.len⟩ ⟨c, hs, .inr hc⟩
    · exact (hs.2 b (Nat.ne_of_lt (Nat.lt_of_lt_of_le (Heap.lt_size e) (I.ok.cab x c hfn hc)))).trans (I.base.keep b o e n hb hx)
    · obtain ⟨sl, e1⟩ := I.base.slot b o e n hb hx
      exact ⟨sl, (hs.2 b (Nat.ne_of_lt (Nat.lt_of_lt_of_le (Heap.lt_size e) (I.ok.cab x c hfn hc)))).trans e1⟩
    · obtain ⟨o', e1⟩ := I.base.there b o e hx
      exact ⟨o', (hs.2 b (Nat.ne_of_lt (Nat.lt_of_lt_of_le (Heap.lt_size e) (I.ok.cab x c hfn hc)))).trans e1⟩
    · by_cases hj : j = i
      · subst hj
        rw [hi] at e1; cases e1
        rw [List.getElem?_set_self hiσ] at e2
        cases e2
        exact ⟨u, r, .inr ⟨.inl hk, c, hc, hc'⟩⟩
      · rw [List.getElem?_set_ne (Ne.symm hj)] at e2
        obtain ⟨u', r', q⟩ := hl j y v' e1 e2 e3
        refine ⟨u', r', ?_⟩
        rcases q with q | ⟨k, c', e, z'⟩
        · exact .inl q
        · refine .inr ⟨k, c', e, z'.sameBut hs ?_⟩
          rintro rfl
          exact hj (nodup_ix hN e1 (I.ok.inj _ _ _ e hc ▸ hi))
    · by_cases hcc : c' = c
      · subst hcc; exact ⟨_, hc'⟩
      · obtain ⟨w2, z2⟩ := I.cell y c' e
        exact ⟨w2, z2.sameBut hs hcc⟩
    · obtain ⟨e, n, ne, nf, d⟩ := I.pin p hp
      refine ⟨(hs.2 p.1 ?_).trans e, n, ne, nf, d⟩
      intro q
      rw [q, hoc] at e
      have q' : oc = p.2 := Option.some.inj e
      exact d w' (by rw [← q']; exact hocd)
theorem store_ok {M : Model} {A : Around} {E : Value → Shared → Prop} {i : Nat} {x : Str} {v : V} {u : Value} {Q : Unit → Shared → Prop} (I : Inv X pins σ H s) (hN : X.N.Nodup) (hi : X.N[i]? = some x) (hx : Loc X.env.scope x) (r : RelV v u)
    (h : ∀ s', Inv X pins (σ.set i (some v)) H s' → Q () s') (hf : X.fn x = true ∨ X.env.scope.names.lookup x = some .local := by first | exact .inl rfl | exact .inr rfl | assumption) : wpAny M A (storeName X.env x u) Q E s :=
  store_ok2 I hN hi hx r (fun s' I' _ => h s' I') hf
/-- behind a call or a block, the state as it is -/
theorem Inv.call' {s' : Shared} {ch : List Addr} (I : Inv X pins σ H s) (ho : s'.os = s.os) (u : Un (frs X.stack) ch H H' s.heap s'.heap) (hok : HOk X.prog X.w H' s'.heap) (hg : AllBare s'.gens)
    (hch : ∀ b ∈ ch, (b ∈ X.ex ∨ X.s₀.heap.objs.size ≤ b) ∧ b ≠ X.env.locals ∧ (∀ x c, X.env.cells.lookup x = some c → c ≠ b) ∧ ∀ p ∈ X.pn ++ pins, p.1 ≠ b) : Inv X pins σ H' s' := by
  obtain ⟨h', g', d', t', o'⟩ := s'
  have e : o' = s.os := ho
  subst e
  exact I.call (g' := g') (t' := t') (d' := d') u hok hg hch
end

/-- an exception: its class, its own dict's address (where it has one), the abstract heap behind it -/
abbrev XK := Value → Option Addr → Hp → Prop
abbrev St := List (Option V)
abbrev VK := V → Hp → Prop
/-- an expression's reading; a test's; an argument list's -/
abbrev TE := St → Hp → VK → Prop
abbrev TT := St → Hp → (Bool → Hp → Prop) → Prop
abbrev TA := St → Hp → (List V → Hp → Prop) → Prop
/-- what is wanted behind a statement -/
structure Ends where
  nx : St → Hp → Prop
  rt : VK
  bk : St → Hp → Prop := fun _ _ => False
  ct : St → Hp → Prop := fun _ _ => False
abbrev TS := Ends → St → Hp → Prop

def EP (X : Cx) (pins : List (Addr × Obj)) (σ : St) (Q : VK) (u : Value) (s' : Shared) : Prop := ∃ v H', Inv X pins σ H' s' ∧ RelV v u ∧ Q v H'
def TP (X : Cx) (pins : List (Addr × Obj)) (σ : St) (Q : Bool → Hp → Prop) (b : Bool) (s' : Shared) : Prop := ∃ H', Inv X pins σ H' s' ∧ Q b H'
def AP (X : Cx) (pins : List (Addr × Obj)) (σ : St) (Q : List V → Hp → Prop) (us : List Value) (s' : Shared) : Prop := ∃ vs H', Inv X pins σ H' s' ∧ Vals vs us ∧ Q vs H'
def SP (X : Cx) (pins : List (Addr × Obj)) (D : Ends) (f : Flow) (s' : Shared) : Prop :=
  match f with
  | .next => ∃ σ' H', Inv X pins σ' H' s' ∧ D.nx σ' H'
  | .brk => ∃ σ' H', Inv X pins σ' H' s' ∧ D.bk σ' H'
  | .cont => ∃ σ' H', Inv X pins σ' H' s' ∧ D.ct σ' H'
  | .ret u => ∃ v σ' H', Inv X pins σ' H' s' ∧ RelV v u ∧ D.rt v H'

def PE (X : Cx) (e : Expr) (t : TE) : Prop :=
  ∀ (pins : List (Addr × Obj)) (s : Shared) (σ : St) (H : Hp) (Q : VK), Inv X pins σ H s → t σ H Q → wpAny (model X.prog X.w) X.A (eval e X.env) (EP X pins σ Q) X.xe s
def PT (X : Cx) (e : Expr) (t : TT) : Prop :=
  ∀ (pins : List (Addr × Obj)) (s : Shared) (σ : St) (H : Hp) (Q : Bool → Hp → Prop), Inv X pins σ H s → t σ H Q → wpAny (model X.prog X.w) X.A (isTrue e X.env (eval e X.env)) (TP X pins σ Q) X.xe s
/-- a test whatever its 'whole' is (and, or) -/
def PW (X : Cx) (e : Expr) (t : TT) : Prop :=
  ∀ (whole : Sem Value) (pins : List (Addr × Obj)) (s : Shared) (σ : St) (H : Hp) (Q : Bool → Hp → Prop), Inv X pins σ H s → t σ H Q → wpAny (model X.prog X.w) X.A (isTrue e X.env whole) (TP X pins σ Q) X.xe s
theorem PW.pt {X : Cx} {e : Expr} {t : TT} (h : PW X e t) : PT X e t := h _
/-- an argument list (no star), from the left -/
def PA (X : Cx) (es : List Expr) (t : TA) : Prop :=
  ∀ (pos : Pos) (pins : List (Addr × Obj)) (s : Shared) (σ : St) (H : Hp) (Q : List V → Hp → Prop), Inv X pins σ H s → t σ H Q → wpAny (model X.prog X.w) X.A (spliced (backTo pos (starEach es X.env))) (AP X pins σ Q) X.xe s
def PS (X : Cx) (st : Stmt) (t : TS) : Prop :=
  ∀ (pins : List (Addr × Obj)) (s : Shared) (σ : St) (H : Hp) (D : Ends), Inv X pins σ H s → t D σ H → wpAny (model X.prog X.w) X.A (exec st X.env) (SP X pins D) X.xe s
def PSs (X : Cx) (st : List Stmt) (t : TS) : Prop :=
  ∀ (pins : List (Addr × Obj)) (s : Shared) (σ : St) (H : Hp) (D : Ends), Inv X pins σ H s → t D σ H → wpAny (model X.prog X.w) X.A (execs st X.env) (SP X pins D) X.xe s
/-- weaken the end -/
theorem thn {α : Type} {t : Sem α} {Q Q' : α → Shared → Prop} {M : Model} {A : Around} {E : Value → Shared → Prop} {s : Shared} (h : wpAny M A t Q E s) (hQ : ∀ a s, Q a s → Q' a s) : wpAny M A t Q' E s := wpAny_mono h hQ fun _ _ x => x
end L2

namespace L2
open PySem PySem.Spec PyProof.Rows
section
variable {X : Cx}

def tVar (i : Nat) : TE := fun σ H Q => ∃ v, σ[i]? = some (some v) ∧ Q v H
def tC (v : V) : TE := fun _ H Q => Q v H
theorem pe_var {i : Nat} {x : Str} {pos : Pos} (hN : X.N[i]? = some x) (hv : Vis X.env.scope x) (hd : (x == ("__debug__" : Str)) = false := by decide) (hcd : (x == ("__classdict__" : Str)) = false := by decide) : PE X (.Name x pos) (tVar i) := by
  intro pins s σ H Q I h
  obtain ⟨v, e, h⟩ := h
  obtain ⟨m, hn, hl⟩ := I.loc
  obtain ⟨u, r, l⟩ := hl i x v hN e hv
  have fin : EP X pins σ Q u s := ⟨v, H, I, r, h⟩
  rcases l with ⟨hk, hm⟩ | ⟨hk, c, hc, hcell⟩
  · exact wpAny_Name (wpAny_loadName_local I.ok.kind hk hn hm fin) hd
  · rcases hk with hk | hk
    · exact wpAny_Name (wpAny_loadName_cell I.ok.kind hk hc hcell fin) hd
    · exact wpAny_Name (wpAny_loadName_free I.ok.kind hk hc hcell fin hcd) hd
theorem pe_int {i j pos} : PE X (.Constant (.int i) j pos) (tC (.int i)) := fun _ _ _ H _ I h => wpAny_Constant_int ⟨.int i, H, I.tok _, ⟨_, rfl⟩, h⟩
theorem pe_bl {b j pos} : PE X (.Constant (.bool b) j pos) (tC (.bl b)) := fun _ _ _ H _ I h => Constant_bool ⟨.bl b, H, I, rfl, h⟩
theorem pe_str {x j pos} : PE X (.Constant (.str x) j pos) (tC (.str x)) := fun _ _ _ H _ I h => Calls.Constant_str ⟨.str x, H, I.tok _, ⟨_, rfl⟩, h⟩

/-- a global name of the def -/
def Gl (X : Cx) (x : Str) : Prop := X.env.kindOf x = some .globalImplicit
theorem ld_glob {E : Value → Shared → Prop} {pins : List (Addr × Obj)} {s : Shared} {σ : St} {H : Hp} {x : Str} {u : Value} {pos : Pos} {Q : Value → Shared → Prop} (I : Inv X pins σ H s) (hg : Gl X x) (hm : X.mg x = some u) (h : Q u s)
    (hd : (x == ("__debug__" : Str)) = false := by decide) : wpAny (model X.prog X.w) X.A (eval (.Name x pos) X.env) Q E s :=
  Calls.Name_function_global I.ok.kind hg (Calls.loadGlobal_global (by rw [I.ok.glob]; exact I.mod.glob.keeps I.bk) hm h) hd
theorem ld_blt {E : Value → Shared → Prop} {pins : List (Addr × Obj)} {s : Shared} {σ : St} {H : Hp} {x : Str} {u : Value} {pos : Pos} {Q : Value → Shared → Prop} (I : Inv X pins σ H s) (hg : Gl X x) (hm : X.mg x = none) (hv : bootBuiltins x = some u) (h : Q u s)
    (hn : x ≠ "__name__" := by decide) (hd : (x == ("__debug__" : Str)) = false := by decide) : wpAny (model X.prog X.w) X.A (eval (.Name x pos) X.env) Q E s := by
  obtain ⟨mb, h1, h2⟩ := I.mod.blt
  exact Calls.Name_function_global I.ok.kind hg (Calls.loadGlobal_builtin (by rw [I.ok.glob]; exact I.mod.glob.keeps I.bk) hm (by rw [I.ok.blt]; exact h1.keeps I.bk) ((h2 x hn).trans hv) h) hd
/-- a module's constant, a class, a function, as a value -/
theorem pe_glob {x : Str} {v : V} {u : Value} {pos : Pos} (hg : Gl X x) (hm : X.mg x = some u) (r : RelV v u) (hd : (x == ("__debug__" : Str)) = false := by decide) : PE X (.Name x pos) (tC v) :=
  fun _ _ _ H _ I h => ld_glob I hg hm ⟨v, H, I, r, h⟩ hd

variable {a b : Expr} {ta tb : TE} {pos : Pos}

def PC (X : Cx) (op : CmpOp) (a b : Expr) (t : TE) : Prop :=
  ∀ (pins : List (Addr × Obj)) (s : Shared) (σ : St) (H : Hp) (Q : VK), Inv X pins σ H s → t σ H Q →
    wpAny (model X.prog X.w) X.A (eval a X.env) (fun v s₁ => wpAny (model X.prog X.w) X.A (eval b X.env) (fun u s₂ => wpAny (model X.prog X.w) X.A (compareOp op v u) (EP X pins σ Q) X.xe s₂) X.xe s₁) X.xe s
theorem nobehind (b : Expr) {op : CmpOp} (h : op ≠ .In) (h2 : op ≠ .NotIn) : behindInMarks op b = false := by
  have e1 : (op == CmpOp.In) = false := by cases op <;> first | rfl | exact absurd rfl h
  have e2 : (op == CmpOp.NotIn) = false := by cases op <;> first | rfl | exact absurd rfl h2
  cases b <;> simp [behindInMarks, e1, e2]
/-- is None -/
def tIsN (ta : TE) : TE := fun σ H Q => ta σ H fun x H1 => Q (.bl (decide (x = .non))) H1
theorem RelV.none_iff {x : V} {v : Value} (r : RelV x v) : (v == Value.none) = decide (x = .non) := by
  cases x with
  | non => cases r; rfl
  | bl _ => cases r; rfl
  | int _ => obtain ⟨t, rfl⟩ := r; rfl
  | str _ => obtain ⟨t, rfl⟩ := r; rfl
  | byt _ => obtain ⟨t, rfl⟩ := r; rfl
  | flt _ => obtain ⟨t, rfl⟩ := r; rfl
  | ref _ => cases r; rfl
  | ty _ => cases r; rfl
theorem pc_isN {j pos'} (ha : PE X a ta) : PC X .Is a (.Constant .none j pos') (tIsN ta) := by
  intro pins s σ H Q I h
  refine thn (ha pins s σ H _ I h) fun v s1 ⟨x, H1, I1, r1, q1⟩ => ?_
  exact Constant_none (is_none_gen ⟨.bl _, H1, I1, by rw [r1.none_iff]; rfl, q1⟩)
/-- a comparison as a value, as a test -/
def tB (t : TE) : TT := fun σ H Q => t σ H fun x H1 => ∃ c, x = .bl c ∧ Q c H1
theorem pe_cmp {op : CmpOp} {t : TE} (h : PC X op a b t) (h1 : behindInMarks op b = false := by first | exact nobehind _ (by decide) (by decide) | rfl) : PE X (.Compare a [op] [b] pos) t := fun pins s σ H Q I hw => wpAny_Compare1 (h pins s σ H Q I hw) h1
/-- an expression whose value is a bool, as a test -/
theorem pt_val {e : Expr} {t : TE} (h : PE X e t) (he : ∀ whole, isTrue e X.env whole = (do let v ← whole; standAt e.pos; holding [v] (truthy v)) := by intro _; rfl) : PT X e (tB t) := by
  intro pins s σ H Q I hw
  refine isTrue_plain (thn (h pins s σ H _ I hw) fun v s1 ⟨x, H1, I1, r1, q1⟩ => ?_) (he _)
  obtain ⟨d, rfl, q⟩ := q1
  cases r1
  exact wpAny_truthy_bool ⟨H1, I1, q⟩

variable {tA tB' : TT} {rest : List Expr}
def tAnd (t u : TT) : TT := fun σ H Q => t σ H fun c H1 => if c = true then u σ H1 Q else Q false H1
def tOr (t u : TT) : TT := fun σ H Q => t σ H fun c H1 => if c = true then Q true H1 else u σ H1 Q
def tNot (t : TT) : TT := fun σ H Q => t σ H fun c H1 => Q (!c) H1
theorem pw_and1 (ha : PT X a tA) : PW X (.BoolOp .And [a] pos) tA := by
  intro wh pins s σ H Q I h
  refine isTrue_and (thn (ha pins s σ H Q I h) fun c s1 e => ?_)
  cases c with
  | true => exact isTrue_and_nil e
  | false => exact e
theorem pw_or1 (ha : PT X a tA) : PW X (.BoolOp .Or [a] pos) tA := by
  intro wh pins s σ H Q I h
  refine isTrue_or (thn (ha pins s σ H Q I h) fun c s1 e => ?_)
  cases c with
  | false => exact isTrue_or_nil e
  | true => exact e
theorem pw_and (ha : PT X a tA) (hb : PW X (.BoolOp .And (b :: rest) pos) tB') : PW X (.BoolOp .And (a :: b :: rest) pos) (tAnd tA tB') := by
  intro wh pins s σ H Q I h
  refine isTrue_and (thn (ha pins s σ H _ I h) fun c s1 ⟨H1, I1, q1⟩ => ?_)
  cases c with
  | true => exact hb wh pins s1 σ H1 Q I1 q1
  | false => exact ⟨H1, I1, q1⟩
theorem pw_or (ha : PT X a tA) (hb : PW X (.BoolOp .Or (b :: rest) pos) tB') : PW X (.BoolOp .Or (a :: b :: rest) pos) (tOr tA tB') := by
  intro wh pins s σ H Q I h
  refine isTrue_or (thn (ha pins s σ H _ I h) fun c s1 ⟨H1, I1, q1⟩ => ?_)
  cases c with
  | true => exact ⟨H1, I1, q1⟩
  | false => exact hb wh pins s1 σ H1 Q I1 q1
theorem pt_not (ha : PT X a tA) : PT X (.UnaryOp .Not a pos) (tNot tA) := by
  intro pins s σ H Q I h
  exact isTrue_not (ha pins s σ H (fun c H1 => Q (!c) H1) I h)
/-- .. as values (bools) -/
def tAndV (ta tb : TE) : TE := fun σ H Q => ta σ H fun x H1 => ∃ c, x = .bl c ∧ if c = true then tb σ H1 Q else Q (.bl false) H1
def tOrV (ta tb : TE) : TE := fun σ H Q => ta σ H fun x H1 => ∃ c, x = .bl c ∧ if c = true then Q (.bl true) H1 else tb σ H1 Q
theorem pe_one {op} {t : TE} (h : PE X a t) : PE X (.BoolOp op [a] pos) t := fun pins s σ H Q I hw => BoolOp_one (h pins s σ H Q I hw)
theorem pe_and (ha : PE X a ta) (hb : PE X (.BoolOp .And (b :: rest) pos) tb) : PE X (.BoolOp .And (a :: b :: rest) pos) (tAndV ta tb) := by
  intro pins s σ H Q I h
  refine BoolOp_and (thn (ha pins s σ H _ I h) fun v s1 ⟨x, H1, I1, r1, q1⟩ => ?_)
  obtain ⟨c, rfl, q1⟩ := q1
  cases r1
  refine wpAny_truthy_bool ?_
  cases c with
  | true => exact hb pins s1 σ H1 Q I1 q1
  | false => exact ⟨.bl false, H1, I1, rfl, q1⟩
theorem pe_or (ha : PE X a ta) (hb : PE X (.BoolOp .Or (b :: rest) pos) tb) : PE X (.BoolOp .Or (a :: b :: rest) pos) (tOrV ta tb) := by
  intro pins s σ H Q I h
  refine BoolOp_or (thn (ha pins s σ H _ I h) fun v s1 ⟨x, H1, I1, r1, q1⟩ => ?_)
  obtain ⟨c, rfl, q1⟩ := q1
  cases r1
  refine wpAny_truthy_bool ?_
  cases c with
  | false => exact hb pins s1 σ H1 Q I1 q1
  | true => exact ⟨.bl true, H1, I1, rfl, q1⟩
end
end L2

namespace L2
open PySem PySem.Spec PyProof.Rows

def SqL (K : PySem.W.Frag) (H : Hp) (a : Addr) (xs : List V) : Prop :=
  Rd H a (.lst xs) ∨
    ∃ (o : Obj) (its : Array Value) (n : Nat), K.lookup a = some o ∧ o.cls = .type "list" ∧ o.dict = none ∧ o.data = .seq its n ∧ its.size ≤ sizeLine ∧ Vals xs its.toList
def SqT (K : PySem.W.Frag) (H : Hp) (a : Addr) (xs : List V) : Prop :=
  Rd H a (.tup xs) ∨
    ∃ (o : Obj) (its : Array Value) (n : Nat), K.lookup a = some o ∧ o.cls = .type "tuple" ∧ o.data = .seq its n ∧ its.size ≤ sizeLine ∧ Vals xs its.toList
def absV : Value → Option V
  | .none => some .non
  | .bool b => some (.bl b)
  | .int i _ => some (.int i)
  | .str x _ => some (.str x)
  | .bytes b _ => some (.byt b)
  | .float b _ => some (.flt b)
  | .ref a => some (.ref a)
  | .type n => some (.ty n)
  | _ => none
theorem RelV.abs {x : V} {u : Value} (r : RelV x u) : absV u = some x := by
  cases x with
  | non => cases r; rfl
  | bl _ => cases r; rfl
  | int _ => obtain ⟨t, rfl⟩ := r; rfl
  | str _ => obtain ⟨t, rfl⟩ := r; rfl
  | byt _ => obtain ⟨t, rfl⟩ := r; rfl
  | flt _ => obtain ⟨t, rfl⟩ := r; rfl
  | ref _ => cases r; rfl
  | ty _ => cases r; rfl
theorem RelV.inj {x y : V} {u : Value} (r : RelV x u) (q : RelV y u) : x = y := Option.some.inj (r.abs.symm.trans q.abs)
theorem Vals.inj : ∀ {xs ys : List V} {us : List Value}, Vals xs us → Vals ys us → xs = ys
  | _, _, _, .nil, .nil => rfl
  | _, _, _, .cons r t, .cons r' t' => by rw [r.inj r', Vals.inj t t']
section
variable {X : Cx} {pins : List (Addr × Obj)} {σ : St} {H : Hp} {s : Shared} {a : Addr} {xs ys : List V}
theorem SqL.of {K : PySem.W.Frag} (h : H a = some (.lst xs)) : SqL K H a xs := .inl (.inl h)
theorem SqT.of {K : PySem.W.Frag} (h : H a = some (.tup xs)) : SqT K H a xs := .inl (.inl h)
theorem Inv.list (I : Inv X pins σ H s) (h : SqL X.K H a xs) : ∃ its : List Value, Vals xs its ∧ PlainL s.heap a its.toArray ∧ xs.length ≤ sizeLine := by
  rcases h with h | ⟨o, its, n, hk, hc, hd, hs, hz, r⟩
  · obtain ⟨z, its, n, r, e⟩ := h.ok I.hok
    exact ⟨its, r, ⟨_, n, e, rfl, rfl, rfl⟩, z⟩
  · refine ⟨its.toList, r, ⟨o, n, I.kIn a o hk, hc, hd, by simpa using hs⟩, ?_⟩
    have e := r.length
    simp only [Array.length_toList] at e
    omega
theorem Inv.tuple (I : Inv X pins σ H s) (h : SqT X.K H a xs) : ∃ its : List Value, Vals xs its ∧ IsTup s.heap a its.toArray ∧ xs.length ≤ sizeLine := by
  rcases h with h | ⟨o, its, n, hk, hc, hs, hz, r⟩
  · obtain ⟨z, its, r, p⟩ := h.ok I.hok
    exact ⟨its, r, p, z.1⟩
  · refine ⟨its.toList, r, ⟨o, I.kIn a o hk, hc, n, by simpa using hs⟩, ?_⟩
    have e := r.length
    simp only [Array.length_toList] at e
    omega
theorem Inv.list_inj (I : Inv X pins σ H s) (h : SqL X.K H a xs) (h' : SqL X.K H a ys) : xs = ys := by
  obtain ⟨its, r, ⟨o, n, e, _, _, d⟩, _⟩ := I.list h
  obtain ⟨its', r', ⟨o', n', e', _, _, d'⟩, _⟩ := I.list h'
  rw [e] at e'; cases e'
  rw [d] at d'
  injection d' with d1 _
  have : its = its' := by simpa using congrArg Array.toList d1
  subst this
  exact r.inj r'
theorem Inv.tuple_inj (I : Inv X pins σ H s) (h : SqT X.K H a xs) (h' : SqT X.K H a ys) : xs = ys := by
  obtain ⟨its, r, ⟨o, e, _, n, d⟩, _⟩ := I.tuple h
  obtain ⟨its', r', ⟨o', e', _, n', d'⟩, _⟩ := I.tuple h'
  rw [e] at e'; cases e'
  rw [d] at d'
  injection d' with d1 _
  have : its = its' := by simpa using congrArg Array.toList d1
  subst this
  exact r.inj r'
end

abbrev Cx.wish (X : Cx) (E : Value → Shared → Prop) : Cx := { X with xe := E }
/-- no exception leaves -/
abbrev Cx.nox (X : Cx) : Cx := X.wish fun _ _ => False
theorem Cx.Ok.wish {X : Cx} (ok : X.Ok) (E : Value → Shared → Prop) : (X.wish E).Ok :=
  ⟨ok.mod, ok.kind, ok.glob, ok.blt, ok.above, ok.inj, ok.has, ok.cab, ok.hd, ok.frames, ok.stk, ok.exf, ok.bs, ok.bsz, ok.noex, ok.exfs, ok.funs, ok.frf⟩
theorem Cx.Ok.unwish {X : Cx} {E : Value → Shared → Prop} (ok : (X.wish E).Ok) : X.Ok :=
  ⟨ok.mod, ok.kind, ok.glob, ok.blt, ok.above, ok.inj, ok.has, ok.cab, ok.hd, ok.frames, ok.stk, ok.exf, ok.bs, ok.bsz, ok.noex, ok.exfs, ok.funs, ok.frf⟩
section
variable {X : Cx} {pins : List (Addr × Obj)} {σ : St} {H : Hp} {s : Shared} {E : Value → Shared → Prop}
theorem Inv.wish (I : Inv X pins σ H s) (E : Value → Shared → Prop) : Inv (X.wish E) pins σ H s := ⟨I.ok.wish E, I.os, I.bare, I.base, I.loc, I.cell, I.free, I.freeC, I.pin, I.hok, I.len⟩
theorem Inv.unwish (I : Inv (X.wish E) pins σ H s) : Inv X pins σ H s := ⟨I.ok.unwish, I.os, I.bare, I.base, I.loc, I.cell, I.free, I.freeC, I.pin, I.hok, I.len⟩
theorem SP.unwish {D : Ends} {f : Flow} {s' : Shared} (h : SP (X.wish E) pins D f s') : SP X pins D f s' := by
  cases f with
  | next => obtain ⟨σ', H', I, q⟩ := h; exact ⟨σ', H', I.unwish, q⟩
  | brk => obtain ⟨σ', H', I, q⟩ := h; exact ⟨σ', H', I.unwish, q⟩
  | cont => obtain ⟨σ', H', I, q⟩ := h; exact ⟨σ', H', I.unwish, q⟩
  | ret u => obtain ⟨v, σ', H', I, r, q⟩ := h; exact ⟨v, σ', H', I.unwish, r, q⟩
theorem PSs.nox {st : List Stmt} {t : TS} (h : PSs X.nox st t) : PSs X st t := fun pins s σ H D I hw =>
  wpAny_mono (h pins s σ H D (I.wish _) hw) (fun _ _ q => q.unwish) fun _ _ z => False.elim z
end

section
variable {X : Cx} {st : Stmt} {rest : List Stmt} {t u : TS} {e : Expr} {te : TE} {pos : Pos}
def tNext : TS := fun D σ H => D.nx σ H
def tSeq (t u : TS) : TS := fun D σ H => t { D with nx := u D } σ H
theorem pss_nil : PSs X [] tNext := fun _ _ σ H _ I h => wpAny_execs_nil ⟨σ, H, I, h⟩
theorem pss_cons (h1 : PS X st t) (h2 : PSs X rest u) : PSs X (st :: rest) (tSeq t u) := by
  intro pins s σ H D I h
  refine wpAny_execs_cons (thn (h1 pins s σ H { D with nx := u D } I h) fun f s1 q => ?_)
  cases f with
  | next =>
    obtain ⟨σ', H', I', q⟩ := q
    exact h2 pins s1 σ' H' D I' q
  | ret v => exact q
  | brk => exact q
  | cont => exact q
theorem pss_one (h1 : PS X st t) : PSs X [st] t := by
  intro pins s σ H D I h
  refine wpAny_execs_cons (thn (h1 pins s σ H D I h) fun f s1 q => ?_)
  cases f with
  | next => exact wpAny_execs_nil q
  | ret v => exact q
  | brk => exact q
  | cont => exact q
/-- in a def's body nothing is shown -/
theorem Inv.quiet {pins : List (Addr × Obj)} {σ : St} {H : Hp} {s : Shared} (I : Inv X pins σ H s) : interactive X.env = false := by simp [interactive, I.ok.kind]
/-- an expression whose value is dropped -/
def tDrop (te : TE) : TS := fun D σ H => te σ H fun _ H1 => D.nx σ H1
theorem ps_expr (he : PE X e te) (hs : swapsWith e none pos.line X.env = pure false := by rfl) : PS X (.Expr e pos) (tDrop te) := by
  intro pins s σ H D I h
  exact wpAny_Expr_any (thn (he pins s σ H _ I h) fun v s1 ⟨x, H1, I1, r1, q1⟩ => ⟨σ, H1, I1, q1⟩) I.quiet hs
def tRet (te : TE) : TS := fun D σ H => te σ H D.rt
theorem ps_ret (he : PE X e te) : PS X (.Return (some e) pos) (tRet te) := by
  intro pins s σ H D I h
  exact wpAny_Return_some (thn (he pins s σ H _ I h) fun v s1 ⟨x, H1, I1, r1, q1⟩ => ⟨x, σ, H1, I1, r1, q1⟩)
def tIfS (c : TT) (t u : TS) : TS := fun D σ H => c σ H fun b H1 => if b = true then t D σ H1 else u D σ H1
theorem ps_if {c : Expr} {a b : List Stmt} {tc : TT} (hc : PT X c tc) (ha : PSs X a t) (hb : PSs X b u) : PS X (.If c a b pos) (tIfS tc t u) := by
  intro pins s σ H D I h
  refine wpAny_If (thn (hc pins s σ H _ I h) fun d s1 ⟨H1, I1, q1⟩ => ?_)
  cases d with
  | true => exact ha pins s1 σ H1 D I1 q1
  | false => exact hb pins s1 σ H1 D I1 q1
end

abbrev TG := V → St → Hp → (St → Hp → Prop) → Prop
abbrev TGs := List V → St → Hp → (St → Hp → Prop) → Prop
def PG (X : Cx) (target : Expr) (t : TG) : Prop :=
  ∀ (pins : List (Addr × Obj)) (s : Shared) (σ : St) (H : Hp) (v : V) (u : Value) (Q : St → Hp → Prop), Inv X pins σ H s → RelV v u → t v σ H Q →
    wpAny (model X.prog X.w) X.A (assign target X.env u) (fun _ s' => ∃ σ' H', Inv X pins σ' H' s' ∧ Q σ' H') X.xe s
/-- several targets, one after another -/
def PGs (X : Cx) (ts : List Expr) (t : TGs) : Prop :=
  ∀ (pins : List (Addr × Obj)) (s : Shared) (σ : St) (H : Hp) (vs : List V) (us : List Value) (Q : St → Hp → Prop), Inv X pins σ H s → Vals vs us → t vs σ H Q →
    wpAny (model X.prog X.w) X.A (assignInOrder ((assignEach ts X.env).map (·.2)) us) (fun _ s' => ∃ σ' H', Inv X pins σ' H' s' ∧ Q σ' H') X.xe s
/-- a op= b, by values -/
abbrev TIp := V → V → Hp → VK → Prop
def PIp (X : Cx) (op : Operator) (t : TIp) : Prop :=
  ∀ (pins : List (Addr × Obj)) (s : Shared) (σ : St) (H : Hp) (x y : V) (v u : Value) (Q : VK), Inv X pins σ H s → RelV x v → RelV y u → t x y H Q →
    wpAny (model X.prog X.w) X.A (inplaceOp op v u) (EP X pins σ Q) X.xe s
section
variable {X : Cx} {pos : Pos}
def gName (i : Nat) : TG := fun v σ H Q => Q (σ.set i (some v)) H
theorem pg_name {i : Nat} {x : Str} (hN : X.N.Nodup) (hi : X.N[i]? = some x) (hx : Loc X.env.scope x) (hf : X.fn x = true ∨ X.env.scope.names.lookup x = some .local := by first | exact .inl rfl | exact .inr rfl | assumption) : PG X (.Name x pos) (gName i) := by
  intro pins s σ H v u Q I r h
  exact wpAny_assign_Name (store_ok I hN hi hx r (fun s' I' => ⟨_, H, I', h⟩) hf)
def gNil : TGs := fun vs σ H Q => vs = [] ∧ Q σ H
def gCons (t : TG) (u : TGs) : TGs := fun vs σ H Q => ∃ v r, vs = v :: r ∧ t v σ H fun σ' H' => u r σ' H' Q
theorem pgs_nil : PGs X [] gNil := by
  intro pins s σ H vs us Q I r h
  obtain ⟨e, h⟩ := h
  subst e
  cases r
  exact assignInOrder_nil ⟨σ, H, I, h⟩
theorem pgs_cons {e : Expr} {es : List Expr} {t : TG} {u : TGs} (h1 : PG X e t) (h2 : PGs X es u)
    (hs : (assignEach (e :: es) X.env).map (·.2) = assign e X.env :: (assignEach es X.env).map (·.2) := by rfl) : PGs X (e :: es) (gCons t u) := by
  intro pins s σ H vs us Q I r h
  obtain ⟨v, vr, e1, h⟩ := h
  subst e1
  cases r with
  | cons r rr =>
    rw [hs]
    refine assignInOrder_cons (thn (h1 pins s σ H _ _ _ I r h) fun _ s1 ⟨σ1, H1, I1, q1⟩ => ?_)
    exact h2 pins s1 σ1 H1 _ _ Q I1 rr q1
/-- (a, b, ..) = a tuple of that length -/
def gTup (K : PySem.W.Frag) (n : Nat) (t : TGs) : TG := fun v σ H Q => ∃ a xs, v = .ref a ∧ SqT K H a xs ∧ xs.length = n ∧ t xs σ H Q
theorem pg_tup {es : List Expr} {k : Nat} {t : TGs} {n : Nat} (hc : X.calm = true) (h : PGs X es t)
    (hn : (assignEach es X.env).length = n := by rfl) (hst : (assignEach es X.env).findIdx? (·.1) = none := by rfl) : PG X (.Tuple es k pos) (gTup X.K n t) := by
  intro pins s σ H v u Q I r hw
  obtain ⟨a, xs, e1, hq, hl, hw⟩ := hw
  subst e1
  cases r
  obtain ⟨its, rv, ht, hz⟩ := I.tuple hq
  refine assign_Tuple_tuple (I.ok.hd hc) ht (by simp [hn, ← hl, rv.length]) hst fun h' hx => ?_
  have I1 : Inv X pins σ H { s with heap := h' } := I.kept (t' := s.toks) fun b o e => hx b o (Nat.ne_of_lt (Heap.lt_size e)) e
  exact h pins _ σ H xs _ Q I1 (by simpa using rv) hw
/-- target = value -/
def tAsg (te : TE) (g : TG) : TS := fun D σ H => te σ H fun x H1 => g x σ H1 D.nx
/-- name = value -/
theorem ps_set {i : Nat} {x : Str} {e : Expr} {te : TE} {pos' : Pos} (hN : X.N.Nodup) (hi : X.N[i]? = some x) (hx : Loc X.env.scope x) (he : PE X e te) (hs : swapsWith e (some (.Name x pos')) pos.line X.env = pure false := by rfl) (hf : X.fn x = true ∨ X.env.scope.names.lookup x = some .local := by first | exact .inl rfl | exact .inr rfl | assumption) :
    PS X (.Assign [.Name x pos'] e pos) (tAsg te (gName i)) := by
  intro pins s σ H D I h
  refine wpAny_Assign_Name (thn (he pins s σ H _ I h) fun v s1 ⟨y, H1, I1, r1, q1⟩ => ?_) hs
  exact store_ok I1 hN hi hx r1 (fun s2 I2 => ⟨_, H1, I2, q1⟩) hf
/-- name op= e -/
def tAug (i : Nat) (te : TE) (ti : TIp) : TS := fun D σ H => ∃ x, σ[i]? = some (some x) ∧ te σ H fun y H1 => ti x y H1 fun z H2 => D.nx (σ.set i (some z)) H2
theorem ps_aug {i : Nat} {x : Str} {e : Expr} {te : TE} {op : Operator} {ti : TIp} {pos' : Pos} (hN : X.N.Nodup) (hi : X.N[i]? = some x) (hx : Loc X.env.scope x) (he : PE X e te) (ho : PIp X op ti) (hf : X.fn x = true ∨ X.env.scope.names.lookup x = some .local := by first | exact .inl rfl | exact .inr rfl | assumption) :
    PS X (.AugAssign (.Name x pos') op e pos) (tAug i te ti) := by
  intro pins s σ H D I h
  obtain ⟨v, e1, h⟩ := h
  obtain ⟨m, hn, hl⟩ := I.loc
  have vis : Vis X.env.scope x := by rcases hx with k | k; exact .inl k; exact .inr (.inl k)
  obtain ⟨u, r, l⟩ := hl i x v hi e1 vis
  refine wpAny_AugAssign_Name ?_
  have go : wpAny (model X.prog X.w) X.A (eval e X.env) (fun w s₂ => wpAny (model X.prog X.w) X.A (inplaceOp op u w) (fun r s₃ => wpAny (model X.prog X.w) X.A (storeName X.env x r) (fun _ => SP X pins D .next) X.xe s₃) X.xe s₂) X.xe s := by
    refine thn (he pins s σ H _ I h) fun w s1 ⟨y, H1, I1, r1, q1⟩ => ?_
    refine thn (ho pins s1 σ H1 v y u w _ I1 r r1 q1) fun z s2 ⟨zv, H2, I2, r2, q2⟩ => ?_
    exact store_ok I2 hN hi hx r2 (fun s3 I3 => ⟨_, H2, I3, q2⟩) hf
  rcases l with ⟨hk, hm⟩ | ⟨hk, c, hc, hcell⟩
  · exact wpAny_loadName_local I.ok.kind hk hn hm go
  · rcases hk with hk | hk
    · exact wpAny_loadName_cell I.ok.kind hk hc hcell go
    · rcases hx with k | k
      · have : X.env.scope.names.lookup x = some .free := hk
        rw [k] at this; cases this
      · have : X.env.scope.names.lookup x = some .free := hk
        rw [k] at this; cases this
/-- ints -/
def ipI (f : Int → Int → Int) : TIp := fun x y H Q => ∃ i j, x = .int i ∧ y = .int j ∧ Q (.int (f i j)) H
theorem ip_add : PIp X .Add (ipI fun i j => i + j) := by
  intro pins s σ H x y v u Q I r1 r2 h
  obtain ⟨i, j, e1, e2, q⟩ := h
  subst e1; subst e2
  obtain ⟨t, rfl⟩ := r1
  obtain ⟨t', rfl⟩ := r2
  exact iadd_int ⟨.int _, H, I.tok _, ⟨_, rfl⟩, q⟩
end

section
variable {X : Cx} {pos : Pos}
end

/-- at turn i: it yields x (the heap may grow), or it stops -/
structure It where
  go : Nat → Hp → Prop
  yld : Nat → Hp → V → Hp → Prop
  stop : Nat → Hp → Prop
/-- the iterator's own objects may turn: they are not the frame's, not pinned, younger than the entry (or a comprehension's own) -/
def FpOk (X : Cx) (pins : List (Addr × Obj)) (H : Hp) (b : Addr) : Prop :=
  H b = none ∧ b ≠ X.env.locals ∧ b ∉ X.fs ∧ (b ∈ X.ex ∨ X.s₀.heap.objs.size ≤ b) ∧ (∀ x c, X.env.cells.lookup x = some c → c ≠ b) ∧ ∀ p ∈ X.pn ++ pins, p.1 ≠ b
theorem Inv.fpOk {X : Cx} {pins : List (Addr × Obj)} {σ : St} {H H' : Hp} {s : Shared} {b : Addr} (I : Inv X pins σ H s) (hb : s.heap.objs.size ≤ b) (hn : H' b = none) : FpOk X pins H' b := by
  refine ⟨hn, Nat.ne_of_gt (Nat.lt_of_lt_of_le I.lt hb), I.nofs hb, .inr (Nat.le_trans I.sz hb), fun x c e z => ?_, fun p hp z => ?_⟩
  · obtain ⟨v, q⟩ := I.cell x c e
    exact absurd (Nat.lt_of_lt_of_le q.lt (by rw [z]; exact hb)) (Nat.lt_irrefl _)
  · exact absurd (Nat.lt_of_lt_of_le (Heap.lt_size (I.pin p hp).1) (by rw [z]; exact hb)) (Nat.lt_irrefl _)
structure Turn (P : Program) (w : World) (K : PySem.W.Frag) (tg : Expr) (J : It) (fp : List Addr) (it : Addr) (tn : Nat → Heap → Prop) : Prop where
  mem : it ∈ fp
  obj : ∀ i h, tn i h → ∀ b ∈ fp, ∃ o, h.get? b = some o ∧ ∀ v, o.data ≠ .cell v
  keep : ∀ i h h', tn i h → (∀ b ∈ fp, ∀ o, h.get? b = some o → h'.get? b = some o) → tn i h'
  item : ∀ (X : Cx), X.prog = P → X.w = w → X.K = K → X.calm = true → ∀ (i : Nat) (pins : List (Addr × Obj)) (s : Shared) (σ : St) (H : Hp) (E : Value → Shared → Prop), Inv X pins σ H s → (∀ b ∈ fp, FpOk X pins H b) → tn i s.heap → J.go i H →
    wpAny (model P w) X.A (pyNext (.ref it)) (fun r s1 => ∃ u, r = some u ∧
      wpAny (model P w) X.A (letOwnedTupleGo tg (.ref it) u) (fun _ s2 => ∃ x H', Inv X pins σ H' s2 ∧ RelV x u ∧ J.yld i H x H' ∧ tn (i + 1) s2.heap ∧ ∀ b ∈ fp, H' b = none) E s1) E s
  done : ∀ (X : Cx), X.prog = P → X.w = w → X.K = K → X.calm = true → ∀ (i : Nat) (pins : List (Addr × Obj)) (s : Shared) (σ : St) (H : Hp) (E : Value → Shared → Prop), Inv X pins σ H s → (∀ b ∈ fp, FpOk X pins H b) → tn i s.heap → J.stop i H →
    wpAny (model P w) X.A (pyNext (.ref it)) (fun r s1 => r = none ∧ Inv X pins σ H s1) E s
  self : ∀ (A : Around) (i : Nat) (s : Shared) (Q : Value → Shared → Prop) (E : Value → Shared → Prop), tn i s.heap → Q (.ref it) s → wpAny (model P w) A (pyIter (.ref it)) Q E s
abbrev TI := St → Hp → (It → Hp → Prop) → Prop
/-- an iterator has come -/
def PIE (X : Cx) (pins : List (Addr × Obj)) (σ : St) (tg : Expr) (R : It → Hp → Prop) (itv : Value) (s2 : Shared) : Prop :=
  ∃ (it : Addr) (fp : List Addr) (tn : Nat → Heap → Prop) (J : It) (H' : Hp), itv = .ref it ∧ Inv X pins σ H' s2 ∧ Turn X.prog X.w X.K tg J fp it tn ∧ tn 0 s2.heap ∧ (∀ b ∈ fp, FpOk X pins H' b) ∧ R J H'
def PI (X : Cx) (tg iter : Expr) (wi : TI) : Prop :=
  ∀ (pins : List (Addr × Obj)) (s : Shared) (σ : St) (H : Hp) (R : It → Hp → Prop), Inv X pins σ H s → wi σ H R →
    wpAny (model X.prog X.w) X.A (eval iter X.env) (fun v s1 => wpAny (model X.prog X.w) X.A (pyIter v) (PIE X pins σ tg R) X.xe s1) X.xe s

/-- the step ahead of the store is nothing for an iterator that keeps no tuple -/
theorem go_of {M : Model} {A : Around} {E : Value → Shared → Prop} {s : Shared} {tg : Expr} {it : Addr} {u : Value} {o : Obj} {n : String} {vs : Array Value} {Q : Unit → Shared → Prop} (ho : s.heap.get? it = some o) (hc : o.cls = .type n) (hd : o.data = .fields vs)
    (hn : ["enumerate", "zip", "dict_itemiterator", "dict_reverseitemiterator", "odict_iterator", "itertools.zip_longest", "itertools.pairwise"].contains n = false) (hQ : Q () s) : wpAny M A (letOwnedTupleGo tg (.ref it) u) Q E s := by
  unfold letOwnedTupleGo
  cases tg <;> first
    | exact wpAny_pure hQ
    | (cases u <;> first
        | exact wpAny_pure hQ
        | (refine wpAny_bind (wpAny_load ho ?_)
           rw [hc, hd]
           show wpAny M A (if (["enumerate", "zip", "dict_itemiterator", "dict_reverseitemiterator", "odict_iterator", "itertools.zip_longest", "itertools.pairwise"].contains n && vs[0]? == some (rawInt _)) = true then _ else _) Q E s
           rw [if_neg (by intro h; rw [hn, Bool.false_and] at h; cases h)]
           exact wpAny_pure hQ))

/-- the list at a, as it stands at each turn (a loop may append to it) -/
def Itl (K : PySem.W.Frag) (a : Addr) : It :=
  ⟨fun i H => ∃ xs x, SqL K H a xs ∧ xs[i]? = some x, fun i H x H' => H' = H ∧ ∀ xs, SqL K H a xs → xs[i]? = some x, fun i H => ∃ xs, SqL K H a xs ∧ xs.length ≤ i⟩
def Itt (K : PySem.W.Frag) (a : Addr) : It :=
  ⟨fun i H => ∃ xs x, SqT K H a xs ∧ xs[i]? = some x, fun i H x H' => H' = H ∧ ∀ xs, SqT K H a xs → xs[i]? = some x, fun i H => ∃ xs, SqT K H a xs ∧ xs.length ≤ i⟩
/-- lo, lo + 1, .. (n of them) -/
def Itr (lo : Int) (n : Nat) : It := ⟨fun i _ => i < n, fun i H x H' => H' = H ∧ x = .int (lo + i), fun i _ => n ≤ i⟩
theorem turn_list {P : Program} {w : World} {K : PySem.W.Frag} {tg : Expr} (a it : Addr) : Turn P w K tg (Itl K a) [it] it (fun i h => h.IsListIter it a i) where
  mem := by simp
  obj := fun i h st b hb => by
    have e : b = it := by simpa using hb
    subst e
    obtain ⟨o, e, c, d⟩ := st
    exact ⟨o, e, fun v z => by rw [d] at z; cases z⟩
  keep := fun i h h' st k => st.at fun o e => k it (by simp) o e
  item := by
    intro X hP hw hK hc i pins s σ H E I hf st hg
    subst hP hw hK
    obtain ⟨xs, x, hq, hx⟩ := hg
    obtain ⟨its, rv, p, hz⟩ := I.list hq
    obtain ⟨u, hu, ru⟩ := rv.get hx
    obtain ⟨f0, f1, f2, f3, f4, f5⟩ := hf it (by simp)
    refine wpAny_pyNext_list_item st p.isList (x := u) (by simpa using hu) fun h' st' sb => ?_
    have I1 : Inv X pins σ H { s with heap := h' } := I.turned (t' := s.toks) (fun b o hb e => (sb.2 b hb).trans e) f0 f1 f3 f4 f5
    obtain ⟨o, e, c, d⟩ := id st'
    exact ⟨u, rfl, go_of (s := { s with heap := h' }) e c d (by decide) ⟨x, H, I1, ru, ⟨rfl, fun ys hy => by rw [I.list_inj hy hq]; exact hx⟩, st', fun b hb => (hf b hb).1⟩⟩
  done := by
    intro X hP hw hK hc i pins s σ H E I hf st hg
    subst hP hw hK
    obtain ⟨xs, hq, hx⟩ := hg
    obtain ⟨its, rv, p, hz⟩ := I.list hq
    obtain ⟨f0, f1, f2, f3, f4, f5⟩ := hf it (by simp)
    have hl := rv.length
    exact wpAny_pyNext_list_end (I.ok.hd hc) st p.isList (by simp; omega) fun h' eb => ⟨rfl, I.turned (t' := s.toks) (fun b o hb e => eb b o hb e) f0 f1 f3 f4 f5⟩
  self := fun _ _ _ _ _ st h => wpAny_pyIter_listiter st h
theorem turn_tuple {P : Program} {w : World} {K : PySem.W.Frag} {tg : Expr} (a it : Addr) : Turn P w K tg (Itt K a) [it] it (fun i h => h.IsTupleIter it a i) where
  mem := by simp
  obj := fun i h st b hb => by
    have e : b = it := by simpa using hb
    subst e
    obtain ⟨o, e, c, d⟩ := st
    exact ⟨o, e, fun v z => by rw [d] at z; cases z⟩
  keep := fun i h h' st k => st.at fun o e => k it (by simp) o e
  item := by
    intro X hP hw hK hc i pins s σ H E I hf st hg
    subst hP hw hK
    obtain ⟨xs, x, hq, hx⟩ := hg
    obtain ⟨its, rv, p, hz⟩ := I.tuple hq
    obtain ⟨u, hu, ru⟩ := rv.get hx
    obtain ⟨f0, f1, f2, f3, f4, f5⟩ := hf it (by simp)
    refine wpAny_pyNext_tuple_item st (show s.heap.IsTuple a its.toArray from p) (x := u) (by simpa using hu) fun h' st' sb => ?_
    have I1 : Inv X pins σ H { s with heap := h' } := I.turned (t' := s.toks) (fun b o hb e => (sb.2 b hb).trans e) f0 f1 f3 f4 f5
    obtain ⟨o, e, c, d⟩ := id st'
    exact ⟨u, rfl, go_of (s := { s with heap := h' }) e c d (by decide) ⟨x, H, I1, ru, ⟨rfl, fun ys hy => by rw [I.tuple_inj hy hq]; exact hx⟩, st', fun b hb => (hf b hb).1⟩⟩
  done := by
    intro X hP hw hK hc i pins s σ H E I hf st hg
    subst hP hw hK
    obtain ⟨xs, hq, hx⟩ := hg
    obtain ⟨its, rv, p, hz⟩ := I.tuple hq
    obtain ⟨f0, f1, f2, f3, f4, f5⟩ := hf it (by simp)
    have hl := rv.length
    exact wpAny_pyNext_tuple_end (I.ok.hd hc) st (show s.heap.IsTuple a its.toArray from p) (by simp; omega) fun h' eb => ⟨rfl, I.turned (t' := s.toks) (fun b o hb e => eb b o hb e) f0 f1 f3 f4 f5⟩
  self := fun _ _ _ _ _ st h => wpAny_pyIter_tupleiter st h
theorem turn_range {P : Program} {w : World} {K : PySem.W.Frag} {tg : Expr} (it : Addr) (lo : Int) (n : Nat) : Turn P w K tg (Itr lo n) [it] it (fun i h => IsRangeIter h it (lo + (i : Nat) * 1) ((n : Int) - (i : Nat)) 1) where
  mem := by simp
  obj := fun i h st b hb => by
    have e : b = it := by simpa using hb
    subst e
    exact ⟨_, st, fun v z => by
      have z' : Data.fields _ = Data.cell v := z
      cases z'⟩
  keep := fun i h h' st k => k it (by simp) _ st
  item := by
    intro X hP hw hK hc i pins s σ H E I hf st hg
    subst hP hw hK
    obtain ⟨f0, f1, f2, f3, f4, f5⟩ := hf it (by simp)
    have W := Walks.range (prog := X.prog) (w := X.w) (I.ok.hd hc) it lo 1 n
    refine W.item i s _ _ hg st fun v h' tk hv st' kk => ?_
    obtain ⟨t, rfl⟩ := hv
    have I1 : Inv X pins σ H { s with heap := h', toks := tk } := I.turned (fun b o hb e => kk b o (by simpa using hb) e) f0 f1 f3 f4 f5
    refine ⟨_, rfl, go_of (s := { s with heap := h', toks := tk }) (n := "range_iterator") st' rfl rfl (by decide) ⟨.int (lo + i), H, I1, ⟨t, ?_⟩, ⟨rfl, rfl⟩, st', fun b hb => (hf b hb).1⟩⟩
    rw [Int.mul_one]
  done := by
    intro X hP hw hK hc i pins s σ H E I hf st hg
    subst hP hw hK
    obtain ⟨f0, f1, f2, f3, f4, f5⟩ := hf it (by simp)
    exact wpAny_pyNext_range_end (I.ok.hd hc) st (by have : n ≤ i := hg; omega) fun h' eb => ⟨rfl, I.turned (t' := s.toks) (fun b o hb e => eb b o hb e) f0 f1 f3 f4 f5⟩
  self := fun _ _ _ _ _ st h => wpAny_pyIter_rangeiter st h
end L2

namespace L2
open PySem PySem.Spec PyProof.Rows
section
variable {X : Cx} {tg : Expr}
def iList (K : PySem.W.Frag) (tl : TE) : TI := fun σ H R => tl σ H fun x H1 => ∃ a, x = .ref a ∧ (∃ xs, SqL K H1 a xs) ∧ R (Itl K a) H1
def iTup (K : PySem.W.Frag) (tl : TE) : TI := fun σ H R => tl σ H fun x H1 => ∃ a, x = .ref a ∧ (∃ xs, SqT K H1 a xs) ∧ R (Itt K a) H1
theorem pi_list {l : Expr} {tl : TE} (hl : PE X l tl) : PI X tg l (iList X.K tl) := by
  intro pins s σ H R I h
  refine thn (hl pins s σ H _ I h) fun v s1 ⟨x, H1, I1, r1, q1⟩ => ?_
  obtain ⟨a, e, ⟨xs, hq⟩, q⟩ := q1
  subst e
  cases r1
  obtain ⟨its, rv, p, hz⟩ := I1.list hq
  refine wpAny_pyIter_list p.isList ?_
  refine ⟨s1.heap.objs.size, [s1.heap.objs.size], _, _, H1, rfl, I1.kept (t' := s1.toks) fun b o e => Heap.get?_push_of_some _ e, turn_list a _, ⟨_, Heap.get?_push_size _ rfl, rfl, rfl⟩, fun b hb => ?_, q⟩
  have e : b = s1.heap.objs.size := by simpa using hb
  subst e
  exact I1.fpOk (Nat.le_refl _) (I1.hok.fresh (Nat.le_refl _))
theorem pi_tup {l : Expr} {tl : TE} (hl : PE X l tl) : PI X tg l (iTup X.K tl) := by
  intro pins s σ H R I h
  refine thn (hl pins s σ H _ I h) fun v s1 ⟨x, H1, I1, r1, q1⟩ => ?_
  obtain ⟨a, e, ⟨xs, hq⟩, q⟩ := q1
  subst e
  cases r1
  obtain ⟨its, rv, p, hz⟩ := I1.tuple hq
  refine wpAny_pyIter_tuple (show s1.heap.IsTuple a its.toArray from p) ?_
  refine ⟨s1.heap.objs.size, [s1.heap.objs.size], _, _, H1, rfl, I1.kept (t' := s1.toks) fun b o e => Heap.get?_push_of_some _ e, turn_tuple a _, ⟨_, Heap.get?_push_size _ rfl, rfl, rfl⟩, fun b hb => ?_, q⟩
  have e : b = s1.heap.objs.size := by simpa using hb
  subst e
  exact I1.fpOk (Nat.le_refl _) (I1.hok.fresh (Nat.le_refl _))
/-- a range object just made, walked -/
theorem range_it {pins : List (Addr × Obj)} {σ : St} {H : Hp} {s : Shared} {R : It → Hp → Prop} {E : Value → Shared → Prop} {lo hi : Int} {t u v : Tok} {tk : Nat} (I : Inv X pins σ H s) (h1 : -(2 ^ 62) ≤ lo) (h2 : lo < 2 ^ 62) (h3 : -(2 ^ 62) ≤ hi) (h4 : hi < 2 ^ 62)
    (q : R (Itr lo (hi - lo).toNat) H) : wpAny (model X.prog X.w) X.A (pyIter (.ref s.heap.objs.size)) (PIE X pins σ tg R) E { s with heap := s.heap.push { cls := .type "range", data := .fields #[.int lo t, .int hi u, .int 1 v] }, toks := tk } := by
  refine wpAny_pyIter_range (IsRange.new ..) (small_one h1 h2 h3 h4) ?_
  have I1 : Inv X pins σ H { s with heap := s.heap.push { cls := .type "range", data := .fields #[.int lo t, .int hi u, .int 1 v] }, toks := tk } := I.kept fun b o e => Heap.get?_push_of_some _ e
  refine ⟨(s.heap.push { cls := .type "range", data := .fields #[.int lo t, .int hi u, .int 1 v] }).objs.size, [(s.heap.push { cls := .type "range", data := .fields #[.int lo t, .int hi u, .int 1 v] }).objs.size], _, _, H, rfl,
    I1.kept (t' := tk) fun b o e => Heap.get?_push_of_some _ e, turn_range _ lo (hi - lo).toNat, ?_, fun b hb => ?_, q⟩
  · have e1 : lo + ((0 : Nat) : Int) * 1 = lo := by simp
    have e2 : (((hi - lo).toNat : Nat) : Int) - ((0 : Nat) : Int) = Builtin.Range.rangeSize lo hi 1 := by rw [rangeSize_one]; split <;> omega
    show IsRangeIter _ _ (lo + ((0 : Nat) : Int) * 1) ((((hi - lo).toNat : Nat) : Int) - ((0 : Nat) : Int)) 1
    rw [e1, e2]
    exact Heap.get?_push_size _ rfl
  · have e : b = (s.heap.push { cls := .type "range", data := .fields #[.int lo t, .int hi u, .int 1 v] }).objs.size := by simpa using hb
    subst e
    exact I1.fpOk (Nat.le_refl _) (I1.hok.fresh (Nat.le_refl _))
def iRng1 (ta : TA) : TI := fun σ H R => ta σ H fun vs H1 => ∃ j : Int, vs = [.int j] ∧ -(2 ^ 62) ≤ j ∧ j < 2 ^ 62 ∧ R (Itr 0 j.toNat) H1
theorem pi_range1 {a : Expr} {ta : TA} {p pos : Pos} (hg : Gl X "range") (hm : X.mg "range" = none) (ha : PA X [a] ta) (hs : starEach [a] X.env = [(false, eval a X.env)] := by rfl) : PI X tg (.Call (.Name "range" p) [a] [] pos) (iRng1 ta) := by
  intro pins s σ H R I h
  refine Call_ (ld_blt I hg hm boot_range (PyProof.Rows.callWith_type1 (thn (ha pos pins s σ H _ I h) fun us s1 ⟨vs, H1, I1, r1, q1⟩ => ?_) hs rfl))
  obtain ⟨j, e, q1, q2, q⟩ := q1
  subst e
  cases r1 with
  | cons r rr =>
    cases rr
    obtain ⟨t, rfl⟩ := r
    exact call_range_1 (range_it I1 (by omega) (by omega) q1 q2 (by simpa using q))

/-- W: the invariant by the turn and a measure; N: what the body is to reach -/
def tFor (wi : TI) (g : TG) (tb : TS) : TS := fun D σ H => wi σ H fun J H1 => ∃ W : Nat → Nat → St → Hp → Prop, (∃ m, W 0 m σ H1) ∧ ∀ i m σ H, W i m σ H →
  (J.stop i H ∧ D.nx σ H) ∨ (J.go i H ∧ ∃ N : St → Hp → Prop, (∀ σ' H', N σ' H' → ∃ m', m' < m ∧ W (i + 1) m' σ' H') ∧ ∀ x H', J.yld i H x H' → g x σ H' fun σ2 H2 => tb { D with nx := N, ct := N, bk := D.nx } σ2 H2)
/-- the records at fp as they stand -/
def pinsAt (fp : List Addr) (h : Heap) : List (Addr × Obj) := fp.filterMap fun b => (h.get? b).map fun o => (b, o)
theorem mem_pinsAt {fp : List Addr} {h : Heap} {b : Addr} {o : Obj} (hb : b ∈ fp) (e : h.get? b = some o) : (b, o) ∈ pinsAt fp h := List.mem_filterMap.mpr ⟨b, hb, by rw [e]; rfl⟩
theorem of_pinsAt {fp : List Addr} {h : Heap} {p : Addr × Obj} (hp : p ∈ pinsAt fp h) : p.1 ∈ fp ∧ h.get? p.1 = some p.2 := by
  obtain ⟨b, hb, e⟩ := List.mem_filterMap.mp hp
  cases q : h.get? b with
  | none => rw [q] at e; cases e
  | some o =>
    rw [q] at e
    have e' : (b, o) = p := Option.some.inj e
    subst e'
    exact ⟨hb, q⟩
theorem Inv.pinned {pins : List (Addr × Obj)} {σ : St} {H : Hp} {s : Shared} {fp : List Addr} (I : Inv X pins σ H s) (hf : ∀ b ∈ fp, FpOk X pins H b) (ho : ∀ b ∈ fp, ∃ o, s.heap.get? b = some o ∧ ∀ v, o.data ≠ .cell v) : Inv X (pins ++ pinsAt fp s.heap) σ H s :=
  I.pins_of fun p hp => (List.mem_append.mp hp).elim (fun z => I.pin p (List.mem_append_right _ z)) fun z => by
    obtain ⟨hb, e⟩ := of_pinsAt z
    obtain ⟨f0, f1, f2, _⟩ := hf p.1 hb
    obtain ⟨o, e', d⟩ := ho p.1 hb
    rw [e] at e'; cases e'
    exact ⟨e, f0, f1, f2, d⟩
theorem Inv.unpinned {pins pl : List (Addr × Obj)} {σ : St} {H : Hp} {s : Shared} (I : Inv X (pins ++ pl) σ H s) : Inv X pins σ H s := I.pins_of fun p hp => I.pin p (List.mem_append_right _ (List.mem_append_left _ hp))
theorem ps_for {iter : Expr} {body : List Stmt} {wi : TI} {g : TG} {tb : TS} {pos : Pos} (hp : PassesOwn (model X.prog X.w) X.A X.env X.xe) (hc : X.calm = true) (hi : PI X tg iter wi) (hg : PG X tg g) (hb : PSs X body tb)
    (hs : ∀ x, foldedSetIterable iter X.env x = pure x := by intro _; rfl) : PS X (.For tg iter body [] pos) (tFor wi g tb) := by
  intro pins s σ H D I h
  refine wpAny_For (thn (hi pins s σ H _ I h) fun v s1 h1 => thn h1 fun itv s2 h2 => ?_) hs
  obtain ⟨it, fp, tn, J, H2, e, I2, T, st2, f2, W, ⟨m0, w0⟩, turn⟩ := h2
  subst e
  -- what stays true of the iterator's objects through the loop
  have stat : ∀ {H' : Hp}, (∀ b ∈ fp, H' b = none) → ∀ b ∈ fp, FpOk X pins H' b := fun hn b hb => ⟨hn b hb, (f2 b hb).2⟩
  refine codeAny_forLoop_any (fun n s' => ∃ i σ' H', Inv X pins σ' H' s' ∧ tn i s'.heap ∧ (∀ b ∈ fp, H' b = none) ∧ W i n σ' H') ?_ m0 ⟨0, σ, H2, I2, st2, fun b hb => (f2 b hb).1, w0⟩
  rintro n s3 ⟨i, σ3, H3, I3, st3, fr3, w3⟩
  rcases turn i n σ3 H3 w3 with ⟨stop, qn⟩ | ⟨go, N, hN, step⟩
  · refine wpAny_passesOwn hp (thn (T.done X rfl rfl rfl hc i pins s3 σ3 H3 X.xe I3 (stat fr3) st3 stop) fun r s4 ⟨hr, I4⟩ => ?_)
    subst hr
    exact wpAny_execs_nil ⟨σ3, H3, I4, qn⟩
  · refine wpAny_passesOwn hp (thn (T.item X rfl rfl rfl hc i pins s3 σ3 H3 X.xe I3 (stat fr3) st3 go) fun r s4 ⟨u, hr, h4⟩ => ?_)
    subst hr
    refine wpAny_passesOwn hp (thn h4 fun _ s5 ⟨x, H5, I5, r5, y5, st5, fr5⟩ => ?_)
    have I5' := I5.pinned (stat fr5) (T.obj _ _ st5)
    refine wpAny_passesOwn hp (thn (hg _ s5 σ3 H5 x u _ I5' r5 (step x H5 y5)) fun _ s6 ⟨σ6, H6, I6, q6⟩ => ?_)
    refine wpAny_passesOwn hp (thn (hb _ s6 σ6 H6 _ I6 q6) fun f s7 q7 => ?_)
    have again : ∀ {σ7 : St} {H7 : Hp}, Inv X (pins ++ pinsAt fp s5.heap) σ7 H7 s7 → N σ7 H7 → ∃ m, m < n ∧ ∃ i σ' H', Inv X pins σ' H' s7 ∧ tn i s7.heap ∧ (∀ b ∈ fp, H' b = none) ∧ W i m σ' H' := fun {σ7 H7} I7 n7 => by
      obtain ⟨m', hm, w7⟩ := hN σ7 H7 n7
      refine ⟨m', hm, i + 1, σ7, H7, I7.unpinned, T.keep _ _ _ st5 fun b hb o e => (I7.pin (b, o) (List.mem_append_right _ (List.mem_append_right _ (mem_pinsAt hb e)))).1, fun b hb => ?_, w7⟩
      obtain ⟨o, e, d⟩ := T.obj _ _ st5 b hb
      exact (I7.pin (b, o) (List.mem_append_right _ (List.mem_append_right _ (mem_pinsAt hb e)))).2.1
    cases f with
    | next => obtain ⟨σ7, H7, I7, n7⟩ := q7; exact again I7 n7
    | cont => obtain ⟨σ7, H7, I7, n7⟩ := q7; exact again I7 n7
    | brk => obtain ⟨σ7, H7, I7, q7⟩ := q7; exact ⟨σ7, H7, I7.unpinned, q7⟩
    | ret v => obtain ⟨x7, σ7, H7, I7, r7, q7⟩ := q7; exact ⟨x7, σ7, H7, I7.unpinned, r7, q7⟩
end

end L2

namespace L2
open PySem PySem.Spec PyProof.Rows

abbrev R2 := V → V → Hp → VK → Prop
/-- a two-place operation on values: f is binaryOp op, inplaceOp op or compareOp op -/
def OpR (X : Cx) (f : Value → Value → Sem Value) (r : R2) : Prop :=
  ∀ (pins : List (Addr × Obj)) (s : Shared) (σ : St) (H : Hp) (x y : V) (v u : Value) (Q : VK), Inv X pins σ H s → RelV x v → RelV y u → r x y H Q →
    wpAny (model X.prog X.w) X.A (f v u) (EP X pins σ Q) X.xe s
/-- a one-place operation -/
def UnR (X : Cx) (f : Value → Sem Value) (r : V → Hp → VK → Prop) : Prop :=
  ∀ (pins : List (Addr × Obj)) (s : Shared) (σ : St) (H : Hp) (x : V) (v : Value) (Q : VK), Inv X pins σ H s → RelV x v → r x H Q →
    wpAny (model X.prog X.w) X.A (f v) (EP X pins σ Q) X.xe s
/-- a call of a value that is known (a builtin, a type) with values -/
def CallR (X : Cx) (f : Value) (r : List V → Hp → VK → Prop) : Prop :=
  ∀ (pins : List (Addr × Obj)) (s : Shared) (σ : St) (H : Hp) (xs : List V) (us : List Value) (Q : VK), Inv X pins σ H s → Vals xs us → r xs H Q →
    wpAny (model X.prog X.w) X.A (call f us) (EP X pins σ Q) X.xe s

def tOp (r : R2) (ta tb : TE) : TE := fun σ H Q => ta σ H fun x H1 => tb σ H1 fun y H2 => r x y H2 Q
def tUn (r : V → Hp → VK → Prop) (ta : TE) : TE := fun σ H Q => ta σ H fun x H1 => r x H1 Q
/-- ints in, under C, and a value out -/
def rI (C : Int → Int → Prop) (g : Int → Int → V) : R2 := fun x y H Q => ∃ i j, x = .int i ∧ y = .int j ∧ C i j ∧ Q (g i j) H
def rI0 (g : Int → Int → V) : R2 := fun x y H Q => ∃ i j, x = .int i ∧ y = .int j ∧ Q (g i j) H
def rU (g : Int → V) : V → Hp → VK → Prop := fun x H Q => ∃ i, x = .int i ∧ Q (g i) H

section
variable {X : Cx} {a b c : Expr} {ta tb tc : TE} {pos : Pos}

theorem binT (ha : PE X a ta) (hb : PE X b tb) {pins : List (Addr × Obj)} {s : Shared} {σ : St} {H : Hp} {R : V → V → Hp → Prop} (I : Inv X pins σ H s)
    (h : ta σ H fun x H1 => tb σ H1 fun y H2 => R x y H2) {Q : Value → Shared → Prop} {f : Value → Value → Sem Value}
    (hf : ∀ v u s2 x y H2, Inv X pins σ H2 s2 → RelV x v → RelV y u → R x y H2 → wpAny (model X.prog X.w) X.A (f v u) Q X.xe s2) :
    wpAny (model X.prog X.w) X.A (eval a X.env) (fun v s₁ => wpAny (model X.prog X.w) X.A (eval b X.env) (fun u s₂ => wpAny (model X.prog X.w) X.A (f v u) Q X.xe s₂) X.xe s₁) X.xe s := by
  refine thn (ha pins s σ H _ I h) fun v s1 ⟨x, H1, I1, r1, q1⟩ => ?_
  refine thn (hb pins s1 σ H1 _ I1 q1) fun u s2 ⟨y, H2, I2, r2, q2⟩ => ?_
  exact hf v u s2 x y H2 I2 r1 r2 q2

theorem pe_op {op : Operator} {r : R2} (ho : OpR X (binaryOp op) r) (ha : PE X a ta) (hb : PE X b tb) : PE X (.BinOp a op b pos) (tOp r ta tb) := by
  intro pins s σ H Q I h
  exact wpAny_BinOp (binT ha hb I h fun v u s2 x y H2 I2 rx ry q => ho pins s2 σ H2 x y v u Q I2 rx ry q)
theorem pe_un {op : UnaryOp} {r : V → Hp → VK → Prop} (ho : UnR X (unaryOp op) r) (ha : PE X a ta) : PE X (.UnaryOp op a pos) (tUn r ta) := by
  intro pins s σ H Q I h
  exact UnaryOp_ (thn (ha pins s σ H _ I h) fun v s1 ⟨x, H1, I1, r1, q1⟩ => ho pins s1 σ H1 x v Q I1 r1 q1)

theorem opI {f : Value → Value → Sem Value} {C : Int → Int → Prop} {g : Int → Int → Int}
    (rule : ∀ (i j : Int) (t u : Tok) (s : Shared) (Q : Value → Shared → Prop) (E : Value → Shared → Prop), C i j → Q (.int (g i j) s.toks) { s with toks := s.toks + 1 } → wpAny (model X.prog X.w) X.A (f (.int i t) (.int j u)) Q E s) :
    OpR X f (rI C fun i j => .int (g i j)) := by
  intro pins s σ H x y v u Q I rx ry h
  obtain ⟨i, j, rfl, rfl, hc, q⟩ := h
  obtain ⟨t, rfl⟩ := rx
  obtain ⟨t', rfl⟩ := ry
  exact rule i j t t' s _ _ hc ⟨.int (g i j), H, I.tok _, ⟨_, rfl⟩, q⟩
theorem opI0 {f : Value → Value → Sem Value} {g : Int → Int → Int}
    (rule : ∀ (i j : Int) (t u : Tok) (s : Shared) (Q : Value → Shared → Prop) (E : Value → Shared → Prop), Q (.int (g i j) s.toks) { s with toks := s.toks + 1 } → wpAny (model X.prog X.w) X.A (f (.int i t) (.int j u)) Q E s) :
    OpR X f (rI0 fun i j => .int (g i j)) := by
  intro pins s σ H x y v u Q I rx ry h
  obtain ⟨i, j, rfl, rfl, q⟩ := h
  obtain ⟨t, rfl⟩ := rx
  obtain ⟨t', rfl⟩ := ry
  exact rule i j t t' s _ _ ⟨.int (g i j), H, I.tok _, ⟨_, rfl⟩, q⟩
theorem opB0 {f : Value → Value → Sem Value} {g : Int → Int → Bool}
    (rule : ∀ (i j : Int) (t u : Tok) (s : Shared) (Q : Value → Shared → Prop) (E : Value → Shared → Prop), Q (.bool (g i j)) s → wpAny (model X.prog X.w) X.A (f (.int i t) (.int j u)) Q E s) :
    OpR X f (rI0 fun i j => .bl (g i j)) := by
  intro pins s σ H x y v u Q I rx ry h
  obtain ⟨i, j, rfl, rfl, q⟩ := h
  obtain ⟨t, rfl⟩ := rx
  obtain ⟨t', rfl⟩ := ry
  exact rule i j t t' s _ _ ⟨.bl (g i j), H, I, rfl, q⟩

def CDiv (i j : Int) : Prop := 0 < j ∧ j < 1073741824
def CPow (i j : Int) : Prop := 0 ≤ j ∧ j ≤ 1000000 ∧ i.natAbs < 2 ^ 64

theorem op_add : OpR X (binaryOp .Add) (rI0 fun i j => .int (i + j)) := opI0 fun _ _ _ _ _ _ _ q => add_int q
theorem op_sub : OpR X (binaryOp .Sub) (rI0 fun i j => .int (i - j)) := opI0 fun _ _ _ _ _ _ _ q => sub_int q
/-- // by a positive divisor -/
theorem op_fdiv : OpR X (binaryOp .FloorDiv) (rI CDiv fun i j => .int (i / j)) := opI fun i j _ _ _ _ _ hc q => by
  have h1 : (0 : Int) < j := hc.1
  have h2 : j < 1073741824 := hc.2
  exact floordiv_int (by omega) (by rw [Int.fdiv_eq_ediv_of_nonneg i (by omega)]; exact q) (.inl (PyProof.noPylong_small (by omega)))
/-- % by a positive divisor of any size -/
theorem op_mod : OpR X (binaryOp .Mod) (rI (fun _ j => 0 < j) fun i j => .int (i % j)) := opI fun i j _ _ _ _ _ hc q => by
  have h1 : (0 : Int) < j := hc
  exact mod_int' (by omega) (by rw [Int.fmod_eq_emod_of_nonneg i (by omega)]; exact q)
theorem op_pow : OpR X (binaryOp .Pow) (rI CPow fun i j => .int (i ^ j.toNat)) := opI fun _ _ _ _ _ _ _ hc q => pow_int_small hc.1 hc.2.1 hc.2.2 q

theorem unI {f : Value → Sem Value} {g : Int → Int}
    (rule : ∀ (i : Int) (t : Tok) (s : Shared) (Q : Value → Shared → Prop) (E : Value → Shared → Prop), Q (.int (g i) s.toks) { s with toks := s.toks + 1 } → wpAny (model X.prog X.w) X.A (f (.int i t)) Q E s) :
    UnR X f (rU fun i => .int (g i)) := by
  intro pins s σ H x v Q I rx h
  obtain ⟨i, rfl, q⟩ := h
  obtain ⟨t, rfl⟩ := rx
  exact rule i t s _ _ ⟨.int (g i), H, I.tok _, ⟨_, rfl⟩, q⟩
theorem un_neg : UnR X (unaryOp .USub) (rU fun i => .int (-i)) := unI fun _ _ _ _ _ q => neg_int q

end

/-- the scalars that == tells apart as data does -/
def scal : V → V → Bool
  | .non, .non => true | .non, .int _ => true | .int _, .non => true | .non, .bl _ => true | .bl _, .non => true | .non, .str _ => true | .str _, .non => true
  | .int _, .int _ => true | .bl _, .bl _ => true | .str _, .str _ => true | .byt _, .byt _ => true
  | .int _, .str _ => true | .str _, .int _ => true | .bl _, .str _ => true | .str _, .bl _ => true
  | _, _ => false
def rEq : R2 := fun x y H Q => scal x y = true ∧ Q (.bl (decide (x = y))) H
def rNe : R2 := fun x y H Q => scal x y = true ∧ Q (.bl (!decide (x = y))) H

theorem dec_int {i j : Int} : decide (V.int i = V.int j) = (i == j) := by
  rw [Bool.eq_iff_iff]
  simp
theorem dec_bl {i j : Bool} : decide (V.bl i = V.bl j) = (i == j) := by
  rw [Bool.eq_iff_iff]
  simp
theorem dec_str {i j : Str} : decide (V.str i = V.str j) = (i == j) := by
  rw [Bool.eq_iff_iff]
  simp
theorem dec_byt {i j : Array UInt8} : decide (V.byt i = V.byt j) = (i.toList == j.toList) := by
  rw [Bool.eq_iff_iff]
  cases i
  cases j
  simp

section
variable {X : Cx} {a b c : Expr} {ta tb tc : TE} {pos : Pos}
theorem fin_bl {pins : List (Addr × Obj)} {σ : St} {H : Hp} {s : Shared} {Q : VK} {k k' : Bool} (I : Inv X pins σ H s) (q : Q (.bl k) H) (e : k = k') : EP X pins σ Q (.bool k') s := by
  subst e
  exact ⟨.bl k, H, I, rfl, q⟩
theorem op_eq : OpR X (compareOp .Eq) rEq := by
  intro pins s σ H x y v u Q I rx ry h
  obtain ⟨hs, q⟩ := h
  cases x with
  | non =>
    cases rx
    cases y with
    | non => cases ry; exact PySem.EqNone.eq_none_none (fin_bl I q (by simp))
    | bl j => cases ry; exact PySem.EqNone.eq_none_bool (fin_bl I q (by simp))
    | int j => obtain ⟨t', rfl⟩ := ry; exact PySem.EqNone.eq_none_int (fin_bl I q (by simp))
    | str j => obtain ⟨t', rfl⟩ := ry; exact PySem.EqNone.eq_none_str (fin_bl I q (by simp))
    | _ => exact absurd (show false = true from hs) Bool.false_ne_true
  | bl i =>
    cases rx
    cases y with
    | non => cases ry; exact PySem.EqNone.eq_bool_none (fin_bl I q (by simp))
    | bl j => cases ry; exact eq_bool (fin_bl I q dec_bl)
    | str j => obtain ⟨t', rfl⟩ := ry; exact PySem.EqMixed.eq_bool_str (fin_bl I q (by simp))
    | _ => exact absurd (show false = true from hs) Bool.false_ne_true
  | int i =>
    obtain ⟨t, rfl⟩ := rx
    cases y with
    | non => cases ry; exact PySem.EqNone.eq_int_none (fin_bl I q (by simp))
    | int j => obtain ⟨t', rfl⟩ := ry; exact eq_int (fin_bl I q dec_int)
    | str j => obtain ⟨t', rfl⟩ := ry; exact PySem.EqMixed.eq_int_str (fin_bl I q (by simp))
    | _ => exact absurd (show false = true from hs) Bool.false_ne_true
  | str i =>
    obtain ⟨t, rfl⟩ := rx
    cases y with
    | non => cases ry; exact PySem.EqNone.eq_str_none (fin_bl I q (by simp))
    | bl j => cases ry; exact PySem.EqMixed.eq_str_bool (fin_bl I q (by simp))
    | int j => obtain ⟨t', rfl⟩ := ry; exact PySem.EqMixed.eq_str_int (fin_bl I q (by simp))
    | str j => obtain ⟨t', rfl⟩ := ry; exact eq_str (fin_bl I q dec_str)
    | _ => exact absurd (show false = true from hs) Bool.false_ne_true
  | byt i =>
    obtain ⟨t, rfl⟩ := rx
    cases y with
    | byt j => obtain ⟨t', rfl⟩ := ry; exact PySem.W.eq_bytes (fin_bl I q dec_byt)
    | _ => exact absurd (show false = true from hs) Bool.false_ne_true
  | _ => cases y <;> exact absurd (show false = true from hs) Bool.false_ne_true
theorem op_ne : OpR X (compareOp .NotEq) rNe := by
  intro pins s σ H x y v u Q I rx ry h
  obtain ⟨hs, q⟩ := h
  cases x with
  | non =>
    cases rx
    cases y with
    | non => cases ry; exact PySem.EqNone.ne_none_none (fin_bl I q (by simp))
    | bl j => cases ry; exact PySem.EqNone.ne_none_bool (fin_bl I q (by simp))
    | int j => obtain ⟨t', rfl⟩ := ry; exact PySem.EqNone.ne_none_int (fin_bl I q (by simp))
    | str j => obtain ⟨t', rfl⟩ := ry; exact PySem.EqNone.ne_none_str (fin_bl I q (by simp))
    | _ => exact absurd (show false = true from hs) Bool.false_ne_true
  | bl i =>
    cases rx
    cases y with
    | non => cases ry; exact PySem.EqNone.ne_bool_none (fin_bl I q (by simp))
    | bl j => cases ry; exact ne_bool (fin_bl I q (congrArg not dec_bl))
    | str j => obtain ⟨t', rfl⟩ := ry; exact PySem.EqMixed.ne_bool_str (fin_bl I q (by simp))
    | _ => exact absurd (show false = true from hs) Bool.false_ne_true
  | int i =>
    obtain ⟨t, rfl⟩ := rx
    cases y with
    | non => cases ry; exact PySem.EqNone.ne_int_none (fin_bl I q (by simp))
    | int j => obtain ⟨t', rfl⟩ := ry; exact ne_int (fin_bl I q (congrArg not dec_int))
    | str j => obtain ⟨t', rfl⟩ := ry; exact PySem.EqMixed.ne_int_str (fin_bl I q (by simp))
    | _ => exact absurd (show false = true from hs) Bool.false_ne_true
  | str i =>
    obtain ⟨t, rfl⟩ := rx
    cases y with
    | non => cases ry; exact PySem.EqNone.ne_str_none (fin_bl I q (by simp))
    | bl j => cases ry; exact PySem.EqMixed.ne_str_bool (fin_bl I q (by simp))
    | int j => obtain ⟨t', rfl⟩ := ry; exact PySem.EqMixed.ne_str_int (fin_bl I q (by simp))
    | str j => obtain ⟨t', rfl⟩ := ry; exact ne_str (fin_bl I q (congrArg not dec_str))
    | _ => exact absurd (show false = true from hs) Bool.false_ne_true
  | byt i =>
    obtain ⟨t, rfl⟩ := rx
    cases y with
    | byt j => obtain ⟨t', rfl⟩ := ry; exact PySem.W.ne_bytes (fin_bl I q (congrArg not dec_byt))
    | _ => exact absurd (show false = true from hs) Bool.false_ne_true
  | _ => cases y <;> exact absurd (show false = true from hs) Bool.false_ne_true

theorem op_lt : OpR X (compareOp .Lt) (rI0 fun i j => .bl (decide (i < j))) := opB0 fun _ _ _ _ _ _ _ q => lt_int q
theorem op_le : OpR X (compareOp .LtE) (rI0 fun i j => .bl (decide (i ≤ j))) := opB0 fun _ _ _ _ _ _ _ q => le_int q
theorem op_gt : OpR X (compareOp .Gt) (rI0 fun i j => .bl (decide (j < i))) := opB0 fun _ _ _ _ _ _ _ q => gt_int q
theorem op_ge : OpR X (compareOp .GtE) (rI0 fun i j => .bl (decide (j ≤ i))) := opB0 fun _ _ _ _ _ _ _ q => ge_int q
/-- the one string within the other -/
theorem op_in_str : OpR X (compareOp .In) (fun x y H Q => ∃ i j, x = .str i ∧ y = .str j ∧ Q (.bl (!(Builtin.Str.occurrences j i 0 j.length 1).isEmpty)) H) := by
  intro pins s σ H x y v u Q I rx ry h
  obtain ⟨i, j, rfl, rfl, q⟩ := h
  obtain ⟨t, rfl⟩ := rx
  obtain ⟨t', rfl⟩ := ry
  exact in_str (fin_bl I q rfl)

theorem op_notin_str : OpR X (compareOp .NotIn) (fun x y H Q => ∃ i j, x = .str i ∧ y = .str j ∧ Q (.bl (!(!(Builtin.Str.occurrences j i 0 j.length 1).isEmpty))) H) := by
  intro pins s σ H x y v u Q I rx ry h
  obtain ⟨i, j, rfl, rfl, q⟩ := h
  obtain ⟨t, rfl⟩ := rx
  obtain ⟨t', rfl⟩ := ry
  exact notIn_str (fin_bl I q rfl)

theorem nomark (b : Expr) {op : CmpOp} (h : op ≠ .In := by decide) (h2 : op ≠ .NotIn := by decide) : behindInMarks op b = false := by
  have e1 : (op == CmpOp.In) = false := by cases op <;> first | rfl | exact absurd rfl h
  have e2 : (op == CmpOp.NotIn) = false := by cases op <;> first | rfl | exact absurd rfl h2
  cases b <;> simp [behindInMarks, e1, e2]
/-- a comparison as a value; hm: nomark b, or (for in, not in) by with_unfolding_all rfl -/
theorem pe_cmpR {op : CmpOp} {r : R2} (ho : OpR X (compareOp op) r) (ha : PE X a ta) (hb : PE X b tb) (hm : behindInMarks op b = false) : PE X (.Compare a [op] [b] pos) (tOp r ta tb) := by
  intro pins s σ H Q I h
  exact wpAny_Compare1 (binT ha hb I h fun v u s2 x y H2 I2 rx ry q => ho pins s2 σ H2 x y v u Q I2 rx ry q) hm
/-- a reading of a value as a test -/
def tTest (t : TE) : TT := fun σ H Q => t σ H fun x H' => ∃ k, x = .bl k ∧ Q k H'
theorem pt_cmpR {op : CmpOp} {r : R2} (ho : OpR X (compareOp op) r) (ha : PE X a ta) (hb : PE X b tb) (hm : behindInMarks op b = false) : PT X (.Compare a [op] [b] pos) (tTest (tOp r ta tb)) := by
  intro pins s σ H Q I h
  refine wpAny_isTrue_Compare1 (thn (ha pins s σ H _ I h) fun v s1 ⟨x, H1, I1, r1, q1⟩ => thn (hb pins s1 σ H1 _ I1 q1) fun u s2 ⟨y, H2, I2, r2, q2⟩ =>
    thn (ho pins s2 σ H2 x y v u _ I2 r1 r2 q2) fun c s3 ⟨z, H3, I3, r3, k, e, q3⟩ => ?_) hm
  subst e
  cases r3
  exact wpAny_truthy_bool ⟨H3, I3, q3⟩
/-- a op1 b op2 c -/
def tChain (r r' : R2) (ta tb tc : TE) : TE := fun σ H Q => ta σ H fun x H1 => tb σ H1 fun y H2 => r x y H2 fun z H3 => ∃ k, z = .bl k ∧
  (if k = true then tc σ H3 fun w' H4 => r' y w' H4 Q else Q (.bl false) H3)
theorem pt_chain {op op' : CmpOp} {r r' : R2} (ho : OpR X (compareOp op) r) (ho' : OpR X (compareOp op') r') (ha : PE X a ta) (hb : PE X b tb) (hc : PE X c tc)
    (hm : lastMarks [op, op'] [b, c] = false := by with_unfolding_all rfl) : PT X (.Compare a [op, op'] [b, c] pos) (tTest (tChain r r' ta tb tc)) := by
  intro pins s σ H Q I h
  refine isTrue_chain (thn (ha pins s σ H _ I h) fun v s1 ⟨x, H1, I1, r1, q1⟩ => test_link (thn (hb pins s1 σ H1 _ I1 q1) fun u s2 ⟨y, H2, I2, r2, q2⟩ =>
    thn (ho pins s2 σ H2 x y v u _ I2 r1 r2 q2) fun d s3 ⟨z, H3, I3, r3, k, e, q3⟩ => ?_)) hm
  subst e
  cases r3
  refine wpAny_truthy_bool ?_
  cases k with
  | false =>
    obtain ⟨k', e', q'⟩ := q3
    cases e'
    exact ite_ff ⟨H3, I3, q'⟩
  | true =>
    refine ite_tt (test_last (thn (hc pins s3 σ H3 _ I3 q3) fun w' s4 ⟨z', H4, I4, r4, q4⟩ => thn (ho' pins s4 σ H4 y z' u w' _ I4 r2 r4 q4) fun d' s5 ⟨z2, H5, I5, r5, k2, e2, q5⟩ => ?_))
    subst e2
    cases r5
    exact wpAny_truthy_bool ⟨H5, I5, q5⟩

theorem line63 : (sizeLine : Nat) < 2 ^ 63 := by rw [sizeLine_eq]; decide

theorem op_add_str : OpR X (binaryOp .Add) (fun x y H Q => ∃ i j, x = .str i ∧ y = .str j ∧ i.length + j.length ≤ sizeLine ∧ Q (.str (i ++ j)) H) := by
  intro pins s σ H x y v u Q I rx ry h
  obtain ⟨i, j, rfl, rfl, hz, q⟩ := h
  obtain ⟨t, rfl⟩ := rx
  obtain ⟨t', rfl⟩ := ry
  exact add_str (fun t' tk => ⟨.str (i ++ j), H, I.tok _, ⟨_, rfl⟩, q⟩) hz

theorem vals1 {x : V} {us : List Value} (r : Vals [x] us) : ∃ u, us = [u] ∧ RelV x u := by
  cases r with
  | cons r1 r2 => cases r2; exact ⟨_, rfl, r1⟩
theorem vals2 {x y : V} {us : List Value} (r : Vals [x, y] us) : ∃ u w', us = [u, w'] ∧ RelV x u ∧ RelV y w' := by
  cases r with
  | cons r1 r2 =>
    cases r2 with
    | cons r3 r4 => cases r4; exact ⟨_, _, rfl, r1, r3⟩
theorem call_abs : CallR X (.builtin "abs") (fun xs H Q => ∃ i, xs = [.int i] ∧ Q (.int (if i < 0 then -i else i)) H) := by
  intro pins s σ H xs us Q I r h
  obtain ⟨i, rfl, q⟩ := h
  obtain ⟨u, rfl, t, rfl⟩ := vals1 r
  exact call_abs_int fun u tk => ⟨.int (if i < 0 then -i else i), H, I.tok _, ⟨_, rfl⟩, q⟩
theorem call_max2 (hc : X.calm = true) : CallR X (.builtin "max") (fun xs H Q => ∃ i j, xs = [.int i, .int j] ∧ Q (.int (if j > i then j else i)) H) := by
  intro pins s σ H xs us Q I r h
  obtain ⟨i, j, rfl, q⟩ := h
  obtain ⟨u, w', rfl, ⟨t, rfl⟩, ⟨t', rfl⟩⟩ := vals2 r
  refine max_two_ints (I.ok.hd hc) fun h' tk k => ⟨_, H, I.kept k, ?_, q⟩
  by_cases hj : j > i
  · rw [if_pos hj, if_pos hj]; exact ⟨_, rfl⟩
  · rw [if_neg hj, if_neg hj]; exact ⟨_, rfl⟩
theorem call_min2 (hc : X.calm = true) : CallR X (.builtin "min") (fun xs H Q => ∃ i j, xs = [.int i, .int j] ∧ Q (.int (if j < i then j else i)) H) := by
  intro pins s σ H xs us Q I r h
  obtain ⟨i, j, rfl, q⟩ := h
  obtain ⟨u, w', rfl, ⟨t, rfl⟩, ⟨t', rfl⟩⟩ := vals2 r
  refine min_two_ints (I.ok.hd hc) fun h' tk k => ⟨_, H, I.kept k, ?_, q⟩
  by_cases hj : j < i
  · rw [if_pos hj, if_pos hj]; exact ⟨_, rfl⟩
  · rw [if_neg hj, if_neg hj]; exact ⟨_, rfl⟩
theorem call_str_int : CallR X (.type "str") (fun xs H Q => ∃ i, xs = [.int i] ∧ i.natAbs.log2 < 1920 ∧ Q (.str (toString i)) H) := by
  intro pins s σ H xs us Q I r h
  obtain ⟨i, rfl, hz, q⟩ := h
  obtain ⟨u, rfl, t, rfl⟩ := vals1 r
  exact PySem.P.str_of_int hz ⟨.str _, H, I.tok _, ⟨_, rfl⟩, q⟩
end
end L2

namespace L2
open PySem PySem.Spec PyProof.Rows

structure ObjM (h : Heap) (x dx C : Addr) (mA : Str → Option Value) : Prop where
  obj : h.get? x = some (PySem.W.instObj C dx)
  ns : h.Ns1 dx mA
  ne : dx ≠ x

theorem lookIn_ns {h : Heap} {dx : Addr} {mA : Str → Option Value} (n : h.Ns1 dx mA) : ∃ od, h.get? dx = some od ∧ ∀ name, PySem.W.lookIn name od = some (mA name) := by
  obtain ⟨o, es, ep, ho, hd, hk, _, hm⟩ := n
  refine ⟨o, ho, fun name => ?_⟩
  have e := hm name
  unfold nsFind findBy at e
  rw [← Array.find?_toList] at e
  unfold PySem.W.lookIn
  rw [hd]
  dsimp only
  split
  · rename_i y q
    rw [q] at e
    exact congrArg some e
  · rename_i q
    rw [q] at e
    have a : es.toList.any (·.refKey) = false := by
      rw [List.any_eq_false]
      intro y hy
      obtain ⟨z, t, hkey⟩ := hk y (Array.mem_toList_iff.mp hy)
      simp [DictEntry.refKey, hkey]
    have a' : ¬ es.toList.any (·.refKey) = true := by rw [a]; exact Bool.false_ne_true
    rw [if_neg a']
    exact congrArg some e

theorem ObjM.look {h : Heap} {x dx C : Addr} {mA : Str → Option Value} (I : ObjM h x dx C mA) : ∃ od, PySem.W.InstAt h x (PySem.W.instObj C dx) C (some od) ∧ ∀ name, PySem.W.lookIn name od = some (mA name) :=
  let ⟨od, ho, hl⟩ := lookIn_ns I.ns
  ⟨od, ⟨I.obj, rfl, rfl, ho⟩, hl⟩

section
variable {prog : Program} {w : World} {A : Around} {E : Value → Shared → Prop} {s : Shared} {K : PySem.W.Frag} {x dx C f : Addr} {mA : Str → Option Value} {name : Str} {v : Value}

theorem get_map {expr : Bool} {Q : Value → Shared → Prop} (X : K.In s.heap) (I : ObjM s.heap x dx C mA) (hg : PySem.W.plainGet K C name = true) (hh : PySem.W.hasDictIn K C = true)
    (ha : PySem.W.findIn K (.ref C) name = some none) (hv : mA name = some v) (hv' : PySem.W.handedIn v = true) (h : Q v { s with toks := s.toks + 1 }) :
    wpAny (model prog w) A (getAttr (.ref x) name expr) Q E s := by
  obtain ⟨od, J, hl⟩ := I.look
  exact PySem.W.get_value X J (PySem.W.plainGet_of hg).1 (PySem.W.findObj_own hh ha rfl (by rw [hl, hv])) hv' h

theorem set_map {ns : List Str} {Q : Unit → Shared → Prop} (X : K.In s.heap) (I : ObjM s.heap x dx C mA)
    (hs : PySem.W.findIn K (.ref C) "__setattr__" = some (some (.builtin "object.__setattr__"))) (hp : PySem.W.plainOver K C = true) (ht : PySem.W.takerIn K C name = some none) (hh : PySem.W.hasDictIn K C = true)
    (hw : PySem.Within mA ns) (hsz : ns.length ≤ sizeLine)
    (h : ∀ h', ObjM h' x dx C (fun y => if y = name then some v else mA y) → Heap.SameBut dx s.heap h' → Q () { s with heap := h', toks := s.toks + 2 }) :
    wpAny (model prog w) A (setAttr (.ref x) name v) Q E s := by
  obtain ⟨od, J, hl⟩ := I.look
  refine PySem.W.set_plain X J hs (PySem.W.osa_open (s := { s with toks := s.toks + 1 }) (r := none) X J hp ht fun b => ?_)
  obtain ⟨cd, hc, hd'⟩ := PySem.W.any_some hh
  have hx : s.heap.get? x = some ⟨.ref C, some dx, .plain, #[]⟩ := I.obj
  refine wpAny_bind (wpAny_pure (wpAny_bind (wpAny_bind (wpAny_loadPart hx (wpAny_bind (PySem.W.Looks.here (s := { s with toks := s.toks + 1 }) (PySem.W.looks_clsIn X hc) ?_))))))
  rw [hd']
  refine wpAny_pure (a := some dx) (wpAny_bind (wpAny_pure (wpAny_bind ?_)))
  refine wpAny_nsSet1 (s := { s with toks := s.toks + 1 }) I.ns fun h' hn2 hs2 => ?_
  obtain ⟨oD, esD, epD, hoD, hdD, hcD⟩ := hn2.count (PySem.Within.cons name v hw)
  refine wpAny_bind (wpAny_lookBehind hoD (by rw [hdD]; exact pastItsLine_dict (Nat.le_trans hcD (by rw [List.length_cons]; omega))) ?_)
  exact wpAny_pure (h _ ⟨(hs2.2 _ (Ne.symm I.ne)).trans I.obj, hn2, I.ne⟩ hs2)

/-- C(..): the dict at the heap's end, the instance behind it; then its __init__ -/
theorem make_map {R : Result → Shared → Prop} {vs : List Value} {kw : List (Str × Value)} (X : K.In s.heap) (hm : PySem.W.makesIn K C = true)
    (hi : PySem.W.findIn K (.ref C) "__init__" = some (some (.ref f))) (hf : PySem.W.typeIn K (.ref f) = some (.type "function"))
    (h : codeAny (model prog w) (A.under (.builtin "type.__call__" ⟨.ref C :: vs, kw⟩)) (.call (.ref f) ⟨.ref (s.heap.objs.size + 1) :: vs, kw⟩) (PySem.W.InitBack (s.heap.objs.size + 1) R)
      { s with heap := (s.heap.push PySem.W.emptyDict).push (PySem.W.instObj C s.heap.objs.size) }) :
    codeAny (model prog w) A (.call (.ref C) ⟨vs, kw⟩) R s := by
  obtain ⟨hh, g, d, t, os⟩ := s
  exact PySem.W.make_core (PySem.W.makes_of X hm) (PySem.W.looks_findIn X hi) (fun self => PySem.W.bind_fn X self hf) (.inl rfl) h
end

def putF (f : Str) (v : V) : List (Str × V) → List (Str × V)
  | [] => [(f, v)]
  | (g, x) :: r => if g = f then (g, v) :: r else (g, x) :: putF f v r
theorem lookup_putF (f g : Str) (v : V) : ∀ fs : List (Str × V), (putF f v fs).lookup g = if g = f then some v else fs.lookup g
  | [] => by
    show List.lookup g [(f, v)] = _
    by_cases h : g = f
    · have hb : (g == f) = true := beq_iff_eq.mpr h
      simp only [List.lookup, hb, if_pos h]
    · have hb : (g == f) = false := beq_eq_false_iff_ne.mpr h
      simp only [List.lookup, hb, if_neg h]
  | (k, x) :: r => by
    have ih := lookup_putF f g v r
    rw [show putF f v ((k, x) :: r) = (if k = f then (k, v) :: r else (k, x) :: putF f v r) from rfl]
    by_cases hk : k = f
    · rw [if_pos hk]
      by_cases h : g = k
      · have hb : (g == k) = true := beq_iff_eq.mpr h
        simp only [List.lookup, hb, if_pos (h.trans hk)]
      · have hb : (g == k) = false := beq_eq_false_iff_ne.mpr h
        simp only [List.lookup, hb, if_neg (fun e : g = f => h (e.trans hk.symm))]
    · rw [if_neg hk]
      by_cases h : g = k
      · have hb : (g == k) = true := beq_iff_eq.mpr h
        simp only [List.lookup, hb, if_neg (fun e : g = f => hk (h.symm.trans e))]
      · have hb : (g == k) = false := beq_eq_false_iff_ne.mpr h
        simp only [List.lookup, hb]
        exact ih
theorem keys_putF (f : Str) (v : V) : ∀ fs : List (Str × V), f ∈ (putF f v fs).map (·.1) ∧ ∀ g, g ∈ fs.map (·.1) → g ∈ (putF f v fs).map (·.1)
  | [] => ⟨by simp [putF], fun g h => by simp at h⟩
  | (k, x) :: r => by
    obtain ⟨i1, i2⟩ := keys_putF f v r
    rw [show putF f v ((k, x) :: r) = (if k = f then (k, v) :: r else (k, x) :: putF f v r) from rfl]
    by_cases hk : k = f
    · rw [if_pos hk]
      subst hk
      exact ⟨by simp, fun g h => by simpa using h⟩
    · rw [if_neg hk]
      refine ⟨?_, fun g h => ?_⟩
      · rw [List.map_cons]
        exact List.mem_cons_of_mem _ i1
      · rw [List.map_cons] at h ⊢
        rcases List.mem_cons.mp h with e | e
        · exact List.mem_cons.mpr (.inl e)
        · exact List.mem_cons_of_mem _ (i2 g e)
theorem length_putF (f : Str) (v : V) : ∀ fs : List (Str × V), (putF f v fs).length ≤ fs.length + 1
  | [] => by simp [putF]
  | (k, x) :: r => by
    have ih := length_putF f v r
    rw [show putF f v ((k, x) :: r) = (if k = f then (k, v) :: r else (k, x) :: putF f v r) from rfl]
    by_cases hk : k = f
    · rw [if_pos hk, List.length_cons, List.length_cons]; omega
    · rw [if_neg hk, List.length_cons, List.length_cons]; omega

theorem RelO.some_of {v : V} {o : Option Value} (r : RelO (some v) o) : ∃ u, o = some u ∧ RelV v u := by
  cases o with
  | none => exact (show False from r).elim
  | some u => exact ⟨u, rfl, r⟩
theorem handed_of {v : V} {u : Value} (r : RelV v u) : PySem.W.handedIn u = true := by
  cases v with
  | non => cases (show u = Value.none from r); rfl
  | bl b => cases (show u = Value.bool b from r); rfl
  | int i => obtain ⟨t, e⟩ := (show ∃ t, u = Value.int i t from r); cases e; rfl
  | str x => obtain ⟨t, e⟩ := (show ∃ t, u = Value.str x t from r); cases e; rfl
  | byt b => obtain ⟨t, e⟩ := (show ∃ t, u = Value.bytes b t from r); cases e; rfl
  | flt b => obtain ⟨t, e⟩ := (show ∃ t, u = Value.float b t from r); cases e; rfl
  | ref a => cases (show u = Value.ref a from r); rfl
  | ty n => cases (show u = Value.type n from r); rfl

section
variable {P : Program} {w : World} {H H' : Hp} {h h' : Heap} {a C dx : Addr} {fs fs' : List (Str × V)}
theorem ins_get (hok : HOk P w H h) (e : H a = some (.ins C dx fs)) : ∃ mA, ObjM h a dx C mA ∧ (∀ f, RelO (fs.lookup f) (mA f)) ∧ PySem.Within mA (fs.map (·.1)) ∧ fs.length ≤ 1000 ∧ H dx = some (.own a) := by
  obtain ⟨d, z, ne, ob, mA, n, r, q⟩ := (show ObjOk P w H h a (.ins C dx fs) from hok a _ e)
  exact ⟨mA, ⟨ob, n, ne⟩, r, q, z, d⟩
end

structure Cls (K : PySem.W.Frag) (C : Addr) : Prop where
  pg : PySem.W.plainGet K C Str.empty = true
  hd : PySem.W.hasDictIn K C = true
  po : PySem.W.plainOver K C = true
  sa : PySem.W.findIn K (.ref C) "__setattr__" = some (some (.builtin "object.__setattr__"))
theorem Cls.get {K : PySem.W.Frag} {C : Addr} (c : Cls K C) (f : Str) : PySem.W.plainGet K C f = true := c.pg
/-- no class of it has the name -/
def NoAttr (K : PySem.W.Frag) (C : Addr) (f : Str) : Prop := PySem.W.findIn K (.ref C) f = some none
theorem NoAttr.taker {K : PySem.W.Frag} {C : Addr} {f : Str} (n : NoAttr K C f) : PySem.W.takerIn K C f = some none := by
  unfold PySem.W.takerIn
  rw [show PySem.W.findIn K (.ref C) f = some none from n]
  rfl

section
variable {X : Cx} {pins : List (Addr × Obj)} {σ : St} {H : Hp} {s : Shared} {a C dx : Addr} {fs : List (Str × V)} {f : Str} {v : V} {A : Around} {E : Value → Shared → Prop}

theorem getattr_ok {b : Bool} {Q : Value → Shared → Prop} (I : Inv X pins σ H s) (e : H a = some (.ins C dx fs)) (c : Cls X.K C) (n : NoAttr X.K C f) (l : fs.lookup f = some v)
    (h : ∀ u s', Inv X pins σ H s' → RelV v u → Q u s') : wpAny (model X.prog X.w) A (getAttr (.ref a) f b) Q E s := by
  obtain ⟨mA, O, r, _, _, _⟩ := ins_get I.hok e
  obtain ⟨u, hu, ru⟩ := RelO.some_of (v := v) (o := mA f) (by rw [← l]; exact r f)
  exact get_map I.kIn O (c.get f) c.hd n hu (handed_of ru) (h u _ (I.tok _) ru)

theorem setattr_ok {y : V} {u : Value} {Q : Unit → Shared → Prop} (I : Inv X pins σ H s) (e : H a = some (.ins C dx fs)) (c : Cls X.K C) (n : NoAttr X.K C f) (hl : fs.length < 1000) (ry : RelV y u)
    (h : ∀ s', Inv X pins σ (upd H a (.ins C dx (putF f y fs))) s' → Q () s') : wpAny (model X.prog X.w) A (setAttr (.ref a) f u) Q E s := by
  obtain ⟨mA, O, r, wi, _, ho⟩ := ins_get I.hok e
  have hz : (fs.map (·.1)).length ≤ sizeLine := by rw [List.length_map, sizeLine_eq]; omega
  refine set_map I.kIn O c.sa c.po n.taker c.hd wi hz fun h' O' sb => h _ ?_
  have hd : ∃ o, h'.get? dx = some o := let ⟨o, _, _, e', _⟩ := O'.ns; ⟨o, e'⟩
  refine I.write (x := a) (e := dx) (by rw [e]; exact True.intro) (.inr ho) (fun b q hb z => (sb.2 b hb).trans z) hd ?_
  refine ⟨by rw [upd_ne O.ne]; exact ho, ?_, O.ne, O'.obj, _, O'.ns, fun g => ?_, fun g hg => ?_⟩
  · have := length_putF f y fs; omega
  · show RelO ((putF f y fs).lookup g) (if g = f then some u else mA g)
    rw [lookup_putF]
    by_cases q : g = f
    · rw [if_pos q, if_pos q]; exact ry
    · rw [if_neg q, if_neg q]; exact r g
  · by_cases q : g = f
    · rw [q]; exact (keys_putF f y fs).1
    · refine (keys_putF f y fs).2 g (wi g fun z => hg ?_)
      show (if g = f then some u else mA g) = none
      rw [if_neg q]; exact z

/-- a new instance, tracked, without attributes -/
theorem Inv.made (I : Inv X pins σ H s) : Inv X pins σ (upd (upd H s.heap.objs.size (.own (s.heap.objs.size + 1))) (s.heap.objs.size + 1) (.ins C s.heap.objs.size []))
    { s with heap := (s.heap.push PySem.W.emptyDict).push (PySem.W.instObj C s.heap.objs.size) } := by
  have e1 : (s.heap.push PySem.W.emptyDict).get? s.heap.objs.size = some PySem.W.emptyDict := Heap.get?_push_size s.heap rfl
  have e2 : ((s.heap.push PySem.W.emptyDict).push (PySem.W.instObj C s.heap.objs.size)).get? (s.heap.objs.size + 1) = some (PySem.W.instObj C s.heap.objs.size) := by
    have := Heap.get?_push_size (s.heap.push PySem.W.emptyDict) (o := PySem.W.instObj C s.heap.objs.size) rfl
    rwa [Heap.size_push] at this
  have e3 : (s.heap.push PySem.W.emptyDict).Ns s.heap.objs.size (fun _ => none) := ⟨PySem.W.emptyDict, #[], _, e1, rfl, (fun e he => absurd he (by simp)), fun _ => rfl⟩
  have I1 := I.laid (a := s.heap.objs.size) (o := .own (s.heap.objs.size + 1)) (h' := s.heap.push PySem.W.emptyDict) (t' := s.toks) (fun b u q => Heap.get?_push_of_some _ q) (Nat.le_refl _) ⟨_, e1⟩
  refine I1.laid (a := s.heap.objs.size + 1) (o := .ins C s.heap.objs.size []) (t' := s.toks) (fun b u q => Heap.get?_push_of_some _ q) (Nat.le_of_eq (Heap.size_push _ _)) ?_
  have ne : s.heap.objs.size ≠ s.heap.objs.size + 1 := Nat.ne_of_lt (Nat.lt_succ_self _)
  refine ⟨by rw [upd_ne ne, upd_same], Nat.zero_le _, ne, e2, fun _ => none, (Heap.Ns1.of_empty e3).at fun o q => Heap.get?_push_of_some _ q, fun _ => True.intro, fun y hy => absurd rfl hy⟩

/-- e.f where nothing but the object is asked: through attributeBase (super) and the last hold -/
theorem attr_of {prog : Program} {w : World} {env : Env} {e : Expr} {f : Str} {pos : Pos} {s : Shared} {Q : Value → Shared → Prop} (hb : attributeBase e f env (eval e env) = eval e env)
    (h : wpAny (model prog w) A (eval e env) (fun o s₁ => wpAny (model prog w) A (getAttr o f true) Q E s₁) E s) : wpAny (model prog w) A (eval (.Attribute e f pos) env) Q E s :=
  Attribute_any_ h (by rw [arm_eval_Attribute, hb])
end

/-- e.f, an attribute of the instance -/
def tFld (K : PySem.W.Frag) (ta : TE) (f : Str) : TE := fun σ H Q => ta σ H fun x H1 => ∃ a C dx fs v, x = .ref a ∧ H1 a = some (.ins C dx fs) ∧ Cls K C ∧ NoAttr K C f ∧ fs.lookup f = some v ∧ Q v H1
/-- e.f = value -/
def sFld (K : PySem.W.Frag) (ta tv : TE) (f : Str) : TS := fun D σ H => tv σ H fun y H1 => ta σ H1 fun x H2 => ∃ a C dx fs, x = .ref a ∧ H2 a = some (.ins C dx fs) ∧ Cls K C ∧ NoAttr K C f ∧ fs.length < 1000 ∧
  D.nx σ (upd H2 a (.ins C dx (putF f y fs)))

section
variable {X : Cx} {o e value : Expr} {f : Str} {pos pos' tpos : Pos} {ta tv : TE}
theorem pe_fld (he : PE X e ta) (hb : attributeBase e f X.env (eval e X.env) = eval e X.env) : PE X (.Attribute e f pos) (tFld X.K ta f) := by
  intro pins s σ H Q I h
  refine attr_of hb (thn (he pins s σ H _ I h) fun u s1 ⟨x, H1, I1, rx, a, C, dx, fs, v, ex, ea, c, n, l, q⟩ => ?_)
  subst ex
  obtain rfl : u = Value.ref a := rx
  exact getattr_ok I1 ea c n l fun u' s2 I2 ru => ⟨v, H1, I2, ru, q⟩
theorem ps_fld (ha : PE X o ta) (hv : PE X value tv) (hs : swapsWith value (some (.Attribute o f pos')) pos.line X.env = pure false) : PS X (.Assign [.Attribute o f pos'] value pos) (sFld X.K ta tv f) := by
  intro pins s σ H D I h
  refine plainObj_wpAny_Assign_Attribute (thn (hv pins s σ H _ I h) fun u s1 ⟨y, H1, I1, ry, q⟩ => thn (ha pins s1 σ H1 _ I1 q) fun ov s2 ⟨x, H2, I2, rx, a, C, dx, fs, ex, ea, c, n, l, q2⟩ => ?_) hs
  subst ex
  obtain rfl : ov = Value.ref a := rx
  exact setattr_ok I2 ea c n l ry fun s3 I3 => ⟨σ, _, I3, q2⟩

end

section
variable {X : Cx} {pins : List (Addr × Obj)} {σ : St} {H : Hp} {s : Shared} {A : Around} {E : Value → Shared → Prop} {Q : Value → Shared → Prop} {c : Value} {b : Bool}
end
end L2

namespace L2
open PySem PySem.Spec PyProof.Rows

structure Room (k : Nat) (A : Around) : Prop where
  hd : A.handled = none
  dp : A.depth + 3 * k + 5 < recursionLimit
  un : A.units + 16 * k + 200 < cLine
theorem Room.mono {j k : Nat} {A : Around} (r : Room k A) (h : j ≤ k) : Room j A := ⟨r.hd, by have := r.dp; omega, by have := r.un; omega⟩
theorem Room.deeper {k : Nat} {A : Around} (r : Room (k + 1) A) (env : Env) : Room k (A.deeper env) :=
  ⟨r.hd, by have := r.dp; show A.depth + 1 + 3 * k + 5 < _; omega, by have := r.un; show A.units + 3 + 16 * k + 200 < _; omega⟩
theorem make_depth {A : Around} {C : Addr} {us : List Value} {kw : List (Str × Value)} : (A.under (.builtin "type.__call__" ⟨.ref C :: us, kw⟩)).depth = A.depth + 1 := by
  first | rfl | simp [Around.under, Code.weight, Code.isCreation, Code.isGuard, Code.isCaller, Code.frames, Code.isFrame, guardIds]
theorem make_units {A : Around} {C : Addr} {us : List Value} {kw : List (Str × Value)} : (A.under (.builtin "type.__call__" ⟨.ref C :: us, kw⟩)).units = A.units + 1 := by
  first | rfl | simp [Around.under, Code.cUnits, Code.frames, Code.isFrame]
theorem Room.make {k : Nat} {A : Around} (r : Room (k + 1) A) (C : Addr) (us : List Value) (kw : List (Str × Value)) : Room k (A.under (.builtin "type.__call__" ⟨.ref C :: us, kw⟩)) :=
  ⟨r.hd, by have := r.dp; rw [make_depth]; omega, by have := r.un; rw [make_units]; omega⟩
theorem Room.depth {k : Nat} {A : Around} (r : Room k A) : A.depth < recursionLimit := by have := r.dp; omega
theorem Room.units {k : Nat} {A : Around} (r : Room k A) : A.units + 64 < cLine := by have := r.un; omega

def tNil : TA := fun _ H Q => Q [] H
def tCons (ta : TE) (tr : TA) : TA := fun σ H Q => ta σ H fun x H1 => tr σ H1 fun xs H2 => Q (x :: xs) H2
section
variable {X : Cx} {e : Expr} {es : List Expr} {te : TE} {t : TA} {pos : Pos}
theorem pa_nil : PA X [] tNil := fun _ _ _ _ H Q I h => Calls.spliced_nil ⟨[], H, I, .nil, h⟩
theorem pa_cons (ha : PE X e te) (hr : PA X es t) (hs : starEach (e :: es) X.env = (false, eval e X.env) :: starEach es X.env := by rfl) : PA X (e :: es) (tCons te t) := by
  intro pos pins s σ H Q I h
  rw [hs]
  show wpAny _ _ (spliced ((false, eval e X.env) :: backTo pos (starEach es X.env))) _ _ s
  refine Calls.spliced_cons (thn (ha pins s σ H _ I h) fun u s1 ⟨x, H1, I1, r1, q1⟩ => ?_)
  exact thn (hr pos pins s1 σ H1 _ I1 q1) fun us s2 ⟨xs, H2, I2, r2, q2⟩ => ⟨x :: xs, H2, I2, .cons r1 r2, q2⟩

/-- a tuple, a list of written items -/
def tTup (t : TA) : TE := fun σ H Q => t σ H fun xs H1 => xs.length ≤ sizeLine ∧ ∀ p, H1 p = none → Q (.ref p) (upd H1 p (.tup xs))
def tLst (t : TA) : TE := fun σ H Q => t σ H fun xs H1 => xs.length ≤ sizeLine ∧ ∀ p, H1 p = none → Q (.ref p) (upd H1 p (.lst xs))
theorem pe_tup {x1} (h : PA X es t) : PE X (.Tuple es x1 pos) (tTup t) := by
  intro pins s σ H Q I hq
  refine wpAny_Tuple_spliced (thn (h pos pins s σ H _ I hq) fun us s1 ⟨xs, H1, I1, r, z, q⟩ => ⟨by rw [← r.length]; exact z, ?_⟩)
  have hf : H1 s1.heap.objs.size = none := I1.hok.fresh (Nat.le_refl _)
  refine ⟨.ref s1.heap.objs.size, upd H1 s1.heap.objs.size (.tup xs), I1.laid (t' := s1.toks) (fun b u e => Heap.get?_push_of_some _ e) (Nat.le_refl _) ?_, rfl, q _ hf⟩
  exact ⟨⟨z, ⟨_, Heap.get?_push_size _ rfl, rfl⟩⟩, us, r, ⟨_, Heap.get?_push_size _ rfl, rfl, _, rfl⟩⟩
theorem pe_lst (h : PA X es t) : PE X (.List es pos) (tLst t) := by
  intro pins s σ H Q I hq
  refine wpAny_List_spliced (thn (h pos pins s σ H _ I hq) fun us s1 ⟨xs, H1, I1, r, z, q⟩ => ⟨by rw [← r.length]; exact z, ?_⟩)
  have hf : H1 s1.heap.objs.size = none := I1.hok.fresh (Nat.le_refl _)
  refine ⟨.ref s1.heap.objs.size, upd H1 s1.heap.objs.size (.lst xs), I1.laid (t' := s1.toks) (fun b u e => Heap.get?_push_of_some _ e) (Nat.le_refl _) ?_, rfl, q _ hf⟩
  exact ⟨z, us, 0, r, Heap.get?_push_size _ rfl⟩
end

/-- a def's promise: the bound arguments in the parameters' order, the heap, the wanted end, the wanted exception -/
abbrev Sp := List V → Hp → VK → XK → Prop
/-- how an exception lies behind a call (file 08 gives it): the callers' frames, abstract heap and state ahead of the call, the wish, the exception, the state -/
abbrev CXT := List Env → Hp → Shared → XK → Value → Shared → Prop

/-- the state at a call -/
structure Env0 (P : Program) (w : World) (K : PySem.W.Frag) (mg : Str → Option Value) (base : Heap) (A : Around) (outer : List Env) (s : Shared) (H : Hp) : Prop where
  frames : A.frames = some outer
  mod : Mod K mg base
  bs : ∀ b o, base.get? b = some o → s.heap.get? b = some o ∧ H b = none
  bsz : base.objs.size ≤ s.heap.objs.size
  funs : s.heap.FunFrames base outer
  frf : ∀ b ∈ frs outer, H b = none
  hok : HOk P w H s.heap
  bare : AllBare s.gens
/-- a call's end -/
def CE (outer : List Env) (P : Program) (w : World) (H : Hp) (s : Shared) (Q : VK) (u : Value) (s' : Shared) : Prop :=
  ∃ v H', s'.os = s.os ∧ AllBare s'.gens ∧ Un (frs outer) [] H H' s.heap s'.heap ∧ HOk P w H' s'.heap ∧ RelV v u ∧ Q v H'
def CR (CX : CXT) (outer : List Env) (P : Program) (w : World) (H : Hp) (s : Shared) (Q : VK) (E : XK) (r : Result) (s' : Shared) : Prop :=
  match r with
  | .ok (.ret u) => CE outer P w H s Q u s'
  | .ok _ => False
  | .error e => CX outer H s E e s'
structure FnOk (P : Program) (w : World) (K : PySem.W.Frag) (mg : Str → Option Value) (base : Heap) (CX : CXT) (k : Nat) (f : Addr) (fd : FuncData) (ps : List Str) (sp : Sp) : Prop where
  len : ∀ vs H Q E, sp vs H Q E → vs.length = ps.length
  run : ∀ (A : Around) (outer : List Env) (s : Shared) (H : Hp) (args : Args) (us : List Value) (vs : List V) (Q : VK) (E : XK), Room k A → Env0 P w K mg base A outer s H → BindsTo s fd args (ps.zip us) → Vals vs us → sp vs H Q E →
    codeAny (model P w) A (.call (.ref f) args) (CR CX outer P w H s Q E) s
theorem FnOk.mono {P : Program} {w : World} {K : PySem.W.Frag} {mg : Str → Option Value} {base : Heap} {CX : CXT} {j k : Nat} {f : Addr} {fd : FuncData} {ps : List Str} {sp : Sp} (F : FnOk P w K mg base CX j f fd ps sp) (h : j ≤ k) :
    FnOk P w K mg base CX k f fd ps sp := ⟨F.len, fun A outer s H args us vs Q E hr => F.run A outer s H args us vs Q E (hr.mono h)⟩
/-- a weaker promise -/
theorem FnOk.imp {P : Program} {w : World} {K : PySem.W.Frag} {mg : Str → Option Value} {base : Heap} {CX : CXT} {k : Nat} {f : Addr} {fd : FuncData} {ps : List Str} {sp sp' : Sp} (F : FnOk P w K mg base CX k f fd ps sp)
    (h : ∀ vs H Q E, sp' vs H Q E → sp vs H Q E) : FnOk P w K mg base CX k f fd ps sp' :=
  ⟨fun vs H Q E q => F.len vs H Q E (h _ _ _ _ q), fun A outer s H args us vs Q E hr he hb hv hs => F.run A outer s H args us vs Q E hr he hb hv (h _ _ _ _ hs)⟩

theorem Env0.make {P : Program} {w : World} {K : PySem.W.Frag} {mg : Str → Option Value} {base : Heap} {A : Around} {outer : List Env} {s : Shared} {H : Hp} (e : Env0 P w K mg base A outer s H) (C : Addr) (us : List Value) (kw : List (Str × Value)) :
    Env0 P w K mg base (A.under (.builtin "type.__call__" ⟨.ref C :: us, kw⟩)) outer s H := ⟨by first | exact e.frames | (simpa [Around.under, Code.envs, Code.isFrame, pushEnvs] using e.frames), e.mod, e.bs, e.bsz, e.funs, e.frf, e.hok, e.bare⟩

section
variable {X : Cx} {pins : List (Addr × Obj)} {σ : St} {H : Hp} {s s' : Shared}
/-- from a body: what a callee wants -/
theorem Inv.env0 (I : Inv X pins σ H s) : Env0 X.prog X.w X.K X.mg X.base X.A X.stack s H :=
  ⟨I.ok.frames, I.ok.mod, I.bs, Nat.le_trans I.ok.bsz I.sz, I.stack, I.stkFree, I.hok, I.bare⟩
/-- behind a call -/
theorem Inv.after {Q : VK} {u : Value} (I : Inv X pins σ H s) (h : CE X.stack X.prog X.w H s Q u s') : EP X pins σ Q u s' := by
  obtain ⟨v, H', os, bare, un, hok, r, q⟩ := h
  obtain ⟨hh, g, d, t, os'⟩ := s'
  obtain rfl : os' = s.os := os
  exact ⟨v, H', I.call (h' := hh) (g' := g) (d' := d) (t' := t) (ch := []) un hok bare (fun b z => absurd z (by simp)), r, q⟩
end

/-- f(..): the written arguments, then the defaults dvs; E: what is wanted of an exception -/
def tCall (sp : Sp) (dvs : List V) (E : XK) (t : TA) : TE := fun σ H Q => t σ H fun vs H1 => sp (vs ++ dvs) H1 Q E
/-- C(..): a new instance and its dict, then __init__ -/
def tMake (C : Addr) (sp : Sp) (dvs : List V) (E : XK) (t : TA) : TE := fun σ H Q => t σ H fun vs H1 => ∀ x dx, H1 x = none → H1 dx = none → dx ≠ x →
  sp (.ref x :: (vs ++ dvs)) (upd (upd H1 dx (.own x)) x (.ins C dx [])) (fun v H2 => v = .non ∧ Q (.ref x) H2) E

/-- how the parameters are bound: us the positional arguments, kw the keywords' values by name, ds the defaults that fill up -/
def Binds (K : PySem.W.Frag) (fd : FuncData) (ps : List Str) (ds : List Value) : Prop :=
  ∀ (s : Shared) (us : List Value), K.In s.heap → (us ++ ds).length = ps.length → BindsTo s fd ⟨us, []⟩ (ps.zip (us ++ ds))
/-- every parameter is given -/
theorem Binds.all {K : PySem.W.Frag} {fd : FuncData} {ps : List Str} (h : ∀ us : List Value, us.length = ps.length → bindArgs fd ⟨us, []⟩ = pure (ps.zip us)) : Binds K fd ps [] := fun s us _ hl => by
  rw [List.append_nil] at hl ⊢
  exact .of_eq (h us hl)

/-- an exception of a callee reaches what this body wants of exceptions -/
def Passes (CX : CXT) (X : Cx) (E : XK) : Prop := ∀ (pins : List (Addr × Obj)) (σ : St) (H : Hp) (s : Shared) (e : Value) (s' : Shared), Inv X pins σ H s → CX X.stack H s E e s' → X.xe e s'

section
variable {X : Cx} {CX : CXT} {k : Nat} {f C : Addr} {fd : FuncData} {ps : List Str} {sp : Sp} {dvs : List V} {ds : List Value} {E : XK} {x m : Str} {p pos apos : Pos} {e o : Expr} {es : List Expr} {ta : TE} {t : TA}

/-- the callee runs -/
theorem run_fn {pins : List (Addr × Obj)} {σ : St} {H : Hp} {s : Shared} {Q : VK} {us : List Value} {vs : List V} (F : FnOk X.prog X.w X.K X.mg X.base CX k f fd ps sp) (hr : Room k X.A) (hb : Binds X.K fd ps ds) (hd : Vals dvs ds) (hx : Passes CX X E)
    (I : Inv X pins σ H s) (r : Vals vs us) (h : sp (vs ++ dvs) H Q E) : wpAny (model X.prog X.w) X.A (call (.ref f) us) (EP X pins σ Q) X.xe s := by
  have r2 : Vals (vs ++ dvs) (us ++ ds) := r.append hd
  have hl : (us ++ ds).length = ps.length := by rw [← r2.length]; exact F.len _ _ _ _ h
  refine wpAny_call (codeAny_mono (F.run X.A X.stack s H ⟨us, []⟩ (us ++ ds) (vs ++ dvs) Q E hr I.env0 (hb s us I.kIn hl) r2 h) fun r s' hq => ?_)
  cases r with
  | error e => exact hx pins σ H s e s' I hq
  | ok fl =>
    cases fl with
    | ret u => exact I.after hq
    | next => exact False.elim hq
    | brk => exact False.elim hq
    | cont => exact False.elim hq

theorem pe_call (F : FnOk X.prog X.w X.K X.mg X.base CX k f fd ps sp) (hr : Room k X.A) (hg : Gl X x) (hm : X.mg x = some (.ref f)) (hk : PySem.W.keepIn X.K (.ref f) = true) (hb : Binds X.K fd ps ds) (hd : Vals dvs ds) (hx : Passes CX X E)
    (ha : PA X (e :: es) t) (hdb : (x == ("__debug__" : Str)) = false := by decide) (he : starEach (e :: es) X.env = (false, eval e X.env) :: starEach es X.env := by rfl) (hpl : (backTo pos (starEach es X.env)).any (·.1) = false := by rfl) :
    PE X (.Call (.Name x p) (e :: es) [] pos) (tCall sp dvs E t) := by
  intro pins s σ H Q I h
  refine wpAny_Call_Name_kw (ld_glob I hg hm ?_ hdb)
  refine PySem.W.callWith_K (h₀ := X.base) I.ok.mod.kin hk (thn (ha pos pins s σ H _ I h) fun us s1 ⟨vs, H1, I1, r, q⟩ => ⟨I1.kIn, ?_⟩) he hpl
  exact run_fn F hr hb hd hx I1 r q

/-- what a class must have to be made -/
structure Mk (K : PySem.W.Frag) (C f : Addr) : Prop where
  makes : PySem.W.makesIn K C = true
  init : PySem.W.findIn K (.ref C) "__init__" = some (some (.ref f))
  fn : PySem.W.isFn K (.ref f) = true
  kp : PySem.W.keepIn K (.ref C) = true

theorem run_make {pins : List (Addr × Obj)} {σ : St} {H : Hp} {s : Shared} {Q : VK} {us : List Value} {vs : List V} (M : Mk X.K C f) (F : FnOk X.prog X.w X.K X.mg X.base CX k f fd ps sp) (hr : Room (k + 1) X.A) (hb : Binds X.K fd ps ds) (hd : Vals dvs ds)
    (hx : Passes CX X E) (I : Inv X pins σ H s) (r : Vals vs us)
    (h : ∀ x dx, H x = none → H dx = none → dx ≠ x → sp (.ref x :: (vs ++ dvs)) (upd (upd H dx (.own x)) x (.ins C dx [])) (fun v H2 => v = .non ∧ Q (.ref x) H2) E) :
    wpAny (model X.prog X.w) X.A (call (.ref C) us) (EP X pins σ Q) X.xe s := by
  have hq := h (s.heap.objs.size + 1) s.heap.objs.size (I.hok.fresh (Nat.le_succ _)) (I.hok.fresh (Nat.le_refl _)) (Nat.ne_of_lt (Nat.lt_succ_self _))
  have I2 := Inv.made (C := C) I
  have r2 : Vals (V.ref (s.heap.objs.size + 1) :: (vs ++ dvs)) (Value.ref (s.heap.objs.size + 1) :: (us ++ ds)) := .cons rfl (r.append hd)
  have hl : (Value.ref (s.heap.objs.size + 1) :: us ++ ds).length = ps.length := by
    have e := r2.length
    rw [F.len _ _ _ _ hq] at e
    exact e.symm
  refine wpAny_call (make_map (f := f) I.kIn M.makes M.init (beq_iff_eq.mp M.fn) (codeAny_mono (F.run _ X.stack _ _ ⟨Value.ref (s.heap.objs.size + 1) :: us, []⟩ (Value.ref (s.heap.objs.size + 1) :: (us ++ ds)) _ _ E (hr.make C us [])
    (I2.env0.make C us []) (hb _ (Value.ref (s.heap.objs.size + 1) :: us) I2.kIn hl) r2 hq) fun r s' hq' => ?_))
  cases r with
  | error e => exact hx pins σ _ _ e s' I2 hq'
  | ok fl =>
    cases fl with
    | ret u =>
      obtain ⟨v, H', I3, rv, ev, q3⟩ := I2.after hq'
      subst ev
      exact ⟨rv, ⟨V.ref (s.heap.objs.size + 1), H', I3, rfl, q3⟩⟩
    | next => exact False.elim hq'
    | brk => exact False.elim hq'
    | cont => exact False.elim hq'
theorem pe_make (M : Mk X.K C f) (F : FnOk X.prog X.w X.K X.mg X.base CX k f fd ps sp) (hr : Room (k + 1) X.A) (hg : Gl X x) (hm : X.mg x = some (.ref C)) (hb : Binds X.K fd ps ds) (hd : Vals dvs ds) (hx : Passes CX X E)
    (ha : PA X (e :: es) t) (hdb : (x == ("__debug__" : Str)) = false := by decide) (he : starEach (e :: es) X.env = (false, eval e X.env) :: starEach es X.env := by rfl) (hpl : (backTo pos (starEach es X.env)).any (·.1) = false := by rfl) :
    PE X (.Call (.Name x p) (e :: es) [] pos) (tMake C sp dvs E t) := by
  intro pins s σ H Q I h
  refine wpAny_Call_Name_kw (ld_glob I hg hm ?_ hdb)
  refine PySem.W.callWith_K (h₀ := X.base) I.ok.mod.kin M.kp (thn (ha pos pins s σ H _ I h) fun us s1 ⟨vs, H1, I1, r, q⟩ => ⟨I1.kIn, ?_⟩) he hpl
  exact run_make M F hr hb hd hx I1 r q
end

section
variable {X : Cx} {CX : CXT} {k : Nat} {f C : Addr} {fd : FuncData} {ps ks : List Str} {sp : Sp} {E : XK} {x m : Str} {p pos apos kpos : Pos} {e o : Expr} {es : List Expr} {kws : List Keyword} {te ta : TE} {t tk : TA} {nm : Option Str}

variable {g : List Value → List Value → List Value} {gV : List V → List V → List V}
end

/-- names: the parameters first -/
structure FnScope (N P : List Str) (sc : Scope) : Prop where
  kind : sc.kind = .function
  co : sc.isCoroutine = false
  gen : sc.isGenerator = false
  nd : N.Nodup
  pre : N.take P.length = P
  par : ∀ x ∈ P, sc.names.lookup x = some .local ∨ sc.names.lookup x = some .cell
  nofree : ∀ y ∈ sc.names, y.2 ≠ .free

theorem bindL_out {kindOf : Str → Option NameKind} {x : Str} : ∀ {binds : List (Str × Value)} {m : Str → Option Value}, (∀ v, (x, v) ∉ binds) → bindL kindOf binds m x = m x
  | [], _, _ => rfl
  | (n, v) :: r, m, h => by
    unfold bindL
    rw [bindL_out fun w hw => h w (List.mem_cons_of_mem _ hw)]
    split
    · have : x ≠ n := by rintro rfl; exact h v List.mem_cons_self
      simp [this]
    · rfl
theorem bindC_out {kindOf : Str → Option NameKind} {x : Str} : ∀ {binds : List (Str × Value)} {m : Str → Option Value}, (∀ v, (x, v) ∉ binds) → bindC kindOf binds m x = m x
  | [], _, _ => rfl
  | (n, v) :: r, m, h => by
    unfold bindC
    rw [bindC_out fun w hw => h w (List.mem_cons_of_mem _ hw)]
    split
    · rfl
    · have : x ≠ n := by rintro rfl; exact h v List.mem_cons_self
      simp [this]
theorem bindL_get {kindOf : Str → Option NameKind} {x : Str} {v : Value} : ∀ {P : List Str} {vs : List Value} {i : Nat} {m : Str → Option Value}, P.Nodup → P[i]? = some x → vs[i]? = some v → kindOf x = some .local →
    bindL kindOf (P.zip vs) m x = some v
  | [], _, _, _, _, h, _, _ => by simp at h
  | _ :: _, [], _, _, _, _, h, _ => by simp at h
  | p :: P, w :: vs, 0, m, nd, h1, h2, hk => by
    simp at h1 h2; subst h1; subst h2
    show bindL kindOf ((p, w) :: P.zip vs) m p = _
    unfold bindL
    rw [bindL_out fun v hv => (List.nodup_cons.mp nd).1 (List.of_mem_zip hv).1, if_pos hk]
    simp
  | p :: P, w :: vs, i + 1, m, nd, h1, h2, hk => by
    show bindL kindOf ((p, w) :: P.zip vs) m x = _
    unfold bindL
    exact bindL_get (i := i) (List.nodup_cons.mp nd).2 (by simpa using h1) (by simpa using h2) hk
theorem bindC_get {kindOf : Str → Option NameKind} {x : Str} {v : Value} : ∀ {P : List Str} {vs : List Value} {i : Nat} {m : Str → Option Value}, P.Nodup → P[i]? = some x → vs[i]? = some v → kindOf x ≠ some .local →
    bindC kindOf (P.zip vs) m x = some v
  | [], _, _, _, _, h, _, _ => by simp at h
  | _ :: _, [], _, _, _, _, h, _ => by simp at h
  | p :: P, w :: vs, 0, m, nd, h1, h2, hk => by
    simp at h1 h2; subst h1; subst h2
    show bindC kindOf ((p, w) :: P.zip vs) m p = _
    unfold bindC
    rw [bindC_out fun v hv => (List.nodup_cons.mp nd).1 (List.of_mem_zip hv).1, if_neg hk]
    simp
  | p :: P, w :: vs, i + 1, m, nd, h1, h2, hk => by
    show bindC kindOf ((p, w) :: P.zip vs) m x = _
    unfold bindC
    exact bindC_get (i := i) (List.nodup_cons.mp nd).2 (by simpa using h1) (by simpa using h2) hk

/-- the names' values at the entry -/
def start (N : List Str) (vs : List V) : St := vs.map some ++ List.replicate (N.length - vs.length) none

/-- the context of a def's body, at its entry; an exception leaves the frame, then lies as CX says -/
def cxOf (CX : CXT) (P : Program) (w : World) (K : PySem.W.Frag) (mg : Str → Option Value) (base : Heap) (N : List Str) (qual : Str) (scope : Scope) (f : Addr) (cd : Value) (A : Around) (outer : List Env) (s : Shared) (H : Hp) (E : XK) : Cx where
  prog := P
  w := w
  K := K
  mg := mg
  base := base
  A := A.deeper (envOfC qual scope s.heap.objs.size f cd)
  N := N
  s₀ := s
  H₀ := H
  env := envOfC qual scope s.heap.objs.size f cd
  outer := outer
  stack := envOfC qual scope s.heap.objs.size f cd :: outer
  ex := []
  calm := true
  fn := fun _ => true
  pn := []
  xe := fun e s' => wpAny (model P w) (A.deeper (envOfC qual scope s.heap.objs.size f cd)) (leaving (envOfC qual scope s.heap.objs.size f cd) e) (fun _ s'' => CX outer H s E e s'') (fun e' s'' => CX outer H s E e' s'') s'

theorem cell_has {sc : Scope} {n : Nat} {x : Str} (h : sc.names.lookup x = some .cell) : ∃ c, (cellsFrom n sc.names []).lookup x = some c := by
  have q := PySem.W.cellsFrom_some sc.names n [] (.inl h)
  exact Option.isSome_iff_exists.mp q

theorem inv_start {CX : CXT} {P : Program} {w : World} {K : PySem.W.Frag} {mg : Str → Option Value} {base : Heap} {N ps : List Str} {qual : Str} {scope : Scope} {f : Addr} {cd : Value} {A : Around} {outer : List Env} {s s1 : Shared} {H : Hp} {E : XK} {us : List Value} {vs : List V}
    (S : FnScope N ps scope) (hd : A.handled = none) (e0 : Env0 P w K mg base A outer s H) (hl : vs.length = ps.length) (r : Vals vs us)
    (x : InCallC s s.heap.objs.size (bindL (envOfC qual scope s.heap.objs.size f cd).kindOf (ps.zip us) fun _ => none) (cellsFrom (s.heap.objs.size + 1) scope.names []) (bindC (envOfC qual scope s.heap.objs.size f cd).kindOf (ps.zip us) fun _ => none) s1) :
    Inv (cxOf CX P w K mg base N qual scope f cd A outer s H E) [] (start N vs) H s1 := by
  have hpl : ps.length ≤ N.length := by have := congrArg List.length S.pre; rw [List.length_take] at this; omega
  obtain ⟨h1, tk, rfl, hk⟩ := x.done
  have noA : ∀ b : Addr, b ∉ (cxOf CX P w K mg base N qual scope f cd A outer s H E).ex := fun b z => absurd (show b ∈ ([] : List Addr) from z) (by simp)
  refine ⟨⟨e0.mod, S.kind, rfl, rfl, Nat.le_refl _, fun y z c h1 h2 => ?_, fun y hy => ?_, fun y c _ h => ?_, fun _ => hd, Around.frames_deeper e0.frames, .inr ⟨rfl, rfl⟩, fun b z => absurd z (noA b), e0.bs, e0.bsz, fun b _ _ => noA b, fun b z => absurd z (noA b), e0.funs, e0.frf⟩,
    rfl, e0.bare, Un.kept hk, ⟨_, x.toInCall.ns, fun i y v h1 h2 h3 => ?_⟩, fun y c h => ⟨_, x.cell y c h⟩, e0.hok.fresh (Nat.le_refl _), fun y c h => ?_, fun p hp => absurd (show p ∈ ([] : List (Addr × Obj)) from hp) (by simp), e0.hok.kept hk, ?_⟩
  · exact name_of_addr x.apart (PySem.mem_of_lookup h1) (PySem.mem_of_lookup h2)
  · have hy : scope.names.lookup y = some .cell ∨ scope.names.lookup y = some .free := hy
    rcases hy with hy | hy
    · exact cell_has hy
    · exact absurd rfl (S.nofree _ (PySem.mem_of_lookup hy))
  · exact Nat.le_of_lt (x.above y c (PySem.mem_of_lookup h))
  · have hi : i < vs.length := by
      unfold start at h2
      by_cases hi : i < vs.length
      · exact hi
      · rw [List.getElem?_append_right (by simpa using hi)] at h2
        rw [List.getElem?_replicate] at h2
        split at h2 <;> cases h2
    have ha : vs[i]? = some v := by
      unfold start at h2
      rw [List.getElem?_append_left (by simpa using hi), List.getElem?_map] at h2
      cases e : vs[i]? with
      | none => rw [e] at h2; cases h2
      | some a => rw [e] at h2; cases h2; rfl
    obtain ⟨u, hu, rv⟩ := r.get ha
    have hp : ps[i]? = some y := by
      rw [← S.pre, List.getElem?_take_of_lt (by omega)]; exact h1
    have ndP : ps.Nodup := by rw [← S.pre]; exact S.nd.sublist (List.take_sublist _ _)
    refine ⟨u, rv, ?_⟩
    rcases S.par y (List.mem_of_getElem? hp) with k | k
    · exact .inl ⟨k, bindL_get ndP hp hu k⟩
    · obtain ⟨c, e⟩ := cell_has (n := s.heap.objs.size + 1) k
      refine .inr ⟨.inl k, c, e, ?_⟩
      have q := x.cell y c e
      rw [bindC_get ndP hp hu (by show scope.names.lookup y ≠ _; rw [k]; decide)] at q
      exact q
  · exact e0.hok.fresh (Nat.le_of_lt (x.above y c (PySem.mem_of_lookup h)))
  · unfold start
    show _ = N.length
    rw [List.length_append, List.length_map, List.length_replicate]
    omega

/-- THE RULE: a def (or a method) of the text, by its body. The body's reading t is chosen for each entry; it is run at the parameters' values -/
theorem fn_of {CX : CXT} {P : Program} {w : World} {K : PySem.W.Frag} {mg : Str → Option Value} {base : Heap} {k : Nat} {f : Addr} {name qual : Str} {params : Arguments} {body : List Stmt} {scope : Scope} {dV kV doc pm cdv ct oc : Value} {an od : Option Addr}
    {osl : Array (Option Value)} {N ps : List Str} {sp : Sp} (lk : K.lookup f = some ⟨oc, od, .func (PySem.W.fnOf name qual params body scope dV kV doc pm an cdv ct), osl⟩) (hcd : PySem.W.codeIn K cdv qual = true) (S : FnScope N ps scope)
    (len : ∀ vs H Q E, sp vs H Q E → vs.length = ps.length)
    (hbody : ∀ (A : Around) (outer : List Env) (s : Shared) (H : Hp) (vs : List V) (Q : VK) (E : XK), Room k (A.deeper (envOfC qual scope s.heap.objs.size f cdv)) → sp vs H Q E →
      ∃ t, PSs (cxOf CX P w K mg base N qual scope f cdv A outer s H E) body t ∧ t { nx := fun _ H' => Q .non H', rt := Q } (start N vs) H) :
    FnOk P w K mg base CX (k + 1) f (PySem.W.fnOf name qual params body scope dV kV doc pm an cdv ct) ps sp := by
  refine ⟨len, fun A outer s H args us vs Q E hr e0 hb r hsp => ?_⟩
  have hl := len _ _ _ _ hsp
  have KX : K.In s.heap := e0.mod.kin.keeps fun b o e => (e0.bs b o e).1
  have lim : s.heap.NoLimit := e0.mod.nolimit.keeps fun b o e => (e0.bs b o e).1
  have hkind : ∀ y ∈ ps.zip us, scope.names.lookup y.1 = some .local ∨ (scope.names.lookup y.1 = some .cell ∧ ((cellsFrom (s.heap.objs.size + 1) scope.names []).lookup y.1).isSome = true) := fun ⟨n, v⟩ hy => by
    rcases S.par n (List.of_mem_zip hy).1 with q | q
    · exact .inl q
    · exact .inr ⟨q, PySem.W.cellsFrom_some _ _ _ (.inl q)⟩
  refine codeAny_call_function hr.depth (KX _ _ lk) rfl S.co S.gen rfl (PySem.W.codeRec_of KX hcd) (hb _ _ _ _ ?_)
  refine wpAny_newFunctionEnv_cells S.kind hkind fun env he s1 x => ?_
  subst he
  refine ⟨lim.keeps x.toInCall.keep, codeAny_func ?_⟩
  obtain ⟨t, ht, hq⟩ := hbody A outer s H vs Q E (hr.deeper _) hsp
  have I : Inv (cxOf CX P w K mg base N qual scope f cdv A outer s H E) [] (start N vs) H s1 := inv_start S hr.hd e0 hl r x
  refine wpAny_mono (ht [] s1 (start N vs) H _ I hq) (fun fl s' hs => ?_) fun e s' hs => hs
  have fin : ∀ {σ' : St} {H' : Hp} {v : V} {u : Value}, Inv (cxOf CX P w K mg base N qual scope f cdv A outer s H E) [] σ' H' s' → RelV v u → Q v H' → CE outer P w H s Q u s' :=
    fun {σ' H' v u} J rv q => ⟨v, H', J.os, J.bare, J.base, J.hok, rv, q⟩
  cases fl with
  | ret u =>
    obtain ⟨v, σ', H', J, rv, q⟩ := hs
    exact fin J rv q
  | next =>
    obtain ⟨σ', H', J, q⟩ := hs
    exact fin (v := V.non) (u := Value.none) J rfl q
  | brk =>
    obtain ⟨_, _, _, q⟩ := hs
    exact False.elim q
  | cont =>
    obtain ⟨_, _, _, q⟩ := hs
    exact False.elim q
end L2

namespace L2
open PySem PySem.Spec PyProof.Rows
section
variable {X : Cx} {x : Str} {p pos : Pos} {e : Expr} {es : List Expr} {t : TA} {id T : String} {r : List V → Hp → VK → Prop}

def tCB (r : List V → Hp → VK → Prop) (t : TA) : TE := fun σ H Q => t σ H fun vs H1 => r vs H1 Q
/-- f(e, ..), f a built-in function -/
theorem pe_callB (hc : CallR X (.builtin id) r) (hg : Gl X x) (hm : X.mg x = none) (hv : bootBuiltins x = some (.builtin id)) (ha : PA X (e :: es) t) (hn : x ≠ "__name__" := by decide) (hdb : (x == ("__debug__" : Str)) = false := by decide)
    (he : starEach (e :: es) X.env = (false, eval e X.env) :: starEach es X.env := by rfl) (hpl : (backTo pos (starEach es X.env)).any (·.1) = false := by rfl) : PE X (.Call (.Name x p) (e :: es) [] pos) (tCB r t) := by
  intro pins s σ H Q I h
  refine wpAny_Call_Name_kw (ld_blt I hg hm hv ?_ hn hdb)
  exact PyProof.Rows.callWith_builtin1 (thn (ha pos pins s σ H _ I h) fun us s1 ⟨vs, H1, I1, r1, q1⟩ => hc pins s1 σ H1 vs us Q I1 r1 q1) he hpl
/-- T(e, ..), T a built-in type -/
theorem pe_callTy (hc : CallR X (.type T) r) (hg : Gl X x) (hm : X.mg x = none) (hv : bootBuiltins x = some (.type T)) (ha : PA X (e :: es) t) (hn : x ≠ "__name__" := by decide) (hdb : (x == ("__debug__" : Str)) = false := by decide)
    (he : starEach (e :: es) X.env = (false, eval e X.env) :: starEach es X.env := by rfl) (hpl : (backTo pos (starEach es X.env)).any (·.1) = false := by rfl) : PE X (.Call (.Name x p) (e :: es) [] pos) (tCB r t) := by
  intro pins s σ H Q I h
  refine wpAny_Call_Name_kw (ld_blt I hg hm hv ?_ hn hdb)
  exact PyProof.Rows.callWith_type1 (thn (ha pos pins s σ H _ I h) fun us s1 ⟨vs, H1, I1, r1, q1⟩ => hc pins s1 σ H1 vs us Q I1 r1 q1) he hpl
end
end L2

namespace HT
open PySem PyProof.Rows

section
open PySem.SeqAt
open PySem.AutoSeq1 (wpAny_loadPart')
open PySem.MeetsSeq PySem.MeetsSeq2 PySem.MeetsSeq3

end

section
variable {prog : Program} {w : World} {A : Around} {E : Value → Shared → Prop} {s : Shared}

/-- t + u, t not empty -/
theorem cat_tup {t b : Addr} {vs ws : List Value} {Q : Value → Shared → Prop} (ht : IsTup s.heap t vs.toArray) (hb : IsTup s.heap b ws.toArray) (hv : vs ≠ [])
    (h1 : ws = [] → Q (.ref t) s) (h2 : ws ≠ [] → Q (.ref s.heap.objs.size) { s with heap := s.heap.push { cls := .type "tuple", data := .seq (vs ++ ws).toArray } })
    (hsz : vs.length + ws.length ≤ sizeLine) : wpAny (model prog w) A (binaryOp .Add (.ref t) (.ref b)) Q E s := by
  obtain ⟨⟨cls, dd, data, sl⟩, ho, hc, n, hd⟩ := id ht
  obtain ⟨⟨cls2, dd2, data2, sl2⟩, ho2, hc2, n2, hd2⟩ := id hb
  simp only at hc hd hc2 hd2
  subst hc hd hc2 hd2
  have e : vs.toArray ++ ws.toArray = (vs ++ ws).toArray := by simp
  by_cases hw : ws = []
  · exact concat_meets ⟨_, ho, rfl⟩ ⟨_, ho2, rfl⟩ noFill_tuple_add seq_tuple_add PySem.F.slot_tuple_add PySem.F.entry_tuple_add (PySem.F.args_tuple_add_2 _ _)
      (tuple_addW1 t b vs.toArray ws.toArray n n2 dd dd2 sl sl2 (by simpa using hv) (by simp [hw])) ⟨ho, ho2, h1 hw⟩
  · refine concat_meets ⟨_, ho, rfl⟩ ⟨_, ho2, rfl⟩ noFill_tuple_add seq_tuple_add PySem.F.slot_tuple_add PySem.F.entry_tuple_add (PySem.F.args_tuple_add_2 _ _)
      (tuple_addW2 t b vs.toArray ws.toArray n n2 dd dd2 sl sl2 (by simpa using hv) (by simpa using hw) (by rw [List.size_toArray, List.size_toArray]; exact hsz)) ⟨ho, ho2, ?_⟩
    rw [e]
    exact h2 hw

end
end HT

namespace L2
open PySem PySem.Spec PyProof.Rows

abbrev TO := St → Hp → (Option Int → Hp → Prop) → Prop
/-- a slice's part (left out, or an int) -/
def PO (X : Cx) (e : Option Expr) (t : TO) : Prop :=
  ∀ (pins : List (Addr × Obj)) (s : Shared) (σ : St) (H : Hp) (Q : Option Int → Hp → Prop), Inv X pins σ H s → t σ H Q →
    wpAny (model X.prog X.w) X.A (evalPart e X.env) (fun u s' => ∃ o H', Inv X pins σ H' s' ∧ IsPart u o ∧ Q o H') X.xe s
def tNoPart : TO := fun _ H Q => Q none H
def tPart (t : TE) : TO := fun σ H Q => t σ H fun x H1 => ∃ i, x = .int i ∧ Q (some i) H1

theorem intsAre_of {ns : List Int} : ∀ {us : List Value}, Vals (ns.map V.int) us → IntsAre us ns := by
  induction ns with
  | nil => intro us r; rw [List.map_nil] at r; cases r; exact .nil
  | cons n ns ih =>
    intro us r
    rw [List.map_cons] at r
    cases r with
    | cons r1 r2 =>
      obtain ⟨t, e⟩ := r1
      subst e
      exact .cons n t (ih r2)

section
variable {X : Cx} {e : Expr} {te : TE} {lo hi : Option Expr} {tl th : TO} {pos p2 : Pos}

theorem po_none : PO X none tNoPart := by
  intro pins s σ H Q I h
  rw [evalPart_none]
  exact wpAny_pure ⟨none, H, I, .none, h⟩
theorem po_some (h : PE X e te) : PO X (some e) (tPart te) := by
  intro pins s σ H Q I hw
  rw [evalPart_some]
  refine thn (h pins s σ H _ I hw) fun u s1 ⟨x, H1, I1, r1, q1⟩ => ?_
  obtain ⟨i, rfl, q⟩ := q1
  obtain ⟨t, rfl⟩ := r1
  exact ⟨some i, H1, I1, .int i t, q⟩

/-- t + u, t not empty: u empty gives t itself -/
def rCatT (K : PySem.W.Frag) : R2 := fun x y H Q => ∃ a b xs ys, x = .ref a ∧ y = .ref b ∧ SqT K H a xs ∧ SqT K H b ys ∧ xs ≠ [] ∧ xs.length + ys.length ≤ sizeLine ∧
  (ys = [] → Q (.ref a) H) ∧ (ys ≠ [] → ∀ p, H p = none → Q (.ref p) (upd H p (.tup (xs ++ ys))))
theorem Vals.nil_iff {xs : List V} {us : List Value} (r : Vals xs us) : us = [] ↔ xs = [] := by
  cases r with
  | nil => simp
  | cons _ _ => simp
theorem op_catT : OpR X (binaryOp .Add) (rCatT X.K) := by
  intro pins s σ H x y v u Q I rx ry h
  obtain ⟨a, b, xs, ys, rfl, rfl, ha, hb, hx, hz, q1, q2⟩ := h
  cases rx
  cases ry
  obtain ⟨its, r1, p1, _⟩ := I.tuple ha
  obtain ⟨its2, r2, p2, _⟩ := I.tuple hb
  refine HT.cat_tup p1 p2 (fun z => hx (r1.nil_iff.mp z)) (fun z => ⟨.ref a, H, I, rfl, q1 (r2.nil_iff.mp z)⟩) (fun z => ?_) (by rw [← r1.length, ← r2.length]; exact hz)
  refine ⟨.ref s.heap.objs.size, _, I.laid (t' := s.toks) (o := .tup (xs ++ ys)) (fun b ob q => Heap.get?_push_of_some _ q) (Nat.le_refl _) ?_, rfl, q2 (fun w => z (r2.nil_iff.mpr w)) _ (I.hok.fresh (Nat.le_refl _))⟩
  exact ⟨⟨by rw [List.length_append]; exact hz, ⟨_, Heap.get?_push_size _ rfl, rfl⟩⟩, _, r1.append r2, IsTup.new _ _⟩
end
end L2

namespace L2
open PySem PySem.Spec PyProof.Rows

/-- the place that an index of any sign means -/
def ixN (n : Nat) (i : Int) : Option Nat := if 0 ≤ i then (if i < n then some i.toNat else none) else if -(n : Int) ≤ i then some (i + n).toNat else none
def atI {α : Type} (xs : List α) (i : Int) : Option α := (ixN xs.length i).bind fun j => xs[j]?
theorem ixN_seq {n : Nat} {i : Int} {j : Nat} (h : ixN n i = some j) : seqIndex? i n = some j ∧ j < n ∧ -(n : Int) ≤ i ∧ i < n := by
  unfold ixN at h
  by_cases h0 : 0 ≤ i
  · rw [if_pos h0] at h
    by_cases h1 : i < n
    · rw [if_pos h1] at h
      have e : i.toNat = j := Option.some.inj h
      exact ⟨by rw [seqIndex_of h0 h1, e], by omega, by omega, h1⟩
    · rw [if_neg h1] at h; cases h
  · rw [if_neg h0] at h
    by_cases h1 : -(n : Int) ≤ i
    · rw [if_pos h1] at h
      have e : (i + n).toNat = j := Option.some.inj h
      exact ⟨by rw [seqIndex_neg (by omega) h1, e], by omega, h1, by omega⟩
    · rw [if_neg h1] at h; cases h
theorem atI_get {α : Type} {xs : List α} {i : Int} {v : α} (h : atI xs i = some v) : ∃ j, seqIndex? i xs.length = some j ∧ xs[j]? = some v ∧ j < xs.length ∧ -(xs.length : Int) ≤ i ∧ i < xs.length := by
  unfold atI at h
  cases e : ixN xs.length i with
  | none => rw [e] at h; cases h
  | some j =>
    rw [e] at h
    obtain ⟨h1, h2, h3, h4⟩ := ixN_seq e
    exact ⟨j, h1, h, h2, h3, h4⟩

/-- what stands as an index of a plain subscript -/
def PlainIx (b : Expr) : Prop := ∀ o i, subscripted b false o i = operate [o, i] (getItem o i)
/-- a subscript by values -/
def IxR (X : Cx) (r : R2) : Prop :=
  ∀ (value slice : Expr) (pins : List (Addr × Obj)) (s : Shared) (σ : St) (H : Hp) (x y : V) (v u : Value) (Q : VK), Inv X pins σ H s → RelV x v → RelV y u → r x y H Q →
    subscripted slice false v u = operate [v, u] (getItem v u) → wpAny (model X.prog X.w) X.A (subscriptTail value slice v u) (EP X pins σ Q) X.xe s
/-- a call of a builtin's method by values: the receiver, the arguments -/
def MtR (X : Cx) (id : String) (r : V → List V → Hp → VK → Prop) : Prop :=
  ∀ (pins : List (Addr × Obj)) (s : Shared) (σ : St) (H : Hp) (x : V) (xs : List V) (v : Value) (us : List Value) (Q : VK), Inv X pins σ H s → RelV x v → Vals xs us → r x xs H Q →
    wpAny (model X.prog X.w) X.A (call (.builtin id) (v :: us)) (EP X pins σ Q) X.xe s
section
variable {X : Cx} {a b : Expr} {ta tb : TE} {pos : Pos}
theorem IxR.or {r r' : R2} (h : IxR X r) (h' : IxR X r') : IxR X (fun x y H Q => r x y H Q ∨ r' x y H Q) := by
  intro value slice pins s σ H x y v u Q I rx ry q hs
  rcases q with q | q
  · exact h value slice pins s σ H x y v u Q I rx ry q hs
  · exact h' value slice pins s σ H x y v u Q I rx ry q hs
/-- a[b] -/
theorem pe_ix {r : R2} (hr : IxR X r) (ha : PE X a ta) (hb : PE X b tb) (hs : PlainIx b) : PE X (.Subscript a b pos) (tOp r ta tb) := by
  intro pins s σ H Q I h
  exact Subscript_ (binT ha hb I h fun v u s2 x y H2 I2 rx ry q => hr a b pins s2 σ H2 x y v u Q I2 rx ry q (hs _ _))

def rIxL (K : PySem.W.Frag) : R2 := fun x y H Q => ∃ p xs i v, x = .ref p ∧ y = .int i ∧ SqL K H p xs ∧ atI xs i = some v ∧ Q v H
def rIxT (K : PySem.W.Frag) : R2 := fun x y H Q => ∃ p xs i v, x = .ref p ∧ y = .int i ∧ SqT K H p xs ∧ atI xs i = some v ∧ Q v H
def rIxS : R2 := fun x y H Q => ∃ z i c, x = .str z ∧ y = .int i ∧ z.length ≤ sizeLine ∧ atI z.cps.toList i = some c ∧ Q (.str ⟨#[c]⟩) H
theorem ix_list : IxR X (rIxL X.K) := by
  intro value slice pins s σ H x y v u Q I rx ry h hs
  obtain ⟨p, xs, i, z, rfl, rfl, hq, he, q⟩ := h
  cases rx
  obtain ⟨t, rfl⟩ := ry
  obtain ⟨its, r, pl, hz⟩ := I.list hq
  obtain ⟨j, h1, h2, h3, h4, h5⟩ := atI_get he
  obtain ⟨w, ew, rw'⟩ := r.get h2
  have hl := r.length
  have hn := line63
  have fin : EP X pins σ Q w s := ⟨z, H, I, rw', q⟩
  by_cases h0 : 0 ≤ i
  · have hj : i.toNat = j := by
      rw [seqIndex_of h0 h5] at h1
      exact Option.some.inj h1
    exact item_listR pl.isList h0 (by omega) (by rw [hj]; simpa using ew) fin hs
  · have hj : (i + (its.toArray.size : Int)).toNat = j := by
      rw [seqIndex_neg (by omega) h4] at h1
      rw [List.size_toArray, ← hl]
      exact Option.some.inj h1
    exact subscriptTail_builtinR (x := w) pl.isList.typeIs slot_list_getitem.lookup
      (wpAny_getItem_list_neg (Q := fun r s' => r = w ∧ EP X pins σ Q r s') pl.isList (by omega) (by rw [List.size_toArray] <;> omega) (by omega) (by rw [hj]; simpa using ew) ⟨rfl, fin⟩) hs
theorem ix_tup : IxR X (rIxT X.K) := by
  intro value slice pins s σ H x y v u Q I rx ry h hs
  obtain ⟨p, xs, i, z, rfl, rfl, hq, he, q⟩ := h
  cases rx
  obtain ⟨t, rfl⟩ := ry
  obtain ⟨its, r, pl, hz⟩ := I.tuple hq
  obtain ⟨j, h1, h2, h3, h4, h5⟩ := atI_get he
  obtain ⟨w, ew, rw'⟩ := r.get h2
  have hl := r.length
  have hn := line63
  have fin : EP X pins σ Q w s := ⟨z, H, I, rw', q⟩
  exact subscriptTail_builtinR (x := w) pl.typeIs slot_tuple_getitem.lookup
    (getItem_tuple (j := j) (Q := fun r s' => r = w ∧ EP X pins σ Q r s') pl (by omega) (by omega) (by rw [List.size_toArray, ← hl]; exact h1) (by simpa using ew) ⟨rfl, fin⟩) hs
theorem ix_str : IxR X rIxS := by
  intro value slice pins s σ H x y v u Q I rx ry h hs
  obtain ⟨z, i, c, rfl, rfl, hz, he, q⟩ := h
  obtain ⟨t, rfl⟩ := rx
  obtain ⟨t', rfl⟩ := ry
  obtain ⟨j, h1, h2, h3, h4, h5⟩ := atI_get he
  have hl : z.cps.toList.length = z.length := by simp [Str.length]
  rw [hl] at h1 h4 h5
  have hn := line63
  exact tail_any (typeIs_str s z t) slot_str_getitem.lookup (getItem_str (c := c) (by
    have e1 : decide (i < -(2 ^ 63 : Int)) = false := decide_eq_false (by omega)
    have e2 : decide (i ≥ 2 ^ 63) = false := decide_eq_false (by omega)
    rw [e1, e2, Bool.or_false]) (by rw [h1]; simpa using h2) ⟨.str ⟨#[c]⟩, H, I.tok _, ⟨_, rfl⟩, q⟩) hs
/-- list, tuple or str -/
def rIx (K : PySem.W.Frag) : R2 := fun x y H Q => rIxL K x y H Q ∨ rIxT K x y H Q ∨ rIxS x y H Q
theorem ix_seq : IxR X (rIx X.K) := ix_list.or (ix_tup.or ix_str)

theorem call_len_seq : CallR X (.builtin "len") (fun xs H Q => ∃ p ys, xs = [.ref p] ∧ (SqL X.K H p ys ∨ SqT X.K H p ys) ∧ Q (.int ys.length) H) := by
  intro pins s σ H xs us Q I r h
  obtain ⟨p, ys, rfl, hq, q⟩ := h
  obtain ⟨u, rfl, rx⟩ := vals1 r
  cases rx
  have hn := line63
  rcases hq with hq | hq
  · obtain ⟨its, r', pl, hz⟩ := I.list hq
    have hlen := r'.length
    exact Calls.call_len_list pl.isList (by simp only [List.size_toArray] <;> omega) ⟨.int ys.length, H, I.tok _, ⟨s.toks + 1, by rw [List.size_toArray, hlen]⟩, q⟩
  · obtain ⟨its, r', pl, hz⟩ := I.tuple hq
    have hlen := r'.length
    exact len_tuple pl (by simp only [List.size_toArray] <;> omega) ⟨.int ys.length, H, I.tok _, ⟨s.toks + 1, by rw [List.size_toArray, hlen]⟩, q⟩
theorem call_len_str : CallR X (.builtin "len") (fun xs H Q => ∃ z, xs = [.str z] ∧ z.length ≤ sizeLine ∧ Q (.int z.length) H) := by
  intro pins s σ H xs us Q I r h
  obtain ⟨z, rfl, hz, q⟩ := h
  obtain ⟨u, rfl, t, rfl⟩ := vals1 r
  have hn := line63
  exact len_str (by omega) ⟨.int z.length, H, I.tok _, ⟨_, rfl⟩, q⟩
theorem CallR.or {f : Value} {r r' : List V → Hp → VK → Prop} (h : CallR X f r) (h' : CallR X f r') : CallR X f (fun xs H Q => r xs H Q ∨ r' xs H Q) := by
  intro pins s σ H xs us Q I rs q
  rcases q with q | q
  · exact h pins s σ H xs us Q I rs q
  · exact h' pins s σ H xs us Q I rs q
theorem call_list_of : CallR X (.type "list") (fun xs H Q => ∃ p ys, xs = [.ref p] ∧ (SqL X.K H p ys ∨ SqT X.K H p ys) ∧ ∀ l, H l = none → Q (.ref l) (upd H l (.lst ys))) := by
  intro pins s σ H xs us Q I r h
  obtain ⟨p, ys, rfl, hq, q⟩ := h
  obtain ⟨u, rfl, rx⟩ := vals1 r
  cases rx
  have fin : ∀ (its : List Value), Vals ys its → ys.length ≤ sizeLine → ∀ (h' : Heap) (c' : Nat), (∀ b o', s.heap.get? b = some o' → h'.get? b = some o') →
      h'.get? s.heap.objs.size = some { cls := .type "list", dict := none, data := .seq its.toArray c', slots := #[] } → EP X pins σ Q (.ref s.heap.objs.size) { s with heap := h' } := fun its r' hz h' c' kp e =>
    ⟨.ref s.heap.objs.size, _, I.laid (t' := s.toks) kp (Nat.le_refl _) (show ObjOk X.prog X.w _ h' _ (.lst ys) from ⟨hz, its, c', r', e⟩), rfl, q _ (I.hok.fresh (Nat.le_refl _))⟩
  rcases hq with hq | hq
  · obtain ⟨its, r', pl, hz⟩ := I.list hq
    have hlen := r'.length
    obtain ⟨o, ho, hc, n, hd⟩ := pl.isList
    exact call_list_seq p (.inl rfl) ho hc hd (fun h' c' kp e => fin its r' hz h' c' kp e) (by simp only [List.size_toArray] <;> omega)
  · obtain ⟨its, r', pl, hz⟩ := I.tuple hq
    have hlen := r'.length
    obtain ⟨o, ho, hc, n, hd⟩ := pl
    exact call_list_seq p (.inr rfl) ho hc hd (fun h' c' kp e => fin its r' hz h' c' kp e) (by simp only [List.size_toArray] <;> omega)
theorem call_tuple_of : CallR X (.type "tuple") (fun xs H Q => ∃ p ys, xs = [.ref p] ∧ ((SqL X.K H p ys ∧ ∀ l, H l = none → Q (.ref l) (upd H l (.tup ys))) ∨ (SqT X.K H p ys ∧ Q (.ref p) H))) := by
  intro pins s σ H xs us Q I r h
  obtain ⟨p, ys, rfl, h⟩ := h
  obtain ⟨u, rfl, rx⟩ := vals1 r
  cases rx
  rcases h with ⟨hq, q⟩ | ⟨hq, q⟩
  · obtain ⟨its, r', pl, hz⟩ := I.list hq
    have hlen := r'.length
    refine call_tuple_list pl.isList (fun h' kp => ?_) (by simp only [List.size_toArray] <;> omega)
    have I1 : Inv X pins σ H { s with heap := h' } := I.kept (t' := s.toks) kp
    have I2 : Inv X pins σ (upd H h'.objs.size (.tup ys)) { s with heap := h'.push { cls := .type "tuple", data := .seq its.toArray } } :=
      I1.laid (t' := s.toks) (fun b o e => Heap.get?_push_of_some _ e) (Nat.le_refl _) (show ObjOk X.prog X.w _ _ _ (.tup ys) from ⟨⟨hz, ⟨_, Heap.get?_push_size _ rfl, rfl⟩⟩, its, r', IsTup.new _ _⟩)
    exact ⟨.ref h'.objs.size, _, I2, rfl, q _ (I1.hok.fresh (Nat.le_refl _))⟩
  · obtain ⟨its, r', pl, hz⟩ := I.tuple hq
    exact call_tuple_same pl ⟨.ref p, H, I, rfl, q⟩

/-- the value is of that builtin type -/
def tyV (K : PySem.W.Frag) (T : String) (x : V) (H : Hp) : Prop := match x with
  | .str _ => T = "str"
  | .int _ => T = "int"
  | .ref p => (T = "list" ∧ ∃ xs, SqL K H p xs) ∨ (T = "tuple" ∧ ∃ o, K.lookup p = some o ∧ o.cls = .type "tuple" ∧ o.dict = none) ∨
      (T = "dict" ∧ ((∃ kvs, H p = some (.dK kvs)) ∨ ∃ kvs, H p = some (.dT kvs))) ∨ (T = "set" ∧ ∃ S n, H p = some (.set S n))
  | _ => False
theorem tyV_is {pins : List (Addr × Obj)} {σ : St} {H : Hp} {s : Shared} {T : String} {x : V} {v : Value} (I : Inv X pins σ H s) (r : RelV x v) (ty : tyV X.K T x H) :
    s.TypeIs v T ∧ ∀ a, v = .ref a → ∃ ob, s.heap.get? a = some ob ∧ ob.dict = none := by
  cases x with
  | str z =>
    obtain ⟨t, rfl⟩ := r
    cases (show T = "str" from ty)
    exact ⟨typeIs_str s z t, fun _ e => nomatch e⟩
  | int i =>
    obtain ⟨t, rfl⟩ := r
    cases (show T = "int" from ty)
    exact ⟨typeIs_int s i t, fun _ e => nomatch e⟩
  | ref p =>
    cases r
    rcases ty with ⟨rfl, xs, hq⟩ | ⟨rfl, o, hk, hc, hd⟩ | ⟨rfl, hk⟩ | ⟨rfl, S, n, hk⟩
    · obtain ⟨its, _, pl, _⟩ := I.list hq
      refine ⟨pl.isList.typeIs, fun a e => ?_⟩
      cases e
      obtain ⟨o, n, e, c, hd, _⟩ := pl
      exact ⟨o, e, hd⟩
    · refine ⟨⟨o, I.kIn p o hk, hc⟩, fun a e => ?_⟩
      cases e
      exact ⟨o, I.kIn _ o hk, hd⟩
    · have z : ∃ o, s.heap.get? p = some o ∧ o.ExactDict := by
        rcases hk with ⟨kvs, hk⟩ | ⟨kvs, hk⟩
        · obtain ⟨_, _, _, _, o, _, _, e, ex, _⟩ := I.hok p _ hk
          exact ⟨o, e, ex⟩
        · obtain ⟨_, _, _, _, o, _, _, e, ex, _⟩ := I.hok p _ hk
          exact ⟨o, e, ex⟩
      obtain ⟨o, e, ex⟩ := z
      refine ⟨⟨o, e, ex.1⟩, fun a e2 => ?_⟩
      cases e2
      exact ⟨o, e, ex.2.1⟩
    · obtain ⟨o, _, _, _, e, ex, _⟩ := I.hok p _ hk
      refine ⟨⟨o, e, ex.1⟩, fun a e2 => ?_⟩
      cases e2
      exact ⟨o, e, ex.2.1⟩
  | _ => exact False.elim ty
def tBM0 (K : PySem.W.Frag) (T : String) (r : V → List V → Hp → VK → Prop) (to : TE) : TE := fun σ H Q => to σ H fun x H1 => tyV K T x H1 ∧ r x [] H1 Q
def tBM (K : PySem.W.Frag) (T : String) (r : V → List V → Hp → VK → Prop) (to : TE) (t : TA) : TE := fun σ H Q => to σ H fun x H1 => tyV K T x H1 ∧ t σ H1 fun xs H2 => r x xs H2 Q
variable {o e : Expr} {es : List Expr} {to : TE} {t : TA} {name : Str} {apos cpos : Pos} {T id : String} {r : V → List V → Hp → VK → Prop}
theorem pe_bm0 (pa : PlainAttrs T) (slot : Slot T name id) (hty : typeOf (.builtin id) = pure (.type "method_descriptor")) (hm : MtR X id r) (ho : PE X o to)
    (hbase : attributeBase o name X.env (eval o X.env) = eval o X.env := by rfl) (hline : (apos.endLine == cpos.line) = true := by rfl) : PE X (.Call (.Attribute o name apos) [] [] cpos) (tBM0 X.K T r to) := by
  intro pins s σ H Q I h
  refine wpAny_Call_method0_late hbase hline (thn (ho pins s σ H _ I h) fun v s1 ⟨x, H1, I1, r1, ty, q1⟩ => ?_)
  obtain ⟨h1, h2⟩ := tyV_is I1 r1 ty
  exact ⟨T, id, pa, slot, hty, h1, h2, Calls.callWith_builtin rfl (PySem.evalArgs_none (hm pins s1 σ H1 x [] v [] Q I1 r1 .nil q1))⟩
theorem pe_bm (pa : PlainAttrs T) (slot : Slot T name id) (hty : typeOf (.builtin id) = pure (.type "method_descriptor")) (hm : MtR X id r) (ho : PE X o to) (ha : PA X (e :: es) t)
    (hbase : attributeBase o name X.env (eval o X.env) = eval o X.env := by rfl)
    (hfew : ((backTo cpos (starEach (e :: es) X.env)).all (fun x => !x.1) && (backToKw cpos (keywordEach [] X.env)).all (fun x => x.1.isSome)
      && decide ((e :: es).length + ([] : List Keyword).length + (if ([] : List Keyword).isEmpty then 0 else 1) < 30)) = true := by rfl)
    (hline : (apos.endLine == cpos.line) = true := by rfl) (hs : starEach (e :: es) X.env = (false, eval e X.env) :: starEach es X.env := by rfl) (hplain : (backTo cpos (starEach es X.env)).any (·.1) = false := by rfl) :
    PE X (.Call (.Attribute o name apos) (e :: es) [] cpos) (tBM X.K T r to t) := by
  intro pins s σ H Q I h
  refine wpAny_Call_method_late hbase hfew hline rfl (thn (ho pins s σ H _ I h) fun v s1 ⟨x, H1, I1, r1, ty, q1⟩ => ?_)
  obtain ⟨h1, h2⟩ := tyV_is I1 r1 ty
  refine ⟨T, id, pa, slot, hty, h1, h2, ?_⟩
  have hA := ha cpos pins s1 σ H1 _ I1 q1
  rw [hs] at hA ⊢
  refine Calls.callWith_builtin (by show (false || (backTo cpos (starEach es X.env)).any (·.1)) = false; rw [hplain] <;> rfl) (Calls.evalArgs_plain ?_)
  exact thn hA fun us s2 ⟨vs, H2, I2, r2, q2⟩ => hm pins s2 σ H2 x vs v us Q I2 r1 r2 q2
end
end L2

namespace L2
open PySem PySem.Spec PyProof.Rows

def MtM (X : Cx) (id : String) (r : V → List V → Hp → VK → Prop) : Prop :=
  ∀ (pins : List (Addr × Obj)) (s : Shared) (σ : St) (H : Hp) (x : V) (xs : List V) (v : Value) (us : List Value) (Q : VK), Inv X pins σ H s → RelV x v → Vals xs us → r x xs H Q →
    wpAny (model X.prog X.w) X.A (call (.builtin id) (v :: us)) (EP X pins σ Q) X.xe s

theorem Vals.one : ∀ {x : V} {us : List Value}, Vals [x] us → ∃ u, us = [u] ∧ RelV x u
  | _, _, .cons r .nil => ⟨_, rfl, r⟩
theorem Vals.zero : ∀ {us : List Value}, Vals [] us → us = []
  | _, .nil => rfl

section
variable {X : Cx} {pins : List (Addr × Obj)} {σ : St} {H : Hp} {s : Shared} {l b : Addr} {xs ys zs : List V}

theorem Inv.lset {its its' : List Value} {n : Nat} {f : Array Value → Array Value} {t' : Nat} (I : Inv X pins σ H s) (hH : H l = some (.lst xs))
    (e : s.heap.get? l = some { cls := .type "list", data := .seq its.toArray n }) (hf : f its.toArray = its'.toArray) (hv : Vals ys its') (hz : ys.length ≤ sizeLine) :
    Inv X pins σ (upd H l (.lst ys)) { s with heap := s.heap.update l (Obj.mapSeq f), toks := t' } := by
  have q := PySem.IsL.update e f
  rw [hf] at q
  refine I.write (x := l) (e := l) (by rw [hH]; exact trivial) (.inl rfl) (fun b' u hb hu => (Heap.get?_update_other s.heap (Obj.mapSeq f) (Ne.symm hb)).trans hu) ⟨_, q⟩ ?_
  exact ⟨hz, its', _, hv, q⟩
theorem Inv.lnew {its : List Value} {t' : Nat} (I : Inv X pins σ H s) (hv : Vals ys its) (hz : ys.length ≤ sizeLine) :
    Inv X pins σ (upd H s.heap.objs.size (.lst ys)) { s with heap := s.heap.push { cls := .type "list", data := .seq its.toArray }, toks := t' } :=
  I.laid (fun _ _ q => Heap.get?_push_of_some _ q) (Nat.le_refl _) ⟨hz, its, 0, hv, Heap.get?_push_size _ rfl⟩
theorem Inv.fresh (I : Inv X pins σ H s) : H s.heap.objs.size = none := I.hok.fresh (Nat.le_refl _)
theorem Inv.lstM (I : Inv X pins σ H s) (hH : H l = some (.lst xs)) : xs.length ≤ sizeLine ∧ ∃ (its : List Value) (n : Nat), Vals xs its ∧ xs.length = its.length ∧ s.heap.get? l = some { cls := .type "list", data := .seq its.toArray n } := by
  obtain ⟨z, its, n, r, e⟩ := I.hok l _ hH
  exact ⟨z, its, n, r, r.length, e⟩

end

section
variable {X : Cx}

def rAppend : V → List V → Hp → VK → Prop := fun x vs H Q => ∃ l xs y, x = .ref l ∧ vs = [y] ∧ H l = some (.lst xs) ∧ xs.length < sizeLine ∧ Q .non (upd H l (.lst (xs ++ [y])))
theorem mt_append : MtM X "list.append" rAppend := by
  intro pins s σ H x vs v us Q I rx rv h
  obtain ⟨l, xs, y, rfl, rfl, hH, hz, q⟩ := h
  cases rx
  obtain ⟨u, rfl, ru⟩ := rv.one
  obtain ⟨z, its, n, r, hl, e⟩ := I.lstM hH
  refine call_meets F.slot_list_append ⟨_, e, rfl⟩ F.entry_list_append (F.args_list_append_2 _ _) (PySem.list_append l its.toArray n u (by rw [List.size_toArray]; omega)) ⟨e, ?_⟩
  refine ⟨.non, _, I.lset (its' := its ++ [u]) hH e (by simp) (r.append (.cons ru .nil)) ?_, rfl, q⟩
  rw [List.length_append, List.length_singleton]
  omega

end

section
variable {prog : Program} {w : World} {A : Around} {E : Value → Shared → Prop} {s : Shared}
set_option maxRecDepth 100000 in
end

section
variable {X : Cx}
end
end L2

namespace L2
open PySem PySem.Spec PyProof.Rows

section
variable {κ : Type} [DecidableEq κ]
def valV (kvs : List (κ × V)) (k : κ) : Option V := (kvs.find? fun kv => decide (kv.1 = k)).map (·.2)
/-- in its place, or at the end -/
def putK (kvs : List (κ × V)) (k : κ) (v : V) : List (κ × V) :=
  if (kvs.any fun kv => decide (kv.1 = k)) = true then kvs.map (fun kv => if kv.1 = k then (kv.1, v) else kv) else kvs ++ [(k, v)]

theorem valV_pos {p : κ × V} {r : List (κ × V)} {k : κ} (e : p.1 = k) : valV (p :: r) k = some p.2 := by simp [valV, List.find?_cons, e]
theorem valV_neg {p : κ × V} {r : List (κ × V)} {k : κ} (e : ¬ p.1 = k) : valV (p :: r) k = valV r k := by simp [valV, List.find?_cons, e]
theorem valV_any (k : κ) : ∀ kvs : List (κ × V), (kvs.any fun kv => decide (kv.1 = k)) = (valV kvs k).isSome
  | [] => rfl
  | p :: r => by
    rw [List.any_cons]
    by_cases e : p.1 = k
    · simp only [valV_pos e, decide_eq_true e, Bool.true_or, Option.isSome_some]
    · rw [valV_neg e, decide_eq_false e, Bool.false_or]; exact valV_any k r
theorem length_putK (kvs : List (κ × V)) (k : κ) (v : V) : (putK kvs k v).length ≤ kvs.length + 1 := by
  unfold putK
  split
  · rw [List.length_map]; omega
  · rw [List.length_append, List.length_cons, List.length_nil]; omega

theorem RelO.isSome_eq {o : Option V} {u : Option Value} (r : RelO o u) : o.isSome = u.isSome := by
  cases o with
  | none => cases u with
    | none => rfl
    | some _ => exact (show False from r).elim
  | some _ => cases u with
    | none => exact (show False from r).elim
    | some _ => rfl
theorem RelO.getD {o : Option V} {u : Option Value} {d : V} {d' : Value} (r : RelO o u) (rd : RelV d d') : RelV (o.getD d) (u.getD d') := by
  cases o with
  | none => cases u with
    | none => exact rd
    | some _ => exact (show False from r).elim
  | some _ => cases u with
    | none => exact (show False from r).elim
    | some _ => exact r

/-- raw tables of the same keys -/
theorem KV.val {kvs : List (κ × V)} {vs : List (κ × Value)} (r : KV kvs vs) (k : κ) : RelO (valV kvs k) (valueAt vs k) := by
  unfold KV at r
  induction r with
  | nil => exact True.intro
  | @cons p q ps qs h t ih =>
    obtain ⟨h1, h2⟩ := h
    by_cases e : p.1 = k
    · have e' : q.1 = k := h1.symm.trans e
      have b : valueAt (q :: qs) k = some q.2 := by simp [valueAt, List.find?_cons, e']
      rw [valV_pos e, b]; exact h2
    · have e' : ¬ q.1 = k := fun z => e (h1.trans z)
      have b : valueAt (q :: qs) k = valueAt qs k := by simp [valueAt, List.find?_cons, e']
      rw [valV_neg e, b]; exact ih
theorem KV.any {kvs : List (κ × V)} {vs : List (κ × Value)} (r : KV kvs vs) (k : κ) : (kvs.any fun kv => decide (kv.1 = k)) = vs.any fun kv => decide (kv.1 = k) := by
  unfold KV at r
  induction r with
  | nil => rfl
  | cons h t ih => rw [List.any_cons, List.any_cons, ih, h.1]
theorem KV.repl {kvs : List (κ × V)} {vs : List (κ × Value)} (r : KV kvs vs) (k : κ) {y : V} {u : Value} (ry : RelV y u) :
    KV (kvs.map fun kv => if kv.1 = k then (kv.1, y) else kv) (vs.map fun kv => if kv.1 = k then (kv.1, u) else kv) := by
  unfold KV at r ⊢
  induction r with
  | nil => exact .nil
  | @cons p q ps qs h t ih =>
    rw [List.map_cons, List.map_cons]
    refine .cons ?_ ih
    obtain ⟨h1, h2⟩ := h
    by_cases e : p.1 = k
    · rw [if_pos e, if_pos (h1.symm.trans e)]; exact ⟨h1, ry⟩
    · rw [if_neg e, if_neg (fun z => e (h1.trans z))]; exact ⟨h1, h2⟩
theorem KV.put {kvs : List (κ × V)} {vs : List (κ × Value)} (r : KV kvs vs) (k : κ) {y : V} {u : Value} (ry : RelV y u) : KV (putK kvs k y) (stored vs k u) := by
  unfold putK stored
  rw [r.any k]
  by_cases e : (vs.any fun kv => decide (kv.1 = k)) = true
  · rw [if_pos e, if_pos e]; exact r.repl k ry
  · rw [if_neg e, if_neg e]; exact Paired.snoc r ⟨rfl, ry⟩
theorem KV.length {kvs : List (κ × V)} {vs : List (κ × Value)} (r : KV kvs vs) : kvs.length = vs.length := Paired.length r
end

theorem kV_is {P : Program} {w : World} {k : Key} {u : Value} (r : RelV (kV k) u) : (mixKind P w).is k u = true := by
  cases k with
  | inl i => obtain ⟨t, e⟩ := (show ∃ t, u = Value.int i t from r); subst e; exact mixKind_int P w i t
  | inr x => obtain ⟨t, e⟩ := (show ∃ t, u = Value.str x t from r); subst e; exact mixKind_str P w x t
theorem items_are {P : Program} {w : World} : ∀ {ks : List Key} {us : List Value}, Vals (ks.map kV) us → ItemsAre (mixKind P w) ks us
  | [], _, r => by rw [List.map_nil] at r; cases r; exact .nil
  | k :: ks, _, r => by
    rw [List.map_cons] at r
    cases r with
    | cons h t => exact .cons (kV_is h) (items_are t)

/-- raw entries of a dict with tuple keys -/
abbrev KT (H : Hp) : List (List Key × V) → List (List Key × Addr × Value) → Prop := Paired fun p q => p.1 = q.1 ∧ H q.2.1 = some (.tup (p.1.map kV)) ∧ RelV p.2 q.2.2
theorem KT.val {H : Hp} {kvs : List (List Key × V)} {xs : List (List Key × Addr × Value)} (r : KT H kvs xs) (k : List Key) : RelO (valV kvs k) ((atKey xs k).map (·.2)) := by
  induction r with
  | nil => exact True.intro
  | @cons p q ps qs h t ih =>
    obtain ⟨h1, _, h2⟩ := h
    by_cases e : p.1 = k
    · have e' : q.1 = k := h1.symm.trans e
      have b : atKey (q :: qs) k = some q.2 := by simp [atKey, List.find?_cons, e']
      rw [valV_pos e, b]; exact h2
    · have e' : ¬ q.1 = k := fun z => e (h1.trans z)
      have b : atKey (q :: qs) k = atKey qs k := by simp [atKey, List.find?_cons, e']
      rw [valV_neg e, b]; exact ih
theorem KT.repl {H : Hp} {kvs : List (List Key × V)} {xs : List (List Key × Addr × Value)} (r : KT H kvs xs) (k : List Key) {y : V} {u : Value} (ry : RelV y u) :
    KT H (kvs.map fun kv => if kv.1 = k then (kv.1, y) else kv) (xs.map (putAt k u)) := by
  induction r with
  | nil => exact .nil
  | @cons p q ps qs h t ih =>
    rw [List.map_cons, List.map_cons]
    refine .cons ?_ ih
    obtain ⟨h1, h2, h3⟩ := h
    unfold putAt
    by_cases e : p.1 = k
    · rw [if_pos e, if_pos (h1.symm.trans e)]; exact ⟨h1, h2, ry⟩
    · rw [if_neg e, if_neg (fun z => e (h1.trans z))]; exact ⟨h1, h2, h3⟩
theorem KT.put {H : Hp} {kvs : List (List Key × V)} {xs : List (List Key × Addr × Value)} (r : KT H kvs xs) (k : List Key) {b : Addr} {y : V} {u : Value} (hb : H b = some (.tup (k.map kV))) (ry : RelV y u) :
    KT H (putK kvs k y) (storedH xs k b u) := by
  have e : (kvs.any fun kv => decide (kv.1 = k)) = (atKey xs k).isSome := by
    rw [valV_any, (r.val k).isSome_eq, Option.isSome_map]
  unfold putK storedH
  rw [e]
  by_cases q : (atKey xs k).isSome = true
  · rw [if_pos q, if_pos q]; exact r.repl k ry
  · rw [if_neg q, if_neg q]; exact Paired.snoc r ⟨rfl, hb, ry⟩
theorem KT.keeps {H H' : Hp} {kvs : List (List Key × V)} {xs : List (List Key × Addr × Value)} (r : KT H kvs xs) (ht : ∀ b ys, H b = some (.tup ys) → H' b = some (.tup ys)) : KT H' kvs xs :=
  Paired.mapP r fun _ _ z => ⟨z.1, ht _ _ z.2.1, z.2.2⟩

section
variable {P : Program} {w : World} {H : Hp} {h : Heap} {a : Addr}
theorem rd_of {u : HO} (ok : HOk P w H h) (e : Rd H a u) : ObjOk P w H h a u := e.ok ok
theorem dk_rd {kvs : List (Key × V)} (ok : HOk P w H h) (e : Rd H a (.dK kvs)) : kvs.length ≤ sizeLine ∧ (a == sysModules) = false ∧ ∃ vs, KV kvs vs ∧ h.DictOf (mixKind P w) a vs :=
  show ObjOk P w H h a (.dK kvs) from rd_of ok e
theorem dk_of {kvs : List (Key × V)} (ok : HOk P w H h) (e : H a = some (.dK kvs)) : kvs.length ≤ sizeLine ∧ (a == sysModules) = false ∧ ∃ vs, KV kvs vs ∧ h.DictOf (mixKind P w) a vs := dk_rd ok (.inl e)
/-- a tracked tuple of ints and texts is a key -/
theorem key_of {ks : List Key} (ok : HOk P w H h) (e : H a = some (.tup (ks.map kV))) : (tupleKind (mixKind P w)).is h ks a := by
  obtain ⟨_, its, r, o, h1, h2, n, h3⟩ := (show ObjOk P w H h a (.tup (ks.map kV)) from ok a _ e)
  exact ⟨o, its.toArray, n, h1, h2, h3, by simpa using items_are r⟩
theorem dt_rd {kvs : List (List Key × V)} (ok : HOk P w H h) (e : Rd H a (.dT kvs)) : kvs.length ≤ sizeLine ∧ (a == sysModules) = false ∧
    ∃ xs, KT H kvs xs ∧ h.DictOfH (tupleKind (mixKind P w)) a xs := by
  obtain ⟨z, y, xs, r, o, es, ep, h1, h2, h3, h4, h5⟩ := (show ObjOk P w H h a (.dT kvs) from rd_of ok e)
  refine ⟨z, y, xs, r, o, es, ep, h1, h2, h3, h4, fun x hx => ?_, h5⟩
  have all : ∀ {l : List (List Key × V)} {m : List (List Key × Addr × Value)}, KT H l m → ∀ x ∈ m, (tupleKind (mixKind P w)).is h x.1 x.2.1 := by
    intro l m q
    induction q with
    | nil => intro x hx; exact nomatch hx
    | @cons p q ps qs hq t ih =>
      intro x hx
      rcases List.mem_cons.mp hx with e | hx
      · subst e
        exact key_of ok (by rw [← hq.1]; exact hq.2.1)
      · exact ih x hx
  exact all r x hx
theorem dt_of {kvs : List (List Key × V)} (ok : HOk P w H h) (e : H a = some (.dT kvs)) : kvs.length ≤ sizeLine ∧ (a == sysModules) = false ∧
    ∃ xs, KT H kvs xs ∧ h.DictOfH (tupleKind (mixKind P w)) a xs := dt_rd ok (.inl e)
end

/-- what the dict at a holds at the key y -/
def DGet (H : Hp) (a : Addr) (y : V) (r : Option V) : Prop :=
  (∃ kvs k, Rd H a (.dK kvs) ∧ y = kV k ∧ r = valV kvs k) ∨ ∃ kvs k b, Rd H a (.dT kvs) ∧ y = .ref b ∧ H b = some (.tup (k.map kV)) ∧ r = valV kvs k
/-- the heap behind a[y] = v -/
def DPut (H : Hp) (a : Addr) (y v : V) (H' : Hp) : Prop :=
  (∃ kvs k, H a = some (.dK kvs) ∧ y = kV k ∧ kvs.length < sizeLine ∧ H' = upd H a (.dK (putK kvs k v))) ∨
  ∃ kvs k b, H a = some (.dT kvs) ∧ y = .ref b ∧ H b = some (.tup (k.map kV)) ∧ kvs.length < sizeLine ∧ H' = upd H a (.dT (putK kvs k v))
theorem DGet.k {H : Hp} {a : Addr} {kvs : List (Key × V)} {k : Key} (e : H a = some (.dK kvs)) : DGet H a (kV k) (valV kvs k) := .inl ⟨kvs, k, .inl e, rfl, rfl⟩
theorem DPut.k {H : Hp} {a : Addr} {kvs : List (Key × V)} {k : Key} {v : V} (e : H a = some (.dK kvs)) (hl : kvs.length < sizeLine) : DPut H a (kV k) v (upd H a (.dK (putK kvs k v))) := .inl ⟨kvs, k, e, rfl, hl, rfl⟩

section
variable {X : Cx} {pins : List (Addr × Obj)} {σ : St} {H : Hp} {s : Shared} {a : Addr} {y v : V} {u r : Value} {o : Option V} {A : Around} {E : Value → Shared → Prop}

theorem Inv.big (I : Inv X pins σ H s) : sysModules < s.heap.objs.size := by
  have h : mainGlobals < s.heap.objs.size := (I.mod.glob.keeps I.bk).lt
  exact Nat.lt_trans (by decide) h

/-- d[y], there -/
theorem d_getItem {Q : Value → Shared → Prop} (hu : A.units + 1 < cLine) (I : Inv X pins σ H s) (g : DGet H a y (some v)) (ry : RelV y u) (h : ∀ w' s', Inv X pins σ H s' → RelV v w' → Q w' s') :
    wpAny (model X.prog X.w) A (getItem (.ref a) u) Q E s := by
  rcases g with ⟨kvs, k, e, ey, l⟩ | ⟨kvs, k, b, e, ey, eb, l⟩
  · subst ey
    obtain ⟨z, hd, vs, rel, dd⟩ := dk_rd I.hok e
    obtain ⟨w', hw, rw'⟩ := RelO.some_of (v := v) (o := valueAt vs k) (by rw [l]; exact rel.val k)
    exact wpAny_getItem_of (kV_is ry) dd.mapOf hw (h w' _ (I.tok _) rw')
  · subst ey
    cases (show u = Value.ref b from ry)
    obtain ⟨z, hd, xs, rel, dd⟩ := dt_rd I.hok e
    obtain ⟨w', hw, rw'⟩ := RelO.some_of (v := v) (o := (atKey xs k).map (·.2)) (by rw [l]; exact rel.val k)
    obtain ⟨p, hp, hp2⟩ := Option.map_eq_some_iff.mp hw
    refine wpAny_getItem_heap (tupleKind_room_in1 hu) (key_of I.hok eb) dd hp ?_
    rw [hp2]
    exact h w' _ (I.tok _) rw'
theorem d_notIn {Q : Value → Shared → Prop} (hu : A.units + 1 < cLine) (I : Inv X pins σ H s) (g : DGet H a y o) (ry : RelV y u) (h : ∀ s', Inv X pins σ H s' → Q (.bool (!o.isSome)) s') :
    wpAny (model X.prog X.w) A (compareOp .NotIn u (.ref a)) Q E s := by
  rcases g with ⟨kvs, k, e, ey, l⟩ | ⟨kvs, k, b, e, ey, eb, l⟩
  · subst ey
    obtain ⟨z, hd, vs, rel, dd⟩ := dk_rd I.hok e
    refine wpAny_notIn_of (kV_is ry) hd dd.mapOf ?_
    rw [← (rel.val k).isSome_eq, ← l]
    exact h _ (I.tok _)
  · subst ey
    cases (show u = Value.ref b from ry)
    obtain ⟨z, hd, xs, rel, dd⟩ := dt_rd I.hok e
    refine wpAny_notIn_heap (tupleKind_room_in1 hu) (key_of I.hok eb) hd dd ?_
    have q := (rel.val k).isSome_eq
    rw [Option.isSome_map] at q
    rw [← q, ← l]
    exact h _ (I.tok _)
/-- a dict's object is replaced -/
theorem d_write {h' : Heap} {t' : Nat} {ob : HO} (I : Inv X pins σ H s) (mu : Mut (H a)) (hs : Heap.SameBut a s.heap h') (he : ∃ q, h'.get? a = some q) (new : ObjOk X.prog X.w (upd H a ob) h' a ob) :
    Inv X pins σ (upd H a ob) { s with heap := h', toks := t' } :=
  I.write (x := a) (e := a) mu (.inl rfl) (fun b q hb z => (hs.2 b hb).trans z) he new
theorem dk_new {P : Program} {w : World} {H' : Hp} {h' : Heap} {kvs : List (Key × V)} {vs : List (Key × Value)} (z : kvs.length ≤ sizeLine) (hd : (a == sysModules) = false) (rel : KV kvs vs) (dd : h'.DictOf (mixKind P w) a vs) :
    ObjOk P w H' h' a (.dK kvs) := ⟨z, hd, vs, rel, dd⟩
/-- d[y] = v -/
theorem d_setItem {H' : Hp} {Q : Unit → Shared → Prop} (hu : A.units + 1 < cLine) (I : Inv X pins σ H s) (g : DPut H a y v H') (ry : RelV y u) (rv : RelV v r) (h : ∀ s', Inv X pins σ H' s' → Q () s') :
    wpAny (model X.prog X.w) A (setItem (.ref a) u r) Q E s := by
  rcases g with ⟨kvs, k, e, ey, l, eH⟩ | ⟨kvs, k, b, e, ey, eb, l, eH⟩
  · subst ey eH
    obtain ⟨z, hd, vs, rel, dd⟩ := dk_of I.hok e
    have hz : vs.length ≤ sizeLine := by rw [← rel.length]; exact z
    have hl : (putK kvs k v).length ≤ sizeLine := by have := length_putK kvs k v; omega
    refine wpAny_setItem_pairs (hsz := hz) (kV_is ry) dd fun h' dd' hs => h _ ?_
    have he : ∃ q, h'.get? a = some q := let ⟨q, _, _, hq, _⟩ := dd'; ⟨q, hq⟩
    exact d_write I (by rw [e]; exact True.intro) hs he (dk_new hl hd (rel.put k rv) dd')
  · subst ey eH
    cases (show u = Value.ref b from ry)
    obtain ⟨z, hd, xs, rel, dd⟩ := dt_of I.hok e
    have hz : xs.length ≤ sizeLine := by rw [← Paired.length rel]; exact z
    have hl : (putK kvs k v).length ≤ sizeLine := by have := length_putK kvs k v; omega
    refine wpAny_setItem_heap (hsz := hz) (tupleKind_room_in1 hu) (key_of I.hok eb) dd fun h' dd' hs => h _ ?_
    obtain ⟨q, es, ep, hq, h2, h3, h4, _, h5⟩ := dd'
    refine d_write I (by rw [e]; exact True.intro) hs ⟨q, hq⟩ ⟨hl, hd, _, (rel.put k eb rv).keeps fun c ys ec => ?_, q, es, ep, hq, h2, h3, h4, h5⟩
    rw [upd_ne (ne_of ec e (fun z => nomatch z))]
    exact ec
end

section
variable {X : Cx} {pins : List (Addr × Obj)} {σ : St} {H : Hp} {s : Shared} {a : Addr} {kvs : List (Key × V)} {k : Key} {u : Value} {A : Around} {E : Value → Shared → Prop}
/-- len(d) -/
theorem d_len {Q : Value → Shared → Prop} (I : Inv X pins σ H s) (e : Rd H a (.dK kvs)) (h : ∀ t s', Inv X pins σ H s' → Q (.int kvs.length t) s') : wpAny (model X.prog X.w) A (call (.builtin "len") [.ref a]) Q E s := by
  obtain ⟨z, hd, vs, rel, dd⟩ := dk_rd I.hok e
  refine call_len_dict hd dd (by rw [← rel.length]; rw [sizeLine_eq] at z; omega) ?_
  rw [← rel.length]
  exact h _ _ (I.tok _)
end

/-- the element of a subscription, not a slice -/
def NoSl (i : Expr) : Prop := ∀ ov iv, subscripted i false ov iv = operate [ov, iv] (getItem ov iv)
theorem subD_of {prog : Program} {w : World} {A : Around} {E : Value → Shared → Prop} {s : Shared} {env : Env} {value slice : Expr} {pos : Pos} {T id : String} {Q : Value → Shared → Prop}
    (hl : typeLookup (.type T) "__getitem__" = pure (some (.builtin id))) (hs : NoSl slice)
    (h : wpAny (model prog w) A (eval value env) (fun o s₁ => wpAny (model prog w) A (eval slice env) (fun i s₂ => s₂.TypeIs o T ∧ wpAny (model prog w) A (getItem o i) Q E s₂) E s₁) E s) :
    wpAny (model prog w) A (eval (.Subscript value slice pos) env) Q E s := by
  refine Subscript_ (wpAny_mono h (fun o s₁ h₁ => wpAny_mono h₁ (fun i s₂ h₂ => ?_) fun _ _ x => x) fun _ _ x => x)
  obtain ⟨hT, h₂⟩ := h₂
  unfold subscriptTail
  refine wpAny_bind ?_
  rw [getitemInPython_of_ne hT.not_modules]
  refine wpAny_bind (wpAny_specialOf hT hl ?_)
  have fin : wpAny (model prog w) A (subscripted slice false o i) (fun r s₃ => wpAny (model prog w) A (letTemporaryGo value o r >>= fun _ => pure r) Q E s₃) E s₂ := by
    rw [hs o i]
    exact wpAny_operating (wpAny_mono h₂ (fun r s₃ h₃ => wpAny_bind (wpAny_letTemporaryGo (wpAny_pure h₃))) fun _ _ x => x)
  first
    | exact wpAny_pure (wpAny_bind fin)
    | exact wpAny_bind (wpAny_pure (wpAny_bind fin))
    | exact wpAny_bind fin

theorem dict_typeIs {X : Cx} {pins : List (Addr × Obj)} {σ : St} {H : Hp} {s : Shared} {a : Addr} {y : V} {o : Option V} (I : Inv X pins σ H s) (g : DGet H a y o) : s.TypeIs (.ref a) "dict" := by
  rcases g with ⟨kvs, k, e, _, _⟩ | ⟨kvs, k, b, e, _, _, _⟩
  · obtain ⟨_, _, vs, _, dd⟩ := dk_rd I.hok e
    exact dd.typeIs
  · obtain ⟨_, _, xs, _, dd⟩ := dt_rd I.hok e
    exact dd.typeIs

/-- d[y] -/
def tDGet (td ty : TE) : TE := fun σ H Q => td σ H fun x H1 => ty σ H1 fun y H2 => ∃ a v, x = .ref a ∧ DGet H2 a y (some v) ∧ Q v H2
def tDNotIn (ty td : TE) : TE := fun σ H Q => ty σ H fun y H1 => td σ H1 fun x H2 => ∃ a o, x = .ref a ∧ DGet H2 a y o ∧ Q (.bl (!o.isSome)) H2
/-- d[y] = v -/
def sDPut (td ty tv : TE) : TS := fun D σ H => tv σ H fun v H1 => td σ H1 fun x H2 => ty σ H2 fun y H3 => ∃ a H4, x = .ref a ∧ DPut H3 a y v H4 ∧ D.nx σ H4

section
variable {X : Cx} {o i e value : Expr} {pos pos' tpos : Pos} {td ty tv : TE}
theorem pe_dget (hu : X.A.units + 1 < cLine) (ho : PE X o td) (hi : PE X i ty) (hs : NoSl i) : PE X (.Subscript o i pos) (tDGet td ty) := by
  intro pins s σ H Q I h
  refine subD_of PySem.F.slot_dict_getitem.lookup hs (thn (ho pins s σ H _ I h) fun u s1 ⟨x, H1, I1, rx, q1⟩ => thn (hi pins s1 σ H1 _ I1 q1) fun iv s2 ⟨y, H2, I2, ry, a, v, ex, g, q2⟩ => ?_)
  subst ex
  obtain rfl : u = Value.ref a := rx
  exact ⟨dict_typeIs I2 g, d_getItem hu I2 g ry fun w' s3 I3 rw' => ⟨v, H2, I3, rw', q2⟩⟩
theorem pc_dnotin (hu : X.A.units + 1 < cLine) (hi : PE X i ty) (ho : PE X o td) : PC X .NotIn i o (tDNotIn ty td) := by
  intro pins s σ H Q I h
  refine thn (hi pins s σ H _ I h) fun iv s1 ⟨y, H1, I1, ry, q1⟩ => thn (ho pins s1 σ H1 _ I1 q1) fun u s2 ⟨x, H2, I2, rx, a, ov, ex, g, q2⟩ => ?_
  subst ex
  obtain rfl : u = Value.ref a := rx
  exact d_notIn hu I2 g ry fun s3 I3 => ⟨.bl (!ov.isSome), H2, I3, rfl, q2⟩
theorem ps_dput (hu : X.A.units + 1 < cLine) (ho : PE X o td) (hi : PE X i ty) (hv : PE X value tv) (hs : swapsWith value (some (.Subscript o i pos')) pos.line X.env = pure false) :
    PS X (.Assign [.Subscript o i pos'] value pos) (sDPut td ty tv) := by
  intro pins s σ H D I h
  refine wpAny_Assign_Subscript (thn (hv pins s σ H _ I h) fun r s1 ⟨v, H1, I1, rv, q1⟩ => thn (ho pins s1 σ H1 _ I1 q1) fun u s2 ⟨x, H2, I2, rx, q2⟩ => thn (hi pins s2 σ H2 _ I2 q2) fun iv s3 ⟨y, H3, I3, ry, a, H4, ex, g, q3⟩ => ?_) hs
  subst ex
  obtain rfl : u = Value.ref a := rx
  exact d_setItem hu I3 g ry rv fun s4 I4 => ⟨σ, H4, I4, q3⟩
end

theorem dk_empty {P : Program} {w : World} {H : Hp} (h : Heap) (hb : sysModules < h.objs.size) : ObjOk P w H (h.push { cls := .type "dict", data := .dict #[] }) h.objs.size (.dK []) :=
  ⟨Nat.zero_le _, beq_eq_false_iff_ne.mpr (Ne.symm (Nat.ne_of_lt hb)), [], .nil, Heap.DictOf.new h⟩
/-- {}, to be a dict of the kind that is wanted -/
def tDNewK : TE := fun _ H Q => ∀ p, H p = none → Q (.ref p) (upd H p (.dK []))
section
variable {X : Cx} {pos : Pos}
theorem pe_dnewK : PE X (.Dict [] [] pos) tDNewK := fun pins s σ H Q I h =>
  wpAny_Dict_empty ⟨.ref s.heap.objs.size, _, I.laid (a := s.heap.objs.size) (o := .dK []) (t' := s.toks) (fun _ _ q => Heap.get?_push_of_some _ q) (Nat.le_refl _) (dk_empty s.heap I.big), rfl, h _ (I.hok.fresh (Nat.le_refl _))⟩
end

/-- a method call o.m(e) of a built-in, with one argument: what must be seen of the text -/
structure M1 (X : Cx) (o : Expr) (m : Str) (apos : Pos) (e : Expr) (cpos : Pos) : Prop where
  base : attributeBase o m X.env (eval o X.env) = eval o X.env
  few : ((backTo cpos (starEach [e] X.env)).all (fun x => !x.1) && (backToKw cpos (keywordEach [] X.env)).all (fun x => x.1.isSome)
    && decide (([e] : List Expr).length + ([] : List Keyword).length + (if ([] : List Keyword).isEmpty then 0 else 1) < 30)) = true
  line : (apos.endLine == cpos.line) = true
  trees : backTo cpos (starEach [e] X.env) = [(false, eval e X.env)]

/-- a is a dict, whatever its keys -/
def IsD (H : Hp) (a : Addr) : Prop := (∃ kvs, Rd H a (.dK kvs)) ∨ ∃ kvs, Rd H a (.dT kvs)
theorem isD_at {X : Cx} {pins : List (Addr × Obj)} {σ : St} {H : Hp} {s : Shared} {a : Addr} (I : Inv X pins σ H s) (d : IsD H a) :
    s.TypeIs (.ref a) "dict" ∧ (∀ b, Value.ref a = .ref b → ∃ ob, s.heap.get? b = some ob ∧ ob.dict = none) ∧ (a == sysModules) = false := by
  rcases d with ⟨kvs, e⟩ | ⟨kvs, e⟩
  · obtain ⟨_, hd, vs, _, dd⟩ := dk_rd I.hok e
    refine ⟨dd.typeIs, fun b q => ?_, hd⟩
    cases q
    obtain ⟨ob, _, _, h1, h2, _⟩ := dd
    exact ⟨ob, h1, h2.2.1⟩
  · obtain ⟨_, hd, xs, _, dd⟩ := dt_rd I.hok e
    refine ⟨dd.typeIs, fun b q => ?_, hd⟩
    cases q
    obtain ⟨ob, _, _, h1, h2, _⟩ := dd
    exact ⟨ob, h1, h2.2.1⟩

section
variable {X : Cx} {pins : List (Addr × Obj)} {σ : St} {H : Hp} {s : Shared} {a : Addr} {y d : V} {u r : Value} {o : Option V} {A : Around} {E : Value → Shared → Prop}
/-- d.get(y) -/
theorem d_get1 {Q : Value → Shared → Prop} (hu : A.units + 1 < cLine) (I : Inv X pins σ H s) (g : DGet H a y o) (ry : RelV y u) (h : ∀ w' s', Inv X pins σ H s' → RelV (o.getD .non) w' → Q w' s') :
    wpAny (model X.prog X.w) A (call (.builtin "dict.get") [.ref a, u]) Q E s := by
  rcases g with ⟨kvs, k, e, ey, l⟩ | ⟨kvs, k, b, e, ey, eb, l⟩
  · subst ey
    obtain ⟨z, hd, vs, rel, dd⟩ := dk_rd I.hok e
    refine call_meetsIn PySem.F.slot_dict_get dd.typeIs PySem.F.entry_dict_get (PySem.F.args_dict_get_2 _ _) (meets_dict_get (mixKind X.prog X.w) a (kV_is ry) hd) ⟨_, dd.mapOf, h _ _ (I.tok _) ?_⟩
    rw [l]
    exact (rel.val k).getD rfl
  · subst ey
    cases (show u = Value.ref b from ry)
    obtain ⟨z, hd, xs, rel, dd⟩ := dt_rd I.hok e
    refine call_meetsIn PySem.F.slot_dict_get dd.typeIs PySem.F.entry_dict_get (PySem.F.args_dict_get_2 _ _) (meetsH_dict_get (tupleKind (mixKind X.prog X.w)) a b hd) ⟨tupleKind_room_in1 hu, k, xs, key_of I.hok eb, dd, h _ _ (I.tok _) ?_⟩
    rw [l]
    exact (rel.val k).getD rfl
end

def tDGet1 (td ty : TE) : TE := fun σ H Q => td σ H fun x H1 => ∃ a, x = .ref a ∧ IsD H1 a ∧ ty σ H1 fun y H2 => ∃ o, DGet H2 a y o ∧ Q (o.getD .non) H2
section
variable {X : Cx} {o e f : Expr} {apos cpos : Pos} {td ty tx : TE}
theorem pe_dget1 (hu : X.A.units + 1 < cLine) (ho : PE X o td) (he : PE X e ty) (m : M1 X o "get" apos e cpos) : PE X (.Call (.Attribute o "get" apos) [e] [] cpos) (tDGet1 td ty) := by
  intro pins s σ H Q I h
  refine wpAny_Call_method m.base m.few m.line PySem.F.plainAttrs_dict PySem.F.slot_dict_get PySem.F.type_dict_get (thn (ho pins s σ H _ I h) fun u s1 ⟨x, H1, I1, rx, a, ex, d, q1⟩ => ?_)
  subst ex
  obtain rfl : u = Value.ref a := rx
  obtain ⟨t1, t2, _⟩ := isD_at I1 d
  refine ⟨t1, t2, ?_⟩
  rw [m.trees]
  refine Calls.callWith_builtin rfl (Calls.evalArgs_plain (Calls.spliced_cons (thn (he pins s1 σ H1 _ I1 q1) fun iv s2 ⟨y, H2, I2, ry, ov, g, q2⟩ => Calls.spliced_nil ?_)))
  exact d_get1 hu I2 g ry fun w' s3 I3 rw' => ⟨_, H2, I3, rw', q2⟩
end

section
variable {X : Cx} {pins : List (Addr × Obj)} {σ : St} {H : Hp} {s : Shared} {a : Addr} {kvs : List (Key × V)} {A : Around} {E : Value → Shared → Prop}
end

section
variable {X : Cx} {pins : List (Addr × Obj)} {σ : St} {H : Hp} {s : Shared} {a : Addr} {y : V} {u : Value} {A : Around} {E : Value → Shared → Prop}
end
end L2

namespace Att
open PySem PySem.W PySem.Calls PyProof.Rows

theorem ints_of_wellAll {P : Params} {h : Heap} : ∀ (ns : List Int) (vs : List Value), WellAll P h vs (ns.map WData.int) → IntsAre vs ns := by
  intro ns
  induction ns with
  | nil =>
    intro vs w
    rw [List.map_nil] at w
    cases w
    exact .nil
  | cons n ns ih =>
    intro vs w
    rw [List.map_cons] at w
    cases w with
    | cons a b =>
      cases a
      exact .cons _ _ (ih _ b)

theorem script_of {l : OpenLaw} {n : Nat} (hn : l.most = some n) {P : Params} {h : Heap} {args : List WData} {vals : List Value}
    (hpre : l.row.toRowW.claim.pre args = true) (hwl : WellAll P h vals args) :
    ∃ a vs ns, vals = [Value.ref a] ∧ args = [WData.list (ns.map WData.int)] ∧ h.get? a = some { cls := .type "list", data := .seq vs.toArray } ∧ IntsAre vs ns ∧ ns.length ≤ n := by
  have hsh : WShape.hasAll [] args [.list .int] = true := (pre_splitW hpre).1
  have hc : l.pre.holds [] { args := args } = true := (pre_splitW hpre).2
  obtain ⟨d, r, rfl, h1, h2⟩ := hasAllW_cons hsh
  obtain rfl := hasAllW_nil h2
  obtain ⟨xs, rfl, h3⟩ := hasW_list h1
  obtain ⟨ns, rfl⟩ := items_int h3
  have hlen : ns.length ≤ n := by
    unfold OpenLaw.pre at hc
    have h4 : (WTm.not (.lt (.lit (.int (n : Int))) (.len (.arg 0)))).holds [] { args := [.list (ns.map .int)] } = true := by
      have h4 := (holds_andW hc).1
      rw [hn] at h4
      exact h4
    have h5 := condW_of h4 (w_not (w_lt w_lit (w_len_list (w_arg rfl))))
    rw [List.length_map] at h5
    refine Nat.le_of_not_lt fun q => ?_
    have q' : (n : Int) < ((ns.length : Nat) : Int) := by omega
    first
      | (rw [decide_eq_true q'] at h5; exact absurd h5 (by decide))
      | (simp at h5; omega)
  cases hwl with
  | cons w1 w2 =>
    cases w2
    cases w1 with
    | list ho hall => exact ⟨_, _, ns, rfl, rfl, ho, ints_of_wellAll ns _ hall, hlen⟩

theorem post_true (l : OpenLaw) (args : List WData) : l.row.toRowW.claim.post args (.bool true) args = true :=
  postW_of (r := l.row.toRowW) (X := (true == true))
    (show WShape.has [] (.bool true) .bool = true by first | rfl | decide | simp [WShape.has, WShape.arms, WShape.armsAll])
    (show (WTm.eq .res (.lit (.bool true))).value [] { args := args, res := some (.bool true), after := args } = some (.bool (true == true)) from w_eq_bool (w_res rfl) w_lit) rfl

/-- the same from a codeAny of the CALL (for a layer whose function contracts speak of calls) -/
theorem attach_call {l : OpenLaw} {n : Nat} {q : Program} {loose : List Str} {XP : (Str → Option Value) → Heap → Prop} {YP : World → Heap → Prop} {d : DefRec}
    (hn : l.most = some n) (hdf : d.params.defaults = [])
    (call : ∀ (w : World) (s₀ s₁ : Shared) (mg mb : Str → Option Value) (fa : Addr) (o : Obj) (pm cd doc : Value) (a : Addr) (vs : List Value) (ns : List Int),
      Ground q loose [] XP w s₀ mg mb s₁.heap → YP w s₁.heap →
      s₁.heap.get? fa = some o → o.data = .func (docDef d.name d.params d.body d.scope pm cd doc) → s₁.heap.CodeRec cd d.name → mg d.name = some (.ref fa) →
      s₁.heap.get? a = some { cls := .type "list", data := .seq vs.toArray } → IntsAre vs ns → ns.length ≤ n → s₁.gens = #[] →
      codeAny (model l.prog w) callerA (.call (.ref fa) ⟨[.ref a], []⟩) (fun r s' => r = .ok (.ret (.bool true)) ∧ OldK s₁.heap s'.heap ∧ s'.os = s₁.os ∧ AllBare s'.gens) s₁) :
    WalkO q loose XP YP l.row.toRowW d [] (fun f vs => PySem.call f vs) := by
  intro w s₀ s₁ mg mb G Y fa o pm cd doc dV kV ho hd hcd hD hmg hg args vals as hpre hlay hrd hwl hlo
  obtain rfl : dV = .none := Dflts.none hD hdf
  obtain rfl : kV = .none := Dflts.noKw hD
  obtain ⟨a, vs, ns, rfl, rfl, hobj, hints, hlen⟩ := script_of hn hpre hwl
  refine enter_call (codeAny_mono (call w s₀ s₁ mg mb fa o pm cd doc a vs ns G Y ho (fd_plain hd) hcd hmg hobj hints hlen hg) fun r s' hq => ?_)
  obtain ⟨rfl, h2, h3, h4⟩ := hq
  exact ⟨.inl ⟨.bool true, .bool true, [], rfl, fun _ => rfl, .bool true, post_true l _, fun _ => ⟨List.Pairwise.nil, fun _ hm => (nomatch hm)⟩⟩, h2, h3, h4⟩

section
variable {prog : Program} {w : World} {A : Around} {E : Value → Shared → Prop} {s : Shared} {K : Frag}

end
end Att

namespace L2
open PySem PySem.Spec PyProof.Rows

theorem vals_ints : ∀ {vs : List Value} {ns : List Int}, IntsAre vs ns → Vals (ns.map V.int) vs
  | _, _, .nil => .nil
  | _, _, .cons n t h => .cons ⟨t, rfl⟩ (vals_ints h)

/-- nothing is tracked but the script, known to the object (or it is an object of the module) -/
def Only (H : Hp) : Prop := ∀ b, H b = none ∨ ∃ o xs, H b = some (.frz o (.lst xs))

/-- THE HEAD: the law's promise, at the heap behind the top. F, the promise of the law's def, may use that base is part of the heap (so K.In base, base.Ns mainGlobals mg stand in Mod) -/
theorem law_call {P : Program} {w : World} {K : PySem.W.Frag} {mg mb : Str → Option Value} {CX : CXT} {k : Nat} {fa a : Addr} {fd : FuncData} {x : Str} {sp : Sp} {s₁ : Shared} {vs : List Value} {ns : List Int}
    (KX : K.In s₁.heap) (hns : s₁.heap.Ns mainGlobals mg) (hb : s₁.heap.Ns builtinsNs mb) (hbb : ∀ x : Str, x ≠ "__name__" → mb x = bootBuiltins x) (hlim : s₁.heap.NoLimit) (hg : s₁.gens = #[])
    (ha : s₁.heap.get? a = some { cls := .type "list", data := .seq vs.toArray }) (hi : IntsAre vs ns) (hl : ns.length ≤ sizeLine) (hr : Room k callerA)
    (F : ∀ base : Heap, K.In base → base.Ns mainGlobals mg → FnOk P w K mg base CX k fa fd [x] sp) (hbind : ∀ (s : Shared) (u : Value), BindsTo s fd ⟨[u], []⟩ [(x, u)])
    (hsp : ∀ H : Hp, Only H → SqL K H a (ns.map V.int) → sp [.ref a] H (fun v _ => v = .bl true) fun _ _ _ => False)
    (hCX : ∀ H e s', CX [] H s₁ (fun _ _ _ => False) e s' → False) :
    codeAny (model P w) callerA (.call (.ref fa) ⟨[.ref a], []⟩) (fun r s' => r = .ok (.ret (.bool true)) ∧ OldK s₁.heap s'.heap ∧ s'.os = s₁.os ∧ AllBare s'.gens) s₁ := by
  have rv := vals_ints hi
  have lenV := hi.length
  -- from an abstract heap in which nothing but the script may be tracked
  have core : ∀ H : Hp, Only H → SqL K H a (ns.map V.int) → HOk P w H s₁.heap → (∀ b, H b ≠ none → b = a) → (H a ≠ none → K.lookup a = none) →
      codeAny (model P w) callerA (.call (.ref fa) ⟨[.ref a], []⟩) (fun r s' => r = .ok (.ret (.bool true)) ∧ OldK s₁.heap s'.heap ∧ s'.os = s₁.os ∧ AllBare s'.gens) s₁ := by
    intro H hO hS hok hA hK
    have base_of : ∀ {b : Addr} {o : Obj}, s₁.heap.get? b = some o → H b = none → (hidT s₁.heap H).get? b = some o := fun e n => hidT_get e n
    have noA : ∀ {b : Addr} {o : Obj} {es : Array DictEntry} {ep : Nat}, s₁.heap.get? b = some o → o.data = .dict es ep → H b = none := fun {b o es ep} e d => by
      cases q : H b with
      | none => rfl
      | some u =>
        have e' : b = a := hA b (by rw [q]; simp)
        subst e'
        rw [ha] at e; cases e
        have d' : Data.seq vs.toArray _ = Data.dict es ep := d
        cases d'
    have nsK : ∀ {b : Addr} {m : Str → Option Value}, s₁.heap.Ns b m → (hidT s₁.heap H).Ns b m := fun {b m} ⟨o, es, ep, e, d, r⟩ => ⟨o, es, ep, base_of e (noA e d), d, r⟩
    have hKb : K.In (hidT s₁.heap H) := fun b o e => base_of (KX b o e) (by
      cases q : H b with
      | none => rfl
      | some u =>
        have e' : b = a := hA b (by rw [q]; simp)
        subst e'
        rw [hK (by rw [q]; simp)] at e; cases e)
    have hM : Mod K mg (hidT s₁.heap H) := ⟨hKb, nsK hns, ⟨mb, nsK hb, hbb⟩, let ⟨mc, h1, h2⟩ := hlim; ⟨mc, nsK h1, h2⟩⟩
    have e0 : Env0 P w K mg (hidT s₁.heap H) callerA [] s₁ H := ⟨rfl, hM, fun b o e => of_hidT e, Nat.le_of_eq (hidT_size _ _), trivial, fun b hb => absurd (show b ∈ ([] : List Addr) from hb) (by simp), hok, .of_eq hg⟩
    refine codeAny_mono ((F _ hKb (nsK hns)).run callerA [] s₁ H ⟨[.ref a], []⟩ [.ref a] [.ref a] _ _ hr e0 (hbind s₁ (.ref a)) (.cons rfl .nil) (hsp H hO hS)) fun r s' h => ?_
    cases r with
    | error e => exact (hCX H e s' h).elim
    | ok fl =>
      cases fl with
      | next => exact False.elim h
      | brk => exact False.elim h
      | cont => exact False.elim h
      | ret u =>
        obtain ⟨v, H', os, bare, un, hok', r', q⟩ := h
        have q' : v = .bl true := q
        subst q'
        obtain rfl : u = Value.bool true := r'
        refine ⟨rfl, OldK.of_keep fun b o e => ?_, os, bare⟩
        cases q : H b with
        | none => exact un.keep b o e q (by intro z; exact absurd (show b ∈ ([] : List Addr) from z) (by simp)) (by simp)
        | some u =>
          rcases hO b with z | ⟨ob, xs, z⟩
          · rw [q] at z; cases z
          · have z2 := un.frzs b ob _ z
            obtain ⟨e1, _⟩ := hok b _ z
            obtain ⟨e2, _⟩ := hok' b _ z2
            rw [e] at e1; cases e1
            exact e2
  cases hk : K.lookup a with
  | some o =>
    -- the script is one of the module's own objects
    have e := KX a o hk
    rw [ha] at e
    cases e
    refine core (fun _ => none) (fun _ => .inl rfl) (.inr ⟨_, vs.toArray, _, hk, rfl, rfl, rfl, by rw [List.size_toArray, lenV]; exact hl, by simpa using rv⟩) (fun b u z => by have z' : (none : Option HO) = some u := z; cases z') (fun b z => absurd rfl z) fun z => absurd rfl z
  | none =>
    refine core (fun b => if b = a then some (.frz { cls := .type "list", data := .seq vs.toArray } (.lst (ns.map V.int))) else none) (fun b => ?_) (.inl (.inr ⟨{ cls := .type "list", data := .seq vs.toArray }, if_pos rfl⟩)) (fun b u z => ?_) (fun b z => ?_) fun _ => hk
    · by_cases hb : b = a
      · exact .inr ⟨_, _, if_pos hb⟩
      · exact .inl (if_neg hb)
    · by_cases hb : b = a
      · have z' := (if_pos hb).symm.trans z
        cases z'
        subst hb
        exact ⟨ha, by rw [List.length_map]; exact hl, vs, _, rv, ha⟩
      · have z' := (if_neg hb).symm.trans z
        cases z'
    · by_cases hb : b = a
      · exact hb
      · exact absurd (if_neg hb) z
end L2

namespace L2
open PySem PySem.Spec PyProof.Rows

/-- the goal that k_head leaves (case hc), from the law's promise. F gives the function object fd (K's own) once, then the promise over every base -/
theorem walk_of {l : PySem.W.OpenLaw} {n k : Nat} {q : Program} {loose : List Str} {XP : (Str → Option Value) → Heap → Prop} {YP : World → Heap → Prop} {d : DefRec} {K : Params → PySem.W.Frag} {CX : World → CXT} {sp : World → Sp} {x : Str}
    (hn : l.most = some n) (hn2 : n ≤ sizeLine) (hdf : d.params.defaults = []) (hr : Room k callerA)
    (hY : ∀ (w : World) (h : Heap), YP w h → (K w.params).In h)
    (F : ∀ (w : World) (mg : Str → Option Value) (fa : Addr) (h : Heap), (K w.params).In h → h.Ns mainGlobals mg → mg d.name = some (.ref fa) →
      ∃ fd : FuncData, (∀ (s : Shared) (u : Value), BindsTo s fd ⟨[u], []⟩ [(x, u)]) ∧
        ∀ base : Heap, (K w.params).In base → base.Ns mainGlobals mg → FnOk l.prog w (K w.params) mg base (CX w) k fa fd [x] (sp w))
    (hsp : ∀ (w : World) (H : Hp) (a : Addr) (ns : List Int), ns.length ≤ n → Only H → SqL (K w.params) H a (ns.map V.int) → sp w [.ref a] H (fun v _ => v = .bl true) fun _ _ _ => False)
    (hCX : ∀ (w : World) (H : Hp) (s : Shared) (e : Value) (s' : Shared), CX w [] H s (fun _ _ _ => False) e s' → False) :
    PySem.W.WalkO q loose XP YP l.row.toRowW d [] (fun f vs => PySem.call f vs) := by
  refine Att.attach_call hn hdf fun w s₀ s₁ mg mb fa o pm cd doc a vs ns G Y ho hd hcd hmg hobj hints hlen hg => ?_
  have KX := hY w _ Y
  obtain ⟨fd, hb, hF⟩ := F w mg fa _ KX G.T.g hmg
  exact law_call KX G.T.g G.T.b G.T.builtins G.T.nolimit hg hobj hints (Nat.le_trans hlen hn2) hr hF hb (fun H hO hS => hsp w H a ns hlen hO hS) fun H e s' => hCX w H s₁ e s'
end L2

namespace L2
open PySem PySem.Spec PyProof.Rows

/-- the j-th statement of a class's body -/
def inClass (s : Stmt) (j : Nat) : Stmt := match s with
  | .ClassDef _ _ _ body _ _ _ _ _ _ _ => body.getD j (.Pass ⟨0, 0, 0, 0⟩)
  | _ => .Pass ⟨0, 0, 0, 0⟩
def defArgs (s : Stmt) : Arguments := match s with
  | .FunctionDef _ a _ _ _ _ _ _ _ _ => a
  | _ => { posonlyargs := [], args := [], vararg := none, kwonlyargs := [], kw_defaults := [], kwarg := none, defaults := [] }
def defBody (s : Stmt) : List Stmt := match s with
  | .FunctionDef _ _ b _ _ _ _ _ _ _ => b
  | _ => []
def defScope (s : Stmt) : Scope := match s with
  | .FunctionDef _ _ _ _ _ _ sc _ _ _ => sc
  | _ => { kind := .function, names := [], isGenerator := false, isCoroutine := false }

abbrev CX0 : CXT := fun _ _ _ _ _ _ => False
abbrev E0 : XK := fun _ _ _ => False
theorem pass0 {X : Cx} : Passes CX0 X E0 := fun _ _ _ _ _ _ _ h => h.elim

structure Fun (K : PySem.W.Frag) (x qual : Str) (st : Stmt) (f : Addr) (fd : FuncData) : Prop where
  ex : ∃ (oc : Value) (od : Option Addr) (kV doc pm : Value) (an : Option Addr) (cdv ct : Value) (osl : Array (Option Value)),
    fd = PySem.W.fnOf x qual (defArgs st) (defBody st) (defScope st) .none kV doc pm an cdv ct ∧ K.lookup f = some ⟨oc, od, .func fd, osl⟩ ∧ PySem.W.codeIn K cdv qual = true
  kp : PySem.W.keepIn K (.ref f) = true
section
variable {P : Program} {w : World} {K : PySem.W.Frag} {mg : Str → Option Value} {base : Heap}
/-- THE RULE for a def: its body as a term of rules, and the reading of that term -/
theorem Fun.ok {x qual : Str} {st : Stmt} {f : Addr} {fd : FuncData} {N ps : List Str} {k : Nat} {sp : Sp} (F : Fun K x qual st f fd) (S : FnScope N ps (defScope st)) (len : ∀ vs H Q E, sp vs H Q E → vs.length = ps.length)
    (hbody : ∀ (cdv : Value) (A : Around) (outer : List Env) (s : Shared) (H : Hp) (vs : List V) (Q : VK) (E : XK), Room k (A.deeper (envOfC qual (defScope st) s.heap.objs.size f cdv)) → sp vs H Q E →
      ∃ t, PSs (cxOf CX0 P w K mg base N qual (defScope st) f cdv A outer s H E).nox (defBody st) t ∧ t { nx := fun _ H' => Q .non H', rt := Q } (start N vs) H) : FnOk P w K mg base CX0 (k + 1) f fd ps sp := by
  obtain ⟨oc, od, kV, doc, pm, an, cdv, ct, osl, rfl, lk, hcd⟩ := F.ex
  refine fn_of lk hcd S len fun A outer s H vs Q E hr hsp => ?_
  obtain ⟨t, h, q⟩ := hbody cdv A outer s H vs Q E hr hsp
  exact ⟨t, h.nox, q⟩
/-- how its arguments bind (no defaults): h is «fun _ _ _ _ _ _ us hl => match us, hl with | [_, _], _ => rfl», one _ a parameter -/
theorem Fun.binds {x qual : Str} {st : Stmt} {f : Addr} {fd : FuncData} {ps : List Str} (F : Fun K x qual st f fd)
    (h : ∀ (kV doc pm : Value) (an : Option Addr) (cdv ct : Value) (us : List Value), us.length = ps.length → bindArgs (PySem.W.fnOf x qual (defArgs st) (defBody st) (defScope st) .none kV doc pm an cdv ct) ⟨us, []⟩ = pure (ps.zip us)) : Binds K fd ps [] := by
  obtain ⟨oc, od, kV, doc, pm, an, cdv, ct, osl, rfl, lk, hcd⟩ := F.ex
  exact .all (h kV doc pm an cdv ct)
theorem fun_mk {x qual : Str} {st : Stmt} {f : Addr} {oc : Value} {od an : Option Addr} {osl : Array (Option Value)} {kV doc pm cdv ct : Value} (l : K.lookup f = some ⟨oc, od, .func (PySem.W.fnOf x qual (defArgs st) (defBody st) (defScope st) .none kV doc pm an cdv ct), osl⟩)
    (c : PySem.W.codeIn K cdv qual = true) (k : PySem.W.keepIn K (.ref f) = true) : Fun K x qual st f (PySem.W.fnOf x qual (defArgs st) (defBody st) (defScope st) .none kV doc pm an cdv ct) := ⟨⟨oc, od, kV, doc, pm, an, cdv, ct, osl, rfl, l, c⟩, k⟩
end
theorem hu_of {A : Around} {k : Nat} (hr : Room k A) : A.units + 1 < cLine := Nat.lt_of_le_of_lt (Nat.add_le_add_left (by decide : 1 ≤ 64) _) hr.units
theorem small1000 {n : Nat} (h : n ≤ 1000) : n < sizeLine := Nat.lt_of_le_of_lt h (by decide)

section
variable {X : Cx}
theorem pv (i : Nat) {x : Str} {pos : Pos} (hN : X.N[i]? = some x := by rfl) (hv : Vis X.env.scope x := by first | exact Or.inl rfl | exact Or.inr (Or.inl rfl) | exact Or.inr (Or.inr rfl)) (hd : (x == ("__debug__" : Str)) = false := by decide)
    (hcd : (x == ("__classdict__" : Str)) = false := by decide) : PE X (.Name x pos) (tVar i) := pe_var hN hv hd hcd
end

/-- all that was tracked is as it was -/
def Same (H H' : Hp) : Prop := ∀ b o, H b = some o → H' b = some o
theorem Same.refl (H : Hp) : Same H H := fun _ _ h => h
theorem Same.trans {H H1 H2 : Hp} (a : Same H H1) (b : Same H1 H2) : Same H H2 := fun c o h => b c o (a c o h)
theorem Same.free {H H' : Hp} (e : Same H H') {l : Addr} (h : H' l = Option.none) : H l = Option.none := by
  cases q : H l with
  | none => rfl
  | some o =>
    rw [e l o q] at h
    cases h
theorem Same.seq {K : PySem.W.Frag} {H H' : Hp} {a : Addr} {xs : List V} (e : Same H H') (h : SqL K H a xs) : SqL K H' a xs := by
  rcases h with (h | ⟨o, h⟩) | h
  · exact .inl (.inl (e _ _ h))
  · exact .inl (.inr ⟨o, e _ _ h⟩)
  · exact .inr h

end L2

namespace L2
open PySem PySem.Spec PyProof.Rows
section
variable {X : Cx}
/-- len of a dict -/
theorem call_lenD : CallR X (.builtin "len") (fun xs H Q => ∃ a kvs, xs = [V.ref a] ∧ H a = some (.dK kvs) ∧ Q (.int kvs.length) H) := by
  intro pins s σ H xs us Q I r h
  obtain ⟨a, kvs, rfl, ha, q⟩ := h
  obtain ⟨u, rfl, ru⟩ := vals1 r
  cases ru
  exact d_len I (.inl ha) fun t s' I' => ⟨.int kvs.length, H, I', ⟨t, rfl⟩, q⟩
end
section
variable {κ : Type} [DecidableEq κ]
end
end L2

namespace L2
open PySem PySem.Spec PyProof.Rows

theorem clos_step (env : Env) : ∀ (names : List (Str × NameKind)) (acc : List (Str × Addr)), (∀ y ∈ names, y.2 = .free → ∃ c, env.cells.lookup y.1 = some c) →
    ∃ cl, (forIn names acc fun (x : Str × NameKind) (r : List (Str × Addr)) => (match x with
      | (name, kind) => if (kind == NameKind.free) = true then do let a ← cellOf env name; pure (ForInStep.yield ((name, a) :: r)) else pure (ForInStep.yield r) : Sem (ForInStep (List (Str × Addr))))) = (pure cl : Sem (List (Str × Addr))) ∧
      (∀ x c, cl.lookup x = some c → env.cells.lookup x = some c ∨ acc.lookup x = some c) ∧ (∀ x c, acc.lookup x = some c → ∃ c', cl.lookup x = some c') ∧ ∀ y ∈ names, y.2 = .free → ∃ c, cl.lookup y.1 = some c
  | [], acc, _ => ⟨acc, rfl, fun _ _ h => .inr h, fun x c h => ⟨c, h⟩, fun _ h => nomatch h⟩
  | (n, k) :: r, acc, h => by
    rw [List.forIn_cons]
    cases hk : (k == NameKind.free) with
    | true =>
      have hk' : k = .free := by cases k <;> first | rfl | (exact absurd hk (by decide))
      obtain ⟨c, hc⟩ := h (n, k) List.mem_cons_self hk'
      obtain ⟨cl, e, h1, h2, h3⟩ := clos_step env r ((n, c) :: acc) fun y hy => h y (List.mem_cons_of_mem _ hy)
      refine ⟨cl, ?_, fun x c' hx => ?_, fun x c' hx => ?_, fun y hy hf => ?_⟩
      · simp only [hk, if_true, cellOf, hc]
        exact e
      · rcases h1 x c' hx with q | q
        · exact .inl q
        · rw [List.lookup_cons] at q
          cases hb : x == n with
          | true => rw [hb] at q; cases q; have : x = n := by simpa using hb
                    subst this; exact .inl hc
          | false => rw [hb] at q; exact .inr q
      · cases hb : x == n with
        | true => exact h2 x c (by rw [List.lookup_cons, hb])
        | false => exact h2 x c' (by rw [List.lookup_cons, hb]; exact hx)
      · rcases List.mem_cons.mp hy with rfl | hy
        · exact h2 n c (by rw [List.lookup_cons, beq_self_eq_true])
        · exact h3 y hy hf
    | false =>
      obtain ⟨cl, e, h1, h2, h3⟩ := clos_step env r acc fun y hy => h y (List.mem_cons_of_mem _ hy)
      refine ⟨cl, ?_, h1, h2, fun y hy hf => ?_⟩
      · simp only [hk, Bool.false_eq_true, if_false]
        exact e
      · rcases List.mem_cons.mp hy with rfl | hy
        · rw [show k = .free from hf] at hk; exact absurd hk (by decide)
        · exact h3 y hy hf
theorem clos_of (env : Env) (scope : Scope) (h : ∀ y ∈ scope.names, y.2 = .free → ∃ c, env.cells.lookup y.1 = some c) :
    ∃ cl, closureFor scope env = pure cl ∧ (∀ x c, cl.lookup x = some c → env.cells.lookup x = some c) ∧ ∀ y ∈ scope.names, y.2 = .free → ∃ c, cl.lookup y.1 = some c := by
  obtain ⟨cl, e, h1, _, h3⟩ := clos_step env scope.names [] h
  refine ⟨cl, ?_, fun x c hx => (h1 x c hx).elim id (fun q => by simp at q), h3⟩
  simp only [closureFor]
  first
  | (rw [e]; rfl)
  | exact (congrArg (· >>= fun cs => pure cs) e)

/-- the relabelled names -/
theorem look_relabel {env : Env} {x : Str} : ∀ {names : List (Str × NameKind)},
    (names.lookup x = some .free → (names.map fun (n, k) => if (k == NameKind.free && env.scope.kind == .function && env.kindOf n == some .cell) then (n, NameKind.cell) else (n, k)).lookup x = some .cell ∨ (names.map fun (n, k) => if (k == NameKind.free && env.scope.kind == .function && env.kindOf n == some .cell) then (n, NameKind.cell) else (n, k)).lookup x = some .free) ∧
    ((∀ y ∈ names, y.2 ≠ .cell) → ∀ k', (names.map fun (n, k) => if (k == NameKind.free && env.scope.kind == .function && env.kindOf n == some .cell) then (n, NameKind.cell) else (n, k)).lookup x = some k' → (k' = .cell ∨ k' = .free) → names.lookup x = some .free)
  | [] => ⟨fun h => by simp at h, fun _ _ h => by simp at h⟩
  | (n, k) :: r => by
    obtain ⟨ih1, ih2⟩ := @look_relabel env x r
    simp only [List.map_cons]
    cases hx : x == n with
    | true =>
      refine ⟨fun h => ?_, fun hc k' h hk' => ?_⟩
      · simp only [List.lookup_cons, hx] at h
        cases h
        by_cases hc : (NameKind.free == NameKind.free && env.scope.kind == .function && env.kindOf n == some .cell) = true
        · rw [if_pos hc]; simp [List.lookup_cons, hx]
        · rw [if_neg hc]; simp [List.lookup_cons, hx]
      · rw [List.lookup_cons, hx]
        have nc := hc (n, k) List.mem_cons_self
        by_cases hq : (k == NameKind.free && env.scope.kind == .function && env.kindOf n == some .cell) = true
        · have : k = .free := by
            cases k <;> first | rfl | (simp at hq)
          rw [this]
        · rw [if_neg hq] at h
          simp only [List.lookup_cons, hx] at h
          have h : k = k' := by simpa using h
          subst h
          rcases hk' with z | z
          · exact absurd z nc
          · rw [z]
    | false =>
      refine ⟨fun h => ?_, fun hc k' h hk' => ?_⟩
      · simp only [List.lookup_cons, hx] at h
        split <;> simp only [List.lookup_cons, hx] <;> exact ih1 h
      · rw [List.lookup_cons, hx]
        refine ih2 (fun y hy => hc y (List.mem_cons_of_mem _ hy)) k' ?_ hk'
        split at h <;> simp only [List.lookup_cons, hx] at h <;> exact h

/-- the context of the block -/
def cxComp (X : Cx) (scope : Scope) (N : List Str) (cl : List (Str × Addr)) (C : Addr) (s : Shared) (H : Hp) (ex : List Addr) : Cx where
  prog := X.prog
  w := X.w
  K := X.K
  mg := X.mg
  base := X.base
  A := X.A
  N := N
  s₀ := s
  H₀ := H
  env := compEnvC scope cl C X.env
  outer := X.stack
  stack := X.stack
  ex := ex
  fn := fun _ => false
  calm := X.calm
  pn := []
  xe := fun _ _ => False
/-- the names at the block's start: for each the slot that it is captured from -/
def capSt (cap : List (Option Nat)) (σ : St) : St := cap.map fun o => o.bind fun j => (σ[j]?).join
structure CompOk (X : Cx) (scope : Scope) (N : List Str) (cap : List (Option Nat)) : Prop where
  kind : scope.kind = .function
  loc : ∀ y ∈ scope.names, y.2 = .local → scope.names.lookup y.1 = some .local
  cell : ∀ y ∈ scope.names, y.2 ≠ .cell
  free : ∀ y ∈ scope.names, y.2 = .free → X.env.kindOf y.1 = some .cell ∨ X.env.kindOf y.1 = some .free
  len : cap.length = N.length
  cap : ∀ (i j : Nat) (x : Str), cap[i]? = some (some j) → N[i]? = some x → X.N[j]? = some x ∧ scope.names.lookup x = some .free
def compOkB (scope : Scope) (env : Env) (N' N : List Str) (cap : List (Option Nat)) : Bool :=
  decide (scope.kind = .function) && scope.names.all (fun y => !decide (y.2 = .local) || decide (scope.names.lookup y.1 = some .local)) && scope.names.all (fun y => !decide (y.2 = .cell)) &&
  scope.names.all (fun y => !decide (y.2 = .free) || (decide (env.kindOf y.1 = some .cell) || decide (env.kindOf y.1 = some .free))) && decide (cap.length = N'.length) &&
  (N'.zip cap).all (fun p => match p.2 with | none => true | some j => decide (N[j]? = some p.1) && decide (scope.names.lookup p.1 = some .free))
theorem CompOk.of {X : Cx} {scope : Scope} {N : List Str} {cap : List (Option Nat)} (h : compOkB scope X.env N X.N cap = true) : CompOk X scope N cap := by
  unfold compOkB at h
  simp only [Bool.and_eq_true, List.all_eq_true, decide_eq_true_eq, Bool.or_eq_true, Bool.not_eq_true', decide_eq_false_iff_not] at h
  obtain ⟨⟨⟨⟨⟨h1, h2⟩, h3⟩, h4⟩, h5⟩, h6⟩ := h
  refine ⟨h1, fun y hy hl => ?_, fun y hy => h3 y hy, fun y hy hf => ?_, h5, fun i j x e1 e2 => ?_⟩
  · rcases h2 y hy with z | z
    · exact absurd hl z
    · exact z
  · rcases h4 y hy with z | z
    · exact absurd hf z
    · exact z
  · have hm : (x, some j) ∈ N.zip cap := by
      refine List.mem_of_getElem? (i := i) ?_
      rw [List.getElem?_zip_eq_some]
      exact ⟨e2, e1⟩
    have q := h6 (x, some j) hm
    simpa using q

section
variable {X : Cx} {scope : Scope} {N : List Str} {cap : List (Option Nat)} {pins : List (Addr × Obj)} {σ : St} {H : Hp} {s : Shared} {cl : List (Str × Addr)} {C D : Addr} {fp : List Addr}
/-- the block's start -/
theorem comp_inv {h1 : Heap} {tk : Nat} {m : Str → Option Value} (ok : CompOk X scope N cap) (I : Inv X pins σ H s) (hf : ∀ b ∈ fp, FpOk X pins H b) (hlt : ∀ b ∈ fp, b < s.heap.objs.size)
    (hcl1 : ∀ x c, cl.lookup x = some c → X.env.cells.lookup x = some c) (hcl2 : ∀ y ∈ scope.names, y.2 = .free → ∃ c, cl.lookup y.1 = some c)
    (hC : s.heap.objs.size ≤ C) (old : ∀ b o, s.heap.get? b = some o → h1.get? b = some o) (hns : h1.Ns C m) :
    Inv (cxComp X scope N cl C s H fp) [] (capSt cap σ) H { s with heap := h1, toks := tk } := by
  have kf : ∀ x, (cxComp X scope N cl C s H fp).env.kindOf x = some .cell ∨ (cxComp X scope N cl C s H fp).env.kindOf x = some .free → scope.names.lookup x = some .free := fun x h => by
    rcases h with h | h
    · exact (look_relabel (env := X.env) (x := x) (names := scope.names)).2 ok.cell _ h (.inl rfl)
    · exact (look_relabel (env := X.env) (x := x) (names := scope.names)).2 ok.cell _ h (.inr rfl)
  refine ⟨⟨I.ok.mod, ok.kind, I.ok.glob, I.ok.blt, hC, fun x y c e1 e2 => I.ok.inj x y c (hcl1 x c e1) (hcl1 y c e2), fun x h => ?_, (fun x c z => Bool.noConfusion z), I.ok.hd, I.ok.frames, .inl rfl, fun b hb => ⟨?_, fun x c e => ?_⟩, I.bs, Nat.le_trans I.ok.bsz I.sz,
      fun b o e hb => ?_, fun b hb z => ?_, I.stack, I.stkFree⟩, rfl, I.bare, Un.kept old, ⟨m, hns, fun i x v e1 e2 e3 => ?_⟩, fun x c e => ?_, I.hok.fresh hC, fun x c e => I.freeC x c (hcl1 x c e), fun p hp => absurd hp (by show ¬ p ∈ ([] : List (Addr × Obj)) ++ []; simp), I.hok.kept old, ?_⟩
  · have q := kf x h
    exact hcl2 (x, .free) (PySem.mem_of_lookup q) rfl
  · exact Nat.ne_of_lt (Nat.lt_of_lt_of_le (hlt b hb) hC)
  · exact (hf b hb).2.2.2.2.1 x c (hcl1 x c e)
  · rcases (hf b hb).2.2.2.1 with z | z
    · exact I.ok.noex b o e z
    · exact absurd (Nat.lt_of_lt_of_le (Heap.lt_size e) (Nat.le_trans I.ok.bsz z)) (Nat.lt_irrefl _)
  · rcases List.mem_cons.mp (I.stkSub b z) with q | q
    · exact (hf b hb).2.1 q
    · exact (hf b hb).2.2.1 q
  · have e1 : N[i]? = some x := e1
    have hc : ∃ j, cap[i]? = some (some j) ∧ σ[j]? = some (some v) := by
      have e2 : (cap.map fun o => o.bind fun j => (σ[j]?).join)[i]? = some (some v) := e2
      rw [List.getElem?_map] at e2
      cases q : cap[i]? with
      | none => rw [q] at e2; cases e2
      | some o =>
        rw [q] at e2
        cases o with
        | none => cases e2
        | some j =>
          have e2 : some ((σ[j]?).join) = some (some v) := e2
          cases q2 : σ[j]? with
          | none => rw [q2] at e2; cases e2
          | some w => rw [q2] at e2; exact ⟨j, rfl, by cases e2; exact q2⟩
    obtain ⟨j, c1, c2⟩ := hc
    obtain ⟨n1, n2⟩ := ok.cap i j x c1 e1
    obtain ⟨m0, _, hl⟩ := I.loc
    have fr := ok.free (x, .free) (PySem.mem_of_lookup n2) rfl
    obtain ⟨u, r, l⟩ := hl j x v n1 c2 (fr.elim (fun z => .inr (.inl z)) fun z => .inr (.inr z))
    refine ⟨u, r, .inr ⟨(look_relabel (env := X.env) (x := x) (names := scope.names)).1 n2, ?_⟩⟩
    rcases l with ⟨k, _⟩ | ⟨_, c, ec, z⟩
    · have k : X.env.kindOf x = some .local := k
      rcases fr with f | f <;> · rw [k] at f; cases f
    · obtain ⟨c', e'⟩ := hcl2 (x, .free) (PySem.mem_of_lookup n2) rfl
      have e'' := hcl1 x c' e'
      rw [ec] at e''; cases e''
      exact ⟨c, e', z.keeps old⟩
  · obtain ⟨v, z⟩ := I.cell x c (hcl1 x c e)
    exact ⟨v, z.keeps old⟩
  · show (cap.map _).length = N.length
    rw [List.length_map]; exact ok.len

/-- the block's end: the list is told -/
theorem comp_end {σ' : St} {H' : Hp} {s' : Shared} {ys : List V} {its : List Value} {k : Nat} {h' : Heap} {Q : VK} (I : Inv X pins σ H s) (hf : ∀ b ∈ fp, FpOk X pins H b) (hC : s.heap.objs.size ≤ C) (hD : s.heap.objs.size ≤ D) (hDC : D ≠ C)
    (J : Inv (cxComp X scope N cl C s H fp) [] σ' H' s') (hd : s'.heap.get? D = some { cls := .type "list", data := .seq its.toArray k }) (hn : H' D = none) (rv : Vals ys its) (hz : ys.length ≤ sizeLine) (hs : Heap.SameBut C s'.heap h')
    (q : Q (.ref D) (upd H' D (.lst ys))) : EP X pins σ Q (.ref D) { s' with heap := h' } := by
  have nC : ∀ b o, s.heap.get? b = some o → b ≠ C := fun b o e => Nat.ne_of_lt (Nat.lt_of_lt_of_le (Heap.lt_size e) hC)
  have nD : ∀ b o, s.heap.get? b = some o → b ≠ D := fun b o e => Nat.ne_of_lt (Nat.lt_of_lt_of_le (Heap.lt_size e) hD)
  have tD : ∀ b u, H' b = some u → b ≠ D := fun b u e z => by rw [z, hn] at e; cases e
  have tC : ∀ b u, H' b = some u → b ≠ C := fun b u e z => by
    have := J.free
    rw [z] at e
    rw [show H' C = none from this] at e; cases e
  have B : Un (frs X.stack) fp H H' s.heap s'.heap := J.base
  refine ⟨.ref D, upd H' D (.lst ys), I.call' (s' := { s' with heap := h' }) (ch := fp) J.os ?_ ?_ J.bare (fun b hb => ⟨(hf b hb).2.2.2.1, (hf b hb).2.1, (hf b hb).2.2.2.2.1, (hf b hb).2.2.2.2.2⟩), rfl, q⟩
  · refine ⟨fun b o e n hb hx => (hs.2 b (nC b o e)).trans (B.keep b o e n hb hx), fun b o e n hb hx => ?_, fun b o e n hx => ?_, fun b o e hx => ?_, fun b xs e => ?_, fun b o u e => ?_, fun b ps e => ?_⟩
    · obtain ⟨sl, z⟩ := B.slot b o e n hb hx
      exact ⟨sl, (hs.2 b (nC b o e)).trans z⟩
    · rw [upd_ne (nD b o e)]; exact B.free b o e n hx
    · obtain ⟨o', z⟩ := B.there b o e hx
      exact ⟨o', (hs.2 b (nC b o e)).trans z⟩
    · have z := B.tups b xs e
      rw [upd_ne (tD b _ z)]; exact z
    · have z := B.frzs b o u e
      rw [upd_ne (tD b _ z)]; exact z
    · obtain ⟨more, z⟩ := B.tbls b ps e
      exact ⟨more, by rw [upd_ne (tD b _ z)]; exact z⟩
  · intro b u e
    by_cases hb : b = D
    · subst hb
      rw [upd_same] at e; cases e
      exact ⟨hz, its, k, rv, (hs.2 b hDC).trans hd⟩
    · rw [upd_ne hb] at e
      refine (J.hok b u e).stay (fun c v hc z => (hs.2 c ?_).trans z) (fun c z => by rw [upd_ne (tD c _ z)]; exact z) (fun c xs z => by rw [upd_ne (tD c _ z)]; exact z)
      rcases hc with hc | hc
      · rw [hc]; exact tC b u e
      · exact tC c _ hc
end

/-- the list so far is a letter of the word W; the slots are the block's own -/
def compR (cap : List (Option Nat)) (g : TG) (te : TE) (σ : St) (Q : VK) : It → Hp → Prop := fun J H1 => ∃ W : Nat → Nat → List V → St → Hp → Prop, (∃ m, W 0 m [] (capSt cap σ) H1) ∧ ∀ i m ys σ' H', W i m ys σ' H' → ys.length < sizeLine ∧
  ((J.stop i H' ∧ ∀ D, H' D = none → Q (.ref D) (upd H' D (.lst ys))) ∨
   (J.go i H' ∧ ∀ x H2, J.yld i H' x H2 → g x σ' H2 fun σ2 H3 => te σ2 H3 fun y H4 => ∃ m', m' < m ∧ W (i + 1) m' (ys ++ [y]) σ2 H4))
def tComp (cap : List (Option Nat)) (wi : TI) (g : TG) (te : TE) : TE := fun σ H Q => wi σ H (compR cap g te σ Q)
def compIfR (cap : List (Option Nat)) (g : TG) (tt : TT) (te : TE) (σ : St) (Q : VK) : It → Hp → Prop := fun J H1 => ∃ W : Nat → Nat → List V → St → Hp → Prop, (∃ m, W 0 m [] (capSt cap σ) H1) ∧ ∀ i m ys σ' H', W i m ys σ' H' → ys.length < sizeLine ∧
  ((J.stop i H' ∧ ∀ D, H' D = none → Q (.ref D) (upd H' D (.lst ys))) ∨
   (J.go i H' ∧ ∀ x H2, J.yld i H' x H2 → g x σ' H2 fun σ2 H3 => tt σ2 H3 fun b H4 => if b = true then te σ2 H4 (fun y H5 => ∃ m', m' < m ∧ W (i + 1) m' (ys ++ [y]) σ2 H5) else ∃ m', m' < m ∧ W (i + 1) m' ys σ2 H4))
def tCompIf (cap : List (Option Nat)) (wi : TI) (g : TG) (tt : TT) (te : TE) : TE := fun σ H Q => wi σ H (compIfR cap g tt te σ Q)

section
variable {X : Cx} {tg iter elt c : Expr} {scope : Scope} {pos : Pos} {wi : TI} {g : TG} {te : TE} {tt : TT}
/-- what is left to do when a comprehension's list is made -/
def CompFin (X : Cx) (pins : List (Addr × Obj)) (σ : St) (Q : VK) (use : Option (Value → Sem Unit)) (R : Value → Shared → Prop) : Prop :=
  ∀ (C D : Addr) (m : Str → Option Value) (s5 : Shared) (r : Flow), s5.heap.Ns C m → ¬ C = X.env.locals → C ∉ X.fs → X.s₀.heap.objs.size ≤ C → (∀ x c, X.env.cells.lookup x = some c → c ≠ C) → (∀ p ∈ X.pn ++ pins, p.1 ≠ C) →
    (∀ h', Heap.SameBut C s5.heap h' → EP X pins σ (fun v H' => H' C = none ∧ Q v H') (.ref D) { s5 with heap := h' }) → compPost (model X.prog X.w) X.A X.xe use R (.ref D) C (.ok r) s5
theorem fin_none {pins : List (Addr × Obj)} {σ : St} {Q : VK} : CompFin X pins σ Q none (EP X pins σ Q) := fun C D m s5 r hm _ _ _ _ _ k => ⟨m, hm, fun h' hs' => by
  obtain ⟨v, H', I', rv, _, q⟩ := k h' hs'
  exact ⟨v, H', I', rv, q⟩⟩
theorem comp_go (N : List Str) (cap : List (Option Nat)) (hc : X.calm = true) (okB : compOkB scope X.env N X.N cap = true) (hi : PI X tg iter wi) (hg : ∀ cl C s H ex, PG (cxComp X scope N cl C s H ex) tg g) (he : ∀ cl C s H ex, PE (cxComp X scope N cl C s H ex) elt te)
    (hs : ∀ x, foldedSetIterable iter X.env x = pure x) {use : Option (Value → Sem Unit)} {R : Value → Shared → Prop} {fpos : Pos} {pins : List (Addr × Obj)} {s : Shared} {σ : St} {H : Hp} {Q : VK} (I : Inv X pins σ H s) (h : tComp cap wi g te σ H Q) (fin : CompFin X pins σ Q use R) :
    wpAny (model X.prog X.w) X.A (comprehension (.ListComp elt [⟨tg, iter, [], 0⟩] scope pos) scope X.env fpos (newList []) false (eval iter X.env) use) R X.xe s := by
  have ok := CompOk.of okB
  obtain ⟨cl, hcl, hcl1, hcl2⟩ := clos_of X.env scope fun y hy hf => I.ok.has y.1 (ok.free y hy hf)
  refine wpAny_comprehension_free (use := use) rfl hs hcl ok.kind ok.loc (thn (hi pins s σ H _ I h) fun xv s1 h1 => thn h1 fun itv s2 h2 => ?_)
  obtain ⟨it, fp, tn, J, H2, e, I2, T, st2, f2, W, ⟨m0, w0⟩, turn⟩ := h2
  subst e
  have hlt : ∀ b ∈ fp, b < s2.heap.objs.size := fun b hb => let ⟨_, e, _⟩ := T.obj _ _ st2 b hb; Heap.lt_size e
  refine wpAny_newObj_type (wpAny_newFunctionEnv ok.cell (by intro y hy; simp at hy) (fun g1 hns1 hsb1 => ?_) ok.kind)
  dsimp only at hns1 hsb1 ⊢
  generalize hP : s2.heap.push { cls := .type "list", dict := none, data := .seq ([] : List Value).toArray } = P2 at hns1 hsb1 ⊢
  have hC : P2.objs.size = s2.heap.objs.size + 1 := by rw [← hP, Heap.size_push]
  have hDC : s2.heap.objs.size ≠ P2.objs.size := by rw [hC]; exact Nat.ne_of_lt (Nat.lt_succ_self _)
  have hCle : s2.heap.objs.size ≤ P2.objs.size := by rw [hC]; exact Nat.le_succ _
  have below : ∀ b, b < s2.heap.objs.size → b ≠ P2.objs.size ∧ b ≠ s2.heap.objs.size := fun b hb => ⟨by rw [hC]; exact Nat.ne_of_lt (Nat.lt_succ_of_lt hb), Nat.ne_of_lt hb⟩
  have old : ∀ b o, s2.heap.get? b = some o → g1.get? b = some o := fun b o e => hsb1.extBut b o (below b (Heap.lt_size e)).1 (Heap.get?_push_of_some _ (hP ▸ Heap.get?_push_of_some _ e))
  have hacc : g1.get? s2.heap.objs.size = some { cls := .type "list", data := .seq ([] : List Value).toArray 0 } := hsb1.extBut _ _ hDC (Heap.get?_push_of_some _ (hP ▸ Heap.get?_push_size _ rfl))
  have stat : ∀ {H' : Hp} {pl : List (Addr × Obj)}, (∀ b ∈ fp, H' b = none) → (∀ p ∈ pl, p.1 ∉ fp) → ∀ b ∈ fp, FpOk (cxComp X scope N cl P2.objs.size s2 H2 fp) pl H' b := fun {H' pl} hn hp b hb => by
    refine ⟨hn b hb, (below b (hlt b hb)).1, fun z => ?_, .inl hb, fun x c e => (f2 b hb).2.2.2.2.1 x c (hcl1 x c e), fun p hq z => ?_⟩
    · rcases List.mem_cons.mp (I2.stkSub b z) with q | q
      · exact (f2 b hb).2.1 q
      · exact (f2 b hb).2.2.1 q
    · have hq : p ∈ ([] : List (Addr × Obj)) ++ pl := hq
      rw [List.nil_append] at hq
      exact hp p hq (by rw [z]; exact hb)
  have nD : s2.heap.objs.size ∉ fp := fun z => absurd (hlt _ z) (Nat.lt_irrefl _)
  have loop : ∀ s3 : Shared, s3 = { s2 with heap := g1, toks := s2.toks + ([] : List (Str × Value)).length } →
      codeAny (model X.prog X.w) X.A (.compLoop (.ListComp elt [⟨tg, iter, [], 0⟩] scope pos) 0 (.ref it) (.ref s2.heap.objs.size) (compEnvC scope cl P2.objs.size X.env))
        (compPost (model X.prog X.w) X.A X.xe use R (.ref s2.heap.objs.size) P2.objs.size) s3 := by
    rintro s3 rfl
    have I0 := comp_inv (tk := s2.toks + ([] : List (Str × Value)).length) ok I2 f2 hlt hcl1 hcl2 hCle old hns1
    refine PySem.W.kcp_loop (fun n s' => ∃ i ys its k σ' H', Inv (cxComp X scope N cl P2.objs.size s2 H2 fp) [] σ' H' s' ∧ tn i s'.heap ∧ (∀ b ∈ fp, H' b = none) ∧ s'.heap.get? s2.heap.objs.size = some { cls := .type "list", data := .seq (List.toArray its) k } ∧
      H' s2.heap.objs.size = none ∧ Vals ys its ∧ W i n ys σ' H') ?_ m0
      ⟨0, [], [], 0, capSt cap σ, H2, I0, T.keep _ _ _ st2 (fun b _ o e => old b o e), fun b hb => (f2 b hb).1, hacc, I2.hok.fresh (Nat.le_refl _), .nil, w0⟩
    rintro n s4 ⟨i, ys, its, k, σ4, H4, I4, st4, fr4, hd4, hn4, rv4, w4⟩
    obtain ⟨hz, tn4⟩ := turn i n ys σ4 H4 w4
    have J4 : Inv (cxComp X scope N cl P2.objs.size s2 H2 fp) [(s2.heap.objs.size, { cls := .type "list", data := .seq its.toArray k })] σ4 H4 s4 := I4.pins_of fun p hp => by
      have e := List.mem_singleton.mp hp
      subst e
      refine ⟨hd4, hn4, hDC, ?_, fun v z => by cases z⟩
      exact fun z => absurd (Nat.lt_of_lt_of_le (by
        rcases List.mem_cons.mp (I2.stkSub _ z) with q | q
        · exact Nat.lt_of_le_of_lt (Nat.le_of_eq q) I2.lt
        · obtain ⟨_, o, ho, _⟩ := I2.ok.funs.mem q
          exact Nat.lt_of_lt_of_le (Heap.lt_size ho) I2.sz) (Nat.le_refl s2.heap.objs.size)) (Nat.lt_irrefl _)
    have np : ∀ p ∈ [(s2.heap.objs.size, ({ cls := .type "list", data := .seq its.toArray k } : Obj))], p.1 ∉ fp := fun p hp => by
      have e := List.mem_singleton.mp hp
      subst e; exact nD
    rcases tn4 with ⟨stop, qn⟩ | ⟨go, step⟩
    · refine wpAny_mono (T.done (cxComp X scope N cl P2.objs.size s2 H2 fp) rfl rfl rfl hc i _ s4 σ4 H4 (fun _ _ => False) J4 (stat fr4 np) st4 stop) (fun r s5 h5 => ?_) fun _ _ f => f.elim
      obtain ⟨rfl, I5⟩ := h5
      obtain ⟨m, hm, _⟩ := id I5.loc
      have p5 := I5.pin (s2.heap.objs.size, _) (List.mem_append_right _ List.mem_cons_self)
      refine fin _ _ m _ _ hm (Nat.ne_of_gt (Nat.lt_of_lt_of_le I2.lt hCle)) (I2.nofs hCle) (Nat.le_trans I2.sz hCle) (fun x c e z => ?_) (fun p hp z => ?_) fun h' hs' => comp_end I2 f2 hCle (Nat.le_refl _) hDC (I5.pins_of fun p hp => nomatch hp) p5.1 p5.2.1 rv4 (Nat.le_of_lt hz) hs' ⟨by rw [upd_ne (Ne.symm hDC)]; exact I5.free, qn _ p5.2.1⟩
      · obtain ⟨v, o, ho, hd⟩ := I2.cell x c e
        have := Heap.lt_size ho
        rw [z] at this
        exact absurd (Nat.lt_of_lt_of_le this hCle) (Nat.lt_irrefl _)
      · have := Heap.lt_size (I2.pin p hp).1
        rw [z] at this
        exact absurd (Nat.lt_of_lt_of_le this hCle) (Nat.lt_irrefl _)
    · refine wpAny_mono (T.item (cxComp X scope N cl P2.objs.size s2 H2 fp) rfl rfl rfl hc i _ s4 σ4 H4 (fun _ _ => False) J4 (stat fr4 np) st4 go) (fun r s5 h5 => ?_) fun _ _ f => f.elim
      obtain ⟨u, rfl, h5⟩ := h5
      refine wpAny_mono h5 (fun _ s6 h6 => ?_) fun _ _ f => f.elim
      obtain ⟨x, H6, I6, r6, y6, st6, fr6⟩ := h6
      have I6' := I6.pinned (stat fr6 np) (T.obj _ _ st6)
      refine wpAny_mono (hg cl P2.objs.size s2 H2 fp _ s6 σ4 H6 x u _ I6' r6 (step x H6 y6)) (fun _ s7 h7 => ?_) fun _ _ f => f.elim
      obtain ⟨σ7, H7, I7, q7⟩ := h7
      refine wpAny_mono (he cl P2.objs.size s2 H2 fp _ s7 σ7 H7 _ I7 q7) (fun yv s8 h8 => ?_) fun _ _ f => f.elim
      obtain ⟨y, H8, I8, ry, m', hm', w8⟩ := h8
      have p8 := I8.pin (s2.heap.objs.size, _) (List.mem_append_right _ (List.mem_append_left _ List.mem_cons_self))
      have hl := rv4.length
      refine append_at (hsz := by show its.toArray.size ≤ sizeLine; rw [List.size_toArray, ← hl]; exact Nat.le_of_lt hz) p8.1 fun h9 hs9 hd9 => ?_
      have I9 : Inv (cxComp X scope N cl P2.objs.size s2 H2 fp) [] σ7 H8 { s8 with heap := h9 } := (I8.pins_of (pins' := []) fun p hp => nomatch hp).turned (t' := s8.toks) (it := s2.heap.objs.size) (fun b o hb e => (hs9.2 b hb).trans e) p8.2.1 hDC (.inr (Nat.le_refl _))
        (fun x c e z => by
          obtain ⟨v, o, ho, hd⟩ := I8.cell x c e
          rw [z, p8.1] at ho; cases ho; cases hd) (fun p hp => absurd hp (by show ¬ p ∈ ([] : List (Addr × Obj)) ++ []; simp))
      refine ⟨m', hm', i + 1, ys ++ [y], its ++ [yv], k + 1, σ7, H8, I9, T.keep _ _ _ st6 (fun b hb o e => ?_), fun b hb => ?_, ?_, p8.2.1, Vals.append rv4 (.cons ry .nil), w8⟩
      · have hb' : b ≠ s2.heap.objs.size := fun z => nD (by rw [← z]; exact hb)
        exact (hs9.2 b hb').trans (I8.pin (b, o) (List.mem_append_right _ (List.mem_append_right _ (mem_pinsAt hb e)))).1
      · obtain ⟨o, e, d⟩ := T.obj _ _ st6 b hb
        exact (I8.pin (b, o) (List.mem_append_right _ (List.mem_append_right _ (mem_pinsAt hb e)))).2.1
      · refine hd9.trans ?_
        simp
  exact codeAny_compStart_list (loop _ rfl) (T.self _ 0 _ _ _ (T.keep _ _ _ st2 (fun b _ o e => old b o e)) (loop _ rfl))
theorem pe_comp (N : List Str) (cap : List (Option Nat)) (hc : X.calm = true) (okB : compOkB scope X.env N X.N cap = true) (hi : PI X tg iter wi) (hg : ∀ cl C s H ex, PG (cxComp X scope N cl C s H ex) tg g) (he : ∀ cl C s H ex, PE (cxComp X scope N cl C s H ex) elt te)
    (hs : ∀ x, foldedSetIterable iter X.env x = pure x := by intro _; rfl) : PE X (.ListComp elt [⟨tg, iter, [], 0⟩] scope pos) (tComp cap wi g te) := by
  intro pins s σ H Q I h
  rw [eval_ListComp]
  exact comp_go N cap hc okB hi hg he hs I h fin_none
end
end L2

namespace L2
open PySem PySem.Spec PyProof.Rows

section
variable {X : Cx}

def Callee (P : Program) (w : World) (K : PySem.W.Frag) (mg : Str → Option Value) (base : Heap) (name : Str) (k : Nat) (ps : List Str) (sp : Sp) : Prop :=
  ∃ f fd, FnOk P w K mg base CX0 k f fd ps sp ∧ Binds K fd ps [] ∧ PySem.W.keepIn K (.ref f) = true ∧ mg name = some (.ref f)
theorem Callee.mono {P : Program} {w : World} {K : PySem.W.Frag} {mg : Str → Option Value} {base : Heap} {name : Str} {j k : Nat} {ps : List Str} {sp : Sp} (c : Callee P w K mg base name j ps sp) (h : j ≤ k) : Callee P w K mg base name k ps sp := by
  obtain ⟨f, fd, F, r⟩ := c
  exact ⟨f, fd, F.mono h, r⟩
theorem pe_fn {name : Str} {k : Nat} {ps : List Str} {sp : Sp} {p pos : Pos} {e : Expr} {es : List Expr} {t : TA} (c : Callee X.prog X.w X.K X.mg X.base name k ps sp) (hr : Room k X.A) (hg : Gl X name) (ha : PA X (e :: es) t)
    (hdb : (name == ("__debug__" : Str)) = false := by decide) (he : starEach (e :: es) X.env = (false, eval e X.env) :: starEach es X.env := by rfl) (hpl : (backTo pos (starEach es X.env)).any (·.1) = false := by rfl) :
    PE X (.Call (.Name name p) (e :: es) [] pos) (tCall sp [] E0 t) := by
  obtain ⟨f, fd, F, b, hk, hm⟩ := c
  exact pe_call F hr hg hm hk b .nil pass0 ha hdb he hpl
end
theorem same_new {H : Hp} {p : Addr} (h : H p = none) (o : HO) : Same H (upd H p o) := fun b u q => by rw [upd_ne (ne_of_none q h)]; exact q
theorem small {n : Nat} (h : n ≤ 1000) : n ≤ sizeLine := Nat.le_of_lt (small1000 h)
theorem same_upd {H H' : Hp} {l : Addr} (o : HO) (s : Same H H') (h : H l = none) : Same H (upd H' l o) := fun b u e => by
  rw [upd_ne (ne_of_none e h)]; exact s b u e
section
variable {X : Cx} {pos : Pos}
end
theorem bt_len : bootBuiltins "len" = some (.builtin "len") := boot_len
theorem bt_max : bootBuiltins "max" = some (.builtin "max") := boot_max
theorem bt_min : bootBuiltins "min" = some (.builtin "min") := boot_min
theorem bt_sum : bootBuiltins "sum" = some (.builtin "sum") := boot_sum
theorem bt_str : bootBuiltins "str" = some (.type "str") := boot_str
theorem bt_list : bootBuiltins "list" = some (.type "list") := boot_list
theorem bt_tuple : bootBuiltins "tuple" = some (.type "tuple") := boot_tuple
theorem bt_set : bootBuiltins "set" = some (.type "set") := boot_set
end L2

namespace L2
open PySem PySem.Spec PyProof.Rows
section
variable {prog : Program} {w : World} {K : Type} [DecidableEq K] {knd : KeyKind prog w K}
end

section
variable {prog : Program} {w : World} {K : Type} [DecidableEq K] {A : Around} {E : Value → Shared → Prop} {s : Shared}
end
section
variable {X : Cx}
end
/-- the things differ -/
def Once (r : List (Int × Int)) : Prop := (r.map (·.1)).Nodup
end L2

namespace L2
open PySem PySem.Spec PyProof.Rows
section
variable {X : Cx} {tg iter elt c : Expr} {scope : Scope} {pos : Pos} {wi : TI} {g : TG} {te : TE} {tt : TT}
theorem compIf_go (N : List Str) (cap : List (Option Nat)) (hc : X.calm = true) (okB : compOkB scope X.env N X.N cap = true) (hi : PI X tg iter wi) (hg : ∀ cl C s H ex, PG (cxComp X scope N cl C s H ex) tg g) (ht : ∀ cl C s H ex, PT (cxComp X scope N cl C s H ex) c tt) (he : ∀ cl C s H ex, PE (cxComp X scope N cl C s H ex) elt te)
    (hs : ∀ x, foldedSetIterable iter X.env x = pure x) {use : Option (Value → Sem Unit)} {R : Value → Shared → Prop} {fpos : Pos} {pins : List (Addr × Obj)} {s : Shared} {σ : St} {H : Hp} {Q : VK} (I : Inv X pins σ H s) (h : tCompIf cap wi g tt te σ H Q) (fin : CompFin X pins σ Q use R) :
    wpAny (model X.prog X.w) X.A (comprehension (.ListComp elt [⟨tg, iter, [c], 0⟩] scope pos) scope X.env fpos (newList []) false (eval iter X.env) use) R X.xe s := by
  have ok := CompOk.of okB
  obtain ⟨cl, hcl, hcl1, hcl2⟩ := clos_of X.env scope fun y hy hf => I.ok.has y.1 (ok.free y hy hf)
  refine wpAny_comprehension_free (use := use) rfl hs hcl ok.kind ok.loc (thn (hi pins s σ H _ I h) fun xv s1 h1 => thn h1 fun itv s2 h2 => ?_)
  obtain ⟨it, fp, tn, J, H2, e, I2, T, st2, f2, W, ⟨m0, w0⟩, turn⟩ := h2
  subst e
  have hlt : ∀ b ∈ fp, b < s2.heap.objs.size := fun b hb => let ⟨_, e, _⟩ := T.obj _ _ st2 b hb; Heap.lt_size e
  refine wpAny_newObj_type (wpAny_newFunctionEnv ok.cell (by intro y hy; simp at hy) (fun g1 hns1 hsb1 => ?_) ok.kind)
  dsimp only at hns1 hsb1 ⊢
  generalize hP : s2.heap.push { cls := .type "list", dict := none, data := .seq ([] : List Value).toArray } = P2 at hns1 hsb1 ⊢
  have hC : P2.objs.size = s2.heap.objs.size + 1 := by rw [← hP, Heap.size_push]
  have hDC : s2.heap.objs.size ≠ P2.objs.size := by rw [hC]; exact Nat.ne_of_lt (Nat.lt_succ_self _)
  have hCle : s2.heap.objs.size ≤ P2.objs.size := by rw [hC]; exact Nat.le_succ _
  have below : ∀ b, b < s2.heap.objs.size → b ≠ P2.objs.size ∧ b ≠ s2.heap.objs.size := fun b hb => ⟨by rw [hC]; exact Nat.ne_of_lt (Nat.lt_succ_of_lt hb), Nat.ne_of_lt hb⟩
  have old : ∀ b o, s2.heap.get? b = some o → g1.get? b = some o := fun b o e => hsb1.extBut b o (below b (Heap.lt_size e)).1 (Heap.get?_push_of_some _ (hP ▸ Heap.get?_push_of_some _ e))
  have hacc : g1.get? s2.heap.objs.size = some { cls := .type "list", data := .seq ([] : List Value).toArray 0 } := hsb1.extBut _ _ hDC (Heap.get?_push_of_some _ (hP ▸ Heap.get?_push_size _ rfl))
  have stat : ∀ {H' : Hp} {pl : List (Addr × Obj)}, (∀ b ∈ fp, H' b = none) → (∀ p ∈ pl, p.1 ∉ fp) → ∀ b ∈ fp, FpOk (cxComp X scope N cl P2.objs.size s2 H2 fp) pl H' b := fun {H' pl} hn hp b hb => by
    refine ⟨hn b hb, (below b (hlt b hb)).1, fun z => ?_, .inl hb, fun x c e => (f2 b hb).2.2.2.2.1 x c (hcl1 x c e), fun p hq z => ?_⟩
    · rcases List.mem_cons.mp (I2.stkSub b z) with q | q
      · exact (f2 b hb).2.1 q
      · exact (f2 b hb).2.2.1 q
    · have hq : p ∈ ([] : List (Addr × Obj)) ++ pl := hq
      rw [List.nil_append] at hq
      exact hp p hq (by rw [z]; exact hb)
  have nD : s2.heap.objs.size ∉ fp := fun z => absurd (hlt _ z) (Nat.lt_irrefl _)
  have loop : ∀ s3 : Shared, s3 = { s2 with heap := g1, toks := s2.toks + ([] : List (Str × Value)).length } →
      codeAny (model X.prog X.w) X.A (.compLoop (.ListComp elt [⟨tg, iter, [c], 0⟩] scope pos) 0 (.ref it) (.ref s2.heap.objs.size) (compEnvC scope cl P2.objs.size X.env))
        (compPost (model X.prog X.w) X.A X.xe use R (.ref s2.heap.objs.size) P2.objs.size) s3 := by
    rintro s3 rfl
    have I0 := comp_inv (tk := s2.toks + ([] : List (Str × Value)).length) ok I2 f2 hlt hcl1 hcl2 hCle old hns1
    refine PySem.W.kct_loop (fun n s' => ∃ i ys its k σ' H', Inv (cxComp X scope N cl P2.objs.size s2 H2 fp) [] σ' H' s' ∧ tn i s'.heap ∧ (∀ b ∈ fp, H' b = none) ∧ s'.heap.get? s2.heap.objs.size = some { cls := .type "list", data := .seq (List.toArray its) k } ∧
      H' s2.heap.objs.size = none ∧ Vals ys its ∧ W i n ys σ' H') ?_ m0
      ⟨0, [], [], 0, capSt cap σ, H2, I0, T.keep _ _ _ st2 (fun b _ o e => old b o e), fun b hb => (f2 b hb).1, hacc, I2.hok.fresh (Nat.le_refl _), .nil, w0⟩
    rintro n s4 ⟨i, ys, its, k, σ4, H4, I4, st4, fr4, hd4, hn4, rv4, w4⟩
    obtain ⟨hz, tn4⟩ := turn i n ys σ4 H4 w4
    have J4 : Inv (cxComp X scope N cl P2.objs.size s2 H2 fp) [(s2.heap.objs.size, { cls := .type "list", data := .seq its.toArray k })] σ4 H4 s4 := I4.pins_of fun p hp => by
      have e := List.mem_singleton.mp hp
      subst e
      refine ⟨hd4, hn4, hDC, ?_, fun v z => by cases z⟩
      exact fun z => absurd (Nat.lt_of_lt_of_le (by
        rcases List.mem_cons.mp (I2.stkSub _ z) with q | q
        · exact Nat.lt_of_le_of_lt (Nat.le_of_eq q) I2.lt
        · obtain ⟨_, o, ho, _⟩ := I2.ok.funs.mem q
          exact Nat.lt_of_lt_of_le (Heap.lt_size ho) I2.sz) (Nat.le_refl s2.heap.objs.size)) (Nat.lt_irrefl _)
    have np : ∀ p ∈ [(s2.heap.objs.size, ({ cls := .type "list", data := .seq its.toArray k } : Obj))], p.1 ∉ fp := fun p hp => by
      have e := List.mem_singleton.mp hp
      subst e; exact nD
    rcases tn4 with ⟨stop, qn⟩ | ⟨go, step⟩
    · refine wpAny_mono (T.done (cxComp X scope N cl P2.objs.size s2 H2 fp) rfl rfl rfl hc i _ s4 σ4 H4 (fun _ _ => False) J4 (stat fr4 np) st4 stop) (fun r s5 h5 => ?_) fun _ _ f => f.elim
      obtain ⟨rfl, I5⟩ := h5
      obtain ⟨m, hm, _⟩ := id I5.loc
      have p5 := I5.pin (s2.heap.objs.size, _) (List.mem_append_right _ List.mem_cons_self)
      refine fin _ _ m _ _ hm (Nat.ne_of_gt (Nat.lt_of_lt_of_le I2.lt hCle)) (I2.nofs hCle) (Nat.le_trans I2.sz hCle) (fun x c e z => ?_) (fun p hp z => ?_) fun h' hs' => comp_end I2 f2 hCle (Nat.le_refl _) hDC (I5.pins_of fun p hp => nomatch hp) p5.1 p5.2.1 rv4 (Nat.le_of_lt hz) hs' ⟨by rw [upd_ne (Ne.symm hDC)]; exact I5.free, qn _ p5.2.1⟩
      · obtain ⟨v, o, ho, hd⟩ := I2.cell x c e
        have := Heap.lt_size ho
        rw [z] at this
        exact absurd (Nat.lt_of_lt_of_le this hCle) (Nat.lt_irrefl _)
      · have := Heap.lt_size (I2.pin p hp).1
        rw [z] at this
        exact absurd (Nat.lt_of_lt_of_le this hCle) (Nat.lt_irrefl _)
    · refine wpAny_mono (T.item (cxComp X scope N cl P2.objs.size s2 H2 fp) rfl rfl rfl hc i _ s4 σ4 H4 (fun _ _ => False) J4 (stat fr4 np) st4 go) (fun r s5 h5 => ?_) fun _ _ f => f.elim
      obtain ⟨u, rfl, h5⟩ := h5
      refine wpAny_mono h5 (fun _ s6 h6 => ?_) fun _ _ f => f.elim
      obtain ⟨x, H6, I6, r6, y6, st6, fr6⟩ := h6
      have I6' := I6.pinned (stat fr6 np) (T.obj _ _ st6)
      refine wpAny_mono (hg cl P2.objs.size s2 H2 fp _ s6 σ4 H6 x u _ I6' r6 (step x H6 y6)) (fun _ s7 h7 => ?_) fun _ _ f => f.elim
      obtain ⟨σ7, H7, I7, q7⟩ := h7
      refine wpAny_mono (ht cl P2.objs.size s2 H2 fp _ s7 σ7 H7 _ I7 q7) (fun bv s8 h8 => ?_) fun _ _ f => f.elim
      obtain ⟨H8, I8, q8⟩ := h8
      have keepT : ∀ (H9 : Hp) (s9 : Shared) (σ9 : St), Inv (cxComp X scope N cl P2.objs.size s2 H2 fp) ([(s2.heap.objs.size, { cls := .type "list", data := .seq its.toArray k })] ++ pinsAt fp s6.heap) σ9 H9 s9 → (∀ b ∈ fp, ∀ o, s6.heap.get? b = some o → s9.heap.get? b = some o) ∧ ∀ b ∈ fp, H9 b = none := fun H9 s9 σ9 I9 => by
        refine ⟨fun b hb o e => (I9.pin (b, o) (List.mem_append_right _ (List.mem_append_right _ (mem_pinsAt hb e)))).1, fun b hb => ?_⟩
        obtain ⟨o, e, d⟩ := T.obj _ _ st6 b hb
        exact (I9.pin (b, o) (List.mem_append_right _ (List.mem_append_right _ (mem_pinsAt hb e)))).2.1
      have p8 := I8.pin (s2.heap.objs.size, _) (List.mem_append_right _ (List.mem_append_left _ List.mem_cons_self))
      cases bv with
      | false =>
        rw [if_neg (by simp)] at q8 ⊢
        obtain ⟨m', hm', w8⟩ := q8
        obtain ⟨z1, z2⟩ := keepT _ _ _ I8
        exact ⟨m', hm', i + 1, ys, its, k, σ7, H8, I8.pins_of (fun p hp => nomatch hp), T.keep _ _ _ st6 z1, z2, p8.1, p8.2.1, rv4, w8⟩
      | true =>
        rw [if_pos rfl] at q8 ⊢
        refine wpAny_mono (he cl P2.objs.size s2 H2 fp _ s8 σ7 H8 _ I8 q8) (fun yv s9 h9 => ?_) fun _ _ f => f.elim
        obtain ⟨y, H9, I9, ry, m', hm', w9⟩ := h9
        have p9 := I9.pin (s2.heap.objs.size, _) (List.mem_append_right _ (List.mem_append_left _ List.mem_cons_self))
        have hl := rv4.length
        refine append_at (hsz := by show its.toArray.size ≤ sizeLine; rw [List.size_toArray, ← hl]; exact Nat.le_of_lt hz) p9.1 fun h10 hs10 hd10 => ?_
        have I10 : Inv (cxComp X scope N cl P2.objs.size s2 H2 fp) [] σ7 H9 { s9 with heap := h10 } := (I9.pins_of (pins' := []) fun p hp => nomatch hp).turned (t' := s9.toks) (it := s2.heap.objs.size) (fun b o hb e => (hs10.2 b hb).trans e) p9.2.1 hDC (.inr (Nat.le_refl _))
          (fun x c e z => by
            obtain ⟨v, o, ho, hd⟩ := I9.cell x c e
            rw [z, p9.1] at ho; cases ho; cases hd) (fun p hp => absurd hp (by show ¬ p ∈ ([] : List (Addr × Obj)) ++ []; simp))
        obtain ⟨z1, z2⟩ := keepT _ _ _ I9
        refine ⟨m', hm', i + 1, ys ++ [y], its ++ [yv], k + 1, σ7, H9, I10, T.keep _ _ _ st6 (fun b hb o e => ?_), z2, ?_, p9.2.1, Vals.append rv4 (.cons ry .nil), w9⟩
        · have hb' : b ≠ s2.heap.objs.size := fun z => nD (by rw [← z]; exact hb)
          exact (hs10.2 b hb').trans (z1 b hb o e)
        · refine hd10.trans ?_
          simp
  exact codeAny_compStart_list (loop _ rfl) (T.self _ 0 _ _ _ (T.keep _ _ _ st2 (fun b _ o e => old b o e)) (loop _ rfl))
end

section
variable {X : Cx}
/-- d.items(): a view of d -/
def ViewO (vw d : Addr) : HO := .ext fun h => h.IsItemsView vw d
theorem mt_items : MtR X "dict.items" (fun x vs H Q => ∃ d kvs, x = .ref d ∧ vs = [] ∧ H d = some (.dK kvs) ∧ ∀ p, H p = none → Q (.ref p) (upd H p (ViewO p d))) := by
  intro pins s σ H x vs v us Q I rx rv h
  obtain ⟨d, kvs, rfl, rfl, hd, q⟩ := h
  obtain rfl : v = Value.ref d := rx
  obtain rfl : us = [] := Vals.zero rv
  obtain ⟨z, lo, ws, rel, dd⟩ := dk_of I.hok hd
  refine call_meetsIn PySem.F.slot_dict_items dd.typeIs PySem.F.entry_dict_items (PySem.F.args_dict_items_1 _) (meets_dict_items (mixKind X.prog X.w) d lo) ⟨⟨ws, dd⟩, ?_⟩
  refine ⟨.ref s.heap.objs.size, upd H s.heap.objs.size (ViewO s.heap.objs.size d), I.laid (t' := s.toks) (fun b o e => Heap.get?_push_of_some _ e) (Nat.le_refl _) ?_, rfl, q _ (I.hok.fresh (Nat.le_refl _))⟩
  exact ⟨⟨_, Heap.get?_push_size _ rfl, rfl, rfl⟩, ⟨_, Heap.get?_push_size _ rfl⟩, fun h1 h2 z kk => by
    obtain ⟨o, e, r⟩ := z
    exact ⟨o, kk o e, r⟩⟩
end
end L2

namespace L2.DL
open PySem PySem.Spec PyProof.Rows
inductive D where
  | non | bl (b : Bool) | int (i : Int) | str (x : Str) | ty (n : String) | scr (ns : List Int)
  | tup (ds : List D) | lst (ds : List D) | dct (ks : List Key) (ds : List D) | ins (c : Str) (fs : List Str) (ds : List D)
  /-- an exception of a class of the text that was caught; such a class -/
  | exc (c : Str) | ucl (c : Str)
/-- what comes of a step: a value, an exception (its class, its fields), nothing that is told -/
inductive Res (α : Type) where
  | ok (a : α) | ex (c : Str) (fs : List D) | no
def Res.bind {α β : Type} (r : Res α) (g : α → Res β) : Res β := match r with
  | .ok a => g a
  | .ex c fs => .ex c fs
  | .no => .no
def Res.need {α : Type} (r : Res α) (p : α → Prop) (q : Str → List D → Prop) : Prop := match r with
  | .ok a => p a
  | .ex c fs => q c fs
  | .no => False
@[simp] theorem Res.bind_ok {α β : Type} (a : α) (g : α → Res β) : (Res.ok a).bind g = g a := rfl
theorem Res.need_bind {α β : Type} {r : Res α} {g : α → Res β} {p : β → Prop} {q : Str → List D → Prop} (h : (r.bind g).need p q) : r.need (fun a => (g a).need p q) q := by
  cases r <;> exact h
theorem Res.need.mono {α : Type} {r : Res α} {p p' : α → Prop} {q q' : Str → List D → Prop} (h : r.need p q) (hp : ∀ a, p a → p' a) (hq : ∀ c fs, q c fs → q' c fs) : r.need p' q' := by
  cases r with
  | ok a => exact hp a h
  | ex c fs => exact hq c fs h
  | no => exact h

theorem Res.need.monoE {α : Type} {r : Res α} {p p' : α → Prop} {q q' : Str → List D → Prop} (h : r.need p q) (hp : ∀ a, r = .ok a → p a → p' a) (hq : ∀ c fs, q c fs → q' c fs) : r.need p' q' := by
  cases r with
  | ok a => exact hp a rfl h
  | ex c fs => exact hq c fs h
  | no => exact h
/-- an exception object: its class -/
def ExcO (C x : Addr) : HO := .ext fun h => ∃ o, h.get? x = some o ∧ o.cls = .ref C
/-- a tuple, a list that is read -/
def TupD (_ : PySem.W.Frag) (H : Hp) (a : Addr) (xs : List V) : Prop := H a = some (.tup xs)
theorem TupD.same {K : PySem.W.Frag} {H H' : Hp} {a : Addr} {xs : List V} (e : Same H H') (h : TupD K H a xs) : TupD K H' a xs := e _ _ h
theorem TupD.of {K : PySem.W.Frag} {H : Hp} {a : Addr} {xs : List V} (h : H a = some (.tup xs)) : TupD K H a xs := h
theorem TupD.sq {K : PySem.W.Frag} {H : Hp} {a : Addr} {xs : List V} (h : TupD K H a xs) : SqT K H a xs := SqT.of h
def LstD (_ : PySem.W.Frag) (H : Hp) (a : Addr) (xs : List V) : Prop := Rd H a (.lst xs)
theorem LstD.same {K : PySem.W.Frag} {H H' : Hp} {a : Addr} {xs : List V} (e : Same H H') (h : LstD K H a xs) : LstD K H' a xs := h.imp (fun q => e _ _ q) fun ⟨o, q⟩ => ⟨o, e _ _ q⟩
theorem LstD.of {K : PySem.W.Frag} {H : Hp} {a : Addr} {xs : List V} (h : H a = some (.lst xs)) : LstD K H a xs := .inl h
theorem LstD.sq {K : PySem.W.Frag} {H : Hp} {a : Addr} {xs : List V} (h : LstD K H a xs) : SqL K H a xs := .inl h

section
variable (K : PySem.W.Frag)
mutual
def IsD (H : Hp) : D → V → Prop
  | .non, v => v = .non
  | .bl b, v => v = .bl b
  | .int i, v => v = .int i
  | .str x, v => v = .str x
  | .ty n, v => v = .ty n
  | .scr ns, v => ∃ a, v = .ref a ∧ SqL K H a (ns.map V.int)
  | .tup ds, v => ∃ a xs, v = .ref a ∧ TupD K H a xs ∧ IsDs H ds xs
  | .lst ds, v => ∃ a xs, v = .ref a ∧ LstD K H a xs ∧ IsDs H ds xs
  | .dct ks ds, v => ∃ a xs, v = .ref a ∧ H a = some (.dK (ks.zip xs)) ∧ ks.length = xs.length ∧ IsDs H ds xs
  | .ins c fs ds, v => ∃ a C dx xs, v = .ref a ∧ PySem.W.nsIn K mainGlobals c = some (some (.ref C)) ∧ H a = some (.ins C dx (fs.zip xs)) ∧ fs.length = xs.length ∧ IsDs H ds xs
  | .exc c, v => ∃ a C, v = .ref a ∧ PySem.W.nsIn K mainGlobals c = some (some (.ref C)) ∧ H a = some (ExcO C a)
  | .ucl c, v => ∃ C, v = .ref C ∧ PySem.W.nsIn K mainGlobals c = some (some (.ref C))
def IsDs (H : Hp) : List D → List V → Prop
  | [], xs => xs = []
  | d :: ds, xs => ∃ x r, xs = x :: r ∧ IsD H d x ∧ IsDs H ds r
end
end
section
variable {K : PySem.W.Frag} {H H' : Hp}
mutual
theorem IsD.same (e : Same H H') : ∀ (d : D) (v : V), IsD K H d v → IsD K H' d v
  | .non, _, h => by unfold IsD at h ⊢; exact h
  | .bl _, _, h => by unfold IsD at h ⊢; exact h
  | .int _, _, h => by unfold IsD at h ⊢; exact h
  | .str _, _, h => by unfold IsD at h ⊢; exact h
  | .ty _, _, h => by unfold IsD at h ⊢; exact h
  | .scr _, _, h => by
    unfold IsD at h ⊢
    obtain ⟨a, h1, h2⟩ := h
    exact ⟨a, h1, Same.seq e h2⟩
  | .tup ds, _, h => by
    unfold IsD at h ⊢
    obtain ⟨a, xs, h1, h2, h3⟩ := h
    exact ⟨a, xs, h1, h2.same e, IsDs.same e ds xs h3⟩
  | .lst ds, _, h => by
    unfold IsD at h ⊢
    obtain ⟨a, xs, h1, h2, h3⟩ := h
    exact ⟨a, xs, h1, h2.same e, IsDs.same e ds xs h3⟩
  | .dct ks ds, _, h => by
    unfold IsD at h ⊢
    obtain ⟨a, xs, h1, h2, h4, h3⟩ := h
    exact ⟨a, xs, h1, e _ _ h2, h4, IsDs.same e ds xs h3⟩
  | .ins c fs ds, _, h => by
    unfold IsD at h ⊢
    obtain ⟨a, C, dx, xs, h1, h5, h2, h4, h3⟩ := h
    exact ⟨a, C, dx, xs, h1, h5, e _ _ h2, h4, IsDs.same e ds xs h3⟩
  | .exc _, _, h => by
    unfold IsD at h ⊢
    obtain ⟨a, C, h1, h2, h3⟩ := h
    exact ⟨a, C, h1, h2, e _ _ h3⟩
  | .ucl _, _, h => by unfold IsD at h ⊢; exact h
theorem IsDs.same (e : Same H H') : ∀ (ds : List D) (xs : List V), IsDs K H ds xs → IsDs K H' ds xs
  | [], _, h => by unfold IsDs at h ⊢; exact h
  | d :: ds, _, h => by
    unfold IsDs at h ⊢
    obtain ⟨x, r, h1, h2, h3⟩ := h
    exact ⟨x, r, h1, IsD.same e d x h2, IsDs.same e ds r h3⟩
end
theorem IsD.non_iff {v : V} : IsD K H .non v ↔ v = .non := by unfold IsD; exact Iff.rfl
theorem IsD.bl_iff {b : Bool} {v : V} : IsD K H (.bl b) v ↔ v = .bl b := by unfold IsD; exact Iff.rfl
theorem IsD.int_iff {i : Int} {v : V} : IsD K H (.int i) v ↔ v = .int i := by unfold IsD; exact Iff.rfl
theorem IsD.str_iff {x : Str} {v : V} : IsD K H (.str x) v ↔ v = .str x := by unfold IsD; exact Iff.rfl
theorem IsD.ty_iff {n : String} {v : V} : IsD K H (.ty n) v ↔ v = .ty n := by unfold IsD; exact Iff.rfl
theorem IsD.scr_iff {ns : List Int} {v : V} : IsD K H (.scr ns) v ↔ ∃ a, v = .ref a ∧ SqL K H a (ns.map V.int) := by unfold IsD; exact Iff.rfl
theorem IsD.tup_iff {ds : List D} {v : V} : IsD K H (.tup ds) v ↔ ∃ a xs, v = .ref a ∧ TupD K H a xs ∧ IsDs K H ds xs := by unfold IsD; exact Iff.rfl
theorem IsD.lst_iff {ds : List D} {v : V} : IsD K H (.lst ds) v ↔ ∃ a xs, v = .ref a ∧ LstD K H a xs ∧ IsDs K H ds xs := by unfold IsD; exact Iff.rfl
theorem IsD.dct_iff {ks : List Key} {ds : List D} {v : V} : IsD K H (.dct ks ds) v ↔ ∃ a xs, v = .ref a ∧ H a = some (.dK (ks.zip xs)) ∧ ks.length = xs.length ∧ IsDs K H ds xs := by unfold IsD; exact Iff.rfl
theorem IsD.ins_iff {c : Str} {fs : List Str} {ds : List D} {v : V} : IsD K H (.ins c fs ds) v ↔ ∃ a C dx xs, v = .ref a ∧ PySem.W.nsIn K mainGlobals c = some (some (.ref C)) ∧ H a = some (.ins C dx (fs.zip xs)) ∧ fs.length = xs.length ∧ IsDs K H ds xs := by unfold IsD; exact Iff.rfl
theorem IsD.exc_iff {c : Str} {v : V} : IsD K H (.exc c) v ↔ ∃ a C, v = .ref a ∧ PySem.W.nsIn K mainGlobals c = some (some (.ref C)) ∧ H a = some (ExcO C a) := by unfold IsD; exact Iff.rfl
theorem IsD.ucl_iff {c : Str} {v : V} : IsD K H (.ucl c) v ↔ ∃ C, v = .ref C ∧ PySem.W.nsIn K mainGlobals c = some (some (.ref C)) := by unfold IsD; exact Iff.rfl
theorem IsDs.nil_iff {xs : List V} : IsDs K H [] xs ↔ xs = [] := by unfold IsDs; exact Iff.rfl
theorem IsDs.cons_iff {d : D} {ds : List D} {xs : List V} : IsDs K H (d :: ds) xs ↔ ∃ x r, xs = x :: r ∧ IsD K H d x ∧ IsDs K H ds r := by
  constructor
  · intro h; unfold IsDs at h; exact h
  · intro h; unfold IsDs; exact h
theorem IsDs.mk {d : D} {ds : List D} {x : V} {xs : List V} (h : IsD K H d x) (r : IsDs K H ds xs) : IsDs K H (d :: ds) (x :: xs) := IsDs.cons_iff.mpr ⟨x, xs, rfl, h, r⟩
theorem IsDs.nil : IsDs K H [] [] := IsDs.nil_iff.mpr rfl
theorem IsDs.length : ∀ {ds : List D} {xs : List V}, IsDs K H ds xs → xs.length = ds.length
  | [], xs, h => by rw [IsDs.nil_iff] at h; subst h; rfl
  | d :: ds, xs, h => by
    rw [IsDs.cons_iff] at h
    obtain ⟨x, r, rfl, _, h3⟩ := h
    rw [List.length_cons, List.length_cons, IsDs.length h3]
theorem IsDs.get : ∀ {ds : List D} {xs : List V} {i : Nat} {d : D}, IsDs K H ds xs → ds[i]? = some d → ∃ x, xs[i]? = some x ∧ IsD K H d x
  | [], _, _, _, _, e => by cases e
  | d :: ds, xs, i, e, h, q => by
    rw [IsDs.cons_iff] at h
    obtain ⟨x, r, rfl, h2, h3⟩ := h
    cases i with
    | zero => cases q; exact ⟨x, rfl, h2⟩
    | succ i => exact IsDs.get (i := i) h3 q
theorem IsDs.getV {ds : List D} {xs : List V} {i : Nat} {x : V} (h : IsDs K H ds xs) (q : xs[i]? = some x) : ∃ d, ds[i]? = some d ∧ IsD K H d x := by
  have hl := h.length
  have hi : i < ds.length := by rw [← hl]; exact (List.getElem?_eq_some_iff.mp q).1
  obtain ⟨y, h1, h2⟩ := h.get (List.getElem?_eq_getElem hi)
  rw [q] at h1
  cases h1
  exact ⟨_, List.getElem?_eq_getElem hi, h2⟩
theorem IsDs.append : ∀ {ds es : List D} {xs ys : List V}, IsDs K H ds xs → IsDs K H es ys → IsDs K H (ds ++ es) (xs ++ ys)
  | [], _, xs, _, h, h' => by rw [IsDs.nil_iff] at h; subst h; exact h'
  | d :: ds, _, xs, _, h, h' => by
    rw [IsDs.cons_iff] at h
    obtain ⟨x, r, rfl, h2, h3⟩ := h
    exact IsDs.mk h2 (IsDs.append h3 h')
theorem IsDs.snoc {ds : List D} {xs : List V} {d : D} {x : V} (h : IsDs K H ds xs) (h' : IsD K H d x) : IsDs K H (ds ++ [d]) (xs ++ [x]) := h.append (.mk h' .nil)
theorem IsDs.ints : ∀ (ns : List Int), IsDs K H (ns.map D.int) (ns.map V.int)
  | [] => .nil
  | n :: ns => .mk (IsD.int_iff.mpr rfl) (IsDs.ints ns)
theorem IsDs.ints_iff : ∀ {ns : List Int} {xs : List V}, IsDs K H (ns.map D.int) xs → xs = ns.map V.int
  | [], _, h => IsDs.nil_iff.mp h
  | n :: ns, xs, h => by
    rw [List.map_cons, IsDs.cons_iff] at h
    obtain ⟨x, r, rfl, h2, h3⟩ := h
    rw [IsD.int_iff] at h2
    rw [h2, IsDs.ints_iff h3]
    rfl
end

structure Ext (F H F' H' : Hp) : Prop where
  ff : Same F F'
  fh : Same F' H'
  hh : Same H H'
  new : ∀ a, F a = none → H a ≠ none → F' a = none
theorem Ext.refl {F H : Hp} (h : Same F H) : Ext F H F H := ⟨.refl _, h, .refl _, fun _ e _ => e⟩
theorem Ext.trans {F H F1 H1 F2 H2 : Hp} (a : Ext F H F1 H1) (b : Ext F1 H1 F2 H2) : Ext F H F2 H2 :=
  ⟨a.ff.trans b.ff, b.fh, a.hh.trans b.hh, fun x e n => b.new x (a.new x e n) (by
    cases q : H x with
    | none => exact absurd q n
    | some o => rw [a.hh _ _ q]; simp)⟩
theorem same_free {F H : Hp} {p : Addr} (h : Same F H) (hp : H p = none) : F p = none := h.free hp
theorem Ext.alloc {F H : Hp} {p : Addr} (h : Same F H) (hp : H p = none) (o : HO) : Ext F H (upd F p o) (upd H p o) :=
  ⟨same_new (h.free hp) o, fun b u e => by
      by_cases q : b = p
      · subst q; rw [upd_same] at e ⊢; exact e
      · rw [upd_ne q] at e ⊢; exact h _ _ e, same_new hp o, fun a e n => by
      have q : a ≠ p := fun z => n (by rw [z]; exact hp)
      rw [upd_ne q]; exact e⟩
theorem Ext.keep {F H : Hp} {p : Addr} (h : Same F H) (hp : H p = none) (o : HO) : Ext F H F (upd H p o) :=
  ⟨.refl _, h.trans (same_new hp o), same_new hp o, fun _ e _ => e⟩
/-- the heap has grown, nothing of it is kept -/
theorem Ext.grow {F H H' : Hp} (h : Same F H) (hh : Same H H') : Ext F H F H' := ⟨.refl _, h.trans hh, hh, fun _ e _ => e⟩

/-- a value; a list or dict of this body's own (p: a loop walks it) -/
inductive SV where
  | val (d : D) | own (p : Bool) (d : D)
/-- the entry; what loops walk -/
structure Bs where
  F0 : Hp
  H0 : Hp
  pa : Nat → Option (Addr × List V)
abbrev SD := List (Option SV)
/-- an object of this body alone -/
def OwnAt (K : PySem.W.Frag) (F H : Hp) (l : Addr) : D → Prop
  | .lst ds => ∃ xs, H l = some (.lst xs) ∧ IsDs K F ds xs
  | .dct ks ds => ∃ xs, H l = some (.dK (ks.zip xs)) ∧ ks.length = xs.length ∧ IsDs K F ds xs
  | .ins c fs ds => ∃ C dx xs, PySem.W.nsIn K mainGlobals c = some (some (.ref C)) ∧ H l = some (.ins C dx (fs.zip xs)) ∧ fs.length = xs.length ∧ IsDs K F ds xs
  | _ => False
theorem OwnAt.has {K : PySem.W.Frag} {F H : Hp} {l : Addr} {d : D} (h : OwnAt K F H l d) : ∃ o, H l = some o := by
  cases d with
  | lst ds => obtain ⟨xs, e, _⟩ := h; exact ⟨_, e⟩
  | dct ks ds => obtain ⟨xs, e, _⟩ := h; exact ⟨_, e⟩
  | ins c fs ds => obtain ⟨C, dx, xs, _, e, _⟩ := h; exact ⟨_, e⟩
  | _ => exact False.elim h
theorem OwnAt.ext {K : PySem.W.Frag} {F H F' H' : Hp} {l : Addr} {d : D} (h : OwnAt K F H l d) (ff : Same F F') (hh : ∀ o, H l = some o → H' l = some o) : OwnAt K F' H' l d := by
  cases d with
  | lst ds => obtain ⟨xs, e, q⟩ := h; exact ⟨xs, hh _ e, IsDs.same ff _ _ q⟩
  | dct ks ds => obtain ⟨xs, e, z, q⟩ := h; exact ⟨xs, hh _ e, z, IsDs.same ff _ _ q⟩
  | ins c fs ds => obtain ⟨C, dx, xs, k, e, z, q⟩ := h; exact ⟨C, dx, xs, k, hh _ e, z, IsDs.same ff _ _ q⟩
  | _ => exact False.elim h
/-- put to what stays -/
theorem OwnAt.frz {K : PySem.W.Frag} {F H : Hp} {l : Addr} {d : D} {o : HO} (h : OwnAt K F H l d) (e : H l = Option.some o) (n : F l = none) : IsD K (upd F l o) d (.ref l) := by
  cases d with
  | lst ds =>
    obtain ⟨xs, e', q⟩ := h
    rw [e] at e'; cases e'
    exact IsD.lst_iff.mpr ⟨l, xs, rfl, .of upd_same, IsDs.same (same_new n _) _ _ q⟩
  | dct ks ds =>
    obtain ⟨xs, e', z, q⟩ := h
    rw [e] at e'; cases e'
    exact IsD.dct_iff.mpr ⟨l, xs, rfl, upd_same, z, IsDs.same (same_new n _) _ _ q⟩
  | ins c fs ds =>
    obtain ⟨C, dx, xs, k, e', z, q⟩ := h
    rw [e] at e'; cases e'
    exact IsD.ins_iff.mpr ⟨l, C, dx, xs, rfl, k, upd_same, z, IsDs.same (same_new n _) _ _ q⟩
  | _ => exact False.elim h
/-- what a loop walks stands as it stood -/
def PinOk (H : Hp) (l : Addr) (o : Option (Addr × List V)) : Prop := ∃ xs, o = some (l, xs) ∧ H l = some (.lst xs)
structure RS (K : PySem.W.Frag) (B : Bs) (F H : Hp) (sd : SD) (σ : St) : Prop where
  ext : Ext B.F0 B.H0 F H
  len : σ.length = sd.length
  val : ∀ {i : Nat} {d : D}, sd[i]? = some (some (.val d)) → ∃ v, σ[i]? = some (some v) ∧ IsD K F d v
  own : ∀ {i : Nat} {p : Bool} {d : D}, sd[i]? = some (some (.own p d)) → ∃ l, σ[i]? = some (some (.ref l)) ∧ B.H0 l = none ∧ F l = none ∧ OwnAt K F H l d ∧ (p = true → PinOk H l (B.pa i))
  apart : ∀ {i j : Nat} {p q : Bool} {d e : D} {l : Addr}, i ≠ j → sd[i]? = some (some (.own p d)) → sd[j]? = some (some (.own q e)) → σ[i]? = some (some (.ref l)) → σ[j]? ≠ some (some (.ref l))
section
variable {K : PySem.W.Frag} {B : Bs} {F H F' H' : Hp} {sd : SD} {σ : St}
theorem PinOk.mono {l : Addr} {o : Option (Addr × List V)} (h : PinOk H l o) (k : ∀ u, H l = some u → H' l = some u) : PinOk H' l o := let ⟨xs, h1, h2⟩ := h; ⟨xs, h1, k _ h2⟩
theorem RS.step (r : RS K B F H sd σ) (e : Ext F H F' H') : RS K B F' H' sd σ where
  ext := r.ext.trans e
  len := r.len
  val := fun h => let ⟨v, h1, h2⟩ := r.val h; ⟨v, h1, IsD.same e.ff _ _ h2⟩
  own := fun h => by
    obtain ⟨l, h1, h2, h3, h4, h5⟩ := r.own h
    obtain ⟨o, ho⟩ := h4.has
    exact ⟨l, h1, h2, e.new l h3 (by rw [ho]; simp), h4.ext e.ff fun o q => e.hh _ _ q, fun p => (h5 p).mono fun u q => e.hh _ _ q⟩
  apart := r.apart
theorem get_set_ne {α : Type} {l : List α} {i j : Nat} {a : α} (h : i ≠ j) : (l.set i a)[j]? = l[j]? := List.getElem?_set_ne h
theorem get_set_eq {α : Type} {l : List α} {i : Nat} {a b : α} (h : (l.set i a)[i]? = some b) : b = a ∧ i < l.length := by
  have hi : i < l.length := by
    have := (List.getElem?_eq_some_iff.mp h).1
    rwa [List.length_set] at this
  rw [List.getElem?_set_self hi] at h
  exact ⟨(Option.some.inj h).symm, hi⟩
theorem RS.setVal {i : Nat} {d : D} {v : V} (r : RS K B F H sd σ) (h : IsD K F d v) : RS K B F H (sd.set i (some (.val d))) (σ.set i (some v)) where
  ext := r.ext
  len := by rw [List.length_set, List.length_set, r.len]
  val := fun {j e} q => by
    by_cases z : i = j
    · subst z
      obtain ⟨e1, hi⟩ := get_set_eq q
      cases e1
      exact ⟨v, List.getElem?_set_self (by rw [r.len]; exact hi), h⟩
    · rw [get_set_ne z] at q ⊢
      exact r.val q
  own := fun {j p e} q => by
    by_cases z : i = j
    · subst z
      obtain ⟨e1, _⟩ := get_set_eq q
      cases e1
    · rw [get_set_ne z] at q ⊢
      exact r.own q
  apart := fun {j k p1 p2 d1 d2 l} n q1 q2 q3 => by
    have z1 : i ≠ j := fun z => by subst z; obtain ⟨e1, _⟩ := get_set_eq q1; cases e1
    have z2 : i ≠ k := fun z => by subst z; obtain ⟨e1, _⟩ := get_set_eq q2; cases e1
    rw [get_set_ne z1] at q1 q3
    rw [get_set_ne z2] at q2 ⊢
    exact r.apart n q1 q2 q3
theorem RS.setOwn {i : Nat} {d : D} {l : Addr} (r : RS K B F H sd σ) (h0 : B.H0 l = none) (hf : F l = none) (h : OwnAt K F H l d) (fr : ∀ (j : Nat) (p : Bool) (e : D), sd[j]? = some (some (SV.own p e)) → σ[j]? ≠ some (some (.ref l))) :
    RS K B F H (sd.set i (some (.own false d))) (σ.set i (some (.ref l))) where
  ext := r.ext
  len := by rw [List.length_set, List.length_set, r.len]
  val := fun {j e} q => by
    by_cases z : i = j
    · subst z
      obtain ⟨e1, _⟩ := get_set_eq q
      cases e1
    · rw [get_set_ne z] at q ⊢
      exact r.val q
  own := fun {j p e} q => by
    by_cases z : i = j
    · subst z
      obtain ⟨e1, hi⟩ := get_set_eq q
      cases e1
      exact ⟨l, List.getElem?_set_self (by rw [r.len]; exact hi), h0, hf, h, fun z => by cases z⟩
    · rw [get_set_ne z] at q ⊢
      exact r.own q
  apart := fun {j k p1 p2 d1 d2 m} n q1 q2 q3 => by
    by_cases z1 : i = j
    · subst z1
      obtain ⟨_, hi⟩ := get_set_eq q1
      rw [get_set_ne n] at q2 ⊢
      rw [List.getElem?_set_self (by rw [r.len]; exact hi)] at q3
      cases q3
      exact fr k p2 d2 q2
    · rw [get_set_ne z1] at q1 q3
      by_cases z2 : i = k
      · subst z2
        obtain ⟨_, hi⟩ := get_set_eq q2
        rw [List.getElem?_set_self (by rw [r.len]; exact hi)]
        intro e
        cases e
        exact fr j p1 d1 q1 q3
      · rw [get_set_ne z2] at q2 ⊢
        exact r.apart n q1 q2 q3
/-- the own object in slot i is changed in its place -/
theorem RS.chg {i : Nat} {p : Bool} {d d' : D} {l : Addr} {o : HO} (r : RS K B F H sd σ) (hi : sd[i]? = some (some (.own p d))) (hl : σ[i]? = some (some (.ref l))) (h : OwnAt K F (upd H l o) l d') :
    RS K B F (upd H l o) (sd.set i (some (.own false d'))) σ := by
  obtain ⟨l', e1, h0, hf, _, _⟩ := r.own hi
  rw [hl] at e1
  cases e1
  have hil : i < sd.length := (List.getElem?_eq_some_iff.mp hi).1
  refine ⟨⟨r.ext.ff, same_upd o r.ext.fh hf, same_upd o r.ext.hh h0, r.ext.new⟩, by rw [List.length_set, r.len], fun {j e} q => ?_, fun {j p e} q => ?_, fun {j k p1 p2 d1 d2 m} n q1 q2 q3 => ?_⟩
  · by_cases z : i = j
    · subst z
      obtain ⟨e1, _⟩ := get_set_eq q
      cases e1
    · rw [get_set_ne z] at q
      exact r.val q
  · by_cases z : i = j
    · subst z
      obtain ⟨e1, _⟩ := get_set_eq q
      cases e1
      exact ⟨l, hl, h0, hf, h, fun z => by cases z⟩
    · rw [get_set_ne z] at q
      obtain ⟨m, m1, m2, m3, m4, m5⟩ := r.own q
      have ne : m ≠ l := fun e => r.apart z hi q hl (by rw [← e]; exact m1)
      exact ⟨m, m1, m2, m3, m4.ext (.refl _) fun u q' => by rw [upd_ne ne]; exact q', fun p => (m5 p).mono fun u q' => by rw [upd_ne ne]; exact q'⟩
  · have g : ∀ {j : Nat} {p : Bool} {e : D}, (sd.set i (some (.own false d')))[j]? = some (some (.own p e)) → ∃ p' e', sd[j]? = some (some (.own p' e')) := fun {j p e} q => by
      by_cases z : i = j
      · subst z; exact ⟨_, d, hi⟩
      · rw [get_set_ne z] at q; exact ⟨p, e, q⟩
    obtain ⟨_, _, p1⟩ := g q1
    obtain ⟨_, _, p2⟩ := g q2
    exact r.apart n p1 p2 q3
/-- the own object in slot i is put to what stays -/
theorem RS.frz1 {i : Nat} {p : Bool} {d : D} (r : RS K B F H sd σ) (hi : sd[i]? = some (some (.own p d))) : ∃ F', Same F F' ∧ RS K B F' H (sd.set i (some (.val d))) σ := by
  obtain ⟨l, hl, h0, hf, ho, _⟩ := r.own hi
  obtain ⟨o, e⟩ := ho.has
  have hil : i < sd.length := (List.getElem?_eq_some_iff.mp hi).1
  have sF : Same F (upd F l o) := same_new hf o
  refine ⟨upd F l o, sF, ⟨r.ext.ff.trans sF, fun b u q => ?_, r.ext.hh, fun a q1 q2 => ?_⟩, by rw [List.length_set, r.len], fun {j x} q => ?_, fun {j p x} q => ?_, fun {j k p1 p2 d1 d2 m} n q1 q2 q3 => ?_⟩
  · by_cases z : b = l
    · subst z; rw [upd_same] at q; cases q; exact e
    · rw [upd_ne z] at q; exact r.ext.fh _ _ q
  · have z : a ≠ l := fun z => q2 (by rw [z]; exact h0)
    rw [upd_ne z]
    exact r.ext.new a q1 q2
  · by_cases z : i = j
    · subst z
      obtain ⟨e1, _⟩ := get_set_eq q
      cases e1
      exact ⟨_, hl, ho.frz e hf⟩
    · rw [get_set_ne z] at q
      obtain ⟨v, v1, v2⟩ := r.val q
      exact ⟨v, v1, IsD.same sF _ _ v2⟩
  · by_cases z : i = j
    · subst z
      obtain ⟨e1, _⟩ := get_set_eq q
      cases e1
    · rw [get_set_ne z] at q
      obtain ⟨m, m1, m2, m3, m4, m5⟩ := r.own q
      have ne : m ≠ l := fun e => r.apart z hi q hl (by rw [← e]; exact m1)
      exact ⟨m, m1, m2, by rw [upd_ne ne]; exact m3, m4.ext sF fun u q' => q', m5⟩
  · have z1 : i ≠ j := fun z => by subst z; obtain ⟨e1, _⟩ := get_set_eq q1; cases e1
    have z2 : i ≠ k := fun z => by subst z; obtain ⟨e1, _⟩ := get_set_eq q2; cases e1
    rw [get_set_ne z1] at q1
    rw [get_set_ne z2] at q2
    exact r.apart n q1 q2 q3
/-- slots put to what stays -/
def frzD : List Nat → SD → SD
  | [], sd => sd
  | i :: is, sd => frzD is (match sd[i]? with
    | some (some (.own _ d)) => sd.set i (some (.val d))
    | _ => sd)
theorem RS.frz : ∀ (is : List Nat) {F : Hp} {sd : SD}, RS K B F H sd σ → ∃ F', Same F F' ∧ RS K B F' H (frzD is sd) σ
  | [], F, sd, r => ⟨F, .refl _, r⟩
  | i :: is, F, sd, r => by
    unfold frzD
    split
    · rename_i p d h
      obtain ⟨F1, s1, r1⟩ := r.frz1 h
      obtain ⟨F2, s2, r2⟩ := RS.frz is r1
      exact ⟨F2, s1.trans s2, r2⟩
    · exact RS.frz is r
end
end L2.DL

namespace L2.DL
open PySem PySem.Spec PyProof.Rows
def ExcIs (K : PySem.W.Frag) (F H : Hp) (c : Str) (fs : List D) (cv : Value) (a : Option Addr) : Prop :=
  ∃ C, cv = .ref C ∧ PySem.W.nsIn K mainGlobals c = some (some (.ref C)) ∧ (fs = [] ∨ ∃ p n d x, fs = [d] ∧ a = some p ∧ H p = some (.xd [(n, x)]) ∧ IsD K F d x)
def XW (K : PySem.W.Frag) (E : XK) (F H : Hp) (c : Str) (fs : List D) : Prop := ∀ cv a F' H', Ext F H F' H' → ExcIs K F' H' c fs cv a → E cv a H'
theorem XW.ext {K : PySem.W.Frag} {E : XK} {F H F' H' : Hp} {c : Str} {fs : List D} (h : XW K E F H c fs) (e : Ext F H F' H') : XW K E F' H' c fs := fun cv a F2 H2 e2 q => h cv a F2 H2 (e.trans e2) q
abbrev FE := SD → Res D
abbrev FT := SD → Res Bool
abbrev FA := SD → Res (List D)
def OkD (K : PySem.W.Frag) (F H : Hp) (Q : VK) (d : D) : Prop := ∀ v F' H', Ext F H F' H' → IsD K F' d v → Q v H'
def OkB (F H : Hp) (Q : Bool → Hp → Prop) (b : Bool) : Prop := ∀ F' H', Ext F H F' H' → Q b H'
def OkA (K : PySem.W.Frag) (F H : Hp) (Q : List V → Hp → Prop) (ds : List D) : Prop := ∀ vs F' H', Ext F H F' H' → IsDs K F' ds vs → Q vs H'
def OkN (K : PySem.W.Frag) (F H : Hp) (Q : VK) (d : D) : Prop := ∀ l F' H', Ext F H F' H' → H l = none → F' l = none → OwnAt K F' H' l d → Q (.ref l) H'
def tD (K : PySem.W.Frag) (E : XK) (f : FE) : TE := fun σ H Q => ∃ B F sd, RS K B F H sd σ ∧ (f sd).need (OkD K F H Q) (XW K E F H)
def tDT (K : PySem.W.Frag) (E : XK) (f : FT) : TT := fun σ H Q => ∃ B F sd, RS K B F H sd σ ∧ (f sd).need (OkB F H Q) (XW K E F H)
def tDA (K : PySem.W.Frag) (E : XK) (f : FA) : TA := fun σ H Q => ∃ B F sd, RS K B F H sd σ ∧ (f sd).need (OkA K F H Q) (XW K E F H)
/-- a new list or dict of one's own -/
def tDN (K : PySem.W.Frag) (E : XK) (f : FE) : TE := fun σ H Q => ∃ B F sd, RS K B F H sd σ ∧ (f sd).need (OkN K F H Q) (XW K E F H)
abbrev QE (X : Cx) (E : XK) (e : Expr) (f : FE) : Prop := PE X e (tD X.K E f)
abbrev QT (X : Cx) (E : XK) (e : Expr) (f : FT) : Prop := PT X e (tDT X.K E f)
abbrev QW (X : Cx) (E : XK) (e : Expr) (f : FT) : Prop := PW X e (tDT X.K E f)
abbrev QA (X : Cx) (E : XK) (es : List Expr) (f : FA) : Prop := PA X es (tDA X.K E f)
abbrev QN (X : Cx) (E : XK) (e : Expr) (f : FE) : Prop := PE X e (tDN X.K E f)
theorem PE.weak {X : Cx} {e : Expr} {t t' : TE} (h : PE X e t) (w : ∀ σ H Q, t' σ H Q → t σ H Q) : PE X e t' := fun pins s σ H Q I q => h pins s σ H Q I (w _ _ _ q)
theorem PT.weak {X : Cx} {e : Expr} {t t' : TT} (h : PT X e t) (w : ∀ σ H Q, t' σ H Q → t σ H Q) : PT X e t' := fun pins s σ H Q I q => h pins s σ H Q I (w _ _ _ q)
theorem PW.weak {X : Cx} {e : Expr} {t t' : TT} (h : PW X e t) (w : ∀ σ H Q, t' σ H Q → t σ H Q) : PW X e t' := fun whole pins s σ H Q I q => h whole pins s σ H Q I (w _ _ _ q)
theorem PA.weak {X : Cx} {e : List Expr} {t t' : TA} (h : PA X e t) (w : ∀ σ H Q, t' σ H Q → t σ H Q) : PA X e t' := fun pos pins s σ H Q I q => h pos pins s σ H Q I (w _ _ _ q)
theorem PS.weak {X : Cx} {e : Stmt} {t t' : TS} (h : PS X e t) (w : ∀ D σ H, t' D σ H → t D σ H) : PS X e t' := fun pins s σ H D I q => h pins s σ H D I (w _ _ _ q)
theorem PSs.weak {X : Cx} {e : List Stmt} {t t' : TS} (h : PSs X e t) (w : ∀ D σ H, t' D σ H → t D σ H) : PSs X e t' := fun pins s σ H D I q => h pins s σ H D I (w _ _ _ q)
theorem PI.weak {X : Cx} {tg e : Expr} {t t' : TI} (h : PI X tg e t) (w : ∀ σ H R, t' σ H R → t σ H R) : PI X tg e t' := fun pins s σ H R I q => h pins s σ H R I (w _ _ _ q)
section
variable {K : PySem.W.Frag} {E : XK} {F H F' H' : Hp}
theorem OkD.ext {Q : VK} {d : D} (h : OkD K F H Q d) (e : Ext F H F' H') : OkD K F' H' Q d := fun v F2 H2 e2 q => h v F2 H2 (e.trans e2) q
theorem OkB.ext {Q : Bool → Hp → Prop} {b : Bool} (h : OkB F H Q b) (e : Ext F H F' H') : OkB F' H' Q b := fun F2 H2 e2 => h F2 H2 (e.trans e2)
theorem OkN.ext {Q : VK} {d : D} (h : OkN K F H Q d) (e : Ext F H F' H') : OkN K F' H' Q d := fun l F2 H2 e2 q => h l F2 H2 (e.trans e2) (same_free e.hh q)
theorem needD {Q : VK} {r : Res D} (h : r.need (OkD K F H Q) (XW K E F H)) (e : Ext F H F' H') : r.need (OkD K F' H' Q) (XW K E F' H') := h.mono (fun _ q => q.ext e) fun _ _ q => q.ext e
theorem needB {Q : Bool → Hp → Prop} {r : Res Bool} (h : r.need (OkB F H Q) (XW K E F H)) (e : Ext F H F' H') : r.need (OkB F' H' Q) (XW K E F' H') := h.mono (fun _ q => q.ext e) fun _ _ q => q.ext e
theorem needN {Q : VK} {r : Res D} (h : r.need (OkN K F H Q) (XW K E F H)) (e : Ext F H F' H') : r.need (OkN K F' H' Q) (XW K E F' H') := h.mono (fun _ q => q.ext e) fun _ _ q => q.ext e
/-- a new one is put to what stays -/
theorem OkD.new {Q : VK} {d : D} (h : OkD K F H Q d) : OkN K F H Q d := fun l F' H' e n n' o => by
  obtain ⟨u, hu⟩ := o.has
  refine h (.ref l) (upd F' l u) H' ⟨e.ff.trans (same_new n' u), fun b v q => ?_, e.hh, fun a q1 q2 => ?_⟩ (o.frz hu n')
  · by_cases z : b = l
    · subst z; rw [upd_same] at q; cases q; exact hu
    · rw [upd_ne z] at q; exact e.fh _ _ q
  · have z : a ≠ l := fun z => q2 (by rw [z]; exact n)
    rw [upd_ne z]; exact e.new a q1 q2
end
section
variable {X : Cx} {E : XK}
theorem QN.qe {e : Expr} {f : FE} (h : QN X E e f) : QE X E e f := PE.weak h fun σ H Q ⟨B, F, sd, r, n⟩ => ⟨B, F, sd, r, n.mono (fun _ q => q.new) fun _ _ q => q⟩

def dVar (i : Nat) : FE := fun sd => match sd[i]? with
  | some (some (.val d)) => .ok d
  | _ => .no
def dC (d : D) : FE := fun _ => .ok d
theorem q_var {i : Nat} {e : Expr} (h : PE X e (tVar i)) : QE X E e (dVar i) := PE.weak h fun σ H Q ⟨B, F, sd, r, n⟩ => by
  unfold dVar at n
  split at n
  · rename_i d q
    obtain ⟨v, h1, h2⟩ := r.val q
    exact ⟨v, h1, n v F H (.refl r.ext.fh) h2⟩
  · exact n.elim
theorem q_const {e : Expr} {v : V} {d : D} (h : PE X e (tC v)) (i : ∀ F, IsD X.K F d v) : QE X E e (dC d) := PE.weak h fun σ H Q ⟨B, F, sd, r, n⟩ => n v F H (.refl r.ext.fh) (i F)
theorem qc_int {i j pos} : QE X E (.Constant (.int i) j pos) (dC (.int i)) := q_const pe_int fun _ => IsD.int_iff.mpr rfl
theorem qc_bl {b j pos} : QE X E (.Constant (.bool b) j pos) (dC (.bl b)) := q_const pe_bl fun _ => IsD.bl_iff.mpr rfl
theorem qc_str {x j pos} : QE X E (.Constant (.str x) j pos) (dC (.str x)) := q_const pe_str fun _ => IsD.str_iff.mpr rfl

def Res.ofO {α : Type} : Option α → Res α
  | some a => .ok a
  | none => .no
@[simp] theorem Res.ofO_some {α : Type} (a : α) : Res.ofO (some a) = .ok a := rfl
theorem Res.need_ofO {α : Type} {o : Option α} {p : α → Prop} {q : Str → List D → Prop} (h : (Res.ofO o).need p q) : ∃ a, o = some a ∧ p a := by
  cases o with
  | none => exact h.elim
  | some a => exact ⟨a, rfl, h⟩
def dOp (g : D → D → Option D) (fa fb : FE) : FE := fun sd => (fa sd).bind fun x => (fb sd).bind fun y => .ofO (g x y)
def dUn (g : D → Option D) (fa : FE) : FE := fun sd => (fa sd).bind fun x => .ofO (g x)
def rD2 (K : PySem.W.Frag) (g : D → D → Option D) : R2 := fun v w H Q => ∃ F d e z, Same F H ∧ IsD K F d v ∧ IsD K F e w ∧ g d e = some z ∧ OkD K F H Q z
def rD2N (K : PySem.W.Frag) (g : D → D → Option D) : R2 := fun v w H Q => ∃ F d e z, Same F H ∧ IsD K F d v ∧ IsD K F e w ∧ g d e = some z ∧ OkN K F H Q z
def rD1 (K : PySem.W.Frag) (g : D → Option D) : V → Hp → VK → Prop := fun v H Q => ∃ F d z, Same F H ∧ IsD K F d v ∧ g d = some z ∧ OkD K F H Q z
def rDA (K : PySem.W.Frag) (g : List D → Option D) : List V → Hp → VK → Prop := fun vs H Q => ∃ F ds z, Same F H ∧ IsDs K F ds vs ∧ g ds = some z ∧ OkD K F H Q z
def rDAN (K : PySem.W.Frag) (g : List D → Option D) : List V → Hp → VK → Prop := fun vs H Q => ∃ F ds z, Same F H ∧ IsDs K F ds vs ∧ g ds = some z ∧ OkN K F H Q z
theorem tD_op {K : PySem.W.Frag} {g : D → D → Option D} {fa fb : FE} {σ : St} {H : Hp} {Q : VK} (h : tD K E (dOp g fa fb) σ H Q) : tOp (rD2 K g) (tD K E fa) (tD K E fb) σ H Q := by
  obtain ⟨B, F, sd, r, n⟩ := h
  refine ⟨B, F, sd, r, (Res.need_bind n).mono (fun x n1 v F1 H1 e1 i1 => ?_) fun _ _ q => q⟩
  refine ⟨B, F1, sd, r.step e1, (Res.need_bind n1).mono (fun y n2 w F2 H2 e2 i2 => ?_) fun _ _ q => q.ext e1⟩
  obtain ⟨z, hz, q⟩ := Res.need_ofO n2
  exact ⟨F2, x, y, z, e2.fh, IsD.same e2.ff _ _ i1, i2, hz, q.ext (e1.trans e2)⟩
theorem tDN_op {K : PySem.W.Frag} {g : D → D → Option D} {fa fb : FE} {σ : St} {H : Hp} {Q : VK} (h : tDN K E (dOp g fa fb) σ H Q) : tOp (rD2N K g) (tD K E fa) (tD K E fb) σ H Q := by
  obtain ⟨B, F, sd, r, n⟩ := h
  refine ⟨B, F, sd, r, (Res.need_bind n).mono (fun x n1 v F1 H1 e1 i1 => ?_) fun _ _ q => q⟩
  refine ⟨B, F1, sd, r.step e1, (Res.need_bind n1).mono (fun y n2 w F2 H2 e2 i2 => ?_) fun _ _ q => q.ext e1⟩
  obtain ⟨z, hz, q⟩ := Res.need_ofO n2
  exact ⟨F2, x, y, z, e2.fh, IsD.same e2.ff _ _ i1, i2, hz, q.ext (e1.trans e2)⟩
theorem tD_un {K : PySem.W.Frag} {g : D → Option D} {fa : FE} {σ : St} {H : Hp} {Q : VK} (h : tD K E (dUn g fa) σ H Q) : tUn (rD1 K g) (tD K E fa) σ H Q := by
  obtain ⟨B, F, sd, r, n⟩ := h
  refine ⟨B, F, sd, r, (Res.need_bind n).mono (fun x n1 v F1 H1 e1 i1 => ?_) fun _ _ q => q⟩
  obtain ⟨z, hz, q⟩ := Res.need_ofO n1
  exact ⟨F1, x, z, e1.fh, i1, hz, q.ext e1⟩
abbrev OpD (X : Cx) (f : Value → Value → Sem Value) (g : D → D → Option D) : Prop := OpR X f (rD2 X.K g)
abbrev OpDN (X : Cx) (f : Value → Value → Sem Value) (g : D → D → Option D) : Prop := OpR X f (rD2N X.K g)
theorem OpR.weak {f : Value → Value → Sem Value} {r r' : R2} (h : OpR X f r) (w : ∀ x y H Q, r' x y H Q → r x y H Q) : OpR X f r' := fun pins s σ H x y v u Q I rx ry q => h pins s σ H x y v u Q I rx ry (w _ _ _ _ q)
theorem UnR.weak {f : Value → Sem Value} {r r' : V → Hp → VK → Prop} (h : UnR X f r) (w : ∀ x H Q, r' x H Q → r x H Q) : UnR X f r' := fun pins s σ H x v Q I rx q => h pins s σ H x v Q I rx (w _ _ _ q)
theorem CallR.weak {f : Value} {r r' : List V → Hp → VK → Prop} (h : CallR X f r) (w : ∀ x H Q, r' x H Q → r x H Q) : CallR X f r' := fun pins s σ H x v Q I rx q => h pins s σ H x v Q I rx (w _ _ _ q)
theorem IxR.weak {r r' : R2} (h : IxR X r) (w : ∀ x y H Q, r' x y H Q → r x y H Q) : IxR X r' := fun value slice pins s σ H x y v u Q I rx ry q e => h value slice pins s σ H x y v u Q I rx ry (w _ _ _ _ q) e
variable {a b : Expr} {fa fb : FE} {pos : Pos}
theorem q_op {op : Operator} {g : D → D → Option D} (ho : OpD X (binaryOp op) g) (ha : QE X E a fa) (hb : QE X E b fb) : QE X E (.BinOp a op b pos) (dOp g fa fb) := PE.weak (pe_op ho ha hb) fun _ _ _ h => tD_op h
theorem q_opN {op : Operator} {g : D → D → Option D} (ho : OpDN X (binaryOp op) g) (ha : QE X E a fa) (hb : QE X E b fb) : QN X E (.BinOp a op b pos) (dOp g fa fb) := PE.weak (pe_op ho ha hb) fun _ _ _ h => tDN_op h
theorem q_un {op : UnaryOp} {g : D → Option D} (ho : UnR X (unaryOp op) (rD1 X.K g)) (ha : QE X E a fa) : QE X E (.UnaryOp op a pos) (dUn g fa) := PE.weak (pe_un ho ha) fun _ _ _ h => tD_un h
theorem q_cmp {op : CmpOp} {g : D → D → Option D} (ho : OpD X (compareOp op) g) (ha : QE X E a fa) (hb : QE X E b fb) (hm : behindInMarks op b = false) : QE X E (.Compare a [op] [b] pos) (dOp g fa fb) := PE.weak (pe_cmpR ho ha hb hm) fun _ _ _ h => tD_op h

def dBool (fa : FE) : FT := fun sd => (fa sd).bind fun x => match x with
  | .bl b => .ok b
  | _ => .no
theorem tDT_bool {K : PySem.W.Frag} {σ : St} {H : Hp} {Q : Bool → Hp → Prop} (h : tDT K E (dBool fa) σ H Q) : tD K E fa σ H (fun x H' => ∃ k, x = .bl k ∧ Q k H') := by
  obtain ⟨B, F, sd, r, n⟩ := h
  refine ⟨B, F, sd, r, (Res.need_bind n).mono (fun x n1 v F1 H1 e1 i1 => ?_) fun _ _ q => q⟩
  cases x with
  | bl k => exact ⟨k, IsD.bl_iff.mp i1, n1 F1 H1 e1⟩
  | _ => exact n1.elim
theorem qt_cmp {op : CmpOp} {g : D → D → Option D} (ho : OpD X (compareOp op) g) (ha : QE X E a fa) (hb : QE X E b fb) (hm : behindInMarks op b = false) : QT X E (.Compare a [op] [b] pos) (dBool (dOp g fa fb)) :=
  PT.weak (pt_cmpR ho ha hb hm) fun σ H Q h => by
    have h := tDT_bool h
    exact tD_op h
theorem qt_val (ha : QE X E a fa) (he : ∀ whole, isTrue a X.env whole = (do let v ← whole; standAt a.pos; holding [v] (truthy v)) := by intro _; rfl) : QT X E a (dBool fa) := PT.weak (pt_val ha he) fun σ H Q q => tDT_bool q
def dNotT (f : FT) : FT := fun sd => (f sd).bind fun b => .ok (!b)
def dAndT (f g : FT) : FT := fun sd => (f sd).bind fun b => if b then g sd else .ok false
def dOrT (f g : FT) : FT := fun sd => (f sd).bind fun b => if b then .ok true else g sd
variable {f g : FT} {rest : List Expr}
theorem qt_not (ha : QT X E a f) : QT X E (.UnaryOp .Not a pos) (dNotT f) := PT.weak (pt_not ha) fun σ H Q ⟨B, F, sd, r, n⟩ =>
  ⟨B, F, sd, r, (Res.need_bind n).mono (fun _ q => q) fun _ _ q => q⟩
theorem qw_and1 (ha : QT X E a f) : QW X E (.BoolOp .And [a] pos) f := pw_and1 ha
theorem qw_or1 (ha : QT X E a f) : QW X E (.BoolOp .Or [a] pos) f := pw_or1 ha
theorem qw_and (ha : QT X E a f) (hb : QW X E (.BoolOp .And (b :: rest) pos) g) : QW X E (.BoolOp .And (a :: b :: rest) pos) (dAndT f g) := PW.weak (pw_and ha hb) fun σ H Q ⟨B, F, sd, r, n⟩ => by
  refine ⟨B, F, sd, r, (Res.need_bind n).mono (fun k n1 F1 H1 e1 => ?_) fun _ _ q => q⟩
  cases k with
  | true => exact ⟨B, F1, sd, r.step e1, needB n1 e1⟩
  | false => exact n1 F1 H1 e1
theorem qw_or (ha : QT X E a f) (hb : QW X E (.BoolOp .Or (b :: rest) pos) g) : QW X E (.BoolOp .Or (a :: b :: rest) pos) (dOrT f g) := PW.weak (pw_or ha hb) fun σ H Q ⟨B, F, sd, r, n⟩ => by
  refine ⟨B, F, sd, r, (Res.need_bind n).mono (fun k n1 F1 H1 e1 => ?_) fun _ _ q => q⟩
  cases k with
  | true => exact n1 F1 H1 e1
  | false => exact ⟨B, F1, sd, r.step e1, needB n1 e1⟩
theorem QW.qt {e : Expr} (h : QW X E e f) : QT X E e f := PW.pt h
def dAndV (fa fb : FE) : FE := fun sd => (dBool fa sd).bind fun b => if b then fb sd else .ok (.bl false)
def dOrV (fa fb : FE) : FE := fun sd => (dBool fa sd).bind fun b => if b then .ok (.bl true) else fb sd
theorem q_one {op} (h : QE X E a fa) : QE X E (.BoolOp op [a] pos) fa := pe_one h
theorem q_and (ha : QE X E a fa) (hb : QE X E (.BoolOp .And (b :: rest) pos) fb) : QE X E (.BoolOp .And (a :: b :: rest) pos) (dAndV fa fb) := PE.weak (pe_and ha hb) fun σ H Q ⟨B, F, sd, r, n⟩ => by
  refine tDT_bool (K := X.K) (E := E) (Q := fun c H1 => if c = true then tD X.K E fb σ H1 Q else Q (.bl false) H1) ⟨B, F, sd, r, (Res.need_bind n).mono (fun k n1 F1 H1 e1 => ?_) fun _ _ q => q⟩
  cases k with
  | true => exact ⟨B, F1, sd, r.step e1, needD n1 e1⟩
  | false => exact n1 _ F1 H1 e1 (IsD.bl_iff.mpr rfl)
theorem q_or (ha : QE X E a fa) (hb : QE X E (.BoolOp .Or (b :: rest) pos) fb) : QE X E (.BoolOp .Or (a :: b :: rest) pos) (dOrV fa fb) := PE.weak (pe_or ha hb) fun σ H Q ⟨B, F, sd, r, n⟩ => by
  refine tDT_bool (K := X.K) (E := E) (Q := fun c H1 => if c = true then Q (.bl true) H1 else tD X.K E fb σ H1 Q) ⟨B, F, sd, r, (Res.need_bind n).mono (fun k n1 F1 H1 e1 => ?_) fun _ _ q => q⟩
  cases k with
  | true => exact n1 _ F1 H1 e1 (IsD.bl_iff.mpr rfl)
  | false => exact ⟨B, F1, sd, r.step e1, needD n1 e1⟩

def dNil : FA := fun _ => .ok []
def dCons (fa : FE) (fr : FA) : FA := fun sd => (fa sd).bind fun x => (fr sd).bind fun xs => .ok (x :: xs)
theorem qa_nil : QA X E [] dNil := PA.weak pa_nil fun σ H Q ⟨B, F, sd, r, n⟩ => n [] F H (.refl r.ext.fh) .nil
theorem qa_cons {e : Expr} {es : List Expr} {fe : FE} {fr : FA} (ha : QE X E e fe) (hr : QA X E es fr) (hs : starEach (e :: es) X.env = (false, eval e X.env) :: starEach es X.env := by rfl) : QA X E (e :: es) (dCons fe fr) :=
  PA.weak (pa_cons ha hr hs) fun σ H Q ⟨B, F, sd, r, n⟩ => by
    refine ⟨B, F, sd, r, (Res.need_bind n).mono (fun x n1 v F1 H1 e1 i1 => ?_) fun _ _ q => q⟩
    refine ⟨B, F1, sd, r.step e1, (Res.need_bind n1).mono (fun xs n2 vs F2 H2 e2 i2 => ?_) fun _ _ q => q.ext e1⟩
    exact n2 _ F2 H2 (e1.trans e2) (.mk (IsD.same e2.ff _ _ i1) i2)
def dLst (fr : FA) : FE := fun sd => (fr sd).bind fun xs => if xs.length ≤ 1000 then .ok (.lst xs) else .no
def dTup (fr : FA) : FE := fun sd => (fr sd).bind fun xs => if xs.length ≤ 1000 then .ok (.tup xs) else .no
theorem q_lst {es : List Expr} {fr : FA} (h : QA X E es fr) : QN X E (.List es pos) (dLst fr) := PE.weak (pe_lst h) fun σ H Q ⟨B, F, sd, r, n⟩ => by
  refine ⟨B, F, sd, r, (Res.need_bind n).mono (fun xs n1 vs F1 H1 e1 i1 => ?_) fun _ _ q => q⟩
  split at n1
  · rename_i hl
    have hz := i1.length
    refine ⟨small (by omega), fun p hp => ?_⟩
    exact n1 p F1 (upd H1 p (.lst vs)) (e1.trans (.keep e1.fh hp _)) (same_free e1.hh hp) (same_free e1.fh hp) ⟨vs, upd_same, i1⟩
  · exact n1.elim
theorem q_tup {es : List Expr} {x1} {fr : FA} (h : QA X E es fr) : QE X E (.Tuple es x1 pos) (dTup fr) := PE.weak (pe_tup h) fun σ H Q ⟨B, F, sd, r, n⟩ => by
  refine ⟨B, F, sd, r, (Res.need_bind n).mono (fun xs n1 vs F1 H1 e1 i1 => ?_) fun _ _ q => q⟩
  split at n1
  · rename_i hl
    have hz := i1.length
    refine ⟨small (by omega), fun p hp => ?_⟩
    have ea := Ext.alloc e1.fh hp (.tup vs)
    exact n1 _ _ _ (e1.trans ea) (IsD.tup_iff.mpr ⟨p, vs, rfl, .of upd_same, IsDs.same ea.ff _ _ i1⟩)
  · exact n1.elim
/-- a def of the text: its function of data -/
def SpD (K : PySem.W.Frag) (Fn : List D → Res D) : Sp := fun vs H Q _ => ∃ F ds, Same F H ∧ IsDs K F ds vs ∧ (Fn ds).need (OkD K F H Q) (XW K E0 F H)
def SpN (K : PySem.W.Frag) (Fn : List D → Res D) : Sp := fun vs H Q _ => ∃ F ds, Same F H ∧ IsDs K F ds vs ∧ (Fn ds).need (OkN K F H Q) (XW K E0 F H)
def dCall (Fn : List D → Res D) (fr : FA) : FE := fun sd => (fr sd).bind Fn
theorem q_fn {name : Str} {k : Nat} {ps : List Str} {Fn : List D → Res D} {p : Pos} {e : Expr} {es : List Expr} {fr : FA} (c : Callee X.prog X.w X.K X.mg X.base name k ps (SpD X.K Fn)) (hr : Room k X.A) (hg : Gl X name) (ha : QA X E0 (e :: es) fr)
    (hdb : (name == ("__debug__" : Str)) = false := by decide) (he : starEach (e :: es) X.env = (false, eval e X.env) :: starEach es X.env := by rfl) (hpl : (backTo pos (starEach es X.env)).any (·.1) = false := by rfl) :
    QE X E0 (.Call (.Name name p) (e :: es) [] pos) (dCall Fn fr) := PE.weak (pe_fn c hr hg ha hdb he hpl) fun σ H Q ⟨B, F, sd, r, n⟩ => by
  refine ⟨B, F, sd, r, (Res.need_bind n).mono (fun xs n1 vs F1 H1 e1 i1 => ?_) fun _ _ q => q⟩
  show SpD X.K Fn (vs ++ []) H1 Q E0
  rw [List.append_nil]
  exact ⟨F1, xs, e1.fh, i1, needD n1 e1⟩
theorem q_fnN {name : Str} {k : Nat} {ps : List Str} {Fn : List D → Res D} {p : Pos} {e : Expr} {es : List Expr} {fr : FA} (c : Callee X.prog X.w X.K X.mg X.base name k ps (SpN X.K Fn)) (hr : Room k X.A) (hg : Gl X name) (ha : QA X E0 (e :: es) fr)
    (hdb : (name == ("__debug__" : Str)) = false := by decide) (he : starEach (e :: es) X.env = (false, eval e X.env) :: starEach es X.env := by rfl) (hpl : (backTo pos (starEach es X.env)).any (·.1) = false := by rfl) :
    QN X E0 (.Call (.Name name p) (e :: es) [] pos) (dCall Fn fr) := PE.weak (pe_fn c hr hg ha hdb he hpl) fun σ H Q ⟨B, F, sd, r, n⟩ => by
  refine ⟨B, F, sd, r, (Res.need_bind n).mono (fun xs n1 vs F1 H1 e1 i1 => ?_) fun _ _ q => q⟩
  show SpN X.K Fn (vs ++ []) H1 Q E0
  rw [List.append_nil]
  exact ⟨F1, xs, e1.fh, i1, needN n1 e1⟩
def dBlt (g : List D → Option D) (fr : FA) : FE := fun sd => (fr sd).bind fun xs => .ofO (g xs)
theorem q_callB {id : String} {x : Str} {p : Pos} {e : Expr} {es : List Expr} {g : List D → Option D} {fr : FA} (hc : CallR X (.builtin id) (rDA X.K g)) (hg : Gl X x) (hm : X.mg x = none) (hv : bootBuiltins x = some (.builtin id)) (ha : QA X E (e :: es) fr) (hn : x ≠ "__name__" := by decide) (hdb : (x == ("__debug__" : Str)) = false := by decide)
    (he : starEach (e :: es) X.env = (false, eval e X.env) :: starEach es X.env := by rfl) (hpl : (backTo pos (starEach es X.env)).any (·.1) = false := by rfl) : QE X E (.Call (.Name x p) (e :: es) [] pos) (dBlt g fr) :=
  PE.weak (pe_callB hc hg hm hv ha hn hdb he hpl) fun σ H Q ⟨B, F, sd, r, n⟩ => by
    refine ⟨B, F, sd, r, (Res.need_bind n).mono (fun xs n1 vs F1 H1 e1 i1 => ?_) fun _ _ q => q⟩
    obtain ⟨z, hz, q⟩ := Res.need_ofO n1
    exact ⟨F1, xs, z, e1.fh, i1, hz, q.ext e1⟩
theorem q_callTy {T : String} {x : Str} {p : Pos} {e : Expr} {es : List Expr} {g : List D → Option D} {fr : FA} (hc : CallR X (.type T) (rDA X.K g)) (hg : Gl X x) (hm : X.mg x = none) (hv : bootBuiltins x = some (.type T)) (ha : QA X E (e :: es) fr) (hn : x ≠ "__name__" := by decide) (hdb : (x == ("__debug__" : Str)) = false := by decide)
    (he : starEach (e :: es) X.env = (false, eval e X.env) :: starEach es X.env := by rfl) (hpl : (backTo pos (starEach es X.env)).any (·.1) = false := by rfl) : QE X E (.Call (.Name x p) (e :: es) [] pos) (dBlt g fr) :=
  PE.weak (pe_callTy hc hg hm hv ha hn hdb he hpl) fun σ H Q ⟨B, F, sd, r, n⟩ => by
    refine ⟨B, F, sd, r, (Res.need_bind n).mono (fun xs n1 vs F1 H1 e1 i1 => ?_) fun _ _ q => q⟩
    obtain ⟨z, hz, q⟩ := Res.need_ofO n1
    exact ⟨F1, xs, z, e1.fh, i1, hz, q.ext e1⟩
theorem q_callTyN {T : String} {x : Str} {p : Pos} {e : Expr} {es : List Expr} {g : List D → Option D} {fr : FA} (hc : CallR X (.type T) (rDAN X.K g)) (hg : Gl X x) (hm : X.mg x = none) (hv : bootBuiltins x = some (.type T)) (ha : QA X E (e :: es) fr) (hn : x ≠ "__name__" := by decide) (hdb : (x == ("__debug__" : Str)) = false := by decide)
    (he : starEach (e :: es) X.env = (false, eval e X.env) :: starEach es X.env := by rfl) (hpl : (backTo pos (starEach es X.env)).any (·.1) = false := by rfl) : QN X E (.Call (.Name x p) (e :: es) [] pos) (dBlt g fr) :=
  PE.weak (pe_callTy hc hg hm hv ha hn hdb he hpl) fun σ H Q ⟨B, F, sd, r, n⟩ => by
    refine ⟨B, F, sd, r, (Res.need_bind n).mono (fun xs n1 vs F1 H1 e1 i1 => ?_) fun _ _ q => q⟩
    obtain ⟨z, hz, q⟩ := Res.need_ofO n1
    exact ⟨F1, xs, z, e1.fh, i1, hz, q.ext e1⟩
def scalD : D → Bool
  | .tup _ => false
  | .lst _ => false
  | .dct _ _ => false
  | .ins _ _ _ => false
  | .exc _ => false
  | .scr _ => false
  | _ => true
theorem IsD.scal {K : PySem.W.Frag} {F F' : Hp} {d : D} {v : V} (s : scalD d = true) (h : IsD K F d v) : IsD K F' d v := by
  cases d with
  | tup _ => cases s
  | lst _ => cases s
  | dct _ _ => cases s
  | ins _ _ _ => cases s
  | exc _ => cases s
  | scr _ => cases s
  | _ => unfold IsD at h ⊢; exact h
/-- an exception that bears nothing -/
def Res.bare {α : Type} (r : Res α) : Res α := match r with
  | .ok a => .ok a
  | .ex c [] => .ex c []
  | _ => .no
theorem Res.need_bare {α : Type} {K : PySem.W.Frag} {F H F1 : Hp} {r : Res α} {p : α → Prop} (sF : Same F H) (h : r.bare.need p (XW K E0 F H)) : r.need p (XW K E0 F1 H) := by
  cases r with
  | ok a => exact h
  | no => exact h
  | ex c fs =>
    cases fs with
    | nil => exact fun cv a F2 H2 e2 ⟨C, h1, h2, _⟩ => h cv none F H2 (.grow sF e2.hh) ⟨C, h1, h2, .inl rfl⟩
    | cons d r => exact h.elim
def dTmp (is : List Nat) (f : FE) : FE := fun sd => (f (frzD is sd)).bare.bind fun d => if scalD d then .ok d else .no
theorem q_tmp {e : Expr} {fe : FE} (is : List Nat) (h : QE X E0 e fe) : QE X E0 e (dTmp is fe) := PE.weak h fun σ H Q ⟨B, F, sd, r, n⟩ => by
  obtain ⟨F1, s1, r1⟩ := r.frz is
  refine ⟨B, F1, _, r1, (Res.need_bare r.ext.fh (Res.need_bind n)).mono (fun d n1 v F2 H2 e2 i2 => ?_) fun c fs q => q⟩
  split at n1
  · rename_i hs
    exact n1 v F H2 (.grow r.ext.fh e2.hh) (i2.scal hs)
  · exact n1.elim
end
end L2.DL

namespace L2.DL
open PySem PySem.Spec PyProof.Rows
inductive Out where
  | next (sd : SD) | ret (d : D) | brk (sd : SD) | cont (sd : SD)
/-- a new one, or a value that bears no address -/
def OkM (K : PySem.W.Frag) (F H : Hp) (Q : VK) (d : D) : Prop := if scalD d = true then OkD K F H Q d else OkN K F H Q d
/-- m: what is given back is a new list or dict of the caller's own, a value, either -/
def RetOk (K : PySem.W.Frag) (m : Option Bool) (B : Bs) (Q : VK) (d : D) : Prop := match m with
  | some true => OkN K B.F0 B.H0 Q d
  | some false => OkD K B.F0 B.H0 Q d
  | none => OkM K B.F0 B.H0 Q d
def OutOk (K : PySem.W.Frag) (m : Option Bool) (B : Bs) (F : Hp) (T : Ends) : Out → Prop
  | .next sd => ∀ σ F' H', Same F F' → RS K B F' H' sd σ → T.nx σ H'
  | .brk sd => ∀ σ F' H', Same F F' → RS K B F' H' sd σ → T.bk σ H'
  | .cont sd => ∀ σ F' H', Same F F' → RS K B F' H' sd σ → T.ct σ H'
  | .ret d => RetOk K m B T.rt d
abbrev FS := SD → Res Out
def tDS (K : PySem.W.Frag) (E : XK) (m : Option Bool) (g : FS) : TS := fun T σ H => ∃ B F sd, RS K B F H sd σ ∧ (g sd).need (OutOk K m B F T) (XW K E B.F0 B.H0)
abbrev QS (X : Cx) (E : XK) (m : Option Bool) (st : Stmt) (g : FS) : Prop := PS X st (tDS X.K E m g)
abbrev QSs (X : Cx) (E : XK) (m : Option Bool) (st : List Stmt) (g : FS) : Prop := PSs X st (tDS X.K E m g)
section
variable {K : PySem.W.Frag} {E : XK} {m : Option Bool} {B : Bs} {F F' H : Hp} {T : Ends}
theorem OutOk.mono {o : Out} (h : OutOk K m B F T o) (e : Same F F') : OutOk K m B F' T o := by
  cases o with
  | next sd => exact fun σ F2 H2 s r => h σ F2 H2 (e.trans s) r
  | brk sd => exact fun σ F2 H2 s r => h σ F2 H2 (e.trans s) r
  | cont sd => exact fun σ F2 H2 s r => h σ F2 H2 (e.trans s) r
  | ret d => exact h
end
section
variable {X : Cx} {E : XK} {m : Option Bool} {st : Stmt} {sts : List Stmt} {g g1 g2 : FS} {pos : Pos}
def sNext : FS := fun sd => .ok (.next sd)
def sSeq (g1 g2 : FS) : FS := fun sd => (g1 sd).bind fun o => match o with
  | .next sd' => g2 sd'
  | o => .ok o
theorem qss_nil : QSs X E m [] sNext := PSs.weak pss_nil fun T σ H ⟨B, F, sd, r, n⟩ => n σ F H (.refl _) r
theorem qss_one (h : QS X E m st g) : QSs X E m [st] g := pss_one h
theorem qss_cons (h1 : QS X E m st g1) (h2 : QSs X E m sts g2) : QSs X E m (st :: sts) (sSeq g1 g2) := PSs.weak (pss_cons h1 h2) fun T σ H ⟨B, F, sd, r, n⟩ => by
  refine ⟨B, F, sd, r, (Res.need_bind n).mono (fun o n1 => ?_) fun _ _ q => q⟩
  cases o with
  | next sd' => exact fun σ' F' H' s r' => ⟨B, F', sd', r', n1.mono (fun o q => q.mono s) fun _ _ q => q⟩
  | ret d => exact n1
  | brk sd' => exact n1
  | cont sd' => exact n1
theorem qs_frz (is : List Nat) (h : QS X E m st g) : QS X E m st (fun sd => g (frzD is sd)) := PS.weak h fun T σ H ⟨B, F, sd, r, n⟩ => by
  obtain ⟨F1, s1, r1⟩ := r.frz is
  exact ⟨B, F1, _, r1, n.mono (fun _ q => q.mono s1) fun _ _ q => q⟩
variable {e : Expr} {fe : FE}
def sSet (i : Nat) (f : FE) : FS := fun sd => (f sd).bind fun d => .ok (.next (sd.set i (some (.val d))))
def sOwn (i : Nat) (f : FE) : FS := fun sd => (f sd).bind fun d => .ok (.next (sd.set i (some (.own false d))))
theorem qs_set {i : Nat} {x : Str} {pos' : Pos} (hN : X.N.Nodup) (hi : X.N[i]? = some x) (hx : Loc X.env.scope x) (he : QE X E e fe) (hs : swapsWith e (some (.Name x pos')) pos.line X.env = pure false := by rfl)
    (hf : X.fn x = true ∨ X.env.scope.names.lookup x = some .local := by first | exact .inl rfl | exact .inr rfl) : QS X E m (.Assign [.Name x pos'] e pos) (sSet i fe) := PS.weak (ps_set hN hi hx he hs hf) fun T σ H ⟨B, F, sd, r, n⟩ => by
  refine ⟨B, F, sd, r, (Res.need_bind n).mono (fun d n1 v F1 H1 e1 i1 => ?_) fun _ _ q => q.ext r.ext⟩
  exact n1 _ F1 H1 e1.ff ((r.step e1).setVal i1)
theorem qs_own {i : Nat} {x : Str} {pos' : Pos} (hN : X.N.Nodup) (hi : X.N[i]? = some x) (hx : Loc X.env.scope x) (he : QN X E e fe) (hs : swapsWith e (some (.Name x pos')) pos.line X.env = pure false := by rfl)
    (hf : X.fn x = true ∨ X.env.scope.names.lookup x = some .local := by first | exact .inl rfl | exact .inr rfl) : QS X E m (.Assign [.Name x pos'] e pos) (sOwn i fe) := PS.weak (ps_set hN hi hx he hs hf) fun T σ H ⟨B, F, sd, r, n⟩ => by
  refine ⟨B, F, sd, r, (Res.need_bind n).mono (fun d n1 l F1 H1 e1 h1 h2 h3 => ?_) fun _ _ q => q.ext r.ext⟩
  refine n1 _ F1 H1 e1.ff ((r.step e1).setOwn (same_free r.ext.hh h1) h2 h3 fun j p d' q1 q2 => ?_)
  obtain ⟨l', p1, _, _, p4, _⟩ := r.own q1
  rw [p1] at q2
  cases q2
  obtain ⟨o, ho⟩ := p4.has
  rw [h1] at ho
  cases ho
def sRet (f : FE) : FS := fun sd => (f sd).bind fun d => .ok (.ret d)
theorem qs_ret (he : QE X E e fe) : QS X E false (.Return (some e) pos) (sRet fe) := PS.weak (ps_ret he) fun T σ H ⟨B, F, sd, r, n⟩ => by
  refine ⟨B, F, sd, r, (Res.need_bind n).mono (fun d n1 v F1 H1 e1 i1 => ?_) fun _ _ q => q.ext r.ext⟩
  exact n1 v F1 H1 (r.ext.trans e1) i1
/-- a new list or dict is given back -/
theorem qs_retN (he : QN X E e fe) : QS X E true (.Return (some e) pos) (sRet fe) := PS.weak (ps_ret he) fun T σ H ⟨B, F, sd, r, n⟩ => by
  refine ⟨B, F, sd, r, (Res.need_bind n).mono (fun d n1 l F1 H1 e1 h1 h2 h3 => ?_) fun _ _ q => q.ext r.ext⟩
  exact n1 l F1 H1 (r.ext.trans e1) (same_free r.ext.hh h1) h2 h3
/-- the own list or dict in slot i is given back -/
def sRetOwn (i : Nat) : FS := fun sd => match sd[i]? with
  | some (some (.own _ d)) => .ok (.ret d)
  | _ => .no
theorem qs_retOwn {i : Nat} (he : PE X e (tVar i)) : QS X E true (.Return (some e) pos) (sRetOwn i) := PS.weak (ps_ret he) fun T σ H ⟨B, F, sd, r, n⟩ => by
  unfold sRetOwn at n
  split at n
  · rename_i d q
    obtain ⟨l, h1, h2, h3, h4, _⟩ := r.own q
    exact ⟨.ref l, h1, n l F H r.ext h2 h3 h4⟩
  · exact n.elim
def sDrop (f : FE) : FS := fun sd => (f sd).bind fun _ => .ok (.next sd)
theorem qs_expr (he : QE X E e fe) (hs : swapsWith e none pos.line X.env = pure false := by rfl) : QS X E m (.Expr e pos) (sDrop fe) := PS.weak (ps_expr he hs) fun T σ H ⟨B, F, sd, r, n⟩ => by
  refine ⟨B, F, sd, r, (Res.need_bind n).mono (fun d n1 v F1 H1 e1 i1 => ?_) fun _ _ q => q.ext r.ext⟩
  exact n1 σ F1 H1 e1.ff (r.step e1)
def sIf (c : FT) (g1 g2 : FS) : FS := fun sd => (c sd).bind fun b => if b then g1 sd else g2 sd
theorem qs_if {c : Expr} {a b : List Stmt} {fc : FT} (hc : QT X E c fc) (ha : QSs X E m a g1) (hb : QSs X E m b g2) : QS X E m (.If c a b pos) (sIf fc g1 g2) := PS.weak (ps_if hc ha hb) fun T σ H ⟨B, F, sd, r, n⟩ => by
  refine ⟨B, F, sd, r, (Res.need_bind n).mono (fun b n1 F1 H1 e1 => ?_) fun _ _ q => q.ext r.ext⟩
  cases b with
  | true => exact ⟨B, F1, sd, r.step e1, n1.mono (fun _ q => q.mono e1.ff) fun _ _ q => q⟩
  | false => exact ⟨B, F1, sd, r.step e1, n1.mono (fun _ q => q.mono e1.ff) fun _ _ q => q⟩

def sAppend (i : Nat) (f : FE) : FS := fun sd => match sd[i]? with
  | some (some (.own false (.lst ds))) => (f sd).bind fun d => if ds.length < sizeLine then .ok (.next (sd.set i (some (.own false (.lst (ds ++ [d])))))) else .no
  | _ => .no
theorem qs_append {i : Nat} {o : Expr} {apos cpos : Pos} (ho : PE X o (tVar i)) (he : QE X E e fe)
    (hp : ∀ {to : TE} {t : TA}, PE X o to → PA X [e] t → PE X (.Call (.Attribute o "append" apos) [e] [] cpos) (tBM X.K "list" rAppend to t))
    (hs : swapsWith (.Call (.Attribute o "append" apos) [e] [] cpos) none pos.line X.env = pure false := by rfl)
    (hst : starEach [e] X.env = (false, eval e X.env) :: starEach [] X.env := by rfl) : QS X E m (.Expr (.Call (.Attribute o "append" apos) [e] [] cpos) pos) (sAppend i fe) :=
  PS.weak (ps_expr (hp ho (qa_cons he qa_nil hst)) hs) fun T σ H ⟨B, F, sd, r, n⟩ => by
    unfold sAppend at n
    split at n
    · rename_i ds hi
      obtain ⟨l, h1, h2, h3, ⟨xs, h4, h5⟩, _⟩ := r.own hi
      refine ⟨.ref l, h1, .inl ⟨rfl, xs, SqL.of h4⟩, B, F, sd, r, ?_⟩
      unfold dCons dNil
      show ((fe sd).bind fun x => .ok [x]).need _ _
      have n2 := Res.need_bind n
      cases q : fe sd with
      | no => rw [q] at n2; exact n2
      | ex c fs => rw [q] at n2; exact n2.ext r.ext
      | ok d =>
        rw [q] at n2
        intro vs F1 H1 e1 i1
        rw [IsDs.cons_iff] at i1
        obtain ⟨v, w, rfl, i2, i3⟩ := i1
        rw [IsDs.nil_iff] at i3
        subst i3
        have n3 : (if ds.length < sizeLine then Res.ok (Out.next (sd.set i (some (.own false (.lst (ds ++ [d])))))) else .no).need (OutOk X.K m B F T) (XW X.K E B.F0 B.H0) := n2
        split at n3
        · rename_i hz
          have hl := h5.length
          refine ⟨l, xs, v, rfl, rfl, e1.hh _ _ h4, by omega, ?_⟩
          have r1 := r.step e1
          exact n3 σ F1 _ e1.ff (r1.chg hi h1 ⟨xs ++ [v], upd_same, (IsDs.same e1.ff _ _ h5).snoc i2⟩)
        · exact n3.elim
    · exact n.elim

inductive Tg where
  | one (i : Nat) | tup (is : List Nat)
def setAll : List Nat → List D → SD → SD
  | i :: is, d :: ds, sd => setAll is ds (sd.set i (some (.val d)))
  | _, _, sd => sd
def bindT : Tg → D → SD → Res SD
  | .one i, d, sd => .ok (sd.set i (some (.val d)))
  | .tup is, .tup ds, sd => if ds.length = is.length then .ok (setAll is ds sd) else .no
  | _, _, _ => .no
def setAllV : List Nat → List V → St → St
  | i :: is, v :: vs, σ => setAllV is vs (σ.set i (some v))
  | _, _, σ => σ
theorem RS.setAll {K : PySem.W.Frag} {B : Bs} {F H : Hp} : ∀ {is : List Nat} {ds : List D} {vs : List V} {sd : SD} {σ : St}, RS K B F H sd σ → IsDs K F ds vs → RS K B F H (setAll is ds sd) (setAllV is vs σ)
  | [], ds, vs, sd, σ, r, _ => r
  | i :: is, [], vs, sd, σ, r, h => by
    rw [IsDs.nil_iff] at h
    subst h
    exact r
  | i :: is, d :: ds, vs, sd, σ, r, h => by
    rw [IsDs.cons_iff] at h
    obtain ⟨v, w, rfl, h1, h2⟩ := h
    exact RS.setAll (is := is) (ds := ds) (vs := w) (r.setVal (i := i) h1) h2
/-- slots forgotten -/
theorem RS.forget {K : PySem.W.Frag} {B : Bs} {F H : Hp} {sd sd' : SD} {σ : St} (r : RS K B F H sd σ) (hl : sd'.length = sd.length) (h : ∀ (i : Nat) (x : SV), sd'[i]? = some (some x) → sd[i]? = some (some x)) : RS K B F H sd' σ :=
  ⟨r.ext, by rw [r.len, hl], fun q => r.val (h _ _ q), fun q => r.own (h _ _ q), fun n q1 q2 q3 => r.apart n (h _ _ q1) (h _ _ q2) q3⟩
def gT : Tg → PySem.W.Frag → TG
  | .one i, _ => gName i
  | .tup is, K => fun v σ H Q => ∃ a xs, v = .ref a ∧ SqT K H a xs ∧ xs.length = is.length ∧ Q (setAllV is xs σ) H
theorem gT_ok {K : PySem.W.Frag} {tg : Tg} {B : Bs} {F H : Hp} {sd : SD} {σ : St} {d : D} {v : V} {p : SD → Prop} {q : Str → List D → Prop} {Q : St → Hp → Prop} (r : RS K B F H sd σ) (hi : IsD K F d v) (n : (bindT tg d sd).need p q)
    (h : ∀ sd' σ', p sd' → bindT tg d sd = .ok sd' → RS K B F H sd' σ' → Q σ' H) : gT tg K v σ H Q := by
  cases tg with
  | one i => exact h _ _ n rfl (r.setVal hi)
  | tup is =>
    cases d with
    | tup ds =>
      rw [IsD.tup_iff] at hi
      obtain ⟨a, xs, rfl, h1, h2⟩ := hi
      have eb : bindT (.tup is) (.tup ds) sd = if ds.length = is.length then .ok (setAll is ds sd) else .no := rfl
      by_cases hl : ds.length = is.length
      · rw [if_pos hl] at eb
        rw [eb] at n
        exact ⟨a, xs, rfl, (h1.same r.ext.fh).sq, by rw [h2.length, hl], h _ _ n eb (r.setAll h2)⟩
      · rw [if_neg hl] at eb
        rw [eb] at n
        exact n.elim
    | _ => exact n.elim
abbrev QG (X : Cx) (e : Expr) (tg : Tg) : Prop := PG X e (gT tg X.K)

def Walk (K : PySem.W.Frag) (F1 : Hp) (J : It) (ds : List D) : Prop := ∀ (i : Nat) (F2 H2 : Hp), Same F1 F2 → Same F2 H2 →
  (i < ds.length → J.go i H2 ∧ ∀ x H3, J.yld i H2 x H3 → ∃ d F3, ds[i]? = some d ∧ Ext F2 H2 F3 H3 ∧ IsD K F3 d x) ∧ (ds.length ≤ i → J.stop i H2)
def tDI (K : PySem.W.Frag) (E : XK) (f : FA) : TI := fun σ H R => ∃ B F sd, RS K B F H sd σ ∧ (f sd).need (fun ds => ∀ J F' H', Ext F H F' H' → Walk K F' J ds → R J H') (XW K E F H)
abbrev QI (X : Cx) (E : XK) (tg iter : Expr) (f : FA) : Prop := PI X tg iter (tDI X.K E f)
def forD (b : D → FS) : List D → FS
  | [], sd => .ok (.next sd)
  | x :: xs, sd => (b x sd).bind fun o => match o with
    | .next sd' => forD b xs sd'
    | .cont sd' => forD b xs sd'
    | .brk sd' => .ok (.next sd')
    | .ret d => .ok (.ret d)
def sFor (it : FA) (tg : Tg) (b : FS) : FS := fun sd => (it sd).bind fun ds => forD (fun x sd => (bindT tg x sd).bind b) ds sd
theorem qs_for {tg iter : Expr} {body : List Stmt} {fi : FA} {t : Tg} (hp : PassesOwn (model X.prog X.w) X.A X.env X.xe) (hc : X.calm = true) (hi : QI X E tg iter fi) (hg : QG X tg t) (hb : QSs X E m body g)
    (hss : ∀ x, foldedSetIterable iter X.env x = pure x := by intro _; rfl) : QS X E m (.For tg iter body [] pos) (sFor fi t g) := PS.weak (ps_for hp hc hi hg hb hss) fun T σ H ⟨B, F, sd, r, n⟩ => by
  refine ⟨B, F, sd, r, (Res.need_bind n).mono (fun ds n1 J F1 H1 e1 wk => ?_) fun _ _ q => q.ext r.ext⟩
  refine ⟨fun i k σ H => k = ds.length - i ∧ i ≤ ds.length ∧ ∃ F2 sd, Same F1 F2 ∧ RS X.K B F2 H sd σ ∧ (forD (fun x sd => (bindT t x sd).bind g) (ds.drop i) sd).need (OutOk X.K m B F2 T) (XW X.K E B.F0 B.H0),
    ⟨ds.length, rfl, Nat.zero_le _, F1, sd, .refl _, r.step e1, n1.mono (fun _ q => q.mono e1.ff) fun _ _ q => q⟩, ?_⟩
  rintro i k σ2 H2 ⟨rfl, hi, F2, sd2, s2, r2, n2⟩
  obtain ⟨w1, w2⟩ := wk i F2 H2 s2 r2.ext.fh
  by_cases hlt : i < ds.length
  · obtain ⟨go, yl⟩ := w1 hlt
    refine .inr ⟨go, fun σ' H' => ∃ F3 sd3, Same F1 F3 ∧ RS X.K B F3 H' sd3 σ' ∧ (forD (fun x sd => (bindT t x sd).bind g) (ds.drop (i + 1)) sd3).need (OutOk X.K m B F3 T) (XW X.K E B.F0 B.H0),
      fun σ' H' ⟨F3, sd3, q1, q2, q3⟩ => ⟨ds.length - (i + 1), by omega, rfl, hlt, F3, sd3, q1, q2, q3⟩, fun x H3 y => ?_⟩
    obtain ⟨d, F3, hd, e3, i3⟩ := yl x H3 y
    rw [List.drop_eq_getElem_cons hlt] at n2
    have hd' : ds[i] = d := by rw [List.getElem?_eq_getElem hlt] at hd; exact Option.some.inj hd
    rw [hd'] at n2
    have r3 := r2.step e3
    unfold forD at n2
    have n3 := Res.need_bind (Res.need_bind n2)
    refine gT_ok r3 i3 n3 fun sd' σ' n4 _ r4 => ?_
    refine ⟨B, F3, sd', r4, n4.mono (fun o n5 => ?_) fun _ _ q => q⟩
    cases o with
    | next sd5 => exact fun σ5 F5 H5 s5 r5 => ⟨F5, sd5, (s2.trans e3.ff).trans s5, r5, n5.mono (fun _ q => q.mono (e3.ff.trans s5)) fun _ _ q => q⟩
    | cont sd5 => exact fun σ5 F5 H5 s5 r5 => ⟨F5, sd5, (s2.trans e3.ff).trans s5, r5, n5.mono (fun _ q => q.mono (e3.ff.trans s5)) fun _ _ q => q⟩
    | brk sd5 => exact fun σ5 F5 H5 s5 r5 => n5 σ5 F5 H5 (e3.ff.trans s5) r5
    | ret d => exact n5
  · have he : i = ds.length := by omega
    refine .inl ⟨w2 (by omega), ?_⟩
    subst he
    rw [List.drop_length] at n2
    exact n2 σ2 F2 H2 (.refl _) r2

def mapD {α β : Type} (f : α → Res β) : List α → Res (List β)
  | [] => .ok []
  | x :: xs => (f x).bind fun y => (mapD f xs).bind fun ys => .ok (y :: ys)
def capD (cap : List (Option Nat)) (sd : SD) : SD := cap.map fun o => o.bind fun j => match sd[j]? with
  | some (some (.val d)) => some (.val d)
  | _ => none
def noneAt (sd : SD) (i : Nat) : Bool := match sd[i]? with
  | some none => true
  | _ => false
def tgNone (sd : SD) : Tg → Bool
  | .one i => noneAt sd i
  | .tup is => is.all (noneAt sd)
def dComp (cap : List (Option Nat)) (it : FA) (tg : Tg) (f : FE) : FE := fun sd => (it sd).bind fun ds => if tgNone (capD cap sd) tg = true ∧ ds.length < sizeLine then
  (mapD (fun x => (bindT tg x (capD cap sd)).bind f) ds).bind fun ys => .ok (.lst ys) else .no
theorem RS.cap {K : PySem.W.Frag} {B : Bs} {F H : Hp} {sd : SD} {σ : St} (cap : List (Option Nat)) (r : RS K B F H sd σ) : RS K B F H (capD cap sd) (capSt cap σ) := by
  have key : ∀ {i : Nat} {x : SV}, (capD cap sd)[i]? = some (some x) → ∃ j d, cap[i]? = some (some j) ∧ sd[j]? = some (some (.val d)) ∧ x = .val d := fun {i x} q => by
    unfold capD at q
    rw [List.getElem?_map] at q
    cases hc : cap[i]? with
    | none => rw [hc] at q; cases q
    | some o =>
      rw [hc] at q
      cases o with
      | none => cases q
      | some j =>
        have q : (match sd[j]? with
          | some (some (.val d)) => some (SV.val d)
          | _ => none) = some x := Option.some.inj q
        split at q
        · rename_i d hd
          exact ⟨j, d, rfl, hd, (Option.some.inj q).symm⟩
        · cases q
  refine ⟨r.ext, by unfold capD capSt; rw [List.length_map, List.length_map], fun {i d} q => ?_, fun {i p d} q => ?_, fun {i j p p' d e l} _ q => ?_⟩
  · obtain ⟨j, d', h1, h2, h3⟩ := key q
    cases h3
    obtain ⟨v, v1, v2⟩ := r.val h2
    refine ⟨v, ?_, v2⟩
    unfold capSt
    rw [List.getElem?_map, h1]
    show some (Option.bind (some j) fun j => (σ[j]?).join) = _
    rw [Option.bind_some, v1]
    rfl
  · obtain ⟨j, d', h1, h2, h3⟩ := key q
    cases h3
  · obtain ⟨j, d', h1, h2, h3⟩ := key q
    cases h3
theorem setAll_some : ∀ (is : List Nat) (ds : List D) (sd0 sd : SD), is.all (noneAt sd0) = true → sd.length = sd0.length → (∀ (i : Nat) (x : SV), sd0[i]? = some (some x) → sd[i]? = some (some x)) →
    (setAll is ds sd).length = sd0.length ∧ ∀ (i : Nat) (x : SV), sd0[i]? = some (some x) → (setAll is ds sd)[i]? = some (some x)
  | [], ds, sd0, sd, _, hl, h => ⟨hl, h⟩
  | i :: is, [], sd0, sd, _, hl, h => ⟨hl, h⟩
  | i :: is, d :: ds, sd0, sd, hn, hl, h => by
    rw [List.all_cons, Bool.and_eq_true] at hn
    refine setAll_some is ds sd0 (sd.set i (some (.val d))) hn.2 (by rw [List.length_set, hl]) fun j x q => ?_
    have ne : i ≠ j := fun z => by
      subst z
      have := hn.1
      unfold noneAt at this
      rw [q] at this
      cases this
    rw [get_set_ne ne]
    exact h j x q
theorem bindT_some {tg : Tg} {sd0 sd : SD} {d : D} (hn : tgNone sd0 tg = true) (h : bindT tg d sd0 = .ok sd) : sd0.length = sd.length ∧ ∀ (i : Nat) (x : SV), sd0[i]? = some (some x) → sd[i]? = some (some x) := by
  cases tg with
  | one i =>
    cases h
    have := setAll_some [i] [d] sd0 sd0 (by rw [List.all_cons, List.all_nil, Bool.and_true]; exact hn) rfl fun _ _ q => q
    exact ⟨this.1.symm, this.2⟩
  | tup is =>
    cases d with
    | tup ds =>
      have eb : bindT (.tup is) (.tup ds) sd0 = if ds.length = is.length then .ok (setAll is ds sd0) else .no := rfl
      rw [eb] at h
      split at h
      · cases h
        have := setAll_some is ds sd0 sd0 hn rfl fun _ _ q => q
        exact ⟨this.1.symm, this.2⟩
      · cases h
    | _ => cases h
theorem mapD_drop {α β : Type} {f : α → Res β} {xs : List α} {i : Nat} {x : α} {p : List β → Prop} {q : Str → List D → Prop} (hx : xs[i]? = some x) (h : (mapD f (xs.drop i)).need p q) : (f x).need (fun y => (mapD f (xs.drop (i + 1))).need (fun ys => p (y :: ys)) q) q := by
  have hlt : i < xs.length := (List.getElem?_eq_some_iff.mp hx).1
  rw [List.drop_eq_getElem_cons hlt] at h
  have e : xs[i] = x := by rw [List.getElem?_eq_getElem hlt] at hx; exact Option.some.inj hx
  rw [e] at h
  unfold mapD at h
  refine (Res.need_bind h).mono (fun y h1 => ?_) fun _ _ z => z
  exact (Res.need_bind h1).mono (fun ys h2 => h2) fun _ _ z => z
theorem tDN_comp {K : PySem.W.Frag} {t : Tg} {fi : FA} {f : FE} {cap : List (Option Nat)} {σ : St} {H : Hp} {Q : VK} (hh : tDN K E (dComp cap fi t f) σ H Q) : tComp cap (tDI K E fi) (gT t K) (tD K E f) σ H Q := by
  obtain ⟨B, F, sd, r, n⟩ := hh
  refine ⟨B, F, sd, r, (Res.need_bind n).mono (fun ds n1 J F1 H1 e1 wk => ?_) fun _ _ q => q⟩
  split at n1
  · rename_i hh
    obtain ⟨hn, hz⟩ := hh
    refine ⟨fun i k ys σ H2 => k = ds.length - i ∧ i ≤ ds.length ∧ ∃ F2 es, Ext F1 H1 F2 H2 ∧ RS K B F2 H2 (capD cap sd) σ ∧ IsDs K F2 es ys ∧ es.length = i ∧
      (mapD (fun x => (bindT t x (capD cap sd)).bind f) (ds.drop i)).need (fun rs => OkN K F2 H2 Q (.lst (es ++ rs))) (XW K E F2 H2), ⟨ds.length, rfl, Nat.zero_le _, F1, [], .refl e1.fh, (r.step e1).cap cap, .nil, rfl, ?_⟩, ?_⟩
    · exact (Res.need_bind n1).mono (fun rs q => (show OkN K F H Q (.lst rs) from q).ext e1) fun _ _ q => q.ext e1
    rintro i k ys σ2 H2 ⟨rfl, hi, F2, es, e2, r2, i2, hl, n2⟩
    have ly := i2.length
    refine ⟨by omega, ?_⟩
    obtain ⟨w1, w2⟩ := wk i F2 H2 e2.ff e2.fh
    by_cases hlt : i < ds.length
    · obtain ⟨go, yl⟩ := w1 hlt
      refine .inr ⟨go, fun x H3 y => ?_⟩
      obtain ⟨d, F3, hd, e3, i3⟩ := yl x H3 y
      have n3 := mapD_drop hd n2
      have r3 := r2.step e3
      refine gT_ok (K := K) r3 i3 (Res.need_bind n3) fun sd' σ' n4 hb r4 => ?_
      obtain ⟨b1, b2⟩ := bindT_some hn hb
      refine ⟨B, F3, sd', r4, n4.mono (fun y n5 v F4 H4 e4 i4 => ?_) fun _ _ q => q.ext e3⟩
      refine ⟨ds.length - (i + 1), by omega, rfl, hlt, F4, es ++ [y], (e2.trans e3).trans e4, (r4.step e4).forget b1 b2, (IsDs.same (e3.ff.trans e4.ff) _ _ i2).snoc i4, by rw [List.length_append, hl]; rfl, ?_⟩
      refine n5.mono (fun rs q => ?_) fun _ _ q => q.ext (e3.trans e4)
      rw [List.append_assoc]
      exact q.ext (e3.trans e4)
    · have he : i = ds.length := by omega
      subst he
      refine .inl ⟨w2 (Nat.le_refl _), fun D hD => ?_⟩
      rw [List.drop_length] at n2
      have q : OkN K F2 H2 Q (.lst (es ++ [])) := n2
      rw [List.append_nil] at q
      exact q D F2 _ (.keep r2.ext.fh hD _) hD (same_free r2.ext.fh hD) ⟨ys, upd_same, i2⟩
  · exact n1.elim

theorem q_comp {tg iter elt : Expr} {scope : Scope} {t : Tg} {fi : FA} {f : FE} (N : List Str) (cap : List (Option Nat)) (hc : X.calm = true) (okB : compOkB scope X.env N X.N cap = true) (hi : QI X E tg iter fi)
    (hg : ∀ cl C s H ex, QG (cxComp X scope N cl C s H ex) tg t) (he : ∀ cl C s H ex, QE (cxComp X scope N cl C s H ex) E elt f) (hs : ∀ x, foldedSetIterable iter X.env x = pure x := by intro _; rfl) :
    QN X E (.ListComp elt [⟨tg, iter, [], 0⟩] scope pos) (dComp cap fi t f) := PE.weak (pe_comp (g := gT t X.K) (te := tD X.K E f) N cap hc okB hi hg he hs) fun _ _ _ h => tDN_comp h

def startD (n : Nat) (ds : List D) : SD := ds.map (fun d => some (.val d)) ++ List.replicate (n - ds.length) none
def runD (n ar : Nat) (g : FS) (ds : List D) : Res D := if ds.length = ar then (g (startD n ds)).bind fun o => match o with
  | .ret d => .ok d
  | .next _ => .ok .non
  | _ => .no else .no
def runN (n ar : Nat) (g : FS) (ds : List D) : Res D := if ds.length = ar then (g (startD n ds)).bind fun o => match o with
  | .ret d => .ok d
  | _ => .no else .no
theorem RS.start {K : PySem.W.Frag} {F H : Hp} {N : List Str} {ds : List D} {vs : List V} (s : Same F H) (h : IsDs K F ds vs) : RS K ⟨F, H, fun _ => none⟩ F H (startD N.length ds) (start N vs) := by
  have key : ∀ {i : Nat} {x : SV}, (startD N.length ds)[i]? = some (some x) → ∃ d, ds[i]? = some d ∧ x = .val d := fun {i x} q => by
    unfold startD at q
    by_cases hi : i < ds.length
    · rw [List.getElem?_append_left (by rw [List.length_map]; exact hi), List.getElem?_map, List.getElem?_eq_getElem hi] at q
      exact ⟨ds[i], List.getElem?_eq_getElem hi, (Option.some.inj (Option.some.inj q)).symm⟩
    · rw [List.getElem?_append_right (by rw [List.length_map]; omega), List.getElem?_replicate] at q
      split at q <;> cases q
  refine ⟨.refl s, by unfold startD L2.start; simp [h.length], fun {i d} q => ?_, fun {i p d} q => ?_, fun {i j p p' d e l} _ q => ?_⟩
  · obtain ⟨d', h1, h2⟩ := key q
    cases h2
    obtain ⟨v, v1, v2⟩ := h.get h1
    refine ⟨v, ?_, v2⟩
    unfold L2.start
    rw [List.getElem?_append_left (by rw [List.length_map]; exact (List.getElem?_eq_some_iff.mp v1).1), List.getElem?_map, v1]
    rfl
  · obtain ⟨_, _, h2⟩ := key q
    cases h2
  · obtain ⟨_, _, h2⟩ := key q
    cases h2
section
variable {P : Program} {w : World} {K : PySem.W.Frag} {mg : Str → Option Value} {base : Heap} {x qual : Str} {f : Addr} {fd : FuncData} {N ps : List Str} {k : Nat}
theorem fn_d {g : FS} (F : Fun K x qual st f fd) (S : FnScope N ps (defScope st))
    (hb : ∀ (cdv : Value) (A : Around) (outer : List Env) (s : Shared) (H : Hp) (E : XK), Room k (A.deeper (envOfC qual (defScope st) s.heap.objs.size f cdv)) → QSs (cxOf CX0 P w K mg base N qual (defScope st) f cdv A outer s H E).nox E0 false (defBody st) g) :
    FnOk P w K mg base CX0 (k + 1) f fd ps (SpD K (runD N.length ps.length g)) := by
  refine F.ok S (fun vs H Q E ⟨F, ds, _, h, n⟩ => ?_) fun cdv A outer s H vs Q E hr ⟨F, ds, hs, h, n⟩ => ⟨_, hb cdv A outer s H E hr, ?_⟩
  · unfold runD at n
    split at n
    · rw [h.length]; assumption
    · exact n.elim
  · unfold runD at n
    split at n
    · refine ⟨⟨F, H, fun _ => none⟩, F, _, RS.start hs h, (Res.need_bind n).mono (fun o n1 => ?_) fun _ _ q => q⟩
      cases o with
      | next sd => exact fun σ F' H' _ r => n1 .non F' H' r.ext (IsD.non_iff.mpr rfl)
      | ret d => exact n1
      | brk sd => exact n1.elim
      | cont sd => exact n1.elim
    · exact n.elim
theorem fn_n {g : FS} (F : Fun K x qual st f fd) (S : FnScope N ps (defScope st))
    (hb : ∀ (cdv : Value) (A : Around) (outer : List Env) (s : Shared) (H : Hp) (E : XK), Room k (A.deeper (envOfC qual (defScope st) s.heap.objs.size f cdv)) → QSs (cxOf CX0 P w K mg base N qual (defScope st) f cdv A outer s H E).nox E0 true (defBody st) g) :
    FnOk P w K mg base CX0 (k + 1) f fd ps (SpN K (runN N.length ps.length g)) := by
  refine F.ok S (fun vs H Q E ⟨F, ds, _, h, n⟩ => ?_) fun cdv A outer s H vs Q E hr ⟨F, ds, hs, h, n⟩ => ⟨_, hb cdv A outer s H E hr, ?_⟩
  · unfold runN at n
    split at n
    · rw [h.length]; assumption
    · exact n.elim
  · unfold runN at n
    split at n
    · refine ⟨⟨F, H, fun _ => none⟩, F, _, RS.start hs h, (Res.need_bind n).mono (fun o n1 => ?_) fun _ _ q => q⟩
      cases o with
      | next sd => exact n1.elim
      | ret d => exact n1
      | brk sd => exact n1.elim
      | cont sd => exact n1.elim
    · exact n.elim
end
end
end L2.DL

namespace L2.DL
open PySem PySem.Spec PyProof.Rows
def prD (p : Int × Int) : D := .tup [.int p.1, .int p.2]
def rwD (r : List (Int × Int)) : D := .tup (r.map prD)
def allOf {α : Type} (f : D → Option α) : List D → Option (List α)
  | [] => some []
  | d :: ds => (f d).bind fun x => (allOf f ds).map fun xs => x :: xs
def intOf : D → Option Int
  | .int i => some i
  | _ => none
theorem allOf_map {α β : Type} {f : D → Option α} {g : β → D} {k : β → α} (h : ∀ x, f (g x) = some (k x)) : ∀ l : List β, allOf f (l.map g) = some (l.map k)
  | [] => rfl
  | x :: r => by rw [List.map_cons]; unfold allOf; rw [h, allOf_map h r]; rfl
theorem allOf_inv {α : Type} {f : D → Option α} {g : α → D} (h : ∀ d x, f d = some x → d = g x) : ∀ {ds : List D} {l : List α}, allOf f ds = some l → ds = l.map g
  | [], l, e => by cases e; rfl
  | d :: ds, l, e => by
    unfold allOf at e
    cases h1 : f d with
    | none => rw [h1] at e; cases e
    | some x =>
      cases h2 : allOf f ds with
      | none => rw [h1, h2] at e; cases e
      | some xs =>
        rw [h1, h2] at e
        cases e
        rw [List.map_cons, ← h d x h1, ← allOf_inv h h2]
theorem intOf_inv {d : D} {i : Int} (h : intOf d = some i) : d = .int i := by
  cases d with
  | int j => cases h; rfl
  | _ => cases h
theorem allInt_inv {ds : List D} {l : List Int} (h : allOf intOf ds = some l) : ds = l.map D.int := allOf_inv (fun _ _ => intOf_inv) h
theorem allInt_map (l : List Int) : allOf intOf (l.map D.int) = some l := by
  have h := allOf_map (f := intOf) (g := D.int) (k := fun i : Int => i) (fun _ => rfl) l
  rw [h, List.map_id']
section
variable {K : PySem.W.Frag} {H : Hp}
end
section
variable {X : Cx} {E : XK}
def gI (f : Int → Int → D) : D → D → Option D
  | .int i, .int j => some (f i j)
  | _, _ => none
def gIc (c : Int → Int → Bool) (f : Int → Int → D) : D → D → Option D
  | .int i, .int j => if c i j then some (f i j) else none
  | _, _ => none
theorem opd_i {h : Value → Value → Sem Value} {f : Int → Int → D} {g : Int → Int → V} (o : OpR X h (rI0 g)) (hg : ∀ i j F, IsD X.K F (f i j) (g i j)) : OpD X h (gI f) := OpR.weak o fun x y H Q ⟨F, d, e, z, sF, id, ie, hz, q⟩ => by
  cases d with
  | int i =>
    cases e with
    | int j => cases hz; exact ⟨i, j, IsD.int_iff.mp id, IsD.int_iff.mp ie, q _ F H (.refl sF) (hg i j F)⟩
    | _ => cases hz
  | _ => cases hz
theorem opd_ic {h : Value → Value → Sem Value} {C : Int → Int → Prop} {c : Int → Int → Bool} {f : Int → Int → D} {g : Int → Int → V} (o : OpR X h (rI C g)) (hc : ∀ i j, c i j = true → C i j) (hg : ∀ i j F, IsD X.K F (f i j) (g i j)) : OpD X h (gIc c f) := OpR.weak o fun x y H Q ⟨F, d, e, z, sF, id, ie, hz, q⟩ => by
  cases d with
  | int i =>
    cases e with
    | int j =>
      have hz : (if c i j then some (f i j) else none) = some z := hz
      split at hz
      · rename_i hcc
        cases hz; exact ⟨i, j, IsD.int_iff.mp id, IsD.int_iff.mp ie, hc i j hcc, q _ F H (.refl sF) (hg i j F)⟩
      · cases hz
    | _ => cases hz
  | _ => cases hz
theorem isI (i : Int) (F : Hp) : IsD X.K F (.int i) (.int i) := IsD.int_iff.mpr rfl
theorem isB (b : Bool) (F : Hp) : IsD X.K F (.bl b) (.bl b) := IsD.bl_iff.mpr rfl
def gSub := gI fun i j => .int (i - j)
def bigB : Nat := 10715086071862673209484250490600018105614048117055336074437503883703510511249361224931983788156958581275946729175531468251871452856923140435984577574698574803934567774824230985421074605062371141877954182153046474983581941267398767559165543946077062914571196477686542167660429831652624386837205668069376
def mulOk (i j : Int) : Bool := (Nat.blt i.natAbs 18446744073709551616 || Nat.blt j.natAbs 18446744073709551616) || (Nat.blt i.natAbs bigB && Nat.blt j.natAbs bigB)
theorem bits_big {k : Int} (h : k.natAbs < bigB) : Builtin.Int.intBits k ≤ 2 ^ 20 := by
  have e : bigB ≤ 2 ^ 1000 := Nat.le_of_ble_eq_true rfl
  have hn : k.natAbs < 2 ^ 1000 := Nat.lt_of_lt_of_le h e
  unfold Builtin.Int.intBits
  split
  · exact Nat.zero_le _
  · have l : k.natAbs.log2 < 1000 := by
      rcases Nat.eq_zero_or_pos k.natAbs with h0 | hp
      · rw [h0]; decide
      · exact (Nat.log2_lt (Nat.ne_of_gt hp)).mpr hn
    have e : (2 : Nat) ^ 20 = 1048576 := by decide
    omega
theorem mulOk_ok {i j : Int} (h : mulOk i j = true) : IntMulOk i j := by
  unfold mulOk at h
  rw [Bool.or_eq_true, Bool.or_eq_true, Bool.and_eq_true, Nat.blt_eq, Nat.blt_eq, Nat.blt_eq, Nat.blt_eq] at h
  rcases h with (h | h) | ⟨h1, h2⟩
  · exact .of_left (intBits_le_64 (by omega) (by omega))
  · exact .of_right (intBits_le_64 (by omega) (by omega))
  · exact .of_bits (bits_big h1) (bits_big h2)
theorem op_mulW : OpR X (binaryOp .Mult) (rI (fun i j => mulOk i j = true) fun i j => .int (i * j)) := opI fun _ _ _ _ _ _ _ hc q => mul_int q (mulOk_ok hc)
def gMul := gIc mulOk fun i j => .int (i * j)
def gFdiv := gIc (fun _ j => Nat.blt 0 j.toNat && Nat.blt j.toNat 1073741824) fun i j => .int (i / j)
def gMod := gIc (fun _ j => Nat.blt 0 j.toNat) fun i j => .int (i % j)
def gPow := gIc (fun i j => Nat.ble (-j).toNat 0 && (Nat.ble j.toNat 1000000 && Nat.blt i.natAbs 18446744073709551616)) fun i j => .int (i ^ j.toNat)
def gLt := gI fun i j => .bl (decide (i < j))
def gLe := gI fun i j => .bl (decide (i ≤ j))
def gGt := gI fun i j => .bl (decide (j < i))
def gGe := gI fun i j => .bl (decide (j ≤ i))
theorem o_sub : OpD X (binaryOp .Sub) gSub := opd_i op_sub fun _ _ F => isI _ F
theorem o_mul : OpD X (binaryOp .Mult) gMul := opd_ic op_mulW (fun i j h => h) fun _ _ F => isI _ F
theorem o_fdiv : OpD X (binaryOp .FloorDiv) gFdiv := opd_ic op_fdiv (fun i j h => by rw [Bool.and_eq_true, Nat.blt_eq, Nat.blt_eq] at h; unfold CDiv; omega) fun _ _ F => isI _ F
theorem o_mod : OpD X (binaryOp .Mod) gMod := opd_ic op_mod (fun i j h => by rw [Nat.blt_eq] at h; omega) fun _ _ F => isI _ F
theorem o_pow : OpD X (binaryOp .Pow) gPow := opd_ic op_pow (fun i j h => by rw [Bool.and_eq_true, Bool.and_eq_true, Nat.ble_eq, Nat.ble_eq, Nat.blt_eq] at h; unfold CPow; omega) fun _ _ F => isI _ F
theorem o_lt : OpD X (compareOp .Lt) gLt := opd_i op_lt fun _ _ F => isB _ F
theorem o_le : OpD X (compareOp .LtE) gLe := opd_i op_le fun _ _ F => isB _ F
theorem o_gt : OpD X (compareOp .Gt) gGt := opd_i op_gt fun _ _ F => isB _ F
theorem o_ge : OpD X (compareOp .GtE) gGe := opd_i op_ge fun _ _ F => isB _ F
def gNeg : D → Option D
  | .int i => some (.int (-i))
  | _ => none
theorem u_neg : UnR X (unaryOp .USub) (rD1 X.K gNeg) := UnR.weak un_neg fun x H Q ⟨F, d, z, sF, id, hz, q⟩ => by
  cases d with
  | int i => cases hz; exact ⟨i, IsD.int_iff.mp id, q _ F H (.refl sF) (isI _ F)⟩
  | _ => cases hz
def gAdd : D → D → Option D
  | .int i, .int j => some (.int (i + j))
  | .str x, .str y => if x.length + y.length ≤ sizeLine then some (.str (x ++ y)) else none
  | .tup a, .tup b => if a ≠ [] ∧ b ≠ [] ∧ a.length + b.length ≤ sizeLine then some (.tup (a ++ b)) else none
  | .lst a, .lst b => if a.length + b.length ≤ sizeLine then some (.lst (a ++ b)) else none
  | _, _ => none
def rCat' (K : PySem.W.Frag) : R2 := fun x y H Q => ∃ l b xs zs, x = .ref l ∧ y = .ref b ∧ LstD K H l xs ∧ LstD K H b zs ∧ xs.length + zs.length ≤ sizeLine ∧ ∀ p, H p = none → Q (.ref p) (upd H p (.lst (xs ++ zs)))
theorem op_cat' : OpR X (binaryOp .Add) (rCat' X.K) := by
  intro pins s σ H x y v u Q I rx ry h
  obtain ⟨l, b, xs, zs, rfl, rfl, hl, hb, hz, q⟩ := h
  obtain rfl : v = Value.ref l := rx
  obtain rfl : u = Value.ref b := ry
  obtain ⟨_, its, n, r1, e1⟩ := hl.ok I.hok
  obtain ⟨_, its2, n2, r2, e2⟩ := hb.ok I.hok
  have hl1 := r1.length
  have hl2 := r2.length
  refine PySem.P.add_list e1 e2 ?_ (by rw [List.size_toArray, List.size_toArray]; omega)
  have ea : its.toArray ++ its2.toArray = (its ++ its2).toArray := by simp
  rw [ea]
  exact ⟨.ref _, _, I.lnew (t' := s.toks) (r1.append r2) (by rw [List.length_append]; omega), rfl, q _ I.fresh⟩
theorem o_add : OpD X (binaryOp .Add) gAdd := by
  intro pins s σ H x y v u Q I rx ry ⟨F, d, e, z, sF, id, ie, hz, q⟩
  cases d with
  | int i =>
    cases e with
    | int j => cases hz; exact op_add pins s σ H x y v u Q I rx ry ⟨i, j, IsD.int_iff.mp id, IsD.int_iff.mp ie, q _ F H (.refl sF) (isI _ F)⟩
    | _ => cases hz
  | str a =>
    cases e with
    | str b =>
      have hz : (if a.length + b.length ≤ sizeLine then some (D.str (a ++ b)) else none) = some z := hz
      split at hz
      · rename_i hl
        cases hz; exact op_add_str pins s σ H x y v u Q I rx ry ⟨a, b, IsD.str_iff.mp id, IsD.str_iff.mp ie, hl, q _ F H (.refl sF) (IsD.str_iff.mpr rfl)⟩
      · cases hz
    | _ => cases hz
  | tup a =>
    cases e with
    | tup b =>
      have hz : (if a ≠ [] ∧ b ≠ [] ∧ a.length + b.length ≤ sizeLine then some (D.tup (a ++ b)) else none) = some z := hz
      split at hz
      · rename_i hl
        cases hz
        rw [IsD.tup_iff] at id ie
        obtain ⟨la, xs, rfl, h1, h2⟩ := id
        obtain ⟨lb, ys, rfl, h3, h4⟩ := ie
        have l1 := h2.length
        have l2 := h4.length
        have x0 : xs ≠ [] := fun z => hl.1 (List.length_eq_zero_iff.mp (by rw [← l1, z]; rfl))
        have y0 : ys ≠ [] := fun z => hl.2.1 (List.length_eq_zero_iff.mp (by rw [← l2, z]; rfl))
        refine op_catT pins s σ H _ _ v u Q I rx ry ⟨la, lb, xs, ys, rfl, rfl, (h1.same sF).sq, (h3.same sF).sq, x0, by have := hl.2.2; omega, fun z => absurd z y0, fun _ p hp => ?_⟩
        have ea := Ext.alloc sF hp (.tup (xs ++ ys))
        exact q _ _ _ ea (IsD.tup_iff.mpr ⟨p, _, rfl, .of upd_same, IsDs.same ea.ff _ _ (h2.append h4)⟩)
      · cases hz
    | _ => cases hz
  | lst a =>
    cases e with
    | lst b =>
      have hz : (if a.length + b.length ≤ sizeLine then some (D.lst (a ++ b)) else none) = some z := hz
      split at hz
      · rename_i hl
        cases hz
        rw [IsD.lst_iff] at id ie
        obtain ⟨la, xs, rfl, h1, h2⟩ := id
        obtain ⟨lb, ys, rfl, h3, h4⟩ := ie
        have l1 := h2.length
        have l2 := h4.length
        refine op_cat' pins s σ H _ _ v u Q I rx ry ⟨la, lb, xs, ys, rfl, rfl, h1.same sF, h3.same sF, by omega, fun p hp => ?_⟩
        have ea := Ext.alloc sF hp (.lst (xs ++ ys))
        exact q _ _ _ ea (IsD.lst_iff.mpr ⟨p, _, rfl, .of upd_same, IsDs.same ea.ff _ _ (h2.append h4)⟩)
      · cases hz
    | _ => cases hz
  | _ => cases hz
mutual
def toPy : D → PyData
  | .non => .none
  | .bl b => .bool b
  | .int i => .int i
  | .str x => .str x
  | .tup ds => .tuple (toPys ds)
  | .lst ds => .list (toPys ds)
  | .ty _ => .none
  | .scr _ => .none
  | .dct _ _ => .none
  | .ins _ _ _ => .none
  | .exc _ => .none
  | .ucl _ => .none
def toPys : List D → List PyData
  | [] => []
  | d :: ds => toPy d :: toPys ds
end
/-- ints, texts, None, tuples and lists of these, at most n deep -/
def plN : Nat → D → Bool
  | 0, _ => false
  | _ + 1, .int _ => true
  | _ + 1, .str x => PyData.strOk x
  | _ + 1, .non => true
  | n + 1, .tup ds => ds.all (plN n)
  | n + 1, .lst ds => ds.all (plN n)
  | _ + 1, _ => false
theorem pl_lay : ∀ (n : Nat) (d : D), plN n d = true → (toPy d).canLay0 = true ∧ (toPy d).depth ≤ n
  | 0, _, h => by cases h
  | n + 1, d, h => by
    have all : ∀ ds : List D, ds.all (plN n) = true → PyData.canLayAll0 (toPys ds) = true ∧ PyData.depthAll (toPys ds) ≤ n := by
      intro ds
      induction ds with
      | nil => intro _; unfold toPys PyData.canLayAll0 PyData.depthAll; exact ⟨rfl, Nat.zero_le _⟩
      | cons d ds ih =>
        intro h
        rw [List.all_cons, Bool.and_eq_true] at h
        obtain ⟨h1, h2⟩ := pl_lay n d h.1
        obtain ⟨h3, h4⟩ := ih h.2
        unfold toPys PyData.canLayAll0 PyData.depthAll
        rw [h1, h3]
        exact ⟨rfl, Nat.max_le.mpr ⟨h2, h4⟩⟩
    cases d with
    | int i => unfold toPy PyData.canLay0 PyData.depth; exact ⟨rfl, Nat.zero_le _⟩
    | str i => unfold toPy PyData.canLay0 PyData.depth; exact ⟨h, Nat.zero_le _⟩
    | non => unfold toPy PyData.canLay0 PyData.depth; exact ⟨rfl, Nat.zero_le _⟩
    | tup ds =>
      obtain ⟨h1, h2⟩ := all ds h
      unfold toPy PyData.canLay0 PyData.depth
      exact ⟨h1, by omega⟩
    | lst ds =>
      obtain ⟨h1, h2⟩ := all ds h
      unfold toPy PyData.canLay0 PyData.depth
      exact ⟨h1, by omega⟩
    | _ => cases h
theorem pl_eqv : ∀ (n : Nat) (d e : D), plN n d = true → plN n e = true → (PyData.eqv (toPy d) (toPy e) = true ↔ d = e)
  | 0, _, _, h, _ => by cases h
  | n + 1, d, e, h, h' => by
    have all : ∀ ds es : List D, ds.all (plN n) = true → es.all (plN n) = true → (PyData.eqvAll (toPys ds) (toPys es) = true ↔ ds = es) := by
      intro ds
      induction ds with
      | nil =>
        intro es _ _
        cases es with
        | nil => unfold toPys PyData.eqvAll; simp
        | cons e es => unfold toPys PyData.eqvAll; simp
      | cons d ds ih =>
        intro es h1 h2
        cases es with
        | nil => unfold toPys PyData.eqvAll; simp
        | cons e es =>
          rw [List.all_cons, Bool.and_eq_true] at h1 h2
          unfold toPys PyData.eqvAll
          rw [Bool.and_eq_true_iff, pl_eqv n d e h1.1 h2.1, ih es h1.2 h2.2]
          simp
    cases d with
    | int i => cases e <;> first | (cases h'; done) | (unfold toPy PyData.eqv; simp)
    | str i => cases e <;> first | (cases h'; done) | (unfold toPy PyData.eqv; simp)
    | non => cases e <;> first | (cases h'; done) | (unfold toPy PyData.eqv; simp)
    | tup ds =>
      cases e with
      | tup es =>
        have q := all ds es h h'
        unfold toPy PyData.eqv
        rw [q]; simp
      | int i => unfold toPy PyData.eqv; simp
      | str i => unfold toPy PyData.eqv; simp
      | non => unfold toPy PyData.eqv; simp
      | lst es => unfold toPy PyData.eqv; simp
      | _ => cases h'
    | lst ds =>
      cases e with
      | lst es =>
        have q := all ds es h h'
        unfold toPy PyData.eqv
        rw [q]; simp
      | int i => unfold toPy PyData.eqv; simp
      | str i => unfold toPy PyData.eqv; simp
      | non => unfold toPy PyData.eqv; simp
      | tup es => unfold toPy PyData.eqv; simp
      | _ => cases h'
    | _ => cases h
theorem pl_reads {P : Program} {w : World} {K : PySem.W.Frag} {H : Hp} {h : Heap} (ok : HOk P w H h) : ∀ (n : Nat) (d : D) (v : V) (u : Value), plN n d = true → IsD K H d v → RelV v u → ∃ as, Reads h u (toPy d) as
  | 0, _, _, _, p, _, _ => by cases p
  | n + 1, d, v, u, p, q, r => by
    have all : ∀ (ds : List D) (xs : List V) (us : List Value), ds.all (plN n) = true → IsDs K H ds xs → Vals xs us → ∃ as, ReadsAll h us (toPys ds) as := by
      intro ds
      induction ds with
      | nil =>
        intro xs us _ h1 h2
        rw [IsDs.nil_iff] at h1
        subst h1
        cases h2
        unfold toPys
        exact ⟨_, .nil⟩
      | cons d ds ih =>
        intro xs us hp h1 h2
        rw [List.all_cons, Bool.and_eq_true] at hp
        rw [IsDs.cons_iff] at h1
        obtain ⟨x, rs, rfl, h3, h4⟩ := h1
        cases h2 with
        | cons r1 r2 =>
          obtain ⟨as, ra⟩ := pl_reads ok n d x _ hp.1 h3 r1
          obtain ⟨bs, rb⟩ := ih rs _ hp.2 h4 r2
          unfold toPys
          exact ⟨_, .cons ra rb⟩
    cases d with
    | int i =>
      rw [IsD.int_iff] at q; subst q
      obtain ⟨t, rfl⟩ := (show ∃ t, u = Value.int i t from r)
      unfold toPy
      exact ⟨_, .int i t⟩
    | str x =>
      rw [IsD.str_iff] at q; subst q
      obtain ⟨t, rfl⟩ := (show ∃ t, u = Value.str x t from r)
      unfold toPy
      exact ⟨_, .str x t⟩
    | non =>
      rw [IsD.non_iff] at q; subst q
      obtain rfl : u = Value.none := r
      unfold toPy
      exact ⟨_, .none⟩
    | tup ds =>
      rw [IsD.tup_iff] at q
      obtain ⟨a, xs, rfl, h2, h3⟩ := q
      obtain rfl : u = Value.ref a := r
      obtain ⟨_, its, rv, o, e, c, n', dt⟩ := (show ObjOk P w H h a (.tup xs) from ok a _ h2)
      obtain ⟨as, ra⟩ := all ds xs its p h3 rv
      unfold toPy
      exact ⟨_, .tuple e c dt (by simpa using ra)⟩
    | lst ds =>
      rw [IsD.lst_iff] at q
      obtain ⟨a, xs, rfl, h2, h3⟩ := q
      obtain rfl : u = Value.ref a := r
      obtain ⟨_, its, n', rv, e⟩ := h2.ok ok
      obtain ⟨as, ra⟩ := all ds xs its p h3 rv
      unfold toPy
      exact ⟨_, .list e rfl rfl (by simpa using ra)⟩
    | _ => cases p
noncomputable section
open Classical
/-- are two plain things the same -/
def sameD (d e : D) : Bool := decide (d = e)
theorem sameD_self (d : D) : sameD d d = true := decide_eq_true rfl
theorem sameD_iff {d e : D} : sameD d e = true ↔ d = e := decide_eq_true_iff
theorem sameD_no {d e : D} : sameD d e = false ↔ d ≠ e := decide_eq_false_iff_not
def gEq : D → D → Option D
  | .bl a, .bl b => some (.bl (a == b))
  | d, e => if plN 12 d && plN 12 e then some (.bl (sameD d e)) else none
def gNe : D → D → Option D
  | .bl a, .bl b => some (.bl (a != b))
  | d, e => if plN 12 d && plN 12 e then some (.bl (!sameD d e)) else none
end
theorem gEq_pl {d e : D} (h1 : plN 12 d = true) (h2 : plN 12 e = true) : gEq d e = some (.bl (sameD d e)) := by
  unfold gEq
  split
  · cases h1
  · rw [h1, h2]; rfl
theorem gNe_pl {d e : D} (h1 : plN 12 d = true) (h2 : plN 12 e = true) : gNe d e = some (.bl (!sameD d e)) := by
  unfold gNe
  split
  · cases h1
  · rw [h1, h2]; rfl
theorem gEq_int (i j : Int) : gEq (.int i) (.int j) = some (.bl (decide (i = j))) := by
  rw [gEq_pl rfl rfl]
  congr 2
  by_cases h : i = j
  · rw [decide_eq_true h, h, sameD_self]
  · rw [decide_eq_false h, sameD_no.mpr fun z => h (by injection z)]
theorem gNe_int (i j : Int) : gNe (.int i) (.int j) = some (.bl (!decide (i = j))) := by
  rw [gNe_pl rfl rfl]
  congr 3
  by_cases h : i = j
  · rw [decide_eq_true h, h, sameD_self]
  · rw [decide_eq_false h, sameD_no.mpr fun z => h (by injection z)]
theorem o_eq (hu : X.A.units + 64 < cLine) : OpD X (compareOp .Eq) gEq := by
  intro pins s σ H x y v u Q I rx ry ⟨F, d, e, z, sF, id, ie, hz, q⟩
  unfold gEq at hz
  split at hz
  · rename_i a b
    cases hz
    refine op_eq pins s σ H x y v u Q I rx ry ⟨?_, ?_⟩
    · rw [IsD.bl_iff.mp id, IsD.bl_iff.mp ie]; rfl
    · rw [IsD.bl_iff.mp id, IsD.bl_iff.mp ie]
      refine q _ F H (.refl sF) ?_
      rw [IsD.bl_iff]
      cases a <;> cases b <;> rfl
  · split at hz
    · rename_i hp
      rw [Bool.and_eq_true] at hp
      cases hz
      obtain ⟨as, ra⟩ := pl_reads I.hok 12 d x v hp.1 (IsD.same sF _ _ id) rx
      obtain ⟨bs, rb⟩ := pl_reads I.hok 12 e y u hp.2 (IsD.same sF _ _ ie) ry
      obtain ⟨l1, z1⟩ := pl_lay 12 d hp.1
      obtain ⟨l2, z2⟩ := pl_lay 12 e hp.2
      refine PySem.SeqAt.compareEq_reads ra rb l1 l2 (by omega) ?_
      have hb : PyData.eqv (toPy d) (toPy e) = sameD d e := Bool.eq_iff_iff.mpr ((pl_eqv 12 d e hp.1 hp.2).trans sameD_iff.symm)
      rw [hb]
      exact ⟨.bl _, H, I, rfl, q _ F H (.refl sF) (isB _ F)⟩
    · cases hz
theorem o_ne (hu : X.A.units + 64 < cLine) : OpD X (compareOp .NotEq) gNe := by
  intro pins s σ H x y v u Q I rx ry ⟨F, d, e, z, sF, id, ie, hz, q⟩
  unfold gNe at hz
  split at hz
  · rename_i a b
    cases hz
    refine op_ne pins s σ H x y v u Q I rx ry ⟨?_, ?_⟩
    · rw [IsD.bl_iff.mp id, IsD.bl_iff.mp ie]; rfl
    · rw [IsD.bl_iff.mp id, IsD.bl_iff.mp ie]
      refine q _ F H (.refl sF) ?_
      rw [IsD.bl_iff]
      cases a <;> cases b <;> rfl
  · split at hz
    · rename_i hp
      rw [Bool.and_eq_true] at hp
      cases hz
      obtain ⟨as, ra⟩ := pl_reads I.hok 12 d x v hp.1 (IsD.same sF _ _ id) rx
      obtain ⟨bs, rb⟩ := pl_reads I.hok 12 e y u hp.2 (IsD.same sF _ _ ie) ry
      obtain ⟨l1, z1⟩ := pl_lay 12 d hp.1
      obtain ⟨l2, z2⟩ := pl_lay 12 e hp.2
      refine PySem.SeqAt.compareNe_reads ra rb l1 l2 (by omega) ?_
      have hb : PyData.eqv (toPy d) (toPy e) = sameD d e := Bool.eq_iff_iff.mpr ((pl_eqv 12 d e hp.1 hp.2).trans sameD_iff.symm)
      rw [hb]
      exact ⟨.bl _, H, I, rfl, q _ F H (.refl sF) (isB _ F)⟩
    · cases hz
end
end L2.DL

namespace L2.DL
open PySem PySem.Spec PyProof.Rows
theorem PE.or {X : Cx} {e : Expr} {t t' : TE} (h : PE X e t) (h' : PE X e t') : PE X e (fun σ H Q => t σ H Q ∨ t' σ H Q) := fun pins s σ H Q I q => q.elim (h pins s σ H Q I) (h' pins s σ H Q I)
def keyOf : D → Option Key
  | .int i => some (.inl i)
  | .str x => some (.inr x)
  | _ => none
theorem keyOf_is {K : PySem.W.Frag} {H : Hp} {d : D} {k : Key} {v : V} (h : keyOf d = some k) (i : IsD K H d v) : v = kV k := by
  cases d with
  | int j => cases h; exact IsD.int_iff.mp i
  | str x => cases h; exact IsD.str_iff.mp i
  | _ => cases h
def valD : List Key → List D → Key → Option D
  | k :: ks, d :: ds, q => if k = q then some d else valD ks ds q
  | _, _, _ => none
theorem valV_cons (k q : Key) (v : V) (r : List (Key × V)) : valV ((k, v) :: r) q = if k = q then some v else valV r q := by
  unfold valV
  rw [List.find?_cons]
  by_cases h : k = q
  · rw [if_pos h, decide_eq_true h]; rfl
  · rw [if_neg h, decide_eq_false h]
theorem val_zip {K : PySem.W.Frag} {H : Hp} (q : Key) : ∀ {ks : List Key} {ds : List D} {xs : List V}, ks.length = xs.length → IsDs K H ds xs →
    (∀ d, valD ks ds q = some d → ∃ x, valV (ks.zip xs) q = some x ∧ IsD K H d x) ∧ (valD ks ds q = none → valV (ks.zip xs) q = none)
  | [], ds, xs, hl, h => by
    have : xs = [] := List.length_eq_zero_iff.mp hl.symm
    subst this
    refine ⟨fun d e => ?_, fun _ => rfl⟩
    cases ds <;> cases e
  | k :: ks, [], xs, hl, h => by
    rw [IsDs.nil_iff] at h
    subst h
    cases hl
  | k :: ks, d :: ds, xs, hl, h => by
    rw [IsDs.cons_iff] at h
    obtain ⟨x, r, rfl, h1, h2⟩ := h
    have ih := val_zip q (ks := ks) (Nat.succ.inj hl) h2
    rw [List.zip_cons_cons, valV_cons]
    unfold valD
    by_cases hk : k = q
    · rw [if_pos hk, if_pos hk]
      exact ⟨fun d' e => by cases e; exact ⟨x, rfl, h1⟩, fun e => by cases e⟩
    · rw [if_neg hk, if_neg hk]
      exact ih
def chgD : List Key → List D → Key → D → List D
  | k :: ks, d :: ds, q, v => (if k = q then v else d) :: chgD ks ds q v
  | _, _, _, _ => []
def chgV : List Key → List V → Key → V → List V
  | k :: ks, d :: ds, q, v => (if k = q then v else d) :: chgV ks ds q v
  | _, _, _, _ => []
theorem chg_is {K : PySem.W.Frag} {H : Hp} {q : Key} {d : D} {v : V} (hv : IsD K H d v) : ∀ {ks : List Key} {ds : List D} {xs : List V}, ks.length = xs.length → IsDs K H ds xs → IsDs K H (chgD ks ds q d) (chgV ks xs q v) ∧ (chgV ks xs q v).length = ks.length ∧
    (ks.zip xs).map (fun kv => if kv.1 = q then (kv.1, v) else kv) = ks.zip (chgV ks xs q v)
  | [], ds, xs, hl, h => by
    have : xs = [] := List.length_eq_zero_iff.mp hl.symm
    subst this
    refine ⟨?_, rfl, rfl⟩
    cases ds <;> exact .nil
  | k :: ks, [], xs, hl, h => by
    rw [IsDs.nil_iff] at h
    subst h
    cases hl
  | k :: ks, d' :: ds, xs, hl, h => by
    rw [IsDs.cons_iff] at h
    obtain ⟨x, r, rfl, h1, h2⟩ := h
    obtain ⟨i1, i2, i3⟩ := chg_is (q := q) hv (ks := ks) (Nat.succ.inj hl) h2
    unfold chgD chgV
    refine ⟨IsDs.mk ?_ i1, by rw [List.length_cons, i2]; rfl, ?_⟩
    · by_cases hk : k = q
      · rw [if_pos hk, if_pos hk]; exact hv
      · rw [if_neg hk, if_neg hk]; exact h1
    · rw [List.zip_cons_cons, List.map_cons, i3, List.zip_cons_cons]
      by_cases hk : k = q
      · rw [if_pos hk, if_pos hk]
      · rw [if_neg hk, if_neg hk]
def hasK (q : Key) (ks : List Key) : Bool := ks.any fun k => decide (k = q)
theorem any_zip (q : Key) : ∀ {ks : List Key} {xs : List V}, ks.length = xs.length → ((ks.zip xs).any fun kv => decide (kv.1 = q)) = hasK q ks
  | [], xs, _ => rfl
  | k :: ks, [], h => by cases h
  | k :: ks, x :: xs, h => by
    rw [List.zip_cons_cons, List.any_cons, any_zip q (Nat.succ.inj h)]
    rfl
/-- d[q] = v -/
def putKs (ks : List Key) (q : Key) : List Key := if hasK q ks = true then ks else ks ++ [q]
def putDs (ks : List Key) (ds : List D) (q : Key) (v : D) : List D := if hasK q ks = true then chgD ks ds q v else ds ++ [v]
theorem put_zip {K : PySem.W.Frag} {H : Hp} {q : Key} {d : D} {v : V} {ks : List Key} {ds : List D} {xs : List V} (hl : ks.length = xs.length) (h : IsDs K H ds xs) (hv : IsD K H d v) :
    ∃ ys, putK (ks.zip xs) q v = (putKs ks q).zip ys ∧ (putKs ks q).length = ys.length ∧ IsDs K H (putDs ks ds q d) ys := by
  unfold putK putKs putDs
  rw [any_zip q hl]
  by_cases hm : hasK q ks = true
  · rw [if_pos hm, if_pos hm, if_pos hm]
    obtain ⟨h1, h2, h3⟩ := chg_is (q := q) hv hl h
    exact ⟨_, h3, h2.symm, h1⟩
  · rw [if_neg hm, if_neg hm, if_neg hm]
    exact ⟨xs ++ [v], by rw [List.zip_append hl]; rfl, by simp [hl], h.snoc hv⟩
section
variable {X : Cx} {E : XK} {m : Option Bool} {a b o i e : Expr} {fa fb fo fi fv : FE} {pos pos' apos cpos : Pos}
theorem atI_is {K : PySem.W.Frag} {H : Hp} {ds : List D} {xs : List V} {k : Int} {d : D} (h : IsDs K H ds xs) (e : atI ds k = some d) : ∃ x, atI xs k = some x ∧ IsD K H d x := by
  unfold atI at e ⊢
  rw [h.length]
  cases hj : ixN ds.length k with
  | none => rw [hj] at e; cases e
  | some j =>
    rw [hj] at e
    exact h.get e
def gIx : D → D → Option D
  | .lst ds, .int k => atI ds k
  | .tup ds, .int k => atI ds k
  | .scr ns, .int k => (atI ns k).map .int
  | .str x, .int k => if x.length ≤ sizeLine then (atI x.cps.toList k).map fun c => .str ⟨#[c]⟩ else none
  | .dct ks ds, k => (keyOf k).bind fun q => valD ks ds q
  | _, _ => none
theorem ixd_seq : IxR X (rD2 X.K fun d e => match d with
    | .dct _ _ => none
    | d => gIx d e) := IxR.weak ix_seq fun x y H Q ⟨F, d, e, z, sF, id, ie, hz, q⟩ => by
  cases d with
  | lst ds =>
    cases e with
    | int k =>
      rw [IsD.lst_iff] at id
      obtain ⟨p, xs, rfl, h1, h2⟩ := id
      obtain ⟨x, hx, i2⟩ := atI_is h2 (show atI ds k = some z from hz)
      exact .inl ⟨p, xs, k, x, rfl, IsD.int_iff.mp ie, (h1.same sF).sq, hx, q _ F H (.refl sF) i2⟩
    | _ => cases hz
  | tup ds =>
    cases e with
    | int k =>
      rw [IsD.tup_iff] at id
      obtain ⟨p, xs, rfl, h1, h2⟩ := id
      obtain ⟨x, hx, i2⟩ := atI_is h2 (show atI ds k = some z from hz)
      exact .inr (.inl ⟨p, xs, k, x, rfl, IsD.int_iff.mp ie, (h1.same sF).sq, hx, q _ F H (.refl sF) i2⟩)
    | _ => cases hz
  | scr ns =>
    cases e with
    | int k =>
      rw [IsD.scr_iff] at id
      obtain ⟨p, rfl, h1⟩ := id
      obtain ⟨j, hj, hz⟩ := Option.map_eq_some_iff.mp (show (atI ns k).map D.int = some z from hz)
      subst hz
      refine .inl ⟨p, _, k, .int j, rfl, IsD.int_iff.mp ie, Same.seq sF h1, ?_, q _ F H (.refl sF) (isI _ F)⟩
      unfold atI at hj ⊢
      rw [List.length_map]
      cases hx : ixN ns.length k with
      | none => rw [hx] at hj; cases hj
      | some i => rw [hx] at hj; show (ns.map V.int)[i]? = _; rw [List.getElem?_map, show ns[i]? = some j from hj]; rfl
    | _ => cases hz
  | str t =>
    cases e with
    | int k =>
      have hz : (if t.length ≤ sizeLine then (atI t.cps.toList k).map fun c => D.str ⟨#[c]⟩ else none) = some z := hz
      split at hz
      · rename_i hl
        cases hc : atI t.cps.toList k with
        | none => rw [hc] at hz; cases hz
        | some c =>
          rw [hc] at hz
          cases hz
          exact .inr (.inr ⟨t, k, c, IsD.str_iff.mp id, IsD.int_iff.mp ie, hl, hc, q _ F H (.refl sF) (IsD.str_iff.mpr rfl)⟩)
      · cases hz
    | _ => cases hz
  | _ => cases hz
theorem q_ixA (hu : X.A.units + 1 < cLine) (ha : QE X E a fa) (hb : QE X E b fb) (hs : PlainIx b) (hs2 : NoSl b) : QE X E (.Subscript a b pos) (dOp gIx fa fb) :=
  PE.weak (PE.or (pe_dget hu ha hb hs2) (pe_ix (ixd_seq) ha hb hs)) fun σ H Q h => by
    obtain ⟨B, F, sd, r, n⟩ := h
    by_cases hd : ∃ ks ds, fa sd = .ok (.dct ks ds)
    · obtain ⟨ks, ds, hd⟩ := hd
      refine .inl ⟨B, F, sd, r, (Res.need_bind n).monoE (fun x hx n1 v F1 H1 e1 i1 => ?_) fun _ _ q => q⟩
      rw [hd] at hx
      cases hx
      refine ⟨B, F1, sd, r.step e1, (Res.need_bind n1).mono (fun y n2 w F2 H2 e2 i2 => ?_) fun _ _ q => q.ext e1⟩
      obtain ⟨z, hz, q⟩ := Res.need_ofO n2
      obtain ⟨k, hk, hz⟩ := Option.bind_eq_some_iff.mp (show (keyOf y).bind (fun q => valD ks ds q) = some z from hz)
      rw [IsD.dct_iff] at i1
      obtain ⟨p, xs, rfl, h1, h2, h3⟩ := i1
      obtain ⟨x, hx, ix⟩ := (val_zip k h2 h3).1 z hz
      refine ⟨p, x, rfl, ?_, q x F2 H2 (e1.trans e2) (IsD.same e2.ff _ _ ix)⟩
      rw [keyOf_is hk i2, ← hx]
      exact DGet.k (e2.hh _ _ (e1.fh _ _ h1))
    · refine .inr (tD_op ⟨B, F, sd, r, ?_⟩)
      unfold dOp at n ⊢
      cases hx : fa sd with
      | ok d =>
        rw [hx] at n
        cases d with
        | dct ks ds => exact absurd ⟨ks, ds, hx⟩ hd
        | _ => exact n
      | no => rw [hx] at n; exact n
      | ex c fs => rw [hx] at n; exact n
noncomputable def gIn (neg : Bool) : D → D → Option D
  | k, .dct ks ds => (keyOf k).map fun q => .bl (if neg then !(valD ks ds q).isSome else (valD ks ds q).isSome)
  | d, .lst ds => if plN 12 d && ds.all (plN 12) then some (.bl (if neg then !ds.any (fun e => sameD e d) else ds.any fun e => sameD e d)) else none
  | d, .tup ds => if plN 12 d && ds.all (plN 12) then some (.bl (if neg then !ds.any (fun e => sameD e d) else ds.any fun e => sameD e d)) else none
  | _, _ => none
theorem pl_inj {K : PySem.W.Frag} {H : Hp} : ∀ (n : Nat) (d e : D) (v : V), plN n d = true → plN n e = true → IsD K H d v → IsD K H e v → d = e
  | 0, _, _, _, h, _, _, _ => by cases h
  | n + 1, d, e, v, hd, he, h1, h2 => by
    have all : ∀ (ds es : List D) (xs : List V), ds.all (plN n) = true → es.all (plN n) = true → IsDs K H ds xs → IsDs K H es xs → ds = es := by
      intro ds
      induction ds with
      | nil =>
        intro es xs _ _ h1 h2
        rw [IsDs.nil_iff] at h1
        subst h1
        have := h2.length
        exact (List.length_eq_zero_iff.mp this.symm).symm
      | cons d ds ih =>
        intro es xs p1 p2 h1 h2
        rw [List.all_cons, Bool.and_eq_true] at p1
        rw [IsDs.cons_iff] at h1
        obtain ⟨x, r, rfl, h3, h4⟩ := h1
        cases es with
        | nil => rw [IsDs.nil_iff] at h2; cases h2
        | cons e es =>
          rw [List.all_cons, Bool.and_eq_true] at p2
          rw [IsDs.cons_iff] at h2
          obtain ⟨x', r', e', h5, h6⟩ := h2
          cases e'
          rw [pl_inj n d e x p1.1 p2.1 h3 h5, ih es r p1.2 p2.2 h4 h6]
    have ne : ∀ {a : Addr} {xs ys : List V}, TupD K H a xs → LstD K H a ys → False := fun {a xs ys} q1 q2 => by
      rcases q2 with q2 | ⟨o, q2⟩
      · rw [q1] at q2; cases q2
      · rw [q1] at q2; cases q2
    cases d with
    | int i =>
      rw [IsD.int_iff] at h1; subst h1
      cases e with
      | int j => rw [IsD.int_iff] at h2; cases h2; rfl
      | str j => rw [IsD.str_iff] at h2; cases h2
      | non => rw [IsD.non_iff] at h2; cases h2
      | tup es => rw [IsD.tup_iff] at h2; obtain ⟨_, _, z, _⟩ := h2; cases z
      | lst es => rw [IsD.lst_iff] at h2; obtain ⟨_, _, z, _⟩ := h2; cases z
      | _ => cases he
    | str i =>
      rw [IsD.str_iff] at h1; subst h1
      cases e with
      | int j => rw [IsD.int_iff] at h2; cases h2
      | str j => rw [IsD.str_iff] at h2; cases h2; rfl
      | non => rw [IsD.non_iff] at h2; cases h2
      | tup es => rw [IsD.tup_iff] at h2; obtain ⟨_, _, z, _⟩ := h2; cases z
      | lst es => rw [IsD.lst_iff] at h2; obtain ⟨_, _, z, _⟩ := h2; cases z
      | _ => cases he
    | non =>
      rw [IsD.non_iff] at h1; subst h1
      cases e with
      | int j => rw [IsD.int_iff] at h2; cases h2
      | str j => rw [IsD.str_iff] at h2; cases h2
      | non => rfl
      | tup es => rw [IsD.tup_iff] at h2; obtain ⟨_, _, z, _⟩ := h2; cases z
      | lst es => rw [IsD.lst_iff] at h2; obtain ⟨_, _, z, _⟩ := h2; cases z
      | _ => cases he
    | tup ds =>
      rw [IsD.tup_iff] at h1
      obtain ⟨a, xs, rfl, q1, q2⟩ := h1
      cases e with
      | int j => rw [IsD.int_iff] at h2; cases h2
      | str j => rw [IsD.str_iff] at h2; cases h2
      | non => rw [IsD.non_iff] at h2; cases h2
      | tup es =>
        rw [IsD.tup_iff] at h2
        obtain ⟨a', xs', e', q3, q4⟩ := h2
        cases e'
        have q1' : H a = some (.tup xs) := q1
        rw [show H a = some (.tup xs') from q3] at q1'
        cases q1'
        rw [all ds es _ hd he q2 q4]
      | lst es =>
        rw [IsD.lst_iff] at h2
        obtain ⟨a', xs', e', q3, q4⟩ := h2
        cases e'
        exact (ne q1 q3).elim
      | _ => cases he
    | lst ds =>
      rw [IsD.lst_iff] at h1
      obtain ⟨a, xs, rfl, q1, q2⟩ := h1
      cases e with
      | int j => rw [IsD.int_iff] at h2; cases h2
      | str j => rw [IsD.str_iff] at h2; cases h2
      | non => rw [IsD.non_iff] at h2; cases h2
      | tup es =>
        rw [IsD.tup_iff] at h2
        obtain ⟨a', xs', e', q3, q4⟩ := h2
        cases e'
        exact (ne q3 q1).elim
      | lst es =>
        rw [IsD.lst_iff] at h2
        obtain ⟨a', xs', e', q3, q4⟩ := h2
        cases e'
        have : xs = xs' := by
          rcases q1 with q1 | ⟨_, q1⟩ <;> rcases q3 with q3 | ⟨_, q3⟩ <;> rw [q1] at q3 <;> cases q3 <;> rfl
        subst this
        rw [all ds es _ hd he q2 q4]
      | _ => cases he
    | _ => cases hd
/-- is this value the plain thing d -/
def ValIs (K : PySem.W.Frag) (H : Hp) (d : D) (u : Value) : Prop := ∃ v, RelV v u ∧ IsD K H d v
noncomputable def eqTo (K : PySem.W.Frag) (H : Hp) (d : D) (u : Value) : Bool := @decide (ValIs K H d u) (Classical.propDecidable _)
theorem eqTo_same {K : PySem.W.Frag} {H : Hp} {d e : D} {v : V} {u : Value} (hd : plN 12 d = true) (he : plN 12 e = true) (h : IsD K H e v) (r : RelV v u) : eqTo K H d u = sameD e d := by
  unfold eqTo
  by_cases q : e = d
  · rw [q, sameD_self]
    exact @decide_eq_true _ (Classical.propDecidable _) ⟨v, r, q ▸ h⟩
  · rw [sameD_no.mpr q]
    refine @decide_eq_false _ (Classical.propDecidable _) fun ⟨v', r', h'⟩ => q ?_
    rw [r'.inj r] at h'
    exact pl_inj 12 e d v he hd h h'
theorem any_eq {P : Program} {w : World} {K : PySem.W.Frag} {A : Around} {s : Shared} {H : Hp} (hu : A.units + 60 < cLine) (ok : HOk P w H s.heap) {d : D} {x : V} {v : Value} (hp : plN 12 d = true) (hx : IsD K H d x) (rx : RelV x v) :
    ∀ {ds : List D} {xs : List V} {us : List Value}, ds.all (plN 12) = true → IsDs K H ds xs → Vals xs us → us.map (eqTo K H d) = ds.map (fun e => sameD e d) ∧ ∀ u ∈ us, SeqAt.EqAt A s u v (eqTo K H d u) := by
  intro ds
  induction ds with
  | nil =>
    intro xs us _ h1 h2
    rw [IsDs.nil_iff] at h1
    subst h1
    cases h2
    exact ⟨rfl, fun u hu => nomatch hu⟩
  | cons e ds ih =>
    intro xs us hq h1 h2
    rw [List.all_cons, Bool.and_eq_true] at hq
    rw [IsDs.cons_iff] at h1
    obtain ⟨y, rs, rfl, h3, h4⟩ := h1
    cases h2 with
    | cons r1 r2 =>
      obtain ⟨i1, i2⟩ := ih hq.2 h4 r2
      obtain ⟨as, ra⟩ := pl_reads ok 12 e y _ hq.1 h3 r1
      obtain ⟨cs, rb⟩ := pl_reads ok 12 d x v hp hx rx
      obtain ⟨l1, z1⟩ := pl_lay 12 e hq.1
      obtain ⟨l2, z2⟩ := pl_lay 12 d hp
      have es := eqTo_same hp hq.1 h3 r1
      refine ⟨by rw [List.map_cons, List.map_cons, i1, es], fun u hm => ?_⟩
      rcases List.mem_cons.mp hm with hm | hm
      · subst hm
        rw [es, ← (Bool.eq_iff_iff.mpr ((pl_eqv 12 e d hq.1 hp).trans sameD_iff.symm) : PyData.eqv (toPy e) (toPy d) = sameD e d)]
        exact SeqAt.eqAt_reads (toPy e) (toPy d) A s _ v as cs ra rb l1 l2 (by omega)
      · exact i2 u hm
theorem any_map' {α : Type} {f : α → Bool} {l : List α} : l.any f = (l.map f).any id := by rw [List.any_map]; rfl
theorem gIn_ok (hu : X.A.units + 64 < cLine) (neg : Bool) : OpR X (compareOp (if neg then .NotIn else .In)) (rD2 X.K fun d e => match e with
    | .dct _ _ => none
    | e => gIn neg d e) := by
  intro pins s σ H x y v u Q I rx ry ⟨F, d, e, z, sF, id, ie, hz, q⟩
  have id' := IsD.same sF _ _ id
  cases e with
  | lst ds =>
    have hz : (if plN 12 d && ds.all (plN 12) then some (D.bl (if neg then !ds.any (fun e => sameD e d) else ds.any fun e => sameD e d)) else none) = some z := hz
    split at hz
    · rename_i hp
      rw [Bool.and_eq_true] at hp
      cases hz
      rw [IsD.lst_iff] at ie
      obtain ⟨p, xs, rfl, h1, h2⟩ := ie
      obtain rfl : u = Value.ref p := ry
      obtain ⟨its, ri, pl, hl⟩ := I.list (h1.same sF).sq
      obtain ⟨k1, k2⟩ := any_eq (A := X.A.in1) (by show X.A.units + 1 + 60 < cLine; omega) I.hok hp.1 id' rx hp.2 (IsDs.same sF _ _ h2) ri
      have ea : its.toArray.any (eqTo X.K H d) = ds.any (fun e => sameD e d) := by
        rw [show its.toArray.any (eqTo X.K H d) = its.any (eqTo X.K H d) by simp, any_map', k1, ← any_map']
      cases neg with
      | true =>
        refine SeqAt.notIn_listAt (eqTo X.K H d) pl.isList (fun w hw => k2 w (by simpa using hw)) ⟨.bl _, H, I, rfl, ?_⟩
        rw [ea]
        exact q _ F H (.refl sF) (isB _ F)
      | false =>
        refine SeqAt.in_listAt (eqTo X.K H d) pl.isList (fun w hw => k2 w (by simpa using hw)) ⟨.bl _, H, I, rfl, ?_⟩
        rw [ea]
        exact q _ F H (.refl sF) (isB _ F)
    · cases hz
  | tup ds =>
    have hz : (if plN 12 d && ds.all (plN 12) then some (D.bl (if neg then !ds.any (fun e => sameD e d) else ds.any fun e => sameD e d)) else none) = some z := hz
    split at hz
    · rename_i hp
      rw [Bool.and_eq_true] at hp
      cases hz
      rw [IsD.tup_iff] at ie
      obtain ⟨p, xs, rfl, h1, h2⟩ := ie
      obtain rfl : u = Value.ref p := ry
      obtain ⟨its, ri, pl, hl⟩ := I.tuple (h1.same sF).sq
      obtain ⟨k1, k2⟩ := any_eq (A := X.A.in1) (by show X.A.units + 1 + 60 < cLine; omega) I.hok hp.1 id' rx hp.2 (IsDs.same sF _ _ h2) ri
      have ea : its.toArray.any (eqTo X.K H d) = ds.any (fun e => sameD e d) := by
        rw [show its.toArray.any (eqTo X.K H d) = its.any (eqTo X.K H d) by simp, any_map', k1, ← any_map']
      cases neg with
      | true =>
        refine SeqAt.notIn_tupleAt (eqTo X.K H d) pl (fun w hw => k2 w (by simpa using hw)) ⟨.bl _, H, I, rfl, ?_⟩
        rw [ea]
        exact q _ F H (.refl sF) (isB _ F)
      | false =>
        refine SeqAt.in_tupleAt (eqTo X.K H d) pl (fun w hw => k2 w (by simpa using hw)) ⟨.bl _, H, I, rfl, ?_⟩
        rw [ea]
        exact q _ F H (.refl sF) (isB _ F)
    · cases hz
  | _ => cases hz
theorem tD_in {K : PySem.W.Frag} {neg : Bool} {σ : St} {H : Hp} {Q : VK} (h : tD K E (dOp (gIn neg) fa fb) σ H Q) :
    (fun σ H Q => tD K E fa σ H fun y H1 => tD K E fb σ H1 fun x H2 => ∃ a o, x = .ref a ∧ DGet H2 a y o ∧ Q (.bl (if neg then !o.isSome else o.isSome)) H2) σ H Q ∨ tOp (rD2 K fun d e => match e with
    | .dct _ _ => none
    | e => gIn neg d e) (tD K E fa) (tD K E fb) σ H Q := by
  obtain ⟨B, F, sd, r, n⟩ := h
  by_cases hd : ∃ ks ds, fb sd = .ok (.dct ks ds)
  · obtain ⟨ks, ds, hd⟩ := hd
    refine .inl ⟨B, F, sd, r, (Res.need_bind n).mono (fun x n1 v F1 H1 e1 i1 => ?_) fun _ _ q => q⟩
    refine ⟨B, F1, sd, r.step e1, (Res.need_bind n1).monoE (fun y hy n2 w F2 H2 e2 i2 => ?_) fun _ _ q => q.ext e1⟩
    rw [hd] at hy
    cases hy
    obtain ⟨z, hz, q⟩ := Res.need_ofO n2
    obtain ⟨k, hk, hz⟩ := Option.map_eq_some_iff.mp (show (keyOf x).map (fun q => D.bl (if neg then !(valD ks ds q).isSome else (valD ks ds q).isSome)) = some z from hz)
    subst hz
    rw [IsD.dct_iff] at i2
    obtain ⟨p, xs, rfl, h1, h2, h3⟩ := i2
    obtain ⟨g1, g2⟩ := val_zip k h2 h3
    refine ⟨p, valV (ks.zip xs) k, rfl, ?_, ?_⟩
    · rw [keyOf_is hk i1]
      exact DGet.k (e2.fh _ _ h1)
    · have es : (valV (ks.zip xs) k).isSome = (valD ks ds k).isSome := by
        cases hv : valD ks ds k with
        | none => rw [g2 hv]; rfl
        | some d => obtain ⟨x, hx, _⟩ := g1 d hv; rw [hx]; rfl
      rw [es]
      exact q _ F2 H2 (e1.trans e2) (IsD.bl_iff.mpr rfl)
  · refine .inr (tD_op ⟨B, F, sd, r, ?_⟩)
    unfold dOp at n ⊢
    cases hx : fa sd with
    | ok d =>
      rw [hx] at n
      cases hy : fb sd with
      | ok e =>
        rw [hy] at n
        cases e with
        | dct ks ds => exact absurd ⟨ks, ds, hy⟩ hd
        | _ => exact n
      | no => rw [hy] at n; exact n
      | ex c fs => rw [hy] at n; exact n
    | no => rw [hx] at n; exact n
    | ex c fs => rw [hx] at n; exact n
theorem q_notIn (hu : X.A.units + 64 < cLine) (ha : QE X E a fa) (hb : QE X E b fb) (hm : behindInMarks .NotIn b = false := by rfl) : QE X E (.Compare a [.NotIn] [b] pos) (dOp (gIn true) fa fb) :=
  PE.weak (PE.or (pe_cmp (pc_dnotin (by omega) ha hb) hm) (pe_cmpR (gIn_ok hu true) ha hb hm)) fun σ H Q h => tD_in h
end
end L2.DL

namespace L2.DL
open PySem PySem.Spec PyProof.Rows
section
variable {X : Cx} {E : XK} {m : Option Bool} {a b o i e f tg : Expr} {fa fb fo fi fv : FE} {fr : FA} {pos pos' apos cpos p : Pos}
theorem isDs1 {K : PySem.W.Frag} {H : Hp} {d : D} {vs : List V} (h : IsDs K H [d] vs) : ∃ v, vs = [v] ∧ IsD K H d v := by
  rw [IsDs.cons_iff] at h
  obtain ⟨v, r, rfl, h1, h2⟩ := h
  rw [IsDs.nil_iff] at h2
  subst h2
  exact ⟨v, rfl, h1⟩
theorem isDs2 {K : PySem.W.Frag} {H : Hp} {d e : D} {vs : List V} (h : IsDs K H [d, e] vs) : ∃ v w, vs = [v, w] ∧ IsD K H d v ∧ IsD K H e w := by
  rw [IsDs.cons_iff] at h
  obtain ⟨v, r, rfl, h1, h2⟩ := h
  obtain ⟨w, rfl, h3⟩ := isDs1 h2
  exact ⟨v, w, rfl, h1, h3⟩
def gLen : List D → Option D
  | [.lst ds] => some (.int ds.length)
  | [.tup ds] => some (.int ds.length)
  | [.dct ks _] => some (.int ks.length)
  | [.scr ns] => some (.int ns.length)
  | [.str x] => if x.length ≤ sizeLine then some (.int x.length) else none
  | _ => none
theorem b_len : CallR X (.builtin "len") (rDA X.K gLen) := CallR.weak (CallR.or call_len_seq (CallR.or call_lenD call_len_str)) fun xs H Q ⟨F, ds, z, sF, id, hz, q⟩ => by
  unfold gLen at hz
  split at hz
  · cases hz
    obtain ⟨v, rfl, h⟩ := isDs1 id
    rw [IsD.lst_iff] at h
    obtain ⟨a, ys, rfl, h1, h2⟩ := h
    rw [← h2.length] at q
    exact .inl ⟨a, ys, rfl, .inl (h1.same sF).sq, q _ F H (.refl sF) (isI _ F)⟩
  · cases hz
    obtain ⟨v, rfl, h⟩ := isDs1 id
    rw [IsD.tup_iff] at h
    obtain ⟨a, ys, rfl, h1, h2⟩ := h
    rw [← h2.length] at q
    exact .inl ⟨a, ys, rfl, .inr (h1.same sF).sq, q _ F H (.refl sF) (isI _ F)⟩
  · cases hz
    obtain ⟨v, rfl, h⟩ := isDs1 id
    rw [IsD.dct_iff] at h
    obtain ⟨a, ys, rfl, h1, h2, h3⟩ := h
    refine .inr (.inl ⟨a, _, rfl, sF _ _ h1, ?_⟩)
    rw [List.length_zip, ← h2, Nat.min_self]
    exact q _ F H (.refl sF) (isI _ F)
  · cases hz
    obtain ⟨v, rfl, h⟩ := isDs1 id
    rw [IsD.scr_iff] at h
    obtain ⟨a, rfl, h1⟩ := h
    refine .inl ⟨a, _, rfl, .inl (Same.seq sF h1), ?_⟩
    rw [List.length_map]
    exact q _ F H (.refl sF) (isI _ F)
  · split at hz
    · rename_i hl
      cases hz
      obtain ⟨v, rfl, h⟩ := isDs1 id
      rw [IsD.str_iff] at h
      subst h
      exact .inr (.inr ⟨_, rfl, hl, q _ F H (.refl sF) (isI _ F)⟩)
    · cases hz
  · cases hz
def gMax2 : List D → Option D
  | [.int i, .int j] => some (.int (if j > i then j else i))
  | _ => none
def gMin2 : List D → Option D
  | [.int i, .int j] => some (.int (if j < i then j else i))
  | _ => none
theorem b_max2 (hc : X.calm = true) : CallR X (.builtin "max") (rDA X.K gMax2) := CallR.weak (call_max2 hc) fun xs H Q ⟨F, ds, z, sF, id, hz, q⟩ => by
  unfold gMax2 at hz
  split at hz
  · cases hz
    obtain ⟨v, w, rfl, h1, h2⟩ := isDs2 id
    exact ⟨_, _, by rw [IsD.int_iff.mp h1, IsD.int_iff.mp h2], q _ F H (.refl sF) (isI _ F)⟩
  · cases hz
theorem b_min2 (hc : X.calm = true) : CallR X (.builtin "min") (rDA X.K gMin2) := CallR.weak (call_min2 hc) fun xs H Q ⟨F, ds, z, sF, id, hz, q⟩ => by
  unfold gMin2 at hz
  split at hz
  · cases hz
    obtain ⟨v, w, rfl, h1, h2⟩ := isDs2 id
    exact ⟨_, _, by rw [IsD.int_iff.mp h1, IsD.int_iff.mp h2], q _ F H (.refl sF) (isI _ F)⟩
  · cases hz
def intsOf : D → Option (List Int)
  | .lst ds => allOf intOf ds
  | _ => none
theorem intsOf_is {K : PySem.W.Frag} {H : Hp} {d : D} {ns : List Int} {v : V} (h : intsOf d = some ns) (i : IsD K H d v) : ∃ a, v = .ref a ∧ LstD K H a (ns.map V.int) := by
  cases d with
  | lst ds =>
    rw [IsD.lst_iff] at i
    obtain ⟨a, xs, rfl, h1, h2⟩ := i
    rw [allInt_inv (show allOf intOf ds = some ns from h)] at h2
    rw [IsDs.ints_iff h2] at h1
    exact ⟨a, rfl, h1⟩
  | _ => cases h
theorem intsOf_map (ns : List Int) : intsOf (.lst (ns.map D.int)) = some ns := allInt_map ns
def tyN : D → Option String
  | .non => some "NoneType"
  | .bl _ => some "bool"
  | .int _ => some "int"
  | .str _ => some "str"
  | .lst _ => some "list"
  | .tup _ => some "tuple"
  | .dct _ _ => some "dict"
  | _ => none
def tyIn (t n : String) : Bool := (t == n) || (t == "bool" && n == "int")
def tyKnown (t n : String) : Bool := ["NoneType", "bool", "int", "str", "list", "tuple", "dict"].contains t && ["bool", "int", "str", "list", "tuple", "dict"].contains n
def gIsi : List D → Option D
  | [d, .ty n] => (tyN d).bind fun t => if tyKnown t n then some (.bl (tyIn t n)) else none
  | _ => none
def gList : List D → Option D
  | [.lst ds] => some (.lst ds)
  | [.tup ds] => some (.lst ds)
  | [.scr ns] => some (.lst (ns.map .int))
  | _ => none
theorem b_list : CallR X (.type "list") (rDAN X.K gList) := CallR.weak call_list_of fun xs H Q ⟨F, ds, z, sF, id, hz, q⟩ => by
  have fin : ∀ {es : List D} {ys : List V}, IsDs X.K F es ys → OkN X.K F H Q (.lst es) → ∀ l, H l = none → Q (.ref l) (upd H l (.lst ys)) := fun {es ys} h q l hl =>
    q l F _ (.keep sF hl _) hl (same_free sF hl) ⟨ys, upd_same, h⟩
  unfold gList at hz
  split at hz
  · cases hz
    obtain ⟨v, rfl, h⟩ := isDs1 id
    rw [IsD.lst_iff] at h
    obtain ⟨a, ys, rfl, h1, h2⟩ := h
    exact ⟨a, ys, rfl, .inl (h1.same sF).sq, fin h2 q⟩
  · cases hz
    obtain ⟨v, rfl, h⟩ := isDs1 id
    rw [IsD.tup_iff] at h
    obtain ⟨a, ys, rfl, h1, h2⟩ := h
    exact ⟨a, ys, rfl, .inr (h1.same sF).sq, fin h2 q⟩
  · cases hz
    obtain ⟨v, rfl, h⟩ := isDs1 id
    rw [IsD.scr_iff] at h
    obtain ⟨a, rfl, h1⟩ := h
    exact ⟨a, _, rfl, .inl (Same.seq sF h1), fin (IsDs.ints _) q⟩
  · cases hz
def gTuple : List D → Option D
  | [.lst ds] => some (.tup ds)
  | [.tup ds] => some (.tup ds)
  | _ => none
theorem b_tuple : CallR X (.type "tuple") (rDA X.K gTuple) := CallR.weak call_tuple_of fun xs H Q ⟨F, ds, z, sF, id, hz, q⟩ => by
  unfold gTuple at hz
  split at hz
  · cases hz
    obtain ⟨v, rfl, h⟩ := isDs1 id
    rw [IsD.lst_iff] at h
    obtain ⟨a, ys, rfl, h1, h2⟩ := h
    refine ⟨a, ys, rfl, .inl ⟨(h1.same sF).sq, fun l hl => ?_⟩⟩
    have ea := Ext.alloc sF hl (.tup ys)
    exact q _ _ _ ea (IsD.tup_iff.mpr ⟨l, ys, rfl, .of upd_same, IsDs.same ea.ff _ _ h2⟩)
  · cases hz
    obtain ⟨v, rfl, h⟩ := isDs1 id
    have h' := h
    rw [IsD.tup_iff] at h
    obtain ⟨a, ys, rfl, h1, h2⟩ := h
    exact ⟨a, ys, rfl, .inr ⟨(h1.same sF).sq, q _ F H (.refl sF) h'⟩⟩
  · cases hz
def dNewD : FE := fun _ => .ok (.dct [] [])
theorem q_dnew : QN X E (.Dict [] [] pos) dNewD := PE.weak pe_dnewK fun σ H Q ⟨B, F, sd, r, n⟩ => fun p hp => n p F _ (.keep r.ext.fh hp _) hp (same_free r.ext.fh hp) ⟨[], upd_same, rfl, .nil⟩
def sDput (i : Nat) (fk fv : FE) : FS := fun sd => (fv sd).bind fun v => match sd[i]? with
  | some (some (.own false (.dct ks ds))) => (fk sd).bind fun k => match keyOf k with
    | some q => if ks.length < sizeLine then .ok (.next (sd.set i (some (.own false (.dct (putKs ks q) (putDs ks ds q v)))))) else .no
    | none => .no
  | _ => .no
theorem qs_dput {j : Nat} (hu : X.A.units + 1 < cLine) (ho : PE X o (tVar j)) (hi : QE X E i fi) (hv : QE X E e fv) (hs : swapsWith e (some (.Subscript o i pos')) pos.line X.env = pure false := by rfl) :
    QS X E m (.Assign [.Subscript o i pos'] e pos) (sDput j fi fv) := PS.weak (ps_dput hu ho hi hv hs) fun T σ H ⟨B, F, sd, r, n⟩ => by
  refine ⟨B, F, sd, r, (Res.need_bind n).mono (fun d n1 v F1 H1 e1 i1 => ?_) fun _ _ q => q.ext r.ext⟩
  split at n1
  · rename_i ks ds hj
    obtain ⟨l, h1, h2, h3, ⟨xs, h4, h5, h6⟩, _⟩ := (r.step e1).own hj
    refine ⟨.ref l, h1, B, F1, sd, r.step e1, (Res.need_bind n1).mono (fun k n2 w F2 H2 e2 i2 => ?_) fun _ _ q => q.ext (r.step e1).ext⟩
    split at n2
    · rename_i q hk
      split at n2
      · rename_i hz
        obtain ⟨ys, y1, y2, y3⟩ := put_zip (K := X.K) (q := q) h5 (IsDs.same e2.ff _ _ h6) (IsD.same e2.ff _ _ i1)
        have hH := e2.hh _ _ h4
        refine ⟨l, _, rfl, (by rw [keyOf_is hk i2]; exact DPut.k hH (by rw [List.length_zip]; omega)), ?_⟩
        exact n2 σ F2 _ (e1.ff.trans e2.ff) (((r.step e1).step e2).chg hj h1 ⟨ys, by rw [upd_same, y1], y2, y3⟩)
      · exact n2.elim
    · exact n2.elim
  · exact n1.elim
def walkL : D → Option (List D)
  | .lst ds => some ds
  | .scr ns => some (ns.map .int)
  | _ => none
def walkT : D → Option (List D)
  | .tup ds => some ds
  | _ => none
def iL (f : FE) : FA := fun sd => (f sd).bind fun d => .ofO (walkL d)
def iT (f : FE) : FA := fun sd => (f sd).bind fun d => .ofO (walkT d)
theorem walk_of_at {K : PySem.W.Frag} {F1 : Hp} {J : It} {ds : List D} {xs : List V} {S : Hp → Prop} (h : IsDs K F1 ds xs) (sm : ∀ F H, Same F1 F → Same F H → S H) (g : ∀ i H x, S H → xs[i]? = some x → J.go i H) (st : ∀ i H, S H → xs.length ≤ i → J.stop i H)
    (yl : ∀ i H x H', S H → J.yld i H x H' → H' = H ∧ xs[i]? = some x) : Walk K F1 J ds := fun i F2 H2 s1 s2 => by
  have hS := sm F2 H2 s1 s2
  refine ⟨fun hi => ?_, fun hi => st i H2 hS (by rw [h.length]; exact hi)⟩
  obtain ⟨x, hx, _⟩ := h.get (List.getElem?_eq_getElem hi)
  refine ⟨g i H2 x hS hx, fun y H3 hy => ?_⟩
  obtain ⟨rfl, hy'⟩ := yl i H2 y H3 hS hy
  obtain ⟨d, hd, id⟩ := h.getV hy'
  exact ⟨d, F2, hd, .refl s2, IsD.same s1 _ _ id⟩
theorem qi_list (h : QE X E e fa) : QI X E tg e (iL fa) := PI.weak (pi_list h) fun σ H R ⟨B, F, sd, r, n⟩ => by
  refine ⟨B, F, sd, r, (Res.need_bind n).mono (fun d n1 v F1 H1 e1 i1 => ?_) fun _ _ q => q⟩
  obtain ⟨ds, hz, q⟩ := Res.need_ofO n1
  cases d with
  | lst es =>
    cases hz
    rw [IsD.lst_iff] at i1
    obtain ⟨a, xs, rfl, h1, h2⟩ := i1
    refine ⟨a, rfl, ⟨xs, (h1.same e1.fh).sq⟩, q _ F1 H1 e1 (walk_of_at (S := fun H => SqL X.K H a xs) h2 (fun F H s1 s2 => ((h1.same s1).same s2).sq) (fun i H x hS hx => ⟨xs, x, hS, hx⟩) (fun i H hS hi => ⟨xs, hS, hi⟩) fun i H x H' hS hy => ⟨hy.1, hy.2 xs hS⟩)⟩
  | scr ns =>
    cases hz
    rw [IsD.scr_iff] at i1
    obtain ⟨a, rfl, h1⟩ := i1
    refine ⟨a, rfl, ⟨_, Same.seq e1.fh h1⟩, q _ F1 H1 e1 (walk_of_at (S := fun H => SqL X.K H a (ns.map V.int)) (IsDs.ints ns) (fun F H s1 s2 => Same.seq s2 (Same.seq s1 h1)) (fun i H x hS hx => ⟨_, x, hS, hx⟩) (fun i H hS hi => ⟨_, hS, hi⟩) fun i H x H' hS hy => ⟨hy.1, hy.2 _ hS⟩)⟩
  | _ => cases hz
theorem qi_tup (h : QE X E e fa) : QI X E tg e (iT fa) := PI.weak (pi_tup h) fun σ H R ⟨B, F, sd, r, n⟩ => by
  refine ⟨B, F, sd, r, (Res.need_bind n).mono (fun d n1 v F1 H1 e1 i1 => ?_) fun _ _ q => q⟩
  obtain ⟨ds, hz, q⟩ := Res.need_ofO n1
  cases d with
  | tup es =>
    cases hz
    rw [IsD.tup_iff] at i1
    obtain ⟨a, xs, rfl, h1, h2⟩ := i1
    refine ⟨a, rfl, ⟨xs, (h1.same e1.fh).sq⟩, q _ F1 H1 e1 (walk_of_at (S := fun H => SqT X.K H a xs) h2 (fun F H s1 s2 => ((h1.same s1).same s2).sq) (fun i H x hS hx => ⟨xs, x, hS, hx⟩) (fun i H hS hi => ⟨xs, hS, hi⟩) fun i H x H' hS hy => ⟨hy.1, hy.2 xs hS⟩)⟩
  | _ => cases hz
def PIor {X : Cx} {tg e : Expr} {t t' : TI} (h : PI X tg e t) (h' : PI X tg e t') : PI X tg e (fun σ H R => t σ H R ∨ t' σ H R) := fun pins s σ H R I q => q.elim (h pins s σ H R I) (h' pins s σ H R I)
/-- a list or a tuple -/
def walkS : D → Option (List D)
  | .lst ds => some ds
  | .scr ns => some (ns.map .int)
  | .tup ds => some ds
  | _ => none
def iS (f : FE) : FA := fun sd => (f sd).bind fun d => .ofO (walkS d)
theorem qi_seq (h : QE X E e fa) : QI X E tg e (iS fa) := PI.weak (PIor (qi_list (E := E) h) (qi_tup (E := E) h)) fun σ H R ⟨B, F, sd, r, n⟩ => by
  by_cases hd : ∃ ds, fa sd = .ok (.tup ds)
  · obtain ⟨ds, hd⟩ := hd
    refine .inr ⟨B, F, sd, r, ?_⟩
    unfold iS at n
    unfold iT
    rw [hd] at n ⊢
    exact n
  · refine .inl ⟨B, F, sd, r, ?_⟩
    unfold iS at n
    unfold iL
    cases hx : fa sd with
    | ok d =>
      rw [hx] at n
      cases d with
      | tup ds => exact absurd ⟨ds, hx⟩ hd
      | _ => exact n
    | no => rw [hx] at n; exact n
    | ex c fs => rw [hx] at n; exact n
def rangeD (lo : Int) (n : Nat) : List D := (List.range n).map fun k : Nat => .int (lo + k)
def rngOk (j : Int) : Bool := Nat.ble j.toNat 1000000000 && Nat.ble (-j).toNat 1000000000
theorem rngOk_of {j : Int} (h : rngOk j = true) : -(2 ^ 62) ≤ j ∧ j < 2 ^ 62 := by
  unfold rngOk at h
  rw [Bool.and_eq_true, Nat.ble_eq, Nat.ble_eq] at h
  omega
theorem rngOk_in {j : Int} (h1 : -1000000000 ≤ j) (h2 : j ≤ 1000000000) : rngOk j = true := by
  unfold rngOk
  rw [Bool.and_eq_true, Nat.ble_eq, Nat.ble_eq]
  omega
def iR1 (fr : FA) : FA := fun sd => (fr sd).bind fun ds => match ds with
  | [.int j] => if rngOk j then .ok (rangeD 0 j.toNat) else .no
  | _ => .no
theorem walk_range {K : PySem.W.Frag} {F1 : Hp} (lo : Int) (n : Nat) : Walk K F1 (Itr lo n) (rangeD lo n) := fun i F2 H2 s1 s2 => by
  have hl : (rangeD lo n).length = n := by unfold rangeD; rw [List.length_map, List.length_range]
  rw [hl]
  refine ⟨fun hi => ⟨hi, fun x H3 hy => ?_⟩, fun hi => hi⟩
  obtain ⟨rfl, rfl⟩ := hy
  refine ⟨.int (lo + i), F2, ?_, .refl s2, IsD.int_iff.mpr rfl⟩
  unfold rangeD
  rw [List.getElem?_map, List.getElem?_range hi]
  rfl
theorem qi_range1 {a : Expr} (hg : Gl X "range") (hm : X.mg "range" = none) (ha : QA X E [a] fr) (hs : starEach [a] X.env = [(false, eval a X.env)] := by rfl) : QI X E tg (.Call (.Name "range" p) [a] [] pos) (iR1 fr) := PI.weak (pi_range1 hg hm ha hs) fun σ H R ⟨B, F, sd, r, n⟩ => by
  refine ⟨B, F, sd, r, (Res.need_bind n).mono (fun ds n1 vs F1 H1 e1 i1 => ?_) fun _ _ q => q⟩
  split at n1
  · split at n1
    · rename_i j hj
      obtain ⟨v, rfl, h⟩ := isDs1 i1
      rw [IsD.int_iff.mp h]
      exact ⟨j, rfl, (rngOk_of hj).1, (rngOk_of hj).2, n1 _ F1 H1 e1 (walk_range 0 _)⟩
    · exact n1.elim
  · exact n1.elim
end
end L2.DL

namespace L2.DL
open PySem PySem.Spec PyProof.Rows
section
variable {X : Cx} {E : XK} {m : Option Bool} {a b o i e f tg : Expr} {fa fb fo fi fv : FE} {fr : FA} {pos pos' apos cpos p : Pos}
theorem PG.weak {e : Expr} {t t' : TG} (h : PG X e t) (w : ∀ v σ H Q, t' v σ H Q → t v σ H Q) : PG X e t' := fun pins s σ H v u Q I r q => h pins s σ H v u Q I r (w _ _ _ _ q)
def gNames : List Nat → TGs
  | [] => gNil
  | i :: is => gCons (gName i) (gNames is)
theorem gNames_ok : ∀ {is : List Nat} {xs : List V} {σ : St} {H : Hp} {Q : St → Hp → Prop}, xs.length = is.length → Q (setAllV is xs σ) H → gNames is xs σ H Q
  | [], xs, σ, H, Q, hl, q => ⟨List.length_eq_zero_iff.mp hl, q⟩
  | i :: is, [], σ, H, Q, hl, q => by cases hl
  | i :: is, x :: xs, σ, H, Q, hl, q => ⟨x, xs, rfl, gNames_ok (is := is) (xs := xs) (Nat.succ.inj hl) q⟩
theorem qg_one {i : Nat} {e : Expr} (h : PG X e (gName i)) : QG X e (.one i) := h
theorem qg_tup (is : List Nat) {e : Expr} (h : PG X e (gTup X.K is.length (gNames is))) : QG X e (.tup is) := PG.weak h fun v σ H Q ⟨a, xs, e, h1, h2, q⟩ => ⟨a, xs, e, h1, h2, gNames_ok h2 q⟩
/-- the target bound once, then the test and the element -/
def mapTg (tg : Tg) (c : FT) (f : FE) (sd : SD) : List D → Res (List D)
  | [] => .ok []
  | x :: xs => (bindT tg x sd).bind fun s => (c s).bind fun b => if b then (f s).bind fun y => (mapTg tg c f sd xs).bind fun ys => .ok (y :: ys) else mapTg tg c f sd xs
def dCompIf (cap : List (Option Nat)) (it : FA) (tg : Tg) (c : FT) (f : FE) : FE := fun sd => (it sd).bind fun ds => if tgNone (capD cap sd) tg = true ∧ ds.length < sizeLine then
  (mapTg tg c f (capD cap sd) ds).bind fun ys => .ok (.lst ys) else .no
theorem tDN_compIf {K : PySem.W.Frag} {t : Tg} {fi : FA} {fc : FT} {f : FE} {cap : List (Option Nat)} {σ : St} {H : Hp} {Q : VK} (hh : tDN K E (dCompIf cap fi t fc f) σ H Q) : tCompIf cap (tDI K E fi) (gT t K) (tDT K E fc) (tD K E f) σ H Q := by
  obtain ⟨B, F, sd, r, n⟩ := hh
  refine ⟨B, F, sd, r, (Res.need_bind n).mono (fun ds n1 J F1 H1 e1 wk => ?_) fun _ _ q => q⟩
  split at n1
  · rename_i hh
    obtain ⟨hn, hz⟩ := hh
    refine ⟨fun i k ys σ H2 => k = ds.length - i ∧ i ≤ ds.length ∧ ∃ F2 es, Ext F1 H1 F2 H2 ∧ RS K B F2 H2 (capD cap sd) σ ∧ IsDs K F2 es ys ∧ es.length ≤ i ∧
      (mapTg t fc f (capD cap sd) (ds.drop i)).need (fun rs => OkN K F2 H2 Q (.lst (es ++ rs))) (XW K E F2 H2), ⟨ds.length, rfl, Nat.zero_le _, F1, [], .refl e1.fh, (r.step e1).cap cap, .nil, Nat.le_refl _, ?_⟩, ?_⟩
    · exact (Res.need_bind n1).mono (fun rs q => (show OkN K F H Q (.lst rs) from q).ext e1) fun _ _ q => q.ext e1
    rintro i k ys σ2 H2 ⟨rfl, hi, F2, es, e2, r2, i2, hl, n2⟩
    have ly := i2.length
    refine ⟨by omega, ?_⟩
    obtain ⟨w1, w2⟩ := wk i F2 H2 e2.ff e2.fh
    by_cases hlt : i < ds.length
    · obtain ⟨go, yl⟩ := w1 hlt
      refine .inr ⟨go, fun x H3 y => ?_⟩
      obtain ⟨d, F3, hd, e3, i3⟩ := yl x H3 y
      rw [List.drop_eq_getElem_cons hlt] at n2
      have hd' : ds[i] = d := by rw [List.getElem?_eq_getElem hlt] at hd; exact Option.some.inj hd
      rw [hd'] at n2
      unfold mapTg at n2
      have r3 := r2.step e3
      refine gT_ok (K := K) r3 i3 (Res.need_bind n2) fun sd' σ' n4 hb r4 => ?_
      obtain ⟨b1, b2⟩ := bindT_some hn hb
      refine ⟨B, F3, sd', r4, (Res.need_bind n4).mono (fun b n5 F4 H4 e4 => ?_) fun _ _ q => q.ext e3⟩
      cases b with
      | true =>
        refine ⟨B, F4, sd', r4.step e4, (Res.need_bind n5).mono (fun y n6 v F5 H5 e5 i5 => ?_) fun _ _ q => q.ext (e3.trans e4)⟩
        refine ⟨ds.length - (i + 1), by omega, rfl, hlt, F5, es ++ [y], ((e2.trans e3).trans e4).trans e5, ((r4.step e4).step e5).forget b1 b2, (IsDs.same ((e3.ff.trans e4.ff).trans e5.ff) _ _ i2).snoc i5, by rw [List.length_append]; exact Nat.succ_le_succ hl, ?_⟩
        refine (Res.need_bind n6).mono (fun rs q => ?_) fun _ _ q => q.ext ((e3.trans e4).trans e5)
        rw [List.append_assoc]
        exact (show OkN K F2 H2 Q (.lst (es ++ y :: rs)) from q).ext ((e3.trans e4).trans e5)
      | false =>
        refine ⟨ds.length - (i + 1), by omega, rfl, hlt, F4, es, (e2.trans e3).trans e4, (r4.step e4).forget b1 b2, IsDs.same (e3.ff.trans e4.ff) _ _ i2, Nat.le_succ_of_le hl, ?_⟩
        exact (show (mapTg t fc f (capD cap sd) (ds.drop (i + 1))).need _ _ from n5).mono (fun rs q => q.ext (e3.trans e4)) fun _ _ q => q.ext (e3.trans e4)
    · have he : i = ds.length := by omega
      subst he
      refine .inl ⟨w2 (Nat.le_refl _), fun D hD => ?_⟩
      rw [List.drop_length] at n2
      have q : OkN K F2 H2 Q (.lst (es ++ [])) := n2
      rw [List.append_nil] at q
      exact q D F2 _ (.keep r2.ext.fh hD _) hD (same_free r2.ext.fh hD) ⟨ys, upd_same, i2⟩
  · exact n1.elim
end
end L2.DL

namespace L2.DL
open PySem PySem.Spec PyProof.Rows
section
variable {P : Program} {w : World} {K : PySem.W.Frag} {mg : Str → Option Value} {base : Heap} {f : Addr} {fd : FuncData} {ps : List Str} {k : Nat}
end
section
variable {X : Cx} {E : XK} {m : Option Bool} {a b o i e f tg : Expr} {fa fb fo fi fv : FE} {fr : FA} {pos pos' apos cpos p : Pos}
def gIsN (neg : Bool) : D → Option D
  | .non => some (.bl (!neg))
  | _ => some (.bl neg)
def isNonD : D → Bool
  | .non => true
  | _ => false
theorem nonV_iff {K : PySem.W.Frag} {H : Hp} {d : D} {v : V} (h : IsD K H d v) : decide (v = .non) = isNonD d := by
  cases d with
  | non => rw [IsD.non_iff.mp h]; rfl
  | bl b => rw [IsD.bl_iff.mp h]; rfl
  | int b => rw [IsD.int_iff.mp h]; rfl
  | str b => rw [IsD.str_iff.mp h]; rfl
  | ty b => rw [IsD.ty_iff.mp h]; rfl
  | scr b => obtain ⟨a, rfl, _⟩ := IsD.scr_iff.mp h; rfl
  | tup b => obtain ⟨a, _, rfl, _⟩ := IsD.tup_iff.mp h; rfl
  | lst b => obtain ⟨a, _, rfl, _⟩ := IsD.lst_iff.mp h; rfl
  | dct b c => obtain ⟨a, _, rfl, _⟩ := IsD.dct_iff.mp h; rfl
  | ins b c d => obtain ⟨a, _, _, _, rfl, _⟩ := IsD.ins_iff.mp h; rfl
  | exc b => obtain ⟨a, _, rfl, _⟩ := IsD.exc_iff.mp h; rfl
  | ucl b => obtain ⟨a, rfl, _⟩ := IsD.ucl_iff.mp h; rfl
theorem tD_isN {K : PySem.W.Frag} {σ : St} {H : Hp} {Q : VK} (h : tD K E (dUn (gIsN false) fa) σ H Q) : tIsN (tD K E fa) σ H Q := by
  obtain ⟨B, F, sd, r, n⟩ := h
  refine ⟨B, F, sd, r, (Res.need_bind n).mono (fun x n1 v F1 H1 e1 i1 => ?_) fun _ _ q => q⟩
  show Q (V.bl (decide (v = V.non))) H1
  rw [nonV_iff i1]
  cases x <;> exact n1 _ F1 H1 e1 (IsD.bl_iff.mpr rfl)
theorem q_isN {j pos'} (ha : QE X E a fa) : QE X E (.Compare a [.Is] [.Constant .none j pos'] pos) (dUn (gIsN false) fa) := PE.weak (pe_cmp (pc_isN ha)) fun _ _ _ h => tD_isN h
end
end L2.DL

namespace L2
open PySem PySem.Spec PyProof.Rows
section
variable {X : Cx} {tg iter elt c : Expr} {scope : Scope} {pos : Pos} {wi : TI} {g : TG} {te : TE} {tt : TT}
theorem fin_set {y : Str} {py : Pos} {iy : Nat} {pins : List (Addr × Obj)} {σ : St} {DD : Ends} (hNN : X.N.Nodup) (hiy : X.N[iy]? = some y) (hyy : Loc X.env.scope y) (hyf : X.fn y = true ∨ X.env.scope.names.lookup y = some .local) :
    CompFin X pins σ (fun v H' => DD.nx (σ.set iy (some v)) H') (some (assign (.Name y py) X.env)) (fun _ s' => SP X pins DD .next s') := fun C D m s5 r hm nC nF sz cC pC k => by
  obtain ⟨v5, H5, K5, rv5, fC, q5⟩ := k s5.heap ⟨rfl, fun _ _ => rfl⟩
  obtain ⟨oC, esC, epC, hoC, hdC, hrC⟩ := id hm
  have KP : Inv X (pins ++ [(C, oC)]) σ H5 { s5 with heap := s5.heap } := K5.pins_of fun p hp => by
    rcases List.mem_append.mp hp with hp | hp
    · exact K5.pin p (List.mem_append_right _ hp)
    · have e := List.mem_singleton.mp hp
      subst e
      exact ⟨hoC, fC, nC, nF, fun v z => by rw [show oC.data = _ from z] at hdC; cases hdC⟩
  refine wpAny_assign_Name (store_ok KP hNN hiy hyy rv5 (fun s6 I6 => ?_) hyf)
  have p6 := I6.pin (C, oC) (List.mem_append_right _ (List.mem_append_right _ List.mem_cons_self))
  refine ⟨m, ⟨oC, esC, epC, p6.1, hdC, hrC⟩, fun h' hs' => ⟨_, H5, ?_, q5⟩⟩
  exact (I6.pins_of (pins' := pins) fun p hp => I6.pin p (List.mem_append_right _ (List.mem_append_left _ hp))).turned (t' := s6.toks) (it := C) (fun b o hb e => (hs'.2 b hb).trans e) fC nC (.inr sz) cC pC
theorem ps_setComp {y : Str} {py spos : Pos} {iy : Nat} (hsw : swapsWith (.ListComp elt [⟨tg, iter, [], 0⟩] scope pos) (some (.Name y py)) spos.line X.env = pure true) (hNN : X.N.Nodup) (hiy : X.N[iy]? = some y) (hyy : Loc X.env.scope y) (hyf : X.fn y = true ∨ X.env.scope.names.lookup y = some .local) (N : List Str) (cap : List (Option Nat)) (hc : X.calm = true) (okB : compOkB scope X.env N X.N cap = true) (hi : PI X tg iter wi) (hg : ∀ cl C s H ex, PG (cxComp X scope N cl C s H ex) tg g) (he : ∀ cl C s H ex, PE (cxComp X scope N cl C s H ex) elt te)
    (hs : ∀ x, foldedSetIterable iter X.env x = pure x := by intro _; rfl) : PS X (.Assign [.Name y py] (.ListComp elt [⟨tg, iter, [], 0⟩] scope pos) spos) (tAsg (tComp cap wi g te) (gName iy)) := by
  intro pins s σ H DD I h
  rw [exec_Assign_Name_used _ _ _ _ hsw]
  refine wpAny_bind (wpAny_standAt (wpAny_bind ?_))
  refine wpAny_bind (wpAny_mono (comp_go (use := some (assign (.Name y py) X.env)) (R := fun _ s' => SP X pins DD .next s') N cap hc okB hi hg he hs I h (fin_set hNN hiy hyy hyf)) (fun _ s' hq => wpAny_pure (wpAny_pure hq)) fun _ _ e => e)
theorem ps_setCompIf {y : Str} {py spos : Pos} {iy : Nat} (hsw : swapsWith (.ListComp elt [⟨tg, iter, [c], 0⟩] scope pos) (some (.Name y py)) spos.line X.env = pure true) (hNN : X.N.Nodup) (hiy : X.N[iy]? = some y) (hyy : Loc X.env.scope y) (hyf : X.fn y = true ∨ X.env.scope.names.lookup y = some .local) (N : List Str) (cap : List (Option Nat)) (hc : X.calm = true) (okB : compOkB scope X.env N X.N cap = true) (hi : PI X tg iter wi) (hg : ∀ cl C s H ex, PG (cxComp X scope N cl C s H ex) tg g) (ht : ∀ cl C s H ex, PT (cxComp X scope N cl C s H ex) c tt) (he : ∀ cl C s H ex, PE (cxComp X scope N cl C s H ex) elt te)
    (hs : ∀ x, foldedSetIterable iter X.env x = pure x := by intro _; rfl) : PS X (.Assign [.Name y py] (.ListComp elt [⟨tg, iter, [c], 0⟩] scope pos) spos) (tAsg (tCompIf cap wi g tt te) (gName iy)) := by
  intro pins s σ H DD I h
  rw [exec_Assign_Name_used _ _ _ _ hsw]
  refine wpAny_bind (wpAny_standAt (wpAny_bind ?_))
  refine wpAny_bind (wpAny_mono (compIf_go (use := some (assign (.Name y py) X.env)) (R := fun _ s' => SP X pins DD .next s') N cap hc okB hi hg ht he hs I h (fin_set hNN hiy hyy hyf)) (fun _ s' hq => wpAny_pure (wpAny_pure hq)) fun _ _ e => e)
end
end L2
namespace L2.DL
open PySem PySem.Spec PyProof.Rows
section
variable {X : Cx} {E : XK} {m : Option Bool} {tg iter elt c : Expr} {scope : Scope} {pos spos py : Pos} {y : Str} {iy : Nat} {t : Tg} {fi : FA} {fc : FT} {f : FE}
theorem tDS_set {K : PySem.W.Frag} {te : TE} {i : Nat} {fe : FE} (w : ∀ σ H Q, tDN K E fe σ H Q → te σ H Q) {T : Ends} {σ : St} {H : Hp} (h : tDS K E m (sSet i fe) T σ H) : tAsg te (gName i) T σ H := w _ _ _ (by
  obtain ⟨B, F, sd, r, n⟩ := h
  refine ⟨B, F, sd, r, (Res.need_bind n).mono (fun d n1 => OkD.new fun v F1 H1 e1 i1 => ?_) fun _ _ q => q.ext r.ext⟩
  exact n1 _ F1 H1 e1.ff ((r.step e1).setVal i1))
theorem tDS_own {K : PySem.W.Frag} {te : TE} {i : Nat} {fe : FE} (w : ∀ σ H Q, tDN K E fe σ H Q → te σ H Q) {T : Ends} {σ : St} {H : Hp} (h : tDS K E m (sOwn i fe) T σ H) : tAsg te (gName i) T σ H := w _ _ _ (by
  obtain ⟨B, F, sd, r, n⟩ := h
  refine ⟨B, F, sd, r, (Res.need_bind n).mono (fun d n1 l F1 H1 e1 h1 h2 h3 => ?_) fun _ _ q => q.ext r.ext⟩
  refine n1 _ F1 H1 e1.ff ((r.step e1).setOwn (same_free r.ext.hh h1) h2 h3 fun j p d' q1 q2 => ?_)
  obtain ⟨l', p1, _, _, p4, _⟩ := r.own q1
  rw [p1] at q2
  cases q2
  obtain ⟨o, ho⟩ := p4.has
  rw [h1] at ho
  cases ho)
theorem qs_setComp (N : List Str) (cap : List (Option Nat)) (hNN : X.N.Nodup) (hiy : X.N[iy]? = some y) (hyy : Loc X.env.scope y) (hc : X.calm = true) (okB : compOkB scope X.env N X.N cap = true) (hi : QI X E tg iter fi)
    (hg : ∀ cl C s H ex, QG (cxComp X scope N cl C s H ex) tg t) (he : ∀ cl C s H ex, QE (cxComp X scope N cl C s H ex) E elt f) (hsw : swapsWith (.ListComp elt [⟨tg, iter, [], 0⟩] scope pos) (some (.Name y py)) spos.line X.env = pure true := by rfl)
    (hyf : X.fn y = true ∨ X.env.scope.names.lookup y = some .local := by first | exact .inl rfl | exact .inr rfl) (hs : ∀ x, foldedSetIterable iter X.env x = pure x := by intro _; rfl) :
    QS X E m (.Assign [.Name y py] (.ListComp elt [⟨tg, iter, [], 0⟩] scope pos) spos) (sSet iy (dComp cap fi t f)) := by
  have hh := ps_setComp (g := gT t X.K) (te := tD X.K E f) hsw hNN hiy hyy hyf N cap hc okB hi hg he hs
  exact PS.weak hh fun T σ H h => tDS_set (fun _ _ _ q => tDN_comp q) h
end
end L2.DL

namespace L2.DL
open PySem PySem.Spec PyProof.Rows
def slotV : Option (Option SV) → Res D
  | some (some (.val d)) => .ok d
  | _ => .no
@[simp] theorem slotV_val (d : D) : slotV (some (some (.val d))) = .ok d := rfl
@[simp] theorem ev_var (i : Nat) (sd : SD) : dVar i sd = slotV sd[i]? := rfl
@[simp] theorem ev_C (d : D) (sd : SD) : dC d sd = .ok d := rfl
@[simp] theorem ev_op (g : D → D → Option D) (fa fb : FE) (sd : SD) : dOp g fa fb sd = (fa sd).bind fun x => (fb sd).bind fun y => .ofO (g x y) := rfl
@[simp] theorem ev_un (g : D → Option D) (fa : FE) (sd : SD) : dUn g fa sd = (fa sd).bind fun x => .ofO (g x) := rfl
def bOf : D → Res Bool
  | .bl b => .ok b
  | _ => .no
@[simp] theorem bOf_bl (b : Bool) : bOf (.bl b) = .ok b := rfl
@[simp] theorem ev_bool (fa : FE) (sd : SD) : dBool fa sd = (fa sd).bind bOf := by
  unfold dBool
  cases fa sd with
  | ok d => cases d <;> rfl
  | ex c fs => rfl
  | no => rfl
@[simp] theorem ev_notT (f : FT) (sd : SD) : dNotT f sd = (f sd).bind fun b => .ok (!b) := rfl
@[simp] theorem ev_andT (f g : FT) (sd : SD) : dAndT f g sd = (f sd).bind fun b => if b then g sd else .ok false := rfl
@[simp] theorem ev_orT (f g : FT) (sd : SD) : dOrT f g sd = (f sd).bind fun b => if b then .ok true else g sd := rfl
@[simp] theorem ev_andV (fa fb : FE) (sd : SD) : dAndV fa fb sd = (dBool fa sd).bind fun b => if b then fb sd else .ok (.bl false) := rfl
@[simp] theorem ev_orV (fa fb : FE) (sd : SD) : dOrV fa fb sd = (dBool fa sd).bind fun b => if b then .ok (.bl true) else fb sd := rfl
@[simp] theorem ev_nil (sd : SD) : dNil sd = .ok [] := rfl
@[simp] theorem ev_cons (fa : FE) (fr : FA) (sd : SD) : dCons fa fr sd = (fa sd).bind fun x => (fr sd).bind fun xs => .ok (x :: xs) := rfl
@[simp] theorem ev_lst (fr : FA) (sd : SD) : dLst fr sd = (fr sd).bind fun xs => if xs.length ≤ 1000 then .ok (.lst xs) else .no := rfl
@[simp] theorem ev_tup (fr : FA) (sd : SD) : dTup fr sd = (fr sd).bind fun xs => if xs.length ≤ 1000 then .ok (.tup xs) else .no := rfl
@[simp] theorem ev_call (Fn : List D → Res D) (fr : FA) (sd : SD) : dCall Fn fr sd = (fr sd).bind Fn := rfl
@[simp] theorem ev_blt (g : List D → Option D) (fr : FA) (sd : SD) : dBlt g fr sd = (fr sd).bind fun xs => .ofO (g xs) := rfl
@[simp] theorem bare_ok {α : Type} (a : α) : (Res.ok a).bare = .ok a := rfl
@[simp] theorem ev_tmp (is : List Nat) (f : FE) (sd : SD) : dTmp is f sd = (f (frzD is sd)).bare.bind fun d => if scalD d then .ok d else .no := rfl
@[simp] theorem scal_int (i : Int) : scalD (.int i) = true := rfl
@[simp] theorem frzD_nil (sd : SD) : frzD [] sd = sd := rfl
def frz1 (i : Nat) (sd : SD) : Option (Option SV) → SD
  | some (some (.own _ d)) => sd.set i (some (.val d))
  | _ => sd
@[simp] theorem frz1_own (i : Nat) (sd : SD) (p : Bool) (d : D) : frz1 i sd (some (some (.own p d))) = sd.set i (some (.val d)) := rfl
@[simp] theorem frzD_cons (i : Nat) (is : List Nat) (sd : SD) : frzD (i :: is) sd = frzD is (frz1 i sd sd[i]?) := by
  show frzD is _ = frzD is _
  congr 1
def seqK (g : FS) : Out → Res Out
  | .next sd => g sd
  | o => .ok o
@[simp] theorem seqK_next (g : FS) (sd : SD) : seqK g (.next sd) = g sd := rfl
@[simp] theorem seqK_ret (g : FS) (d : D) : seqK g (.ret d) = .ok (.ret d) := rfl
@[simp] theorem ev_seq (g1 g2 : FS) (sd : SD) : sSeq g1 g2 sd = (g1 sd).bind (seqK g2) := by
  unfold sSeq
  cases g1 sd with
  | ok o => cases o <;> rfl
  | ex c fs => rfl
  | no => rfl
@[simp] theorem ev_next (sd : SD) : sNext sd = .ok (.next sd) := rfl
@[simp] theorem ev_set (i : Nat) (f : FE) (sd : SD) : sSet i f sd = (f sd).bind fun d => .ok (.next (sd.set i (some (.val d)))) := rfl
@[simp] theorem ev_own (i : Nat) (f : FE) (sd : SD) : sOwn i f sd = (f sd).bind fun d => .ok (.next (sd.set i (some (.own false d)))) := rfl
@[simp] theorem ev_ret (f : FE) (sd : SD) : sRet f sd = (f sd).bind fun d => .ok (.ret d) := rfl
def ownV : Option (Option SV) → Res D
  | some (some (.own _ d)) => .ok d
  | _ => .no
@[simp] theorem ownV_own (p : Bool) (d : D) : ownV (some (some (.own p d))) = .ok d := rfl
@[simp] theorem ev_retOwn (i : Nat) (sd : SD) : sRetOwn i sd = (ownV sd[i]?).bind fun d => .ok (.ret d) := by
  unfold sRetOwn
  cases sd[i]? with
  | none => rfl
  | some o =>
    cases o with
    | none => rfl
    | some v => cases v <;> rfl
@[simp] theorem ev_drop (f : FE) (sd : SD) : sDrop f sd = (f sd).bind fun _ => .ok (.next sd) := rfl
@[simp] theorem ev_ifS (c : FT) (g1 g2 : FS) (sd : SD) : sIf c g1 g2 sd = (c sd).bind fun b => if b then g1 sd else g2 sd := rfl
/-- the own list in a slot (not walked just now) -/
def ownL : Option (Option SV) → Res (List D)
  | some (some (.own false (.lst ds))) => .ok ds
  | _ => .no
@[simp] theorem ownL_own (ds : List D) : ownL (some (some (.own false (.lst ds)))) = .ok ds := rfl
@[simp] theorem ev_append (i : Nat) (f : FE) (sd : SD) : sAppend i f sd = (ownL sd[i]?).bind fun ds => (f sd).bind fun d => if ds.length < sizeLine then .ok (.next (sd.set i (some (.own false (.lst (ds ++ [d])))))) else .no := by
  unfold sAppend
  cases sd[i]? with
  | none => rfl
  | some o =>
    cases o with
    | none => rfl
    | some v =>
      cases v with
      | val d => rfl
      | own p d => cases p <;> cases d <;> rfl
def ownK : Option (Option SV) → Res (List Key × List D)
  | some (some (.own false (.dct ks ds))) => .ok (ks, ds)
  | _ => .no
@[simp] theorem ownK_own (ks : List Key) (ds : List D) : ownK (some (some (.own false (.dct ks ds)))) = .ok (ks, ds) := rfl
@[simp] theorem ev_dput (i : Nat) (fk fv : FE) (sd : SD) : sDput i fk fv sd = (fv sd).bind fun v => (ownK sd[i]?).bind fun o => (fk sd).bind fun k => (Res.ofO (keyOf k)).bind fun q => if o.1.length < sizeLine then .ok (.next (sd.set i (some (.own false (.dct (putKs o.1 q) (putDs o.1 o.2 q v)))))) else .no := by
  unfold sDput
  cases fv sd with
  | ok v =>
    show (match sd[i]? with
      | some (some (.own false (.dct ks ds))) => _
      | _ => _) = (ownK sd[i]?).bind _
    cases sd[i]? with
    | none => rfl
    | some o =>
      cases o with
      | none => rfl
      | some w =>
        cases w with
        | val d => rfl
        | own p d =>
          cases p with
          | true => cases d <;> rfl
          | false =>
            cases d with
            | dct ks ds =>
              show (fk sd).bind _ = (fk sd).bind _
              cases fk sd with
              | ok k => show (match keyOf k with | some q => _ | none => _) = (Res.ofO (keyOf k)).bind _; cases keyOf k <;> rfl
              | ex c fs => rfl
              | no => rfl
            | _ => rfl
  | ex c fs => rfl
  | no => rfl
def outV : Out → Res D
  | .ret d => .ok d
  | .next _ => .ok .non
  | _ => .no
@[simp] theorem outV_ret (d : D) : outV (.ret d) = .ok d := rfl
@[simp] theorem outV_next (sd : SD) : outV (.next sd) = .ok .non := rfl
theorem run_d (n ar : Nat) (g : FS) (ds : List D) (h : ds.length = ar) : runD n ar g ds = (g (startD n ds)).bind outV := by
  unfold runD
  rw [if_pos h]
  cases g (startD n ds) with
  | ok o => cases o <;> rfl
  | ex c fs => rfl
  | no => rfl
def outN : Out → Res D
  | .ret d => .ok d
  | _ => .no
@[simp] theorem outN_ret (d : D) : outN (.ret d) = .ok d := rfl
theorem run_n (n ar : Nat) (g : FS) (ds : List D) (h : ds.length = ar) : runN n ar g ds = (g (startD n ds)).bind outN := by
  unfold runN
  rw [if_pos h]
  cases g (startD n ds) with
  | ok o => cases o <;> rfl
  | ex c fs => rfl
  | no => rfl
@[simp] theorem run_d1 (n : Nat) (g : FS) (a : D) : runD n 1 g [a] = (g (some (.val a) :: List.replicate (n - 1) none)).bind outV := run_d n 1 g [a] rfl
@[simp] theorem run_d2 (n : Nat) (g : FS) (a b : D) : runD n 2 g [a, b] = (g (some (.val a) :: some (.val b) :: List.replicate (n - 2) none)).bind outV := run_d n 2 g [a, b] rfl
@[simp] theorem run_d3 (n : Nat) (g : FS) (a b c : D) : runD n 3 g [a, b, c] = (g (some (.val a) :: some (.val b) :: some (.val c) :: List.replicate (n - 3) none)).bind outV := run_d n 3 g [a, b, c] rfl
@[simp] theorem run_n1 (n : Nat) (g : FS) (a : D) : runN n 1 g [a] = (g (some (.val a) :: List.replicate (n - 1) none)).bind outN := run_n n 1 g [a] rfl
@[simp] theorem run_n2 (n : Nat) (g : FS) (a b : D) : runN n 2 g [a, b] = (g (some (.val a) :: some (.val b) :: List.replicate (n - 2) none)).bind outN := run_n n 2 g [a, b] rfl
@[simp] theorem run_n3 (n : Nat) (g : FS) (a b c : D) : runN n 3 g [a, b, c] = (g (some (.val a) :: some (.val b) :: some (.val c) :: List.replicate (n - 3) none)).bind outN := run_n n 3 g [a, b, c] rfl
@[simp] theorem gAdd_int (i j : Int) : gAdd (.int i) (.int j) = some (.int (i + j)) := rfl
@[simp] theorem gSub_int (i j : Int) : gSub (.int i) (.int j) = some (.int (i - j)) := rfl
@[simp] theorem gNeg_int (i : Int) : gNeg (.int i) = some (.int (-i)) := rfl
@[simp] theorem gLt_int (i j : Int) : gLt (.int i) (.int j) = some (.bl (decide (i < j))) := rfl
@[simp] theorem gLe_int (i j : Int) : gLe (.int i) (.int j) = some (.bl (decide (i ≤ j))) := rfl
@[simp] theorem gGt_int (i j : Int) : gGt (.int i) (.int j) = some (.bl (decide (j < i))) := rfl
@[simp] theorem gGe_int (i j : Int) : gGe (.int i) (.int j) = some (.bl (decide (j ≤ i))) := rfl
@[simp] theorem gEq_int' (i j : Int) : gEq (.int i) (.int j) = some (.bl (decide (i = j))) := gEq_int i j
@[simp] theorem gNe_int' (i j : Int) : gNe (.int i) (.int j) = some (.bl (!decide (i = j))) := gNe_int i j
theorem gMul_ok {i j : Int} (h : mulOk i j = true) : gMul (.int i) (.int j) = some (.int (i * j)) := by
  show (if mulOk i j then _ else _) = _
  rw [if_pos h]
theorem mulOk_r {i j : Int} (h1 : -18446744073709551616 < j) (h2 : j < 18446744073709551616) : mulOk i j = true := by
  unfold mulOk
  rw [Bool.or_eq_true, Bool.or_eq_true, Nat.blt_eq, Nat.blt_eq]
  exact .inl (by omega)
@[simp] theorem gMod_ok {i j : Int} (h : 0 < j) : gMod (.int i) (.int j) = some (.int (i % j)) := by
  show (if Nat.blt 0 j.toNat then _ else _) = _
  rw [if_pos (by rw [Nat.blt_eq]; omega)]
@[simp] theorem gFdiv_ok {i j : Int} (h : 0 < j) (h2 : j < 1073741824) : gFdiv (.int i) (.int j) = some (.int (i / j)) := by
  show (if Nat.blt 0 j.toNat && Nat.blt j.toNat 1073741824 then _ else _) = _
  rw [if_pos (by rw [Bool.and_eq_true, Nat.blt_eq, Nat.blt_eq]; omega)]
@[simp] theorem gLen_lst (ds : List D) : gLen [.lst ds] = some (.int ds.length) := rfl
@[simp] theorem gLen_scr (ns : List Int) : gLen [.scr ns] = some (.int ns.length) := rfl
@[simp] theorem gMax2_int (i j : Int) : gMax2 [.int i, .int j] = some (.int (if j > i then j else i)) := rfl
@[simp] theorem gMin2_int (i j : Int) : gMin2 [.int i, .int j] = some (.int (if j < i then j else i)) := rfl
@[simp] theorem gList_lst (ds : List D) : gList [.lst ds] = some (.lst ds) := rfl
@[simp] theorem gTuple_lst (ds : List D) : gTuple [.lst ds] = some (.tup ds) := rfl
@[simp] theorem gIx_lst (ds : List D) (k : Int) : gIx (.lst ds) (.int k) = atI ds k := rfl
@[simp] theorem gIx_scr (ns : List Int) (k : Int) : gIx (.scr ns) (.int k) = (atI ns k).map .int := rfl
def dctOf : D → Res (List Key × List D)
  | .dct ks ds => .ok (ks, ds)
  | _ => .no
@[simp] theorem ev_iS (f : FE) (sd : SD) : iS f sd = (f sd).bind fun d => .ofO (walkS d) := rfl
@[simp] theorem walkS_lst (ds : List D) : walkS (.lst ds) = some ds := rfl
def range1 : List D → Res (List D)
  | [.int j] => if rngOk j then .ok (rangeD 0 j.toNat) else .no
  | _ => .no
@[simp] theorem ev_iR1 (fr : FA) (sd : SD) : iR1 fr sd = (fr sd).bind range1 := by
  unfold iR1
  cases fr sd with
  | ok ds => show (match ds with | [.int j] => _ | _ => _) = range1 ds; unfold range1; rfl
  | ex c fs => rfl
  | no => rfl
theorem range1_int {j : Int} (h1 : -1000000000 ≤ j) (h2 : j ≤ 1000000000) : range1 [.int j] = .ok (rangeD 0 j.toNat) := if_pos (rngOk_in h1 h2)
theorem range_at {lo : Int} {n i : Nat} {x : D} (h : (rangeD lo n)[i]? = some x) : x = .int (lo + i) ∧ i < n := by
  unfold rangeD at h
  rw [List.getElem?_map] at h
  by_cases hi : i < n
  · rw [List.getElem?_range hi] at h
    exact ⟨(Option.some.inj h).symm, hi⟩
  · rw [List.getElem?_eq_none (by rw [List.length_range]; omega)] at h
    cases h
theorem range_len (lo : Int) (n : Nat) : (rangeD lo n).length = n := by unfold rangeD; rw [List.length_map, List.length_range]
/-- the loop over what is walked -/
def forT (tg : Tg) (b : FS) (ds : List D) (sd : SD) : Res Out := forD (fun x sd => (bindT tg x sd).bind b) ds sd
@[simp] theorem ev_for (it : FA) (tg : Tg) (b : FS) (sd : SD) : sFor it tg b sd = (it sd).bind fun ds => forT tg b ds sd := rfl
@[simp] theorem bindT_one (i : Nat) (d : D) (sd : SD) : bindT (.one i) d sd = .ok (sd.set i (some (.val d))) := rfl
@[simp] theorem bindT_two (i j : Nat) (a b : D) (sd : SD) : bindT (.tup [i, j]) (.tup [a, b]) sd = .ok ((sd.set i (some (.val a))).set j (some (.val b))) := rfl
@[simp] theorem bindT_pair (i j : Nat) (p : Int × Int) (sd : SD) : bindT (.tup [i, j]) (prD p) sd = .ok ((sd.set i (some (.val (.int p.1)))).set j (some (.val (.int p.2)))) := rfl
/-- a loop by what holds between its turns -/
theorem for_inv {tg : Tg} {b : FS} {ds : List D} {sd : SD} (P : Nat → SD → Prop) (h0 : P 0 sd) (hs : ∀ (i : Nat) (x : D) (sd : SD), ds[i]? = some x → P i sd → ∃ sd', (bindT tg x sd).bind b = .ok (.next sd') ∧ P (i + 1) sd') : ∃ sd', forT tg b ds sd = .ok (.next sd') ∧ P ds.length sd' := by
  have key : ∀ (k i : Nat) (sd : SD), ds.length - i = k → i ≤ ds.length → P i sd → ∃ sd', forT tg b (ds.drop i) sd = .ok (.next sd') ∧ P ds.length sd' := by
    intro k
    induction k with
    | zero =>
      intro i sd e hi p
      have : i = ds.length := by omega
      subst this
      rw [List.drop_length]
      exact ⟨sd, rfl, p⟩
    | succ k ih =>
      intro i sd e hi p
      have hlt : i < ds.length := by omega
      rw [List.drop_eq_getElem_cons hlt]
      obtain ⟨sd', h1, h2⟩ := hs i ds[i] sd (List.getElem?_eq_getElem hlt) p
      obtain ⟨sd2, h3, h4⟩ := ih (i + 1) sd' (by omega) hlt h2
      refine ⟨sd2, ?_, h4⟩
      unfold forT forD
      rw [h1]
      exact h3
  have := key ds.length 0 sd (by omega) (Nat.zero_le _) h0
  rwa [List.drop_zero] at this
theorem mapD_map {α β γ : Type} {f : α → Res β} {k : γ → α} {g : γ → β} {xs : List γ} (h : ∀ x ∈ xs, f (k x) = .ok (g x)) : mapD f (xs.map k) = .ok (xs.map g) := by
  induction xs with
  | nil => rfl
  | cons x xs ih =>
    rw [List.map_cons]
    unfold mapD
    rw [h x List.mem_cons_self, ih fun y hy => h y (List.mem_cons_of_mem _ hy)]
    rfl
/-- the items of a comprehension -/
def mapE (tg : Tg) (f : FE) (c : SD) (ds : List D) : Res (List D) := mapD (fun x => (bindT tg x c).bind f) ds
@[simp] theorem ev_comp (cap : List (Option Nat)) (it : FA) (tg : Tg) (f : FE) (sd : SD) : dComp cap it tg f sd = (it sd).bind fun ds => if tgNone (capD cap sd) tg = true ∧ ds.length < sizeLine then (mapE tg f (capD cap sd) ds).bind fun ys => .ok (.lst ys) else .no := rfl
def capV : Option (Option SV) → Option SV
  | some (some (.val d)) => some (.val d)
  | _ => none
@[simp] theorem capV_val (d : D) : capV (some (some (.val d))) = some (.val d) := rfl
@[simp] theorem capD_nil (sd : SD) : capD [] sd = [] := rfl
@[simp] theorem capD_n (cap : List (Option Nat)) (sd : SD) : capD (none :: cap) sd = none :: capD cap sd := rfl
@[simp] theorem capD_s (j : Nat) (cap : List (Option Nat)) (sd : SD) : capD (some j :: cap) sd = capV sd[j]? :: capD cap sd := rfl
@[simp] theorem tgNone_one (sd : SD) (i : Nat) : tgNone sd (.one i) = noneAt sd i := rfl
@[simp] theorem tgNone_tup (sd : SD) (is : List Nat) : tgNone sd (.tup is) = is.all (noneAt sd) := rfl
@[simp] theorem noneAt_0 (sd : SD) : noneAt (none :: sd) 0 = true := rfl
@[simp] theorem noneAt_s (o : Option SV) (sd : SD) (i : Nat) : noneAt (o :: sd) (i + 1) = noneAt sd i := rfl
theorem mapE_ok {α : Type} {tg : Tg} {f : FE} {c : SD} {k : α → D} {g : α → D} {xs : List α} (h : ∀ x ∈ xs, (bindT tg (k x) c).bind f = .ok (g x)) : mapE tg f c (xs.map k) = .ok (xs.map g) := mapD_map h
theorem mapE_range {tg : Tg} {f : FE} {c : SD} {lo : Int} {n : Nat} {g : Nat → D} (h : ∀ i, i < n → (bindT tg (.int (lo + i)) c).bind f = .ok (g i)) : mapE tg f c (rangeD lo n) = .ok ((List.range n).map g) := mapD_map fun i hi => h i (List.mem_range.mp hi)
@[simp] theorem ev_compIf (cap : List (Option Nat)) (it : FA) (tg : Tg) (c : FT) (f : FE) (sd : SD) : dCompIf cap it tg c f sd = (it sd).bind fun ds => if tgNone (capD cap sd) tg = true ∧ ds.length < sizeLine then (mapTg tg c f (capD cap sd) ds).bind fun ys => .ok (.lst ys) else .no := rfl
theorem mapTg_ok {α : Type} {tg : Tg} {c : FT} {f : FE} {sd : SD} {k : α → D} {s : α → SD} {p : α → Bool} {g : α → D} {xs : List α} (h1 : ∀ x ∈ xs, bindT tg (k x) sd = .ok (s x)) (h2 : ∀ x ∈ xs, c (s x) = .ok (p x)) (h3 : ∀ x ∈ xs, p x = true → f (s x) = .ok (g x)) :
    mapTg tg c f sd (xs.map k) = .ok ((xs.filter p).map g) := by
  induction xs with
  | nil => rfl
  | cons x xs ih =>
    have ih := ih (fun y hy => h1 y (List.mem_cons_of_mem _ hy)) (fun y hy => h2 y (List.mem_cons_of_mem _ hy)) (fun y hy => h3 y (List.mem_cons_of_mem _ hy))
    rw [List.map_cons, List.filter_cons]
    unfold mapTg
    rw [h1 x List.mem_cons_self, Res.bind_ok, h2 x List.mem_cons_self, Res.bind_ok]
    cases q : p x with
    | true =>
      rw [if_pos rfl, if_pos rfl, h3 x List.mem_cons_self q, Res.bind_ok, ih]
      rfl
    | false =>
      rw [if_neg (by simp), if_neg (by simp), ih]
theorem small_lt {n : Nat} (h : n ≤ 1000) : n < sizeLine := small1000 h
end L2.DL

namespace L2.DL
open PySem PySem.Spec PyProof.Rows
/-- xs[lo:hi:st] -/
def pickL {α : Type} (xs : List α) (lo hi st : Option Int) : List α := (sliceRange (sliceBounds lo hi st xs.length).1 (sliceBounds lo hi st xs.length).2.1 (sliceBounds lo hi st xs.length).2.2).filterMap (xs[·]?)
theorem pick_arr (its : List Value) (lo hi st : Option Int) : slicePick its.toArray lo hi st = (pickL its lo hi st).toArray := by
  unfold slicePick pickL
  rw [List.size_toArray]
  congr 2
  funext i
  simp
theorem pick_vals {xs : List V} {its : List Value} (r : Vals xs its) (lo hi st : Option Int) : Vals (pickL xs lo hi st) (pickL its lo hi st) := by
  unfold pickL
  rw [r.length]
  generalize sliceRange _ _ _ = ix
  induction ix with
  | nil => exact .nil
  | cons i ix ih =>
    rw [List.filterMap_cons, List.filterMap_cons]
    cases hx : xs[i]? with
    | none => rw [r.none_of hx]; exact ih
    | some x =>
      obtain ⟨u, hu, ru⟩ := r.get hx
      rw [hu]
      exact .cons ru ih
theorem pick_is {K : PySem.W.Frag} {H : Hp} {ds : List D} {xs : List V} (r : IsDs K H ds xs) (lo hi st : Option Int) : IsDs K H (pickL ds lo hi st) (pickL xs lo hi st) := by
  unfold pickL
  rw [r.length]
  generalize sliceRange _ _ _ = ix
  induction ix with
  | nil => exact .nil
  | cons i ix ih =>
    rw [List.filterMap_cons, List.filterMap_cons]
    cases hx : ds[i]? with
    | none =>
      have hn : xs[i]? = none := List.getElem?_eq_none_iff.mpr (by rw [r.length]; exact List.getElem?_eq_none_iff.mp hx)
      rw [hn]; exact ih
    | some x =>
      obtain ⟨u, hu, ru⟩ := r.get hx
      rw [hu]
      exact .mk ru ih
theorem pick_map {α β : Type} (f : α → β) (xs : List α) (lo hi st : Option Int) : pickL (xs.map f) lo hi st = (pickL xs lo hi st).map f := by
  unfold pickL
  rw [List.length_map]
  generalize sliceRange _ _ _ = ix
  induction ix with
  | nil => rfl
  | cons i ix ih =>
    rw [List.filterMap_cons, List.filterMap_cons, List.getElem?_map]
    cases xs[i]? with
    | none => exact ih
    | some x => show f x :: _ = _; rw [ih]; rfl
theorem pick_len {α : Type} (xs : List α) (lo hi st : Option Int) : (pickL xs lo hi st).length ≤ xs.length := by
  have h := slicePick_size_le (xs.map fun _ => Value.none).toArray lo hi st
  rw [pick_arr, List.size_toArray, List.size_toArray, pick_map, List.length_map, List.length_map] at h
  exact h
section
variable {X : Cx} {E : XK} {m : Option Bool} {a b o i e f tg : Expr} {fa fb fo fi fv fe : FE} {fr : FA} {pos pos' apos cpos p p2 : Pos} {lo hi st : Option Expr}
abbrev FO := SD → Res (Option Int)
def tDO (K : PySem.W.Frag) (E : XK) (f : FO) : TO := fun σ H Q => ∃ B F sd, RS K B F H sd σ ∧ (f sd).need (fun o => ∀ F' H', Ext F H F' H' → Q o H') (XW K E F H)
def dNoPart : FO := fun _ => .ok none
def dPart (f : FE) : FO := fun sd => (f sd).bind fun d => match d with
  | .int i => .ok (some i)
  | _ => .no
abbrev QO (X : Cx) (E : XK) (e : Option Expr) (f : FO) : Prop := PO X e (tDO X.K E f)
theorem PO.weak {e : Option Expr} {t t' : TO} (h : PO X e t) (w : ∀ σ H Q, t' σ H Q → t σ H Q) : PO X e t' := fun pins s σ H Q I q => h pins s σ H Q I (w _ _ _ q)
theorem qo_none : QO X E none dNoPart := PO.weak po_none fun σ H Q ⟨B, F, sd, r, n⟩ => n F H (.refl r.ext.fh)
theorem qo_some (h : QE X E e fe) : QO X E (some e) (dPart fe) := PO.weak (po_some h) fun σ H Q ⟨B, F, sd, r, n⟩ => by
  refine ⟨B, F, sd, r, (Res.need_bind n).mono (fun d n1 v F1 H1 e1 i1 => ?_) fun _ _ q => q⟩
  cases d with
  | int i => exact ⟨i, IsD.int_iff.mp i1, n1 F1 H1 e1⟩
  | _ => exact n1.elim
def rSl3 (K : PySem.W.Frag) : V → Option Int → Option Int → Option Int → Hp → VK → Prop := fun x lo hi st H Q => ∃ a xs, x = .ref a ∧ SqL K H a xs ∧ st ≠ some 0 ∧ ∀ p, H p = none → Q (.ref p) (upd H p (.lst (pickL xs lo hi st)))
def tSl3 (r : V → Option Int → Option Int → Option Int → Hp → VK → Prop) (te : TE) (tl th ts : TO) : TE := fun σ H Q => te σ H fun x H1 => tl σ H1 fun l H2 => th σ H2 fun u H3 => ts σ H3 fun c H4 => r x l u c H4 Q
theorem pe_slice3 {te : TE} {tl th ts : TO} (he : PE X e te) (hl : PO X lo tl) (hu : PO X hi th) (hs : PO X st ts) : PE X (.Subscript e (.Slice lo hi st p2) pos) (tSl3 (rSl3 X.K) te tl th ts) := by
  intro pins s σ H Q I h
  refine Subscript_ (thn (he pins s σ H _ I h) fun v s1 ⟨x, H1, I1, r1, q1⟩ => ?_)
  refine wpAny_Slice (thn (hl pins s1 σ H1 _ I1 q1) fun vl s2 ⟨l, H2, I2, pl, q2⟩ => thn (hu pins s2 σ H2 _ I2 q2) fun vu s3 ⟨u, H3, I3, pu, q3⟩ => thn (hs pins s3 σ H3 _ I3 q3) fun vs s4 ⟨c, H4, I4, ps, q4⟩ => ?_)
  obtain ⟨a, xs, rfl, hx, h0, q⟩ := q4
  obtain rfl : v = Value.ref a := r1
  have I5 : Inv X pins σ H4 { s4 with heap := s4.heap.push { cls := .type "slice", data := .fields #[vl, vu, vs] } } := I4.kept (t' := s4.toks) fun b ob q => Heap.get?_push_of_some _ q
  obtain ⟨its, r, ht, hz⟩ := I5.list hx
  have hlen := r.length
  show wpAny (model X.prog X.w) X.A (subscriptTail e (.Slice lo hi st p2) (.ref a) (.ref s4.heap.objs.size)) (EP X pins σ Q) X.xe { s4 with heap := s4.heap.push { cls := .type "slice", data := .fields #[vl, vu, vs] } }
  suffices fin : wpAny (model X.prog X.w) X.A (getItem (.ref a) (.ref s4.heap.objs.size)) (EP X pins σ Q) X.xe { s4 with heap := s4.heap.push { cls := .type "slice", data := .fields #[vl, vu, vs] } } by
    cases st with
    | none => exact tail_any (ops := [.ref s4.heap.objs.size, .ref a]) ht.isList.typeIs slot_list_getitem.lookup fin (by with_unfolding_all rfl)
    | some c => exact tail_any (ops := [.ref a, .ref s4.heap.objs.size]) ht.isList.typeIs slot_list_getitem.lookup fin (by with_unfolding_all rfl)
  refine wpAny_getItem_list_slice ht.isList (Heap.IsSliceOf.new ..) pl pu ps h0 ?_ (by rw [List.size_toArray] <;> omega)
  rw [pick_arr]
  refine ⟨.ref _, _, I5.laid (t' := s4.toks) (o := .lst (pickL xs l u c)) (fun b ob q => Heap.get?_push_of_some _ q) (Nat.le_refl _) ?_, rfl, q _ (I5.hok.fresh (Nat.le_refl _))⟩
  exact ⟨Nat.le_trans (pick_len xs l u c) hz, _, 0, pick_vals r l u c, Heap.get?_push_size _ rfl⟩
def gSl : D → Option Int → Option Int → Option Int → Option D
  | .lst ds, lo, hi, st => if st = some 0 then none else some (.lst (pickL ds lo hi st))
  | .scr ns, lo, hi, st => if st = some 0 then none else some (.lst ((pickL ns lo hi st).map .int))
  | _, _, _, _ => none
def dSl (fe : FE) (fl fh fs : FO) : FE := fun sd => (fe sd).bind fun d => (fl sd).bind fun l => (fh sd).bind fun h => (fs sd).bind fun c => .ofO (gSl d l h c)
theorem q_slice {fl fh fs : FO} (he : QE X E e fe) (hl : QO X E lo fl) (hu : QO X E hi fh) (hs : QO X E st fs) : QN X E (.Subscript e (.Slice lo hi st p2) pos) (dSl fe fl fh fs) := PE.weak (pe_slice3 he hl hu hs) fun σ H Q ⟨B, F, sd, r, n⟩ => by
  refine ⟨B, F, sd, r, (Res.need_bind n).mono (fun d n1 v F1 H1 e1 i1 => ?_) fun _ _ q => q⟩
  refine ⟨B, F1, sd, r.step e1, (Res.need_bind n1).mono (fun l n2 F2 H2 e2 => ?_) fun _ _ q => q.ext e1⟩
  refine ⟨B, F2, sd, (r.step e1).step e2, (Res.need_bind n2).mono (fun h n3 F3 H3 e3 => ?_) fun _ _ q => q.ext (e1.trans e2)⟩
  refine ⟨B, F3, sd, ((r.step e1).step e2).step e3, (Res.need_bind n3).mono (fun c n4 F4 H4 e4 => ?_) fun _ _ q => q.ext ((e1.trans e2).trans e3)⟩
  obtain ⟨z, hz, q⟩ := Res.need_ofO n4
  have e14 := ((e2.trans e3).trans e4)
  have eA := e1.trans e14
  cases d with
  | lst ds =>
    have hz : (if c = some 0 then none else some (D.lst (pickL ds l h c))) = some z := hz
    split at hz
    · cases hz
    · rename_i h0
      cases hz
      rw [IsD.lst_iff] at i1
      obtain ⟨a, xs, rfl, h1, h2⟩ := i1
      exact ⟨a, xs, rfl, ((h1.same e14.ff).same e14.fh).sq, h0, fun p hp => q p F4 _ (eA.trans (.keep e4.fh hp _)) (same_free eA.hh hp) (same_free e4.fh hp) ⟨_, upd_same, pick_is (IsDs.same e14.ff _ _ h2) l h c⟩⟩
  | scr ns =>
    have hz : (if c = some 0 then none else some (D.lst ((pickL ns l h c).map .int))) = some z := hz
    split at hz
    · cases hz
    · rename_i h0
      cases hz
      rw [IsD.scr_iff] at i1
      obtain ⟨a, rfl, h1⟩ := i1
      refine ⟨a, _, rfl, Same.seq e14.fh (Same.seq e14.ff h1), h0, fun p hp => q p F4 _ (eA.trans (.keep e4.fh hp _)) (same_free eA.hh hp) (same_free e4.fh hp) ⟨_, upd_same, ?_⟩⟩
      rw [pick_map]
      exact IsDs.ints _
  | _ => cases hz
@[simp] theorem ev_sl (fe : FE) (fl fh fs : FO) (sd : SD) : dSl fe fl fh fs sd = (fe sd).bind fun d => (fl sd).bind fun l => (fh sd).bind fun h => (fs sd).bind fun c => .ofO (gSl d l h c) := rfl
@[simp] theorem ev_noPart (sd : SD) : dNoPart sd = .ok none := rfl
def partOf : D → Res (Option Int)
  | .int i => .ok (some i)
  | _ => .no
@[simp] theorem partOf_int (i : Int) : partOf (.int i) = .ok (some i) := rfl
@[simp] theorem ev_part (f : FE) (sd : SD) : dPart f sd = (f sd).bind partOf := by
  unfold dPart
  cases f sd with
  | ok d => cases d <;> rfl
  | ex c fs => rfl
  | no => rfl
@[simp] theorem gSl_lst0 (ds : List D) (lo hi : Option Int) : gSl (.lst ds) lo hi none = some (.lst (pickL ds lo hi none)) := rfl
theorem gSl_scr {ds : List Int} {lo hi : Option Int} {c : Int} (h : c ≠ 0) : gSl (.scr ds) lo hi (some c) = some (.lst ((pickL ds lo hi (some c)).map .int)) := if_neg fun z => h (Option.some.inj z)
@[simp] theorem gIsN_non (neg : Bool) : gIsN neg .non = some (.bl (!neg)) := rfl
end
end L2.DL

namespace L2
open PySem PySem.Spec PyProof.Rows
section
variable {X : Cx}
theorem call_sumL (hc : X.calm = true) : CallR X (.builtin "sum") (fun xs H Q => ∃ (a : Addr) (ns : List Int), xs = [.ref a] ∧ SqL X.K H a (ns.map V.int) ∧ Q (.int ns.sum) H) := by
  intro pins s σ H xs us Q I r h
  obtain ⟨a, ns, rfl, hl, q⟩ := h
  obtain ⟨u, rfl, ru⟩ := vals1 r
  obtain rfl : u = Value.ref a := ru
  obtain ⟨its, rv, p, hz⟩ := I.list hl
  have hi : IntsAre its ns := intsAre_of rv
  obtain ⟨ys, e⟩ := hi.allInts.items
  have hns : ns = ys.toList.map (·.1) := by
    rw [← hi.numsOf, ← nums_intItems, ← e]
  have hl' := p.isList
  rw [e] at hl'
  refine sum_intListG (I.ok.hd hc) hl' fun h' tk t' hk => ?_
  refine ⟨.int ns.sum, H, I.kept hk, ⟨t', ?_⟩, q⟩
  rw [preSum_eq, List.take_of_length_le (by simp), ← hns]
theorem bools_at {bs : List Bool} {its : List Value} (r : Vals (bs.map V.bl) its) (i : Nat) (v : Value) (h : its.toArray[i]? = some v) : v = .bool (bs.getD i false) := by
  have h' : its[i]? = some v := by simpa using h
  have hi : i < its.length := (List.getElem?_eq_some_iff.mp h').1
  have hl := r.length
  rw [List.length_map] at hl
  have hb : bs[i]? = some bs[i] := List.getElem?_eq_getElem (by omega)
  obtain ⟨u, hu, ru⟩ := r.get (i := i) (x := .bl bs[i]) (by rw [List.getElem?_map, hb]; rfl)
  rw [h'] at hu
  cases hu
  rw [show v = Value.bool bs[i] from ru, List.getD_eq_getElem?_getD, hb]
  rfl
theorem range_all (bs : List Bool) : (List.range bs.length).all (fun i => bs.getD i false) = bs.all id := by
  apply Bool.eq_iff_iff.mpr
  rw [List.all_eq_true, List.all_eq_true]
  constructor
  · intro h b hb
    obtain ⟨i, hi, rfl⟩ := List.getElem_of_mem hb
    have := h i (List.mem_range.mpr hi)
    rw [List.getD_eq_getElem?_getD, List.getElem?_eq_getElem hi] at this
    exact this
  · intro h i hi
    have hi := List.mem_range.mp hi
    rw [List.getD_eq_getElem?_getD, List.getElem?_eq_getElem hi]
    exact h _ (List.getElem_mem hi)
theorem call_allL (hc : X.calm = true) : CallR X (.builtin "all") (fun xs H Q => ∃ (a : Addr) (bs : List Bool), xs = [.ref a] ∧ SqL X.K H a (bs.map V.bl) ∧ Q (.bl (bs.all id)) H) := by
  intro pins s σ H xs us Q I r h
  obtain ⟨a, bs, rfl, hl, q⟩ := h
  obtain ⟨u, rfl, ru⟩ := vals1 r
  obtain rfl : u = Value.ref a := ru
  obtain ⟨its, rv, p, hz⟩ := I.list hl
  have hlt : a < s.heap.objs.size := by obtain ⟨_, e, _⟩ := p.isList; exact Heap.lt_size e
  have hlen := rv.length
  rw [List.length_map] at hlen
  refine call_all_walk (wpAny_pyIter_list p.isList ⟨_, _, _, _, _, _, fun i => bs.getD i false, rfl, Walks.list (A := X.A.in1) (I.ok.hd hc) s.heap.objs.size a (Nat.ne_of_lt hlt) its.toArray, ⟨⟨_, Heap.get?_push_size _ rfl, rfl, rfl⟩, p.isList.push _⟩, ?_, fun h' tk hk => ?_⟩)
  · intro i v s' Q' E' hP hQ
    have hv := bools_at rv i v hP
    subst hv
    exact wpAny_of_eq rfl hQ
  · rw [List.size_toArray, ← hlen, range_all]
    refine ⟨.bl _, H, I.kept (t' := tk) fun b o e => hk b o ?_ (Heap.get?_push_of_some _ e), rfl, q⟩
    intro hm
    have e' := List.mem_singleton.mp hm
    rw [e'] at e
    exact Nat.lt_irrefl _ (Heap.lt_size e)
end
end L2

namespace L2.DL
open PySem PySem.Spec PyProof.Rows
def blOf : D → Option Bool
  | .bl i => some i
  | _ => none
theorem blOf_inv {d : D} {i : Bool} (h : blOf d = some i) : d = .bl i := by
  cases d with
  | bl j => cases h; rfl
  | _ => cases h
theorem IsDs.bls_iff {K : PySem.W.Frag} {H : Hp} : ∀ {bs : List Bool} {xs : List V}, IsDs K H (bs.map D.bl) xs → xs = bs.map V.bl
  | [], _, h => IsDs.nil_iff.mp h
  | b :: bs, _, h => by
    rw [List.map_cons, IsDs.cons_iff] at h
    obtain ⟨x, r, rfl, h1, h2⟩ := h
    rw [IsD.bl_iff.mp h1, IsDs.bls_iff h2]
    rfl
def blsOf : D → Option (List Bool)
  | .lst ds => allOf blOf ds
  | _ => none
theorem blsOf_is {K : PySem.W.Frag} {H : Hp} {d : D} {ns : List Bool} {v : V} (h : blsOf d = some ns) (i : IsD K H d v) : ∃ a, v = .ref a ∧ LstD K H a (ns.map V.bl) := by
  cases d with
  | lst ds =>
    rw [IsD.lst_iff] at i
    obtain ⟨a, xs, rfl, h1, h2⟩ := i
    rw [allOf_inv (fun _ _ => blOf_inv) (show allOf blOf ds = some ns from h)] at h2
    rw [IsDs.bls_iff h2] at h1
    exact ⟨a, rfl, h1⟩
  | _ => cases h
theorem blsOf_map (ns : List Bool) : blsOf (.lst (ns.map D.bl)) = some ns := by
  have h := allOf_map (f := blOf) (g := D.bl) (k := fun i : Bool => i) (fun _ => rfl) ns
  rw [List.map_id'] at h
  exact h
def gSum : List D → Option D
  | [d] => (intsOf d).bind fun ns => some (.int ns.sum)
  | _ => none
def gAll : List D → Option D
  | [d] => (blsOf d).bind fun ns => some (.bl (ns.all id))
  | _ => none
section
variable {X : Cx} {E : XK} {m : Option Bool} {a b o i e f tg : Expr} {fa fb fo fi fv fe : FE} {fr : FA} {pos pos' apos cpos p p2 : Pos} {lo hi st : Option Expr}
theorem b_sum (hc : X.calm = true) : CallR X (.builtin "sum") (rDA X.K gSum) := CallR.weak (call_sumL hc) fun xs H Q ⟨F, ds, z, sF, id, hz, q⟩ => by
  unfold gSum at hz
  split at hz
  · obtain ⟨ns, h1, hz⟩ := Option.bind_eq_some_iff.mp hz
    cases hz
    obtain ⟨v, rfl, h⟩ := isDs1 id
    obtain ⟨a, rfl, h2⟩ := intsOf_is h1 h
    exact ⟨a, ns, rfl, (h2.same sF).sq, q _ F H (.refl sF) (isI _ F)⟩
  · cases hz
theorem b_all (hc : X.calm = true) : CallR X (.builtin "all") (rDA X.K gAll) := CallR.weak (call_allL hc) fun xs H Q ⟨F, ds, z, sF, id, hz, q⟩ => by
  unfold gAll at hz
  split at hz
  · obtain ⟨ns, h1, hz⟩ := Option.bind_eq_some_iff.mp hz
    cases hz
    obtain ⟨v, rfl, h⟩ := isDs1 id
    obtain ⟨a, rfl, h2⟩ := blsOf_is h1 h
    exact ⟨a, ns, rfl, (h2.same sF).sq, q _ F H (.refl sF) (isB _ F)⟩
  · cases hz
end
@[simp] theorem gSum_ints (ns : List Int) : gSum [.lst (ns.map .int)] = some (.int ns.sum) := by
  show (intsOf _).bind _ = _
  rw [intsOf_map]
  rfl
theorem gAll_bls (ns : List Bool) : gAll [.lst (ns.map .bl)] = some (.bl (ns.all id)) := by
  show (blsOf _).bind _ = _
  rw [blsOf_map]
  rfl
end L2.DL
namespace L2
open PySem PySem.Spec PyProof.Rows
theorem bt_all : bootBuiltins "all" = some (.builtin "all") := boot_all
end L2
namespace L2.DL
open PySem PySem.Spec PyProof.Rows
end L2.DL

namespace L2
open PySem PySem.Spec PyProof.Rows
section
variable {X : Cx} {pins : List (Addr × Obj)} {σ : St} {H : Hp} {s : Shared} {h' : Heap}
theorem Inv.turnedL {t' : Nat} {ch : List Addr} (I : Inv X pins σ H s) (k : ∀ b o, b ∉ ch → s.heap.get? b = some o → h'.get? b = some o) (hf : ∀ b ∈ ch, FpOk X pins H b) : Inv X pins σ H { s with heap := h', toks := t' } := by
  have nit : ∀ b u, H b = some u → b ∉ ch := fun b u e z => by rw [(hf b z).1] at e; cases e
  refine I.step (g' := s.gens) (d' := s.drawn) (ch := ch) (fun b hb => ?_) (fun b o _ _ hc e _ => k b o hc e) (fun b o _ _ hc e _ => ⟨o.slots, k b o hc e⟩) (fun _ _ _ _ n => n)
    (fun b o hc e => ⟨o, k b o hc e⟩) (fun _ _ e => e) (fun _ _ _ e => e) (fun b ps e => ⟨#[], by rw [e]; simp⟩) (fun m hm => ?_) (fun b u e => ?_) I.bare
  · obtain ⟨_, f1, _, f3, f4, f5⟩ := hf b hb
    exact ⟨f3, f1, f4, f5⟩
  · obtain ⟨o, es, ep, ho, r⟩ := hm
    exact ⟨o, es, ep, k _ o (fun z => (hf _ z).2.1 rfl) ho, r⟩
  · refine (I.hok b u e).stay (fun c v hc q => k c v ?_ q) (fun _ q => q) fun _ _ q => q
    rcases hc with z | z
    · rw [z]; exact nit b u e
    · exact nit c _ z
theorem FpOk.upd {b T : Addr} {o : HO} (h : FpOk X pins H b) (n : b ≠ T) : FpOk X pins (upd H T o) b := ⟨(upd_ne n).trans h.1, h.2⟩
/-- the heap with a pair more, some untracked records turned -/
theorem Inv.paired {t' : Nat} {ch : List Addr} {x y : V} {u v : Value} (I : Inv X pins σ H s) (rx : RelV x u) (ry : RelV y v) (hf : ∀ b ∈ ch, FpOk X pins H b) (hc : ∀ b ∈ ch, b ≠ s.heap.objs.size)
    (hT : h'.get? s.heap.objs.size = some { cls := .type "tuple", data := .seq #[u, v] }) (k : ∀ b o, b ∉ ch → s.heap.get? b = some o → h'.get? b = some o) :
    Inv X pins σ (upd H s.heap.objs.size (.tup [x, y])) { s with heap := h', toks := t' } := by
  have I1 : Inv X pins σ (upd H s.heap.objs.size (.tup [x, y])) { s with heap := s.heap.push { cls := .type "tuple", data := .seq #[u, v] }, toks := s.toks } :=
    I.laid (t' := s.toks) (fun b o e => Heap.get?_push_of_some _ e) (Nat.le_refl _) ⟨⟨by simp only [sizeLine_eq, List.length_cons, List.length_nil]; omega, _, Heap.get?_push_size _ rfl, rfl⟩, [u, v], .cons rx (.cons ry .nil), _, Heap.get?_push_size _ rfl, rfl, _, rfl⟩
  refine Inv.turnedL (s := { s with heap := s.heap.push { cls := .type "tuple", data := .seq #[u, v] }, toks := s.toks }) (h' := h') (t' := t') (ch := ch) I1 (fun b o hb e => ?_) fun b hb => (hf b hb).upd (hc b hb)
  have e : (s.heap.push { cls := .type "tuple", data := .seq #[u, v] }).get? b = some o := e
  rcases Heap.get?_push_cases e with ⟨rfl, rfl⟩ | e
  · exact hT
  · exact k b o hb e
end
section
variable {X : Cx}
end
end L2
namespace L2.DL
open PySem PySem.Spec PyProof.Rows
section
variable {X : Cx} {E : XK} {fr : FA} {p pos tp : Pos} {elts : List Expr}
def gAbs : List D → Option D
  | [.int i] => some (.int (if i < 0 then -i else i))
  | _ => none
@[simp] theorem gAbs_int (i : Int) : gAbs [.int i] = some (.int (if i < 0 then -i else i)) := rfl
theorem b_abs : CallR X (.builtin "abs") (rDA X.K gAbs) := CallR.weak call_abs fun xs H Q ⟨F, ds, z, sF, id, hz, q⟩ => by
  unfold gAbs at hz
  split at hz
  · cases hz
    obtain ⟨v, rfl, h⟩ := isDs1 id
    exact ⟨_, by rw [IsD.int_iff.mp h], q _ F H (.refl sF) (isI _ F)⟩
  · cases hz
theorem bt_abs : bootBuiltins "abs" = some (.builtin "abs") := by kernel_rfl
end
end L2.DL

namespace L2.ST
open PySem
def stepP (t : SetTable) : Nat → SetTable.Probe → SetTable.Probe
  | 0, p => p
  | n + 1, p => stepP t n (t.advance p)
end L2.ST

namespace L2.ST
open PySem
def UpA (xs : Array Nat) : Prop := ∀ i j, i < j → j < xs.size → xs.getD i 0 < xs.getD j 0
/-- the slots that are taken -/
def occ (t : SetTable) (j : Nat) : Prop := ∃ i, i < t.place.size ∧ t.place.getD i 0 = j
/-- slot y is where a search for x ends if only the taken slots ahead of it are gone through -/
def Way (t : SetTable) (o : Nat → Prop) (x : Int) (y : Nat) : Prop := ∃ n, (stepP t n (t.probeStart x)).j = y ∧ ∀ m, m < n → o (stepP t m (t.probeStart x)).j
/-- a table that keeps the hashes hs, each where its search ends -/
structure TabOk (t : SetTable) (hs : Array Int) : Prop where
  size : t.place.size = hs.size
  up : UpA t.place
  le : ∀ i, i < t.place.size → t.place.getD i 0 ≤ t.mask
  nod : t.dummies = #[]
  pow : ∃ k, t.mask + 1 = 2 ^ k
  room : t.place.size ≤ t.mask
  ways : ∀ i, i < t.place.size → Way t (occ t) (hs.getD i 0) (t.place.getD i 0)
end L2.ST

namespace L2.ST
open PySem
/-- a set that holds the entries es in a table of its own -/
structure SetIs (hp : Heap) (a : Addr) (es : Array (Int × Value)) (t : SetTable) : Prop where
  at_ : ∃ ep, hp.get? a = some { cls := .type "set", dict := none, data := .set es ep t, slots := #[] }
  tab : TabOk t (es.map (·.1))
  seven : 7 ≤ t.mask
  most : t.mask ≤ 8 * es.size + 7
  room : es.size * 5 < t.mask * 3
  refs : ∀ i (hi : i < es.size), ∃ b, es[i].2 = .ref b
variable {prog : Program} {w : World} {A : Around} {E : Value → Shared → Prop} {s : Shared}
end L2.ST

namespace L2.ST
open PySem PySem.Spec PyProof.Rows
/-- the set at S holds the values D, once each -/
def Holds (hsh : Value → Int) (hp : Heap) (S : Addr) (ld : Bool) (D : List Value) : Prop := ∃ es t, SetIs hp S es t ∧ es.toList.Perm (D.map fun v => (hsh v, v)) ∧ t.led = ld ∧ t.plain = true
section
variable {prog : Program} {w : World} {A : Around} {E : Value → Shared → Prop} {s : Shared}
end
end L2.ST

namespace L2.ST
open PySem PySem.Spec PyProof.Rows
section
variable {prog : Program} {w : World} {A : Around} {E : Value → Shared → Prop} {s : Shared}
/-- whether a new set is led -/
def ledW (w : World) : Bool := !w.params.followText "set-order"
theorem code_set_led (a : Value) {Q₁ : Value → Shared → Prop}
    (h : Q₁ (.ref s.heap.objs.size) { s with heap := s.heap.push { cls := .type "set", dict := none, data := .set #[] 0 (.fresh 0 0 (ledW w)) } }) :
    codeAny (model prog w) A (.call (.builtin "set.__new__") ⟨[.type "set", a], []⟩) (wants Q₁ E) s := by
  refine codeAny_of_tree ?_
  show wpAny _ A.in1 (do checkBuiltinCall "set.__new__" ⟨[.type "set", a], []⟩; again (.builtin "set.__new__" ⟨[.type "set", a], []⟩)) _ _ s
  refine wpAny_bind (wpAny_of_eq (F.newCall_set_1 a) (wpAny_pure ⟨plainId_quiet F.plain_set_new _, codeAny_builtin F.entry_set_new ?_⟩))
  rw [Around.under_plainId F.plain_set_new _]
  unfold Builtin.«set.__new__» Builtin.Frozenset.newClass
  have hsub := sub_set_self
  obtain ⟨hp, g, d, tk, os⟩ := s
  dsimp only
  wp_walk
  refine wpAny_askSetting (wpAny_pure ?_)
  dsimp only
  simp only [newObj]
  refine wpAny_bind (wpAny_alloc (wpAny_pure ?_))
  exact wpAny_pure h
end
end L2.ST

namespace L2.ST
open PySem PySem.Spec PyProof.Rows
section
variable {X : Cx}
end
end L2.ST
namespace L2.DL
open PySem PySem.Spec PyProof.Rows L2.ST
section
variable {X : Cx} {E : XK} {fr : FA} {es : List Expr} {e : Expr}
end
theorem bt_set : bootBuiltins "set" = some (.type "set") := by kernel_rfl
end L2.DL

namespace L2
open PySem PySem.Spec PyProof.Rows
theorem ObjOk.has {P : Program} {w : World} {H : Hp} {h : Heap} {a : Addr} {o : HO} (x : ObjOk P w H h a o) : ∃ u, h.get? a = some u := by
  cases o with
  | lst xs => obtain ⟨_, _, _, _, e⟩ := x; exact ⟨_, e⟩
  | tup xs => obtain ⟨_, _, _, o, e, _⟩ := x; exact ⟨_, e⟩
  | dK kvs => obtain ⟨_, _, _, _, o, _, _, e, _⟩ := x; exact ⟨_, e⟩
  | dT kvs => obtain ⟨_, _, _, _, o, _, _, e, _⟩ := x; exact ⟨_, e⟩
  | set S n => obtain ⟨o, _, _, _, e, _⟩ := x; exact ⟨_, e⟩
  | ins C dx fs => obtain ⟨_, _, _, e, _⟩ := x; exact ⟨_, e⟩
  | own y => exact x
  | xd fs => obtain ⟨_, ⟨_, _, _, e, _⟩, _⟩ := x; exact ⟨_, e⟩
  | rng lo hi => obtain ⟨_, _, _, e⟩ := x; exact ⟨_, e⟩
  | frz ob u => exact ⟨_, x.1⟩
  | tbl ps => exact ⟨_, show h.get? a = some _ from x⟩
  | met f y => exact ⟨_, show h.get? a = some _ from x⟩
  | ext φ => exact x.2.1
/-- an exception flies: B holds all that is tracked, and all of h₀ but the frames -/
structure FlyAt (l : List Env) (h₀ : Heap) (H : Hp) (x C : Addr) (B h : Heap) : Prop where
  fly : ∃ t, Heap.FlyingW B l x (.ref C) (.ref t) h
  trk : ∀ b o, h.get? b = some o → (H b ≠ none ∨ ((∃ u, h₀.get? b = some u) ∧ b ∉ frs l)) → B.get? b = some o
def CXE (P : Program) (w : World) : CXT := fun outer H s E e s' => ∃ H' x C B, e = .ref x ∧ s'.os = s.os ∧ AllBare s'.gens ∧ Un (frs outer) [] H H' s.heap s'.heap ∧ HOk P w H' s'.heap ∧ FlyAt outer s.heap H' x C B s'.heap ∧ E (.ref C) none H'
/-- what flies in this body reaches what is wanted of exceptions -/
structure Thrown (X : Cx) (E : XK) : Prop where
  on : ∀ (pins : List (Addr × Obj)) (σ : St) (H : Hp) (s : Shared) (h₀ : Heap) (x C : Addr) (B : Heap), Inv X pins σ H s → (∀ b u, X.s₀.heap.get? b = some u → b ∉ X.ex → ∃ u', h₀.get? b = some u') → FlyAt X.stack h₀ H x C B s.heap → E (.ref C) none H → X.xe (.ref x) s
/-- and what is raised in it -/
structure Raises (X : Cx) (E : XK) : Prop where
  new : ∀ (pins : List (Addr × Obj)) (σ : St) (H : Hp) (s : Shared) (h' : Heap) (x C : Addr) (args : List Value), Inv X pins σ H s → Heap.MadeExcOf s.heap h' x (.ref C) args → E (.ref C) none H → X.xe (.ref x) { s with heap := h' }
theorem Thrown.passes {X : Cx} {E : XK} (T : Thrown X E) : Passes (CXE X.prog X.w) X E := by
  intro pins σ H s e s' I ⟨H', x, C, B, h1, os, bare, un, hok, fl, hE⟩
  subst h1
  have I' := I.call' (s' := s') (ch := []) os un hok bare (fun b z => absurd z (by simp))
  exact T.on pins σ H' s' s.heap x C B I' (fun b u e hx => I.base.there b u e hx) fl hE
theorem thrown0 {X : Cx} : Thrown X E0 := ⟨fun _ _ _ _ _ _ _ _ _ _ _ z => z.elim⟩
section
variable {P : Program} {w : World} {K : PySem.W.Frag} {mg : Str → Option Value} {base : Heap} {N : List Str} {qual : Str} {scope : Scope} {f : Addr} {cd : Value} {A : Around} {outer : List Env} {s : Shared} {H : Hp} {E : XK}
theorem cxe_leave {pins : List (Addr × Obj)} {σ : St} {H' : Hp} {s' : Shared} {h₀ h'' B : Heap} {x C t : Addr} (I : Inv (cxOf (CXE P w) P w K mg base N qual scope f cd A outer s H E) pins σ H' s')
    (h0 : ∀ b u, s.heap.get? b = some u → ∃ u', h₀.get? b = some u') (fl : Heap.FlyingW B outer x (.ref C) (.ref t) h'') (up : s'.heap.UpToSlots h'')
    (trk : ∀ b o, s'.heap.get? b = some o → (H' b ≠ none ∨ ((∃ u, h₀.get? b = some u) ∧ b ∉ frs (envOfC qual scope s.heap.objs.size f cd :: outer))) → B.get? b = some o) (hE : E (.ref C) none H') :
    CXE P w outer H s E (.ref x) { s' with heap := h'' } := by
  have nst : ∀ b u, s.heap.get? b = some u → b ∉ frs outer → b ∉ frs (envOfC qual scope s.heap.objs.size f cd :: outer) := fun b u e hb z => by
    unfold frs at z hb
    rw [List.filterMap_cons] at z
    have z : b ∈ s.heap.objs.size :: outer.filterMap (·.frame) := z
    rcases List.mem_cons.mp z with q | q
    · exact absurd (Heap.lt_size e) (by rw [q]; exact Nat.lt_irrefl _)
    · exact hb q
  have nex : ∀ b : Addr, b ∉ (cxOf (CXE P w) P w K mg base N qual scope f cd A outer s H E).ex := fun b z => absurd (show b ∈ ([] : List Addr) from z) (by simp)
  have keep : ∀ b o, s'.heap.get? b = some o → (H' b ≠ none ∨ ((∃ u, s.heap.get? b = some u) ∧ b ∉ frs outer)) → B.get? b = some o := fun b o e c => by
    refine trk b o e ?_
    rcases c with c | ⟨⟨u, hu⟩, hb⟩
    · exact .inl c
    · exact .inr ⟨h0 b u hu, nst b u hu hb⟩
  have slot : ∀ b o, s.heap.get? b = some o → b ∈ frs outer → ∃ sl, h''.get? b = some { o with slots := sl } := fun b o e hb => by
    obtain ⟨sl, e1⟩ := I.base.slot b o e (I.ok.frf b hb) hb (nex b)
    obtain ⟨_, o', ho', hd⟩ := I.ok.funs.mem hb
    have ho' : s.heap.get? b = some o' := ho'
    rw [e] at ho'
    cases ho'
    obtain ⟨sl', e2⟩ := up b _ e1 hd
    exact ⟨sl', e2⟩
  refine ⟨H', x, C, B, rfl, I.os, I.bare, ⟨fun b o e n hb _ => ?_, fun b o e n hb _ => slot b o e hb, fun b o e n _ => I.base.free b o e n (nex b), fun b o e _ => ?_, I.base.tups, I.base.frzs, I.base.tbls⟩, fun b u e => ?_, ⟨⟨t, fl⟩, fun b o e c => ?_⟩, hE⟩
  · exact fl.1 b o (keep b o (I.base.keep b o e n hb (nex b)) (.inr ⟨⟨o, e⟩, hb⟩))
  · by_cases hb : b ∈ frs outer
    · obtain ⟨sl, q⟩ := slot b o e hb
      exact ⟨_, q⟩
    · obtain ⟨o', e'⟩ := I.base.there b o e (nex b)
      exact ⟨o', fl.1 b o' (keep b o' e' (.inr ⟨⟨o, e⟩, hb⟩))⟩
  · refine (I.hok b u e).stay (fun c v hc q => fl.1 c v (keep c v q (.inl ?_))) (fun _ q => q) fun _ _ q => q
    rcases hc with z | z
    · rw [z, e]; simp
    · rw [z]; simp
  · have ex : ∃ o', s'.heap.get? b = some o' := by
      rcases c with c | ⟨⟨u, hu⟩, _⟩
      · cases q : H' b with
        | none => exact absurd q c
        | some u => exact (I.hok b u q).has
      · exact I.base.there b u hu (nex b)
    obtain ⟨o', e'⟩ := ex
    have k := keep b o' e' c
    have := fl.1 b o' k
    have e : h''.get? b = some o := e
    rw [e] at this
    cases this
    exact k
theorem thrown_def : Thrown (cxOf (CXE P w) P w K mg base N qual scope f cd A outer s H E) E := by
  refine ⟨fun pins σ H' s' h₀ x C B I h0 fl hE => ?_⟩
  obtain ⟨⟨t, fly⟩, trk⟩ := fl
  have nex : ∀ b : Addr, b ∉ (cxOf (CXE P w) P w K mg base N qual scope f cd A outer s H E).ex := fun b z => absurd (show b ∈ ([] : List Addr) from z) (by simp)
  exact wpAny_leaves_onW I.ok.frames rfl fly fun h' fl up => cxe_leave I (fun b u e => h0 b u e (nex b)) fl up trk hE
theorem raises_def : Raises (cxOf (CXE P w) P w K mg base N qual scope f cd A outer s H E) E := by
  refine ⟨fun pins σ H' s' h' x C args I hx hE => ?_⟩
  have st := I.stack
  have fin : ∀ env ∈ (envOfC qual scope s.heap.objs.size f cd :: outer), ∀ a, env.frame = some a → a ∈ frs (envOfC qual scope s.heap.objs.size f cd :: outer) := fun env he a ha => List.mem_filterMap.mpr ⟨env, he, ha⟩
  have B := PySem.W.hideAll s'.heap (frs (envOfC qual scope s.heap.objs.size f cd :: outer))
  refine wpAny_leaves_madeW (s := { s' with heap := h' }) (base := PySem.W.hideAll s'.heap (frs (envOfC qual scope s.heap.objs.size f cd :: outer))) (h := s'.heap) I.ok.frames rfl (fun b o e => PySem.W.of_hideAll _ e) (PySem.W.funFrames_hide st fin) hx fun h'' t fl tup tn up => ?_
  refine cxe_leave (s' := s') (h₀ := s'.heap) I (fun b u e => I.base.there b u e (by show b ∉ ([] : List Addr); simp)) fl ((Heap.UpToSlots.of_keeps hx.keeps).trans up) (fun b o e c => ?_) hE
  refine PySem.W.hideAll_get _ e fun z => ?_
  rcases c with c | c
  · exact c (I.stkFree b z)
  · exact c.2 z
end
def CalleeX (P : Program) (w : World) (K : PySem.W.Frag) (mg : Str → Option Value) (base : Heap) (name : Str) (k : Nat) (ps : List Str) (sp : Sp) : Prop :=
  ∃ f fd, FnOk P w K mg base (CXE P w) k f fd ps sp ∧ Binds K fd ps [] ∧ PySem.W.keepIn K (.ref f) = true ∧ mg name = some (.ref f)
theorem CalleeX.mono {P : Program} {w : World} {K : PySem.W.Frag} {mg : Str → Option Value} {base : Heap} {name : Str} {j k : Nat} {ps : List Str} {sp : Sp} (c : CalleeX P w K mg base name j ps sp) (h : j ≤ k) : CalleeX P w K mg base name k ps sp := by
  obtain ⟨f, fd, F, r⟩ := c
  exact ⟨f, fd, F.mono h, r⟩
section
variable {X : Cx} {E : XK} {name : Str} {k : Nat} {ps : List Str} {sp : Sp} {p pos : Pos} {e : Expr} {es : List Expr} {t : TA}
theorem pe_fnX (c : CalleeX X.prog X.w X.K X.mg X.base name k ps sp) (T : Thrown X E) (hr : Room k X.A) (hg : Gl X name) (ha : PA X (e :: es) t)
    (hdb : (name == ("__debug__" : Str)) = false := by decide) (he : starEach (e :: es) X.env = (false, eval e X.env) :: starEach es X.env := by rfl) (hpl : (backTo pos (starEach es X.env)).any (·.1) = false := by rfl) :
    PE X (.Call (.Name name p) (e :: es) [] pos) (tCall sp [] E t) := by
  obtain ⟨f, fd, F, b, hk, hm⟩ := c
  exact pe_call F hr hg hm hk b .nil T.passes ha hdb he hpl
end
theorem Fun.okX {P : Program} {w : World} {K : PySem.W.Frag} {mg : Str → Option Value} {base : Heap} {x qual : Str} {st : Stmt} {f : Addr} {fd : FuncData} {N ps : List Str} {k : Nat} {sp : Sp} (F : Fun K x qual st f fd) (S : FnScope N ps (defScope st)) (len : ∀ vs H Q E, sp vs H Q E → vs.length = ps.length)
    (hbody : ∀ (cdv : Value) (A : Around) (outer : List Env) (s : Shared) (H : Hp) (vs : List V) (Q : VK) (E : XK), Room k (A.deeper (envOfC qual (defScope st) s.heap.objs.size f cdv)) → sp vs H Q E →
      ∃ t, PSs (cxOf (CXE P w) P w K mg base N qual (defScope st) f cdv A outer s H E) (defBody st) t ∧ t { nx := fun _ H' => Q .non H', rt := Q } (start N vs) H) : FnOk P w K mg base (CXE P w) (k + 1) f fd ps sp := by
  obtain ⟨oc, od, kV, doc, pm, an, cdv, ct, osl, rfl, lk, hcd⟩ := F.ex
  exact fn_of lk hcd S len fun A outer s H vs Q E hr hsp => hbody cdv A outer s H vs Q E hr hsp
end L2
namespace L2.DL
open PySem PySem.Spec PyProof.Rows
def SpDX (K : PySem.W.Frag) (Fn : List D → Res D) : Sp := fun vs H Q E => ∃ F ds, Same F H ∧ IsDs K F ds vs ∧ (Fn ds).need (OkD K F H Q) (XW K E F H)
/-- no exception -/
def Res.strict {α : Type} : Res α → Res α
  | .ok a => .ok a
  | _ => .no
@[simp] theorem Res.strict_ok {α : Type} (a : α) : (Res.ok a).strict = .ok a := rfl
theorem Res.need_strict {α : Type} {r : Res α} {p : α → Prop} {q q' : Str → List D → Prop} (h : r.strict.need p q) : r.need p q' := by
  cases r with
  | ok a => exact h
  | ex c fs => exact h.elim
  | no => exact h
def dCall0 (Fn : List D → Res D) (fr : FA) : FE := fun sd => (fr sd).bind fun ds => (Fn ds).strict
@[simp] theorem ev_call0 (Fn : List D → Res D) (fr : FA) (sd : SD) : dCall0 Fn fr sd = (fr sd).bind fun ds => (Fn ds).strict := rfl
section
variable {X : Cx} {E : XK} {name : Str} {k : Nat} {ps : List Str} {Fn : List D → Res D} {p pos : Pos} {e : Expr} {es : List Expr} {fr : FA}
theorem q_fnX (c : CalleeX X.prog X.w X.K X.mg X.base name k ps (SpDX X.K Fn)) (T : Thrown X E) (hr : Room k X.A) (hg : Gl X name) (ha : QA X E (e :: es) fr)
    (hdb : (name == ("__debug__" : Str)) = false := by decide) (he : starEach (e :: es) X.env = (false, eval e X.env) :: starEach es X.env := by rfl) (hpl : (backTo pos (starEach es X.env)).any (·.1) = false := by rfl) :
    QE X E (.Call (.Name name p) (e :: es) [] pos) (dCall Fn fr) := PE.weak (pe_fnX c T hr hg ha hdb he hpl) fun σ H Q ⟨B, F, sd, r, n⟩ => by
  refine ⟨B, F, sd, r, (Res.need_bind n).mono (fun xs n1 vs F1 H1 e1 i1 => ?_) fun _ _ q => q⟩
  show SpDX X.K Fn (vs ++ []) H1 Q E
  rw [List.append_nil]
  exact ⟨F1, xs, e1.fh, i1, needD n1 e1⟩
theorem q_fn0 (c : Callee X.prog X.w X.K X.mg X.base name k ps (SpD X.K Fn)) (hr : Room k X.A) (hg : Gl X name) (ha : QA X E (e :: es) fr)
    (hdb : (name == ("__debug__" : Str)) = false := by decide) (he : starEach (e :: es) X.env = (false, eval e X.env) :: starEach es X.env := by rfl) (hpl : (backTo pos (starEach es X.env)).any (·.1) = false := by rfl) :
    QE X E (.Call (.Name name p) (e :: es) [] pos) (dCall0 Fn fr) := PE.weak (pe_fn c hr hg ha hdb he hpl) fun σ H Q ⟨B, F, sd, r, n⟩ => by
  refine ⟨B, F, sd, r, (Res.need_bind n).mono (fun xs n1 vs F1 H1 e1 i1 => ?_) fun _ _ q => q⟩
  show SpD X.K Fn (vs ++ []) H1 Q E0
  rw [List.append_nil]
  exact ⟨F1, xs, e1.fh, i1, Res.need_strict (needD n1 e1)⟩
theorem q_fnN0 (c : Callee X.prog X.w X.K X.mg X.base name k ps (SpN X.K Fn)) (hr : Room k X.A) (hg : Gl X name) (ha : QA X E (e :: es) fr)
    (hdb : (name == ("__debug__" : Str)) = false := by decide) (he : starEach (e :: es) X.env = (false, eval e X.env) :: starEach es X.env := by rfl) (hpl : (backTo pos (starEach es X.env)).any (·.1) = false := by rfl) :
    QN X E (.Call (.Name name p) (e :: es) [] pos) (dCall0 Fn fr) := PE.weak (pe_fn c hr hg ha hdb he hpl) fun σ H Q ⟨B, F, sd, r, n⟩ => by
  refine ⟨B, F, sd, r, (Res.need_bind n).mono (fun xs n1 vs F1 H1 e1 i1 => ?_) fun _ _ q => q⟩
  show SpN X.K Fn (vs ++ []) H1 Q E0
  rw [List.append_nil]
  exact ⟨F1, xs, e1.fh, i1, Res.need_strict (needN n1 e1)⟩
end
section
variable {P : Program} {w : World} {K : PySem.W.Frag} {mg : Str → Option Value} {base : Heap} {x qual : Str} {f : Addr} {fd : FuncData} {N ps : List Str} {k : Nat} {st : Stmt}
theorem fn_dX {g : FS} (F : Fun K x qual st f fd) (S : FnScope N ps (defScope st))
    (hb : ∀ (cdv : Value) (A : Around) (outer : List Env) (s : Shared) (H : Hp) (E : XK), Room k (A.deeper (envOfC qual (defScope st) s.heap.objs.size f cdv)) → QSs (cxOf (CXE P w) P w K mg base N qual (defScope st) f cdv A outer s H E) E false (defBody st) g) :
    FnOk P w K mg base (CXE P w) (k + 1) f fd ps (SpDX K (runD N.length ps.length g)) := by
  refine F.okX S (fun vs H Q E ⟨F, ds, _, h, n⟩ => ?_) fun cdv A outer s H vs Q E hr ⟨F, ds, hs, h, n⟩ => ⟨_, hb cdv A outer s H E hr, ?_⟩
  · unfold runD at n
    split at n
    · rw [h.length]; assumption
    · exact n.elim
  · unfold runD at n
    split at n
    · refine ⟨⟨F, H, fun _ => none⟩, F, _, RS.start hs h, (Res.need_bind n).mono (fun o n1 => ?_) fun _ _ q => q⟩
      cases o with
      | next sd => exact fun σ F' H' _ r => n1 .non F' H' r.ext (IsD.non_iff.mpr rfl)
      | ret d => exact n1
      | brk sd => exact n1.elim
      | cont sd => exact n1.elim
    · exact n.elim
end
end L2.DL

namespace L2
open PySem PySem.Spec PyProof.Rows
section
variable {X : Cx} {x : Str} {v e : Expr} {tv : TE} {t : TA} {p1 p2 np cpos pos : Pos} {k}
/-- an exception class of the text's own, under ValueError -/
structure Exc (K : PySem.W.Frag) (mg : Str → Option Value) (c : Str) (C : Addr) : Prop where
  ns : PySem.W.nsIn K mainGlobals c = some (some (.ref C))
  mgc : mg c = some (.ref C)
  exc : PySem.W.excIn K C [.type "ValueError", .type "Exception", .type "BaseException", .type "object"] "ValueError.__new__" = true
theorem exc_obj {K : PySem.W.Frag} {h : Heap} {C : Addr} {bmB : List Value} {newId : String} (KI : K.In h) (q : PySem.W.excIn K C bmB newId = true) :
    ∃ bm N nm qn bs hdct sn sub ab col dd k0 k1 k2 k3 k5 mN, h.get? C = some (excClassObj nm qn C N bs bm hdct sn sub ab col dd k0 k1 k2 k3 k5 newId) ∧ h.Ns N mN ∧ mN "__init__" = none ∧ OwnTail h bmB bm := by
  unfold PySem.W.excIn at q
  split at q
  · rename_i dd cd sl ho
    split at q
    · rename_i C' bm k0 k1 k2 k3 n k5 hm hs
      simp only [Bool.and_eq_true, beq_iff_eq, Bool.not_eq_true'] at q
      obtain ⟨⟨⟨⟨⟨z1, z2⟩, hdel⟩, ht⟩, hok⟩, hni⟩ := q
      subst z1 z2
      have hc := KI _ _ ho
      obtain ⟨nm, bs, mro, ns, qn, hd, sn, sub, ab, col, del⟩ := cd
      dsimp only at hm hdel hok hni hc
      subst hm hdel
      have hsl : sl = #[k0, k1, k2, k3, some (.builtin n), k5] := by
        obtain ⟨l⟩ := sl
        exact congrArg Array.mk hs
      subst hsl
      exact ⟨bm, ns, nm, qn, bs, hd, sn, sub, ab, col, dd, k0, k1, k2, k3, k5, _, hc, .of_isNs (PySem.W.isNs_of_in KI hok), PySem.W.nsMap_none_of_in KI hok hni, PySem.W.tail_of_in KI ht⟩
    · cases q
  · cases q
def tRaise (C : Addr) (E : XK) (t : TA) : TS := fun _ σ H => t σ H fun vs H1 => vs.length ≤ 1000 ∧ E (.ref C) none H1
theorem ps_raise {E : XK} {c : Str} {C : Addr} (R : Raises X E) (ex : Exc X.K X.mg c C) (hc : X.calm = true) (hg : Gl X c) (ha : PA X [e] t) (hd : (c == ("__debug__" : Str)) = false := by decide)
    (he : starEach [e] X.env = (false, eval e X.env) :: starEach [] X.env := by rfl) : PS X (.Raise (some (.Call (.Name c np) [e] [] cpos)) none pos) (tRaise C E t) := by
  intro pins s σ H D I h
  obtain ⟨tl, N, nm, q, bs, hdct, sn, sub, ab, col, dd, k0, k1, k2, k3, k5, mN, hC, hN, hni, T⟩ := exc_obj (h := X.base) I.mod.kin ex.exc
  refine wpAny_Raise_call_subU (C := C) (nm := nm) (q := q) (N := N) (bs := bs) (bm := tl) (hdct := hdct) (sn := sn) (sub := sub) (ab := ab) (col := col) (dd := dd) (k0 := k0) (k1 := k1) (k2 := k2) (k3 := k3) (k5 := k5)
    PySem.F.excBase_ValueError (by decide +kernel) PySem.F.excBase_ValueError (mN := mN) (T.hasType PySem.F.excBase_ValueError.hasBase) (I.ok.hd hc) (by rw [he]; rfl) hni (ld_glob I hg ex.mgc ⟨rfl, ?_⟩ hd)
  have hA := ha cpos pins s σ H _ I h
  rw [he] at hA ⊢
  refine Calls.evalArgs_plain (wpAny_mono hA (fun vs s2 ⟨ws, H2, I2, r2, hl, hE⟩ => ?_) fun _ _ y => y)
  have lw := r2.length
  refine ⟨rfl, small (by show vs.length ≤ 1000; omega), I2.bk _ _ hC, hN.keeps I2.bk, T.keeps I2.bk, fun h' x hx => R.new pins σ H2 s2 h' x C _ I2 hx hE⟩
end
end L2
namespace L2.DL
open PySem PySem.Spec PyProof.Rows
def sRaise (c : Str) (f : FE) : FS := fun sd => (f sd).bind fun _ => .ex c []
@[simp] theorem ev_raise (c : Str) (f : FE) (sd : SD) : sRaise c f sd = (f sd).bind fun _ => .ex c [] := rfl
section
variable {X : Cx} {E : XK} {m : Option Bool} {x : Str} {v e : Expr} {fv fe : FE} {p1 p2 np cpos pos : Pos} {k}
theorem qs_raise {c : Str} {C : Addr} (R : Raises X E) (ex : Exc X.K X.mg c C) (hc : X.calm = true) (hg : Gl X c) (he : QE X E e fe) (hd : (c == ("__debug__" : Str)) = false := by decide)
    (hst : starEach [e] X.env = (false, eval e X.env) :: starEach [] X.env := by rfl) : QS X E m (.Raise (some (.Call (.Name c np) [e] [] cpos)) none pos) (sRaise c fe) :=
  PS.weak (ps_raise R ex hc hg (qa_cons he qa_nil hst) hd hst) fun T σ H ⟨B, F, sd, r, n⟩ => by
    have n0 : (dCons fe dNil sd).need (fun ds => ds.length = 1 ∧ XW X.K E B.F0 B.H0 c []) (XW X.K E F H) := by
      unfold sRaise at n
      unfold dCons dNil
      cases hf : fe sd with
      | ok d => rw [hf] at n; exact ⟨rfl, n⟩
      | ex c' fs => rw [hf] at n; exact XW.ext (n : XW X.K E B.F0 B.H0 c' fs) r.ext
      | no => rw [hf] at n; exact n
    refine ⟨B, F, sd, r, n0.mono (fun ds n1 vs F1 H1 e1 i1 => ?_) fun _ _ q => q⟩
    have := i1.length
    exact ⟨by omega, n1.2 (.ref C) none F1 H1 (r.ext.trans e1) ⟨C, rfl, ex.ns, .inl rfl⟩⟩
end
end L2.DL

namespace L2
open PySem PySem.Spec PyProof.Rows
theorem passes_def {P : Program} {w : World} {K : PySem.W.Frag} {mg : Str → Option Value} {base : Heap} {N : List Str} {qual : Str} {scope : Scope} {f : Addr} {cd : Value} {A : Around} {outer : List Env} {s : Shared} {H : Hp} {E : XK} :
    PassesOwn (model (cxOf (CXE P w) P w K mg base N qual scope f cd A outer s H E).prog (cxOf (CXE P w) P w K mg base N qual scope f cd A outer s H E).w) (cxOf (CXE P w) P w K mg base N qual scope f cd A outer s H E).A (cxOf (CXE P w) P w K mg base N qual scope f cd A outer s H E).env (cxOf (CXE P w) P w K mg base N qual scope f cd A outer s H E).xe :=
  PassesOwn.leaving (Q₁ := fun e s'' => CXE P w outer H s E e s'')
end L2

namespace L2.DL
open PySem PySem.Spec PyProof.Rows
def chainK (g' : D → D → Option D) (fc : FE) (sd : SD) (y : D) : D → Res D
  | .bl true => (fc sd).bind fun w => .ofO (g' y w)
  | .bl false => .ok (.bl false)
  | _ => .no
@[simp] theorem chainK_t (g' : D → D → Option D) (fc : FE) (sd : SD) (y : D) : chainK g' fc sd y (.bl true) = (fc sd).bind fun w => .ofO (g' y w) := rfl
@[simp] theorem chainK_f (g' : D → D → Option D) (fc : FE) (sd : SD) (y : D) : chainK g' fc sd y (.bl false) = .ok (.bl false) := rfl
def dChain (g g' : D → D → Option D) (fa fb fc : FE) : FE := fun sd => (fa sd).bind fun x => (fb sd).bind fun y => (Res.ofO (g x y)).bind (chainK g' fc sd y)
@[simp] theorem ev_chain (g g' : D → D → Option D) (fa fb fc : FE) (sd : SD) : dChain g g' fa fb fc sd = (fa sd).bind fun x => (fb sd).bind fun y => (Res.ofO (g x y)).bind (chainK g' fc sd y) := rfl
section
variable {X : Cx} {E : XK} {a b c : Expr} {fa fb fc : FE} {g g' : D → D → Option D} {pos : Pos}
theorem tD_chain {K : PySem.W.Frag} {σ : St} {H : Hp} {Q : VK} (h : tD K E (dChain g g' fa fb fc) σ H Q) : tChain (rD2 K g) (rD2 K g') (tD K E fa) (tD K E fb) (tD K E fc) σ H Q := by
  obtain ⟨B, F, sd, r, n⟩ := h
  refine ⟨B, F, sd, r, (Res.need_bind n).mono (fun x n1 v F1 H1 e1 i1 => ?_) fun _ _ q => q⟩
  refine ⟨B, F1, sd, r.step e1, (Res.need_bind n1).mono (fun y n2 w F2 H2 e2 i2 => ?_) fun _ _ q => q.ext e1⟩
  obtain ⟨z, hz, n3⟩ := Res.need_ofO (Res.need_bind n2)
  refine ⟨F2, x, y, z, e2.fh, IsD.same e2.ff _ _ i1, i2, hz, fun v3 F3 H3 e3 i3 => ?_⟩
  cases z with
  | bl k =>
    refine ⟨k, IsD.bl_iff.mp i3, ?_⟩
    cases k with
    | true =>
      rw [if_pos rfl]
      refine ⟨B, F3, sd, ((r.step e1).step e2).step e3, (Res.need_bind n3).mono (fun u n4 v4 F4 H4 e4 i4 => ?_) fun _ _ q => q.ext (e1.trans (e2.trans e3))⟩
      obtain ⟨z', hz', q⟩ := Res.need_ofO n4
      exact ⟨F4, y, u, z', e4.fh, IsD.same (e3.ff.trans e4.ff) _ _ i2, i4, hz', q.ext (e1.trans (e2.trans (e3.trans e4)))⟩
    | false =>
      rw [if_neg (by decide)]
      exact n3 _ F3 H3 (e1.trans (e2.trans e3)) (IsD.bl_iff.mpr rfl)
  | _ => exact n3.elim
end
end L2.DL

namespace L2.DL
open PySem PySem.Spec PyProof.Rows
def delH (H : Hp) (l : Addr) : Hp := fun a => if a = l then none else H a
theorem delH_same {H : Hp} {l : Addr} : Same (delH H l) H := fun a o e => by
  unfold delH at e
  split at e
  · cases e
  · exact e
theorem delH_at {H : Hp} {l : Addr} : delH H l l = none := by unfold delH; rw [if_pos rfl]
theorem delH_ne {H : Hp} {l a : Addr} (h : a ≠ l) : delH H l a = H a := by unfold delH; rw [if_neg h]
section
variable {P : Program} {w : World} {K : PySem.W.Frag} {mg : Str → Option Value} {base : Heap} {x qual : Str} {st : Stmt} {f : Addr} {fd : FuncData} {N ps : List Str} {k j : Nat}
end
section
variable {X : Cx} {pos : Pos}
def gAddL : D → D → Option D
  | .lst a, .lst b => if a.length + b.length ≤ sizeLine then some (.lst (a ++ b)) else none
  | _, _ => none
theorem o_addL : OpDN X (binaryOp .Add) gAddL := OpR.weak op_cat' fun x y H Q ⟨F, d, e, z, sF, id, ie, hz, q⟩ => by
  cases d with
  | lst a =>
    cases e with
    | lst b =>
      have hz : (if a.length + b.length ≤ sizeLine then some (D.lst (a ++ b)) else none) = some z := hz
      split at hz
      · rename_i hl
        cases hz
        rw [IsD.lst_iff] at id ie
        obtain ⟨l, xs, rfl, h1, h2⟩ := id
        obtain ⟨l', ys, rfl, h3, h4⟩ := ie
        have l1 := h2.length
        have l2 := h4.length
        exact ⟨l, l', xs, ys, rfl, rfl, h1.same sF, h3.same sF, by omega, fun p hp => q p F _ (.keep sF hp _) hp (same_free sF hp) ⟨_, upd_same, h2.append h4⟩⟩
      · cases hz
    | _ => cases hz
  | _ => cases hz
end
end L2.DL

namespace L2
open PySem PySem.Spec PyProof.Rows
def DefAt (K : PySem.W.Frag) (x : Str) (st : Stmt) : Prop := ∃ f fd, PySem.W.nsIn K mainGlobals x = some (some (.ref f)) ∧ Fun K x x st f fd
end L2

namespace L2
open PySem PySem.Spec PyProof.Rows
def Its (x : Str) : It := ⟨fun i _ => i < x.cps.size, fun i H y H' => H' = H ∧ ∃ c, x.cps[i]? = some c ∧ y = .str ⟨#[c]⟩, fun i _ => x.cps.size ≤ i⟩
theorem turn_str {P : Program} {w : World} {K : PySem.W.Frag} {tg : Expr} (it : Addr) (x : Str) (t : Tok) : Turn P w K tg (Its x) [it] it (fun i h => h.IsStrIter it "str_ascii_iterator" x t i) where
  mem := by simp
  obj := fun i h st b hb => by
    have e : b = it := by simpa using hb
    subst e
    obtain ⟨o, ho, _, hd⟩ := st
    exact ⟨o, ho, fun v z => by rw [hd] at z; cases z⟩
  keep := fun i h h' st k => let ⟨o, ho, r⟩ := st; ⟨o, k it (by simp) o ho, r⟩
  item := by
    intro X hP hw hK hc i pins s σ H E I hf st hg
    subst hP hw hK
    obtain ⟨f0, f1, f2, f3, f4, f5⟩ := hf it (by simp)
    have hg : i < x.cps.size := hg
    refine wpAny_pyNext_ascii_item st (c := x.cps[i]) (by simp [hg]) fun h' st' sb => ?_
    have I1 : Inv X pins σ H { s with heap := h', toks := s.toks + 1 } := I.turned (fun b o hb e => (sb.2 b hb).trans e) f0 f1 f3 f4 f5
    obtain ⟨o, e, c, d⟩ := id st'
    exact ⟨_, rfl, go_of (s := { s with heap := h', toks := s.toks + 1 }) e c d (by decide) ⟨.str ⟨#[x.cps[i]]⟩, H, I1, ⟨_, rfl⟩, ⟨rfl, _, by simp [hg], rfl⟩, st', fun b hb => (hf b hb).1⟩⟩
  done := by
    intro X hP hw hK hc i pins s σ H E I hf st hg
    subst hP hw hK
    obtain ⟨f0, f1, f2, f3, f4, f5⟩ := hf it (by simp)
    have hg : x.cps.size ≤ i := hg
    exact wpAny_pyNext_ascii_end (I.ok.hd hc) st (by simp [hg]) fun h' eb => ⟨rfl, I.turned (t' := s.toks) (fun b o hb e => eb b o hb e) f0 f1 f3 f4 f5⟩
  self := fun _ _ _ _ _ st h => wpAny_pyIter_striter_ascii st h
section
variable {X : Cx} {tg : Expr}
def iStrT (tl : TE) : TI := fun σ H R => tl σ H fun y H1 => ∃ x, y = .str x ∧ x.cps.all (· < 128) = true ∧ R (Its x) H1
theorem pi_str {l : Expr} {tl : TE} (hl : PE X l tl) : PI X tg l (iStrT tl) := by
  intro pins s σ H R I h
  refine thn (hl pins s σ H _ I h) fun v s1 ⟨y, H1, I1, r1, q1⟩ => ?_
  obtain ⟨x, rfl, ha, q⟩ := q1
  obtain ⟨t, rfl⟩ := r1
  refine wpAny_pyIter_ascii ha ?_
  refine ⟨s1.heap.objs.size, [s1.heap.objs.size], _, _, H1, rfl, I1.kept (t' := s1.toks) fun b o e => Heap.get?_push_of_some _ e, turn_str _ x t, ⟨_, Heap.get?_push_size _ rfl, rfl, rfl⟩, fun b hb => ?_, q⟩
  have e : b = s1.heap.objs.size := by simpa using hb
  subst e
  exact I1.fpOk (Nat.le_refl _) (I1.hok.fresh (Nat.le_refl _))
/-- a text in a tuple of texts that stands at the top -/
theorem op_inK (hu : X.A.units + 64 < cLine) (neg : Bool) : OpR X (compareOp (if neg then .NotIn else .In)) (fun x y H Q => ∃ (d : DL.D) (ws : List Str) (p : Addr), DL.IsD X.K H d x ∧ DL.plN 12 d = true ∧ (ws.map DL.D.str).all (DL.plN 12) = true ∧ y = .ref p ∧ SqT X.K H p (ws.map V.str) ∧
    Q (.bl (if neg then !(ws.map DL.D.str).any (fun e => DL.sameD e d) else (ws.map DL.D.str).any fun e => DL.sameD e d)) H) := by
  intro pins s σ H x y v u Q I rx ry ⟨d, ws, p, id, hp, hw, hy, hq, q⟩
  subst hy
  obtain rfl : u = Value.ref p := ry
  obtain ⟨its, ri, pl, hl⟩ := I.tuple hq
  have iw : ∀ ws : List Str, DL.IsDs X.K H (ws.map DL.D.str) (ws.map V.str) := fun ws => by
    induction ws with
    | nil => exact .nil
    | cons w ws ih => exact .mk (DL.IsD.str_iff.mpr rfl) ih
  obtain ⟨k1, k2⟩ := DL.any_eq (A := X.A.in1) (by show X.A.units + 1 + 60 < cLine; omega) I.hok hp id rx hw (iw ws) ri
  have ea : its.toArray.any (DL.eqTo X.K H d) = (ws.map DL.D.str).any (fun e => DL.sameD e d) := by
    rw [show its.toArray.any (DL.eqTo X.K H d) = its.any (DL.eqTo X.K H d) by simp, DL.any_map', k1, ← DL.any_map']
  cases neg with
  | true =>
    refine SeqAt.notIn_tupleAt (DL.eqTo X.K H d) pl (fun w hw => k2 w (by simpa using hw)) ⟨.bl _, H, I, rfl, ?_⟩
    rw [ea]
    exact q
  | false =>
    refine SeqAt.in_tupleAt (DL.eqTo X.K H d) pl (fun w hw => k2 w (by simpa using hw)) ⟨.bl _, H, I, rfl, ?_⟩
    rw [ea]
    exact q
end
end L2
namespace L2.DL
open PySem PySem.Spec PyProof.Rows
def ascB (x : Str) : Bool := x.cps.all (· < 128)
def chD (x : Str) : List D := x.cps.toList.map fun c => .str ⟨#[c]⟩
def iStr (f : FE) : FA := fun sd => (f sd).bind fun d => match d with
  | .str x => if ascB x = true then .ok (chD x) else .no
  | _ => .no
@[simp] theorem ev_iStr (f : FE) (sd : SD) : iStr f sd = (f sd).bind fun d => match d with
  | .str x => if ascB x = true then .ok (chD x) else .no
  | _ => .no := rfl
def gInS (neg : Bool) : D → D → Option D
  | .str c, .str x => some (.bl (if neg then !(!(Builtin.Str.occurrences x c 0 x.length 1).isEmpty) else !(Builtin.Str.occurrences x c 0 x.length 1).isEmpty))
  | _, _ => none
theorem gInS_one (neg : Bool) (c : Nat) (x : Str) : gInS neg (.str ⟨#[c]⟩) (.str x) = some (.bl (if neg then !decide (c ∈ x.cps.toList) else decide (c ∈ x.cps.toList))) := by
  show some (D.bl (if neg then !(!(Builtin.Str.occurrences x ⟨#[c]⟩ 0 x.length 1).isEmpty) else !(Builtin.Str.occurrences x ⟨#[c]⟩ 0 x.length 1).isEmpty)) = _
  rw [PySem.StrLaws.found_one]
def gStr : List D → Option D
  | [.int i] => if Nat.ble i.natAbs.log2 1900 then some (.str (toString i)) else none
  | _ => none
section
variable {X : Cx} {E : XK} {tg e a b : Expr} {fe fa fb : FE} {lo hi : Option Expr} {p2 pos p : Pos}
theorem qi_str (h : QE X E e fe) : QI X E tg e (iStr fe) := PI.weak (pi_str h) fun σ H R ⟨B, F, sd, r, n⟩ => by
  refine ⟨B, F, sd, r, (Res.need_bind n).mono (fun d n1 v F1 H1 e1 i1 => ?_) fun _ _ q => q⟩
  cases d with
  | str x =>
    have n1 : (if ascB x = true then Res.ok (chD x) else Res.no).need (fun ds => ∀ J F' H', Ext F H F' H' → Walk X.K F' J ds → R J H') (XW X.K E F H) := n1
    split at n1
    · rename_i ha
      have ic : ∀ l : List Nat, IsDs X.K F1 (l.map fun c => D.str ⟨#[c]⟩) (l.map fun c => V.str ⟨#[c]⟩) := fun l => by
        induction l with
        | nil => exact .nil
        | cons c l ih => exact .mk (IsD.str_iff.mpr rfl) ih
      refine ⟨x, IsD.str_iff.mp i1, ha, n1 (Its x) F1 H1 e1 (walk_of_at (S := fun _ => True) (xs := x.cps.toList.map fun c => V.str ⟨#[c]⟩) (ic _) (fun _ _ _ _ => trivial) (fun i H y _ hy => ?_) (fun i H _ hi => ?_) fun i H y H' _ hy => ?_)⟩
      · have := (List.getElem?_eq_some_iff.mp hy).1
        rw [List.length_map, Array.length_toList] at this
        exact this
      · rw [List.length_map, Array.length_toList] at hi
        exact hi
      · obtain ⟨h1, c, hc, h2⟩ := hy
        refine ⟨h1, ?_⟩
        rw [List.getElem?_map, Array.getElem?_toList, hc, h2]
        rfl
    · exact n1.elim
  | _ => exact n1.elim
theorem o_inS (neg : Bool) : OpD X (compareOp (if neg then .NotIn else .In)) (gInS neg) := by
  intro pins s σ H x y v u Q I rx ry ⟨F, d, e, z, sF, id, ie, hz, q⟩
  cases d with
  | str c =>
    cases e with
    | str t =>
      cases hz
      have e1 := IsD.str_iff.mp id
      have e2 := IsD.str_iff.mp ie
      cases neg with
      | true => exact op_notin_str pins s σ H x y v u Q I rx ry ⟨c, t, e1, e2, q _ F H (.refl sF) (isB _ F)⟩
      | false => exact op_in_str pins s σ H x y v u Q I rx ry ⟨c, t, e1, e2, q _ F H (.refl sF) (isB _ F)⟩
    | _ => cases hz
  | _ => cases hz
theorem o_inS0 : OpD X (compareOp .In) (gInS false) := o_inS false
theorem o_inS1 : OpD X (compareOp .NotIn) (gInS true) := o_inS true
theorem b_str : CallR X (.type "str") (rDA X.K gStr) := CallR.weak call_str_int fun xs H Q ⟨F, ds, z, sF, id, hz, q⟩ => by
  unfold gStr at hz
  split at hz
  · rename_i i
    split at hz
    · rename_i hl
      cases hz
      obtain ⟨v1, r1, e1, i1, id⟩ := IsDs.cons_iff.mp id
      rw [IsDs.nil_iff] at id
      subst id e1
      exact ⟨i, by rw [IsD.int_iff.mp i1], Nat.lt_of_le_of_lt (Nat.ble_eq.mp hl) (by decide), q _ F H (.refl sF) (IsD.str_iff.mpr rfl)⟩
    · cases hz
  · cases hz
/-- a text that stands at the top -/
theorem qc_gstr {x v : Str} {t : Tok} (hm : X.mg x = some (.str v t)) (hg : Gl X x) (hd : (x == ("__debug__" : Str)) = false := by decide) : QE X E (.Name x pos) (dC (.str v)) := q_const (pe_glob (v := .str v) hg hm ⟨t, rfl⟩ hd) fun F => IsD.str_iff.mpr rfl
/-- a tuple of texts that stands at the top -/
structure KTup (K : PySem.W.Frag) (mg : Str → Option Value) (x : Str) (ws : List Str) : Prop where
  ex : ∃ p, mg x = some (.ref p) ∧ ∀ H, SqT K H p (ws.map V.str)
theorem tD_inK {K : PySem.W.Frag} {neg : Bool} {ws : List Str} {p : Addr} {σ : St} {H : Hp} {Q : VK} (hq : ∀ H, SqT K H p (ws.map V.str)) (h : tD K E (dOp (gIn neg) fa (dC (.tup (ws.map .str)))) σ H Q) :
    tOp (fun x y H Q => ∃ (d : D) (ws : List Str) (p : Addr), IsD K H d x ∧ plN 12 d = true ∧ (ws.map D.str).all (plN 12) = true ∧ y = .ref p ∧ SqT K H p (ws.map V.str) ∧
    Q (.bl (if neg then !(ws.map D.str).any (fun e => sameD e d) else (ws.map D.str).any fun e => sameD e d)) H) (tD K E fa) (tC (.ref p)) σ H Q := by
  obtain ⟨B, F, sd, r, n⟩ := h
  refine ⟨B, F, sd, r, (Res.need_bind n).mono (fun x n1 v F1 H1 e1 i1 => ?_) fun _ _ q => q⟩
  have n1 : (Res.ofO (gIn neg x (.tup (ws.map .str)))).need (OkD K F H Q) (XW K E F H) := n1
  obtain ⟨z, hz, q⟩ := Res.need_ofO n1
  have hz : (if plN 12 x && (ws.map D.str).all (plN 12) then some (D.bl (if neg then !(ws.map D.str).any (fun e => sameD e x) else (ws.map D.str).any fun e => sameD e x)) else none) = some z := hz
  split at hz
  · rename_i hp
    rw [Bool.and_eq_true] at hp
    cases hz
    exact ⟨x, ws, p, IsD.same e1.fh _ _ i1, hp.1, hp.2, rfl, hq _, q _ F1 H1 e1 (IsD.bl_iff.mpr rfl)⟩
  · cases hz
theorem qt_inK {g : Str} {ws : List Str} (hu : X.A.units + 64 < cLine) (k : KTup X.K X.mg g ws) (hg : Gl X g) (ha : QE X E a fa) (hd : (g == ("__debug__" : Str)) = false := by decide) : QT X E (.Compare a [.In] [.Name g p] pos) (dBool (dOp (gIn false) fa (dC (.tup (ws.map .str))))) := by
  obtain ⟨q, hm, hs⟩ := k.ex
  exact PT.weak (pt_cmpR (op_inK hu false) ha (pe_glob (v := .ref q) hg hm rfl hd) rfl) fun σ H Q h => tD_inK hs (tDT_bool h)
theorem qt_chain {c : Expr} {fc : FE} {g g' : D → D → Option D} {op op' : CmpOp} (ho : OpR X (compareOp op) (rD2 X.K g)) (ho' : OpR X (compareOp op') (rD2 X.K g')) (ha : QE X E a fa) (hb : QE X E b fb) (hc : QE X E c fc)
    (hm : lastMarks [op, op'] [b, c] = false := by with_unfolding_all rfl) : QT X E (.Compare a [op, op'] [b, c] pos) (dBool (dChain g g' fa fb fc)) := PT.weak (pt_chain ho ho' ha hb hc hm) fun _ _ _ h => tD_chain (tDT_bool h)
end
end L2.DL

namespace L2.DL
open PySem PySem.Spec PyProof.Rows
/-- a class of the text: what is asked of it, and of the names of its fields -/
structure ClsD (K : PySem.W.Frag) (mg : Str → Option Value) (c : Str) (C : Addr) (fs : List Str) : Prop where
  ns : PySem.W.nsIn K mainGlobals c = some (some (.ref C))
  mgc : mg c = some (.ref C)
  cls : Cls K C
  no : ∀ f ∈ fs, NoAttr K C f
def fldD (f : Str) : List Str → List D → Option D
  | g :: gs, d :: ds => if g = f then some d else fldD f gs ds
  | _, _ => none
theorem fld_is {K : PySem.W.Frag} {H : Hp} {f : Str} : ∀ {fs : List Str} {ds : List D} {xs : List V} {d : D}, IsDs K H ds xs → fs.length = xs.length → fldD f fs ds = some d → ∃ x, (fs.zip xs).lookup f = some x ∧ IsD K H d x
  | [], ds, xs, d, _, _, h => by unfold fldD at h; cases h
  | g :: gs, [], xs, d, i, l, h => by
    rw [IsDs.nil_iff] at i
    subst i
    cases l
  | g :: gs, e :: ds, xs, d, i, l, h => by
    obtain ⟨x, r, rfl, i1, i2⟩ := IsDs.cons_iff.mp i
    unfold fldD at h
    rw [List.zip_cons_cons]
    by_cases q : g = f
    · rw [if_pos q] at h
      cases h
      have hb : (f == g) = true := beq_iff_eq.mpr q.symm
      exact ⟨x, by simp only [List.lookup, hb], i1⟩
    · rw [if_neg q] at h
      obtain ⟨y, h1, h2⟩ := fld_is (fs := gs) i2 (by simpa using l) h
      have hb : (f == g) = false := beq_eq_false_iff_ne.mpr fun z => q z.symm
      exact ⟨y, by simp only [List.lookup, hb]; exact h1, h2⟩
noncomputable def gFld (c f : Str) : D → Option D
  | .ins c' fs ds => if c' = c then fldD f fs ds else none
  | _ => none
section
variable {X : Cx} {E : XK} {e : Expr} {fe : FE} {pos : Pos}
theorem q_fld {c f : Str} {C : Addr} {fs : List Str} (k : ClsD X.K X.mg c C fs) (hf : f ∈ fs) (he : QE X E e fe) (hb : attributeBase e f X.env (eval e X.env) = eval e X.env := by rfl) : QE X E (.Attribute e f pos) (dUn (gFld c f) fe) := PE.weak (pe_fld he hb) fun σ H Q ⟨B, F, sd, r, n⟩ => by
  refine ⟨B, F, sd, r, (Res.need_bind n).mono (fun d n1 v F1 H1 e1 i1 => ?_) fun _ _ q => q⟩
  obtain ⟨z, hz, q⟩ := Res.need_ofO n1
  cases d with
  | ins c' gs ds =>
    have hw : (if c' = c then fldD f gs ds else none) = some z := hz
    by_cases hc : c' = c
    · rw [if_pos hc] at hw
      subst hc
      obtain ⟨a, C', dx, xs, rfl, hC, hH, hl, hi⟩ := IsD.ins_iff.mp i1
      rw [k.ns] at hC
      cases hC
      obtain ⟨x, h1, h2⟩ := fld_is hi hl hw
      exact ⟨a, C, dx, _, x, rfl, e1.fh _ _ hH, k.cls, k.no f hf, h1, q _ F1 H1 e1 h2⟩
    · rw [if_neg hc] at hw
      cases hw
  | _ => cases hz
end
theorem putF_new (f : Str) (v : V) : ∀ fs : List (Str × V), f ∉ fs.map (·.1) → putF f v fs = fs ++ [(f, v)]
  | [], _ => rfl
  | (g, x) :: r, h => by
    rw [List.map_cons, List.mem_cons, not_or] at h
    show (if g = f then (g, v) :: r else (g, x) :: putF f v r) = _
    rw [if_neg (fun z => h.1 z.symm), putF_new f v r h.2]
    rfl
/-- the fields of self, put one behind another; the other slots stay -/
def tI (K : PySem.W.Frag) (c : Str) (names : List Str) (g : FA) : TS := fun T σ H => ∃ B F sd x C dx fs xs ds0, RS K B F H sd σ ∧ (∀ (i : Nat) (p : Bool) (d : D), sd[i]? ≠ some (some (SV.own p d))) ∧ σ[0]? = some (some (.ref x)) ∧ B.H0 x = none ∧ F x = none ∧ PySem.W.nsIn K mainGlobals c = some (some (.ref C)) ∧ H x = some (.ins C dx (fs.zip xs)) ∧ fs.length = xs.length ∧ (fs ++ names).Nodup ∧ (fs ++ names).length < 900 ∧ IsDs K F ds0 xs ∧
  (g sd).need (fun ds => ∀ F' H' xs', Ext B.F0 B.H0 F' H' → F' x = none → H' x = some (.ins C dx ((fs ++ names).zip xs')) → (fs ++ names).length = xs'.length → IsDs K F' (ds0 ++ ds) xs' → T.nx σ H') (XW K E0 B.F0 B.H0)
section
variable {X : Cx} {o e : Expr} {fe : FE} {g : FA} {pos pos' : Pos} {ss : List Stmt} {c f : Str} {C : Addr} {fs names : List Str}
theorem pi_nil : PSs X [] (tI X.K c [] dNil) := PSs.weak pss_nil fun T σ H ⟨B, F, sd, x, C, dx, fs, xs, ds0, r, no, h0, h1, h2, hC, hH, hl, hn, hm, hi, n⟩ => by
  have n : ∀ F' H' xs', Ext B.F0 B.H0 F' H' → F' x = none → H' x = some (.ins C dx ((fs ++ []).zip xs')) → (fs ++ []).length = xs'.length → IsDs X.K F' (ds0 ++ []) xs' → T.nx σ H' := n
  simp only [List.append_nil] at n
  exact n F H xs r.ext h2 hH hl hi
theorem pi_cons (k : ClsD X.K X.mg c C fs) (hf : f ∈ fs) (ho : PE X o (tVar 0)) (he : QE X E0 e fe) (hr : PSs X ss (tI X.K c names g)) (hs : swapsWith e (some (.Attribute o f pos')) pos.line X.env = pure false := by rfl) :
    PSs X (.Assign [.Attribute o f pos'] e pos :: ss) (tI X.K c (f :: names) (dCons fe g)) := PSs.weak (pss_cons (ps_fld ho he hs) hr) fun T σ H ⟨B, F, sd, x, C', dx, gs, xs, ds0, r, no, h0, h1, h2, hC, hH, hl, hn, hm, hi, n⟩ => by
  refine ⟨B, F, sd, r, (Res.need_bind n).mono (fun d n1 v F1 H1 e1 i1 => ?_) fun _ _ q => q.ext r.ext⟩
  have c1 : C' = C := by
    rw [k.ns] at hC
    cases hC
    rfl
  subst c1
  have hH1 := e1.hh _ _ hH
  have hF1 : F1 x = none := e1.new x h2 (by rw [hH]; simp)
  have lz : (gs.zip xs).map (·.1) = gs := by rw [List.map_fst_zip (by omega)]
  have hfn : f ∉ gs := fun z => by
    have := (List.nodup_append.mp hn).2.2 f z f (List.mem_cons_self ..)
    exact this rfl
  have ll : (gs.zip xs).length < 1000 := by
    rw [List.length_zip]
    simp at hm
    omega
  refine ⟨.ref x, h0, x, C', dx, _, rfl, hH1, k.cls, k.no f hf, ll, ?_⟩
  rw [putF_new f v _ (by rw [lz]; exact hfn)]
  have ez : gs.zip xs ++ [(f, v)] = (gs ++ [f]).zip (xs ++ [v]) := by rw [List.zip_append hl]; rfl
  rw [ez]
  have r1 := r.step e1
  have hi1 : IsDs X.K F1 (ds0 ++ [d]) (xs ++ [v]) := IsDs.snoc (IsDs.same e1.ff _ _ hi) i1
  refine ⟨B, F1, sd, x, C', dx, gs ++ [f], xs ++ [v], ds0 ++ [d], ⟨⟨r1.ext.ff, fun a o e => ?_, fun a o e => ?_, r1.ext.new⟩, r1.len, r1.val, fun q => absurd q (no _ _ _), fun _ q _ _ => absurd q (no _ _ _)⟩, no, h0, h1, hF1, hC, upd_same, by simp [hl], by simpa using hn, by simpa using hm, hi1, (Res.need_bind n1).mono (fun ds n2 F2 H2 xs2 e2 f2 q1 q2 q3 => ?_) fun _ _ q => q⟩
  · rw [upd_ne (ne_of_none e hF1)]
    exact r1.ext.fh _ _ e
  · rw [upd_ne (ne_of_none e h1)]
    exact r1.ext.hh _ _ e
  · exact n2 F2 H2 xs2 e2 f2 (by simpa using q1) (by simpa using q2) (by simpa using q3)
end
def SpI (K : PySem.W.Frag) (c : Str) (names : List Str) (Fn : List D → Res (List D)) : Sp := fun vs H Q _ => ∃ F ds x C dx us, Same F H ∧ vs = .ref x :: us ∧ IsDs K F ds us ∧ F x = none ∧ PySem.W.nsIn K mainGlobals c = some (some (.ref C)) ∧ H x = some (.ins C dx []) ∧
  (Fn ds).need (fun es => ∀ F' H' xs, Ext F (delH H x) F' H' → F' x = none → H' x = some (.ins C dx (names.zip xs)) → names.length = xs.length → IsDs K F' es xs → Q .non H') (XW K E0 F (delH H x))
def runI (n ar : Nat) (g : FA) (ds : List D) : Res (List D) := if ds.length + 1 = ar then g (none :: startD (n - 1) ds) else .no
theorem RS.startI {K : PySem.W.Frag} {F H : Hp} {N : List Str} {ds : List D} {us : List V} {x : Addr} (s : Same F H) (h : IsDs K F ds us) :
    RS K ⟨F, delH H x, fun _ => none⟩ F H (none :: startD N.length ds) (some (.ref x) :: L2.start N us) ∧ ∀ (i : Nat) (p : Bool) (d : D), (none :: startD N.length ds : SD)[i]? ≠ some (some (SV.own p d)) := by
  have r0 := RS.start (N := N) s h
  have no : ∀ (i : Nat) (p : Bool) (d : D), (none :: startD N.length ds : SD)[i]? ≠ some (some (SV.own p d)) := fun i p d q => by
    cases i with
    | zero => cases q
    | succ i =>
      obtain ⟨l, _, h2, _, h4, _⟩ := r0.own (i := i) (p := p) (d := d) q
      obtain ⟨o, ho⟩ := h4.has
      have h2 : H l = none := h2
      rw [h2] at ho
      cases ho
  refine ⟨⟨⟨.refl _, s, delH_same, fun _ e _ => e⟩, by simp [r0.len], fun {i d} q => ?_, fun q => absurd q (no _ _ _), fun _ q _ _ => absurd q (no _ _ _)⟩, no⟩
  cases i with
  | zero => cases q
  | succ i => exact r0.val (i := i) q
section
variable {P : Program} {w : World} {K : PySem.W.Frag} {mg : Str → Option Value} {base : Heap} {x qual : Str} {st : Stmt} {f : Addr} {fd : FuncData} {N ps : List Str} {k : Nat}
theorem fn_i {c y : Str} {names : List Str} {g : FA} (F : Fun K x qual st f fd) (S : FnScope (y :: N) ps (defScope st)) (hn : names.Nodup) (hm : names.length < 900)
    (hb : ∀ (cdv : Value) (A : Around) (outer : List Env) (s : Shared) (H : Hp) (E : XK), Room k (A.deeper (envOfC qual (defScope st) s.heap.objs.size f cdv)) → PSs (cxOf CX0 P w K mg base (y :: N) qual (defScope st) f cdv A outer s H E).nox (defBody st) (tI K c names g)) :
    FnOk P w K mg base CX0 (k + 1) f fd ps (SpI K c names (runI (y :: N).length ps.length g)) := by
  refine F.ok S (fun vs H Q E ⟨F, ds, x, C, dx, us, _, e, i, _, _, _, n⟩ => ?_) fun cdv A outer s H vs Q E hr ⟨F, ds, x, C, dx, us, hs, e, i, hf, hC, hH, n⟩ => ⟨_, hb cdv A outer s H E hr, ?_⟩
  · unfold runI at n
    split at n
    · rename_i h
      rw [e, ← h, List.length_cons, i.length]
    · exact n.elim
  · subst e
    unfold runI at n
    split at n
    · have es : L2.start (y :: N) (.ref x :: us) = some (.ref x) :: L2.start N us := by
        unfold L2.start
        simp
      rw [es]
      obtain ⟨r, no⟩ := RS.startI (N := N) (x := x) hs i
      exact ⟨_, F, _, x, C, dx, [], [], [], r, no, rfl, delH_at, hf, hC, hH, rfl, hn, hm, .nil, n⟩
    · exact n.elim
end
/-- a class that may be made -/
def MkD (P : Program) (w : World) (K : PySem.W.Frag) (mg : Str → Option Value) (base : Heap) (c : Str) (names : List Str) (k : Nat) (ps : List Str) (Fn : List D → Res (List D)) : Prop :=
  ∃ C f fd, ClsD K mg c C names ∧ Mk K C f ∧ FnOk P w K mg base CX0 k f fd ps (SpI K c names Fn) ∧ Binds K fd ps []
def dMake (c : Str) (names : List Str) (Fn : List D → Res (List D)) (fa : FA) : FE := fun sd => (fa sd).bind fun ds => (Fn ds).bind fun es => .ok (.ins c names es)
section
variable {X : Cx} {pos : Pos}
theorem q_make {c : Str} {names : List Str} {k : Nat} {ps : List Str} {Fn : List D → Res (List D)} {p : Pos} {e : Expr} {es : List Expr} {fa : FA} (M : MkD X.prog X.w X.K X.mg X.base c names k ps Fn) (hr : Room (k + 1) X.A) (hg : Gl X c) (ha : QA X E0 (e :: es) fa)
    (hdb : (c == ("__debug__" : Str)) = false := by decide) (he : starEach (e :: es) X.env = (false, eval e X.env) :: starEach es X.env := by rfl) (hpl : (backTo pos (starEach es X.env)).any (·.1) = false := by rfl) :
    QN X E0 (.Call (.Name c p) (e :: es) [] pos) (dMake c names Fn fa) := by
  obtain ⟨C, f, fd, kd, mk, F, b⟩ := M
  refine PE.weak (pe_make mk F hr hg kd.mgc b .nil pass0 ha hdb he hpl) fun σ H Q ⟨B, F, sd, r, n⟩ => ?_
  refine ⟨B, F, sd, r, (Res.need_bind n).mono (fun ds n1 vs F1 H1 e1 i1 x dx nx ndx ne => ?_) fun _ _ q => q⟩
  have n2 := Res.need_bind n1
  have hF1 : F1 x = none := by
    cases q : F1 x with
    | none => rfl
    | some o => rw [e1.fh _ _ q] at nx; cases nx
  have hH0 : H x = none := by
    cases q : H x with
    | none => rfl
    | some o => rw [e1.hh _ _ q] at nx; cases nx
  have s1 : ∀ {G : Hp}, Same G H1 → Same G (delH (upd (upd H1 dx (.own x)) x (.ins C dx [])) x) := fun {G} s a o q => by
    have q1 := s _ _ q
    rw [delH_ne (ne_of_none q1 nx), upd_ne (ne_of_none q1 nx), upd_ne (ne_of_none q1 ndx)]
    exact q1
  have s2 : Same F1 (upd (upd H1 dx (.own x)) x (.ins C dx [])) := fun a o q => by
    have q1 := e1.fh _ _ q
    rw [upd_ne (ne_of_none q1 nx), upd_ne (ne_of_none q1 ndx)]
    exact q1
  have ed : Ext F H F1 (delH (upd (upd H1 dx (.own x)) x (.ins C dx [])) x) := ⟨e1.ff, s1 e1.fh, s1 e1.hh, e1.new⟩
  rw [List.append_nil]
  refine ⟨F1, ds, x, C, dx, vs, s2, rfl, i1, hF1, kd.ns, upd_same, n2.mono (fun es n3 F2 H2 xs e2 f2 h2 l2 i2 => ⟨rfl, ?_⟩) fun _ _ q => q.ext ed⟩
  exact n3 x F2 H2 (ed.trans e2) hH0 f2 ⟨C, dx, xs, kd.ns, h2, l2, i2⟩
end
/-- a class of the text, where it stands -/
def ClsAt (K : PySem.W.Frag) (c qual : Str) (fs : List Str) (st : Stmt) : Prop := ∃ C fI fdI, PySem.W.nsIn K mainGlobals c = some (some (.ref C)) ∧ Cls K C ∧ (∀ f ∈ fs, NoAttr K C f) ∧ Mk K C fI ∧ Fun K "__init__" qual st fI fdI
end L2.DL

namespace L2.DL
open PySem PySem.Spec PyProof.Rows
def NoTup (F F' : Hp) : Prop := ∀ a xs, F' a = some (.tup xs) → F a = some (.tup xs)
section
variable {K : PySem.W.Frag} {B : Bs} {F H F' H' : Hp} {sd : SD} {σ : St}
theorem RS.frz1C {i : Nat} {p : Bool} {d : D} (r : RS K B F H sd σ) (hi : sd[i]? = some (some (.own p d))) : ∃ F', Same F F' ∧ NoTup F F' ∧ RS K B F' H (sd.set i (some (.val d))) σ := by
  obtain ⟨l, hl, h0, hf, ho, _⟩ := r.own hi
  obtain ⟨o, e⟩ := ho.has
  have hil : i < sd.length := (List.getElem?_eq_some_iff.mp hi).1
  have sF : Same F (upd F l o) := same_new hf o
  have nt : NoTup F (upd F l o) := fun a xs q => by
    by_cases z : a = l
    · subst z
      rw [upd_same] at q
      cases q
      cases d with
      | lst ds => obtain ⟨_, h, _⟩ := ho; rw [e] at h; cases h
      | dct ks ds => obtain ⟨_, h, _⟩ := ho; rw [e] at h; cases h
      | ins c fs ds => obtain ⟨_, _, _, _, h, _⟩ := ho; rw [e] at h; cases h
      | _ => exact ho.elim
    · rw [upd_ne z] at q
      exact q
  refine ⟨upd F l o, sF, nt, ⟨r.ext.ff.trans sF, fun b u q => ?_, r.ext.hh, fun a q1 q2 => ?_⟩, by rw [List.length_set, r.len], fun {j x} q => ?_, fun {j p x} q => ?_, fun {j k p1 p2 d1 d2 m} n q1 q2 q3 => ?_⟩
  · by_cases z : b = l
    · subst z; rw [upd_same] at q; cases q; exact e
    · rw [upd_ne z] at q; exact r.ext.fh _ _ q
  · have z : a ≠ l := fun z => q2 (by rw [z]; exact h0)
    rw [upd_ne z]
    exact r.ext.new a q1 q2
  · by_cases z : i = j
    · subst z
      obtain ⟨e1, _⟩ := get_set_eq q
      cases e1
      exact ⟨_, hl, ho.frz e hf⟩
    · rw [get_set_ne z] at q
      obtain ⟨v, v1, v2⟩ := r.val q
      exact ⟨v, v1, IsD.same sF _ _ v2⟩
  · by_cases z : i = j
    · subst z
      obtain ⟨e1, _⟩ := get_set_eq q
      cases e1
    · rw [get_set_ne z] at q
      obtain ⟨m, m1, m2, m3, m4, m5⟩ := r.own q
      have ne : m ≠ l := fun e => r.apart z hi q hl (by rw [← e]; exact m1)
      exact ⟨m, m1, m2, by rw [upd_ne ne]; exact m3, m4.ext sF fun u q' => q', m5⟩
  · have z1 : i ≠ j := fun z => by subst z; obtain ⟨e1, _⟩ := get_set_eq q1; cases e1
    have z2 : i ≠ k := fun z => by subst z; obtain ⟨e1, _⟩ := get_set_eq q2; cases e1
    rw [get_set_ne z1] at q1
    rw [get_set_ne z2] at q2
    exact r.apart n q1 q2 q3
theorem RS.frzC : ∀ (is : List Nat) {F : Hp} {sd : SD}, RS K B F H sd σ → ∃ F', Same F F' ∧ NoTup F F' ∧ RS K B F' H (frzD is sd) σ
  | [], F, sd, r => ⟨F, .refl _, fun _ _ q => q, r⟩
  | i :: is, F, sd, r => by
    unfold frzD
    split
    · rename_i p d h
      obtain ⟨F1, s1, t1, r1⟩ := r.frz1C h
      obtain ⟨F2, s2, t2, r2⟩ := RS.frzC is r1
      exact ⟨F2, s1.trans s2, fun a xs q => t1 a xs (t2 a xs q), r2⟩
    · exact RS.frzC is r
/-- a scalar, or a tuple of scalars -/
def flatD : D → Bool
  | .tup ds => ds.all scalD
  | d => scalD d
def tupsF (F H F2 : Hp) : Hp := fun a => match H a, F2 a with
  | none, some (.tup xs) => some (.tup xs)
  | _, _ => F a
theorem IsDs.scals : ∀ {ds : List D} {xs : List V}, ds.all scalD = true → IsDs K F ds xs → IsDs K F' ds xs
  | [], xs, _, h => by rw [IsDs.nil_iff] at h ⊢; exact h
  | d :: ds, xs, s, h => by
    obtain ⟨x, r, rfl, h1, h2⟩ := IsDs.cons_iff.mp h
    rw [List.all_cons, Bool.and_eq_true] at s
    exact IsDs.cons_iff.mpr ⟨x, r, rfl, h1.scal s.1, IsDs.scals s.2 h2⟩
theorem tupsF_ext {F1 F2 H2 : Hp} (s : Same F H) (s1 : Same F F1) (e : Ext F1 H F2 H2) : Ext F H (tupsF F H F2) H2 := by
  refine ⟨fun a o q => ?_, fun a o q => ?_, e.hh, fun a q1 q2 => ?_⟩
  · unfold tupsF
    rw [s _ _ q]
    exact q
  · unfold tupsF at q
    split at q
    · rename_i h1 h2
      cases q
      exact e.fh _ _ h2
    · exact e.hh _ _ (s _ _ q)
  · unfold tupsF
    cases h : H a with
    | none => exact absurd h q2
    | some o => exact q1
theorem tupsF_is {F1 F2 H2 : Hp} (s : Same F H) (s1 : Same F F1) (nt : NoTup F F1) (e : Ext F1 H F2 H2) {d : D} {v : V} (hd : flatD d = true) (i : IsD K F2 d v) : IsD K (tupsF F H F2) d v := by
  cases d with
  | tup ds =>
    obtain ⟨a, xs, rfl, h1, h2⟩ := IsD.tup_iff.mp i
    refine IsD.tup_iff.mpr ⟨a, xs, rfl, ?_, IsDs.scals hd h2⟩
    have h1 : F2 a = some (.tup xs) := h1
    show tupsF F H F2 a = some (.tup xs)
    unfold tupsF
    cases h : H a with
    | none => rw [h1]
    | some o =>
      show F a = some (.tup xs)
      cases q : F1 a with
      | none => rw [e.new a q (by rw [h]; simp)] at h1; cases h1
      | some u =>
        have := e.ff _ _ q
        rw [h1] at this
        cases this
        exact nt _ _ q
  | _ => exact i.scal hd
theorem tupsF_iss {F1 F2 H2 : Hp} (s : Same F H) (s1 : Same F F1) (nt : NoTup F F1) (e : Ext F1 H F2 H2) : ∀ {ds : List D} {xs : List V}, ds.all flatD = true → IsDs K F2 ds xs → IsDs K (tupsF F H F2) ds xs
  | [], xs, _, h => by rw [IsDs.nil_iff] at h ⊢; exact h
  | d :: ds, xs, hd, h => by
    obtain ⟨x, r, rfl, h1, h2⟩ := IsDs.cons_iff.mp h
    rw [List.all_cons, Bool.and_eq_true] at hd
    exact IsDs.cons_iff.mpr ⟨x, r, rfl, tupsF_is s s1 nt e hd.1 h1, tupsF_iss s s1 nt e hd.2 h2⟩
def flatL : D → Bool
  | .lst ds => ds.all flatD
  | _ => false
def dTmpN (is : List Nat) (f : FE) : FE := fun sd => (f (frzD is sd)).bare.bind fun d => if flatL d then .ok d else .no
theorem tmpN {fe : FE} {is : List Nat} {Q : VK} (h : tDN K E0 (dTmpN is fe) σ H Q) : tDN K E0 fe σ H Q := by
  obtain ⟨B, F, sd, r, n⟩ := h
  obtain ⟨F1, s1, nt, r1⟩ := r.frzC is
  refine ⟨B, F1, _, r1, (Res.need_bare r.ext.fh (Res.need_bind n)).mono (fun d n1 l F2 H2 e2 h1 h2 h3 => ?_) fun c fs q => q⟩
  split at n1
  · rename_i hs
    cases d with
    | lst ds =>
      obtain ⟨xs, g1, g2⟩ := h3
      refine n1 l (tupsF F H F2) H2 (tupsF_ext r.ext.fh s1 e2) h1 ?_ ⟨xs, g1, tupsF_iss r.ext.fh s1 nt e2 hs g2⟩
      unfold tupsF
      rw [h1, h2]
      cases q : F l with
      | none => rfl
      | some o => rw [r.ext.fh _ _ q] at h1; cases h1
    | _ => cases hs
  · exact n1.elim
end
section
variable {X : Cx}
end
section
variable {X : Cx} {m : Option Bool} {tg iter elt c : Expr} {scope : Scope} {pos spos py : Pos} {y : Str} {iy : Nat} {t : Tg} {fi : FA} {fc : FT} {f : FE}
theorem qs_ownCompT (is : List Nat) (N : List Str) (cap : List (Option Nat)) (hNN : X.N.Nodup) (hiy : X.N[iy]? = some y) (hyy : Loc X.env.scope y) (hc : X.calm = true) (okB : compOkB scope X.env N X.N cap = true) (hi : QI X E0 tg iter fi)
    (hg : ∀ cl C s H ex, QG (cxComp X scope N cl C s H ex) tg t) (he : ∀ cl C s H ex, QE (cxComp X scope N cl C s H ex) E0 elt f) (hsw : swapsWith (.ListComp elt [⟨tg, iter, [], 0⟩] scope pos) (some (.Name y py)) spos.line X.env = pure true := by rfl)
    (hyf : X.fn y = true ∨ X.env.scope.names.lookup y = some .local := by first | exact .inl rfl | exact .inr rfl) (hs : ∀ x, foldedSetIterable iter X.env x = pure x := by intro _; rfl) :
    QS X E0 m (.Assign [.Name y py] (.ListComp elt [⟨tg, iter, [], 0⟩] scope pos) spos) (sOwn iy (dTmpN is (dComp cap fi t f))) := by
  have hh := ps_setComp (g := gT t X.K) (te := tD X.K E0 f) hsw hNN hiy hyy hyf N cap hc okB hi hg he hs
  exact PS.weak hh fun T σ H h => tDS_own (fun _ _ _ q => tDN_comp (tmpN q)) h
theorem qs_ownCompIfT (is : List Nat) (N : List Str) (cap : List (Option Nat)) (hNN : X.N.Nodup) (hiy : X.N[iy]? = some y) (hyy : Loc X.env.scope y) (hc : X.calm = true) (okB : compOkB scope X.env N X.N cap = true) (hi : QI X E0 tg iter fi)
    (hg : ∀ cl C s H ex, QG (cxComp X scope N cl C s H ex) tg t) (ht : ∀ cl C s H ex, QT (cxComp X scope N cl C s H ex) E0 c fc) (he : ∀ cl C s H ex, QE (cxComp X scope N cl C s H ex) E0 elt f) (hsw : swapsWith (.ListComp elt [⟨tg, iter, [c], 0⟩] scope pos) (some (.Name y py)) spos.line X.env = pure true := by rfl)
    (hyf : X.fn y = true ∨ X.env.scope.names.lookup y = some .local := by first | exact .inl rfl | exact .inr rfl) (hs : ∀ x, foldedSetIterable iter X.env x = pure x := by intro _; rfl) :
    QS X E0 m (.Assign [.Name y py] (.ListComp elt [⟨tg, iter, [c], 0⟩] scope pos) spos) (sOwn iy (dTmpN is (dCompIf cap fi t fc f))) := by
  have hh := ps_setCompIf (g := gT t X.K) (tt := tDT X.K E0 fc) (te := tD X.K E0 f) hsw hNN hiy hyy hyf N cap hc okB hi hg ht he hs
  exact PS.weak hh fun T σ H h => tDS_own (fun _ _ _ q => tDN_compIf (tmpN q)) h
end
abbrev FJ := Str → SD → Res D
def jNil : FJ := fun acc _ => if acc.length ≤ sizeLine then .ok (.str acc) else .no
def jCon (x : Str) (r : FJ) : FJ := fun acc sd => if (acc ++ x).length ≤ sizeLine then r (acc ++ x) sd else .no
def jFv (g : D → Option Str) (fe : FE) (r : FJ) : FJ := fun acc sd => (fe sd).bind fun d => match g d with
  | some z => if z.length ≤ sizeLine ∧ (acc ++ z).length ≤ sizeLine then r (acc ++ z) sd else .no
  | none => .no
/-- {e!r} of a text -/
def gRepr : D → Option Str
  | .str x => some (reprText x)
  | _ => none
def QJ (X : Cx) (E : XK) (es : List Expr) (f : FJ) : Prop := ∀ (pins : List (Addr × Obj)) (s : Shared) (σ : St) (H : Hp) (acc : Str) (Q : VK), Inv X pins σ H s → tD X.K E (f acc) σ H Q →
  Joins (model X.prog X.w) X.A X.xe (evalEach es X.env) acc (fun out s1 => out.length ≤ sizeLine ∧ EP X pins σ Q (.str out s1.toks) { s1 with toks := s1.toks + 1 }) s
section
variable {X : Cx} {E : XK} {es : List Expr} {e : Expr} {fe : FE} {r : FJ} {x : Str} {p p1 p2 pos : Pos} {k}
theorem qj_nil : QJ X E [] jNil := fun pins s σ H acc Q I ⟨B, F, sd, r, n⟩ => by
  unfold jNil at n
  split at n
  · rename_i h
    exact ⟨h, .str acc, H, I.tok _, ⟨_, rfl⟩, n _ F H (.refl r.ext.fh) (IsD.str_iff.mpr rfl)⟩
  · exact n.elim
theorem qj_con (hr : QJ X E es r) : QJ X E (.Constant (.str x) k p1 :: es) (jCon x r) := fun pins s σ H acc Q I ⟨B, F, sd, rs, n⟩ => by
  unfold jCon at n
  split at n
  · rename_i h
    show wpAny _ _ (eval (.Constant (.str x) k p1) X.env) _ _ s
    refine thn (pe_str pins s σ H (fun y H1 => y = .str x ∧ H1 = H) I ⟨rfl, rfl⟩) fun u s1 ⟨y, H1, I1, r1, e1, e2⟩ => ?_
    subst e1 e2
    obtain ⟨t1, rfl⟩ := r1
    exact ⟨x, t1, rfl, h, hr pins s1 σ H1 _ Q I1 ⟨B, F, sd, rs, n⟩⟩
  · exact n.elim
theorem qj_repr (he : QE X E e fe) (hr : QJ X E es r) : QJ X E (.FormattedValue e 114 none p2 :: es) (jFv gRepr fe r) := fun pins s σ H acc Q I ⟨B, F, sd, rs, n⟩ => by
  show wpAny _ _ (eval (.FormattedValue e 114 none p2) X.env) _ _ s
  refine wpAny_FormattedValue_repr (thn (he pins s σ H (fun y H1 => ∃ z : Str, y = .str z ∧ (reprText z).length ≤ sizeLine ∧ (acc ++ reprText z).length ≤ sizeLine ∧ tD X.K E (r (acc ++ reprText z)) σ H1 Q) I ⟨B, F, sd, rs, (Res.need_bind n).mono (fun d n1 y F1 H1 e1 i1 => ?_) fun _ _ q => q⟩) fun u s1 ⟨y, H1, I1, r1, z, e1, l1, l2, q⟩ => ?_)
  · cases d with
    | str z =>
      have n1 : (if (reprText z).length ≤ sizeLine ∧ (acc ++ reprText z).length ≤ sizeLine then r (acc ++ reprText z) sd else .no).need (OkD X.K F H Q) (XW X.K E F H) := n1
      split at n1
      · rename_i h
        exact ⟨z, IsD.str_iff.mp i1, h.1, h.2, B, F1, sd, rs.step e1, n1.mono (fun d q => q.ext e1) fun _ _ q => q.ext e1⟩
      · exact n1.elim
    | _ => exact n1.elim
  · subst e1
    obtain ⟨t1, rfl⟩ := r1
    refine wpAny_pyReprObj_str (wpAny_formatField_str ⟨_, _, rfl, l2, ?_⟩ ⟨_, _, rfl, l2, ?_⟩ l1) l1
    · exact hr pins _ σ H1 _ Q (I1.tok _) q
    · exact hr pins _ σ H1 _ Q ((I1.tok _).tok _) q
theorem q_join {a b : Expr} {f : FJ} (h : QJ X E (a :: b :: es) f) : QE X E (.JoinedStr (a :: b :: es) pos) (f Str.empty) := fun pins s σ H Q I q => wpAny_JoinedStr (h pins s σ H Str.empty Q I q)
end
end L2.DL

namespace L2
open PySem
section
variable {p : List Value → Prop}
theorem us1 (h : ∀ a, p [a]) : ∀ us : List Value, us.length = 1 → p us
  | [a], _ => h a
theorem us2 (h : ∀ a b, p [a, b]) : ∀ us : List Value, us.length = 2 → p us
  | [a, b], _ => h a b
theorem us3 (h : ∀ a b c, p [a, b, c]) : ∀ us : List Value, us.length = 3 → p us
  | [a, b, c], _ => h a b c
theorem us4 (h : ∀ a b c d, p [a, b, c, d]) : ∀ us : List Value, us.length = 4 → p us
  | [a, b, c, d], _ => h a b c d
theorem us5 (h : ∀ a b c d e, p [a, b, c, d, e]) : ∀ us : List Value, us.length = 5 → p us
  | [a, b, c, d, e], _ => h a b c d e
end
end L2

namespace L2.DL
open PySem PySem.Spec PyProof.Rows
section
variable {X : Cx} {E : XK} {o e : Expr} {fo fa : FE} {apos cpos : Pos}
def dGet1 (fo fk : FE) : FE := fun sd => (fo sd).bind fun d => match d with
  | .dct ks ds => (fk sd).bind fun k => .ofO ((keyOf k).map fun q => (valD ks ds q).getD .non)
  | _ => .no
@[simp] theorem ev_get1 (fo fk : FE) (sd : SD) : dGet1 fo fk sd = (fo sd).bind fun d => (dctOf d).bind fun o => (fk sd).bind fun k => .ofO ((keyOf k).map fun q => (valD o.1 o.2 q).getD .non) := by
  unfold dGet1
  cases fo sd with
  | ok d => cases d <;> rfl
  | ex c fs => rfl
  | no => rfl
theorem q_get1 (hu : X.A.units + 1 < cLine) (ho : QE X E o fo) (he : QE X E e fa) (mm : M1 X o "get" apos e cpos) : QE X E (.Call (.Attribute o "get" apos) [e] [] cpos) (dGet1 fo fa) := PE.weak (pe_dget1 hu ho he mm) fun σ H Q ⟨B, F, sd, r, n⟩ => by
  refine ⟨B, F, sd, r, (Res.need_bind n).mono (fun d n1 v F1 H1 e1 i1 => ?_) fun _ _ q => q⟩
  cases d with
  | dct ks ds =>
    rw [IsD.dct_iff] at i1
    obtain ⟨p, xs, rfl, h1, h2, h3⟩ := i1
    have hp := e1.fh _ _ h1
    refine ⟨p, rfl, .inl ⟨_, .inl hp⟩, B, F1, sd, r.step e1, (Res.need_bind n1).mono (fun k n2 w F2 H2 e2 i2 => ?_) fun _ _ q => q.ext e1⟩
    obtain ⟨z, hz, q⟩ := Res.need_ofO n2
    obtain ⟨k', hk, hz⟩ := Option.map_eq_some_iff.mp hz
    subst hz
    obtain ⟨g1, g2⟩ := val_zip k' h2 h3
    refine ⟨valV (ks.zip xs) k', ?_, ?_⟩
    · rw [keyOf_is hk i2]
      exact DGet.k (e2.hh _ _ hp)
    · cases hv : valD ks ds k' with
      | none =>
        rw [hv] at q
        rw [g2 hv]
        exact q _ F2 H2 (e1.trans e2) (IsD.non_iff.mpr rfl)
      | some d =>
        rw [hv] at q
        obtain ⟨y, hy, iy⟩ := g1 d hv
        rw [hy]
        exact q _ F2 H2 (e1.trans e2) (IsD.same e2.ff _ _ iy)
  | _ => exact n1.elim
end
end L2.DL
namespace L2.ST
open PySem PySem.Spec PyProof.Rows
def inK (k : Key) (D : List Key) : Bool := D.any fun x => decide (x = k)
theorem inK_iff {k : Key} {D : List Key} : inK k D = true ↔ k ∈ D := by
  unfold inK
  rw [List.any_eq_true]
  exact ⟨fun ⟨x, hx, e⟩ => by rw [← of_decide_eq_true e]; exact hx, fun h => ⟨k, h, decide_eq_true rfl⟩⟩
def stepK (D : List Key) (k : Key) : List Key := if inK k D = true then D else D ++ [k]
/-- the keys, each once -/
def dedL (ks : List Key) : List Key := ks.foldl stepK []
theorem dedL_snoc (ks : List Key) (k : Key) : dedL (ks ++ [k]) = stepK (dedL ks) k := by
  unfold dedL
  rw [List.foldl_append]
  rfl
theorem stepK_len (D : List Key) (k : Key) : (stepK D k).length = if inK k D then D.length else D.length + 1 := by
  unfold stepK
  cases h : inK k D
  · rw [if_neg (by simp), if_neg (by simp), List.length_append]; rfl
  · rw [if_pos rfl, if_pos rfl]
theorem stepK_mem (D : List Key) (k k' : Key) : inK k' (stepK D k) = (inK k' D || decide (k' = k)) := by
  unfold stepK
  by_cases h : inK k D = true
  · rw [if_pos h]
    by_cases e : k' = k
    · rw [e, h]; rfl
    · rw [decide_eq_false e, Bool.or_false]
  · rw [if_neg h, Bool.eq_iff_iff, Bool.or_eq_true, inK_iff, inK_iff, decide_eq_true_eq, List.mem_append, List.mem_singleton]
theorem foldK_len : ∀ (ks D : List Key), (ks.foldl stepK D).length ≤ D.length + ks.length
  | [], D => Nat.le_refl _
  | k :: ks, D => by
    have h := foldK_len ks (stepK D k)
    rw [stepK_len] at h
    rw [List.foldl_cons, List.length_cons]
    split at h <;> omega
theorem dedL_len (ks : List Key) : (dedL ks).length ≤ ks.length := by
  have := foldK_len ks []
  rw [List.length_nil, Nat.zero_add] at this
  exact this
theorem foldK_nodup : ∀ (ks D : List Key), (D ++ ks).Nodup → ks.foldl stepK D = D ++ ks
  | [], D, _ => (List.append_nil _).symm
  | k :: ks, D, h => by
    have hn : k ∉ D := fun z => by
      rw [List.nodup_append] at h
      exact h.2.2 k z k List.mem_cons_self rfl
    have e : stepK D k = D ++ [k] := if_neg fun z => hn (inK_iff.mp z)
    rw [List.foldl_cons, e, foldK_nodup ks (D ++ [k]) (by rw [List.append_assoc]; exact h), List.append_assoc]
    rfl
theorem dedL_nodup {ks : List Key} (h : ks.Nodup) : dedL ks = ks := foldK_nodup ks [] h
theorem key_scan {k : Key} {v : Value} (h : keyIs k v = true) : v.scannable = true := by
  rcases keyIs_shape h with ⟨i, t, rfl, rfl⟩ | ⟨x, t, rfl, rfl⟩ <;> rfl
abbrev HasK (prog : Program) (w : World) (h : Heap) (S : Addr) (D : List Key) : Prop := h.SetOf (mixKind prog w) S (fun k => inK k D) D.length
theorem HasK.congr {prog : Program} {w : World} {h : Heap} {S : Addr} {T : Key → Bool} {n : Nat} {D : List Key} (H : h.SetOf (mixKind prog w) S T n) (e : ∀ k, T k = inK k D) (en : n = D.length) : HasK prog w h S D := by
  have : T = fun k => inK k D := funext e
  subst this
  subst en
  exact H
section
variable {prog : Program} {w : World} {A : Around} {R : Result → Shared → Prop} {I : Addr} {fp wr : List Addr} {G : Array GenState → Array GenState → Prop} {n : Nat} {P : Nat → Value → Prop} {St : Nat → Shared → Prop}
theorem HasK.keep {hp hp' : Heap} {S : Addr} {D : List Key} (H : HasK prog w hp S D) (k : ∀ o, hp.get? S = some o → hp'.get? S = some o) : HasK prog w hp' S D := by
  obtain ⟨o, es, ep, t, ho, r⟩ := H
  exact ⟨o, es, ep, t, k _ ho, r⟩
theorem setK_loop {ks : List Key} (W : WalksS prog w A.in1 I fp wr G ks.length P St) (S : Addr) (hSf : S ∉ fp)
    (hval : ∀ i v k, P i v → ks[i]? = some k → keyIs k v = true) (hn : ks.length ≤ 999) :
    ∀ (k i : Nat) (s : Shared), ks.length - i = k → i ≤ ks.length → St i s → HasK prog w s.heap S (dedL (ks.take i)) →
      (∀ s', Moved (S :: wr) G s s' → HasK prog w s'.heap S (dedL ks) → R (.ok (.ret .none)) s') →
      codeAny (model prog w) A (.builtin "set.update.loop" ⟨[.ref S, .ref I], []⟩) R s := by
  have hSw : S ∉ wr := fun h => hSf (W.sub _ h)
  have hsub : ∀ b ∈ wr, b ∈ S :: wr := fun b hb => List.mem_cons_of_mem _ hb
  intro k
  induction k with
  | zero =>
    intro i s hk hi hst H hR
    have hin : i = ks.length := by omega
    subst hin
    rw [List.take_length] at H
    refine codeAny_builtin F.entry_set_update_loop ?_
    rw [Around.under_plainId F.plain_set_update_loop _]
    show wpAny _ A.in1 (pyNext (.ref I) >>= _) _ _ s
    refine wpAny_bind (W.done s _ _ hst fun s' hm => ?_)
    show wpAny _ A.in1 (ret Value.none) _ _ s'
    exact wpAny_pure (hR s' (hm.mono hsub) (H.keep fun o e => hm.heap S _ hSw e))
  | succ k ih =>
    intro i s hk hi hst H hR
    have hlt : i < ks.length := by omega
    have hki : ks[i]? = some ks[i] := List.getElem?_eq_getElem hlt
    refine codeAny_builtin F.entry_set_update_loop ?_
    rw [Around.under_plainId F.plain_set_update_loop _]
    show wpAny _ A.in1 (pyNext (.ref I) >>= _) _ _ s
    refine wpAny_bind (W.item i s _ _ hlt hst fun v s' hP hst' hm => ?_)
    have hv := hval i v _ hP hki
    have H' := H.keep (hp' := s'.heap) fun o e => hm.heap S _ hSw e
    show wpAny _ A.in1 (holding [v] (setAdd S v) >>= _) _ _ s'
    refine wpAny_bind (wpAny_holding ?_)
    unfold setAdd
    refine wpAny_holding ?_
    refine wpAny_bind ((mixKind prog w).pyHash (k := ks[i]) hv ?_)
    have hl := dedL_len (ks.take i)
    have ht : (ks.take i).length = i := by rw [List.length_take]; omega
    refine wpAny_setAddHashed_of (knd := mixKind prog w) (s := { s' with toks := s'.toks + 1 }) hv (key_scan hv) H' (by unfold scanBound; omega) fun h' hsb H2 => ?_
    have e1 : dedL (ks.take (i + 1)) = stepK (dedL (ks.take i)) ks[i] := by
      rw [List.take_succ, hki]
      exact dedL_snoc _ _
    have H3 : HasK prog w h' S (dedL (ks.take (i + 1))) := by
      rw [e1]
      exact HasK.congr H2 (fun k' => (stepK_mem _ _ _).symm) (stepK_len _ _).symm
    refine wpAny_pure ⟨plainId_quiet F.plain_set_update_loop _, ih (i + 1) _ (by omega) hlt (W.frame _ s' _ _ hst' (Nat.le_succ _) fun b hb o e => ?_) H3 fun s'' hm'' H'' => ?_⟩
    · rw [hsb.2 b (fun h : b = S => hSf (by rw [← h]; exact hb))]; exact e
    · refine hR s'' (Moved.trans W.gtrans ((hm.mono hsub).then_heap (Nat.le_succ _) fun b o hb e => ?_) hm'') H''
      rw [hsb.2 b (fun h : b = S => hb (by rw [h]; exact List.mem_cons_self))]; exact e
end
section
variable {prog : Program} {w : World} {A : Around} {E : Value → Shared → Prop} {s : Shared}
theorem fresh_keys {hp : Heap} {S : Addr} {led : Bool} (ho : hp.get? S = some { cls := .type "set", dict := none, data := .set #[] 0 (.fresh 0 0 led) }) : HasK prog w hp S [] :=
  ⟨_, #[], 0, _, ho, ⟨rfl, rfl, rfl⟩, rfl, fun e he => by simp at he, fun k => by simp [inK], (by unfold scanBound; decide), rfl, rfl⟩
set_option maxRecDepth 100000 in
set_option maxHeartbeats 3200000 in
theorem call_set_keys {l : Addr} {items : Array Value} {ks : List Key} {Q : Value → Shared → Prop} (hh : A.handled = none) (hl : s.heap.IsList l items) (hsz : items.size = ks.length)
    (hval : ∀ (i : Nat) (v : Value) (k : Key), items[i]? = some v → ks[i]? = some k → keyIs k v = true) (hn : ks.length ≤ 999)
    (h : ∀ (h' : Heap) (tk : Nat), HasK prog w h' s.heap.objs.size (dedL ks) → (∀ b o, b < s.heap.objs.size → s.heap.get? b = some o → h'.get? b = some o) → Q (.ref s.heap.objs.size) { s with heap := h', toks := tk }) :
    wpAny (model prog w) A (call (.type "set") [.ref l]) Q E s := by
  have cn := fun A : Around => code_set_led (prog := prog) (w := w) (A := A) (E := E) (s := s) (.ref l) (Q₁ := fun obj s₁ => obj = .ref s.heap.objs.size ∧ s₁ = { s with heap := s.heap.push { cls := .type "set", dict := none, data := .set #[] 0 (.fresh 0 0 (ledW w)) } }) ⟨rfl, rfl⟩
  generalize ledW w = led at cn
  obtain ⟨c, tl, hmro⟩ := F.called_set.mro
  have hmade := F.called_set.made
  have hsub := F.called_set.sub
  refine wpAny_call (codeAny_of_tree ?_)
  show wpAny _ _ (callAny (.type "set") _) _ _ _
  refine wpAny_pure ⟨Code.quiet_builtin _ (by decide +kernel), codeAny_builtin F.entry_type_call ?_⟩
  rw [Around.under_plain (weight_type_call_type "set" [.ref l] []) rfl]
  have h1 := F.called_set.notType
  have h2 := F.called_set.canCreate
  have hct := F.typeCall_set_1 (.ref l)
  repeat (any_goals (first | assumption | wp_step))
  refine codeAny_mono (cn _) fun r s₁ hr => ?_
  cases r with
  | error e => exact hr
  | ok fl =>
    cases fl with
    | ret obj =>
      obtain ⟨rfl, rfl⟩ := hr
      generalize hno : ({ cls := .type "set", dict := none, data := .set #[] 0 (.fresh 0 0 led) } : Obj) = no at *
      have hS : (s.heap.push no).get? s.heap.objs.size = some no := Heap.get?_push_size _ (by rw [← hno]; rfl)
      have hT : Shared.TypeIs { s with heap := s.heap.push no } (.ref s.heap.objs.size) "set" := ⟨_, hS, by rw [← hno]⟩
      have hli := F.called_set.init.lookup
      have hbi := F.called_set.init.bind (.ref s.heap.objs.size)
      repeat (any_goals (first | assumption | wp_step))
      refine codeAny_mono (codeAny_call_builtin (R := wants (fun r s₂ => r = .none ∧ ∃ h' tk, s₂ = { s with heap := h', toks := tk } ∧ HasK prog w h' s.heap.objs.size (dedL ks) ∧
          (∀ b o, b < s.heap.objs.size → s.heap.get? b = some o → h'.get? b = some o)) E) F.called_set.init.plain F.entry_set_init (check_set_init_1 hT ?_)) fun r₂ s₂ hr₂ => ?_
      · obtain ⟨ol, hol, hcl, nl, hdl⟩ := hl
        obtain ⟨ocls, odict, odata, oslots⟩ := ol
        simp only at hcl hdl
        subst hcl; subst hdl
        have hol' : (s.heap.push no).get? l = some { cls := .type "list", dict := odict, data := .seq items nl, slots := oslots } := Heap.get?_push_of_some _ hol
        have hsls := F.sub_list_set
        have hslf := F.sub_list_frozenset
        have hne : (Value.type "list" == Value.type "dict") = false := by decide
        have hl1 : (s.heap.push no).IsList l items := ⟨_, hol', rfl, nl, rfl⟩
        subst hno
        unfold Builtin.«set.__init__» noKeywords Builtin.Frozenset.updateFrom
        generalize hPI : pyIter = PI
        wp_walk
        subst hPI
        refine wpAny_pyIter_list hl1 ?_
        refine wpAny_bind (wpAny_runValue ?_)
        have hlS : l < s.heap.objs.size := Heap.lt_size hol
        have hh3 : A.in1.in1.in1.handled = none := by simp [hh]
        generalize hno : ({ cls := .type "set", dict := none, data := .set #[] 0 (.fresh 0 0 led) } : Obj) = no at *
        have szp : (s.heap.push no).objs.size = s.heap.objs.size + 1 := Heap.size_push ..
        have hneI : l ≠ (s.heap.push no).objs.size := by rw [szp]; exact Nat.ne_of_lt (Nat.lt_succ_of_lt hlS)
        have hSf : s.heap.objs.size ∉ [(s.heap.push no).objs.size, l] := by
          simp only [List.mem_cons, List.not_mem_nil, or_false, not_or]
          exact ⟨by rw [szp]; exact Nat.ne_of_lt (Nat.lt_succ_self _), Nat.ne_of_gt hlS⟩
        have W := (Walks.list (prog := prog) (w := w) hh3 _ l hneI items).toS
        rw [hsz] at W
        refine setK_loop W s.heap.objs.size hSf (fun i v k hv hk => hval i v k hv hk) hn (ks.length - 0) 0 _ rfl (Nat.zero_le _)
          ⟨⟨_, Heap.get?_push_size _ rfl, rfl, rfl⟩, (hl1.push _)⟩ (fresh_keys (by rw [hno]; exact Heap.get?_push_of_some _ hS)) fun s' hm H' => ?_
        · obtain ⟨h', g', d', tk', os'⟩ := s'
          have eg : g' = s.gens := hm.gens
          have ed : d' = s.drawn := hm.drawn
          have eo : os' = s.os := hm.os
          subst eg; subst ed; subst eo
          show wpAny _ _ _ _ _ _
          refine wpAny_pure ?_
          show wpAny _ _ (ret Value.none) _ _ _
          refine wpAny_pure ⟨rfl, h', tk', rfl, H', fun b o hb e => ?_⟩
          exact hm.heap b o (by simp only [List.mem_cons, List.not_mem_nil, or_false, not_or]; exact ⟨Nat.ne_of_lt hb, by rw [szp]; exact Nat.ne_of_lt (Nat.lt_succ_of_lt hb)⟩) (Heap.get?_push_of_some _ (Heap.get?_push_of_some _ e))
      · cases r₂ with
        | error e => exact hr₂
        | ok fl₂ =>
          cases fl₂ with
          | ret r =>
            obtain ⟨rfl, h', tk, rfl, hS', hk'⟩ := hr₂
            repeat (any_goals (first | assumption | wp_step))
            exact h _ _ hS' hk'
          | _ => exact hr₂.elim
    | _ => exact hr.elim
end
/-- the set at S holds n keys -/
def SetKO (X : Cx) (S : Addr) (n : Nat) : HO := .ext fun h => ∃ T, h.SetOf (mixKind X.prog X.w) S T n
def rSetK (X : Cx) : List V → Hp → VK → Prop := fun xs H Q => ∃ a ks, xs = [.ref a] ∧ Rd H a (.lst (ks.map kV)) ∧ ks.length ≤ 999 ∧ ∀ S, H S = none → Q (.ref S) (upd H S (SetKO X S (dedL ks).length))
def rLenK (X : Cx) : List V → Hp → VK → Prop := fun xs H Q => ∃ S n, xs = [.ref S] ∧ H S = some (SetKO X S n) ∧ n ≤ 999 ∧ Q (.int n) H
section
variable {X : Cx}
theorem call_setK (hc : X.calm = true) : CallR X (.type "set") (rSetK X) := by
  intro pins s σ H xs us Q I rv h
  obtain ⟨a, ks, rfl, ha, hn, q⟩ := h
  obtain ⟨u, rfl, ru⟩ := vals1 rv
  obtain rfl : u = Value.ref a := ru
  obtain ⟨its, ri, pl, hz⟩ := I.list (.inl ha)
  have l2 := ri.length
  rw [List.length_map] at l2
  refine call_set_keys (I.ok.hd hc) pl.isList (ks := ks) (by rw [List.size_toArray]; omega) (fun i v k hv hk => ?_) hn fun h' tk H' kk => ?_
  · obtain ⟨v', hv', rr⟩ := ri.get (i := i) (x := kV k) (by rw [List.getElem?_map, hk]; rfl)
    rw [List.getElem?_toArray, hv'] at hv
    cases hv
    exact kV_is (P := X.prog) (w := X.w) rr
  · refine ⟨.ref s.heap.objs.size, upd H s.heap.objs.size (SetKO X s.heap.objs.size (dedL ks).length), I.laid (t' := tk) (fun b o e => kk b o (Heap.lt_size e) e) (Nat.le_refl _) ?_, rfl, q _ (I.hok.fresh (Nat.le_refl _))⟩
    obtain ⟨o, es, ep, t, ho, r⟩ := id H'
    refine ⟨⟨_, H'⟩, ⟨_, ho⟩, fun h1 h2 z kp => ?_⟩
    obtain ⟨T, o, es, ep, t, ho, r⟩ := z
    exact ⟨T, o, es, ep, t, kp _ ho, r⟩
theorem call_lenK : CallR X (.builtin "len") (rLenK X) := by
  intro pins s σ H xs us Q I rv h
  obtain ⟨S, n, rfl, hS, hn, q⟩ := h
  obtain ⟨u, rfl, ru⟩ := vals1 rv
  obtain rfl : u = Value.ref S := ru
  obtain ⟨⟨T, o, es, ep, t, ho, hex, hd, _, _, hb, hf, he⟩, _, _⟩ := (show ObjOk X.prog X.w H s.heap S (SetKO X S n) from I.hok S _ hS)
  exact call_len_set ho hex hd hf (by omega) ⟨.int n, H, I.tok _, ⟨_, by rw [he]⟩, q⟩
end
end L2.ST
namespace L2.DL
open PySem PySem.Spec PyProof.Rows L2.ST
def gLenK : List D → Option D
  | [.lst ds] => (allOf keyOf ds).bind fun ks => if ks.length ≤ 999 then some (.int (dedL ks).length) else none
  | _ => none
theorem allKey_is {K : PySem.W.Frag} {F : Hp} : ∀ {ds : List D} {ks : List Key} {vs : List V}, allOf keyOf ds = some ks → IsDs K F ds vs → vs = ks.map kV
  | [], ks, vs, h, i => by
    rw [IsDs.nil_iff] at i
    cases h
    exact i
  | d :: ds, ks, vs, h, i => by
    rw [IsDs.cons_iff] at i
    obtain ⟨x, r, rfl, h2, h3⟩ := i
    obtain ⟨k, hk, h⟩ := Option.bind_eq_some_iff.mp (show (keyOf d).bind (fun x => (allOf keyOf ds).map fun xs => x :: xs) = some ks from h)
    obtain ⟨l, hl, rfl⟩ := Option.map_eq_some_iff.mp h
    rw [keyOf_is hk h2, allKey_is hl h3]
    rfl
section
variable {X : Cx} {E : XK} {fr : FA} {es : List Expr} {e : Expr}
theorem q_lenK (h : ∀ {ta : TA}, PA X es ta → PE X e (tCB (rLenK X) (tCons (tCB (rSetK X) ta) tNil))) (ha : QA X E es fr) : QE X E e (dBlt gLenK fr) := PE.weak (h ha) fun σ H Q ⟨B, F, sd, r, n⟩ => by
  refine ⟨B, F, sd, r, (Res.need_bind n).mono (fun ds n1 vs F1 H1 e1 i1 => ?_) fun _ _ q => q⟩
  obtain ⟨z, hz, q⟩ := Res.need_ofO n1
  unfold gLenK at hz
  split at hz
  · obtain ⟨ks, h1, hz⟩ := Option.bind_eq_some_iff.mp hz
    split at hz
    · rename_i hc
      cases hz
      obtain ⟨v, rfl, h⟩ := isDs1 i1
      rw [IsD.lst_iff] at h
      obtain ⟨a, ys, rfl, g1, g2⟩ := h
      obtain rfl := allKey_is h1 g2
      have hl := dedL_len ks
      refine ⟨a, ks, rfl, g1.same e1.fh, hc, fun S hS => ⟨S, _, rfl, upd_same, by omega, ?_⟩⟩
      exact q _ F1 _ (e1.trans (.keep e1.fh hS _)) (IsD.int_iff.mpr rfl)
    · cases hz
  · cases hz
end
end L2.DL
namespace L2
open PySem PySem.Spec PyProof.Rows
section
variable {X : Cx} {pins : List (Addr × Obj)} {σ : St} {H : Hp} {s : Shared}
/-- a dict is put to what stays, just as it is -/
theorem Inv.freeze {d : Addr} {o : Obj} {kvs : List (Key × V)} (I : Inv X pins σ H s) (h : H d = some (.dK kvs)) (ho : s.heap.get? d = some o) : Inv X pins σ (upd H d (.frz o (.dK kvs))) s := by
  refine I.step (h' := s.heap) (g' := s.gens) (d' := s.drawn) (t' := s.toks) (ch := []) (fun b hb => nomatch hb) (fun b o _ _ _ e _ => e) (fun b o _ _ _ e _ => ⟨o.slots, e⟩) (fun b o _ _ n => ?_) (fun b o _ e => ⟨o, e⟩) (fun b xs e => ?_) (fun b o u e => ?_) (fun b ps e => ⟨#[], ?_⟩) (fun m hm => hm) (fun b u e => ?_) I.bare
  · rw [upd_ne fun z => by rw [z, h] at n; cases n]; exact n
  · rw [upd_ne fun z => by rw [z, h] at e; cases e]; exact e
  · rw [upd_ne fun z => by rw [z, h] at e; cases e]; exact e
  · rw [upd_ne (fun z => by rw [z, h] at e; cases e), e]; simp
  · by_cases nb : b = d
    · subst nb
      rw [upd_same] at e
      cases e
      exact ⟨ho, (I.hok b _ h).stay (fun _ _ _ q => q) (fun c q => by rw [upd_ne fun z => by rw [z, h] at q; cases q]; exact q) fun c xs q => by rw [upd_ne fun z => by rw [z, h] at q; cases q]; exact q⟩
    · rw [upd_ne nb] at e
      exact (I.hok b u e).stay (fun _ _ _ q => q) (fun c q => by rw [upd_ne fun z => by rw [z, h] at q; cases q]; exact q) fun c xs q => by rw [upd_ne fun z => by rw [z, h] at q; cases q]; exact q
end
def Itd (d : Addr) (o : Obj) (kvs : List (Key × V)) : It :=
  ⟨fun i H => H d = some (.frz o (.dK kvs)) ∧ i < kvs.length,
   fun i H v H' => ∃ T k x, v = .ref T ∧ H T = none ∧ H' = upd H T (.tup [kV k, x]) ∧ kvs[i]? = some (k, x),
   fun i H => H d = some (.frz o (.dK kvs)) ∧ kvs.length ≤ i⟩
def ItemAt (it d : Addr) (n ep i : Nat) (h : Heap) : Prop := ∃ ok ov, IsItemIter h it d i n ep ok ov
theorem KV.at {κ : Type} : ∀ {l1 : List (κ × V)} {l2 : List (κ × Value)} {i : Nat} {a : κ × V}, KV l1 l2 → l1[i]? = some a → ∃ v, l2[i]? = some (a.1, v) ∧ RelV a.2 v := by
  intro l1 l2 i a hkv
  unfold KV at hkv
  induction hkv generalizing i with
  | nil => intro e; simp at e
  | @cons p q _ _ hh tt ih =>
    cases i with
    | zero =>
      intro e1
      simp at e1
      subst e1
      exact ⟨q.2, by rw [hh.1]; rfl, hh.2⟩
    | succ i =>
      intro e1
      obtain ⟨v, h1, h2⟩ := ih (by simpa using e1)
      exact ⟨v, by simpa using h1, h2⟩
theorem kV_of {k : Key} {v : Value} (h : keyIs k v = true) : RelV (kV k) v := by
  rcases keyIs_shape h with ⟨i, t, rfl, rfl⟩ | ⟨x, t, rfl, rfl⟩
  · exact ⟨t, rfl⟩
  · exact ⟨t, rfl⟩
/-- the frozen dict as it lies -/
theorem frz_at {X : Cx} {pins : List (Addr × Obj)} {σ : St} {H : Hp} {s : Shared} {d : Addr} {o : Obj} {kvs : List (Key × V)} {ep : Nat} (hep : ∀ es ep', o.data = .dict es ep' → ep' = ep) (I : Inv X pins σ H s) (h : H d = some (.frz o (.dK kvs))) :
    ∃ vs, KV kvs vs ∧ s.heap.DictAt (mixKind X.prog X.w) d vs ep := by
  obtain ⟨ho, _, _, vs, rel, o', es, ep', e1, e2, e3, r⟩ := (show ObjOk X.prog X.w H s.heap d (.frz o (.dK kvs)) from I.hok d _ h)
  rw [ho] at e1
  cases e1
  have := hep es ep' e3
  subst this
  exact ⟨vs, rel, o, es, ho, e2, e3, r⟩
theorem entry_dii : entryFor table "dict_itemiterator.__iter__" = some Builtin.«dict_keyiterator.__iter__» :=
  entryFor_alias (id' := "dict_keyiterator.__iter__") (by kernel_rfl) (by first | rfl | decide +kernel) (by decide +kernel) (by kernel_rfl)
theorem turn_items {P : Program} {w : World} {K : PySem.W.Frag} {elts : List Expr} {kx} {pos : Pos} (d it : Addr) (o : Obj) (kvs : List (Key × V)) (ep : Nat) (hep : ∀ es ep', o.data = .dict es ep' → ep' = ep) : Turn P w K (.Tuple elts kx pos) (Itd d o kvs) [it] it (ItemAt it d kvs.length ep) where
  mem := by simp
  obj := fun i h st c hc => by
    obtain ⟨ok, ov, he⟩ := st
    rw [List.mem_singleton.mp hc]
    exact ⟨_, he, fun v q => by cases q⟩
  keep := fun i h h' st kk => by
    obtain ⟨ok, ov, he⟩ := st
    exact ⟨ok, ov, kk it (by simp) _ he⟩
  item := by
    intro X hP hw hK hc i pins s σ H E I hf st hg
    subst hP hw hK
    obtain ⟨hd, hi⟩ := hg
    obtain ⟨vs, rel, hat⟩ := frz_at hep I hd
    obtain ⟨ok, ov, he⟩ := st
    have hl : kvs.length = vs.length := rel.length
    rw [hl] at he
    obtain ⟨v, hv, rv⟩ := KV.at rel (List.getElem?_eq_getElem hi)
    refine wpAny_pyNext_items_item he hat hv fun key h' hkey heo ht hz kk => ?_
    refine ⟨_, rfl, wpAny_letOwnedTupleGo_items (s := { s with heap := h' }) heo fun h2 b1 sb => ?_⟩
    have sb : Heap.SameBut it h' h2 := sb
    have lt : it ≠ s.heap.objs.size := Nat.ne_of_lt (Heap.lt_size he)
    have I2 := I.paired (t' := s.toks) (h' := h2) (ch := [it]) (kV_of hkey) rv hf (fun c hc => by rw [List.mem_singleton.mp hc]; exact lt) (sb.extBut _ _ (Ne.symm lt) ht) (fun c o hc q => by
      have hc : c ≠ it := fun z => hc (by simp [z])
      exact sb.extBut c o hc (kk c o hc q))
    refine ⟨.ref s.heap.objs.size, _, I2, rfl, ⟨_, _, _, rfl, I.hok.fresh (Nat.le_refl _), rfl, List.getElem?_eq_getElem hi⟩, ⟨key, v, by rw [hl]; exact b1⟩, fun c hc => ?_⟩
    rw [List.mem_singleton.mp hc]
    exact (upd_ne lt).trans (hf it (by simp)).1
  done := by
    intro X hP hw hK hc i pins s σ H E I hf st hg
    subst hP hw hK
    obtain ⟨hd, hi⟩ := hg
    obtain ⟨vs, rel, hat⟩ := frz_at hep I hd
    obtain ⟨ok, ov, he⟩ := st
    have hl : kvs.length = vs.length := rel.length
    rw [hl] at he
    refine wpAny_pyNext_items_end (I.ok.hd hc) he hat (List.getElem?_eq_none (by omega)) fun h' eb => ⟨rfl, I.turnedL (t' := s.toks) (ch := [it]) (fun c o hc q => ?_) fun c hc => hf c hc⟩
    exact eb c o (fun z => hc (by simp [z])) q
  self := fun A i s Q E st h => by
    obtain ⟨ok, ov, he⟩ := st
    have hT : s.TypeIs (.ref it) "dict_itemiterator" := ⟨_, he, rfl⟩
    refine wpAny_pyIter_slot hT PySem.F.slot_dict_itemiterator_iter (wpAny_call_entry PySem.F.slot_dict_itemiterator_iter hT entry_dii ?_ (PySem.F.args_dict_itemiterator_iter_1 _))
    show wpAny _ _ (ret (.ref it)) _ _ s
    exact wpAny_pure ⟨_, rfl, "dict_itemiterator", _, hT, PySem.F.slot_dict_itemiterator_next.lookup, h⟩
section
variable {X : Cx}
def rView : V → List V → Hp → VK → Prop := fun x vs H Q => ∃ d kvs, x = .ref d ∧ vs = [] ∧ H d = some (.dK kvs) ∧ ∀ p, H p = none → Q (.ref p) (upd H p (ViewO p d))
/-- behind d.items() -/
def QItems (R : It → Hp → Prop) : VK := fun x H2 => ∃ p d kvs, x = .ref p ∧ H2 p = some (ViewO p d) ∧ H2 d = some (.dK kvs) ∧ ∀ o, R (Itd d o kvs) (upd H2 d (.frz o (.dK kvs)))
def iItems (K : PySem.W.Frag) (te : TE) : TI := fun σ H R => tBM0 K "dict" rView te σ H (QItems R)
theorem pi_items {e : Expr} {te : TE} {apos cpos : Pos} {elts : List Expr} {kx} {tp : Pos} (he : PE X e te)
    (hbase : attributeBase e "items" X.env (eval e X.env) = eval e X.env := by rfl) (hline : (apos.endLine == cpos.line) = true := by rfl) :
    PI X (.Tuple elts kx tp) (.Call (.Attribute e "items" apos) [] [] cpos) (iItems X.K te) := by
  intro pins s σ H R I h
  refine thn (pe_bm0 PySem.F.plainAttrs_dict PySem.F.slot_dict_items PySem.F.type_dict_items mt_items he hbase hline pins s σ H _ I h) fun u s1 ⟨x, H2, I1, r1, p, d, kvs, ex, hp, hd2, q⟩ => ?_
  subst ex
  obtain rfl : u = Value.ref p := r1
  obtain ⟨hview, _, _⟩ := (show ObjOk X.prog X.w _ s1.heap p (ViewO p d) from I1.hok p _ hp)
  obtain ⟨_, _, vs, rel, o, es, ep, d1, d2, d3, dr⟩ := dk_of I1.hok hd2
  have hat : s1.heap.DictAt (mixKind X.prog X.w) d vs ep := ⟨o, es, d1, d2, d3, dr⟩
  have hl : kvs.length = vs.length := rel.length
  have I2 := I1.freeze hd2 d1
  refine wpAny_pyIter_items hview hat ?_
  refine ⟨s1.heap.objs.size, [s1.heap.objs.size], _, _, _, rfl, I2.kept (t' := s1.toks) (fun b o e => Heap.get?_push_of_some _ e), turn_items d s1.heap.objs.size o kvs ep (fun es' ep' z => by rw [d3] at z; cases z; rfl), ⟨_, _, by rw [hl]; exact Heap.get?_push_size _ rfl⟩, fun c hc => ?_, q o⟩
  rw [List.mem_singleton.mp hc]
  exact I2.fpOk (Nat.le_refl _) (I2.hok.fresh (Nat.le_refl _))
end
end L2
namespace L2.DL
open PySem PySem.Spec PyProof.Rows
def keyD : Key → D
  | .inl i => .int i
  | .inr x => .str x
def itemsD (ks : List Key) (ds : List D) : List D := List.zipWith (fun k x => D.tup [keyD k, x]) ks ds
def items1 : D → Res (List D)
  | .dct ks ds => .ok (itemsD ks ds)
  | _ => .no
def iIt (f : FE) : FA := fun sd => (f sd).bind items1
@[simp] theorem ev_iIt (f : FE) (sd : SD) : iIt f sd = (f sd).bind items1 := rfl
theorem keyD_is (K : PySem.W.Frag) (F : Hp) (k : Key) : IsD K F (keyD k) (kV k) := by
  cases k with
  | inl i => exact IsD.int_iff.mpr rfl
  | inr x => exact IsD.str_iff.mpr rfl
theorem walk_items {K : PySem.W.Frag} {F1 : Hp} {d : Addr} {o : Obj} {ks : List Key} {ds : List D} {xs : List V} (h : F1 d = some (.frz o (.dK (ks.zip xs)))) (hl : ks.length = xs.length) (i1 : IsDs K F1 ds xs) : Walk K F1 (Itd d o (ks.zip xs)) (itemsD ks ds) := fun i F2 H2 s1 s2 => by
  have p1 := s2 _ _ (s1 _ _ h)
  have l1 := i1.length
  have lz : (ks.zip xs).length = ks.length := by rw [List.length_zip]; omega
  have li : (itemsD ks ds).length = ks.length := by unfold itemsD; rw [List.length_zipWith]; omega
  rw [li]
  refine ⟨fun hi => ⟨⟨p1, by omega⟩, fun v H3 yl => ?_⟩, fun hi => ⟨p1, by omega⟩⟩
  obtain ⟨T, k, x, rfl, hT, rfl, hk⟩ := yl
  have hd : i < ds.length := by omega
  obtain ⟨x', hx, ix⟩ := i1.get (List.getElem?_eq_getElem hd)
  rw [List.getElem?_zip_eq_some] at hk
  obtain ⟨hk, hx2⟩ := hk
  have hk : ks[i]? = some k := hk
  have hx2 : xs[i]? = some x := hx2
  rw [hx] at hx2
  cases hx2
  have ea := Ext.alloc s2 hT (.tup [kV k, x])
  refine ⟨.tup [keyD k, ds[i]], _, ?_, ea, IsD.tup_iff.mpr ⟨T, _, rfl, .of upd_same, .mk (keyD_is K _ k) (.mk (IsD.same (s1.trans ea.ff) _ _ ix) .nil)⟩⟩
  unfold itemsD
  rw [List.getElem?_zipWith, hk, List.getElem?_eq_getElem hd]
section
variable {X : Cx} {E : XK} {f : FE} {tp apos cpos : Pos} {elts : List Expr} {e : Expr}
theorem qi_items {kx} (hn : QN X E e f) (hbase : attributeBase e "items" X.env (eval e X.env) = eval e X.env := by rfl) (hline : (apos.endLine == cpos.line) = true := by rfl) :
    QI X E (.Tuple elts kx tp) (.Call (.Attribute e "items" apos) [] [] cpos) (iIt f) := PI.weak (pi_items hn hbase hline) fun σ H R ⟨B, F, sd, r, n⟩ => by
  refine ⟨B, F, sd, r, (Res.need_bind n).mono (fun z n1 l F1 H1 e1 hl fl ow => ?_) fun _ _ q => q⟩
  unfold items1 at n1
  split at n1
  · rename_i ks ds
    obtain ⟨xs, h1, h2, h3⟩ := ow
    refine ⟨.inr (.inr (.inl ⟨rfl, .inl ⟨_, h1⟩⟩)), l, ks.zip xs, rfl, rfl, h1, fun p hp => ⟨p, l, ks.zip xs, rfl, upd_same, ?_, fun o => ?_⟩⟩
    · have hlp : l ≠ p := fun z => by rw [z, hp] at h1; cases h1
      exact (upd_ne hlp).trans h1
    · have fp : F1 p = none := same_free e1.fh hp
      have Hp : H p = none := same_free e1.hh hp
      have hlp : l ≠ p := fun z => by rw [z, hp] at h1; cases h1
      refine n1 _ (upd F1 l (.frz o (.dK (ks.zip xs)))) _ ⟨e1.ff.trans (same_new fl _), fun b u q => ?_, fun b u q => ?_, fun b q1 q2 => ?_⟩ (walk_items upd_same h2 (IsDs.same (same_new fl _) _ _ h3))
      · by_cases z : b = l
        · subst z
          rw [upd_same] at q ⊢
          exact q
        · rw [upd_ne z] at q ⊢
          have : b ≠ p := fun y => by rw [y, fp] at q; cases q
          rw [upd_ne this]
          exact e1.fh _ _ q
      · have z : b ≠ l := fun y => by rw [y, hl] at q; cases q
        have y : b ≠ p := fun y => by rw [y, Hp] at q; cases q
        rw [upd_ne z, upd_ne y]
        exact e1.hh _ _ q
      · have z : b ≠ l := fun y => q2 (by rw [y]; exact hl)
        rw [upd_ne z]
        exact e1.new b q1 q2
  · exact n1.elim
end
end L2.DL
namespace L2.DL
open PySem PySem.Spec PyProof.Rows
def aug1 (i : Nat) (sd : SD) : Option (Option SV) → Res D → Res Out
  | some (some (.val (.int a))), r => r.bind fun d => match d with
    | .int b => .ok (.next (sd.set i (some (.val (.int (a + b))))))
    | _ => .no
  | _, _ => .no
def sAug (i : Nat) (f : FE) : FS := fun sd => aug1 i sd sd[i]? (f sd)
@[simp] theorem ev_aug (i : Nat) (f : FE) (sd : SD) : sAug i f sd = aug1 i sd sd[i]? (f sd) := rfl
@[simp] theorem aug1_int (i : Nat) (sd : SD) (a b : Int) : aug1 i sd (some (some (.val (.int a)))) (.ok (.int b)) = .ok (.next (sd.set i (some (.val (.int (a + b)))))) := rfl
theorem qs_aug {X : Cx} {E : XK} {m : Option Bool} {e : Expr} {fe : FE} {pos : Pos} {i : Nat} {x : Str} {pos' : Pos} (hN : X.N.Nodup) (hi : X.N[i]? = some x) (hx : Loc X.env.scope x) (he : QE X E e fe)
    (hf : X.fn x = true ∨ X.env.scope.names.lookup x = some .local := by first | exact .inl rfl | exact .inr rfl) : QS X E m (.AugAssign (.Name x pos') .Add e pos) (sAug i fe) := PS.weak (ps_aug hN hi hx he ip_add hf) fun T σ H ⟨B, F, sd, r, n⟩ => by
  unfold sAug at n
  generalize hq : sd[i]? = q at n
  cases q with
  | none => exact False.elim n
  | some q => cases q with
    | none => exact False.elim n
    | some q => cases q with
      | own p d => exact False.elim n
      | val d => cases d with
        | int a =>
          obtain ⟨v, h1, h2⟩ := r.val hq
          rw [IsD.int_iff] at h2
          subst h2
          have n : ((fe sd).bind fun d => match d with
            | .int b => Res.ok (Out.next (sd.set i (some (.val (.int (a + b))))))
            | _ => .no).need _ _ := n
          refine ⟨_, h1, B, F, sd, r, (Res.need_bind n).mono (fun d n1 v F1 H1 e1 i1 => ?_) fun _ _ q => q.ext r.ext⟩
          cases d with
          | int b =>
            rw [IsD.int_iff] at i1
            exact ⟨_, _, rfl, i1, n1 _ F1 H1 e1.ff ((r.step e1).setVal (IsD.int_iff.mpr rfl))⟩
          | _ => exact False.elim n1
        | _ => exact False.elim n
end L2.DL
namespace L2.DL
open PySem PySem.Spec PyProof.Rows
def dTmp0 (is : List Nat) (f : FE) : FE := fun sd => (f (frzD is sd)).strict.bind fun d => if scalD d then .ok d else .no
@[simp] theorem ev_tmp0 (is : List Nat) (f : FE) (sd : SD) : dTmp0 is f sd = (f (frzD is sd)).strict.bind fun d => if scalD d then .ok d else .no := rfl
section
variable {X : Cx} {E : XK} {e : Expr}
theorem q_tmp0 {fe : FE} (is : List Nat) (h : QE X E e fe) : QE X E e (dTmp0 is fe) := PE.weak h fun σ H Q ⟨B, F, sd, r, n⟩ => by
  obtain ⟨F1, s1, r1⟩ := r.frz is
  refine ⟨B, F1, _, r1, (Res.need_strict (Res.need_bind n)).mono (fun d n1 v F2 H2 e2 i2 => ?_) fun c fs q => q⟩
  split at n1
  · rename_i hs
    exact n1 v F H2 (.grow r.ext.fh e2.hh) (i2.scal hs)
  · exact n1.elim
end
end L2.DL

set_option maxHeartbeats 4000000
namespace My
open PySem L2 L2.DL
/-! ### what the text's defs answer -/
def mixF (cell salt : Int) : Int := ((cell % 2147483647 + salt) * 48271 % 2147483647) * ((cell % 2147483647 + salt) * 48271 % 2147483647) % 2147483629
def cellF (ns : List Int) (k : Int) : Int := ns.getD k.toNat 0
theorem pl_nil : plN 12 (.lst []) = true := rfl
theorem pl_ints (r : List Int) : plN 12 (.lst (r.map D.int)) = true := by
  show (r.map D.int).all (plN 11) = true
  rw [List.all_map, List.all_eq_true]
  exact fun p _ => rfl
theorem same_nil_map {α : Type} (f : α → D) (l : List α) : sameD (.lst (l.map f)) (.lst []) = l.isEmpty := by
  cases l with
  | nil => exact sameD_self _
  | cons x r => exact sameD_no.mpr fun h => by injection h with h; cases h
theorem atI_nat {α : Type} {l : List α} {k : Nat} (h : k < l.length) : atI l (k : Int) = l[k]? := by
  unfold atI ixN
  rw [if_pos (by omega), if_pos (by omega), Int.toNat_natCast]
  rfl
theorem map_at {α : Type} {f : α → D} {l : List α} {i : Nat} {x : D} (h : (l.map f)[i]? = some x) : ∃ p, l[i]? = some p ∧ x = f p := by
  rw [List.getElem?_map] at h
  cases q : l[i]? with
  | none => rw [q] at h; cases h
  | some p => rw [q] at h; exact ⟨p, rfl, (Option.some.inj h).symm⟩
/-! rows and rows made of rows, whatever the waits -/
/-- what is known of a row over n things -/
structure RowOk (n : Int) (r : List (Int × Int)) : Prop where
  ne : r ≠ []
  once : Once r
  mem : ∀ p ∈ r, 0 ≤ p.1 ∧ p.1 < n
  len : r.length ≤ 12
def frD (f : List (List (Int × Int))) : D := .lst (f.map rwD)
/-! the rows under which no other one lies -/
@[simp] theorem gList_fr (f : List (List (Int × Int))) : gList [frD f] = some (frD f) := rfl
@[simp] theorem walkS_fr (f : List (List (Int × Int))) : walkS (frD f) = some (f.map rwD) := rfl
@[simp] theorem walkS_rw (r : List (Int × Int)) : walkS (rwD r) = some (r.map prD) := rfl
@[simp] theorem gLen_fr (f : List (List (Int × Int))) : gLen [frD f] = some (.int f.length) := by show some (D.int (f.map rwD).length) = _; rw [List.length_map]
@[simp] theorem isi_fr_list (f : List (List (Int × Int))) : gIsi [frD f, .ty "list"] = some (.bl true) := rfl
@[simp] theorem isi_rw_tuple (f : List (Int × Int)) : gIsi [rwD f, .ty "tuple"] = some (.bl true) := rfl
@[simp] theorem isi_pr_tuple (p : Int × Int) : gIsi [prD p, .ty "tuple"] = some (.bl true) := rfl
@[simp] theorem gLen_pr (p : Int × Int) : gLen [prD p] = some (.int 2) := rfl
@[simp] theorem gIx_pr0 (p : Int × Int) : gIx (prD p) (.int 0) = some (.int p.1) := rfl
@[simp] theorem gIx_pr1 (p : Int × Int) : gIx (prD p) (.int 1) = some (.int p.2) := rfl
theorem pl_rw (n : Nat) (r : List (Int × Int)) : plN (n + 3) (rwD r) = true := by
  show (r.map prD).all (plN (n + 2)) = true
  rw [List.all_map, List.all_eq_true]
  exact fun p _ => rfl
/-- what is known of a form over n things -/
structure FormOk (n : Int) (f : List (List (Int × Int))) : Prop where
  ne : f ≠ []
  rows : ∀ r ∈ f, RowOk n r
  len : f.length ≤ 100
/-! rows that rise; forms in their one shape -/
def Rise (r : List (Int × Int)) : Prop := (r.map (·.1)).Pairwise (· < ·)
/-! the hours of a row's corner -/
theorem pick_upto {α : Type} (l : List α) {k : Int} (h0 : 0 ≤ k) : pickL l none (some k) none = l.take k.toNat := by
  have e : sliceBounds none (some k) none l.length = (((0 : Nat) : Int), ((min k.toNat l.length : Nat) : Int), 1) := by
    unfold sliceBounds
    simp only [Option.getD_none]
    simp
    omega
  unfold pickL
  rw [e]
  show (sliceRange _ _ 1).filterMap _ = _
  have p := pick_run l.toArray 0 (min k.toNat l.length - 0)
  rw [sliceRange_one]
  have ep : (fun x : Nat => l[x]?) = fun x : Nat => l.toArray[x]? := by funext x; simp
  rw [ep, p]
  simp
structure ThingsOk (ts : List Int) : Prop where
  ne : ts ≠ []
  len : ts.length ≤ 4
  rng : ∀ t ∈ ts, 0 ≤ t ∧ t < 12
  up : ts.Pairwise (· < ·)
/-! columns -/
theorem rise_once {r : List (Int × Int)} (h : Rise r) : Once r := by
  unfold Rise at h
  unfold Once List.Nodup
  exact h.imp fun h e => by omega
/-! hours of which one is moved -/
/-- rows over the hours' things -/
structure Over (f : List (List (Int × Int))) (hs : List Int) : Prop where
  ne : f ≠ []
  rne : ∀ r ∈ f, r ≠ []
  once : ∀ r ∈ f, Once r
  bnd : ∀ r ∈ f, ∀ p ∈ r, 0 ≤ p.1 ∧ p.1 < (hs.length : Int)
/-! what is left of a row without one thing -/
/-! two lists side by side -/
/-! rounds -/
structure RoundOk (n : Int) (fs : List (List (List (Int × Int)))) : Prop where
  len : (fs.length : Int) = n
  low : 1 ≤ n
  most : n ≤ 12
  forms : ∀ f ∈ fs, FormOk n f
theorem RoundOk.over {n : Int} {fs : List (List (List (Int × Int)))} (R : RoundOk n fs) {hs : List Int} (h : hs.length = fs.length) : ∀ f ∈ fs, Over f hs := fun f hf => ⟨(R.forms f hf).ne, fun r hr => ((R.forms f hf).rows r hr).ne, fun r hr => ((R.forms f hf).rows r hr).once, fun r hr p hp => by
  have := ((R.forms f hf).rows r hr).mem p hp
  have := R.len
  omega⟩
def rdD (fs : List (List (List (Int × Int)))) : D := .lst (fs.map frD)
@[simp] theorem walkS_rd (fs : List (List (List (Int × Int)))) : walkS (rdD fs) = some (fs.map frD) := rfl
/-! the rows of a list that are kept -/
open L2.ST
/-! columns thinned -/
structure PairsOk (ts : List Int) (r : List (Int × Int)) : Prop where
  ne : r ≠ []
  len : r.length ≤ 4
  mem : ∀ p ∈ r, p.1 ∈ ts
  up : r.Pairwise fun p q => p.1 < q.1
theorem up_once {r : List (Int × Int)} (h : r.Pairwise fun p q => p.1 < q.1) : Once r := by
  unfold Once List.Nodup
  rw [List.pairwise_map]
  exact h.imp fun h e => by omega
theorem PairsOk.row {ts : List Int} {r : List (Int × Int)} (T : ThingsOk ts) (P : PairsOk ts r) : RowOk 12 r := ⟨P.ne, up_once P.up, fun p hp => T.rng _ (P.mem p hp), Nat.le_trans P.len (by omega)⟩
/-! boxes that some hours keep both -/
structure JRow (r : List (Int × Int)) : Prop where
  ne : r ≠ []
  rise : Rise r
  bnd : ∀ p ∈ r, 0 ≤ p.1 ∧ p.1 < 12
theorem JRow.once {r : List (Int × Int)} (h : JRow r) : Once r := rise_once h.rise
theorem JRow.len {r : List (Int × Int)} (h : JRow r) : r.length ≤ 12 := by
  have up : (r.map (·.1)).Pairwise (· < ·) := h.rise
  have key : ∀ (l : List Int) (a : Int), l.Pairwise (· < ·) → (∀ x ∈ l, a ≤ x ∧ x < 12) → (l.length : Int) ≤ max 0 (12 - a) := by
    intro l
    induction l with
    | nil => intro a _ _; simp; omega
    | cons x l ih =>
      intro a hp hb
      rw [List.pairwise_cons] at hp
      have h1 := hb x List.mem_cons_self
      have := ih (x + 1) hp.2 fun y hy => ⟨by have := hp.1 y hy; omega, (hb y (List.mem_cons_of_mem _ hy)).2⟩
      rw [List.length_cons]
      omega
  have := key _ 0 up fun x hx => by
    obtain ⟨p, hp, rfl⟩ := List.mem_map.mp hx
    exact h.bnd p hp
  rw [List.length_map] at this
  omega

/-! texts -/
def asc (x : Str) : Prop := x.cps.all (· < 128) = true
theorem asc_iff {x : Str} : asc x ↔ ∀ c ∈ x.cps.toList, c < 128 := by
  unfold asc
  rw [← Array.all_toList, List.all_eq_true]
  exact ⟨fun h c hc => of_decide_eq_true (h c hc), fun h c hc => decide_eq_true (h c hc)⟩
theorem len_app (a b : Str) : (a ++ b).length = a.length + b.length := Array.size_append
theorem cps_app (a b : Str) : (a ++ b).cps.toList = a.cps.toList ++ b.cps.toList := Array.toList_append
theorem asc_app {a b : Str} (ha : asc a) (hb : asc b) : asc (a ++ b) := asc_iff.mpr fun c hc => by
  rw [cps_app] at hc
  rcases List.mem_append.mp hc with h | h
  · exact asc_iff.mp ha c h
  · exact asc_iff.mp hb c h
/-- a text of at most n signs -/
structure TxtOk (n : Nat) (x : Str) : Prop where
  len : x.length ≤ n
  asc : asc x
theorem TxtOk.app {m n : Nat} {a b : Str} (ha : TxtOk m a) (hb : TxtOk n b) : TxtOk (m + n) (a ++ b) := ⟨by rw [len_app]; have := ha.len; have := hb.len; omega, asc_app ha.asc hb.asc⟩
theorem TxtOk.mono {m n : Nat} {a : Str} (ha : TxtOk m a) (h : m ≤ n) : TxtOk n a := ⟨Nat.le_trans ha.len h, ha.asc⟩
theorem one_ok {c : Nat} (h : c < 128) : TxtOk 1 ⟨#[c]⟩ := ⟨Nat.le_refl _, asc_iff.mpr fun d hd => by rw [List.mem_singleton.mp hd]; exact h⟩
theorem lit_ok {n : Nat} {x : Str} (h : (decide (x.length ≤ n) && x.cps.all (· < 128)) = true) : TxtOk n x := by
  rw [Bool.and_eq_true] at h
  exact ⟨of_decide_eq_true h.1, h.2⟩
theorem gAdd_str {m n : Nat} {a b : Str} (ha : TxtOk m a) (hb : TxtOk n b) (h : m + n ≤ 1000) : gAdd (.str a) (.str b) = some (.str (a ++ b)) := if_pos (small (by have := ha.len; have := hb.len; omega))
theorem gLen_str {n : Nat} {a : Str} (ha : TxtOk n a) (h : n ≤ 1000) : gLen [.str a] = some (.int a.length) := if_pos (small (by have := ha.len; omega))
theorem gIx_str {n : Nat} {a : Str} {k : Int} (ha : TxtOk n a) (h : n ≤ 1000) (k0 : 0 ≤ k) (k1 : k < (a.length : Int)) : ∃ c, gIx (.str a) (.int k) = some (.str ⟨#[c]⟩) ∧ a.cps.toList[k.toNat]? = some c ∧ c < 128 := by
  have hl : k.toNat < a.cps.toList.length := by
    rw [Array.length_toList]
    have : a.length = a.cps.size := rfl
    omega
  refine ⟨a.cps.toList[k.toNat], ?_, List.getElem?_eq_getElem hl, asc_iff.mp ha.asc _ (List.getElem_mem hl)⟩
  show (if a.length ≤ sizeLine then (atI a.cps.toList k).map fun c => D.str ⟨#[c]⟩ else none) = _
  rw [if_pos (small (by have := ha.len; omega))]
  have e : atI a.cps.toList k = some a.cps.toList[k.toNat] := by
    unfold atI ixN
    rw [if_pos k0, if_pos (by rw [Array.length_toList]; exact k1)]
    exact List.getElem?_eq_getElem hl
  rw [e]
  rfl
theorem atI_mem {l : List D} {k : Int} (k0 : 0 ≤ k) (k1 : k < (l.length : Int)) : ∃ d ∈ l, atI l k = some d := by
  have hl : k.toNat < l.length := by omega
  refine ⟨l[k.toNat], List.getElem_mem hl, ?_⟩
  unfold atI ixN
  rw [if_pos k0, if_pos k1]
  exact List.getElem?_eq_getElem hl
theorem ok_letters : TxtOk 26 "abcdefghijklmnopqrstuvwxyz" := lit_ok (by decide +kernel)
theorem len_letters : (("abcdefghijklmnopqrstuvwxyz" : Str).length : Int) = 26 := by decide +kernel
theorem gStr_low : ∀ k : Fin 64, (Nat.ble (k.val : Int).natAbs.log2 1900 = true) ∧ (decide ((toString (k.val : Int) : Str).length ≤ 2) && (toString (k.val : Int) : Str).cps.all (· < 128)) = true := by decide +kernel
def letF (k : Nat) : Str := ⟨#[97 + k]⟩
def spotF (k : Nat) : Str := letF (k % 26) ++ letF (k / 26 % 26)
def digF (k : Nat) : Str := (toString (k : Int) : Str)
def nmF (q : Int) (base : Str) (k : Nat) : Str := if q = 0 then "x" ++ base ++ digF k else if q = 1 then "y" ++ digF k ++ base else if q = 2 then "q" ++ base ++ spotF k else spotF k ++ "q" ++ base
theorem letters_at : ∀ k : Fin 26, (("abcdefghijklmnopqrstuvwxyz" : Str).cps.toList)[k.val]? = some (97 + k.val) := by decide +kernel
theorem gIx_letters {k : Int} (k0 : 0 ≤ k) (k1 : k < 26) : gIx (.str "abcdefghijklmnopqrstuvwxyz") (.int k) = some (.str (letF k.toNat)) := by
  obtain ⟨c, h1, h2, _⟩ := gIx_str ok_letters (by omega) k0 (by rw [len_letters]; exact k1)
  have h3 := letters_at ⟨k.toNat, by omega⟩
  rw [h2] at h3
  rw [h1, Option.some.inj h3]
  rfl
theorem gStr_dig {k : Nat} (h : k < 64) : gStr [.int (k : Int)] = some (.str (digF k)) ∧ TxtOk 2 (digF k) := by
  obtain ⟨h1, h2⟩ := gStr_low ⟨k, h⟩
  exact ⟨if_pos h1, lit_ok h2⟩
theorem let_ok {k : Nat} (h : k < 26) : TxtOk 1 (letF k) := one_ok (by omega)
theorem spot_ok (k : Nat) : TxtOk 2 (spotF k) := (let_ok (Nat.mod_lt _ (by omega))).app (let_ok (Nat.mod_lt _ (by omega)))
theorem nm_ok {q : Int} {base : Str} {k : Nat} (h : k < 64) (hb : TxtOk 9 base) : TxtOk 12 (nmF q base k) := by
  have okx : TxtOk 1 "x" := lit_ok (by decide +kernel)
  have oky : TxtOk 1 "y" := lit_ok (by decide +kernel)
  have okq : TxtOk 1 "q" := lit_ok (by decide +kernel)
  have ok := (gStr_dig h).2
  have oksp := spot_ok k
  unfold nmF
  repeat' split
  · exact ((okx.app hb).app ok).mono (by omega)
  · exact ((oky.app ok).app hb).mono (by omega)
  · exact ((okq.app hb).app oksp).mono (by omega)
  · exact ((oksp.app okq).app hb).mono (by omega)
/-- small letters only -/
def low (x : Str) : Prop := ∀ c ∈ x.cps.toList, 97 ≤ c ∧ c < 123
theorem low_app {a b : Str} (ha : low a) (hb : low b) : low (a ++ b) := fun c hc => by
  rw [cps_app] at hc
  rcases List.mem_append.mp hc with h | h
  · exact ha c h
  · exact hb c h
theorem low_let {k : Nat} (h : k < 26) : low (letF k) := fun c hc => by
  rw [List.mem_singleton.mp hc]
  omega

/-! books -/
@[simp] theorem run_d5 (n : Nat) (g : FS) (a b c d e : D) : runD n 5 g [a, b, c, d, e] = (g (some (.val a) :: some (.val b) :: some (.val c) :: some (.val d) :: some (.val e) :: List.replicate (n - 5) none)).bind outV := run_d n 5 g [a, b, c, d, e] rfl
structure Pl where
  name : Str
  givens : List Str
  rows : List (Str × Str × List (Int × Int))
def rowD (r : Str × Str × List (Int × Int)) : D := .tup [.str r.1, .str r.2.1, rwD r.2.2]
def planT (p : Pl) : D := .tup [.str p.name, .lst (p.givens.map .str), .lst (p.rows.map rowD)]
def planI (p : Pl) : D := .ins "Plan" ["name", "givens", "rows"] [.str p.name, .lst (p.givens.map .str), .lst (p.rows.map rowD)]
def bookD (ps : List Pl) : D := .ins "Book" ["plans"] [.lst (ps.map planI)]
def prtD (p : Str × Int) : D := .tup [.str p.1, .int p.2]
/-- the items of a row with so many things ahead -/
structure ItOk (ahead : Int) (its : List (Int × Int)) : Prop where
  rng : ∀ p ∈ its, 0 ≤ p.1 ∧ p.1 < ahead
  far : ∀ p ∈ its, -1000000000000000000000000000000 < p.2 ∧ p.2 < 1000000000000000000000000000000
@[simp] theorem gIx_row0 (r : Str × Str × List (Int × Int)) : gIx (rowD r) (.int 0) = some (.str r.1) := rfl
@[simp] theorem gIx_row1 (r : Str × Str × List (Int × Int)) : gIx (rowD r) (.int 1) = some (.str r.2.1) := rfl
@[simp] theorem gIx_row2 (r : Str × Str × List (Int × Int)) : gIx (rowD r) (.int 2) = some (rwD r.2.2) := rfl
@[simp] theorem gIx_plan0 (p : Pl) : gIx (planT p) (.int 0) = some (.str p.name) := rfl
@[simp] theorem gIx_plan1 (p : Pl) : gIx (planT p) (.int 1) = some (.lst (p.givens.map .str)) := rfl
@[simp] theorem gIx_plan2 (p : Pl) : gIx (planT p) (.int 2) = some (.lst (p.rows.map rowD)) := rfl
@[simp] theorem gIx_prt0 (p : Str × Int) : gIx (prtD p) (.int 0) = some (.str p.1) := rfl
@[simp] theorem gIx_prt1 (p : Str × Int) : gIx (prtD p) (.int 1) = some (.int p.2) := rfl
@[simp] theorem fld_plans (ps : List Pl) : gFld "Book" "plans" (bookD ps) = some (.lst (ps.map planI)) := rfl
@[simp] theorem fld_name (p : Pl) : gFld "Plan" "name" (planI p) = some (.str p.name) := rfl
@[simp] theorem fld_givens (p : Pl) : gFld "Plan" "givens" (planI p) = some (.lst (p.givens.map .str)) := rfl
@[simp] theorem fld_rows (p : Pl) : gFld "Plan" "rows" (planI p) = some (.lst (p.rows.map rowD)) := rfl
/-- the parts that stand ahead -/
def partsOf (ps : List Pl) : List (Str × Int) := ps.map fun p => (p.name, (p.givens.length : Int))
/-- how a row is made -/
def HowOk (parts : List (Str × Int)) (how : Str) (n : Nat) : Prop := how = "all" ∨ how = "first" ∨ (how, (n : Int)) ∈ parts
/-- a row with so many things ahead -/
structure RwOk (parts : List (Str × Int)) (ahead : Int) (r : Str × Str × List (Int × Int)) : Prop where
  how : HowOk parts r.2.1 r.2.2.length
  its : ItOk ahead r.2.2
  low : 1 ≤ r.2.2.length
  top : r.2.2.length ≤ 40
theorem str_pl {n : Nat} {x : Str} (h : asc x) : plN (n + 1) (.str x) = true := by
  show PyData.strOk x = true
  unfold PyData.strOk
  rw [← Array.all_toList, List.all_eq_true]
  exact fun c hc => decide_eq_true (Nat.lt_trans (asc_iff.mp h c hc) (by omega))
/-- parts: their names, how many given things they have -/
def PrtsOk (parts : List (Str × Int)) : Prop := ∀ p ∈ parts, TxtOk 12 p.1 ∧ 1 ≤ p.2 ∧ p.2 ≤ 12
theorem pl_prts (n : Nat) {l : List (Str × Int)} (h : PrtsOk l) : plN (n + 3) (.lst (l.map prtD)) = true := by
  show (l.map prtD).all (plN (n + 2)) = true
  rw [List.all_eq_true]
  intro x hx
  obtain ⟨y, hy, rfl⟩ := List.mem_map.mp hx
  show [D.str y.1, D.int y.2].all (plN (n + 1)) = true
  rw [List.all_cons, str_pl (h y hy).1.asc]
  rfl
theorem gNe_nil {α : Type} {f : α → D} {l : List α} (h : plN 12 (.lst (l.map f)) = true) : gNe (.lst (l.map f)) (.lst []) = some (.bl (!l.isEmpty)) := by
  rw [gNe_pl h pl_nil, same_nil_map]
theorem gEq_nil {α : Type} {f : α → D} {l : List α} (h : plN 12 (.lst (l.map f)) = true) : gEq (.lst (l.map f)) (.lst []) = some (.bl l.isEmpty) := by
  rw [gEq_pl h pl_nil, same_nil_map]
theorem atI_at {α : Type} {f : α → D} {l : List α} {k : Int} (k0 : 0 ≤ k) (k1 : k < (l.length : Int)) : ∃ x ∈ l, atI (l.map f) k = some (f x) := by
  obtain ⟨d, hd, e⟩ := atI_mem (l := l.map f) (k := k) k0 (by rw [List.length_map]; exact k1)
  obtain ⟨x, hx, rfl⟩ := List.mem_map.mp hd
  exact ⟨x, hx, e⟩
theorem dig_low : ((List.range 60).map fun k => (digF k).cps.toList).Nodup := by decide +kernel
theorem spot_low : ((List.range 60).map fun k => (spotF k).cps.toList).Nodup := by decide +kernel
theorem nodup_inj {α : Type} {f : Nat → α} {n : Nat} (h : ((List.range n).map f).Nodup) {a b : Nat} (ha : a < n) (hb : b < n) (e : f a = f b) : a = b := by
  have h := List.pairwise_iff_getElem.mp (List.pairwise_map.mp h)
  rcases Nat.lt_trichotomy a b with z | z | z
  · exact absurd (by rw [List.getElem_range, List.getElem_range]; exact e) (h a b (by rw [List.length_range]; exact ha) (by rw [List.length_range]; exact hb) z)
  · exact z
  · exact absurd (by rw [List.getElem_range, List.getElem_range]; exact e.symm) (h b a (by rw [List.length_range]; exact hb) (by rw [List.length_range]; exact ha) z)
theorem nm_inj {q : Int} {base : Str} {a b : Nat} (ha : a < 60) (hb : b < 60) (e : nmF q base a = nmF q base b) : a = b := by
  have h : (nmF q base a).cps.toList = (nmF q base b).cps.toList := by rw [e]
  unfold nmF at h
  split at h
  · simp only [cps_app, List.append_cancel_left_eq] at h
    exact nodup_inj dig_low ha hb h
  · split at h
    · simp only [cps_app, List.append_cancel_left_eq, List.append_cancel_right_eq] at h
      exact nodup_inj dig_low ha hb h
    · split at h
      · simp only [cps_app, List.append_cancel_left_eq] at h
        exact nodup_inj spot_low ha hb h
      · simp only [cps_app, List.append_cancel_right_eq] at h
        exact nodup_inj spot_low ha hb h
theorem nm_nodup (q : Int) (base : Str) {n : Nat} (h : n ≤ 60) : ((List.range n).map (nmF q base)).Nodup := by
  rw [List.nodup_iff_pairwise_ne, List.pairwise_map]
  refine List.Pairwise.imp_of_mem (fun {a b} ma mb hn e => hn ?_) (List.nodup_iff_pairwise_ne.mp List.nodup_range)
  exact nm_inj (by have := List.mem_range.mp ma; omega) (by have := List.mem_range.mp mb; omega) e
/-- no word that is kept -/
def signs (l : List Nat) : Bool := l[0]? == some 120 || l[0]? == some 121 || l[0]? == some 113 || l[2]? == some 113
theorem nm_signs (q : Int) (base : Str) (k : Nat) : signs (nmF q base k).cps.toList = true := by
  have hx : ("x" : Str).cps.toList = [120] := by decide +kernel
  have hy : ("y" : Str).cps.toList = [121] := by decide +kernel
  have hq : ("q" : Str).cps.toList = [113] := by decide +kernel
  unfold nmF signs
  split
  · simp [cps_app, hx]
  · split
    · simp [cps_app, hy]
    · split
      · simp [cps_app, hq]
      · have hs : (spotF k).cps.toList = [97 + k % 26, 97 + k / 26 % 26] := by
          unfold spotF
          rw [cps_app]
          rfl
        simp [cps_app, hq, hs]
theorem nm_ne {q : Int} {base w : Str} {k : Nat} (h : signs w.cps.toList = false) : nmF q base k ≠ w := fun e => by
  have := nm_signs q base k
  rw [e, h] at this
  cases this
theorem nm_pos (q : Int) (base : Str) (k : Nat) : 1 ≤ (nmF q base k).length := by
  have h := nm_signs q base k
  have e : (nmF q base k).length = (nmF q base k).cps.toList.length := rfl
  cases l : (nmF q base k).cps.toList with
  | nil => rw [l] at h; cases h
  | cons a r => rw [e, l]; simp
/-- what the weights ask of a book -/
structure WB (ps : List Pl) : Prop where
  l1 : 1 ≤ ps.length
  l2 : ps.length ≤ 20
  nd : (ps.map (·.name)).Nodup
  ok : ∀ p ∈ ps, TxtOk 12 p.name ∧ 1 ≤ p.name.length ∧ p.name ≠ "all" ∧ p.name ≠ "first"
  how : ∀ (i : Nat) (p : Pl), ps[i]? = some p → ∀ r ∈ p.rows, r.2.1 = "all" ∨ r.2.1 = "first" ∨ r.2.1 ∈ (ps.take i).map (·.name)
  sz : ∀ p ∈ ps, p.rows.length ≤ 40 ∧ p.givens.length ≤ 12
@[simp] theorem ev_tmpN (is : List Nat) (f : FE) (sd : SD) : dTmpN is f sd = (f (frzD is sd)).bare.bind fun d => if flatL d then .ok d else .no := rfl
@[simp] theorem ev_make (c : Str) (names : List Str) (Fn : List D → Res (List D)) (fa : FA) (sd : SD) : dMake c names Fn fa sd = (fa sd).bind fun ds => (Fn ds).bind fun es => .ok (.ins c names es) := rfl
theorem flat_prts (l : List (Str × Int)) : flatL (.lst (l.map prtD)) = true := by
  show (l.map prtD).all flatD = true
  rw [List.all_eq_true]
  intro x hx
  obtain ⟨y, _, rfl⟩ := List.mem_map.mp hx
  rfl
@[simp] theorem bindT_row (i j k : Nat) (r : Str × Str × List (Int × Int)) (sd : SD) : bindT (.tup [i, j, k]) (rowD r) sd = .ok (((sd.set i (some (.val (.str r.1)))).set j (some (.val (.str r.2.1)))).set k (some (.val (rwD r.2.2)))) := rfl
@[simp] theorem keyOf_str (x : Str) : keyOf (.str x) = some (.inr x) := rfl
/-! a dict whose keys are texts -/
def dT (t : List (Str × Int)) : D := .dct (t.map fun p => .inr p.1) (t.map fun p => .int p.2)
def lkT (t : List (Str × Int)) (x : Str) : Option Int := (t.find? fun p => decide (p.1 = x)).map (·.2)
theorem inr_iff {a b : Str} : ((Sum.inr a : Key) = .inr b) ↔ a = b := ⟨fun z => by injection z, fun z => by rw [z]⟩
theorem val_T : ∀ (t : List (Str × Int)) (x : Str), valD (t.map fun p => .inr p.1) (t.map fun p => .int p.2) (.inr x) = (lkT t x).map .int
  | [], _ => rfl
  | p :: t, x => by
    rw [List.map_cons, List.map_cons]
    unfold valD lkT
    rw [List.find?_cons]
    by_cases h : p.1 = x
    · rw [if_pos (inr_iff.mpr h), decide_eq_true h]
      rfl
    · rw [if_neg (fun z => h (inr_iff.mp z)), decide_eq_false h]
      exact val_T t x
@[simp] theorem gIx_T (t : List (Str × Int)) (x : Str) : gIx (dT t) (.str x) = (lkT t x).map .int := val_T t x
@[simp] theorem gIn_T (neg : Bool) (t : List (Str × Int)) (x : Str) : gIn neg (.str x) (dT t) = some (.bl (if neg then !(lkT t x).isSome else (lkT t x).isSome)) := by
  show some (D.bl (if neg then !(valD (t.map fun p => .inr p.1) (t.map fun p => .int p.2) (.inr x)).isSome else (valD (t.map fun p => .inr p.1) (t.map fun p => .int p.2) (.inr x)).isSome)) = _
  rw [val_T, Option.isSome_map]
theorem hasK_T (t : List (Str × Int)) (x : Str) : hasK (.inr x) (t.map fun p => .inr p.1) = t.any fun p => decide (p.1 = x) := by
  unfold hasK
  rw [List.any_map]
  congr 1
  funext p
  exact decide_eq_decide.mpr inr_iff
theorem put_T {t : List (Str × Int)} {x : Str} (h : x ∉ t.map (·.1)) (v : Int) : D.dct (putKs (t.map fun p => .inr p.1) (.inr x)) (putDs (t.map fun p => .inr p.1) (t.map fun p => .int p.2) (.inr x) (.int v)) = dT (t ++ [(x, v)]) := by
  have hk : hasK (.inr x) (t.map fun p => .inr p.1) = false := by
    rw [hasK_T, List.any_eq_false]
    intro p hp z
    exact h (List.mem_map.mpr ⟨p, hp, of_decide_eq_true z⟩)
  unfold putKs putDs dT
  rw [hk, if_neg (by simp), if_neg (by simp), List.map_append, List.map_append]
  rfl
theorem lk_none {t : List (Str × Int)} {x : Str} : lkT t x = none ↔ x ∉ t.map (·.1) := by
  unfold lkT
  rw [Option.map_eq_none_iff, List.find?_eq_none]
  constructor
  · intro h z
    obtain ⟨p, hp, e⟩ := List.mem_map.mp z
    exact h p hp (decide_eq_true e)
  · intro h p hp z
    exact h (List.mem_map.mpr ⟨p, hp, of_decide_eq_true z⟩)
theorem lk_app {a b : List (Str × Int)} {x : Str} (h : x ∉ a.map (·.1)) : lkT (a ++ b) x = lkT b x := by
  unfold lkT
  rw [List.find?_append, show a.find? (fun p => decide (p.1 = x)) = none from Option.map_eq_none_iff.mp (lk_none.mpr h)]
  rfl
theorem lk_at (x : Str) (v : Int) (b : List (Str × Int)) : lkT ((x, v) :: b) x = some v := by
  unfold lkT
  rw [List.find?_cons, decide_eq_true rfl]
  rfl
def isP (how : Str) : Bool := !(decide (how = "all") || decide (how = "first"))
def wt1 (t : List (Str × Int)) (p : Pl) : Int := p.rows.length + ((p.rows.filter fun r => isP r.2.1).map fun r => (lkT t r.2.1).getD 0).sum
def wtS (t : List (Str × Int)) (p : Pl) : List (Str × Int) := t ++ [(p.name, wt1 t p)]
def wtF (ps : List Pl) : List (Str × Int) := ps.foldl wtS []
theorem wt_snoc (ps : List Pl) (p : Pl) : wtF (ps ++ [p]) = wtF ps ++ [(p.name, wt1 (wtF ps) p)] := by
  unfold wtF
  rw [List.foldl_append]
  rfl
theorem wt_more : ∀ (l : List Pl) (t : List (Str × Int)), ∃ u, l.foldl wtS t = t ++ u
  | [], t => ⟨[], by simp⟩
  | p :: l, t => by
    obtain ⟨u, e⟩ := wt_more l (wtS t p)
    exact ⟨(p.name, wt1 t p) :: u, by rw [List.foldl_cons, e]; unfold wtS; simp⟩
theorem wt_keys : ∀ (l : List Pl) (t : List (Str × Int)), (l.foldl wtS t).map (·.1) = t.map (·.1) ++ l.map (·.name)
  | [], t => by simp
  | p :: l, t => by
    rw [List.foldl_cons, wt_keys l]
    unfold wtS
    simp
theorem wt_keys0 (l : List Pl) : (wtF l).map (·.1) = l.map (·.name) := by
  unfold wtF
  rw [wt_keys]
  rfl
theorem WB.fresh {ps : List Pl} (W : WB ps) {i : Nat} {p : Pl} (hi : ps[i]? = some p) : p.name ∉ (wtF (ps.take i)).map (·.1) := by
  rw [wt_keys0]
  intro z
  have hlt : i < ps.length := (List.getElem?_eq_some_iff.mp hi).1
  obtain ⟨y, hy, e⟩ := List.mem_map.mp z
  obtain ⟨j, hj, ej⟩ := List.getElem_of_mem hy
  rw [List.length_take] at hj
  have nd := List.pairwise_iff_getElem.mp (List.pairwise_map.mp W.nd) j i (by omega) hlt (by omega)
  rw [List.getElem_take] at ej
  apply nd
  rw [ej, e, (List.getElem?_eq_some_iff.mp hi).2]
theorem WB.at {ps : List Pl} (W : WB ps) {i : Nat} {p : Pl} (hi : ps[i]? = some p) : lkT (wtF ps) p.name = some (wt1 (wtF (ps.take i)) p) := by
  have hlt : i < ps.length := (List.getElem?_eq_some_iff.mp hi).1
  have e : wtF ps = (ps.drop (i + 1)).foldl wtS (wtF (ps.take i) ++ [(p.name, wt1 (wtF (ps.take i)) p)]) := by
    rw [← wt_snoc]
    unfold wtF
    rw [← List.foldl_append]
    congr 1
    have tk : ps.take (i + 1) = ps.take i ++ [p] := by rw [List.take_succ, hi]; rfl
    rw [← tk, List.take_append_drop]
  obtain ⟨u, hu⟩ := wt_more (ps.drop (i + 1)) (wtF (ps.take i) ++ [(p.name, wt1 (wtF (ps.take i)) p)])
  rw [e, hu, List.append_assoc, lk_app (W.fresh hi)]
  exact lk_at _ _ _
theorem WB.part {ps : List Pl} (W : WB ps) {i : Nat} {p : Pl} (hi : ps[i]? = some p) {r : Str × Str × List (Int × Int)} (hr : r ∈ p.rows) : (lkT (wtF (ps.take i)) r.2.1).isSome = isP r.2.1 := by
  have out : ∀ w : Str, (∀ y ∈ ps, y.name ≠ w) → lkT (wtF (ps.take i)) w = none := fun w hw => lk_none.mpr (by
    rw [wt_keys0]
    intro z
    obtain ⟨y, hy, e⟩ := List.mem_map.mp z
    exact hw y (List.mem_of_mem_take hy) e)
  rcases W.how i p hi r hr with z | z | z
  · rw [z, out "all" fun y hy => (W.ok y hy).2.2.1]
    decide +kernel
  · rw [z, out "first" fun y hy => (W.ok y hy).2.2.2]
    decide +kernel
  · have h1 : (lkT (wtF (ps.take i)) r.2.1).isSome = true := by
      cases h : lkT (wtF (ps.take i)) r.2.1 with
      | some v => rfl
      | none => exact absurd (by rw [wt_keys0]; exact z) (lk_none.mp h)
    rw [h1]
    obtain ⟨y, hy, e⟩ := List.mem_map.mp z
    have ok := W.ok y (List.mem_of_mem_take hy)
    unfold isP
    rw [← e, decide_eq_false ok.2.2.1, decide_eq_false ok.2.2.2]
    rfl
theorem WB.hasc {ps : List Pl} (W : WB ps) {i : Nat} {p : Pl} (hi : ps[i]? = some p) {r : Str × Str × List (Int × Int)} (hr : r ∈ p.rows) : asc r.2.1 := by
  rcases W.how i p hi r hr with z | z | z
  · rw [z]; exact (lit_ok (n := 3) (by decide +kernel)).asc
  · rw [z]; exact (lit_ok (n := 5) (by decide +kernel)).asc
  · obtain ⟨y, hy, e⟩ := List.mem_map.mp z
    rw [← e]
    exact (W.ok y (List.mem_of_mem_take hy)).1.asc
theorem flat_ints {α : Type} (f : α → Int) (l : List α) : flatL (.lst (l.map fun r => D.int (f r))) = true := by
  show (l.map fun r => D.int (f r)).all flatD = true
  rw [List.all_eq_true]
  intro x hx
  obtain ⟨y, _, rfl⟩ := List.mem_map.mp hx
  rfl
theorem gSum_map {α : Type} (f : α → Int) (l : List α) : gSum [.lst (l.map fun r => D.int (f r))] = some (.int (l.map f).sum) := by
  rw [← gSum_ints, List.map_map]
  rfl
theorem wt_len {ps : List Pl} (W : WB ps) (i : Nat) : (wtF (ps.take i)).length ≤ 20 := by
  have e : (wtF (ps.take i)).length = ((wtF (ps.take i)).map (·.1)).length := by rw [List.length_map]
  rw [e, wt_keys0, List.length_map, List.length_take]
  have := W.l2
  omega

/-! books that are let -/
def isL (c : Nat) : Bool := decide (97 ≤ c) && decide (c < 123)
def isG (c : Nat) : Bool := decide (48 ≤ c) && decide (c < 58)
def kept : List Str := ["plan", "given", "all", "first", "part"]
def nameC (x : Str) : Bool := decide (1 ≤ x.length) && (decide (x.length ≤ 12) && ((kept.all fun w => !decide (w = x)) && (isL (x.cps.toList.headD 0) && x.cps.toList.all fun c => isL c || isG c)))
/-- a name, and of signs below 128 -/
def nmOk (x : Str) : Prop := TxtOk 12 x ∧ nameC x = true
def chkC (x : Str) : Bool := decide (x.length ≤ 12) && x.cps.all (· < 128) && nameC x
theorem chk_ok {x : Str} (h : chkC x = true) : nmOk x := by
  unfold chkC at h
  rw [Bool.and_eq_true] at h
  exact ⟨lit_ok h.1, h.2⟩
theorem chk_all {l : List Str} (h : l.all chkC = true) : ∀ x ∈ l, nmOk x := fun x hx => chk_ok (List.all_eq_true.mp h x hx)
def okC (x : Str) : Prop := ∀ c ∈ x.cps.toList, (isL c || isG c) = true
theorem isL_of {c : Nat} (h : 97 ≤ c ∧ c < 123) : isL c = true := by
  unfold isL
  rw [decide_eq_true h.1, decide_eq_true h.2]
  rfl
theorem okC_low {x : Str} (h : low x) : okC x := fun c hc => by rw [isL_of (h c hc)]; rfl
theorem okC_app {a b : Str} (ha : okC a) (hb : okC b) : okC (a ++ b) := fun c hc => by
  rw [cps_app] at hc
  rcases List.mem_append.mp hc with h | h
  · exact ha c h
  · exact hb c h
theorem dig_chk : ∀ k : Fin 60, ((digF k.val).cps.toList.all fun c => isL c || isG c) = true := by decide +kernel
theorem okC_dig {k : Nat} (h : k < 60) : okC (digF k) := fun c hc => List.all_eq_true.mp (dig_chk ⟨k, h⟩) c hc
theorem low_spot (k : Nat) : low (spotF k) := low_app (low_let (Nat.mod_lt _ (by omega))) (low_let (Nat.mod_lt _ (by omega)))
theorem low_x : low "x" ∧ low "y" ∧ low "q" := by
  have h : ∀ w : Str, (w.cps.toList.all isL) = true → low w := fun w h c hc => by
    have := List.all_eq_true.mp h c hc
    unfold isL at this
    rw [Bool.and_eq_true, decide_eq_true_eq, decide_eq_true_eq] at this
    exact this
  exact ⟨h _ (by decide +kernel), h _ (by decide +kernel), h _ (by decide +kernel)⟩
theorem nm_okC {q : Int} {base : Str} {k : Nat} (hk : k < 60) (lb : low base) : okC (nmF q base k) := by
  obtain ⟨hx, hy, hq⟩ := low_x
  unfold nmF
  repeat' split
  · exact okC_app (okC_app (okC_low hx) (okC_low lb)) (okC_dig hk)
  · exact okC_app (okC_app (okC_low hy) (okC_dig hk)) (okC_low lb)
  · exact okC_app (okC_app (okC_low hq) (okC_low lb)) (okC_low (low_spot k))
  · exact okC_app (okC_app (okC_low (low_spot k)) (okC_low hq)) (okC_low lb)
theorem nm_head (q : Int) (base : Str) (k : Nat) : isL ((nmF q base k).cps.toList.headD 0) = true := by
  have hx : ("x" : Str).cps.toList = [120] := by decide +kernel
  have hy : ("y" : Str).cps.toList = [121] := by decide +kernel
  have hq : ("q" : Str).cps.toList = [113] := by decide +kernel
  unfold nmF
  split
  · rw [cps_app, cps_app, hx]; rfl
  · split
    · rw [cps_app, cps_app, hy]; rfl
    · split
      · rw [cps_app, cps_app, hq]; rfl
      · have hs : (spotF k).cps.toList = [97 + k % 26, 97 + k / 26 % 26] := by
          unfold spotF
          rw [cps_app]
          rfl
        rw [cps_app, cps_app, hs]
        show isL (97 + k % 26) = true
        exact isL_of (by omega)
theorem nm_nmOk {q : Int} {base : Str} {k : Nat} (hk : k < 60) (hb : TxtOk 9 base) (lb : low base) : nmOk (nmF q base k) := by
  have h1 := nm_ok (q := q) (k := k) (by omega) hb
  refine ⟨h1, ?_⟩
  have h2 := nm_pos q base k
  have h3 := h1.len
  have h4 : (kept.all fun w => !decide (w = nmF q base k)) = true := by
    rw [List.all_eq_true]
    intro w hw
    have hs : signs w.cps.toList = false := by
      have : (kept.all fun w => !signs w.cps.toList) = true := by decide +kernel
      have := List.all_eq_true.mp this w hw
      simpa using this
    rw [decide_eq_false fun z => nm_ne (q := q) (base := base) (k := k) hs z.symm]
    rfl
  have h5 : ((nmF q base k).cps.toList.all fun c => isL c || isG c) = true := List.all_eq_true.mpr (nm_okC hk lb)
  unfold nameC
  rw [decide_eq_true h2, decide_eq_true h3, h4, nm_head, h5]
  rfl
theorem nmOk.ne {x : Str} (h : nmOk x) : 1 ≤ x.length ∧ x ≠ "all" ∧ x ≠ "first" := by
  have h := h.2
  unfold nameC at h
  rw [Bool.and_eq_true, Bool.and_eq_true, Bool.and_eq_true, decide_eq_true_eq] at h
  have k := List.all_eq_true.mp h.2.2.1
  have ka := k "all" (by decide +kernel)
  have kf := k "first" (by decide +kernel)
  exact ⟨h.1, fun z => by rw [z] at ka; simp at ka, fun z => by rw [z] at kf; simp at kf⟩
/-- the plan is let behind these plans -/
structure PL (ahead : List Pl) (p : Pl) : Prop where
  nm : nmOk p.name
  fresh : ∀ q ∈ ahead, q.name ≠ p.name
  tn : ∀ x ∈ p.givens ++ p.rows.map (·.1), nmOk x
  td : (p.givens ++ p.rows.map (·.1)).Nodup
  g1 : 1 ≤ p.givens.length
  g2 : p.givens.length ≤ 12
  r1 : 1 ≤ p.rows.length
  r2 : p.rows.length ≤ 40
  its : ∀ (k : Nat) (r : Str × Str × List (Int × Int)), p.rows[k]? = some r → ItOk ((p.givens.length : Int) + k) r.2.2 ∧ 1 ≤ r.2.2.length ∧ r.2.2.length ≤ 40
  how : ∀ r ∈ p.rows, HowOk (partsOf ahead) r.2.1 r.2.2.length
  wt : wt1 (wtF ahead) p ≤ 2000
def LB (ps : List Pl) : Prop := ∀ (i : Nat) (p : Pl), ps[i]? = some p → PL (ps.take i) p
theorem LB.snoc {ps : List Pl} {p : Pl} (h : LB ps) (hp : PL ps p) : LB (ps ++ [p]) := fun k x hk => by
  by_cases z : k < ps.length
  · rw [List.getElem?_append_left z] at hk
    rw [List.take_append_of_le_length (by omega)]
    exact h k x hk
  · rw [List.getElem?_append_right (by omega)] at hk
    have kz : k - ps.length = 0 := by
      cases e : k - ps.length with
      | zero => rfl
      | succ j => rw [e] at hk; simp at hk
    rw [kz] at hk
    cases hk
    have : k = ps.length := by omega
    rw [this, List.take_left' rfl]
    exact hp
theorem LB.mem {ps : List Pl} (h : LB ps) {p : Pl} (hp : p ∈ ps) : ∃ i, PL (ps.take i) p := by
  obtain ⟨i, hi⟩ := List.getElem?_of_mem hp
  exact ⟨i, h i p hi⟩
theorem LB.wb {ps : List Pl} (h : LB ps) (l1 : 1 ≤ ps.length) (l2 : ps.length ≤ 20) : WB ps := by
  refine ⟨l1, l2, ?_, fun p hp => ?_, fun i p hi r hr => ?_, fun p hp => ?_⟩
  · rw [List.nodup_iff_pairwise_ne, List.pairwise_map, List.pairwise_iff_getElem]
    intro i j hi hj hij
    refine (h j ps[j] (List.getElem?_eq_getElem hj)).fresh ps[i] ?_
    exact List.mem_of_getElem? (i := i) (by rw [List.getElem?_take, if_pos hij]; exact List.getElem?_eq_getElem hi)
  · obtain ⟨i, P⟩ := h.mem hp
    obtain ⟨a, b, c⟩ := P.nm.ne
    exact ⟨P.nm.1, a, b, c⟩
  · rcases (h i p hi).how r hr with z | z | z
    · exact .inl z
    · exact .inr (.inl z)
    · obtain ⟨y, hy, ey⟩ := List.mem_map.mp z
      exact .inr (.inr (List.mem_map.mpr ⟨y, hy, congrArg Prod.fst ey⟩))
  · obtain ⟨i, P⟩ := h.mem hp
    exact ⟨P.r2, P.g2⟩
theorem wt_mem {ps : List Pl} : ∀ n, ∀ q ∈ wtF (ps.take n), ∃ i p, ps[i]? = some p ∧ q = (p.name, wt1 (wtF (ps.take i)) p)
  | 0, q, h => by rw [List.take_zero] at h; cases h
  | n + 1, q, h => by
    cases hp : ps[n]? with
    | none =>
      have l := List.getElem?_eq_none_iff.mp hp
      rw [List.take_of_length_le (show ps.length ≤ n + 1 by omega)] at h
      have e : ps.take n = ps := List.take_of_length_le l
      exact wt_mem n q (by rw [e]; exact h)
    | some p =>
      have tk : ps.take (n + 1) = ps.take n ++ [p] := by rw [List.take_succ, hp]; rfl
      rw [tk, wt_snoc] at h
      rcases List.mem_append.mp h with z | z
      · exact wt_mem n q z
      · exact ⟨n, p, hp, List.mem_singleton.mp z⟩
theorem LB.wts {ps : List Pl} (h : LB ps) : ∀ q ∈ wtF ps, q.2 ≤ 2000 := fun q hq => by
  obtain ⟨i, p, hi, e⟩ := wt_mem ps.length q (by rw [List.take_length]; exact hq)
  rw [e]
  exact (h i p hi).wt
theorem sum_le {α : Type} {f : α → Int} {M : Int} : ∀ l : List α, (∀ x ∈ l, 0 ≤ f x ∧ f x ≤ M) → 0 ≤ (l.map f).sum ∧ (l.map f).sum ≤ l.length * M
  | [], _ => by simp
  | x :: l, h => by
    obtain ⟨a, b⟩ := sum_le l fun y hy => h y (List.mem_cons_of_mem _ hy)
    obtain ⟨c, d⟩ := h x List.mem_cons_self
    rw [List.map_cons, List.sum_cons, List.length_cons, Int.natCast_succ, Int.add_mul, Int.one_mul]
    omega
theorem lk_le {t : List (Str × Int)} {M : Int} (h0 : 0 ≤ M) (h : ∀ q ∈ t, 0 ≤ q.2 ∧ q.2 ≤ M) (x : Str) : 0 ≤ (lkT t x).getD 0 ∧ (lkT t x).getD 0 ≤ M := by
  unfold lkT
  cases e : t.find? fun p => decide (p.1 = x) with
  | none => exact ⟨Int.le_refl _, h0⟩
  | some q => exact h q (List.mem_of_find?_eq_some e)
theorem wt1_le {t : List (Str × Int)} {M : Int} (h0 : 0 ≤ M) (h : ∀ q ∈ t, 0 ≤ q.2 ∧ q.2 ≤ M) (p : Pl) : 0 ≤ wt1 t p ∧ wt1 t p ≤ p.rows.length + p.rows.length * M := by
  obtain ⟨a, b⟩ := sum_le (f := fun r : Str × Str × List (Int × Int) => (lkT t r.2.1).getD 0) (M := M) (p.rows.filter fun r => isP r.2.1) fun r _ => lk_le h0 h r.2.1
  have l : (((p.rows.filter fun r => isP r.2.1).length : Nat) : Int) ≤ (p.rows.length : Int) := by
    have := List.length_filter_le (fun r : Str × Str × List (Int × Int) => isP r.2.1) p.rows
    omega
  have m := Int.mul_le_mul_of_nonneg_right l h0
  unfold wt1
  omega
def bnd : Nat → Int
  | 0 => 0
  | n + 1 => 6 + 6 * bnd n
theorem bnd_0 : ∀ n, 0 ≤ bnd n
  | 0 => Int.le_refl _
  | n + 1 => by have := bnd_0 n; unfold bnd; omega
theorem bnd_s (n : Nat) : bnd n ≤ bnd (n + 1) := by have := bnd_0 n; show bnd n ≤ 6 + 6 * bnd n; omega
theorem wt_six {t : List (Str × Int)} {n : Nat} (h : ∀ q ∈ t, 0 ≤ q.2 ∧ q.2 ≤ bnd n) {p : Pl} (hp : p.rows.length ≤ 6) : 0 ≤ wt1 t p ∧ wt1 t p ≤ bnd (n + 1) := by
  obtain ⟨a, b⟩ := wt1_le (bnd_0 n) h p
  have l : ((p.rows.length : Nat) : Int) ≤ 6 := by omega
  have m := Int.mul_le_mul_of_nonneg_right l (bnd_0 n)
  refine ⟨a, ?_⟩
  show wt1 t p ≤ 6 + 6 * bnd n
  omega
theorem wt_bnd {ps : List Pl} (h : ∀ p ∈ ps, p.rows.length ≤ 6) : ∀ n, ∀ q ∈ wtF (ps.take n), 0 ≤ q.2 ∧ q.2 ≤ bnd n
  | 0, q, hq => by rw [List.take_zero] at hq; cases hq
  | n + 1, q, hq => by
    have ih := wt_bnd h n
    cases hp : ps[n]? with
    | none =>
      have l := List.getElem?_eq_none_iff.mp hp
      rw [List.take_of_length_le (show ps.length ≤ n + 1 by omega)] at hq
      rw [List.take_of_length_le l] at ih
      obtain ⟨a, b⟩ := ih q hq
      have := bnd_s n
      exact ⟨a, by omega⟩
    | some p =>
      have tk : ps.take (n + 1) = ps.take n ++ [p] := by rw [List.take_succ, hp]; rfl
      rw [tk, wt_snoc] at hq
      rcases List.mem_append.mp hq with z | z
      · obtain ⟨a, b⟩ := ih q z
        have := bnd_s n
        exact ⟨a, by omega⟩
      · rw [List.mem_singleton.mp z]
        exact wt_six ih (h p (List.mem_of_getElem? hp))
theorem parts_mem {ps : List Pl} {p : Pl} (h : p ∈ ps) : (p.name, (p.givens.length : Int)) ∈ partsOf ps := List.mem_map.mpr ⟨p, h, rfl⟩
/-- the one item of the rows that are added -/
abbrev oneI : List (Int × Int) := [(0, 0)]
theorem one_its (g : Nat) (k : Nat) (w : Int) (hg : 1 ≤ g) (h1 : -1000000000000000000000000000000 < w) (h2 : w < 1000000000000000000000000000000) : ItOk ((g : Int) + k) [(0, w)] :=
  ⟨fun p hp => by rw [List.mem_singleton.mp hp]; exact ⟨Int.le_refl _, by show (0 : Int) < (g : Int) + k; omega⟩, fun p hp => by rw [List.mem_singleton.mp hp]; exact ⟨h1, h2⟩⟩
def grP (k : Nat) : Pl := ⟨"t" ++ digF k, [("g" : Str)], [(("r" : Str), ("first" : Str), [((0 : Int), (k : Int))])]⟩
def hP1 : Pl := ⟨"h1", [("g" : Str)], (List.range 40).map fun k => ("r" ++ digF k, ("all" : Str), oneI)⟩
def hP2 : Pl := ⟨"h2", [("g" : Str)], (List.range 40).map fun k => ("r" ++ digF k, ("h1" : Str), oneI)⟩
def hR3 : List (Str × Str × List (Int × Int)) := (("r0" : Str), ("h2" : Str), oneI) :: (List.range 8).map fun k => ("r" ++ digF (k + 1), ("h1" : Str), oneI)
def hP3 : Pl := ⟨"h3", [("g" : Str)], hR3 ++ (List.range 31).map fun k => ("s" ++ digF k, ("first" : Str), oneI)⟩
theorem hv_pl {ahead : List Pl} {p : Pl} (nm : nmOk p.name) (fr : ∀ q ∈ ahead, q.name ≠ p.name) (g : p.givens = [("g" : Str)]) (tn : (p.givens ++ p.rows.map (·.1)).all chkC = true) (td : (p.givens ++ p.rows.map (·.1)).Nodup) (rl : p.rows.length = 40) (it : ∀ r ∈ p.rows, r.2.2 = oneI) (how : ∀ r ∈ p.rows, r.2.1 = "all" ∨ r.2.1 = "first" ∨ (r.2.1, (1 : Int)) ∈ partsOf ahead) (wt : wt1 (wtF ahead) p ≤ 2000) : PL ahead p := by
  refine ⟨nm, fr, chk_all tn, td, by rw [g]; decide, by rw [g]; decide, by omega, by omega, fun k r hk => ?_, fun r hr => ?_, wt⟩
  · have e := it r (List.mem_of_getElem? hk)
    rw [e, g]
    exact ⟨one_its 1 k 0 (by omega) (by omega) (by omega), by decide, by decide⟩
  · rw [it r hr]
    exact how r hr
theorem lk_last {t : List (Str × Int)} {x : Str} (h : x ∉ t.map (·.1)) (v : Int) : lkT (t ++ [(x, v)]) x = some v := by
  rw [lk_app h]
  exact lk_at _ _ _
theorem lk_skip {t : List (Str × Int)} {x y : Str} (h : y ≠ x) (v : Int) : lkT (t ++ [(y, v)]) x = lkT t x := by
  unfold lkT
  rw [List.find?_append]
  have : [(y, v)].find? (fun p => decide (p.1 = x)) = none := by
    rw [List.find?_cons, decide_eq_false h]
    rfl
  rw [this]
  cases t.find? (fun p => decide (p.1 = x)) <;> rfl
theorem wt_by {t : List (Str × Int)} {p : Pl} {ws : List Str} (h : (p.rows.filter fun r => isP r.2.1).map (·.2.1) = ws) : wt1 t p = p.rows.length + (ws.map fun w => (lkT t w).getD 0).sum := by
  unfold wt1
  rw [← h, List.map_map]
  rfl
theorem lb_heavy {ps : List Pl} (h : LB ps) (hn : ∀ p ∈ ps, p.name ≠ "h1" ∧ p.name ≠ "h2" ∧ p.name ≠ "h3") : LB (ps ++ [hP1, hP2, hP3]) := by
  have n1 : ("h1" : Str) ∉ (wtF ps).map (·.1) := by
    rw [wt_keys0]
    intro z
    obtain ⟨p, hp, e⟩ := List.mem_map.mp z
    exact (hn p hp).1 e
  have w1 : wt1 (wtF ps) hP1 = 40 := by
    rw [wt_by (ws := []) (by decide +kernel), List.map_nil, show hP1.rows.length = 40 by decide +kernel]
    rfl
  have L1 : LB (ps ++ [hP1]) := h.snoc (hv_pl (chk_ok (by decide +kernel)) (fun q hq => (hn q hq).1) rfl (by decide +kernel) (by decide +kernel) (by decide +kernel) (fun r hr => by
    obtain ⟨k, _, rfl⟩ := List.mem_map.mp hr
    rfl) (fun r hr => by
    obtain ⟨k, _, rfl⟩ := List.mem_map.mp hr
    exact .inl rfl) (by rw [w1]; omega))
  have t1 : wtF (ps ++ [hP1]) = wtF ps ++ [(("h1" : Str), (40 : Int))] := by rw [wt_snoc, w1]; rfl
  have k1 : lkT (wtF (ps ++ [hP1])) "h1" = some 40 := by rw [t1]; exact lk_last n1 _
  have w2 : wt1 (wtF (ps ++ [hP1])) hP2 = 1640 := by
    rw [wt_by (ws := List.replicate 40 "h1") (by decide +kernel), List.map_replicate, k1]
    decide +kernel
  have L2 : LB (ps ++ [hP1] ++ [hP2]) := L1.snoc (hv_pl (chk_ok (by decide +kernel)) (fun q hq => by
    rcases List.mem_append.mp hq with z | z
    · exact (hn q z).2.1
    · rw [List.mem_singleton.mp z]; decide +kernel) rfl (by decide +kernel) (by decide +kernel) (by decide +kernel) (fun r hr => by
    obtain ⟨k, _, rfl⟩ := List.mem_map.mp hr
    rfl) (fun r hr => by
    obtain ⟨k, _, rfl⟩ := List.mem_map.mp hr
    exact .inr (.inr (parts_mem (p := hP1) (by simp)))) (by rw [w2]; omega))
  have n2 : ("h2" : Str) ∉ (wtF (ps ++ [hP1])).map (·.1) := by
    rw [wt_keys0]
    intro z
    obtain ⟨p, hp, e⟩ := List.mem_map.mp z
    rcases List.mem_append.mp hp with y | y
    · exact (hn p y).2.1 e
    · rw [List.mem_singleton.mp y] at e
      exact absurd e (by decide +kernel)
  have t2 : wtF (ps ++ [hP1] ++ [hP2]) = wtF (ps ++ [hP1]) ++ [(("h2" : Str), (1640 : Int))] := by rw [wt_snoc, w2]; rfl
  have k2 : lkT (wtF (ps ++ [hP1] ++ [hP2])) "h2" = some 1640 := by rw [t2]; exact lk_last n2 _
  have k3 : lkT (wtF (ps ++ [hP1] ++ [hP2])) "h1" = some 40 := by rw [t2, lk_skip (by decide +kernel)]; exact k1
  have w3 : wt1 (wtF (ps ++ [hP1] ++ [hP2])) hP3 = 2000 := by
    rw [wt_by (ws := "h2" :: List.replicate 8 "h1") (by decide +kernel), List.map_cons, List.map_replicate, k2, k3]
    decide +kernel
  have L3 : LB (ps ++ [hP1] ++ [hP2] ++ [hP3]) := L2.snoc (hv_pl (chk_ok (by decide +kernel)) (fun q hq => by
    rcases List.mem_append.mp hq with z | z
    · rcases List.mem_append.mp z with y | y
      · exact (hn q y).2.2
      · rw [List.mem_singleton.mp y]; decide +kernel
    · rw [List.mem_singleton.mp z]; decide +kernel) rfl (by decide +kernel) (by decide +kernel) (by decide +kernel) (fun r hr => by
    rcases List.mem_append.mp hr with z | z
    · rcases List.mem_cons.mp z with rfl | y
      · rfl
      · obtain ⟨k, _, rfl⟩ := List.mem_map.mp y
        rfl
    · obtain ⟨k, _, rfl⟩ := List.mem_map.mp z
      rfl) (fun r hr => by
    rcases List.mem_append.mp hr with z | z
    · rcases List.mem_cons.mp z with rfl | y
      · exact .inr (.inr (parts_mem (p := hP2) (by simp)))
      · obtain ⟨k, _, rfl⟩ := List.mem_map.mp y
        exact .inr (.inr (parts_mem (p := hP1) (by simp)))
    · obtain ⟨k, _, rfl⟩ := List.mem_map.mp z
      exact .inr (.inl rfl)) (by rw [w3]; omega))
  rw [List.append_assoc, List.append_assoc] at L3
  exact L3
theorem t_chk : ∀ k : Fin 60, chkC ("t" ++ digF k.val) = true ∧ signs ("t" ++ digF k.val).cps.toList = false := by decide +kernel
theorem lb_grown {ps : List Pl} (h : LB ps) (hn : ∀ p ∈ ps, ∀ k, k < 60 → p.name ≠ "t" ++ digF k) : ∀ n, n ≤ 20 → LB (ps ++ (List.range n).map grP)
  | 0, _ => by rw [List.range_zero, List.map_nil, List.append_nil]; exact h
  | n + 1, hle => by
    have ih := lb_grown h hn n (by omega)
    rw [List.range_succ, List.map_append, ← List.append_assoc]
    refine ih.snoc ⟨chk_ok (t_chk ⟨n, by omega⟩).1, fun q hq => ?_, chk_all (l := ["g", "r"]) (by decide +kernel), (by decide +kernel : (["g", "r"] : List Str).Nodup), Nat.le_refl _, (by decide : 1 ≤ 12), Nat.le_refl _, (by decide : 1 ≤ 40), fun k r hk => ?_, fun r hr => ?_, ?_⟩
    · rcases List.mem_append.mp hq with z | z
      · exact hn q z n (by omega)
      · obtain ⟨a, ha, rfl⟩ := List.mem_map.mp z
        have ha := List.mem_range.mp ha
        intro e
        have e : ("t" ++ digF a).cps.toList = ("t" ++ digF n).cps.toList := by
          have e : "t" ++ digF a = "t" ++ digF n := e
          rw [e]
        rw [cps_app, cps_app, List.append_cancel_left_eq] at e
        have := nodup_inj dig_low (by omega) (by omega) e
        omega
    · have e : r = (("r" : Str), ("first" : Str), [((0 : Int), (n : Int))]) := List.mem_singleton.mp (List.mem_of_getElem? hk)
      rw [e]
      exact ⟨one_its 1 k n (Nat.le_refl _) (by omega) (by omega), Nat.le_refl _, (by decide : 1 ≤ 40)⟩
    · rw [List.mem_singleton.mp hr]
      exact .inr (.inl rfl)
    · rw [wt_by (ws := []) (by
        show (([(("r" : Str), ("first" : Str), [((0 : Int), (n : Int))])] : List (Str × Str × List (Int × Int))).filter fun r => isP r.2.1).map (·.2.1) = []
        have : isP "first" = false := by decide +kernel
        simp [this])]
      show ((1 : Nat) : Int) + 0 ≤ 2000
      omega
/-- all of it is plain -/
theorem LB.plain {ps : List Pl} (h : LB ps) : plN 12 (.lst (ps.map planT)) = true := by
  show (ps.map planT).all (plN 11) = true
  rw [List.all_eq_true]
  intro x hx
  obtain ⟨p, hp, rfl⟩ := List.mem_map.mp hx
  obtain ⟨i, P⟩ := h.mem hp
  have hasc : ∀ r ∈ p.rows, asc r.1 ∧ asc r.2.1 := fun r hr => by
    refine ⟨(P.tn r.1 (List.mem_append_right _ (List.mem_map.mpr ⟨r, hr, rfl⟩))).1.asc, ?_⟩
    rcases P.how r hr with z | z | z
    · rw [z]; exact (lit_ok (n := 3) (by decide +kernel)).asc
    · rw [z]; exact (lit_ok (n := 5) (by decide +kernel)).asc
    · obtain ⟨y, hy, ey⟩ := List.mem_map.mp z
      obtain ⟨j, Q⟩ := h.mem (List.mem_of_mem_take hy)
      rw [← congrArg Prod.fst ey]
      exact Q.nm.1.asc
  have a1 : plN 10 (.lst (p.givens.map .str)) = true := by
    show (p.givens.map D.str).all (plN 9) = true
    rw [List.all_eq_true]
    intro y hy
    obtain ⟨z, hz, rfl⟩ := List.mem_map.mp hy
    exact str_pl (n := 8) (P.tn z (List.mem_append_left _ hz)).1.asc
  have a2 : plN 10 (.lst (p.rows.map rowD)) = true := by
    show (p.rows.map rowD).all (plN 9) = true
    rw [List.all_eq_true]
    intro y hy
    obtain ⟨r, hr, rfl⟩ := List.mem_map.mp hy
    obtain ⟨b1, b2⟩ := hasc r hr
    show [D.str r.1, D.str r.2.1, rwD r.2.2].all (plN 8) = true
    rw [List.all_cons, List.all_cons, List.all_cons, str_pl (n := 7) b1, str_pl (n := 7) b2, pl_rw 5]
    rfl
  show [D.str p.name, D.lst (p.givens.map .str), D.lst (p.rows.map rowD)].all (plN 10) = true
  rw [List.all_cons, List.all_cons, List.all_cons, str_pl (n := 9) P.nm.1.asc, a1, a2]
  rfl

noncomputable def I_Book : List D → Res (List D) := runI 2 2 (dCons (dBlt gList (dCons (dVar 1) dNil)) dNil)
noncomputable def I_Plan : List D → Res (List D) := runI 4 4 (dCons (dVar 1) (dCons (dBlt gList (dCons (dVar 2) dNil)) (dCons (dBlt gList (dCons (dVar 3) dNil)) dNil)))
noncomputable def G_law_book : FS := (sRet (dMake "Book" ["plans"] I_Book (dCons (dComp [none] (iS (dVar 0)) (.one 0) (dMake "Plan" ["name", "givens", "rows"] I_Plan (dCons (dOp gIx (dVar 0) (dC (.int 0))) (dCons (dBlt gList (dCons (dOp gIx (dVar 0) (dC (.int 1))) dNil)) (dCons (dBlt gList (dCons (dOp gIx (dVar 0) (dC (.int 2))) dNil)) dNil))))) dNil)))
noncomputable def F_law_book : List D → Res D := runN 1 1 G_law_book
theorem f_law_book {ps : List Pl} (h : ps.length ≤ 60) : F_law_book [.lst (ps.map planT)] = .ok (bookD ps) := by
  have key : mapE (.one 0) (dMake "Plan" ["name", "givens", "rows"] I_Plan (dCons (dOp gIx (dVar 0) (dC (.int 0))) (dCons (dBlt gList (dCons (dOp gIx (dVar 0) (dC (.int 1))) dNil)) (dCons (dBlt gList (dCons (dOp gIx (dVar 0) (dC (.int 2))) dNil)) dNil)))) [none] (ps.map planT) = .ok (ps.map planI) := mapE_ok fun p _ => by
    simp [I_Plan, runI, startD, planI]
  have hz := small_lt (show ps.length ≤ 1000 by omega)
  simp [F_law_book, G_law_book, key, hz, I_Book, runI, startD, bookD]

noncomputable def G_law_cell_at : FS := (sSeq (sIf (dBool (dOp gLt (dVar 1) (dBlt gLen (dCons (dVar 0) dNil)))) (sRet (dOp gIx (dVar 0) (dVar 1))) sNext) (sRet (dC (.int 0))))
noncomputable def F_law_cell_at : List D → Res D := runD 2 2 G_law_cell_at
theorem f_law_cell_at (ns : List Int) (k : Nat) : F_law_cell_at [.scr ns, .int k] = .ok (.int (cellF ns k)) := by
  unfold cellF
  rw [Int.toNat_natCast]
  by_cases h : k < ns.length
  · have e : atI ns (k : Int) = some ns[k] := by rw [atI_nat h]; exact List.getElem?_eq_getElem h
    have e2 : ns.getD k 0 = ns[k] := by rw [List.getD_eq_getElem?_getD, List.getElem?_eq_getElem h]; rfl
    rw [e2]
    simp [F_law_cell_at, G_law_cell_at, h, e]
  · have e2 : ns.getD k 0 = 0 := by rw [List.getD_eq_getElem?_getD, List.getElem?_eq_none (by omega)]; rfl
    rw [e2]
    simp [F_law_cell_at, G_law_cell_at, h]

noncomputable def G_law_fields : FS := (sRet (dComp [none] (iS (dUn (gFld "Book" "plans") (dVar 0))) (.one 0) (dTup (dCons (dUn (gFld "Plan" "name") (dVar 0)) (dCons (dUn (gFld "Plan" "givens") (dVar 0)) (dCons (dUn (gFld "Plan" "rows") (dVar 0)) dNil))))))
noncomputable def F_law_fields : List D → Res D := runN 1 1 G_law_fields
theorem f_law_fields {ps : List Pl} (h : ps.length ≤ 60) : F_law_fields [bookD ps] = .ok (.lst (ps.map planT)) := by
  have key : mapE (.one 0) (dTup (dCons (dUn (gFld "Plan" "name") (dVar 0)) (dCons (dUn (gFld "Plan" "givens") (dVar 0)) (dCons (dUn (gFld "Plan" "rows") (dVar 0)) dNil)))) [none] (ps.map planI) = .ok (ps.map planT) := mapE_ok fun p _ => by simp [planT]
  have hz := small_lt (show ps.length ≤ 1000 by omega)
  simp [F_law_fields, G_law_fields, key, hz]

noncomputable def G_law_grown : FS := (sSeq (sSet 2 (dComp [none] (iR1 (dCons (dOp gSub (dVar 1) (dBlt gLen (dCons (dVar 0) dNil))) dNil)) (.one 0) (dTup (dCons (dOp gAdd (dC (.str "t")) (dBlt gStr (dCons (dVar 0) dNil))) (dCons (dLst (dCons (dC (.str "g")) dNil)) (dCons (dLst (dCons (dTup (dCons (dC (.str "r")) (dCons (dC (.str "first")) (dCons (dTup (dCons (dTup (dCons (dC (.int 0)) (dCons (dVar 0) dNil))) dNil)) dNil)))) dNil)) dNil)))))) (sRet (dOp gAdd (dVar 0) (dVar 2))))
noncomputable def F_law_grown : List D → Res D := runD 3 2 G_law_grown
theorem f_law_grown {ps : List Pl} (h : ps.length ≤ 20) : F_law_grown [.lst (ps.map planT), .int 20] = .ok (.lst ((ps ++ (List.range (20 - ps.length)).map grP).map planT)) := by
  obtain ⟨n, hn⟩ : ∃ n, 20 - ps.length = n := ⟨_, rfl⟩
  rw [hn]
  have e0 : (20 : Int) - (ps.length : Int) = (n : Int) := by omega
  have r0 : range1 [.int n] = .ok (rangeD 0 n) := by rw [range1_int (by omega) (by omega), Int.toNat_natCast]
  have okt : TxtOk 1 "t" := lit_ok (by decide +kernel)
  have key : mapE (.one 0) (dTup (dCons (dOp gAdd (dC (.str "t")) (dBlt gStr (dCons (dVar 0) dNil))) (dCons (dLst (dCons (dC (.str "g")) dNil)) (dCons (dLst (dCons (dTup (dCons (dC (.str "r")) (dCons (dC (.str "first")) (dCons (dTup (dCons (dTup (dCons (dC (.int 0)) (dCons (dVar 0) dNil))) dNil)) dNil)))) dNil)) dNil)))) [none] (rangeD 0 n) = .ok ((List.range n).map fun k => planT (grP k)) := mapE_range fun i hi => by
    obtain ⟨gk, ok⟩ := gStr_dig (k := i) (by omega)
    have ga := gAdd_str okt ok (by omega)
    simp [gk, ga, planT, grP, rowD, rwD, prD]
  have hz : (rangeD 0 n).length < sizeLine := small_lt (by rw [range_len]; omega)
  obtain ⟨ys, hys⟩ : ∃ ys, ((List.range n).map fun k => planT (grP k)) = ys := ⟨_, rfl⟩
  have hl : ys.length = n := by rw [← hys, List.length_map, List.length_range]
  have ga : gAdd (.lst (ps.map planT)) (.lst ys) = some (.lst (ps.map planT ++ ys)) := if_pos (small (by rw [List.length_map]; omega))
  rw [hys] at key
  have ef : (ps ++ (List.range n).map grP).map planT = ps.map planT ++ ys := by rw [List.map_append, ← hys, List.map_map]; rfl
  rw [ef]
  simp [F_law_grown, G_law_grown, e0, r0, hz, key, ga]

noncomputable def G_law_heavy : FS := (sSeq (sSet 1 (dTup (dCons (dTup (dCons (dC (.int 0)) (dCons (dC (.int 0)) dNil))) dNil))) (sSeq (sSet 2 (dComp [none, some 1] (iR1 (dCons (dOp gSub (dC (.int 40)) (dVar 0)) dNil)) (.one 0) (dTup (dCons (dOp gAdd (dC (.str "r")) (dBlt gStr (dCons (dVar 0) dNil))) (dCons (dC (.str "all")) (dCons (dVar 1) dNil)))))) (sSeq (sSet 3 (dComp [none, some 1] (iR1 (dCons (dC (.int 40)) dNil)) (.one 0) (dTup (dCons (dOp gAdd (dC (.str "r")) (dBlt gStr (dCons (dVar 0) dNil))) (dCons (dC (.str "h1")) (dCons (dVar 1) dNil)))))) (sSeq (sOwn 4 (dOp gAddL (dLst (dCons (dTup (dCons (dC (.str "r0")) (dCons (dC (.str "h2")) (dCons (dVar 1) dNil)))) dNil)) (dComp [none, some 1] (iR1 (dCons (dOp gAdd (dC (.int 8)) (dOp gMul (dC (.int 2)) (dVar 0))) dNil)) (.one 0) (dTup (dCons (dOp gAdd (dC (.str "r")) (dBlt gStr (dCons (dOp gAdd (dVar 0) (dC (.int 1))) dNil))) (dCons (dC (.str "h1")) (dCons (dVar 1) dNil))))))) (sSeq (sFor (iR1 (dCons (dOp gMul (dC (.int 31)) (dOp gSub (dC (.int 1)) (dVar 0))) dNil)) (.one 5) (sAppend 4 (dTup (dCons (dOp gAdd (dC (.str "s")) (dBlt gStr (dCons (dVar 5) dNil))) (dCons (dC (.str "first")) (dCons (dVar 1) dNil)))))) (fun sd => (sRet (dLst (dCons (dTup (dCons (dC (.str "h1")) (dCons (dLst (dCons (dC (.str "g")) dNil)) (dCons (dVar 2) dNil)))) (dCons (dTup (dCons (dC (.str "h2")) (dCons (dLst (dCons (dC (.str "g")) dNil)) (dCons (dVar 3) dNil)))) (dCons (dTup (dCons (dC (.str "h3")) (dCons (dLst (dCons (dC (.str "g")) dNil)) (dCons (dVar 4) dNil)))) dNil))))) (frzD [4] sd)))))))
noncomputable def F_law_heavy : List D → Res D := runN 6 1 G_law_heavy
theorem f_law_heavy : F_law_heavy [.int 0] = .ok (.lst ([hP1, hP2, hP3].map planT)) := by
  have okr : TxtOk 1 "r" := lit_ok (by decide +kernel)
  have oks : TxtOk 1 "s" := lit_ok (by decide +kernel)
  have r40 : range1 [.int 40] = .ok (rangeD 0 40) := range1_int (by omega) (by omega)
  have r8 : range1 [.int 8] = .ok (rangeD 0 8) := range1_int (by omega) (by omega)
  have r31 : range1 [.int 31] = .ok (rangeD 0 31) := range1_int (by omega) (by omega)
  have m2 : gMul (.int 2) (.int 0) = some (.int 0) := gMul_ok (mulOk_r (by omega) (by omega))
  have m31 : gMul (.int 31) (.int 1) = some (.int 31) := gMul_ok (mulOk_r (by omega) (by omega))
  have z40 : (rangeD 0 40).length < sizeLine := small_lt (by rw [range_len]; omega)
  have z8 : (rangeD 0 8).length < sizeLine := small_lt (by rw [range_len]; omega)
  have it : D.tup [.tup [.int 0, .int 0]] = rwD oneI := rfl
  have key : ∀ how : Str, mapE (.one 0) (dTup (dCons (dOp gAdd (dC (.str "r")) (dBlt gStr (dCons (dVar 0) dNil))) (dCons (dC (.str how)) (dCons (dVar 1) dNil)))) [none, some (.val (rwD oneI))] (rangeD 0 40) = .ok (((List.range 40).map fun k => ("r" ++ digF k, how, oneI)).map rowD) := fun how => by
    rw [List.map_map]
    refine mapE_range fun i hi => ?_
    obtain ⟨gk, ok⟩ := gStr_dig (k := i) (by omega)
    have ga := gAdd_str okr ok (by omega)
    simp [gk, ga, rowD]
  have key8 : mapE (.one 0) (dTup (dCons (dOp gAdd (dC (.str "r")) (dBlt gStr (dCons (dOp gAdd (dVar 0) (dC (.int 1))) dNil))) (dCons (dC (.str "h1")) (dCons (dVar 1) dNil)))) [none, some (.val (rwD oneI))] (rangeD 0 8) = .ok (((List.range 8).map fun k => ("r" ++ digF (k + 1), ("h1" : Str), oneI)).map rowD) := by
    rw [List.map_map]
    refine mapE_range fun i hi => ?_
    obtain ⟨gk, ok⟩ := gStr_dig (k := i + 1) (by omega)
    have ga := gAdd_str okr ok (by omega)
    rw [show (((i + 1 : Nat)) : Int) = (i : Int) + 1 by omega] at gk
    simp [gk, ga, rowD]
  obtain ⟨y1, h1⟩ : ∃ y, ((List.range 40).map fun k => ("r" ++ digF k, ("all" : Str), oneI)).map rowD = y := ⟨_, rfl⟩
  obtain ⟨y2, h2⟩ : ∃ y, ((List.range 40).map fun k => ("r" ++ digF k, ("h1" : Str), oneI)).map rowD = y := ⟨_, rfl⟩
  obtain ⟨y3, h3⟩ : ∃ y, ((List.range 8).map fun k => ("r" ++ digF (k + 1), ("h1" : Str), oneI)).map rowD = y := ⟨_, rfl⟩
  have k1 := key "all"
  have k2 := key "h1"
  rw [h1] at k1
  rw [h2] at k2
  rw [h3] at key8
  have l3 : y3.length = 8 := by rw [← h3, List.length_map, List.length_map, List.length_range]
  have ga3 : gAddL (.lst [.tup [.str "r0", .str "h2", rwD oneI]]) (.lst y3) = some (.lst (.tup [.str "r0", .str "h2", rwD oneI] :: y3)) := if_pos (small (by rw [List.length_singleton]; omega))
  have e3 : (D.tup [.str "r0", .str "h2", rwD oneI] :: y3) = hR3.map rowD := by rw [← h3]; rfl
  rw [e3] at ga3
  have lr : hR3.length = 9 := rfl
  obtain ⟨sd1, e1, u5, hsd1⟩ := for_inv (tg := .one 5) (b := (sAppend 4 (dTup (dCons (dOp gAdd (dC (.str "s")) (dBlt gStr (dCons (dVar 5) dNil))) (dCons (dC (.str "first")) (dCons (dVar 1) dNil)))))) (ds := rangeD 0 31)
    (sd := [some (.val (.int 0)), some (.val (rwD oneI)), some (.val (.lst y1)), some (.val (.lst y2)), some (.own false (.lst (hR3.map rowD))), none])
    (P := fun i sd => ∃ u5 : Option SV, sd = [some (.val (.int 0)), some (.val (rwD oneI)), some (.val (.lst y1)), some (.val (.lst y2)), some (.own false (.lst ((hR3 ++ (List.range i).map fun k => ("s" ++ digF k, ("first" : Str), oneI)).map rowD))), u5]) ⟨none, by rw [List.range_zero, List.map_nil, List.append_nil]⟩ (by
      rintro i x sd hx ⟨u5, rfl⟩
      obtain ⟨rfl, hi⟩ := range_at hx
      obtain ⟨gk, ok⟩ := gStr_dig (k := i) (by omega)
      have ga := gAdd_str oks ok (by omega)
      obtain ⟨zs, hzs⟩ : ∃ zs, (hR3 ++ (List.range i).map fun k => ("s" ++ digF k, ("first" : Str), oneI)).map rowD = zs := ⟨_, rfl⟩
      have zl : zs.length < sizeLine := small_lt (by rw [← hzs, List.length_map, List.length_append, List.length_map, List.length_range, lr]; omega)
      have en : (hR3 ++ (List.range (i + 1)).map fun k => ("s" ++ digF k, ("first" : Str), oneI)).map rowD = zs ++ [.tup [.str ("s" ++ digF i), .str "first", rwD oneI]] := by
        rw [← hzs, List.range_succ]
        simp only [List.map_append, List.append_assoc]
        rfl
      refine ⟨[some (.val (.int 0)), some (.val (rwD oneI)), some (.val (.lst y1)), some (.val (.lst y2)), some (.own false (.lst (zs ++ [.tup [.str ("s" ++ digF i), .str "first", rwD oneI]]))), some (.val (.int (i : Int)))], ?_, _, by rw [en]⟩
      rw [hzs]
      simp [gk, ga, zl])
  rw [range_len] at hsd1
  have e4 : hP3.rows.map rowD = (hR3 ++ (List.range 31).map fun k => ("s" ++ digF k, ("first" : Str), oneI)).map rowD := rfl
  rw [← e4] at hsd1
  subst hsd1
  have f1 : planT hP1 = .tup [.str "h1", .lst [.str "g"], .lst y1] := by rw [← h1]; rfl
  have f2 : planT hP2 = .tup [.str "h2", .lst [.str "g"], .lst y2] := by rw [← h2]; rfl
  have f3 : planT hP3 = .tup [.str "h3", .lst [.str "g"], .lst (hP3.rows.map rowD)] := rfl
  rw [List.map_cons, List.map_cons, List.map_cons, List.map_nil, f1, f2, f3]
  obtain ⟨y4, h4⟩ : ∃ y, hP3.rows.map rowD = y := ⟨_, rfl⟩
  obtain ⟨y5, h5⟩ : ∃ y, hR3.map rowD = y := ⟨_, rfl⟩
  rw [h4] at e1 ⊢
  rw [h5] at ga3 e1
  simp [F_law_heavy, G_law_heavy, r40, r8, r31, m2, m31, it, z40, z8, k1, k2, key8, ga3, e1]

noncomputable def G_law_mixed : FS := (sSeq (sSet 2 (dOp gMod (dOp gMul (dOp gAdd (dOp gMod (dVar 0) (dC (.int 2147483647))) (dVar 1)) (dC (.int 48271))) (dC (.int 2147483647)))) (sRet (dOp gMod (dOp gMul (dVar 2) (dVar 2)) (dC (.int 2147483629)))))
noncomputable def F_law_mixed : List D → Res D := runD 3 2 G_law_mixed
@[simp] theorem f_law_mixed (c s : Int) : F_law_mixed [.int c, .int s] = .ok (.int (mixF c s)) := by
  have h1 : mulOk (c % 2147483647 + s) 48271 = true := mulOk_r (by omega) (by omega)
  have h2 : mulOk ((c % 2147483647 + s) * 48271 % 2147483647) ((c % 2147483647 + s) * 48271 % 2147483647) = true := mulOk_r (by omega) (by omega)
  simp [F_law_mixed, G_law_mixed, gMul_ok h1, gMul_ok h2, mixF]

noncomputable def G_law_names : FS := (sSeq (sSet 2 (dC (.str "abcdefghijklmnopqrstuvwxyz"))) (sSeq (sSet 3 (dC (.str ""))) (sSeq (sFor (iR1 (dCons (dOp gMod (dOp gFdiv (dVar 0) (dC (.int 4))) (dC (.int 10))) dNil)) (.one 4) (sSet 3 (dOp gAdd (dVar 3) (dOp gIx (dVar 2) (dOp gMod (dCall F_law_mixed (dCons (dVar 0) (dCons (dOp gAdd (dC (.int 7)) (dVar 4)) dNil))) (dC (.int 26))))))) (sSeq (sOwn 5 (dLst dNil)) (sSeq (sFor (iR1 (dCons (dVar 1) dNil)) (.one 4) (sSeq (sSet 6 (dOp gAdd (dOp gIx (dVar 2) (dOp gMod (dVar 4) (dC (.int 26)))) (dOp gIx (dVar 2) (dOp gMod (dOp gFdiv (dVar 4) (dC (.int 26))) (dC (.int 26)))))) (sSeq (sSet 7 (dLst (dCons (dOp gAdd (dOp gAdd (dC (.str "x")) (dVar 3)) (dBlt gStr (dCons (dVar 4) dNil))) (dCons (dOp gAdd (dOp gAdd (dC (.str "y")) (dBlt gStr (dCons (dVar 4) dNil))) (dVar 3)) (dCons (dOp gAdd (dOp gAdd (dC (.str "q")) (dVar 3)) (dVar 6)) (dCons (dOp gAdd (dOp gAdd (dVar 6) (dC (.str "q"))) (dVar 3)) dNil)))))) (sAppend 5 (dOp gIx (dVar 7) (dOp gMod (dVar 0) (dC (.int 4)))))))) (sRetOwn 5))))))
noncomputable def F_law_names : List D → Res D := runN 8 2 G_law_names
theorem f_law_namesB (cell : Int) {many : Nat} (h : many ≤ 60) : ∃ base, TxtOk 9 base ∧ low base ∧ F_law_names [.int cell, .int many] = .ok (.lst (((List.range many).map (nmF (cell % 4) base)).map .str)) := by
  obtain ⟨m, hm, m0, m10⟩ : ∃ m : Int, cell / 4 % 10 = m ∧ 0 ≤ m ∧ m < 10 := ⟨_, rfl, by omega, by omega⟩
  have r1 : range1 [.int m] = .ok (rangeD 0 m.toNat) := range1_int (by omega) (by omega)
  have r2 : range1 [.int many] = .ok (rangeD 0 many) := by rw [range1_int (by omega) (by omega), Int.toNat_natCast]
  obtain ⟨sd1, e1, base, u4, hsd1, hb, lb⟩ := for_inv (tg := .one 4) (b := sSet 3 (dOp gAdd (dVar 3) (dOp gIx (dVar 2) (dOp gMod (dCall F_law_mixed (dCons (dVar 0) (dCons (dOp gAdd (dC (.int 7)) (dVar 4)) dNil))) (dC (.int 26)))))) (ds := rangeD 0 m.toNat) (sd := [some (.val (.int cell)), some (.val (.int many)), some (.val (.str "abcdefghijklmnopqrstuvwxyz")), some (.val (.str "")), none, none, none, none])
    (P := fun i sd => ∃ (base : Str) (u4 : Option SV), sd = [some (.val (.int cell)), some (.val (.int many)), some (.val (.str "abcdefghijklmnopqrstuvwxyz")), some (.val (.str base)), u4, none, none, none] ∧ TxtOk i base ∧ low base) ⟨"", none, rfl, lit_ok (by decide +kernel), fun _ h => nomatch h⟩ (by
      rintro i x sd hx ⟨base, u4, rfl, hb, lb⟩
      obtain ⟨rfl, hi⟩ := range_at hx
      obtain ⟨y, hy⟩ : ∃ y, mixF cell (7 + (0 + (i : Int))) % 26 = y := ⟨_, rfl⟩
      have hc := gIx_letters (k := y) (by omega) (by omega)
      have lk : y.toNat < 26 := by omega
      have ga := gAdd_str hb (let_ok lk) (by omega)
      exact ⟨[some (.val (.int cell)), some (.val (.int many)), some (.val (.str "abcdefghijklmnopqrstuvwxyz")), some (.val (.str (base ++ letF y.toNat))), some (.val (.int (0 + (i : Int)))), none, none, none], by simp at hy ⊢; simp [hy, hc, ga], _, _, rfl, hb.app (let_ok lk), low_app lb (low_let lk)⟩)
  rw [range_len] at hb
  have hb : TxtOk 9 base := hb.mono (by omega)
  obtain ⟨q, hq, q0, q4⟩ : ∃ q : Int, cell % 4 = q ∧ 0 ≤ q ∧ q < 4 := ⟨_, rfl, by omega, by omega⟩
  have okx : TxtOk 1 "x" := lit_ok (by decide +kernel)
  have oky : TxtOk 1 "y" := lit_ok (by decide +kernel)
  have okq : TxtOk 1 "q" := lit_ok (by decide +kernel)
  obtain ⟨sd2, e2, w4, w6, w7, hsd2⟩ := for_inv (tg := .one 4) (b := (sSeq (sSet 6 (dOp gAdd (dOp gIx (dVar 2) (dOp gMod (dVar 4) (dC (.int 26)))) (dOp gIx (dVar 2) (dOp gMod (dOp gFdiv (dVar 4) (dC (.int 26))) (dC (.int 26)))))) (sSeq (sSet 7 (dLst (dCons (dOp gAdd (dOp gAdd (dC (.str "x")) (dVar 3)) (dBlt gStr (dCons (dVar 4) dNil))) (dCons (dOp gAdd (dOp gAdd (dC (.str "y")) (dBlt gStr (dCons (dVar 4) dNil))) (dVar 3)) (dCons (dOp gAdd (dOp gAdd (dC (.str "q")) (dVar 3)) (dVar 6)) (dCons (dOp gAdd (dOp gAdd (dVar 6) (dC (.str "q"))) (dVar 3)) dNil)))))) (sAppend 5 (dOp gIx (dVar 7) (dOp gMod (dVar 0) (dC (.int 4)))))))) (ds := rangeD 0 many) (sd := [some (.val (.int cell)), some (.val (.int many)), some (.val (.str "abcdefghijklmnopqrstuvwxyz")), some (.val (.str base)), u4, some (.own false (.lst [])), none, none])
    (P := fun i sd => ∃ (w4 w6 w7 : Option SV), sd = [some (.val (.int cell)), some (.val (.int many)), some (.val (.str "abcdefghijklmnopqrstuvwxyz")), some (.val (.str base)), w4, some (.own false (.lst (((List.range i).map (nmF q base)).map .str))), w6, w7]) ⟨u4, none, none, rfl⟩ (by
      rintro i x sd hx ⟨w4, w6, w7, rfl⟩
      obtain ⟨rfl, hi⟩ := range_at hx
      have eI : (0 + (i : Int)) = (i : Int) := by omega
      have hc1 := gIx_letters (k := (i : Int) % 26) (by omega) (by omega)
      have hc2 := gIx_letters (k := (i : Int) / 26 % 26) (by omega) (by omega)
      rw [show ((i : Int) % 26).toNat = i % 26 by omega] at hc1
      rw [show ((i : Int) / 26 % 26).toNat = i / 26 % 26 by omega] at hc2
      obtain ⟨hsk, ok⟩ := gStr_dig (k := i) (by omega)
      have l1 : TxtOk 1 (letF (i % 26)) := let_ok (Nat.mod_lt _ (by omega))
      have l2 : TxtOk 1 (letF (i / 26 % 26)) := let_ok (Nat.mod_lt _ (by omega))
      have sp : gAdd (.str (letF (i % 26))) (.str (letF (i / 26 % 26))) = some (.str (spotF i)) := gAdd_str l1 l2 (by omega)
      have oksp := spot_ok i
      have a1 := gAdd_str okx hb (by omega)
      have a2 := gAdd_str (okx.app hb) ok (by omega)
      have b1 := gAdd_str oky ok (by omega)
      have b2 := gAdd_str (oky.app ok) hb (by omega)
      have d1 := gAdd_str okq hb (by omega)
      have d2 := gAdd_str (okq.app hb) oksp (by omega)
      have e1 := gAdd_str oksp okq (by omega)
      have e2 := gAdd_str (oksp.app okq) hb (by omega)
      have hx : atI [D.str ("x" ++ base ++ digF i), D.str ("y" ++ digF i ++ base), D.str ("q" ++ base ++ spotF i), D.str (spotF i ++ "q" ++ base)] q = some (.str (nmF q base i)) := by
        have : q = 0 ∨ q = 1 ∨ q = 2 ∨ q = 3 := by omega
        rcases this with rfl | rfl | rfl | rfl <;> rfl
      have hz := small_lt (show ((List.range i).map (nmF q base)).length ≤ 1000 by rw [List.length_map, List.length_range]; omega)
      rw [List.length_map, List.length_range] at hz
      refine ⟨[some (.val (.int cell)), some (.val (.int many)), some (.val (.str "abcdefghijklmnopqrstuvwxyz")), some (.val (.str base)), some (.val (.int (i : Int))), some (.own false (.lst (((List.range (i + 1)).map (nmF q base)).map .str))), some (.val (.str (spotF i))), some (.val (.lst [D.str ("x" ++ base ++ digF i), D.str ("y" ++ digF i ++ base), D.str ("q" ++ base ++ spotF i), D.str (spotF i ++ "q" ++ base)]))], ?_, _, _, _, rfl⟩
      rw [List.range_succ]
      simp [hc1, hc2, sp, hsk, a1, a2, b1, b2, d1, d2, e1, e2, hq, hx, hz])
  rw [range_len] at hsd2
  subst hsd1
  subst hsd2
  refine ⟨base, hb, lb, ?_⟩
  rw [hq]
  simp [F_law_names, G_law_names, hm, r1, r2, e1, e2]

noncomputable def G_law_far_wait : FS := (sSeq (sSet 2 (dCall F_law_mixed (dCons (dVar 0) (dCons (dVar 1) dNil)))) (sSeq (sIf (dBool (dOp gGt (dOp gMod (dVar 2) (dC (.int 4))) (dC (.int 0)))) (sRet (dOp gSub (dOp gMod (dOp gFdiv (dVar 2) (dC (.int 4))) (dC (.int 5))) (dC (.int 2)))) sNext) (sSeq (sSet 3 (dOp gMod (dOp gMul (dOp gFdiv (dVar 0) (dC (.int 7))) (dOp gAdd (dVar 1) (dC (.int 2)))) (dOp gPow (dC (.int 10)) (dC (.int 30))))) (sSeq (sIf (dBool (dOp gEq (dOp gMod (dOp gFdiv (dVar 2) (dC (.int 20))) (dC (.int 3))) (dC (.int 0)))) (sSet 3 (dOp gSub (dOp gPow (dC (.int 10)) (dC (.int 30))) (dC (.int 1)))) sNext) (sSeq (sIf (dBool (dOp gEq (dOp gMod (dOp gFdiv (dVar 2) (dC (.int 60))) (dC (.int 2))) (dC (.int 0)))) (sRet (dVar 3)) sNext) (sRet (dUn gNeg (dVar 3))))))))
noncomputable def F_law_far_wait : List D → Res D := runD 4 2 G_law_far_wait
theorem f_law_far_wait {c s : Int} (h1 : -1000000 ≤ s) (h2 : s ≤ 1000000) : ∃ w : Int, F_law_far_wait [.int c, .int s] = .ok (.int w) ∧ -1000000000000000000000000000000 < w ∧ w < 1000000000000000000000000000000 := by
  have h3 : mulOk (c / 7) (s + 2) = true := mulOk_r (by omega) (by omega)
  have h4 : gPow (.int 10) (.int 30) = some (.int 1000000000000000000000000000000) := rfl
  obtain ⟨x, hx⟩ : ∃ x : Int, c / 7 * (s + 2) = x := ⟨_, rfl⟩
  have h5 := gMul_ok h3
  rw [hx] at h5
  by_cases c1 : 0 < mixF c s % 4
  · exact ⟨mixF c s / 4 % 5 - 2, by simp [F_law_far_wait, G_law_far_wait, c1], by omega, by omega⟩
  · by_cases c2 : mixF c s / 20 % 3 = 0 <;> by_cases c3 : mixF c s / 60 % 2 = 0
    · exact ⟨999999999999999999999999999999, by simp [F_law_far_wait, G_law_far_wait, c1, c2, c3, h5, h4], by omega, by omega⟩
    · exact ⟨-999999999999999999999999999999, by simp [F_law_far_wait, G_law_far_wait, c1, c2, c3, h5, h4], by omega, by omega⟩
    · exact ⟨x % 1000000000000000000000000000000, by simp [F_law_far_wait, G_law_far_wait, c1, c2, c3, h5, h4], by omega, by omega⟩
    · exact ⟨-(x % 1000000000000000000000000000000), by simp [F_law_far_wait, G_law_far_wait, c1, c2, c3, h5, h4], by omega, by omega⟩

noncomputable def G_law_items : FS := (sSeq (sOwn 3 (dLst dNil)) (sSeq (sFor (iR1 (dCons (dVar 1) dNil)) (.one 4) (sAppend 3 (dTup (dCons (dOp gMod (dCall F_law_mixed (dCons (dVar 0) (dCons (dOp gAdd (dC (.int 101)) (dVar 4)) dNil))) (dVar 2)) (dCons (dCall F_law_far_wait (dCons (dOp gAdd (dOp gFdiv (dVar 0) (dOp gAdd (dVar 4) (dC (.int 1)))) (dVar 4)) (dCons (dOp gAdd (dC (.int 151)) (dVar 4)) dNil))) dNil))))) (fun sd => (sRet (dBlt gTuple (dCons (dVar 3) dNil))) (frzD [3] sd))))
noncomputable def F_law_items : List D → Res D := runD 5 3 G_law_items
theorem f_law_items {cell ahead : Int} {count : Nat} (h : count ≤ 60) (ha : 1 ≤ ahead) : ∃ its : List (Int × Int), F_law_items [.int cell, .int count, .int ahead] = .ok (rwD its) ∧ its.length = count ∧ ItOk ahead its := by
  have r1 : range1 [.int count] = .ok (rangeD 0 count) := by rw [range1_int (by omega) (by omega), Int.toNat_natCast]
  obtain ⟨sd1, e1, its, u4, hsd1, hl, ok⟩ := for_inv (tg := .one 4) (b := sAppend 3 (dTup (dCons (dOp gMod (dCall F_law_mixed (dCons (dVar 0) (dCons (dOp gAdd (dC (.int 101)) (dVar 4)) dNil))) (dVar 2)) (dCons (dCall F_law_far_wait (dCons (dOp gAdd (dOp gFdiv (dVar 0) (dOp gAdd (dVar 4) (dC (.int 1)))) (dVar 4)) (dCons (dOp gAdd (dC (.int 151)) (dVar 4)) dNil))) dNil)))) (ds := rangeD 0 count) (sd := [some (.val (.int cell)), some (.val (.int count)), some (.val (.int ahead)), some (.own false (.lst [])), none])
    (P := fun i sd => ∃ (its : List (Int × Int)) (u4 : Option SV), sd = [some (.val (.int cell)), some (.val (.int count)), some (.val (.int ahead)), some (.own false (.lst (its.map prD))), u4] ∧ its.length = i ∧ ItOk ahead its) ⟨[], none, rfl, rfl, fun _ h => (nomatch h), fun _ h => nomatch h⟩ (by
      rintro i x sd hx ⟨its, u4, rfl, hl, ok⟩
      obtain ⟨rfl, hi⟩ := range_at hx
      obtain ⟨w, hw, w1, w2⟩ := f_law_far_wait (c := cell / ((0 + (i : Int)) + 1) + (0 + (i : Int))) (s := 151 + (0 + (i : Int))) (by omega) (by omega)
      obtain ⟨t, ht⟩ : ∃ t, mixF cell (101 + (0 + (i : Int))) % ahead = t := ⟨_, rfl⟩
      have t0 : 0 ≤ t := by rw [← ht]; exact Int.emod_nonneg _ (by omega)
      have t1 : t < ahead := by rw [← ht]; exact Int.emod_lt_of_pos _ (by omega)
      have gm := gMod_ok (i := mixF cell (101 + (0 + (i : Int)))) (j := ahead) (by omega)
      rw [ht] at gm
      have gf := gFdiv_ok (i := cell) (j := (0 + (i : Int)) + 1) (by omega) (by omega)
      have hz := small_lt (show its.length ≤ 1000 by omega)
      refine ⟨[some (.val (.int cell)), some (.val (.int count)), some (.val (.int ahead)), some (.own false (.lst ((its ++ [(t, w)]).map prD))), some (.val (.int (0 + (i : Int))))], ?_, _, _, rfl, by simp [hl], ⟨fun p hp => ?_, fun p hp => ?_⟩⟩
      · simp only [Int.zero_add] at gm gf hw ⊢
        simp [gm, gf, hw, hz, prD]
      · rcases List.mem_append.mp hp with z | z
        · exact ok.rng p z
        · rw [List.mem_singleton.mp z]; exact ⟨t0, t1⟩
      · rcases List.mem_append.mp hp with z | z
        · exact ok.far p z
        · rw [List.mem_singleton.mp z]; exact ⟨w1, w2⟩)
  rw [range_len] at hl
  subst hsd1
  refine ⟨its, ?_, hl, ok⟩
  simp [F_law_items, G_law_items, r1, e1]
  rfl

noncomputable def G_law_made : FS := (sSeq (sSet 5 (dCall F_law_mixed (dCons (dVar 0) (dCons (dC (.int 23)) dNil)))) (sSeq (sIf (dAndT (dBool (dOp gNe (dVar 3) (dLst dNil))) (dBool (dOp gEq (dOp gMod (dVar 5) (dC (.int 3))) (dC (.int 0))))) (sSeq (sSet 6 (dOp gIx (dVar 3) (dOp gMod (dOp gFdiv (dVar 5) (dC (.int 3))) (dBlt gLen (dCons (dVar 3) dNil))))) (sRet (dTup (dCons (dVar 1) (dCons (dOp gIx (dVar 6) (dC (.int 0))) (dCons (dCall F_law_items (dCons (dVar 0) (dCons (dOp gIx (dVar 6) (dC (.int 1))) (dCons (dVar 2) dNil)))) dNil)))))) sNext) (sSeq (sSet 7 (dOp gAdd (dC (.int 1)) (dOp gMod (dOp gFdiv (dVar 5) (dC (.int 3))) (dC (.int 4))))) (sSeq (sIf (dAndT (dBool (dVar 4)) (dBool (dOp gEq (dOp gMod (dOp gFdiv (dVar 5) (dC (.int 12))) (dC (.int 3))) (dC (.int 0))))) (sSet 7 (dC (.int 40))) sNext) (sRet (dTup (dCons (dVar 1) (dCons (dOp gIx (dLst (dCons (dC (.str "all")) (dCons (dC (.str "first")) dNil))) (dOp gMod (dOp gFdiv (dVar 5) (dC (.int 100))) (dC (.int 2)))) (dCons (dCall F_law_items (dCons (dVar 0) (dCons (dVar 7) (dCons (dVar 2) dNil)))) dNil)))))))))
noncomputable def F_law_made : List D → Res D := runD 8 5 G_law_made
theorem f_law_made {cell ahead : Int} {name : Str} {parts : List (Str × Int)} {wide : Bool} (ha : 1 ≤ ahead) (hp : PrtsOk parts) : ∃ how its, F_law_made [.int cell, .str name, .int ahead, .lst (parts.map prtD), .bl wide] = .ok (rowD (name, how, its)) ∧ RwOk parts ahead (name, how, its) := by
  obtain ⟨m, hm⟩ : ∃ m, mixF cell 23 = m := ⟨_, rfl⟩
  have gn := gNe_nil (pl_prts 9 hp)
  have plain : ∀ count : Nat, 1 ≤ count → count ≤ 40 → ∃ how its, atI [D.str "all", D.str "first"] (m / 100 % 2) = some (.str how) ∧ F_law_items [.int cell, .int count, .int ahead] = .ok (rwD its) ∧ RwOk parts ahead (name, how, its) := fun count c1 c2 => by
    obtain ⟨its, h1, h2, h3⟩ := f_law_items (cell := cell) (ahead := ahead) (count := count) (by omega) ha
    have : m / 100 % 2 = 0 ∨ m / 100 % 2 = 1 := by omega
    rcases this with z | z
    · exact ⟨"all", its, by rw [z]; rfl, h1, ⟨.inl rfl, h3, by show 1 ≤ its.length; omega, by show its.length ≤ 40; omega⟩⟩
    · exact ⟨"first", its, by rw [z]; rfl, h1, ⟨.inr (.inl rfl), h3, by show 1 ≤ its.length; omega, by show its.length ≤ 40; omega⟩⟩
  by_cases c1 : parts.isEmpty = false ∧ m % 3 = 0
  · obtain ⟨c0, c1⟩ := c1
    have hl : 1 ≤ parts.length := by
      cases parts with
      | nil => cases c0
      | cons a l => simp
    obtain ⟨k, hk⟩ : ∃ k, m / 3 % (parts.length : Int) = k := ⟨_, rfl⟩
    have k0 : 0 ≤ k := by rw [← hk]; exact Int.emod_nonneg _ (by omega)
    have k1 : k < (parts.length : Int) := by rw [← hk]; exact Int.emod_lt_of_pos _ (by omega)
    have gm := gMod_ok (i := m / 3) (j := (parts.length : Int)) (by omega)
    rw [hk] at gm
    obtain ⟨p, pm, pe⟩ := atI_at (f := prtD) k0 k1
    obtain ⟨_, p1, p2⟩ := hp p pm
    obtain ⟨n, hn⟩ : ∃ n : Nat, p.2 = (n : Int) := ⟨p.2.toNat, by omega⟩
    obtain ⟨its, h1, h2, h3⟩ := f_law_items (cell := cell) (ahead := ahead) (count := n) (by omega) ha
    refine ⟨p.1, its, ?_, ⟨.inr (.inr ?_), h3, by show 1 ≤ its.length; omega, by show its.length ≤ 40; omega⟩⟩
    · rw [← hn] at h1
      rw [c0] at gn
      simp [F_law_made, G_law_made, hm, c1] at gn ⊢
      simp [gn, gm, pe, h1, rowD]
    · show (p.1, (its.length : Int)) ∈ parts
      rw [h2, ← hn]
      exact pm
  · obtain ⟨n, hn, n1, n2⟩ : ∃ n : Nat, 1 + m / 3 % 4 = (n : Int) ∧ 1 ≤ n ∧ n ≤ 4 := ⟨(1 + m / 3 % 4).toNat, by omega, by omega, by omega⟩
    obtain ⟨how, its, ha, hi, ok⟩ := plain n n1 (by omega)
    obtain ⟨how4, its4, ha4, hi4, ok4⟩ := plain 40 (by omega) (by omega)
    have hi4 : F_law_items [.int cell, .int 40, .int ahead] = .ok (rwD its4) := hi4
    have main : ∀ (c : Bool), gNe (.lst (parts.map prtD)) (.lst []) = some (.bl c) → ¬ (c = true ∧ m % 3 = 0) → ∃ how its, F_law_made [.int cell, .str name, .int ahead, .lst (parts.map prtD), .bl wide] = .ok (rowD (name, how, its)) ∧ RwOk parts ahead (name, how, its) := fun c gc nc => by
      cases c with
      | false =>
        cases wide with
        | false => exact ⟨how, its, by simp [F_law_made, G_law_made, hm, gc, hn, ha, hi, rowD], ok⟩
        | true =>
          by_cases c2 : m / 12 % 3 = 0
          · exact ⟨how4, its4, by simp [F_law_made, G_law_made, hm, gc, hn, c2, ha4, hi4, rowD], ok4⟩
          · exact ⟨how, its, by simp [F_law_made, G_law_made, hm, gc, hn, c2, ha, hi, rowD], ok⟩
      | true =>
        have c3 : ¬ m % 3 = 0 := fun z => nc ⟨rfl, z⟩
        cases wide with
        | false => exact ⟨how, its, by simp [F_law_made, G_law_made, hm, gc, hn, c3, ha, hi, rowD], ok⟩
        | true =>
          by_cases c2 : m / 12 % 3 = 0
          · exact ⟨how4, its4, by simp [F_law_made, G_law_made, hm, gc, hn, c2, c3, ha4, hi4, rowD], ok4⟩
          · exact ⟨how, its, by simp [F_law_made, G_law_made, hm, gc, hn, c2, c3, ha, hi, rowD], ok⟩
    exact main _ gn fun ⟨z1, z2⟩ => c1 ⟨by simpa using z1, z2⟩

noncomputable def G_law_plan : FS := (sSeq (sSet 5 (dOp gIx (dVar 0) (dOp gMod (dOp gMul (dC (.int 7)) (dVar 1)) (dBlt gLen (dCons (dVar 0) dNil))))) (sSeq (sSet 6 (dOp gAdd (dC (.int 1)) (dOp gMod (dCall F_law_mixed (dCons (dVar 5) (dCons (dC (.int 31)) dNil))) (dC (.int 4))))) (sSeq (sSet 7 (dOp gAdd (dC (.int 1)) (dOp gMod (dCall F_law_mixed (dCons (dVar 5) (dCons (dC (.int 37)) dNil))) (dC (.int 6))))) (sSeq (sIf (dBool (dVar 4)) (sSeq (sSet 6 (dOp gIx (dLst (dCons (dC (.int 12)) (dCons (dC (.int 11)) (dCons (dC (.int 1)) dNil)))) (dOp gMod (dCall F_law_mixed (dCons (dVar 5) (dCons (dC (.int 41)) dNil))) (dC (.int 3))))) (sSet 7 (dOp gIx (dLst (dCons (dC (.int 40)) (dCons (dC (.int 39)) (dCons (dC (.int 7)) dNil)))) (dOp gMod (dCall F_law_mixed (dCons (dVar 5) (dCons (dC (.int 43)) dNil))) (dC (.int 3)))))) sNext) (sSeq (sSet 8 (dCall F_law_names (dCons (dOp gFdiv (dVar 5) (dC (.int 5))) (dCons (dOp gAdd (dVar 6) (dVar 7)) dNil)))) (sSeq (sOwn 9 (dLst dNil)) (sSeq (sFor (iR1 (dCons (dVar 7) dNil)) (.one 10) (sSeq (sSet 11 (dOp gAdd (dOp gIx (dVar 0) (dOp gMod (dOp gAdd (dOp gAdd (dOp gMul (dC (.int 7)) (dVar 1)) (dVar 10)) (dC (.int 1))) (dBlt gLen (dCons (dVar 0) dNil)))) (dOp gMul (dC (.int 13)) (dVar 10)))) (sAppend 9 (dCall F_law_made (dCons (dVar 11) (dCons (dOp gIx (dVar 8) (dOp gAdd (dVar 6) (dVar 10))) (dCons (dOp gAdd (dVar 6) (dVar 10)) (dCons (dVar 3) (dCons (dVar 4) dNil))))))))) (fun sd => (sRet (dTup (dCons (dVar 2) (dCons (dSl (dVar 8) dNoPart (dPart (dVar 6)) dNoPart) (dCons (dVar 9) dNil))))) (frzD [9] sd)))))))))
noncomputable def F_law_plan : List D → Res D := runD 12 5 G_law_plan
/-- a plan with these parts ahead -/
structure PlOk (parts : List (Str × Int)) (p : Pl) : Prop where
  g1 : 1 ≤ p.givens.length
  g2 : p.givens.length ≤ 12
  r1 : 1 ≤ p.rows.length
  r2 : p.rows.length ≤ 40
  rows : ∀ (k : Nat) (r : Str × Str × List (Int × Int)), p.rows[k]? = some r → RwOk parts ((p.givens.length : Int) + k) r
  names : ∃ (q : Int) (base : Str), TxtOk 9 base ∧ low base ∧ p.givens ++ p.rows.map (·.1) = (List.range (p.givens.length + p.rows.length)).map (nmF q base)
theorem f_law_plan {pool : List Int} {at_ : Nat} {name : Str} {parts : List (Str × Int)} {wide : Bool} (h1 : 1 ≤ pool.length) (h2 : pool.length ≤ 24) (ha : at_ ≤ 100) (hp : PrtsOk parts) : ∃ p : Pl, F_law_plan [.lst (pool.map .int), .int at_, .str name, .lst (parts.map prtD), .bl wide] = .ok (planT p) ∧ p.name = name ∧ PlOk parts p ∧ (wide = false → p.rows.length ≤ 6) := by
  have ixp : ∀ k : Int, ∃ c : Int, gMod (.int k) (.int (pool.length : Int)) = some (.int (k % (pool.length : Int))) ∧ atI (pool.map D.int) (k % (pool.length : Int)) = some (.int c) := fun k => by
    obtain ⟨c, _, e⟩ := atI_at (f := D.int) (l := pool) (k := k % (pool.length : Int)) (Int.emod_nonneg _ (by omega)) (Int.emod_lt_of_pos _ (by omega))
    exact ⟨c, gMod_ok (by omega), e⟩
  have mul7 : gMul (.int 7) (.int (at_ : Int)) = some (.int (7 * (at_ : Int))) := gMul_ok (mulOk_r (by omega) (by omega))
  obtain ⟨cell, gm0, gi0⟩ := ixp (7 * (at_ : Int))
  obtain ⟨g, r, hg, g1, g2, r1, r2, r3⟩ : ∃ g r : Nat, ((if wide = true then atI [D.int 12, D.int 11, D.int 1] (mixF cell 41 % 3) else some (.int (1 + mixF cell 31 % 4))) = some (.int (g : Int)) ∧ (if wide = true then atI [D.int 40, D.int 39, D.int 7] (mixF cell 43 % 3) else some (.int (1 + mixF cell 37 % 6))) = some (.int (r : Int))) ∧ 1 ≤ g ∧ g ≤ 12 ∧ 1 ≤ r ∧ r ≤ 40 ∧ (wide = false → r ≤ 6) := by
    cases wide with
    | false => exact ⟨(1 + mixF cell 31 % 4).toNat, (1 + mixF cell 37 % 6).toNat, ⟨by simp; omega, by simp; omega⟩, by omega, by omega, by omega, by omega, fun _ => by omega⟩
    | true =>
      have a3 : mixF cell 41 % 3 = 0 ∨ mixF cell 41 % 3 = 1 ∨ mixF cell 41 % 3 = 2 := by omega
      have b3 : mixF cell 43 % 3 = 0 ∨ mixF cell 43 % 3 = 1 ∨ mixF cell 43 % 3 = 2 := by omega
      obtain ⟨g, hg, g1, g2⟩ : ∃ g : Nat, atI [D.int 12, D.int 11, D.int 1] (mixF cell 41 % 3) = some (.int (g : Int)) ∧ 1 ≤ g ∧ g ≤ 12 := by
        rcases a3 with z | z | z
        · exact ⟨12, by rw [z]; rfl, by omega, by omega⟩
        · exact ⟨11, by rw [z]; rfl, by omega, by omega⟩
        · exact ⟨1, by rw [z]; rfl, by omega, by omega⟩
      obtain ⟨r, hr, r1, r2⟩ : ∃ r : Nat, atI [D.int 40, D.int 39, D.int 7] (mixF cell 43 % 3) = some (.int (r : Int)) ∧ 1 ≤ r ∧ r ≤ 40 := by
        rcases b3 with z | z | z
        · exact ⟨40, by rw [z]; rfl, by omega, by omega⟩
        · exact ⟨39, by rw [z]; rfl, by omega, by omega⟩
        · exact ⟨7, by rw [z]; rfl, by omega, by omega⟩
      exact ⟨g, r, ⟨hg, hr⟩, g1, g2, r1, r2, fun z => nomatch z⟩
  obtain ⟨base, bk, bl, fn⟩ := f_law_namesB (cell / 5) (many := g + r) (by omega)
  obtain ⟨q, hq⟩ : ∃ q, cell / 5 % 4 = q := ⟨_, rfl⟩
  rw [hq] at fn
  have r0 : range1 [.int r] = .ok (rangeD 0 r) := by rw [range1_int (by omega) (by omega), Int.toNat_natCast]
  obtain ⟨ns, hns⟩ : ∃ ns, (List.range (g + r)).map (nmF q base) = ns := ⟨_, rfl⟩
  have nl : ns.length = g + r := by rw [← hns, List.length_map, List.length_range]
  have nat_ : ∀ k : Nat, k < g + r → ns[k]? = some (nmF q base k) := fun k hk => by rw [← hns, List.getElem?_map, List.getElem?_range hk]; rfl
  rw [hns] at fn
  obtain ⟨sd1, e1, rows, u10, u11, hsd1, hl, ok, hn⟩ := for_inv (tg := .one 10) (b := (sSeq (sSet 11 (dOp gAdd (dOp gIx (dVar 0) (dOp gMod (dOp gAdd (dOp gAdd (dOp gMul (dC (.int 7)) (dVar 1)) (dVar 10)) (dC (.int 1))) (dBlt gLen (dCons (dVar 0) dNil)))) (dOp gMul (dC (.int 13)) (dVar 10)))) (sAppend 9 (dCall F_law_made (dCons (dVar 11) (dCons (dOp gIx (dVar 8) (dOp gAdd (dVar 6) (dVar 10))) (dCons (dOp gAdd (dVar 6) (dVar 10)) (dCons (dVar 3) (dCons (dVar 4) dNil))))))))) (ds := rangeD 0 r)
    (sd := [some (.val (.lst (pool.map .int))), some (.val (.int at_)), some (.val (.str name)), some (.val (.lst (parts.map prtD))), some (.val (.bl wide)), some (.val (.int cell)), some (.val (.int g)), some (.val (.int r)), some (.val (.lst (ns.map .str))), some (.own false (.lst [])), none, none])
    (P := fun i sd => ∃ (rows : List (Str × Str × List (Int × Int))) (u10 u11 : Option SV), sd = [some (.val (.lst (pool.map .int))), some (.val (.int at_)), some (.val (.str name)), some (.val (.lst (parts.map prtD))), some (.val (.bl wide)), some (.val (.int cell)), some (.val (.int g)), some (.val (.int r)), some (.val (.lst (ns.map .str))), some (.own false (.lst (rows.map rowD))), u10, u11] ∧ rows.length = i ∧ (∀ (k : Nat) x, rows[k]? = some x → RwOk parts ((g : Int) + k) x) ∧ rows.map (·.1) = (ns.drop g).take i) ⟨[], none, none, rfl, rfl, fun k x h => by simp at h, by simp⟩ (by
      rintro i x sd hx ⟨rows, u10, u11, rfl, hl, ok, hn⟩
      obtain ⟨rfl, hi⟩ := range_at hx
      have eI : (0 + (i : Int)) = (i : Int) := by omega
      obtain ⟨c, gm, gi⟩ := ixp (7 * (at_ : Int) + (i : Int) + 1)
      have m13 : gMul (.int 13) (.int (i : Int)) = some (.int (13 * (i : Int))) := gMul_ok (mulOk_r (by omega) (by omega))
      have nx : atI (ns.map D.str) ((g : Int) + (i : Int)) = some (.str (nmF q base (g + i))) := by
        rw [show ((g : Int) + (i : Int)) = ((g + i : Nat) : Int) by omega, atI_nat (by rw [List.length_map]; omega), List.getElem?_map, nat_ _ (by omega)]
        rfl
      obtain ⟨how, its, hm, rk⟩ := f_law_made (cell := c + 13 * (i : Int)) (ahead := (g : Int) + (i : Int)) (name := nmF q base (g + i)) (parts := parts) (wide := wide) (by omega) hp
      have hz := small_lt (show rows.length ≤ 1000 by omega)
      refine ⟨[some (.val (.lst (pool.map .int))), some (.val (.int at_)), some (.val (.str name)), some (.val (.lst (parts.map prtD))), some (.val (.bl wide)), some (.val (.int cell)), some (.val (.int g)), some (.val (.int r)), some (.val (.lst (ns.map .str))), some (.own false (.lst ((rows ++ [(nmF q base (g + i), how, its)]).map rowD))), some (.val (.int (i : Int))), some (.val (.int (c + 13 * (i : Int))))], ?_, _, _, _, rfl, by simp [hl], fun k x hk => ?_, ?_⟩
      · simp [mul7, gm, gi, m13, nx, hm, hz]
      · by_cases z : k < rows.length
        · rw [List.getElem?_append_left z] at hk
          exact ok k x hk
        · rw [List.getElem?_append_right (by omega)] at hk
          have kz : k - rows.length = 0 := by
            cases e : k - rows.length with
            | zero => rfl
            | succ j => rw [e] at hk; simp at hk
          rw [kz] at hk
          cases hk
          have : k = i := by omega
          rw [this]
          exact rk
      · rw [List.map_append, hn]
        have hd : (ns.drop g)[i]? = some (nmF q base (g + i)) := by rw [List.getElem?_drop]; exact nat_ _ (by omega)
        rw [List.take_succ, hd]
        rfl)
  rw [range_len] at hl hn
  subst hsd1
  have hs : pickL (ns.map D.str) none (some (g : Int)) none = (ns.take g).map D.str := by
    rw [pick_upto _ (by omega), List.map_take, Int.toNat_natCast]
  refine ⟨⟨name, ns.take g, rows⟩, ?_, rfl, ⟨by show 1 ≤ (ns.take g).length; rw [List.length_take]; omega, by show (ns.take g).length ≤ 12; rw [List.length_take]; omega, by show 1 ≤ rows.length; omega, by show rows.length ≤ 40; omega, fun k x hk => ?_, ⟨q, base, bk, bl, ?_⟩⟩, fun z => by have := r3 z; show rows.length ≤ 6; omega⟩
  · have fn' : F_law_names [.int (cell / 5), .int ((g : Int) + (r : Int))] = .ok (.lst (ns.map .str)) := by rw [← fn]; congr 3
    cases wide with
    | false =>
      obtain ⟨ha1, ha2⟩ := hg
      simp at ha1 ha2
      simp [F_law_plan, G_law_plan, mul7, gm0, gi0, ha1, ha2, fn', r0, e1, hs, planT]
    | true =>
      obtain ⟨ha1, ha2⟩ := hg
      simp at ha1 ha2
      simp [F_law_plan, G_law_plan, mul7, gm0, gi0, ha1, ha2, fn', r0, e1, hs, planT]
  · show RwOk parts (((ns.take g).length : Int) + k) x
    rw [List.length_take, Nat.min_eq_left (by omega)]
    exact ok k x hk
  · show ns.take g ++ rows.map (·.1) = _
    rw [hn, List.take_of_length_le (l := ns.drop g) (i := r) (by rw [List.length_drop]; omega), List.take_append_drop, ← hns]
    congr 2
    show g + r = (((List.range (g + r)).map (nmF q base)).take g).length + rows.length
    rw [List.length_take, List.length_map, List.length_range]
    omega

noncomputable def G_law_turns : FS := (sSeq (sSet 3 (dBlt gMin2 (dCons (dVar 2) (dCons (dBlt gMax2 (dCons (dC (.int 0)) (dCons (dOp gSub (dBlt gLen (dCons (dVar 0) dNil)) (dVar 1)) dNil))) dNil)))) (sRet (dComp [none, some 0, some 1, some 2] (iR1 (dCons (dVar 3) dNil)) (.one 0) (dBlt gSum (dCons (dSl (dVar 1) (dPart (dOp gAdd (dVar 2) (dVar 0))) dNoPart (dPart (dVar 3))) dNil)))))
noncomputable def F_law_turns : List D → Res D := runN 4 3 G_law_turns
theorem f_law_turnsG {ns : List Int} (h : ns.length ≤ 63) {a most : Int} (a0 : 0 ≤ a) (a1 : a ≤ 100) (m0 : 1 ≤ most) (m1 : most ≤ 60) : ∃ cs : List Int, (cs.length : Int) ≤ most ∧ F_law_turns [.scr ns, .int a, .int most] = .ok (.lst (cs.map .int)) := by
  obtain ⟨m, hm, em⟩ : ∃ m : Nat, (m : Int) ≤ most ∧ (if (if a < (ns.length : Int) then (ns.length : Int) - a else 0) < most then (if a < (ns.length : Int) then (ns.length : Int) - a else 0) else most) = (m : Int) := by
    refine ⟨(if (if a < (ns.length : Int) then (ns.length : Int) - a else 0) < most then (if a < (ns.length : Int) then (ns.length : Int) - a else 0) else most).toNat, ?_, ?_⟩ <;> (repeat' split) <;> omega
  have r1 : range1 [.int (m : Int)] = .ok (rangeD 0 m) := by
    rw [range1_int (by omega) (by omega), Int.toNat_natCast]
  have key : mapE (.one 0) (dBlt gSum (dCons (dSl (dVar 1) (dPart (dOp gAdd (dVar 2) (dVar 0))) dNoPart (dPart (dVar 3))) dNil)) [none, some (.val (.scr ns)), some (.val (.int a)), some (.val (.int most))] (rangeD 0 m) = .ok ((List.range m).map fun k : Nat => .int (pickL ns (some (a + (k : Int))) none (some most)).sum) := mapE_range fun i hi => by
    have gs := gSl_scr (ds := ns) (lo := some (a + (i : Int))) (hi := none) (c := most) (by omega)
    simp [gs]
  refine ⟨(List.range m).map fun k : Nat => (pickL ns (some (a + (k : Int))) none (some most)).sum, by simpa using hm, ?_⟩
  rw [List.map_map]
  have lz := small_lt (show m ≤ 1000 by omega)
  simp [F_law_turns, G_law_turns, em, r1, key, range_len, lz]

noncomputable def G_law_pool : FS := (sSeq (sSet 2 (dCall F_law_turns (dCons (dVar 0) (dCons (dVar 1) (dCons (dC (.int 24)) dNil))))) (sSeq (sIf (dBool (dOp gEq (dVar 2) (dLst dNil))) (sRet (dLst (dCons (dBlt gLen (dCons (dVar 0) dNil)) dNil))) sNext) (sRet (dVar 2))))
noncomputable def F_law_pool : List D → Res D := runD 3 2 G_law_pool
theorem f_law_pool {ns : List Int} (h : ns.length ≤ 63) : ∃ pool : List Int, F_law_pool [.scr ns, .int 1] = .ok (.lst (pool.map .int)) ∧ 1 ≤ pool.length ∧ pool.length ≤ 24 := by
  obtain ⟨cs, h1, h2⟩ := f_law_turnsG h (a := 1) (most := 24) (by omega) (by omega) (by omega) (by omega)
  have ge := gEq_nil (pl_ints cs)
  cases c : cs.isEmpty with
  | true =>
    rw [c] at ge
    exact ⟨[(ns.length : Int)], by simp [F_law_pool, G_law_pool, h2, ge], by simp, by simp⟩
  | false =>
    rw [c] at ge
    refine ⟨cs, by simp [F_law_pool, G_law_pool, h2, ge], ?_, by omega⟩
    cases cs with
    | nil => cases c
    | cons a l => simp

noncomputable def G_law_parts : FS := (sSeq (sSet 2 (dCall F_law_pool (dCons (dVar 0) (dCons (dVar 1) dNil)))) (sSeq (sSet 3 (dCall F_law_cell_at (dCons (dVar 0) (dCons (dC (.int 0)) dNil)))) (sSeq (sSet 4 (dOp gEq (dOp gMod (dVar 3) (dC (.int 5))) (dC (.int 1)))) (sSeq (sSet 5 (dOp gAdd (dC (.int 1)) (dOp gMod (dOp gFdiv (dVar 3) (dC (.int 5))) (dC (.int 4))))) (sSeq (sIf (dBool (dVar 4)) (sSet 5 (dC (.int 1))) sNext) (sSeq (sSet 6 (dCall F_law_names (dCons (dOp gFdiv (dVar 3) (dC (.int 20))) (dCons (dVar 5) dNil)))) (sSeq (sOwn 7 (dLst dNil)) (sSeq (sFor (iR1 (dCons (dVar 5) dNil)) (.one 8) (sSeq (sOwn 9 (dTmpN [7] (dComp [none] (iS (dVar 7)) (.one 0) (dTup (dCons (dOp gIx (dVar 0) (dC (.int 0))) (dCons (dBlt gLen (dCons (dOp gIx (dVar 0) (dC (.int 1))) dNil)) dNil)))))) (fun sd => (sAppend 7 (dCall F_law_plan (dCons (dVar 2) (dCons (dVar 8) (dCons (dOp gIx (dVar 6) (dVar 8)) (dCons (dVar 9) (dCons (dVar 4) dNil))))))) (frzD [9] sd)))) (sRetOwn 7)))))))))
noncomputable def F_law_parts : List D → Res D := runN 10 2 G_law_parts
-- NOTES: {'own': ['parts'], 'tmp parts': 1, 'frz': ['parts']}
/-- a book as the law makes it -/
structure BkOk (ps : List Pl) : Prop where
  l1 : 1 ≤ ps.length
  l2 : ps.length ≤ 4
  pls : ∀ (i : Nat) (p : Pl), ps[i]? = some p → PlOk (partsOf (ps.take i)) p
  few : ps.length = 1 ∨ ∀ p ∈ ps, p.rows.length ≤ 6
  names : ∃ (q : Int) (base : Str), TxtOk 9 base ∧ low base ∧ ps.map (·.name) = (List.range ps.length).map (nmF q base)
theorem f_law_parts {ns : List Int} (h : ns.length ≤ 63) : ∃ ps : List Pl, F_law_parts [.scr ns, .int 1] = .ok (.lst (ps.map planT)) ∧ BkOk ps := by
  obtain ⟨pool, hp, p1, p2⟩ := f_law_pool h
  have hc := f_law_cell_at ns 0
  obtain ⟨fst, hf⟩ : ∃ c, cellF ns 0 = c := ⟨_, rfl⟩
  have hc : F_law_cell_at [.scr ns, .int 0] = .ok (.int fst) := by rw [← hf]; exact hc
  obtain ⟨wide, hw⟩ : ∃ b : Bool, decide (fst % 5 = 1) = b := ⟨_, rfl⟩
  obtain ⟨many, hm, m1, m2, m3⟩ : ∃ m : Nat, (if wide = true then (1 : Int) else 1 + fst / 5 % 4) = (m : Int) ∧ 1 ≤ m ∧ m ≤ 4 ∧ (wide = true → m = 1) := by
    cases wide with
    | true => exact ⟨1, rfl, by omega, by omega, fun _ => rfl⟩
    | false => exact ⟨(1 + fst / 5 % 4).toNat, by simp; omega, by omega, by omega, fun z => nomatch z⟩
  obtain ⟨base, bk, bl, fn⟩ := f_law_namesB (fst / 20) (many := many) (by omega)
  obtain ⟨q, hq⟩ : ∃ q, fst / 20 % 4 = q := ⟨_, rfl⟩
  rw [hq] at fn
  obtain ⟨nm, hnm⟩ : ∃ nm, (List.range many).map (nmF q base) = nm := ⟨_, rfl⟩
  have nl : nm.length = many := by rw [← hnm, List.length_map, List.length_range]
  have nat_ : ∀ k : Nat, k < many → nm[k]? = some (nmF q base k) := fun k hk => by rw [← hnm, List.getElem?_map, List.getElem?_range hk]; rfl
  rw [hnm] at fn
  have r0 : range1 [.int many] = .ok (rangeD 0 many) := by rw [range1_int (by omega) (by omega), Int.toNat_natCast]
  obtain ⟨sd1, e1, ps, u8, u9, hsd1, hl, ok, hn, fw⟩ := for_inv (tg := .one 8) (b := (sSeq (sOwn 9 (dTmpN [7] (dComp [none] (iS (dVar 7)) (.one 0) (dTup (dCons (dOp gIx (dVar 0) (dC (.int 0))) (dCons (dBlt gLen (dCons (dOp gIx (dVar 0) (dC (.int 1))) dNil)) dNil)))))) (fun sd => (sAppend 7 (dCall F_law_plan (dCons (dVar 2) (dCons (dVar 8) (dCons (dOp gIx (dVar 6) (dVar 8)) (dCons (dVar 9) (dCons (dVar 4) dNil))))))) (frzD [9] sd)))) (ds := rangeD 0 many)
    (sd := [some (.val (.scr ns)), some (.val (.int 1)), some (.val (.lst (pool.map .int))), some (.val (.int fst)), some (.val (.bl wide)), some (.val (.int many)), some (.val (.lst (nm.map .str))), some (.own false (.lst [])), none, none])
    (P := fun i sd => ∃ (ps : List Pl) (u8 u9 : Option SV), sd = [some (.val (.scr ns)), some (.val (.int 1)), some (.val (.lst (pool.map .int))), some (.val (.int fst)), some (.val (.bl wide)), some (.val (.int many)), some (.val (.lst (nm.map .str))), some (.own false (.lst (ps.map planT))), u8, u9] ∧ ps.length = i ∧ (∀ (k : Nat) p, ps[k]? = some p → PlOk (partsOf (ps.take k)) p) ∧ ps.map (·.name) = nm.take i ∧ ∀ p ∈ ps, wide = false → p.rows.length ≤ 6) ⟨[], none, none, rfl, rfl, fun k x h => by simp at h, by simp, fun _ h => nomatch h⟩ (by
      rintro i x sd hx ⟨ps, u8, u9, rfl, hl, ok, hn, fw⟩
      obtain ⟨rfl, hi⟩ := range_at hx
      have eI : (0 + (i : Int)) = (i : Int) := by omega
      have mem : ∀ p ∈ ps, TxtOk 12 p.name ∧ 1 ≤ p.givens.length ∧ p.givens.length ≤ 12 := fun p hp => by
        obtain ⟨k, hk, e⟩ := List.getElem_of_mem hp
        have ok1 := ok k p (by rw [List.getElem?_eq_getElem hk, e])
        have hm : p.name ∈ nm.take i := by rw [← hn]; exact List.mem_map.mpr ⟨p, hp, rfl⟩
        have hm := List.mem_of_mem_take hm
        rw [← hnm] at hm
        obtain ⟨j, hj, ej⟩ := List.mem_map.mp hm
        refine ⟨?_, ok1.g1, ok1.g2⟩
        rw [← ej]
        exact nm_ok (by have := List.mem_range.mp hj; omega) bk
      have po : PrtsOk (partsOf ps) := fun p hp => by
        obtain ⟨y, hy, rfl⟩ := List.mem_map.mp hp
        obtain ⟨a, b, c⟩ := mem y hy
        exact ⟨a, by show (1 : Int) ≤ (y.givens.length : Int); omega, by show (y.givens.length : Int) ≤ 12; omega⟩
      have key : mapE (.one 0) (dTup (dCons (dOp gIx (dVar 0) (dC (.int 0))) (dCons (dBlt gLen (dCons (dOp gIx (dVar 0) (dC (.int 1))) dNil)) dNil))) [none] (ps.map planT) = .ok ((partsOf ps).map prtD) := by
        unfold partsOf
        rw [List.map_map]
        exact mapE_ok fun p _ => by simp [prtD]
      obtain ⟨p, hp, pn, pk, pf⟩ := f_law_plan (at_ := i) (name := nmF q base i) (parts := partsOf ps) (wide := wide) p1 p2 (by omega) po
      have nx : atI (nm.map D.str) (i : Int) = some (.str (nmF q base i)) := by
        rw [atI_nat (by rw [List.length_map]; omega), List.getElem?_map, nat_ _ (by omega)]
        rfl
      have hz := small_lt (show ps.length ≤ 1000 by omega)
      have fl := flat_prts (partsOf ps)
      refine ⟨[some (.val (.scr ns)), some (.val (.int 1)), some (.val (.lst (pool.map .int))), some (.val (.int fst)), some (.val (.bl wide)), some (.val (.int many)), some (.val (.lst (nm.map .str))), some (.own false (.lst ((ps ++ [p]).map planT))), some (.val (.int (i : Int))), some (.val (.lst ((partsOf ps).map prtD)))], ?_, _, _, _, rfl, by simp [hl], fun k x hk => ?_, ?_, fun x hx z => (List.mem_append.mp hx).elim (fun y => fw x y z) fun y => by rw [List.mem_singleton.mp y]; exact pf z⟩
      · simp [key, hz, fl, nx, hp]
      · by_cases z : k < ps.length
        · rw [List.getElem?_append_left z] at hk
          rw [List.take_append_of_le_length (by omega)]
          exact ok k x hk
        · rw [List.getElem?_append_right (by omega)] at hk
          have kz : k - ps.length = 0 := by
            cases e : k - ps.length with
            | zero => rfl
            | succ j => rw [e] at hk; simp at hk
          rw [kz] at hk
          cases hk
          have : k = ps.length := by omega
          rw [this, List.take_left']
          · exact pk
          · rfl
      · rw [List.map_append, hn, List.take_succ, nat_ _ (by omega)]
        show _ ++ [p.name] = _
        rw [pn]
        rfl)
  rw [range_len] at hl hn
  subst hsd1
  have few : ps.length = 1 ∨ ∀ p ∈ ps, p.rows.length ≤ 6 := by
    by_cases w : wide = false
    · exact .inr fun p hp => fw p hp w
    · exact .inl (by rw [hl]; exact m3 (by simpa using w))
  refine ⟨ps, ?_, ⟨by omega, by omega, ok, few, q, base, bk, bl, ?_⟩⟩
  · cases wide with
    | true =>
      have hm : (1 : Int) = (many : Int) := hm
      simp at hw
      simp [F_law_parts, G_law_parts, hp, hc, hw, fn, r0, e1, ← hm] at fn r0 e1 ⊢
      simp [fn, r0, e1]
    | false =>
      have hm : 1 + fst / 5 % 4 = (many : Int) := hm
      simp at hw
      simp [F_law_parts, G_law_parts, hp, hc, hw, hm, fn, r0] at e1 ⊢
      simp [e1]
  · rw [hn, List.take_of_length_le (by omega), ← hnm, hl]
theorem bk_wb {ps : List Pl} (B : BkOk ps) : WB ps := by
  obtain ⟨q, base, bk, bl, e⟩ := B.names
  have l2 := B.l2
  have mem : ∀ p ∈ ps, ∃ k, k < ps.length ∧ p.name = nmF q base k := fun p hp => by
    have hm : p.name ∈ ps.map (·.name) := List.mem_map.mpr ⟨p, hp, rfl⟩
    rw [e] at hm
    obtain ⟨k, hk, ek⟩ := List.mem_map.mp hm
    exact ⟨k, List.mem_range.mp hk, ek.symm⟩
  refine ⟨B.l1, by omega, by rw [e]; exact nm_nodup q base (by omega), fun p hp => ?_, fun i p hi r hr => ?_, fun p hp => ?_⟩
  · obtain ⟨k, hk, ek⟩ := mem p hp
    rw [ek]
    exact ⟨nm_ok (by omega) bk, nm_pos _ _ _, nm_ne (by decide +kernel), nm_ne (by decide +kernel)⟩
  · obtain ⟨k, hk⟩ := List.getElem?_of_mem hr
    rcases ((B.pls i p hi).rows k r hk).how with z | z | z
    · exact .inl z
    · exact .inr (.inl z)
    · obtain ⟨y, hy, ey⟩ := List.mem_map.mp z
      refine .inr (.inr (List.mem_map.mpr ⟨y, hy, ?_⟩))
      exact congrArg Prod.fst ey
  · obtain ⟨i, hi⟩ := List.getElem?_of_mem hp
    exact ⟨(B.pls i p hi).r2, (B.pls i p hi).g2⟩

noncomputable def G_is_name : FS := (sSeq (sIf (dOrT (dNotT (dBool (dChain gLe gLe (dC (.int 1)) (dBlt gLen (dCons (dVar 0) dNil)) (dC (.int 12))))) (dOrT (dBool (dOp (gIn false) (dVar 0) (dC (.tup (List.map .str ["plan", "given", "all", "first", "part"]))))) (dBool (dOp (gInS true) (dOp gIx (dVar 0) (dC (.int 0))) (dC (.str "abcdefghijklmnopqrstuvwxyz")))))) (sRet (dC (.bl false))) sNext) (sRet (dBlt gAll (dCons (dComp [none] (iStr (dVar 0)) (.one 0) (dOrV (dOp (gInS false) (dVar 0) (dC (.str "abcdefghijklmnopqrstuvwxyz"))) (dOp (gInS false) (dVar 0) (dC (.str "0123456789"))))) dNil))))
noncomputable def F_is_name : List D → Res D := runD 1 1 G_is_name
-- NOTES: {"iter text": "str"}
noncomputable def kB (x : Str) : Bool := (List.map D.str ["plan", "given", "all", "first", "part"]).any fun e => sameD e (.str x)
def LT : List Nat := ("abcdefghijklmnopqrstuvwxyz" : Str).cps.toList
def FG : List Nat := ("0123456789" : Str).cps.toList
noncomputable def nameB (x : Str) : Bool := decide (1 ≤ x.length ∧ x.length ≤ 12) && (!kB x && (decide (x.cps.toList.headD 0 ∈ LT) && x.cps.toList.all fun c => decide (c ∈ LT) || decide (c ∈ FG)))
theorem gIn_kept {n : Nat} {x : Str} (h : TxtOk n x) : gIn false (.str x) (.tup (List.map D.str ["plan", "given", "all", "first", "part"])) = some (.bl (kB x)) := by
  have p : plN 12 (.str x) = true := by
    show PyData.strOk x = true
    unfold PyData.strOk
    rw [← Array.all_toList, List.all_eq_true]
    exact fun c hc => decide_eq_true (Nat.lt_trans (asc_iff.mp h.asc c hc) (by omega))
  have q : (List.map D.str ["plan", "given", "all", "first", "part"]).all (plN 12) = true := by decide +kernel
  show (if plN 12 (.str x) && (List.map D.str ["plan", "given", "all", "first", "part"]).all (plN 12) then some (D.bl (if false = true then _ else kB x)) else none) = _
  rw [p, q]
  rfl
theorem f_is_name {n : Nat} {x : Str} (h : TxtOk n x) (hn : n ≤ 1000) : F_is_name [.str x] = .ok (.bl (nameB x)) := by
  have gl := gLen_str h hn
  have gk := gIn_kept h
  have ha : ascB x = true := h.asc
  unfold nameB
  by_cases c : 1 ≤ x.length ∧ x.length ≤ 12
  · rw [decide_eq_true c, Bool.true_and]
    have c1 : (1 : Int) ≤ (x.length : Int) := by omega
    have c2 : (x.length : Int) ≤ 12 := by omega
    cases k : kB x with
    | true =>
      rw [k] at gk
      simp [F_is_name, G_is_name, gl, c1, c2] at gk ⊢
      simp [gk]
    | false =>
      rw [k] at gk
      obtain ⟨c0, hx, h0, _⟩ := gIx_str (k := 0) h hn (by omega) (by omega)
      have hd : x.cps.toList.headD 0 = c0 := by
        have h0 : x.cps.toList[0]? = some c0 := h0
        cases l : x.cps.toList with
        | nil => rw [l] at h0; cases h0
        | cons a l' => rw [l] at h0; exact Option.some.inj h0
      have gi := gInS_one true c0 "abcdefghijklmnopqrstuvwxyz"
      rw [hd]
      have key : mapE (.one 0) (dOrV (dOp (gInS false) (dVar 0) (dC (.str "abcdefghijklmnopqrstuvwxyz"))) (dOp (gInS false) (dVar 0) (dC (.str "0123456789")))) [none] (chD x) = .ok ((x.cps.toList.map fun c => decide (c ∈ LT) || decide (c ∈ FG)).map .bl) := by
        rw [List.map_map]
        refine mapE_ok fun c _ => ?_
        have g1 := gInS_one false c "abcdefghijklmnopqrstuvwxyz"
        have g2 := gInS_one false c "0123456789"
        have g1 : gInS false (.str ⟨#[c]⟩) (.str "abcdefghijklmnopqrstuvwxyz") = some (.bl (decide (c ∈ LT))) := g1
        have g2 : gInS false (.str ⟨#[c]⟩) (.str "0123456789") = some (.bl (decide (c ∈ FG))) := g2
        cases p : decide (c ∈ LT) with
        | true => rw [p] at g1; simp [g1, p]
        | false => rw [p] at g1; simp [g1, g2, p]
      have ga := gAll_bls (x.cps.toList.map fun c => decide (c ∈ LT) || decide (c ∈ FG))
      have ea : (x.cps.toList.map fun c => decide (c ∈ LT) || decide (c ∈ FG)).all id = x.cps.toList.all fun c => decide (c ∈ LT) || decide (c ∈ FG) := by rw [List.all_map]; rfl
      rw [ea] at ga
      generalize (x.cps.toList.map fun c => decide (c ∈ LT) || decide (c ∈ FG)).map D.bl = bs at key ga
      have lz : (chD x).length < sizeLine := small_lt (by unfold chD; rw [List.length_map, Array.length_toList]; have : x.length = x.cps.size := rfl; omega)
      have gi : gInS true (.str ⟨#[c0]⟩) (.str "abcdefghijklmnopqrstuvwxyz") = some (.bl (!decide (c0 ∈ LT))) := gi
      cases p : decide (c0 ∈ LT) with
      | true =>
        rw [p] at gi
        simp [F_is_name, G_is_name, gl, c1, c2] at gk hx ⊢
        simp [gk, hx, gi, ha, lz, key, ga]
      | false =>
        rw [p] at gi
        simp [F_is_name, G_is_name, gl, c1, c2] at gk hx ⊢
        simp [gk, hx, gi]
  · rw [decide_eq_false c, Bool.false_and]
    have c3 : ¬ ((1 : Int) ≤ (x.length : Int) ∧ (x.length : Int) ≤ 12) := by omega
    by_cases c1 : (1 : Int) ≤ (x.length : Int)
    · have c2 : ¬ (x.length : Int) ≤ 12 := fun z => c3 ⟨c1, z⟩
      simp [F_is_name, G_is_name, gl, c1, c2]
    · simp [F_is_name, G_is_name, gl, c1]

noncomputable def G_are_names : FS := (sRet (dAndV (dBlt gAll (dCons (dComp [none] (iS (dVar 0)) (.one 0) (dCall F_is_name (dCons (dVar 0) dNil))) dNil)) (dOp gEq (dBlt gLenK (dCons (dVar 0) dNil)) (dBlt gLen (dCons (dVar 0) dNil)))))
noncomputable def F_are_names : List D → Res D := runD 1 1 G_are_names
-- NOTES: {"len(set(texts))": "str"}
theorem fig_at : ∀ k : Fin 10, FG[k.val]? = some (48 + k.val) := by decide +kernel
theorem lt_mem {c : Nat} (h : isL c = true) : c ∈ LT := by
  unfold isL at h
  rw [Bool.and_eq_true, decide_eq_true_eq, decide_eq_true_eq] at h
  have := letters_at ⟨c - 97, by omega⟩
  rw [show 97 + (c - 97) = c by omega] at this
  exact List.mem_of_getElem? this
theorem fg_mem {c : Nat} (h : isG c = true) : c ∈ FG := by
  unfold isG at h
  rw [Bool.and_eq_true, decide_eq_true_eq, decide_eq_true_eq] at h
  have := fig_at ⟨c - 48, by omega⟩
  rw [show 48 + (c - 48) = c by omega] at this
  exact List.mem_of_getElem? this
theorem nameB_of {x : Str} (h : nameC x = true) : nameB x = true := by
  unfold nameC at h
  rw [Bool.and_eq_true, Bool.and_eq_true, Bool.and_eq_true, Bool.and_eq_true, decide_eq_true_eq, decide_eq_true_eq] at h
  obtain ⟨h1, h2, h3, h4, h5⟩ := h
  have k : kB x = false := by
    unfold kB
    rw [List.any_eq_false]
    intro d hd
    obtain ⟨w, hw, rfl⟩ := List.mem_map.mp hd
    have := List.all_eq_true.mp h3 w hw
    rw [Bool.not_eq_true', decide_eq_false_iff_not] at this
    rw [Bool.not_eq_true, sameD_no]
    intro z
    injection z with z
    exact this z
  have a : (x.cps.toList.all fun c => decide (c ∈ LT) || decide (c ∈ FG)) = true := by
    rw [List.all_eq_true] at h5 ⊢
    intro c hc
    rcases Bool.or_eq_true_iff.mp (h5 c hc) with z | z
    · rw [decide_eq_true (lt_mem z)]; rfl
    · rw [decide_eq_true (fg_mem z), Bool.or_true]
  unfold nameB
  rw [decide_eq_true ⟨h1, h2⟩, k, decide_eq_true (lt_mem h4), a]
  rfl
theorem gLenK_str {xs : List Str} (h : xs.Nodup) (hl : xs.length ≤ 999) : gLenK [.lst (xs.map .str)] = some (.int xs.length) := by
  have e : allOf keyOf (xs.map .str) = some (xs.map Sum.inr) := allOf_map (f := keyOf) (g := D.str) (k := Sum.inr) (fun _ => rfl) xs
  have nd : (xs.map (Sum.inr : Str → Key)).Nodup := by
    rw [List.nodup_iff_pairwise_ne, List.pairwise_map]
    exact List.Pairwise.imp (fun {a b} n z => n (by injection z)) (List.nodup_iff_pairwise_ne.mp h)
  show (allOf keyOf (xs.map .str)).bind _ = _
  rw [e]
  show (if (xs.map (Sum.inr : Str → Key)).length ≤ 999 then _ else _) = _
  rw [List.length_map, if_pos hl, L2.ST.dedL_nodup nd, List.length_map]
theorem f_are_names {xs : List Str} (h1 : ∀ x ∈ xs, nmOk x) (h2 : xs.Nodup) (h3 : xs.length ≤ 60) : F_are_names [.lst (xs.map .str)] = .ok (.bl true) := by
  have key : mapE (.one 0) (dCall F_is_name (dCons (dVar 0) dNil)) [none] (xs.map .str) = .ok ((xs.map fun _ => true).map .bl) := by
    rw [List.map_map]
    exact mapE_ok fun x hx => by
      have := f_is_name (h1 x hx).1 (by omega)
      rw [nameB_of (h1 x hx).2] at this
      simp [this]
  have ga := gAll_bls (xs.map fun _ => true)
  rw [show (xs.map fun _ => true).all id = true by rw [List.all_map, List.all_eq_true]; exact fun _ _ => rfl] at ga
  have gl := gLenK_str h2 (by omega)
  have hz : (xs.map D.str).length < sizeLine := small_lt (by rw [List.length_map]; omega)
  have ln : gLen [.lst (xs.map .str)] = some (.int xs.length) := by rw [gLen_lst, List.length_map]
  generalize (xs.map fun _ => true).map D.bl = bs at key ga
  generalize xs.map D.str = ds at key gl hz ln ⊢
  simp [F_are_names, G_are_names, hz, key, ga, gl] at ln ⊢
  simp [ln]

noncomputable def G_look_at_names : FS := (sSeq (sIf (dNotT (dBool (dCall0 F_are_names (dCons (dComp [none] (iS (dUn (gFld "Book" "plans") (dVar 0))) (.one 0) (dUn (gFld "Plan" "name") (dVar 0))) dNil)))) (sRaise "BadName" (dC (.str "a plan's name is no name or stands twice"))) sNext) (sFor (iS (dUn (gFld "Book" "plans") (dVar 0))) (.one 1) (sIf (dNotT (dBool (dCall0 F_are_names (dCons (dOp gAdd (dUn (gFld "Plan" "givens") (dVar 1)) (dComp [none, none, none] (iS (dUn (gFld "Plan" "rows") (dVar 1))) (.tup [0, 1, 2]) (dVar 0))) dNil)))) (sRaise "BadName" (dC (.str "a thing's name is no name or stands twice in its plan"))) sNext)))
noncomputable def F_look_at_names : List D → Res D := runD 2 1 G_look_at_names
theorem f_look_at_names {ps : List Pl} (L : LB ps) (W : WB ps) : F_look_at_names [bookD ps] = .ok .non := by
  have l2 := W.l2
  have hz := small_lt (show ps.length ≤ 1000 by omega)
  have k0 : mapE (.one 0) (dUn (gFld "Plan" "name") (dVar 0)) [none] (ps.map planI) = .ok ((ps.map (·.name)).map .str) := by
    rw [List.map_map]
    exact mapE_ok fun p _ => by simp
  have a0 := f_are_names (xs := ps.map (·.name)) (fun x hx => by
    obtain ⟨p, hp, rfl⟩ := List.mem_map.mp hx
    obtain ⟨i, P⟩ := L.mem hp
    exact P.nm) W.nd (by rw [List.length_map]; omega)
  generalize (ps.map (·.name)).map D.str = ns at k0 a0
  obtain ⟨sd1, e1, u1, hsd1⟩ := for_inv (tg := .one 1) (b := (sIf (dNotT (dBool (dCall0 F_are_names (dCons (dOp gAdd (dUn (gFld "Plan" "givens") (dVar 1)) (dComp [none, none, none] (iS (dUn (gFld "Plan" "rows") (dVar 1))) (.tup [0, 1, 2]) (dVar 0))) dNil)))) (sRaise "BadName" (dC (.str "a thing's name is no name or stands twice in its plan"))) sNext)) (ds := ps.map planI) (sd := [some (.val (bookD ps)), none])
    (P := fun i sd => ∃ u1 : Option SV, sd = [some (.val (bookD ps)), u1]) ⟨none, rfl⟩ (by
      rintro i x sd hx ⟨u1, rfl⟩
      obtain ⟨p, hp, rfl⟩ := map_at hx
      have P := L i p hp
      have hg := P.g2
      have hr2 := P.r2
      have hr := small_lt (show p.rows.length ≤ 1000 by omega)
      have k1 : mapE (.tup [0, 1, 2]) (dVar 0) [none, none, none] (p.rows.map rowD) = .ok ((p.rows.map (·.1)).map .str) := by
        rw [List.map_map]
        exact mapE_ok fun r _ => by simp
      have ga : gAdd (.lst (p.givens.map .str)) (.lst ((p.rows.map (·.1)).map .str)) = some (.lst ((p.givens ++ p.rows.map (·.1)).map .str)) := by
        rw [List.map_append]
        exact if_pos (small (by rw [List.length_map, List.length_map, List.length_map]; omega))
      have a1 := f_are_names (xs := p.givens ++ p.rows.map (·.1)) P.tn P.td (by rw [List.length_append, List.length_map]; omega)
      generalize (p.givens ++ p.rows.map (·.1)).map D.str = zs at ga a1
      generalize (p.rows.map (·.1)).map D.str = ys at k1 ga
      refine ⟨[some (.val (bookD ps)), some (.val (planI p))], ?_, _, rfl⟩
      simp [hr, k1, ga, a1])
  subst hsd1
  simp [F_look_at_names, G_look_at_names, hz, k0, a0, e1]

noncomputable def G_is_part : FS := (sRet (dOp (gIn true) (dVar 0) (dTup (dCons (dC (.str "all")) (dCons (dC (.str "first")) dNil)))))
noncomputable def F_is_part : List D → Res D := runD 1 1 G_is_part
theorem f_is_part {how : Str} (h : asc how) : F_is_part [.str how] = .ok (.bl (isP how)) := by
  have p : plN 12 (.str how) = true := str_pl h
  have q : [D.str "all", D.str "first"].all (plN 12) = true := by decide +kernel
  have g : gIn true (.str how) (.tup [.str "all", .str "first"]) = some (.bl (isP how)) := by
    show (if plN 12 (.str how) && [D.str "all", D.str "first"].all (plN 12) then some (D.bl (if true = true then !([D.str "all", D.str "first"].any fun e => sameD e (.str how)) else _)) else none) = _
    rw [p, q]
    show some (D.bl (!([D.str "all", D.str "first"].any fun e => sameD e (.str how)))) = _
    unfold isP sameD
    congr 3
    have e1 : decide (("all" : Str) = how) = decide (how = "all") := decide_eq_decide.mpr eq_comm
    have e2 : decide (("first" : Str) = how) = decide (how = "first") := decide_eq_decide.mpr eq_comm
    simp [e1, e2]
  simp [F_is_part, G_is_part, g]

noncomputable def G_look_at_parts : FS := (sSeq (sOwn 1 dNewD) (sFor (iS (dUn (gFld "Book" "plans") (dVar 0))) (.one 2) (sSeq (sFor (iS (dUn (gFld "Plan" "rows") (dVar 2))) (.tup [3, 4, 5]) (sIf (dAndT (dBool (dCall0 F_is_part (dCons (dVar 4) dNil))) (dBool (dOp gNe (dTmp0 [1] (dGet1 (dVar 1) (dVar 4))) (dBlt gLen (dCons (dVar 5) dNil))))) (sRaise "BadPart" ((jFv gRepr (dVar 3) (jCon " is made by no plan ahead that has as many given things as it has items" jNil)) Str.empty)) sNext)) (sDput 1 (dUn (gFld "Plan" "name") (dVar 2)) (dBlt gLen (dCons (dUn (gFld "Plan" "givens") (dVar 2)) dNil))))))
noncomputable def F_look_at_parts : List D → Res D := runD 6 1 G_look_at_parts
theorem lk_parts {ps : List Pl} (nd : (ps.map (·.name)).Nodup) {x : Str} {n : Int} (h : (x, n) ∈ partsOf ps) : lkT (partsOf ps) x = some n := by
  unfold lkT
  cases e : (partsOf ps).find? fun p => decide (p.1 = x) with
  | none => exact absurd (decide_eq_true rfl) (List.find?_eq_none.mp e (x, n) h)
  | some q =>
    have e1 := of_decide_eq_true (List.find?_some (p := fun p : Str × Int => decide (p.1 = x)) e)
    have e2 := List.mem_of_find?_eq_some e
    obtain ⟨a, ha, ea⟩ := List.mem_map.mp e2
    obtain ⟨b, hb, eb⟩ := List.mem_map.mp h
    have nm : a.name = b.name := ((congrArg Prod.fst ea).trans e1).trans (congrArg Prod.fst eb).symm
    have ab : a = b := by
      obtain ⟨i, hi, ei⟩ := List.getElem_of_mem ha
      obtain ⟨j, hj, ej⟩ := List.getElem_of_mem hb
      have pw := List.pairwise_iff_getElem.mp (List.pairwise_map.mp (List.nodup_iff_pairwise_ne.mp nd))
      rcases Nat.lt_trichotomy i j with z | z | z
      · exact absurd (by rw [ei, ej]; exact nm) (pw i j hi hj z)
      · subst z; rw [← ei, ← ej]
      · exact absurd (by rw [ei, ej]; exact nm.symm) (pw j i hj hi z)
    show some q.2 = some n
    rw [← ea, ab]
    exact congrArg some (congrArg Prod.snd eb)
theorem parts_keys (ps : List Pl) : (partsOf ps).map (·.1) = ps.map (·.name) := by
  unfold partsOf
  rw [List.map_map]
  rfl
theorem f_look_at_parts {ps : List Pl} (L : LB ps) (W : WB ps) : F_look_at_parts [bookD ps] = .ok .non := by
  obtain ⟨sd1, e1, u2, u3, u4, u5, hsd1⟩ := for_inv (tg := .one 2) (b := (sSeq (sFor (iS (dUn (gFld "Plan" "rows") (dVar 2))) (.tup [3, 4, 5]) (sIf (dAndT (dBool (dCall0 F_is_part (dCons (dVar 4) dNil))) (dBool (dOp gNe (dTmp0 [1] (dGet1 (dVar 1) (dVar 4))) (dBlt gLen (dCons (dVar 5) dNil))))) (sRaise "BadPart" ((jFv gRepr (dVar 3) (jCon " is made by no plan ahead that has as many given things as it has items" jNil)) Str.empty)) sNext)) (sDput 1 (dUn (gFld "Plan" "name") (dVar 2)) (dBlt gLen (dCons (dUn (gFld "Plan" "givens") (dVar 2)) dNil))))) (ds := ps.map planI)
    (sd := [some (.val (bookD ps)), some (.own false (.dct [] [])), none, none, none, none])
    (P := fun i sd => ∃ u2 u3 u4 u5 : Option SV, sd = [some (.val (bookD ps)), some (.own false (dT (partsOf (ps.take i)))), u2, u3, u4, u5]) ⟨none, none, none, none, rfl⟩ (by
      rintro i x sd hx ⟨u2, u3, u4, u5, rfl⟩
      obtain ⟨p, hp, rfl⟩ := map_at hx
      have P := L i p hp
      have il := (List.getElem?_eq_some_iff.mp hp).1
      have l2 := W.l2
      have nd : ((ps.take i).map (·.name)).Nodup := by
        rw [List.map_take]
        exact List.Sublist.nodup (List.take_sublist _ _) W.nd
      obtain ⟨t, ht⟩ : ∃ t, partsOf (ps.take i) = t := ⟨_, rfl⟩
      have fr : p.name ∉ t.map (·.1) := by
        rw [← ht, parts_keys, ← wt_keys0]
        exact W.fresh hp
      have tl : t.length ≤ 20 := by
        rw [← ht]
        unfold partsOf
        rw [List.length_map, List.length_take]
        omega
      have lk : ∀ r ∈ p.rows, isP r.2.1 = true → lkT t r.2.1 = some (r.2.2.length : Int) := fun r hr q => by
        rcases P.how r hr with z | z | z
        · rw [z] at q; exact absurd q (by decide +kernel)
        · rw [z] at q; exact absurd q (by decide +kernel)
        · rw [← ht]; exact lk_parts nd z
      obtain ⟨sd2, e2, v3, v4, v5, hsd2⟩ := for_inv (tg := .tup [3, 4, 5]) (b := (sIf (dAndT (dBool (dCall0 F_is_part (dCons (dVar 4) dNil))) (dBool (dOp gNe (dTmp0 [1] (dGet1 (dVar 1) (dVar 4))) (dBlt gLen (dCons (dVar 5) dNil))))) (sRaise "BadPart" ((jFv gRepr (dVar 3) (jCon " is made by no plan ahead that has as many given things as it has items" jNil)) Str.empty)) sNext)) (ds := p.rows.map rowD)
        (sd := [some (.val (bookD ps)), some (.own false (dT t)), some (.val (planI p)), u3, u4, u5])
        (P := fun _ sd => ∃ u3 u4 u5 : Option SV, sd = [some (.val (bookD ps)), some (.own false (dT t)), some (.val (planI p)), u3, u4, u5]) ⟨u3, u4, u5, rfl⟩ (by
          rintro j y sd hy ⟨u3, u4, u5, rfl⟩
          obtain ⟨r, hr, rfl⟩ := map_at hy
          have rm : r ∈ p.rows := List.mem_of_getElem? hr
          have fi := f_is_part (W.hasc hp rm)
          have gl : gLen [rwD r.2.2] = some (.int r.2.2.length) := by show some (D.int (r.2.2.map prD).length) = _; rw [List.length_map]
          refine ⟨[some (.val (bookD ps)), some (.own false (dT t)), some (.val (planI p)), some (.val (.str r.1)), some (.val (.str r.2.1)), some (.val (rwD r.2.2))], ?_, _, _, _, rfl⟩
          cases q : isP r.2.1 with
          | false =>
            rw [q] at fi
            simp [fi]
          | true =>
            rw [q] at fi
            have v := val_T t r.2.1
            rw [lk r rm q] at v
            have dt : dctOf (dT t) = .ok (t.map fun p => .inr p.1, t.map fun p => .int p.2) := rfl
            simp [fi, gl, dt, v, scalD])
      subst hsd2
      have pt := put_T fr (p.givens.length : Int)
      have lz := small_lt (show t.length ≤ 1000 by omega)
      have tk : partsOf (ps.take (i + 1)) = t ++ [(p.name, (p.givens.length : Int))] := by
        rw [List.take_succ, hp, ← ht]
        unfold partsOf
        rw [List.map_append]
        rfl
      have gk : ownK (some (some (.own false (dT t)))) = .ok (t.map fun p => .inr p.1, t.map fun p => .int p.2) := rfl
      refine ⟨[some (.val (bookD ps)), some (.own false (dT (t ++ [(p.name, (p.givens.length : Int))]))), some (.val (planI p)), v3, v4, v5], ?_, _, _, _, _, by rw [tk]⟩
      rw [← pt, ht]
      simp [e2, gk, lz])
  subst hsd1
  simp [F_look_at_parts, G_look_at_parts, dNewD, e1]

noncomputable def G_look_at_items : FS := (sSeq (sSet 1 (dBlt gLen (dCons (dUn (gFld "Plan" "givens") (dVar 0)) dNil))) (sFor (iS (dUn (gFld "Plan" "rows") (dVar 0))) (.tup [2, 3, 4]) (sSeq (sIf (dNotT (dBool (dChain gLe gLe (dC (.int 1)) (dBlt gLen (dCons (dVar 4) dNil)) (dC (.int 40))))) (sRaise "BadPlan" ((jFv gRepr (dVar 2) (jCon " has not 1 to 40 items" jNil)) Str.empty)) sNext) (sSeq (sFor (iS (dVar 4)) (.tup [5, 6]) (sSeq (sIf (dNotT (dBool (dChain gLe gLt (dC (.int 0)) (dVar 5) (dVar 1)))) (sRaise "BadPlan" ((jCon "an item of " (jFv gRepr (dVar 2) (jCon " is no thing ahead of it" jNil))) Str.empty)) sNext) (sIf (dBool (dOp gGe (dBlt gAbs (dCons (dVar 6) dNil)) (dOp gPow (dC (.int 10)) (dC (.int 30))))) (sRaise "BadPlan" ((jCon "a wait of " (jFv gRepr (dVar 2) (jCon " has more than 30 figures" jNil))) Str.empty)) sNext))) (sAug 1 (dC (.int 1)))))))
noncomputable def F_look_at_items : List D → Res D := runD 7 1 G_look_at_items
theorem f_look_at_items {ahead : List Pl} {p : Pl} (P : PL ahead p) : F_look_at_items [planI p] = .ok .non := by
  have pw : gPow (.int 10) (.int 30) = some (.int 1000000000000000000000000000000) := rfl
  obtain ⟨sd1, e1, u2, u3, u4, u5, u6, hsd1⟩ := for_inv (tg := .tup [2, 3, 4]) (b := (sSeq (sIf (dNotT (dBool (dChain gLe gLe (dC (.int 1)) (dBlt gLen (dCons (dVar 4) dNil)) (dC (.int 40))))) (sRaise "BadPlan" ((jFv gRepr (dVar 2) (jCon " has not 1 to 40 items" jNil)) Str.empty)) sNext) (sSeq (sFor (iS (dVar 4)) (.tup [5, 6]) (sSeq (sIf (dNotT (dBool (dChain gLe gLt (dC (.int 0)) (dVar 5) (dVar 1)))) (sRaise "BadPlan" ((jCon "an item of " (jFv gRepr (dVar 2) (jCon " is no thing ahead of it" jNil))) Str.empty)) sNext) (sIf (dBool (dOp gGe (dBlt gAbs (dCons (dVar 6) dNil)) (dOp gPow (dC (.int 10)) (dC (.int 30))))) (sRaise "BadPlan" ((jCon "a wait of " (jFv gRepr (dVar 2) (jCon " has more than 30 figures" jNil))) Str.empty)) sNext))) (sAug 1 (dC (.int 1)))))) (ds := p.rows.map rowD)
    (sd := [some (.val (planI p)), some (.val (.int p.givens.length)), none, none, none, none, none])
    (P := fun i sd => ∃ u2 u3 u4 u5 u6 : Option SV, sd = [some (.val (planI p)), some (.val (.int ((p.givens.length : Int) + i))), u2, u3, u4, u5, u6]) ⟨none, none, none, none, none, by simp⟩ (by
      rintro i x sd hx ⟨u2, u3, u4, u5, u6, rfl⟩
      obtain ⟨r, hr, rfl⟩ := map_at hx
      obtain ⟨I, n1, n2⟩ := P.its i r hr
      obtain ⟨g, hg⟩ : ∃ g : Int, (p.givens.length : Int) + i = g := ⟨_, rfl⟩
      rw [hg] at I
      obtain ⟨sd2, e2, v5, v6, hsd2⟩ := for_inv (tg := .tup [5, 6]) (b := (sSeq (sIf (dNotT (dBool (dChain gLe gLt (dC (.int 0)) (dVar 5) (dVar 1)))) (sRaise "BadPlan" ((jCon "an item of " (jFv gRepr (dVar 2) (jCon " is no thing ahead of it" jNil))) Str.empty)) sNext) (sIf (dBool (dOp gGe (dBlt gAbs (dCons (dVar 6) dNil)) (dOp gPow (dC (.int 10)) (dC (.int 30))))) (sRaise "BadPlan" ((jCon "a wait of " (jFv gRepr (dVar 2) (jCon " has more than 30 figures" jNil))) Str.empty)) sNext))) (ds := r.2.2.map prD)
        (sd := [some (.val (planI p)), some (.val (.int g)), some (.val (.str r.1)), some (.val (.str r.2.1)), some (.val (rwD r.2.2)), u5, u6])
        (P := fun _ sd => ∃ u5 u6 : Option SV, sd = [some (.val (planI p)), some (.val (.int g)), some (.val (.str r.1)), some (.val (.str r.2.1)), some (.val (rwD r.2.2)), u5, u6]) ⟨u5, u6, rfl⟩ (by
          rintro j y sd hy ⟨u5, u6, rfl⟩
          obtain ⟨q, hq, rfl⟩ := map_at hy
          have qm : q ∈ r.2.2 := List.mem_of_getElem? hq
          obtain ⟨a1, a2⟩ := I.rng q qm
          obtain ⟨b1, b2⟩ := I.far q qm
          have ab : ¬ (1000000000000000000000000000000 : Int) ≤ (if q.2 < 0 then -q.2 else q.2) := by split <;> omega
          refine ⟨[some (.val (planI p)), some (.val (.int g)), some (.val (.str r.1)), some (.val (.str r.2.1)), some (.val (rwD r.2.2)), some (.val (.int q.1)), some (.val (.int q.2))], ?_, _, _, rfl⟩
          simp [a1, a2, pw, ab])
      subst hsd2
      have c1 : (1 : Int) ≤ (r.2.2.length : Int) := by omega
      have c2 : (r.2.2.length : Int) ≤ 40 := by omega
      have eg : g + 1 = (p.givens.length : Int) + ((i + 1 : Nat) : Int) := by omega
      refine ⟨[some (.val (planI p)), some (.val (.int (g + 1))), some (.val (.str r.1)), some (.val (.str r.2.1)), some (.val (rwD r.2.2)), v5, v6], ?_, _, _, _, _, _, by rw [eg]⟩
      have gl : gLen [rwD r.2.2] = some (.int r.2.2.length) := by show some (D.int (r.2.2.map prD).length) = _; rw [List.length_map]
      rw [hg]
      simp [gl, c1, c2, e2])
  subst hsd1
  simp [F_look_at_items, G_look_at_items, e1]

noncomputable def G_look_at_plans : FS := (sSeq (sIf (dNotT (dBool (dChain gLe gLe (dC (.int 1)) (dBlt gLen (dCons (dUn (gFld "Book" "plans") (dVar 0)) dNil)) (dC (.int 20))))) (sRaise "BadPlan" (dC (.str "a book has 1 to 20 plans"))) sNext) (sFor (iS (dUn (gFld "Book" "plans") (dVar 0))) (.one 1) (sSeq (sIf (dNotT (dBool (dChain gLe gLe (dC (.int 1)) (dBlt gLen (dCons (dUn (gFld "Plan" "givens") (dVar 1)) dNil)) (dC (.int 12))))) (sRaise "BadPlan" (dC (.str "a plan has 1 to 12 given things"))) sNext) (sSeq (sIf (dNotT (dBool (dChain gLe gLe (dC (.int 1)) (dBlt gLen (dCons (dUn (gFld "Plan" "rows") (dVar 1)) dNil)) (dC (.int 40))))) (sRaise "BadPlan" (dC (.str "a plan has 1 to 40 rows"))) sNext) (sDrop (dCall F_look_at_items (dCons (dVar 1) dNil)))))))
noncomputable def F_look_at_plans : List D → Res D := runD 2 1 G_look_at_plans
theorem f_look_at_plans {ps : List Pl} (L : LB ps) (l1 : 1 ≤ ps.length) (l2 : ps.length ≤ 20) : F_look_at_plans [bookD ps] = .ok .non := by
  obtain ⟨sd1, e1, u1, hsd1⟩ := for_inv (tg := .one 1) (b := (sSeq (sIf (dNotT (dBool (dChain gLe gLe (dC (.int 1)) (dBlt gLen (dCons (dUn (gFld "Plan" "givens") (dVar 1)) dNil)) (dC (.int 12))))) (sRaise "BadPlan" (dC (.str "a plan has 1 to 12 given things"))) sNext) (sSeq (sIf (dNotT (dBool (dChain gLe gLe (dC (.int 1)) (dBlt gLen (dCons (dUn (gFld "Plan" "rows") (dVar 1)) dNil)) (dC (.int 40))))) (sRaise "BadPlan" (dC (.str "a plan has 1 to 40 rows"))) sNext) (sDrop (dCall F_look_at_items (dCons (dVar 1) dNil)))))) (ds := ps.map planI) (sd := [some (.val (bookD ps)), none])
    (P := fun i sd => ∃ u1 : Option SV, sd = [some (.val (bookD ps)), u1]) ⟨none, rfl⟩ (by
      rintro i x sd hx ⟨u1, rfl⟩
      obtain ⟨p, hp, rfl⟩ := map_at hx
      have P := L i p hp
      have fi := f_look_at_items P
      have g1 := P.g1
      have g2 := P.g2
      have r1 := P.r1
      have r2 := P.r2
      have a1 : (1 : Int) ≤ (p.givens.length : Int) := by omega
      have a2 : (p.givens.length : Int) ≤ 12 := by omega
      have a3 : (1 : Int) ≤ (p.rows.length : Int) := by omega
      have a4 : (p.rows.length : Int) ≤ 40 := by omega
      refine ⟨[some (.val (bookD ps)), some (.val (planI p))], ?_, _, rfl⟩
      simp [a1, a2, a3, a4, fi])
  subst hsd1
  have b1 : (1 : Int) ≤ (ps.length : Int) := by omega
  have b2 : (ps.length : Int) ≤ 20 := by omega
  simp [F_look_at_plans, G_look_at_plans, b1, b2, e1]

noncomputable def G_weights : FS := (sSeq (sOwn 1 dNewD) (sSeq (sFor (iS (dUn (gFld "Book" "plans") (dVar 0))) (.one 2) (sSeq (sOwn 3 (dTmpN [1] (dCompIf [none, none, none, some 1] (iS (dUn (gFld "Plan" "rows") (dVar 2))) (.tup [0, 1, 2]) (dBool (dCall F_is_part (dCons (dVar 1) dNil))) (dOp gIx (dVar 3) (dVar 1))))) (sDput 1 (dUn (gFld "Plan" "name") (dVar 2)) (dOp gAdd (dBlt gLen (dCons (dUn (gFld "Plan" "rows") (dVar 2)) dNil)) (dTmp [3] (dBlt gSum (dCons (dVar 3) dNil))))))) (sRetOwn 1)))
noncomputable def F_weights : List D → Res D := runN 4 1 G_weights
-- NOTES: {'own': ['parts'], 'tmp parts': 1}
theorem f_weights {ps : List Pl} (W : WB ps) : F_weights [bookD ps] = .ok (dT (wtF ps)) := by
  obtain ⟨sd1, e1, u2, u3, hsd1⟩ := for_inv (tg := .one 2) (b := (sSeq (sOwn 3 (dTmpN [1] (dCompIf [none, none, none, some 1] (iS (dUn (gFld "Plan" "rows") (dVar 2))) (.tup [0, 1, 2]) (dBool (dCall F_is_part (dCons (dVar 1) dNil))) (dOp gIx (dVar 3) (dVar 1))))) (sDput 1 (dUn (gFld "Plan" "name") (dVar 2)) (dOp gAdd (dBlt gLen (dCons (dUn (gFld "Plan" "rows") (dVar 2)) dNil)) (dTmp [3] (dBlt gSum (dCons (dVar 3) dNil))))))) (ds := ps.map planI)
    (sd := [some (.val (bookD ps)), some (.own false (.dct [] [])), none, none])
    (P := fun i sd => ∃ (u2 u3 : Option SV), sd = [some (.val (bookD ps)), some (.own false (dT (wtF (ps.take i)))), u2, u3]) ⟨none, none, rfl⟩ (by
      rintro i x sd hx ⟨u2, u3, rfl⟩
      obtain ⟨p, hp, rfl⟩ := map_at hx
      have pm : p ∈ ps := List.mem_of_getElem? hp
      obtain ⟨t, ht⟩ : ∃ t, wtF (ps.take i) = t := ⟨_, rfl⟩
      have fr := W.fresh hp
      have tl := wt_len W i
      have prt : ∀ r ∈ p.rows, (lkT t r.2.1).isSome = isP r.2.1 := fun r hr => by rw [← ht]; exact W.part hp hr
      rw [ht] at fr tl
      have hz := small_lt (show p.rows.length ≤ 1000 by have := (W.sz p pm).1; omega)
      have key : mapTg (.tup [0, 1, 2]) (dBool (dCall F_is_part (dCons (dVar 1) dNil))) (dOp gIx (dVar 3) (dVar 1)) [none, none, none, some (.val (dT t))] (p.rows.map rowD) = .ok ((p.rows.filter fun r => isP r.2.1).map fun r => D.int ((lkT t r.2.1).getD 0)) := mapTg_ok (s := fun r => [some (.val (.str r.1)), some (.val (.str r.2.1)), some (.val (rwD r.2.2)), some (.val (dT t))]) (fun r _ => by simp) (fun r hr => by
          have := f_is_part (W.hasc hp hr)
          simp [this]) (fun r hr q => by
          have h := prt r hr
          rw [q] at h
          obtain ⟨v, hv⟩ := Option.isSome_iff_exists.mp h
          simp [hv])
      have fl := flat_ints (fun r : Str × Str × List (Int × Int) => (lkT t r.2.1).getD 0) (p.rows.filter fun r => isP r.2.1)
      have gs := gSum_map (fun r : Str × Str × List (Int × Int) => (lkT t r.2.1).getD 0) (p.rows.filter fun r => isP r.2.1)
      have pt := put_T fr (wt1 t p)
      have lz := small_lt (show t.length ≤ 1000 by omega)
      have tk : ps.take (i + 1) = ps.take i ++ [p] := by rw [List.take_succ, hp]; rfl
      have en : wtF (ps.take (i + 1)) = t ++ [(p.name, wt1 t p)] := by rw [tk, wt_snoc, ht]
      refine ⟨[some (.val (bookD ps)), some (.own false (dT (wtF (ps.take (i + 1))))), some (.val (planI p)), some (.own false (.lst ((p.rows.filter fun r => isP r.2.1).map fun r => D.int ((lkT t r.2.1).getD 0))))], ?_, _, _, rfl⟩
      rw [en, ← pt, ht]
      simp [key, hz, fl, gs]
      simp [dT, lz, wt1])
  rw [List.length_map, List.take_length] at hsd1
  subst hsd1
  simp [F_weights, G_weights, dNewD, e1]

noncomputable def G_look_at_weights : FS := (sFor (iIt (dCall0 F_weights (dCons (dVar 0) dNil))) (.tup [1, 2]) (sIf (dBool (dOp gGt (dVar 2) (dC (.int 2000)))) (sRaise "TooLong" ((jCon "plan " (jFv gRepr (dVar 1) (jCon " has a weight of more than 2000" jNil))) Str.empty)) sNext))
noncomputable def F_look_at_weights : List D → Res D := runD 3 1 G_look_at_weights
theorem items_T (t : List (Str × Int)) : itemsD (t.map fun p => .inr p.1) (t.map fun p => .int p.2) = t.map fun p => D.tup [.str p.1, .int p.2] := by
  unfold itemsD
  rw [List.zipWith_map]
  induction t with
  | nil => rfl
  | cons p t ih => rw [List.zipWith_cons_cons, ih]; rfl
theorem f_look_at_weights {ps : List Pl} (L : LB ps) (W : WB ps) : F_look_at_weights [bookD ps] = .ok .non := by
  have fw := f_weights W
  obtain ⟨t, ht⟩ : ∃ t, wtF ps = t := ⟨_, rfl⟩
  have wt := L.wts
  rw [ht] at fw wt
  obtain ⟨sd1, e1, u1, u2, hsd1⟩ := for_inv (tg := .tup [1, 2]) (b := (sIf (dBool (dOp gGt (dVar 2) (dC (.int 2000)))) (sRaise "TooLong" ((jCon "plan " (jFv gRepr (dVar 1) (jCon " has a weight of more than 2000" jNil))) Str.empty)) sNext)) (ds := t.map fun p => D.tup [.str p.1, .int p.2])
    (sd := [some (.val (bookD ps)), none, none])
    (P := fun _ sd => ∃ u1 u2 : Option SV, sd = [some (.val (bookD ps)), u1, u2]) ⟨none, none, rfl⟩ (by
      rintro i x sd hx ⟨u1, u2, rfl⟩
      obtain ⟨q, hq, rfl⟩ := map_at hx
      have := wt q (List.mem_of_getElem? hq)
      have c : ¬ (2000 : Int) < q.2 := by omega
      refine ⟨[some (.val (bookD ps)), some (.val (.str q.1)), some (.val (.int q.2))], ?_, _, _, rfl⟩
      simp [c])
  subst hsd1
  have it : items1 (dT t) = .ok (t.map fun p => D.tup [.str p.1, .int p.2]) := by rw [← items_T]; rfl
  simp [F_look_at_weights, G_look_at_weights, fw, it, e1]

noncomputable def G_looked : FS := (sSeq (sDrop (dCall F_look_at_names (dCons (dVar 0) dNil))) (sSeq (sDrop (dCall F_look_at_plans (dCons (dVar 0) dNil))) (sSeq (sDrop (dCall F_look_at_parts (dCons (dVar 0) dNil))) (sDrop (dCall F_look_at_weights (dCons (dVar 0) dNil))))))
noncomputable def F_looked : List D → Res D := runD 1 1 G_looked
theorem f_looked {ps : List Pl} (L : LB ps) (l1 : 1 ≤ ps.length) (l2 : ps.length ≤ 20) : F_looked [bookD ps] = .ok .non := by
  have W := L.wb l1 l2
  have a := f_look_at_names L W
  have b := f_look_at_plans L l1 l2
  have c := f_look_at_parts L W
  have d := f_look_at_weights L W
  simp [F_looked, G_looked, a, b, c, d]

noncomputable def G_law : FS := (sSeq (sSet 1 (dCall F_law_parts (dCons (dVar 0) (dCons (dC (.int 1)) dNil)))) (sSeq (sIf (dBool (dOp gEq (dOp gMod (dCall F_law_cell_at (dCons (dVar 0) (dCons (dC (.int 0)) dNil))) (dC (.int 6))) (dC (.int 2)))) (sSet 1 (dOp gAdd (dVar 1) (dCall F_law_heavy (dCons (dC (.int 0)) dNil)))) sNext) (sSeq (sIf (dBool (dOp gEq (dOp gMod (dCall F_law_cell_at (dCons (dVar 0) (dCons (dC (.int 0)) dNil))) (dC (.int 6))) (dC (.int 3)))) (sSet 1 (dCall F_law_grown (dCons (dVar 1) (dCons (dC (.int 20)) dNil)))) sNext) (sSeq (sSet 2 (dCall F_law_book (dCons (dVar 1) dNil))) (sRet (dAndV (dUn (gIsN false) (dCall F_looked (dCons (dVar 2) dNil))) (dAndV (dOp gEq (dCall F_law_fields (dCons (dVar 2) dNil)) (dVar 1)) (dUn (gIsN false) (dCall F_looked (dCons (dVar 2) dNil))))))))))
noncomputable def F_law : List D → Res D := runD 3 1 G_law
theorem bk_lb {ps : List Pl} (B : BkOk ps) : LB ps := fun i p hi => by
  have W := bk_wb B
  obtain ⟨q, base, bk, bl, e⟩ := B.names
  have l2 := B.l2
  have il := (List.getElem?_eq_some_iff.mp hi).1
  have K := B.pls i p hi
  have g2 := K.g2
  have r2 := K.r2
  obtain ⟨q', base', bk', bl', e'⟩ := K.names
  have nm : p.name ∈ ps.map (·.name) := List.mem_map.mpr ⟨p, List.mem_of_getElem? hi, rfl⟩
  rw [e] at nm
  obtain ⟨k, hk, ek⟩ := List.mem_map.mp nm
  have hk := List.mem_range.mp hk
  refine ⟨by rw [← ek]; exact nm_nmOk (by omega) bk bl, fun y hy z => ?_, fun x hx => ?_, by rw [e']; exact nm_nodup q' base' (by omega), K.g1, g2, K.r1, r2, fun k r hk => ?_, fun r hr => ?_, ?_⟩
  · have := W.fresh hi
    rw [wt_keys0] at this
    exact this (List.mem_map.mpr ⟨y, hy, z⟩)
  · rw [e'] at hx
    obtain ⟨k, hk, rfl⟩ := List.mem_map.mp hx
    have := List.mem_range.mp hk
    exact nm_nmOk (by omega) bk' bl'
  · have R := K.rows k r hk
    exact ⟨R.its, R.low, R.top⟩
  · obtain ⟨k, hk⟩ := List.getElem?_of_mem hr
    exact (K.rows k r hk).how
  · rcases B.few with z | z
    · have : i = 0 := by omega
      subst this
      rw [List.take_zero]
      obtain ⟨_, b⟩ := wt1_le (t := wtF []) (M := 0) (Int.le_refl _) (fun _ h => nomatch h) p
      omega
    · obtain ⟨_, b⟩ := wt_six (wt_bnd z i) (z p (List.mem_of_getElem? hi))
      have : i = 0 ∨ i = 1 ∨ i = 2 ∨ i = 3 := by omega
      rcases this with rfl | rfl | rfl | rfl
      · exact Int.le_trans b (show bnd 1 ≤ 2000 by decide +kernel)
      · exact Int.le_trans b (show bnd 2 ≤ 2000 by decide +kernel)
      · exact Int.le_trans b (show bnd 3 ≤ 2000 by decide +kernel)
      · exact Int.le_trans b (show bnd 4 ≤ 2000 by decide +kernel)
theorem bk_ne {ps : List Pl} (B : BkOk ps) {w : Str} (h : signs w.cps.toList = false) : ∀ p ∈ ps, p.name ≠ w := fun p hp => by
  obtain ⟨q, base, bk, bl, e⟩ := B.names
  have nm : p.name ∈ ps.map (·.name) := List.mem_map.mpr ⟨p, hp, rfl⟩
  rw [e] at nm
  obtain ⟨k, hk, ek⟩ := List.mem_map.mp nm
  rw [← ek]
  exact nm_ne h
theorem law_true (ns : List Int) (h : ns.length ≤ 63) : F_law [.scr ns] = .ok (.bl true) := by
  obtain ⟨ps, e1, B⟩ := f_law_parts h
  have L := bk_lb B
  have l1 := B.l1
  have l2 := B.l2
  have hc : F_law_cell_at [.scr ns, .int 0] = .ok (.int (cellF ns 0)) := f_law_cell_at ns 0
  have rest : ∀ qs : List Pl, LB qs → 1 ≤ qs.length → qs.length ≤ 20 → F_law_book [.lst (qs.map planT)] = .ok (bookD qs) ∧ F_looked [bookD qs] = .ok .non ∧ F_law_fields [bookD qs] = .ok (.lst (qs.map planT)) ∧ gEq (.lst (qs.map planT)) (.lst (qs.map planT)) = some (.bl true) := fun qs Q a b =>
    ⟨f_law_book (by omega), f_looked Q a b, f_law_fields (by omega), by rw [gEq_pl Q.plain Q.plain, sameD_self]⟩
  by_cases c2 : cellF ns 0 % 6 = 2
  · have fh := f_law_heavy
    obtain ⟨z1, z2, z3, z4⟩ := rest (ps ++ [hP1, hP2, hP3]) (lb_heavy L fun p hp => ⟨bk_ne B (by decide +kernel) p hp, bk_ne B (by decide +kernel) p hp, bk_ne B (by decide +kernel) p hp⟩) (by rw [List.length_append]; omega) (by simp; omega)
    have ga : gAdd (.lst (ps.map planT)) (.lst ([hP1, hP2, hP3].map planT)) = some (.lst ((ps ++ [hP1, hP2, hP3]).map planT)) := by
      rw [List.map_append]
      exact if_pos (small (by rw [List.length_map, List.length_map]; simp; omega))
    generalize (ps ++ [hP1, hP2, hP3]).map planT = ds at z1 z3 z4 ga
    generalize [hP1, hP2, hP3].map planT = hs at fh ga
    simp [F_law, G_law, e1, hc, c2, fh, ga, z1, z2, z3, z4]
  · by_cases c3 : cellF ns 0 % 6 = 3
    · have fg := f_law_grown (ps := ps) (by omega)
      obtain ⟨z1, z2, z3, z4⟩ := rest (ps ++ (List.range (20 - ps.length)).map grP) (lb_grown L (fun p hp k hk => bk_ne B (t_chk ⟨k, hk⟩).2 p hp) _ (by omega)) (by rw [List.length_append]; omega) (by rw [List.length_append, List.length_map, List.length_range]; omega)
      generalize (ps ++ (List.range (20 - ps.length)).map grP).map planT = ds at z1 z3 z4 fg
      simp [F_law, G_law, e1, hc, c3, fg, z1, z2, z3, z4]
    · obtain ⟨z1, z2, z3, z4⟩ := rest ps L l1 (by omega)
      simp [F_law, G_law, e1, hc, c2, c3, z1, z2, z3, z4]

end My

set_option maxHeartbeats 4000000
namespace My
open PySem L2 L2.DL
def top (i : Nat) : Stmt := PySem.Challenge.pw_allfirst_k45_whole_let_books_are_let.main.body.getD i (.Pass ⟨0, 0, 0, 0⟩)
structure Mg (mg : Str → Option Value) : Prop where
  abs_ : mg "abs" = none
  all_ : mg "all" = none
  len_ : mg "len" = none
  list_ : mg "list" = none
  max_ : mg "max" = none
  min_ : mg "min" = none
  range_ : mg "range" = none
  set_ : mg "set" = none
  str_ : mg "str" = none
  sum_ : mg "sum" = none
  tuple_ : mg "tuple" = none
section
variable {P : Program} {w : World} {K : PySem.W.Frag} {mg : Str → Option Value} {base : Heap} {f : Addr} {fd : FuncData}
abbrev i_Book : Stmt := inClass (top 8) 0
theorem ic_Book : FnScope ["self", "plans"] ["self", "plans"] (defScope i_Book) := ⟨rfl, rfl, rfl, by decide +kernel, rfl, by decide +kernel, by decide +kernel⟩
theorem mk_Book {C : Addr} (F : Fun K "__init__" "Book.__init__" i_Book f fd) (m : Mg mg) (k : ClsD K mg "Book" C ["plans"]) : FnOk P w K mg base CX0 1 f fd ["self", "plans"] (SpI K "Book" ["plans"] I_Book) := by
  have sc := ic_Book
  refine fn_i (k := 0) (N := ["plans"]) (ps := ["self", "plans"]) (g := (dCons (dBlt gList (dCons (dVar 1) dNil)) dNil)) F sc (by decide) (by decide) fun cdv A outer s H E hr => ?_
  exact (pi_cons k (by decide) (pv 0) (QN.qe (q_callTyN (x := "list") b_list rfl m.list_ bt_list (qa_cons (q_var (pv 1)) qa_nil))) pi_nil)
abbrev i_Plan : Stmt := inClass (top 7) 0
theorem ic_Plan : FnScope ["self", "name", "givens", "rows"] ["self", "name", "givens", "rows"] (defScope i_Plan) := ⟨rfl, rfl, rfl, by decide +kernel, rfl, by decide +kernel, by decide +kernel⟩
theorem mk_Plan {C : Addr} (F : Fun K "__init__" "Plan.__init__" i_Plan f fd) (m : Mg mg) (k : ClsD K mg "Plan" C ["name", "givens", "rows"]) : FnOk P w K mg base CX0 1 f fd ["self", "name", "givens", "rows"] (SpI K "Plan" ["name", "givens", "rows"] I_Plan) := by
  have sc := ic_Plan
  refine fn_i (k := 0) (N := ["name", "givens", "rows"]) (ps := ["self", "name", "givens", "rows"]) (g := (dCons (dVar 1) (dCons (dBlt gList (dCons (dVar 2) dNil)) (dCons (dBlt gList (dCons (dVar 3) dNil)) dNil)))) F sc (by decide) (by decide) fun cdv A outer s H E hr => ?_
  exact (pi_cons k (by decide) (pv 0) (q_var (pv 1)) (pi_cons k (by decide) (pv 0) (QN.qe (q_callTyN (x := "list") b_list rfl m.list_ bt_list (qa_cons (q_var (pv 2)) qa_nil))) (pi_cons k (by decide) (pv 0) (QN.qe (q_callTyN (x := "list") b_list rfl m.list_ bt_list (qa_cons (q_var (pv 3)) qa_nil))) pi_nil)))
abbrev s_law_book : Stmt := top 34
theorem sc_law_book : FnScope ["plans"] ["plans"] (defScope s_law_book) := ⟨rfl, rfl, rfl, by decide +kernel, rfl, by decide +kernel, by decide +kernel⟩
theorem ok_law_book {k : Nat} (F : Fun K "_law_book" "_law_book" s_law_book f fd) (m : Mg mg)  (i_Book : MkD P w K mg base "Book" ["plans"] 1 ["self", "plans"] I_Book) (i_Plan : MkD P w K mg base "Plan" ["name", "givens", "rows"] 1 ["self", "name", "givens", "rows"] I_Plan) (h2 : 2 ≤ k) : FnOk P w K mg base CX0 (k + 1) f fd ["plans"] (SpN K F_law_book) := by
  have sc := sc_law_book
  refine fn_n (N := ["plans"]) (ps := ["plans"]) (g := G_law_book) F sc fun cdv A outer s H E hr => ?_
  unfold G_law_book
  exact (qss_one (qs_retN (q_make i_Book (hr.mono h2) rfl (qa_cons (QN.qe (q_comp ["plan"] [none] rfl rfl (qi_seq (q_var (pv 0))) (fun _ _ _ _ _ => (qg_one (pg_name (i := 0) (show (["plan"] : List Str).Nodup by decide +kernel) rfl (by first | exact .inl rfl | exact .inr rfl)))) (fun _ _ _ _ _ => (QN.qe (q_make i_Plan (hr.mono h2) rfl (qa_cons (q_ixA (hu_of hr) (q_var (pv 0)) qc_int (fun _ _ => rfl) (fun _ _ => rfl)) (qa_cons (QN.qe (q_callTyN (x := "list") b_list rfl m.list_ bt_list (qa_cons (q_ixA (hu_of hr) (q_var (pv 0)) qc_int (fun _ _ => rfl) (fun _ _ => rfl)) qa_nil))) (qa_cons (QN.qe (q_callTyN (x := "list") b_list rfl m.list_ bt_list (qa_cons (q_ixA (hu_of hr) (q_var (pv 0)) qc_int (fun _ _ => rfl) (fun _ _ => rfl)) qa_nil))) qa_nil)))))))) qa_nil))))
abbrev s_law_cell_at : Stmt := top 24
theorem sc_law_cell_at : FnScope ["script", "k"] ["script", "k"] (defScope s_law_cell_at) := ⟨rfl, rfl, rfl, by decide +kernel, rfl, by decide +kernel, by decide +kernel⟩
theorem ok_law_cell_at {k : Nat} (F : Fun K "_law_cell_at" "_law_cell_at" s_law_cell_at f fd) (m : Mg mg)  : FnOk P w K mg base CX0 (k + 1) f fd ["script", "k"] (SpD K F_law_cell_at) := by
  have sc := sc_law_cell_at
  refine fn_d (N := ["script", "k"]) (ps := ["script", "k"]) (g := G_law_cell_at) F sc fun cdv A outer s H E hr => ?_
  unfold G_law_cell_at
  exact (qss_cons (qs_if (qt_cmp o_lt (q_var (pv 1)) (q_callB (x := "len") b_len rfl m.len_ bt_len (qa_cons (q_var (pv 0)) qa_nil)) (nomark _)) (qss_one (qs_ret (q_ixA (hu_of hr) (q_var (pv 0)) (q_var (pv 1)) (fun _ _ => rfl) (fun _ _ => rfl)))) qss_nil) (qss_one (qs_ret qc_int)))
abbrev s_law_fields : Stmt := top 35
theorem sc_law_fields : FnScope ["book"] ["book"] (defScope s_law_fields) := ⟨rfl, rfl, rfl, by decide +kernel, rfl, by decide +kernel, by decide +kernel⟩
theorem ok_law_fields {k : Nat} (F : Fun K "_law_fields" "_law_fields" s_law_fields f fd) (m : Mg mg)  {D_Book : Addr} (k_Book : ClsD K mg "Book" D_Book ["plans"]) {D_Plan : Addr} (k_Plan : ClsD K mg "Plan" D_Plan ["name", "givens", "rows"]) : FnOk P w K mg base CX0 (k + 1) f fd ["book"] (SpN K F_law_fields) := by
  have sc := sc_law_fields
  refine fn_n (N := ["book"]) (ps := ["book"]) (g := G_law_fields) F sc fun cdv A outer s H E hr => ?_
  unfold G_law_fields
  exact (qss_one (qs_retN (q_comp ["plan"] [none] rfl rfl (qi_seq (q_fld k_Book (by decide) (q_var (pv 0)))) (fun _ _ _ _ _ => (qg_one (pg_name (i := 0) (show (["plan"] : List Str).Nodup by decide +kernel) rfl (by first | exact .inl rfl | exact .inr rfl)))) (fun _ _ _ _ _ => (q_tup (qa_cons (q_fld k_Plan (by decide) (q_var (pv 0))) (qa_cons (q_fld k_Plan (by decide) (q_var (pv 0))) (qa_cons (q_fld k_Plan (by decide) (q_var (pv 0))) qa_nil))))))))
abbrev s_law_grown : Stmt := top 37
theorem sc_law_grown : FnScope ["plans", "count", "more"] ["plans", "count"] (defScope s_law_grown) := ⟨rfl, rfl, rfl, by decide +kernel, rfl, by decide +kernel, by decide +kernel⟩
theorem ok_law_grown {k : Nat} (F : Fun K "_law_grown" "_law_grown" s_law_grown f fd) (m : Mg mg)  : FnOk P w K mg base CX0 (k + 1) f fd ["plans", "count"] (SpD K F_law_grown) := by
  have sc := sc_law_grown
  refine fn_d (N := ["plans", "count", "more"]) (ps := ["plans", "count"]) (g := G_law_grown) F sc fun cdv A outer s H E hr => ?_
  unfold G_law_grown
  exact (qss_cons (qs_setComp ["k"] [none] sc.nd rfl (.inl rfl) rfl rfl (qi_range1 rfl m.range_ (qa_cons (q_op o_sub (q_var (pv 1)) (q_callB (x := "len") b_len rfl m.len_ bt_len (qa_cons (q_var (pv 0)) qa_nil))) qa_nil)) (fun _ _ _ _ _ => (qg_one (pg_name (i := 0) (show (["k"] : List Str).Nodup by decide +kernel) rfl (by first | exact .inl rfl | exact .inr rfl)))) (fun _ _ _ _ _ => (q_tup (qa_cons (q_op o_add qc_str (q_callTy (x := "str") b_str rfl m.str_ bt_str (qa_cons (q_var (pv 0)) qa_nil))) (qa_cons (QN.qe (q_lst (qa_cons qc_str qa_nil))) (qa_cons (QN.qe (q_lst (qa_cons (q_tup (qa_cons qc_str (qa_cons qc_str (qa_cons (q_tup (qa_cons (q_tup (qa_cons qc_int (qa_cons (q_var (pv 0)) qa_nil))) qa_nil)) qa_nil)))) qa_nil))) qa_nil)))))) (qss_one (qs_ret (q_op o_add (q_var (pv 0)) (q_var (pv 2))))))
abbrev s_law_heavy : Stmt := top 36
theorem sc_law_heavy : FnScope ["more", "item", "one", "two", "three", "k"] ["more"] (defScope s_law_heavy) := ⟨rfl, rfl, rfl, by decide +kernel, rfl, by decide +kernel, by decide +kernel⟩
theorem ok_law_heavy {k : Nat} (F : Fun K "_law_heavy" "_law_heavy" s_law_heavy f fd) (m : Mg mg)  : FnOk P w K mg base CX0 (k + 1) f fd ["more"] (SpN K F_law_heavy) := by
  have sc := sc_law_heavy
  refine fn_n (N := ["more", "item", "one", "two", "three", "k"]) (ps := ["more"]) (g := G_law_heavy) F sc fun cdv A outer s H E hr => ?_
  unfold G_law_heavy
  exact (qss_cons (qs_set (i := 1) sc.nd rfl (.inr rfl) (q_tup (qa_cons (q_tup (qa_cons qc_int (qa_cons qc_int qa_nil))) qa_nil))) (qss_cons (qs_setComp ["k", "item"] [none, some 1] sc.nd rfl (.inl rfl) rfl rfl (qi_range1 rfl m.range_ (qa_cons (q_op o_sub qc_int (q_var (pv 0))) qa_nil)) (fun _ _ _ _ _ => (qg_one (pg_name (i := 0) (show (["k", "item"] : List Str).Nodup by decide +kernel) rfl (by first | exact .inl rfl | exact .inr rfl)))) (fun _ _ _ _ _ => (q_tup (qa_cons (q_op o_add qc_str (q_callTy (x := "str") b_str rfl m.str_ bt_str (qa_cons (q_var (pv 0)) qa_nil))) (qa_cons qc_str (qa_cons (q_var (pv 1)) qa_nil)))))) (qss_cons (qs_setComp ["k", "item"] [none, some 1] sc.nd rfl (.inl rfl) rfl rfl (qi_range1 rfl m.range_ (qa_cons qc_int qa_nil)) (fun _ _ _ _ _ => (qg_one (pg_name (i := 0) (show (["k", "item"] : List Str).Nodup by decide +kernel) rfl (by first | exact .inl rfl | exact .inr rfl)))) (fun _ _ _ _ _ => (q_tup (qa_cons (q_op o_add qc_str (q_callTy (x := "str") b_str rfl m.str_ bt_str (qa_cons (q_var (pv 0)) qa_nil))) (qa_cons qc_str (qa_cons (q_var (pv 1)) qa_nil)))))) (qss_cons (qs_own (i := 4) sc.nd rfl (.inl rfl) (q_opN o_addL (QN.qe (q_lst (qa_cons (q_tup (qa_cons qc_str (qa_cons qc_str (qa_cons (q_var (pv 1)) qa_nil)))) qa_nil))) (QN.qe (q_comp ["k", "item"] [none, some 1] rfl rfl (qi_range1 rfl m.range_ (qa_cons (q_op o_add qc_int (q_op o_mul qc_int (q_var (pv 0)))) qa_nil)) (fun _ _ _ _ _ => (qg_one (pg_name (i := 0) (show (["k", "item"] : List Str).Nodup by decide +kernel) rfl (by first | exact .inl rfl | exact .inr rfl)))) (fun _ _ _ _ _ => (q_tup (qa_cons (q_op o_add qc_str (q_callTy (x := "str") b_str rfl m.str_ bt_str (qa_cons (q_op o_add (q_var (pv 0)) qc_int) qa_nil))) (qa_cons qc_str (qa_cons (q_var (pv 1)) qa_nil))))))))) (qss_cons (qs_for PassesOwn.never rfl (qi_range1 rfl m.range_ (qa_cons (q_op o_mul qc_int (q_op o_sub qc_int (q_var (pv 0)))) qa_nil)) (qg_one (pg_name (i := 5) sc.nd rfl (.inl rfl))) (qss_one (qs_append (pv 4) (q_tup (qa_cons (q_op o_add qc_str (q_callTy (x := "str") b_str rfl m.str_ bt_str (qa_cons (q_var (pv 5)) qa_nil))) (qa_cons qc_str (qa_cons (q_var (pv 1)) qa_nil)))) (fun h1 h2 => pe_bm PySem.F.plainAttrs_list PySem.F.slot_list_append PySem.F.type_list_append mt_append h1 h2)))) (qss_one (qs_frz [4] (qs_retN (q_lst (qa_cons (q_tup (qa_cons qc_str (qa_cons (QN.qe (q_lst (qa_cons qc_str qa_nil))) (qa_cons (q_var (pv 2)) qa_nil)))) (qa_cons (q_tup (qa_cons qc_str (qa_cons (QN.qe (q_lst (qa_cons qc_str qa_nil))) (qa_cons (q_var (pv 3)) qa_nil)))) (qa_cons (q_tup (qa_cons qc_str (qa_cons (QN.qe (q_lst (qa_cons qc_str qa_nil))) (qa_cons (q_var (pv 4)) qa_nil)))) qa_nil))))))))))))
abbrev s_law_mixed : Stmt := top 25
theorem sc_law_mixed : FnScope ["cell", "salt", "mixed"] ["cell", "salt"] (defScope s_law_mixed) := ⟨rfl, rfl, rfl, by decide +kernel, rfl, by decide +kernel, by decide +kernel⟩
theorem ok_law_mixed {k : Nat} (F : Fun K "_law_mixed" "_law_mixed" s_law_mixed f fd) (m : Mg mg)  : FnOk P w K mg base CX0 (k + 1) f fd ["cell", "salt"] (SpD K F_law_mixed) := by
  have sc := sc_law_mixed
  refine fn_d (N := ["cell", "salt", "mixed"]) (ps := ["cell", "salt"]) (g := G_law_mixed) F sc fun cdv A outer s H E hr => ?_
  unfold G_law_mixed
  exact (qss_cons (qs_set (i := 2) sc.nd rfl (.inl rfl) (q_op o_mod (q_op o_mul (q_op o_add (q_op o_mod (q_var (pv 0)) qc_int) (q_var (pv 1))) qc_int) qc_int)) (qss_one (qs_ret (q_op o_mod (q_op o_mul (q_var (pv 2)) (q_var (pv 2))) qc_int))))
abbrev s_law_names : Stmt := top 28
theorem sc_law_names : FnScope ["cell", "many", "letters", "base", "k", "names", "spot", "made"] ["cell", "many"] (defScope s_law_names) := ⟨rfl, rfl, rfl, by decide +kernel, rfl, by decide +kernel, by decide +kernel⟩
theorem ok_law_names {k : Nat} (F : Fun K "_law_names" "_law_names" s_law_names f fd) (m : Mg mg) (c_law_mixed : Callee P w K mg base "_law_mixed" k ["cell", "salt"] (SpD K F_law_mixed)) : FnOk P w K mg base CX0 (k + 1) f fd ["cell", "many"] (SpN K F_law_names) := by
  have sc := sc_law_names
  refine fn_n (N := ["cell", "many", "letters", "base", "k", "names", "spot", "made"]) (ps := ["cell", "many"]) (g := G_law_names) F sc fun cdv A outer s H E hr => ?_
  unfold G_law_names
  exact (qss_cons (qs_set (i := 2) sc.nd rfl (.inl rfl) qc_str) (qss_cons (qs_set (i := 3) sc.nd rfl (.inl rfl) qc_str) (qss_cons (qs_for PassesOwn.never rfl (qi_range1 rfl m.range_ (qa_cons (q_op o_mod (q_op o_fdiv (q_var (pv 0)) qc_int) qc_int) qa_nil)) (qg_one (pg_name (i := 4) sc.nd rfl (.inl rfl))) (qss_one (qs_set (i := 3) sc.nd rfl (.inl rfl) (q_op o_add (q_var (pv 3)) (q_ixA (hu_of hr) (q_var (pv 2)) (q_op o_mod (q_fn c_law_mixed hr rfl (qa_cons (q_var (pv 0)) (qa_cons (q_op o_add qc_int (q_var (pv 4))) qa_nil))) qc_int) (fun _ _ => rfl) (fun _ _ => rfl)))))) (qss_cons (qs_own (i := 5) sc.nd rfl (.inl rfl) (q_lst qa_nil)) (qss_cons (qs_for PassesOwn.never rfl (qi_range1 rfl m.range_ (qa_cons (q_var (pv 1)) qa_nil)) (qg_one (pg_name (i := 4) sc.nd rfl (.inl rfl))) (qss_cons (qs_set (i := 6) sc.nd rfl (.inl rfl) (q_op o_add (q_ixA (hu_of hr) (q_var (pv 2)) (q_op o_mod (q_var (pv 4)) qc_int) (fun _ _ => rfl) (fun _ _ => rfl)) (q_ixA (hu_of hr) (q_var (pv 2)) (q_op o_mod (q_op o_fdiv (q_var (pv 4)) qc_int) qc_int) (fun _ _ => rfl) (fun _ _ => rfl)))) (qss_cons (qs_set (i := 7) sc.nd rfl (.inl rfl) (QN.qe (q_lst (qa_cons (q_op o_add (q_op o_add qc_str (q_var (pv 3))) (q_callTy (x := "str") b_str rfl m.str_ bt_str (qa_cons (q_var (pv 4)) qa_nil))) (qa_cons (q_op o_add (q_op o_add qc_str (q_callTy (x := "str") b_str rfl m.str_ bt_str (qa_cons (q_var (pv 4)) qa_nil))) (q_var (pv 3))) (qa_cons (q_op o_add (q_op o_add qc_str (q_var (pv 3))) (q_var (pv 6))) (qa_cons (q_op o_add (q_op o_add (q_var (pv 6)) qc_str) (q_var (pv 3))) qa_nil))))))) (qss_one (qs_append (pv 5) (q_ixA (hu_of hr) (q_var (pv 7)) (q_op o_mod (q_var (pv 0)) qc_int) (fun _ _ => rfl) (fun _ _ => rfl)) (fun h1 h2 => pe_bm PySem.F.plainAttrs_list PySem.F.slot_list_append PySem.F.type_list_append mt_append h1 h2)))))) (qss_one (qs_retOwn (pv 5))))))))
abbrev s_law_far_wait : Stmt := top 27
theorem sc_law_far_wait : FnScope ["cell", "salt", "mixed", "size"] ["cell", "salt"] (defScope s_law_far_wait) := ⟨rfl, rfl, rfl, by decide +kernel, rfl, by decide +kernel, by decide +kernel⟩
theorem ok_law_far_wait {k : Nat} (F : Fun K "_law_far_wait" "_law_far_wait" s_law_far_wait f fd) (m : Mg mg) (c_law_mixed : Callee P w K mg base "_law_mixed" k ["cell", "salt"] (SpD K F_law_mixed)) : FnOk P w K mg base CX0 (k + 1) f fd ["cell", "salt"] (SpD K F_law_far_wait) := by
  have sc := sc_law_far_wait
  refine fn_d (N := ["cell", "salt", "mixed", "size"]) (ps := ["cell", "salt"]) (g := G_law_far_wait) F sc fun cdv A outer s H E hr => ?_
  unfold G_law_far_wait
  exact (qss_cons (qs_set (i := 2) sc.nd rfl (.inl rfl) (q_fn c_law_mixed hr rfl (qa_cons (q_var (pv 0)) (qa_cons (q_var (pv 1)) qa_nil)))) (qss_cons (qs_if (qt_cmp o_gt (q_op o_mod (q_var (pv 2)) qc_int) qc_int (nomark _)) (qss_one (qs_ret (q_op o_sub (q_op o_mod (q_op o_fdiv (q_var (pv 2)) qc_int) qc_int) qc_int))) qss_nil) (qss_cons (qs_set (i := 3) sc.nd rfl (.inl rfl) (q_op o_mod (q_op o_mul (q_op o_fdiv (q_var (pv 0)) qc_int) (q_op o_add (q_var (pv 1)) qc_int)) (q_op o_pow qc_int qc_int))) (qss_cons (qs_if (qt_cmp (o_eq hr.units) (q_op o_mod (q_op o_fdiv (q_var (pv 2)) qc_int) qc_int) qc_int (nomark _)) (qss_one (qs_set (i := 3) sc.nd rfl (.inl rfl) (q_op o_sub (q_op o_pow qc_int qc_int) qc_int))) qss_nil) (qss_cons (qs_if (qt_cmp (o_eq hr.units) (q_op o_mod (q_op o_fdiv (q_var (pv 2)) qc_int) qc_int) qc_int (nomark _)) (qss_one (qs_ret (q_var (pv 3)))) qss_nil) (qss_one (qs_ret (q_un u_neg (q_var (pv 3))))))))))
abbrev s_law_items : Stmt := top 30
theorem sc_law_items : FnScope ["cell", "count", "ahead", "items", "k"] ["cell", "count", "ahead"] (defScope s_law_items) := ⟨rfl, rfl, rfl, by decide +kernel, rfl, by decide +kernel, by decide +kernel⟩
theorem ok_law_items {k : Nat} (F : Fun K "_law_items" "_law_items" s_law_items f fd) (m : Mg mg) (c_law_far_wait : Callee P w K mg base "_law_far_wait" k ["cell", "salt"] (SpD K F_law_far_wait)) (c_law_mixed : Callee P w K mg base "_law_mixed" k ["cell", "salt"] (SpD K F_law_mixed)) : FnOk P w K mg base CX0 (k + 1) f fd ["cell", "count", "ahead"] (SpD K F_law_items) := by
  have sc := sc_law_items
  refine fn_d (N := ["cell", "count", "ahead", "items", "k"]) (ps := ["cell", "count", "ahead"]) (g := G_law_items) F sc fun cdv A outer s H E hr => ?_
  unfold G_law_items
  exact (qss_cons (qs_own (i := 3) sc.nd rfl (.inl rfl) (q_lst qa_nil)) (qss_cons (qs_for PassesOwn.never rfl (qi_range1 rfl m.range_ (qa_cons (q_var (pv 1)) qa_nil)) (qg_one (pg_name (i := 4) sc.nd rfl (.inl rfl))) (qss_one (qs_append (pv 3) (q_tup (qa_cons (q_op o_mod (q_fn c_law_mixed hr rfl (qa_cons (q_var (pv 0)) (qa_cons (q_op o_add qc_int (q_var (pv 4))) qa_nil))) (q_var (pv 2))) (qa_cons (q_fn c_law_far_wait hr rfl (qa_cons (q_op o_add (q_op o_fdiv (q_var (pv 0)) (q_op o_add (q_var (pv 4)) qc_int)) (q_var (pv 4))) (qa_cons (q_op o_add qc_int (q_var (pv 4))) qa_nil))) qa_nil))) (fun h1 h2 => pe_bm PySem.F.plainAttrs_list PySem.F.slot_list_append PySem.F.type_list_append mt_append h1 h2)))) (qss_one (qs_frz [3] (qs_ret (q_callTy (x := "tuple") b_tuple rfl m.tuple_ bt_tuple (qa_cons (q_var (pv 3)) qa_nil)))))))
abbrev s_law_made : Stmt := top 31
theorem sc_law_made : FnScope ["cell", "name", "ahead", "parts", "wide", "mixed", "part", "count"] ["cell", "name", "ahead", "parts", "wide"] (defScope s_law_made) := ⟨rfl, rfl, rfl, by decide +kernel, rfl, by decide +kernel, by decide +kernel⟩
theorem ok_law_made {k : Nat} (F : Fun K "_law_made" "_law_made" s_law_made f fd) (m : Mg mg) (c_law_items : Callee P w K mg base "_law_items" k ["cell", "count", "ahead"] (SpD K F_law_items)) (c_law_mixed : Callee P w K mg base "_law_mixed" k ["cell", "salt"] (SpD K F_law_mixed)) : FnOk P w K mg base CX0 (k + 1) f fd ["cell", "name", "ahead", "parts", "wide"] (SpD K F_law_made) := by
  have sc := sc_law_made
  refine fn_d (N := ["cell", "name", "ahead", "parts", "wide", "mixed", "part", "count"]) (ps := ["cell", "name", "ahead", "parts", "wide"]) (g := G_law_made) F sc fun cdv A outer s H E hr => ?_
  unfold G_law_made
  exact (qss_cons (qs_set (i := 5) sc.nd rfl (.inl rfl) (q_fn c_law_mixed hr rfl (qa_cons (q_var (pv 0)) (qa_cons qc_int qa_nil)))) (qss_cons (qs_if (QW.qt (qw_and (qt_cmp (o_ne hr.units) (q_var (pv 3)) (QN.qe (q_lst qa_nil)) (nomark _)) (qw_and1 (qt_cmp (o_eq hr.units) (q_op o_mod (q_var (pv 5)) qc_int) qc_int (nomark _))))) (qss_cons (qs_set (i := 6) sc.nd rfl (.inl rfl) (q_ixA (hu_of hr) (q_var (pv 3)) (q_op o_mod (q_op o_fdiv (q_var (pv 5)) qc_int) (q_callB (x := "len") b_len rfl m.len_ bt_len (qa_cons (q_var (pv 3)) qa_nil))) (fun _ _ => rfl) (fun _ _ => rfl))) (qss_one (qs_ret (q_tup (qa_cons (q_var (pv 1)) (qa_cons (q_ixA (hu_of hr) (q_var (pv 6)) qc_int (fun _ _ => rfl) (fun _ _ => rfl)) (qa_cons (q_fn c_law_items hr rfl (qa_cons (q_var (pv 0)) (qa_cons (q_ixA (hu_of hr) (q_var (pv 6)) qc_int (fun _ _ => rfl) (fun _ _ => rfl)) (qa_cons (q_var (pv 2)) qa_nil)))) qa_nil))))))) qss_nil) (qss_cons (qs_set (i := 7) sc.nd rfl (.inl rfl) (q_op o_add qc_int (q_op o_mod (q_op o_fdiv (q_var (pv 5)) qc_int) qc_int))) (qss_cons (qs_if (QW.qt (qw_and (qt_val (q_var (pv 4))) (qw_and1 (qt_cmp (o_eq hr.units) (q_op o_mod (q_op o_fdiv (q_var (pv 5)) qc_int) qc_int) qc_int (nomark _))))) (qss_one (qs_set (i := 7) sc.nd rfl (.inl rfl) qc_int)) qss_nil) (qss_one (qs_ret (q_tup (qa_cons (q_var (pv 1)) (qa_cons (q_ixA (hu_of hr) (QN.qe (q_lst (qa_cons qc_str (qa_cons qc_str qa_nil)))) (q_op o_mod (q_op o_fdiv (q_var (pv 5)) qc_int) qc_int) (fun _ _ => rfl) (fun _ _ => rfl)) (qa_cons (q_fn c_law_items hr rfl (qa_cons (q_var (pv 0)) (qa_cons (q_var (pv 7)) (qa_cons (q_var (pv 2)) qa_nil)))) qa_nil))))))))))
abbrev s_law_plan : Stmt := top 32
theorem sc_law_plan : FnScope ["pool", "at", "name", "parts", "wide", "cell", "givens", "rows", "names", "made", "k", "word"] ["pool", "at", "name", "parts", "wide"] (defScope s_law_plan) := ⟨rfl, rfl, rfl, by decide +kernel, rfl, by decide +kernel, by decide +kernel⟩
theorem ok_law_plan {k : Nat} (F : Fun K "_law_plan" "_law_plan" s_law_plan f fd) (m : Mg mg) (c_law_made : Callee P w K mg base "_law_made" k ["cell", "name", "ahead", "parts", "wide"] (SpD K F_law_made)) (c_law_mixed : Callee P w K mg base "_law_mixed" k ["cell", "salt"] (SpD K F_law_mixed)) (c_law_names : Callee P w K mg base "_law_names" k ["cell", "many"] (SpN K F_law_names)) : FnOk P w K mg base CX0 (k + 1) f fd ["pool", "at", "name", "parts", "wide"] (SpD K F_law_plan) := by
  have sc := sc_law_plan
  refine fn_d (N := ["pool", "at", "name", "parts", "wide", "cell", "givens", "rows", "names", "made", "k", "word"]) (ps := ["pool", "at", "name", "parts", "wide"]) (g := G_law_plan) F sc fun cdv A outer s H E hr => ?_
  unfold G_law_plan
  exact (qss_cons (qs_set (i := 5) sc.nd rfl (.inl rfl) (q_ixA (hu_of hr) (q_var (pv 0)) (q_op o_mod (q_op o_mul qc_int (q_var (pv 1))) (q_callB (x := "len") b_len rfl m.len_ bt_len (qa_cons (q_var (pv 0)) qa_nil))) (fun _ _ => rfl) (fun _ _ => rfl))) (qss_cons (qs_set (i := 6) sc.nd rfl (.inl rfl) (q_op o_add qc_int (q_op o_mod (q_fn c_law_mixed hr rfl (qa_cons (q_var (pv 5)) (qa_cons qc_int qa_nil))) qc_int))) (qss_cons (qs_set (i := 7) sc.nd rfl (.inl rfl) (q_op o_add qc_int (q_op o_mod (q_fn c_law_mixed hr rfl (qa_cons (q_var (pv 5)) (qa_cons qc_int qa_nil))) qc_int))) (qss_cons (qs_if (qt_val (q_var (pv 4))) (qss_cons (qs_set (i := 6) sc.nd rfl (.inl rfl) (q_ixA (hu_of hr) (QN.qe (q_lst (qa_cons qc_int (qa_cons qc_int (qa_cons qc_int qa_nil))))) (q_op o_mod (q_fn c_law_mixed hr rfl (qa_cons (q_var (pv 5)) (qa_cons qc_int qa_nil))) qc_int) (fun _ _ => rfl) (fun _ _ => rfl))) (qss_one (qs_set (i := 7) sc.nd rfl (.inl rfl) (q_ixA (hu_of hr) (QN.qe (q_lst (qa_cons qc_int (qa_cons qc_int (qa_cons qc_int qa_nil))))) (q_op o_mod (q_fn c_law_mixed hr rfl (qa_cons (q_var (pv 5)) (qa_cons qc_int qa_nil))) qc_int) (fun _ _ => rfl) (fun _ _ => rfl))))) qss_nil) (qss_cons (qs_set (i := 8) sc.nd rfl (.inl rfl) (QN.qe (q_fnN c_law_names hr rfl (qa_cons (q_op o_fdiv (q_var (pv 5)) qc_int) (qa_cons (q_op o_add (q_var (pv 6)) (q_var (pv 7))) qa_nil))))) (qss_cons (qs_own (i := 9) sc.nd rfl (.inl rfl) (q_lst qa_nil)) (qss_cons (qs_for PassesOwn.never rfl (qi_range1 rfl m.range_ (qa_cons (q_var (pv 7)) qa_nil)) (qg_one (pg_name (i := 10) sc.nd rfl (.inl rfl))) (qss_cons (qs_set (i := 11) sc.nd rfl (.inl rfl) (q_op o_add (q_ixA (hu_of hr) (q_var (pv 0)) (q_op o_mod (q_op o_add (q_op o_add (q_op o_mul qc_int (q_var (pv 1))) (q_var (pv 10))) qc_int) (q_callB (x := "len") b_len rfl m.len_ bt_len (qa_cons (q_var (pv 0)) qa_nil))) (fun _ _ => rfl) (fun _ _ => rfl)) (q_op o_mul qc_int (q_var (pv 10))))) (qss_one (qs_append (pv 9) (q_fn c_law_made hr rfl (qa_cons (q_var (pv 11)) (qa_cons (q_ixA (hu_of hr) (q_var (pv 8)) (q_op o_add (q_var (pv 6)) (q_var (pv 10))) (fun _ _ => rfl) (fun _ _ => rfl)) (qa_cons (q_op o_add (q_var (pv 6)) (q_var (pv 10))) (qa_cons (q_var (pv 3)) (qa_cons (q_var (pv 4)) qa_nil)))))) (fun h1 h2 => pe_bm PySem.F.plainAttrs_list PySem.F.slot_list_append PySem.F.type_list_append mt_append h1 h2))))) (qss_one (qs_frz [9] (qs_ret (q_tup (qa_cons (q_var (pv 2)) (qa_cons (QN.qe (q_slice (q_var (pv 8)) qo_none (qo_some (q_var (pv 6))) qo_none)) (qa_cons (q_var (pv 9)) qa_nil))))))))))))))
abbrev s_law_turns : Stmt := top 26
theorem sc_law_turns : FnScope ["script", "start", "most", "many"] ["script", "start", "most"] (defScope s_law_turns) := ⟨rfl, rfl, rfl, by decide +kernel, rfl, by decide +kernel, by decide +kernel⟩
theorem ok_law_turns {k : Nat} (F : Fun K "_law_turns" "_law_turns" s_law_turns f fd) (m : Mg mg)  : FnOk P w K mg base CX0 (k + 1) f fd ["script", "start", "most"] (SpN K F_law_turns) := by
  have sc := sc_law_turns
  refine fn_n (N := ["script", "start", "most", "many"]) (ps := ["script", "start", "most"]) (g := G_law_turns) F sc fun cdv A outer s H E hr => ?_
  unfold G_law_turns
  exact (qss_cons (qs_set (i := 3) sc.nd rfl (.inl rfl) (q_callB (x := "min") (b_min2 rfl) rfl m.min_ bt_min (qa_cons (q_var (pv 2)) (qa_cons (q_callB (x := "max") (b_max2 rfl) rfl m.max_ bt_max (qa_cons qc_int (qa_cons (q_op o_sub (q_callB (x := "len") b_len rfl m.len_ bt_len (qa_cons (q_var (pv 0)) qa_nil)) (q_var (pv 1))) qa_nil))) qa_nil)))) (qss_one (qs_retN (q_comp ["k", "script", "start", "most"] [none, some 0, some 1, some 2] rfl rfl (qi_range1 rfl m.range_ (qa_cons (q_var (pv 3)) qa_nil)) (fun _ _ _ _ _ => (qg_one (pg_name (i := 0) (show (["k", "script", "start", "most"] : List Str).Nodup by decide +kernel) rfl (by first | exact .inl rfl | exact .inr rfl)))) (fun _ _ _ _ _ => (q_callB (x := "sum") (b_sum rfl) rfl m.sum_ bt_sum (qa_cons (QN.qe (q_slice (q_var (pv 1)) (qo_some (q_op o_add (q_var (pv 2)) (q_var (pv 0)))) qo_none (qo_some (q_var (pv 3))))) qa_nil)))))))
abbrev s_law_pool : Stmt := top 29
theorem sc_law_pool : FnScope ["script", "start", "pool"] ["script", "start"] (defScope s_law_pool) := ⟨rfl, rfl, rfl, by decide +kernel, rfl, by decide +kernel, by decide +kernel⟩
theorem ok_law_pool {k : Nat} (F : Fun K "_law_pool" "_law_pool" s_law_pool f fd) (m : Mg mg) (c_law_turns : Callee P w K mg base "_law_turns" k ["script", "start", "most"] (SpN K F_law_turns)) : FnOk P w K mg base CX0 (k + 1) f fd ["script", "start"] (SpD K F_law_pool) := by
  have sc := sc_law_pool
  refine fn_d (N := ["script", "start", "pool"]) (ps := ["script", "start"]) (g := G_law_pool) F sc fun cdv A outer s H E hr => ?_
  unfold G_law_pool
  exact (qss_cons (qs_set (i := 2) sc.nd rfl (.inl rfl) (QN.qe (q_fnN c_law_turns hr rfl (qa_cons (q_var (pv 0)) (qa_cons (q_var (pv 1)) (qa_cons qc_int qa_nil)))))) (qss_cons (qs_if (qt_cmp (o_eq hr.units) (q_var (pv 2)) (QN.qe (q_lst qa_nil)) (nomark _)) (qss_one (qs_ret (QN.qe (q_lst (qa_cons (q_callB (x := "len") b_len rfl m.len_ bt_len (qa_cons (q_var (pv 0)) qa_nil)) qa_nil))))) qss_nil) (qss_one (qs_ret (q_var (pv 2))))))
abbrev s_law_parts : Stmt := top 33
theorem sc_law_parts : FnScope ["script", "start", "pool", "first", "wide", "many", "names", "plans", "at", "parts"] ["script", "start"] (defScope s_law_parts) := ⟨rfl, rfl, rfl, by decide +kernel, rfl, by decide +kernel, by decide +kernel⟩
theorem ok_law_parts {k : Nat} (F : Fun K "_law_parts" "_law_parts" s_law_parts f fd) (m : Mg mg) (c_law_cell_at : Callee P w K mg base "_law_cell_at" k ["script", "k"] (SpD K F_law_cell_at)) (c_law_names : Callee P w K mg base "_law_names" k ["cell", "many"] (SpN K F_law_names)) (c_law_plan : Callee P w K mg base "_law_plan" k ["pool", "at", "name", "parts", "wide"] (SpD K F_law_plan)) (c_law_pool : Callee P w K mg base "_law_pool" k ["script", "start"] (SpD K F_law_pool)) : FnOk P w K mg base CX0 (k + 1) f fd ["script", "start"] (SpN K F_law_parts) := by
  have sc := sc_law_parts
  refine fn_n (N := ["script", "start", "pool", "first", "wide", "many", "names", "plans", "at", "parts"]) (ps := ["script", "start"]) (g := G_law_parts) F sc fun cdv A outer s H E hr => ?_
  unfold G_law_parts
  exact (qss_cons (qs_set (i := 2) sc.nd rfl (.inl rfl) (q_fn c_law_pool hr rfl (qa_cons (q_var (pv 0)) (qa_cons (q_var (pv 1)) qa_nil)))) (qss_cons (qs_set (i := 3) sc.nd rfl (.inl rfl) (q_fn c_law_cell_at hr rfl (qa_cons (q_var (pv 0)) (qa_cons qc_int qa_nil)))) (qss_cons (qs_set (i := 4) sc.nd rfl (.inl rfl) (q_cmp (o_eq hr.units) (q_op o_mod (q_var (pv 3)) qc_int) qc_int (nomark _))) (qss_cons (qs_set (i := 5) sc.nd rfl (.inl rfl) (q_op o_add qc_int (q_op o_mod (q_op o_fdiv (q_var (pv 3)) qc_int) qc_int))) (qss_cons (qs_if (qt_val (q_var (pv 4))) (qss_one (qs_set (i := 5) sc.nd rfl (.inl rfl) qc_int)) qss_nil) (qss_cons (qs_set (i := 6) sc.nd rfl (.inl rfl) (QN.qe (q_fnN c_law_names hr rfl (qa_cons (q_op o_fdiv (q_var (pv 3)) qc_int) (qa_cons (q_var (pv 5)) qa_nil))))) (qss_cons (qs_own (i := 7) sc.nd rfl (.inl rfl) (q_lst qa_nil)) (qss_cons (qs_for PassesOwn.never rfl (qi_range1 rfl m.range_ (qa_cons (q_var (pv 5)) qa_nil)) (qg_one (pg_name (i := 8) sc.nd rfl (.inl rfl))) (qss_cons (qs_ownCompT [7] ["plan"] [none] sc.nd rfl (.inl rfl) rfl rfl (qi_seq (q_var (pv 7))) (fun _ _ _ _ _ => (qg_one (pg_name (i := 0) (show (["plan"] : List Str).Nodup by decide +kernel) rfl (by first | exact .inl rfl | exact .inr rfl)))) (fun _ _ _ _ _ => (q_tup (qa_cons (q_ixA (hu_of hr) (q_var (pv 0)) qc_int (fun _ _ => rfl) (fun _ _ => rfl)) (qa_cons (q_callB (x := "len") b_len rfl m.len_ bt_len (qa_cons (q_ixA (hu_of hr) (q_var (pv 0)) qc_int (fun _ _ => rfl) (fun _ _ => rfl)) qa_nil)) qa_nil))))) (qss_one (qs_frz [9] (qs_append (pv 7) (q_fn c_law_plan hr rfl (qa_cons (q_var (pv 2)) (qa_cons (q_var (pv 8)) (qa_cons (q_ixA (hu_of hr) (q_var (pv 6)) (q_var (pv 8)) (fun _ _ => rfl) (fun _ _ => rfl)) (qa_cons (q_var (pv 9)) (qa_cons (q_var (pv 4)) qa_nil)))))) (fun h1 h2 => pe_bm PySem.F.plainAttrs_list PySem.F.slot_list_append PySem.F.type_list_append mt_append h1 h2)))))) (qss_one (qs_retOwn (pv 7)))))))))))
abbrev s_is_name : Stmt := top 13
theorem sc_is_name : FnScope ["text"] ["text"] (defScope s_is_name) := ⟨rfl, rfl, rfl, by decide +kernel, rfl, by decide +kernel, by decide +kernel⟩
theorem ok_is_name {k : Nat} (F : Fun K "is_name" "is_name" s_is_name f fd) (m : Mg mg)  {t_FIGURES : Tok} (w_FIGURES : mg "FIGURES" = some (.str "0123456789" t_FIGURES)) (y_KEPT_WORDS : KTup K mg "KEPT_WORDS" ["plan", "given", "all", "first", "part"]) {t_LETTERS : Tok} (w_LETTERS : mg "LETTERS" = some (.str "abcdefghijklmnopqrstuvwxyz" t_LETTERS)) : FnOk P w K mg base CX0 (k + 1) f fd ["text"] (SpD K F_is_name) := by
  have sc := sc_is_name
  refine fn_d (N := ["text"]) (ps := ["text"]) (g := G_is_name) F sc fun cdv A outer s H E hr => ?_
  unfold G_is_name
  exact (qss_cons (qs_if (QW.qt (qw_or (qt_not (qt_chain o_le o_le qc_int (q_callB (x := "len") b_len rfl m.len_ bt_len (qa_cons (q_var (pv 0)) qa_nil)) qc_int)) (qw_or (qt_inK (ws := ["plan", "given", "all", "first", "part"]) hr.units y_KEPT_WORDS rfl (q_var (pv 0))) (qw_or1 (qt_cmp o_inS1 (q_ixA (hu_of hr) (q_var (pv 0)) qc_int (fun _ _ => rfl) (fun _ _ => rfl)) (qc_gstr w_LETTERS rfl) rfl))))) (qss_one (qs_ret qc_bl)) qss_nil) (qss_one (qs_ret (q_callB (x := "all") (b_all rfl) rfl m.all_ bt_all (qa_cons (QN.qe (q_comp ["sign"] [none] rfl rfl (qi_str (q_var (pv 0))) (fun _ _ _ _ _ => (qg_one (pg_name (i := 0) (show (["sign"] : List Str).Nodup by decide +kernel) rfl (by first | exact .inl rfl | exact .inr rfl)))) (fun _ _ _ _ _ => (q_or (q_cmp o_inS0 (q_var (pv 0)) (qc_gstr w_LETTERS rfl) rfl) (q_one (q_cmp o_inS0 (q_var (pv 0)) (qc_gstr w_FIGURES rfl) rfl)))))) qa_nil)))))
abbrev s_are_names : Stmt := top 16
theorem sc_are_names : FnScope ["texts"] ["texts"] (defScope s_are_names) := ⟨rfl, rfl, rfl, by decide +kernel, rfl, by decide +kernel, by decide +kernel⟩
theorem ok_are_names {k : Nat} (F : Fun K "are_names" "are_names" s_are_names f fd) (m : Mg mg) (c_is_name : Callee P w K mg base "is_name" k ["text"] (SpD K F_is_name)) : FnOk P w K mg base CX0 (k + 1) f fd ["texts"] (SpD K F_are_names) := by
  have sc := sc_are_names
  refine fn_d (N := ["texts"]) (ps := ["texts"]) (g := G_are_names) F sc fun cdv A outer s H E hr => ?_
  unfold G_are_names
  exact (qss_one (qs_ret (q_and (q_callB (x := "all") (b_all rfl) rfl m.all_ bt_all (qa_cons (QN.qe (q_comp ["text"] [none] rfl rfl (qi_seq (q_var (pv 0))) (fun _ _ _ _ _ => (qg_one (pg_name (i := 0) (show (["text"] : List Str).Nodup by decide +kernel) rfl (by first | exact .inl rfl | exact .inr rfl)))) (fun _ _ _ _ _ => (q_fn c_is_name hr rfl (qa_cons (q_var (pv 0)) qa_nil))))) qa_nil)) (q_one (q_cmp (o_eq hr.units) (q_lenK (fun h => pe_callB L2.ST.call_lenK rfl m.len_ bt_len (pa_cons (pe_callTy (L2.ST.call_setK rfl) rfl m.set_ L2.bt_set h) pa_nil)) (qa_cons (q_var (pv 0)) qa_nil)) (q_callB (x := "len") b_len rfl m.len_ bt_len (qa_cons (q_var (pv 0)) qa_nil)) (nomark _))))))
abbrev s_look_at_names : Stmt := top 15
theorem sc_look_at_names : FnScope ["book", "plan"] ["book"] (defScope s_look_at_names) := ⟨rfl, rfl, rfl, by decide +kernel, rfl, by decide +kernel, by decide +kernel⟩
theorem ok_look_at_names {k : Nat} (F : Fun K "look_at_names" "look_at_names" s_look_at_names f fd) (m : Mg mg) (c_are_names : Callee P w K mg base "are_names" k ["texts"] (SpD K F_are_names)) {C_BadName : Addr} (x_BadName : Exc K mg "BadName" C_BadName) {D_Book : Addr} (k_Book : ClsD K mg "Book" D_Book ["plans"]) {D_Plan : Addr} (k_Plan : ClsD K mg "Plan" D_Plan ["name", "givens", "rows"]) : FnOk P w K mg base (CXE P w) (k + 1) f fd ["book"] (SpDX K F_look_at_names) := by
  have sc := sc_look_at_names
  refine fn_dX (N := ["book", "plan"]) (ps := ["book"]) (g := G_look_at_names) F sc fun cdv A outer s H E hr => ?_
  unfold G_look_at_names
  exact (qss_cons (qs_if (qt_not (qt_val (q_fn0 c_are_names hr rfl (qa_cons (QN.qe (q_comp ["plan"] [none] rfl rfl (qi_seq (q_fld k_Book (by decide) (q_var (pv 0)))) (fun _ _ _ _ _ => (qg_one (pg_name (i := 0) (show (["plan"] : List Str).Nodup by decide +kernel) rfl (by first | exact .inl rfl | exact .inr rfl)))) (fun _ _ _ _ _ => (q_fld k_Plan (by decide) (q_var (pv 0)))))) qa_nil)))) (qss_one (qs_raise raises_def x_BadName rfl rfl qc_str)) qss_nil) (qss_one (qs_for passes_def rfl (qi_seq (q_fld k_Book (by decide) (q_var (pv 0)))) (qg_one (pg_name (i := 1) sc.nd rfl (.inl rfl))) (qss_one (qs_if (qt_not (qt_val (q_fn0 c_are_names hr rfl (qa_cons (q_op o_add (q_fld k_Plan (by decide) (q_var (pv 1))) (QN.qe (q_comp ["name", "how", "items"] [none, none, none] rfl rfl (qi_seq (q_fld k_Plan (by decide) (q_var (pv 1)))) (fun _ _ _ _ _ => (qg_tup [0, 1, 2] (pg_tup rfl (pgs_cons (pg_name (i := 0) (show (["name", "how", "items"] : List Str).Nodup by decide +kernel) rfl (by first | exact .inl rfl | exact .inr rfl)) (pgs_cons (pg_name (i := 1) (show (["name", "how", "items"] : List Str).Nodup by decide +kernel) rfl (by first | exact .inl rfl | exact .inr rfl)) (pgs_cons (pg_name (i := 2) (show (["name", "how", "items"] : List Str).Nodup by decide +kernel) rfl (by first | exact .inl rfl | exact .inr rfl)) pgs_nil)))))) (fun _ _ _ _ _ => (q_var (pv 0)))))) qa_nil)))) (qss_one (qs_raise raises_def x_BadName rfl rfl qc_str)) qss_nil)))))
abbrev s_is_part : Stmt := top 22
theorem sc_is_part : FnScope ["how"] ["how"] (defScope s_is_part) := ⟨rfl, rfl, rfl, by decide +kernel, rfl, by decide +kernel, by decide +kernel⟩
theorem ok_is_part {k : Nat} (F : Fun K "is_part" "is_part" s_is_part f fd) (m : Mg mg)  : FnOk P w K mg base CX0 (k + 1) f fd ["how"] (SpD K F_is_part) := by
  have sc := sc_is_part
  refine fn_d (N := ["how"]) (ps := ["how"]) (g := G_is_part) F sc fun cdv A outer s H E hr => ?_
  unfold G_is_part
  exact (qss_one (qs_ret (q_notIn hr.units (q_var (pv 0)) (q_tup (qa_cons qc_str (qa_cons qc_str qa_nil))))))
abbrev s_look_at_parts : Stmt := top 19
theorem sc_look_at_parts : FnScope ["book", "givens", "plan", "name", "how", "items"] ["book"] (defScope s_look_at_parts) := ⟨rfl, rfl, rfl, by decide +kernel, rfl, by decide +kernel, by decide +kernel⟩
theorem ok_look_at_parts {k : Nat} (F : Fun K "look_at_parts" "look_at_parts" s_look_at_parts f fd) (m : Mg mg) (c_is_part : Callee P w K mg base "is_part" k ["how"] (SpD K F_is_part)) {C_BadPart : Addr} (x_BadPart : Exc K mg "BadPart" C_BadPart) {D_Book : Addr} (k_Book : ClsD K mg "Book" D_Book ["plans"]) {D_Plan : Addr} (k_Plan : ClsD K mg "Plan" D_Plan ["name", "givens", "rows"]) : FnOk P w K mg base (CXE P w) (k + 1) f fd ["book"] (SpDX K F_look_at_parts) := by
  have sc := sc_look_at_parts
  refine fn_dX (N := ["book", "givens", "plan", "name", "how", "items"]) (ps := ["book"]) (g := G_look_at_parts) F sc fun cdv A outer s H E hr => ?_
  unfold G_look_at_parts
  exact (qss_cons (qs_own (i := 1) sc.nd rfl (.inl rfl) q_dnew) (qss_one (qs_for passes_def rfl (qi_seq (q_fld k_Book (by decide) (q_var (pv 0)))) (qg_one (pg_name (i := 2) sc.nd rfl (.inl rfl))) (qss_cons (qs_for passes_def rfl (qi_seq (q_fld k_Plan (by decide) (q_var (pv 2)))) (qg_tup [3, 4, 5] (pg_tup rfl (pgs_cons (pg_name (i := 3) sc.nd rfl (.inl rfl)) (pgs_cons (pg_name (i := 4) sc.nd rfl (.inl rfl)) (pgs_cons (pg_name (i := 5) sc.nd rfl (.inl rfl)) pgs_nil))))) (qss_one (qs_if (QW.qt (qw_and (qt_val (q_fn0 c_is_part hr rfl (qa_cons (q_var (pv 4)) qa_nil))) (qw_and1 (qt_cmp (o_ne hr.units) (q_tmp0 [1] (q_get1 (hu_of hr) (q_var (pv 1)) (q_var (pv 4)) ⟨rfl, rfl, rfl, rfl⟩)) (q_callB (x := "len") b_len rfl m.len_ bt_len (qa_cons (q_var (pv 5)) qa_nil)) (nomark _))))) (qss_one (qs_raise raises_def x_BadPart rfl rfl (q_join (qj_repr (q_var (pv 3)) (qj_con qj_nil))))) qss_nil))) (qss_one (qs_dput (hu_of hr) (pv 1) (q_fld k_Plan (by decide) (q_var (pv 2))) (q_callB (x := "len") b_len rfl m.len_ bt_len (qa_cons (q_fld k_Plan (by decide) (q_var (pv 2))) qa_nil))))))))
abbrev s_look_at_items : Stmt := top 18
theorem sc_look_at_items : FnScope ["plan", "ahead", "name", "how", "items", "thing", "wait"] ["plan"] (defScope s_look_at_items) := ⟨rfl, rfl, rfl, by decide +kernel, rfl, by decide +kernel, by decide +kernel⟩
theorem ok_look_at_items {k : Nat} (F : Fun K "look_at_items" "look_at_items" s_look_at_items f fd) (m : Mg mg)  {C_BadPlan : Addr} (x_BadPlan : Exc K mg "BadPlan" C_BadPlan) {D_Plan : Addr} (k_Plan : ClsD K mg "Plan" D_Plan ["name", "givens", "rows"]) : FnOk P w K mg base (CXE P w) (k + 1) f fd ["plan"] (SpDX K F_look_at_items) := by
  have sc := sc_look_at_items
  refine fn_dX (N := ["plan", "ahead", "name", "how", "items", "thing", "wait"]) (ps := ["plan"]) (g := G_look_at_items) F sc fun cdv A outer s H E hr => ?_
  unfold G_look_at_items
  exact (qss_cons (qs_set (i := 1) sc.nd rfl (.inl rfl) (q_callB (x := "len") b_len rfl m.len_ bt_len (qa_cons (q_fld k_Plan (by decide) (q_var (pv 0))) qa_nil))) (qss_one (qs_for passes_def rfl (qi_seq (q_fld k_Plan (by decide) (q_var (pv 0)))) (qg_tup [2, 3, 4] (pg_tup rfl (pgs_cons (pg_name (i := 2) sc.nd rfl (.inl rfl)) (pgs_cons (pg_name (i := 3) sc.nd rfl (.inl rfl)) (pgs_cons (pg_name (i := 4) sc.nd rfl (.inl rfl)) pgs_nil))))) (qss_cons (qs_if (qt_not (qt_chain o_le o_le qc_int (q_callB (x := "len") b_len rfl m.len_ bt_len (qa_cons (q_var (pv 4)) qa_nil)) qc_int)) (qss_one (qs_raise raises_def x_BadPlan rfl rfl (q_join (qj_repr (q_var (pv 2)) (qj_con qj_nil))))) qss_nil) (qss_cons (qs_for passes_def rfl (qi_seq (q_var (pv 4))) (qg_tup [5, 6] (pg_tup rfl (pgs_cons (pg_name (i := 5) sc.nd rfl (.inl rfl)) (pgs_cons (pg_name (i := 6) sc.nd rfl (.inl rfl)) pgs_nil)))) (qss_cons (qs_if (qt_not (qt_chain o_le o_lt qc_int (q_var (pv 5)) (q_var (pv 1)))) (qss_one (qs_raise raises_def x_BadPlan rfl rfl (q_join (qj_con (qj_repr (q_var (pv 2)) (qj_con qj_nil)))))) qss_nil) (qss_one (qs_if (qt_cmp o_ge (q_callB (x := "abs") b_abs rfl m.abs_ bt_abs (qa_cons (q_var (pv 6)) qa_nil)) (q_op o_pow qc_int qc_int) (nomark _)) (qss_one (qs_raise raises_def x_BadPlan rfl rfl (q_join (qj_con (qj_repr (q_var (pv 2)) (qj_con qj_nil)))))) qss_nil)))) (qss_one (qs_aug (i := 1) sc.nd rfl (.inl rfl) qc_int)))))))
abbrev s_look_at_plans : Stmt := top 17
theorem sc_look_at_plans : FnScope ["book", "plan"] ["book"] (defScope s_look_at_plans) := ⟨rfl, rfl, rfl, by decide +kernel, rfl, by decide +kernel, by decide +kernel⟩
theorem ok_look_at_plans {k : Nat} (F : Fun K "look_at_plans" "look_at_plans" s_look_at_plans f fd) (m : Mg mg) (c_look_at_items : CalleeX P w K mg base "look_at_items" k ["plan"] (SpDX K F_look_at_items)) {C_BadPlan : Addr} (x_BadPlan : Exc K mg "BadPlan" C_BadPlan) {D_Book : Addr} (k_Book : ClsD K mg "Book" D_Book ["plans"]) {D_Plan : Addr} (k_Plan : ClsD K mg "Plan" D_Plan ["name", "givens", "rows"]) : FnOk P w K mg base (CXE P w) (k + 1) f fd ["book"] (SpDX K F_look_at_plans) := by
  have sc := sc_look_at_plans
  refine fn_dX (N := ["book", "plan"]) (ps := ["book"]) (g := G_look_at_plans) F sc fun cdv A outer s H E hr => ?_
  unfold G_look_at_plans
  exact (qss_cons (qs_if (qt_not (qt_chain o_le o_le qc_int (q_callB (x := "len") b_len rfl m.len_ bt_len (qa_cons (q_fld k_Book (by decide) (q_var (pv 0))) qa_nil)) qc_int)) (qss_one (qs_raise raises_def x_BadPlan rfl rfl qc_str)) qss_nil) (qss_one (qs_for passes_def rfl (qi_seq (q_fld k_Book (by decide) (q_var (pv 0)))) (qg_one (pg_name (i := 1) sc.nd rfl (.inl rfl))) (qss_cons (qs_if (qt_not (qt_chain o_le o_le qc_int (q_callB (x := "len") b_len rfl m.len_ bt_len (qa_cons (q_fld k_Plan (by decide) (q_var (pv 1))) qa_nil)) qc_int)) (qss_one (qs_raise raises_def x_BadPlan rfl rfl qc_str)) qss_nil) (qss_cons (qs_if (qt_not (qt_chain o_le o_le qc_int (q_callB (x := "len") b_len rfl m.len_ bt_len (qa_cons (q_fld k_Plan (by decide) (q_var (pv 1))) qa_nil)) qc_int)) (qss_one (qs_raise raises_def x_BadPlan rfl rfl qc_str)) qss_nil) (qss_one (qs_expr (q_fnX c_look_at_items thrown_def hr rfl (qa_cons (q_var (pv 1)) qa_nil)))))))))
abbrev s_weights : Stmt := top 21
theorem sc_weights : FnScope ["book", "told", "plan", "parts"] ["book"] (defScope s_weights) := ⟨rfl, rfl, rfl, by decide +kernel, rfl, by decide +kernel, by decide +kernel⟩
theorem ok_weights {k : Nat} (F : Fun K "weights" "weights" s_weights f fd) (m : Mg mg) (c_is_part : Callee P w K mg base "is_part" k ["how"] (SpD K F_is_part)) {D_Book : Addr} (k_Book : ClsD K mg "Book" D_Book ["plans"]) {D_Plan : Addr} (k_Plan : ClsD K mg "Plan" D_Plan ["name", "givens", "rows"]) : FnOk P w K mg base CX0 (k + 1) f fd ["book"] (SpN K F_weights) := by
  have sc := sc_weights
  refine fn_n (N := ["book", "told", "plan", "parts"]) (ps := ["book"]) (g := G_weights) F sc fun cdv A outer s H E hr => ?_
  unfold G_weights
  exact (qss_cons (qs_own (i := 1) sc.nd rfl (.inr rfl) q_dnew) (qss_cons (qs_for PassesOwn.never rfl (qi_seq (q_fld k_Book (by decide) (q_var (pv 0)))) (qg_one (pg_name (i := 2) sc.nd rfl (.inl rfl))) (qss_cons (qs_ownCompIfT [1] ["name", "how", "items", "told"] [none, none, none, some 1] sc.nd rfl (.inl rfl) rfl rfl (qi_seq (q_fld k_Plan (by decide) (q_var (pv 2)))) (fun _ _ _ _ _ => (qg_tup [0, 1, 2] (pg_tup rfl (pgs_cons (pg_name (i := 0) (show (["name", "how", "items", "told"] : List Str).Nodup by decide +kernel) rfl (by first | exact .inl rfl | exact .inr rfl)) (pgs_cons (pg_name (i := 1) (show (["name", "how", "items", "told"] : List Str).Nodup by decide +kernel) rfl (by first | exact .inl rfl | exact .inr rfl)) (pgs_cons (pg_name (i := 2) (show (["name", "how", "items", "told"] : List Str).Nodup by decide +kernel) rfl (by first | exact .inl rfl | exact .inr rfl)) pgs_nil)))))) (fun _ _ _ _ _ => (qt_val (q_fn c_is_part hr rfl (qa_cons (q_var (pv 1)) qa_nil)))) (fun _ _ _ _ _ => (q_ixA (hu_of hr) (q_var (pv 3)) (q_var (pv 1)) (fun _ _ => rfl) (fun _ _ => rfl)))) (qss_one (qs_dput (hu_of hr) (pv 1) (q_fld k_Plan (by decide) (q_var (pv 2))) (q_op o_add (q_callB (x := "len") b_len rfl m.len_ bt_len (qa_cons (q_fld k_Plan (by decide) (q_var (pv 2))) qa_nil)) (q_tmp [3] (q_callB (x := "sum") (b_sum rfl) rfl m.sum_ bt_sum (qa_cons (q_var (pv 3)) qa_nil)))))))) (qss_one (qs_retOwn (pv 1)))))
abbrev s_look_at_weights : Stmt := top 20
theorem sc_look_at_weights : FnScope ["book", "name", "own"] ["book"] (defScope s_look_at_weights) := ⟨rfl, rfl, rfl, by decide +kernel, rfl, by decide +kernel, by decide +kernel⟩
theorem ok_look_at_weights {k : Nat} (F : Fun K "look_at_weights" "look_at_weights" s_look_at_weights f fd) (m : Mg mg) (c_weights : Callee P w K mg base "weights" k ["book"] (SpN K F_weights)) {C_TooLong : Addr} (x_TooLong : Exc K mg "TooLong" C_TooLong) : FnOk P w K mg base (CXE P w) (k + 1) f fd ["book"] (SpDX K F_look_at_weights) := by
  have sc := sc_look_at_weights
  refine fn_dX (N := ["book", "name", "own"]) (ps := ["book"]) (g := G_look_at_weights) F sc fun cdv A outer s H E hr => ?_
  unfold G_look_at_weights
  exact (qss_one (qs_for passes_def rfl (qi_items (q_fnN0 c_weights hr rfl (qa_cons (q_var (pv 0)) qa_nil))) (qg_tup [1, 2] (pg_tup rfl (pgs_cons (pg_name (i := 1) sc.nd rfl (.inl rfl)) (pgs_cons (pg_name (i := 2) sc.nd rfl (.inl rfl)) pgs_nil)))) (qss_one (qs_if (qt_cmp o_gt (q_var (pv 2)) qc_int (nomark _)) (qss_one (qs_raise raises_def x_TooLong rfl rfl (q_join (qj_con (qj_repr (q_var (pv 1)) (qj_con qj_nil)))))) qss_nil))))
abbrev s_looked : Stmt := top 14
theorem sc_looked : FnScope ["book"] ["book"] (defScope s_looked) := ⟨rfl, rfl, rfl, by decide +kernel, rfl, by decide +kernel, by decide +kernel⟩
theorem ok_looked {k : Nat} (F : Fun K "looked" "looked" s_looked f fd) (m : Mg mg) (c_look_at_names : CalleeX P w K mg base "look_at_names" k ["book"] (SpDX K F_look_at_names)) (c_look_at_parts : CalleeX P w K mg base "look_at_parts" k ["book"] (SpDX K F_look_at_parts)) (c_look_at_plans : CalleeX P w K mg base "look_at_plans" k ["book"] (SpDX K F_look_at_plans)) (c_look_at_weights : CalleeX P w K mg base "look_at_weights" k ["book"] (SpDX K F_look_at_weights)) : FnOk P w K mg base (CXE P w) (k + 1) f fd ["book"] (SpDX K F_looked) := by
  have sc := sc_looked
  refine fn_dX (N := ["book"]) (ps := ["book"]) (g := G_looked) F sc fun cdv A outer s H E hr => ?_
  unfold G_looked
  exact (qss_cons (qs_expr (q_fnX c_look_at_names thrown_def hr rfl (qa_cons (q_var (pv 0)) qa_nil))) (qss_cons (qs_expr (q_fnX c_look_at_plans thrown_def hr rfl (qa_cons (q_var (pv 0)) qa_nil))) (qss_cons (qs_expr (q_fnX c_look_at_parts thrown_def hr rfl (qa_cons (q_var (pv 0)) qa_nil))) (qss_one (qs_expr (q_fnX c_look_at_weights thrown_def hr rfl (qa_cons (q_var (pv 0)) qa_nil)))))))
abbrev s_law : Stmt := top 38
theorem sc_law : FnScope ["script", "plans", "book"] ["script"] (defScope s_law) := ⟨rfl, rfl, rfl, by decide +kernel, rfl, by decide +kernel, by decide +kernel⟩
theorem ok_law {k : Nat} (F : Fun K "law" "law" s_law f fd) (m : Mg mg) (c_law_book : Callee P w K mg base "_law_book" k ["plans"] (SpN K F_law_book)) (c_law_cell_at : Callee P w K mg base "_law_cell_at" k ["script", "k"] (SpD K F_law_cell_at)) (c_law_fields : Callee P w K mg base "_law_fields" k ["book"] (SpN K F_law_fields)) (c_law_grown : Callee P w K mg base "_law_grown" k ["plans", "count"] (SpD K F_law_grown)) (c_law_heavy : Callee P w K mg base "_law_heavy" k ["more"] (SpN K F_law_heavy)) (c_law_parts : Callee P w K mg base "_law_parts" k ["script", "start"] (SpN K F_law_parts)) (c_looked : CalleeX P w K mg base "looked" k ["book"] (SpDX K F_looked)) : FnOk P w K mg base CX0 (k + 1) f fd ["script"] (SpD K F_law) := by
  have sc := sc_law
  refine fn_d (N := ["script", "plans", "book"]) (ps := ["script"]) (g := G_law) F sc fun cdv A outer s H E hr => ?_
  unfold G_law
  exact (qss_cons (qs_set (i := 1) sc.nd rfl (.inl rfl) (QN.qe (q_fnN c_law_parts hr rfl (qa_cons (q_var (pv 0)) (qa_cons qc_int qa_nil))))) (qss_cons (qs_if (qt_cmp (o_eq hr.units) (q_op o_mod (q_fn c_law_cell_at hr rfl (qa_cons (q_var (pv 0)) (qa_cons qc_int qa_nil))) qc_int) qc_int (nomark _)) (qss_one (qs_set (i := 1) sc.nd rfl (.inl rfl) (q_op o_add (q_var (pv 1)) (QN.qe (q_fnN c_law_heavy hr rfl (qa_cons qc_int qa_nil)))))) qss_nil) (qss_cons (qs_if (qt_cmp (o_eq hr.units) (q_op o_mod (q_fn c_law_cell_at hr rfl (qa_cons (q_var (pv 0)) (qa_cons qc_int qa_nil))) qc_int) qc_int (nomark _)) (qss_one (qs_set (i := 1) sc.nd rfl (.inl rfl) (q_fn c_law_grown hr rfl (qa_cons (q_var (pv 1)) (qa_cons qc_int qa_nil))))) qss_nil) (qss_cons (qs_set (i := 2) sc.nd rfl (.inl rfl) (QN.qe (q_fnN c_law_book hr rfl (qa_cons (q_var (pv 1)) qa_nil)))) (qss_one (qs_ret (q_and (q_isN (q_fnX c_looked thrown0 hr rfl (qa_cons (q_var (pv 2)) qa_nil))) (q_and (q_cmp (o_eq hr.units) (QN.qe (q_fnN c_law_fields hr rfl (qa_cons (q_var (pv 2)) qa_nil))) (q_var (pv 1)) (nomark _)) (q_one (q_isN (q_fnX c_looked thrown0 hr rfl (qa_cons (q_var (pv 2)) qa_nil))))))))))))
end
def sp_law (K : PySem.W.Frag) : Sp := fun vs H Q _ => ∃ (a : Addr) (ns : List Int), vs = [.ref a] ∧ SqL K H a (ns.map V.int) ∧ ns.length ≤ 63 ∧ ∀ H', Q (.bl true) H'
theorem law_imp (K : PySem.W.Frag) (vs : List V) (H : Hp) (Q : VK) (E : XK) (h : sp_law K vs H Q E) : SpD K F_law vs H Q E := by
  obtain ⟨a, ns, rfl, hS, hl, q⟩ := h
  refine ⟨H, [.scr ns], Same.refl _, IsDs.mk (IsD.scr_iff.mpr ⟨a, rfl, hS⟩) .nil, ?_⟩
  rw [law_true ns hl]
  intro v F' H' e i
  rw [IsD.bl_iff.mp i]
  exact q H'
theorem all_mk {l : PySem.W.OpenLaw} {w : World} {K : PySem.W.Frag} {h : Heap} {mg : Str → Option Value} {fa : Addr} (X : K.In h) (G : h.Ns mainGlobals mg) (hfa : mg "law" = some (.ref fa))
    {C_BadName : Addr}
    {C_BadPart : Addr}
    {C_BadPlan : Addr}
    {C_TooLong : Addr}
    {t_FIGURES : Tok}
    {p_KEPT_WORDS : Addr} {dd_KEPT_WORDS : Option Addr} {n_KEPT_WORDS : Nat} {sl_KEPT_WORDS : Array (Option Value)} {t0_KEPT_WORDS t1_KEPT_WORDS t2_KEPT_WORDS t3_KEPT_WORDS t4_KEPT_WORDS : Tok}
    {t_LETTERS : Tok}
    (d_law_book : DefAt K "_law_book" s_law_book)
    (d_law_cell_at : DefAt K "_law_cell_at" s_law_cell_at)
    (d_law_fields : DefAt K "_law_fields" s_law_fields)
    (d_law_grown : DefAt K "_law_grown" s_law_grown)
    (d_law_heavy : DefAt K "_law_heavy" s_law_heavy)
    (d_law_mixed : DefAt K "_law_mixed" s_law_mixed)
    (d_law_names : DefAt K "_law_names" s_law_names)
    (d_law_far_wait : DefAt K "_law_far_wait" s_law_far_wait)
    (d_law_items : DefAt K "_law_items" s_law_items)
    (d_law_made : DefAt K "_law_made" s_law_made)
    (d_law_plan : DefAt K "_law_plan" s_law_plan)
    (d_law_turns : DefAt K "_law_turns" s_law_turns)
    (d_law_pool : DefAt K "_law_pool" s_law_pool)
    (d_law_parts : DefAt K "_law_parts" s_law_parts)
    (d_is_name : DefAt K "is_name" s_is_name)
    (d_are_names : DefAt K "are_names" s_are_names)
    (d_look_at_names : DefAt K "look_at_names" s_look_at_names)
    (d_is_part : DefAt K "is_part" s_is_part)
    (d_look_at_parts : DefAt K "look_at_parts" s_look_at_parts)
    (d_look_at_items : DefAt K "look_at_items" s_look_at_items)
    (d_look_at_plans : DefAt K "look_at_plans" s_look_at_plans)
    (d_weights : DefAt K "weights" s_weights)
    (d_look_at_weights : DefAt K "look_at_weights" s_look_at_weights)
    (d_looked : DefAt K "looked" s_looked)
    (d_law : DefAt K "law" s_law)
    (a_BadName : PySem.W.nsIn K mainGlobals "BadName" = some (some (.ref C_BadName))) (q_BadName : PySem.W.excIn K C_BadName [.type "ValueError", .type "Exception", .type "BaseException", .type "object"] "ValueError.__new__" = true)
    (a_BadPart : PySem.W.nsIn K mainGlobals "BadPart" = some (some (.ref C_BadPart))) (q_BadPart : PySem.W.excIn K C_BadPart [.type "ValueError", .type "Exception", .type "BaseException", .type "object"] "ValueError.__new__" = true)
    (a_BadPlan : PySem.W.nsIn K mainGlobals "BadPlan" = some (some (.ref C_BadPlan))) (q_BadPlan : PySem.W.excIn K C_BadPlan [.type "ValueError", .type "Exception", .type "BaseException", .type "object"] "ValueError.__new__" = true)
    (a_TooLong : PySem.W.nsIn K mainGlobals "TooLong" = some (some (.ref C_TooLong))) (q_TooLong : PySem.W.excIn K C_TooLong [.type "ValueError", .type "Exception", .type "BaseException", .type "object"] "ValueError.__new__" = true)
    (g_FIGURES : PySem.W.nsIn K mainGlobals "FIGURES" = some (some (.str "0123456789" t_FIGURES)))
    (g_KEPT_WORDS : PySem.W.nsIn K mainGlobals "KEPT_WORDS" = some (some (.ref p_KEPT_WORDS))) (h_KEPT_WORDS : K.lookup p_KEPT_WORDS = some ⟨.type "tuple", dd_KEPT_WORDS, .seq #[.str "plan" t0_KEPT_WORDS, .str "given" t1_KEPT_WORDS, .str "all" t2_KEPT_WORDS, .str "first" t3_KEPT_WORDS, .str "part" t4_KEPT_WORDS] n_KEPT_WORDS, sl_KEPT_WORDS⟩)
    (g_LETTERS : PySem.W.nsIn K mainGlobals "LETTERS" = some (some (.str "abcdefghijklmnopqrstuvwxyz" t_LETTERS)))
    (l_Book : ClsAt K "Book" "Book.__init__" ["plans"] i_Book)
    (l_Plan : ClsAt K "Plan" "Plan.__init__" ["name", "givens", "rows"] i_Plan)
    (z_abs : PySem.W.nsIn K mainGlobals "abs" = some none)
    (z_all : PySem.W.nsIn K mainGlobals "all" = some none)
    (z_len : PySem.W.nsIn K mainGlobals "len" = some none)
    (z_list : PySem.W.nsIn K mainGlobals "list" = some none)
    (z_max : PySem.W.nsIn K mainGlobals "max" = some none)
    (z_min : PySem.W.nsIn K mainGlobals "min" = some none)
    (z_range : PySem.W.nsIn K mainGlobals "range" = some none)
    (z_set : PySem.W.nsIn K mainGlobals "set" = some none)
    (z_str : PySem.W.nsIn K mainGlobals "str" = some none)
    (z_sum : PySem.W.nsIn K mainGlobals "sum" = some none)
    (z_tuple : PySem.W.nsIn K mainGlobals "tuple" = some none) :
    ∃ fd : FuncData, (∀ (s : Shared) (v : Value), BindsTo s fd ⟨[v], []⟩ [("script", v)]) ∧ ∀ base : Heap, K.In base → base.Ns mainGlobals mg → FnOk l.prog w K mg base CX0 7 fa fd ["script"] (sp_law K) := by
  obtain ⟨f_law, fd_law, a_law, F_law⟩ := d_law
  have e := hfa.symm.trans (PySem.W.mg_of X G a_law)
  cases e
  have m : Mg mg := ⟨PySem.W.mg_none_of X G z_abs, PySem.W.mg_none_of X G z_all, PySem.W.mg_none_of X G z_len, PySem.W.mg_none_of X G z_list, PySem.W.mg_none_of X G z_max, PySem.W.mg_none_of X G z_min, PySem.W.mg_none_of X G z_range, PySem.W.mg_none_of X G z_set, PySem.W.mg_none_of X G z_str, PySem.W.mg_none_of X G z_sum, PySem.W.mg_none_of X G z_tuple⟩
  have x_BadName : Exc K mg "BadName" C_BadName := ⟨a_BadName, PySem.W.mg_of X G a_BadName, q_BadName⟩
  have x_BadPart : Exc K mg "BadPart" C_BadPart := ⟨a_BadPart, PySem.W.mg_of X G a_BadPart, q_BadPart⟩
  have x_BadPlan : Exc K mg "BadPlan" C_BadPlan := ⟨a_BadPlan, PySem.W.mg_of X G a_BadPlan, q_BadPlan⟩
  have x_TooLong : Exc K mg "TooLong" C_TooLong := ⟨a_TooLong, PySem.W.mg_of X G a_TooLong, q_TooLong⟩
  have w_FIGURES := PySem.W.mg_of X G g_FIGURES
  have y_KEPT_WORDS : KTup K mg "KEPT_WORDS" ["plan", "given", "all", "first", "part"] := ⟨_, PySem.W.mg_of X G g_KEPT_WORDS, fun H => .inr ⟨_, _, _, h_KEPT_WORDS, rfl, rfl, by show 5 ≤ sizeLine; decide, .cons ⟨_, rfl⟩ (.cons ⟨_, rfl⟩ (.cons ⟨_, rfl⟩ (.cons ⟨_, rfl⟩ (.cons ⟨_, rfl⟩ .nil))))⟩⟩
  have w_LETTERS := PySem.W.mg_of X G g_LETTERS
  obtain ⟨_, _, a_law_book, F_law_book⟩ := d_law_book
  obtain ⟨_, _, a_law_cell_at, F_law_cell_at⟩ := d_law_cell_at
  obtain ⟨_, _, a_law_fields, F_law_fields⟩ := d_law_fields
  obtain ⟨_, _, a_law_grown, F_law_grown⟩ := d_law_grown
  obtain ⟨_, _, a_law_heavy, F_law_heavy⟩ := d_law_heavy
  obtain ⟨_, _, a_law_mixed, F_law_mixed⟩ := d_law_mixed
  obtain ⟨_, _, a_law_names, F_law_names⟩ := d_law_names
  obtain ⟨_, _, a_law_far_wait, F_law_far_wait⟩ := d_law_far_wait
  obtain ⟨_, _, a_law_items, F_law_items⟩ := d_law_items
  obtain ⟨_, _, a_law_made, F_law_made⟩ := d_law_made
  obtain ⟨_, _, a_law_plan, F_law_plan⟩ := d_law_plan
  obtain ⟨_, _, a_law_turns, F_law_turns⟩ := d_law_turns
  obtain ⟨_, _, a_law_pool, F_law_pool⟩ := d_law_pool
  obtain ⟨_, _, a_law_parts, F_law_parts⟩ := d_law_parts
  obtain ⟨_, _, a_is_name, F_is_name⟩ := d_is_name
  obtain ⟨_, _, a_are_names, F_are_names⟩ := d_are_names
  obtain ⟨_, _, a_look_at_names, F_look_at_names⟩ := d_look_at_names
  obtain ⟨_, _, a_is_part, F_is_part⟩ := d_is_part
  obtain ⟨_, _, a_look_at_parts, F_look_at_parts⟩ := d_look_at_parts
  obtain ⟨_, _, a_look_at_items, F_look_at_items⟩ := d_look_at_items
  obtain ⟨_, _, a_look_at_plans, F_look_at_plans⟩ := d_look_at_plans
  obtain ⟨_, _, a_weights, F_weights⟩ := d_weights
  obtain ⟨_, _, a_look_at_weights, F_look_at_weights⟩ := d_look_at_weights
  obtain ⟨_, _, a_looked, F_looked⟩ := d_looked
  obtain ⟨D_Book, fI_Book, fdI_Book, l1_Book, l2_Book, l3_Book, l4_Book, l5_Book⟩ := l_Book
  have k_Book : ClsD K mg "Book" D_Book ["plans"] := ⟨l1_Book, PySem.W.mg_of X G l1_Book, l2_Book, l3_Book⟩
  obtain ⟨D_Plan, fI_Plan, fdI_Plan, l1_Plan, l2_Plan, l3_Plan, l4_Plan, l5_Plan⟩ := l_Plan
  have k_Plan : ClsD K mg "Plan" D_Plan ["name", "givens", "rows"] := ⟨l1_Plan, PySem.W.mg_of X G l1_Plan, l2_Plan, l3_Plan⟩
  refine ⟨fd_law, (by obtain ⟨_, _, _, _, _, _, _, _, _, rfl, _, _⟩ := id F_law.ex; exact fun s v => .of_eq rfl), fun base _ _ => ?_⟩
  have j_Book : MkD l.prog w K mg base "Book" ["plans"] 1 ["self", "plans"] My.I_Book := ⟨_, _, _, k_Book, l4_Book, mk_Book l5_Book m k_Book, l5_Book.binds fun _ _ _ _ _ _ => us2 fun _ _ => rfl⟩
  have j_Plan : MkD l.prog w K mg base "Plan" ["name", "givens", "rows"] 1 ["self", "name", "givens", "rows"] My.I_Plan := ⟨_, _, _, k_Plan, l4_Plan, mk_Plan l5_Plan m k_Plan, l5_Plan.binds fun _ _ _ _ _ _ => us4 fun _ _ _ _ => rfl⟩
  have C_law_book : Callee l.prog w K mg base "_law_book" 3 ["plans"] (SpN K My.F_law_book) := ⟨_, _, ok_law_book (k := 2) F_law_book m j_Book j_Plan (by decide), F_law_book.binds fun _ _ _ _ _ _ => us1 fun _ => rfl, F_law_book.kp, PySem.W.mg_of X G a_law_book⟩
  have C_law_cell_at : Callee l.prog w K mg base "_law_cell_at" 1 ["script", "k"] (SpD K My.F_law_cell_at) := ⟨_, _, ok_law_cell_at (k := 0) F_law_cell_at m , F_law_cell_at.binds fun _ _ _ _ _ _ => us2 fun _ _ => rfl, F_law_cell_at.kp, PySem.W.mg_of X G a_law_cell_at⟩
  have C_law_fields : Callee l.prog w K mg base "_law_fields" 1 ["book"] (SpN K My.F_law_fields) := ⟨_, _, ok_law_fields (k := 0) F_law_fields m k_Book k_Plan, F_law_fields.binds fun _ _ _ _ _ _ => us1 fun _ => rfl, F_law_fields.kp, PySem.W.mg_of X G a_law_fields⟩
  have C_law_grown : Callee l.prog w K mg base "_law_grown" 1 ["plans", "count"] (SpD K My.F_law_grown) := ⟨_, _, ok_law_grown (k := 0) F_law_grown m , F_law_grown.binds fun _ _ _ _ _ _ => us2 fun _ _ => rfl, F_law_grown.kp, PySem.W.mg_of X G a_law_grown⟩
  have C_law_heavy : Callee l.prog w K mg base "_law_heavy" 1 ["more"] (SpN K My.F_law_heavy) := ⟨_, _, ok_law_heavy (k := 0) F_law_heavy m , F_law_heavy.binds fun _ _ _ _ _ _ => us1 fun _ => rfl, F_law_heavy.kp, PySem.W.mg_of X G a_law_heavy⟩
  have C_law_mixed : Callee l.prog w K mg base "_law_mixed" 1 ["cell", "salt"] (SpD K My.F_law_mixed) := ⟨_, _, ok_law_mixed (k := 0) F_law_mixed m , F_law_mixed.binds fun _ _ _ _ _ _ => us2 fun _ _ => rfl, F_law_mixed.kp, PySem.W.mg_of X G a_law_mixed⟩
  have C_law_names : Callee l.prog w K mg base "_law_names" 2 ["cell", "many"] (SpN K My.F_law_names) := ⟨_, _, ok_law_names (k := 1) F_law_names m (C_law_mixed.mono (by decide)), F_law_names.binds fun _ _ _ _ _ _ => us2 fun _ _ => rfl, F_law_names.kp, PySem.W.mg_of X G a_law_names⟩
  have C_law_far_wait : Callee l.prog w K mg base "_law_far_wait" 2 ["cell", "salt"] (SpD K My.F_law_far_wait) := ⟨_, _, ok_law_far_wait (k := 1) F_law_far_wait m (C_law_mixed.mono (by decide)), F_law_far_wait.binds fun _ _ _ _ _ _ => us2 fun _ _ => rfl, F_law_far_wait.kp, PySem.W.mg_of X G a_law_far_wait⟩
  have C_law_items : Callee l.prog w K mg base "_law_items" 3 ["cell", "count", "ahead"] (SpD K My.F_law_items) := ⟨_, _, ok_law_items (k := 2) F_law_items m (C_law_far_wait.mono (by decide)) (C_law_mixed.mono (by decide)), F_law_items.binds fun _ _ _ _ _ _ => us3 fun _ _ _ => rfl, F_law_items.kp, PySem.W.mg_of X G a_law_items⟩
  have C_law_made : Callee l.prog w K mg base "_law_made" 4 ["cell", "name", "ahead", "parts", "wide"] (SpD K My.F_law_made) := ⟨_, _, ok_law_made (k := 3) F_law_made m (C_law_items.mono (by decide)) (C_law_mixed.mono (by decide)), F_law_made.binds fun _ _ _ _ _ _ => us5 fun _ _ _ _ _ => rfl, F_law_made.kp, PySem.W.mg_of X G a_law_made⟩
  have C_law_plan : Callee l.prog w K mg base "_law_plan" 5 ["pool", "at", "name", "parts", "wide"] (SpD K My.F_law_plan) := ⟨_, _, ok_law_plan (k := 4) F_law_plan m (C_law_made.mono (by decide)) (C_law_mixed.mono (by decide)) (C_law_names.mono (by decide)), F_law_plan.binds fun _ _ _ _ _ _ => us5 fun _ _ _ _ _ => rfl, F_law_plan.kp, PySem.W.mg_of X G a_law_plan⟩
  have C_law_turns : Callee l.prog w K mg base "_law_turns" 1 ["script", "start", "most"] (SpN K My.F_law_turns) := ⟨_, _, ok_law_turns (k := 0) F_law_turns m , F_law_turns.binds fun _ _ _ _ _ _ => us3 fun _ _ _ => rfl, F_law_turns.kp, PySem.W.mg_of X G a_law_turns⟩
  have C_law_pool : Callee l.prog w K mg base "_law_pool" 2 ["script", "start"] (SpD K My.F_law_pool) := ⟨_, _, ok_law_pool (k := 1) F_law_pool m (C_law_turns.mono (by decide)), F_law_pool.binds fun _ _ _ _ _ _ => us2 fun _ _ => rfl, F_law_pool.kp, PySem.W.mg_of X G a_law_pool⟩
  have C_law_parts : Callee l.prog w K mg base "_law_parts" 6 ["script", "start"] (SpN K My.F_law_parts) := ⟨_, _, ok_law_parts (k := 5) F_law_parts m (C_law_cell_at.mono (by decide)) (C_law_names.mono (by decide)) (C_law_plan.mono (by decide)) (C_law_pool.mono (by decide)), F_law_parts.binds fun _ _ _ _ _ _ => us2 fun _ _ => rfl, F_law_parts.kp, PySem.W.mg_of X G a_law_parts⟩
  have C_is_name : Callee l.prog w K mg base "is_name" 1 ["text"] (SpD K My.F_is_name) := ⟨_, _, ok_is_name (k := 0) F_is_name m w_FIGURES y_KEPT_WORDS w_LETTERS, F_is_name.binds fun _ _ _ _ _ _ => us1 fun _ => rfl, F_is_name.kp, PySem.W.mg_of X G a_is_name⟩
  have C_are_names : Callee l.prog w K mg base "are_names" 2 ["texts"] (SpD K My.F_are_names) := ⟨_, _, ok_are_names (k := 1) F_are_names m (C_is_name.mono (by decide)), F_are_names.binds fun _ _ _ _ _ _ => us1 fun _ => rfl, F_are_names.kp, PySem.W.mg_of X G a_are_names⟩
  have C_look_at_names : CalleeX l.prog w K mg base "look_at_names" 3 ["book"] (SpDX K My.F_look_at_names) := ⟨_, _, ok_look_at_names (k := 2) F_look_at_names m (C_are_names.mono (by decide)) x_BadName k_Book k_Plan, F_look_at_names.binds fun _ _ _ _ _ _ => us1 fun _ => rfl, F_look_at_names.kp, PySem.W.mg_of X G a_look_at_names⟩
  have C_is_part : Callee l.prog w K mg base "is_part" 1 ["how"] (SpD K My.F_is_part) := ⟨_, _, ok_is_part (k := 0) F_is_part m , F_is_part.binds fun _ _ _ _ _ _ => us1 fun _ => rfl, F_is_part.kp, PySem.W.mg_of X G a_is_part⟩
  have C_look_at_parts : CalleeX l.prog w K mg base "look_at_parts" 2 ["book"] (SpDX K My.F_look_at_parts) := ⟨_, _, ok_look_at_parts (k := 1) F_look_at_parts m (C_is_part.mono (by decide)) x_BadPart k_Book k_Plan, F_look_at_parts.binds fun _ _ _ _ _ _ => us1 fun _ => rfl, F_look_at_parts.kp, PySem.W.mg_of X G a_look_at_parts⟩
  have C_look_at_items : CalleeX l.prog w K mg base "look_at_items" 1 ["plan"] (SpDX K My.F_look_at_items) := ⟨_, _, ok_look_at_items (k := 0) F_look_at_items m x_BadPlan k_Plan, F_look_at_items.binds fun _ _ _ _ _ _ => us1 fun _ => rfl, F_look_at_items.kp, PySem.W.mg_of X G a_look_at_items⟩
  have C_look_at_plans : CalleeX l.prog w K mg base "look_at_plans" 2 ["book"] (SpDX K My.F_look_at_plans) := ⟨_, _, ok_look_at_plans (k := 1) F_look_at_plans m (C_look_at_items.mono (by decide)) x_BadPlan k_Book k_Plan, F_look_at_plans.binds fun _ _ _ _ _ _ => us1 fun _ => rfl, F_look_at_plans.kp, PySem.W.mg_of X G a_look_at_plans⟩
  have C_weights : Callee l.prog w K mg base "weights" 2 ["book"] (SpN K My.F_weights) := ⟨_, _, ok_weights (k := 1) F_weights m (C_is_part.mono (by decide)) k_Book k_Plan, F_weights.binds fun _ _ _ _ _ _ => us1 fun _ => rfl, F_weights.kp, PySem.W.mg_of X G a_weights⟩
  have C_look_at_weights : CalleeX l.prog w K mg base "look_at_weights" 3 ["book"] (SpDX K My.F_look_at_weights) := ⟨_, _, ok_look_at_weights (k := 2) F_look_at_weights m (C_weights.mono (by decide)) x_TooLong, F_look_at_weights.binds fun _ _ _ _ _ _ => us1 fun _ => rfl, F_look_at_weights.kp, PySem.W.mg_of X G a_look_at_weights⟩
  have C_looked : CalleeX l.prog w K mg base "looked" 4 ["book"] (SpDX K My.F_looked) := ⟨_, _, ok_looked (k := 3) F_looked m (C_look_at_names.mono (by decide)) (C_look_at_parts.mono (by decide)) (C_look_at_plans.mono (by decide)) (C_look_at_weights.mono (by decide)), F_looked.binds fun _ _ _ _ _ _ => us1 fun _ => rfl, F_looked.kp, PySem.W.mg_of X G a_looked⟩
  exact ((ok_law (k := 6) (P := l.prog) (w := w) (base := base) F_law m (C_law_book.mono (by decide)) (C_law_cell_at.mono (by decide)) (C_law_fields.mono (by decide)) (C_law_grown.mono (by decide)) (C_law_heavy.mono (by decide)) (C_law_parts.mono (by decide)) (C_looked.mono (by decide))).mono (by decide)).imp (law_imp K)
theorem walk {l : PySem.W.OpenLaw} {q : Program} {loose : List Str} {XP : (Str → Option Value) → Heap → Prop} {YP : World → Heap → Prop} {d : DefRec} {K : Params → PySem.W.Frag} (hn : l.most = some 63) (hdf : d.params.defaults = [])
    (hY : ∀ (w : World) (h : Heap), YP w h → (K w.params).In h)
    (F : ∀ (w : World) (mg : Str → Option Value) (fa : Addr) (h : Heap), (K w.params).In h → h.Ns mainGlobals mg → mg d.name = some (.ref fa) →
      ∃ fd : FuncData, (∀ (s : Shared) (u : Value), BindsTo s fd ⟨[u], []⟩ [("script", u)]) ∧ ∀ base : Heap, (K w.params).In base → base.Ns mainGlobals mg → FnOk l.prog w (K w.params) mg base CX0 7 fa fd ["script"] (sp_law (K w.params))) :
    PySem.W.WalkO q loose XP YP l.row.toRowW d [] (fun f vs => PySem.call f vs) :=
  L2.walk_of (n := 63) (k := 7) (x := "script") (CX := fun _ => CX0) (sp := fun w => sp_law (K w.params)) hn (by decide) hdf ⟨rfl, by decide, by decide⟩ hY F (fun _ _ a ns hl _ hS => ⟨a, ns, rfl, hS, hl, fun _ => rfl⟩) fun _ _ _ _ _ z => z
end My
open PySem PySem.W PyProof.Rows
set_option maxRecDepth 100000 in
set_option maxHeartbeats 0 in
theorem PySem.Challenge.cw_allfirst_k45_whole_let_books_are_let_holds : PySem.Challenge.rw_allfirst_k45_whole_let_books_are_let.Holds := by
  w_on; o_law; k_head; (case hw => w_witness2)
  k_fill
  refine My.walk (l := PySem.Challenge.rw_allfirst_k45_whole_let_books_are_let) rfl rfl (fun w h Y => PySem.W.kIn_of Y) ?F
  case F =>
    intro w mg fa h KX G hmg
    refine' My.all_mk KX G hmg ?d_law_book ?d_law_cell_at ?d_law_fields ?d_law_grown ?d_law_heavy ?d_law_mixed ?d_law_names ?d_law_far_wait ?d_law_items ?d_law_made ?d_law_plan ?d_law_turns ?d_law_pool ?d_law_parts ?d_is_name ?d_are_names ?d_look_at_names ?d_is_part ?d_look_at_parts ?d_look_at_items ?d_look_at_plans ?d_weights ?d_look_at_weights ?d_looked ?d_law ?a_BadName ?q_BadName ?a_BadPart ?q_BadPart ?a_BadPlan ?q_BadPlan ?a_TooLong ?q_TooLong ?g_FIGURES ?g_KEPT_WORDS ?h_KEPT_WORDS ?g_LETTERS ?l_Book ?l_Plan ?z_abs ?z_all ?z_len ?z_list ?z_max ?z_min ?z_range ?z_set ?z_str ?z_sum ?z_tuple
    (case d_law_book => refine' ⟨_, _, ?a, L2.fun_mk ?l ?c ?k⟩; (case a => k_is); (case l => k_is); (case c => k_is); (case k => k_is))
    (case d_law_cell_at => refine' ⟨_, _, ?a, L2.fun_mk ?l ?c ?k⟩; (case a => k_is); (case l => k_is); (case c => k_is); (case k => k_is))
    (case d_law_fields => refine' ⟨_, _, ?a, L2.fun_mk ?l ?c ?k⟩; (case a => k_is); (case l => k_is); (case c => k_is); (case k => k_is))
    (case d_law_grown => refine' ⟨_, _, ?a, L2.fun_mk ?l ?c ?k⟩; (case a => k_is); (case l => k_is); (case c => k_is); (case k => k_is))
    (case d_law_heavy => refine' ⟨_, _, ?a, L2.fun_mk ?l ?c ?k⟩; (case a => k_is); (case l => k_is); (case c => k_is); (case k => k_is))
    (case d_law_mixed => refine' ⟨_, _, ?a, L2.fun_mk ?l ?c ?k⟩; (case a => k_is); (case l => k_is); (case c => k_is); (case k => k_is))
    (case d_law_names => refine' ⟨_, _, ?a, L2.fun_mk ?l ?c ?k⟩; (case a => k_is); (case l => k_is); (case c => k_is); (case k => k_is))
    (case d_law_far_wait => refine' ⟨_, _, ?a, L2.fun_mk ?l ?c ?k⟩; (case a => k_is); (case l => k_is); (case c => k_is); (case k => k_is))
    (case d_law_items => refine' ⟨_, _, ?a, L2.fun_mk ?l ?c ?k⟩; (case a => k_is); (case l => k_is); (case c => k_is); (case k => k_is))
    (case d_law_made => refine' ⟨_, _, ?a, L2.fun_mk ?l ?c ?k⟩; (case a => k_is); (case l => k_is); (case c => k_is); (case k => k_is))
    (case d_law_plan => refine' ⟨_, _, ?a, L2.fun_mk ?l ?c ?k⟩; (case a => k_is); (case l => k_is); (case c => k_is); (case k => k_is))
    (case d_law_turns => refine' ⟨_, _, ?a, L2.fun_mk ?l ?c ?k⟩; (case a => k_is); (case l => k_is); (case c => k_is); (case k => k_is))
    (case d_law_pool => refine' ⟨_, _, ?a, L2.fun_mk ?l ?c ?k⟩; (case a => k_is); (case l => k_is); (case c => k_is); (case k => k_is))
    (case d_law_parts => refine' ⟨_, _, ?a, L2.fun_mk ?l ?c ?k⟩; (case a => k_is); (case l => k_is); (case c => k_is); (case k => k_is))
    (case d_is_name => refine' ⟨_, _, ?a, L2.fun_mk ?l ?c ?k⟩; (case a => k_is); (case l => k_is); (case c => k_is); (case k => k_is))
    (case d_are_names => refine' ⟨_, _, ?a, L2.fun_mk ?l ?c ?k⟩; (case a => k_is); (case l => k_is); (case c => k_is); (case k => k_is))
    (case d_look_at_names => refine' ⟨_, _, ?a, L2.fun_mk ?l ?c ?k⟩; (case a => k_is); (case l => k_is); (case c => k_is); (case k => k_is))
    (case d_is_part => refine' ⟨_, _, ?a, L2.fun_mk ?l ?c ?k⟩; (case a => k_is); (case l => k_is); (case c => k_is); (case k => k_is))
    (case d_look_at_parts => refine' ⟨_, _, ?a, L2.fun_mk ?l ?c ?k⟩; (case a => k_is); (case l => k_is); (case c => k_is); (case k => k_is))
    (case d_look_at_items => refine' ⟨_, _, ?a, L2.fun_mk ?l ?c ?k⟩; (case a => k_is); (case l => k_is); (case c => k_is); (case k => k_is))
    (case d_look_at_plans => refine' ⟨_, _, ?a, L2.fun_mk ?l ?c ?k⟩; (case a => k_is); (case l => k_is); (case c => k_is); (case k => k_is))
    (case d_weights => refine' ⟨_, _, ?a, L2.fun_mk ?l ?c ?k⟩; (case a => k_is); (case l => k_is); (case c => k_is); (case k => k_is))
    (case d_look_at_weights => refine' ⟨_, _, ?a, L2.fun_mk ?l ?c ?k⟩; (case a => k_is); (case l => k_is); (case c => k_is); (case k => k_is))
    (case d_looked => refine' ⟨_, _, ?a, L2.fun_mk ?l ?c ?k⟩; (case a => k_is); (case l => k_is); (case c => k_is); (case k => k_is))
    (case d_law => refine' ⟨_, _, ?a, L2.fun_mk ?l ?c ?k⟩; (case a => k_is); (case l => k_is); (case c => k_is); (case k => k_is))
    (case a_BadName => k_is)
    (case q_BadName => k_exc)
    (case a_BadPart => k_is)
    (case q_BadPart => k_exc)
    (case a_BadPlan => k_is)
    (case q_BadPlan => k_exc)
    (case a_TooLong => k_is)
    (case q_TooLong => k_exc)
    (case g_FIGURES => k_is)
    (case g_KEPT_WORDS => k_is)
    (case h_KEPT_WORDS => k_is)
    (case g_LETTERS => k_is)
    (case l_Book => refine' ⟨_, _, _, ?ua, ⟨?up, ?uh, ?uo, ?us⟩, List.forall_mem_cons.mpr ⟨?uf0, List.forall_mem_nil _⟩, ⟨?um, ?ui, ?un, ?ue⟩, L2.fun_mk ?ul ?uc ?uk⟩; (case ua => k_is); (case ui => k_is); (case ul => k_is); (case uc => k_is); (case uk => k_is); (case up => k_is); (case uh => k_is); (case uo => k_is); (case us => k_is); (case um => k_is); (case un => k_is); (case ue => k_is); (case uf0 => show PySem.W.findIn _ _ _ = _; k_is))
    (case l_Plan => refine' ⟨_, _, _, ?ua, ⟨?up, ?uh, ?uo, ?us⟩, List.forall_mem_cons.mpr ⟨?uf0, List.forall_mem_cons.mpr ⟨?uf1, List.forall_mem_cons.mpr ⟨?uf2, List.forall_mem_nil _⟩⟩⟩, ⟨?um, ?ui, ?un, ?ue⟩, L2.fun_mk ?ul ?uc ?uk⟩; (case ua => k_is); (case ui => k_is); (case ul => k_is); (case uc => k_is); (case uk => k_is); (case up => k_is); (case uh => k_is); (case uo => k_is); (case us => k_is); (case um => k_is); (case un => k_is); (case ue => k_is); (case uf0 => show PySem.W.findIn _ _ _ = _; k_is); (case uf1 => show PySem.W.findIn _ _ _ = _; k_is); (case uf2 => show PySem.W.findIn _ _ _ = _; k_is))
    (case z_abs => k_is)
    (case z_all => k_is)
    (case z_len => k_is)
    (case z_list => k_is)
    (case z_max => k_is)
    (case z_min => k_is)
    (case z_range => k_is)
    (case z_set => k_is)
    (case z_str => k_is)
    (case z_sum => k_is)
    (case z_tuple => k_is)

