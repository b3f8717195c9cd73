import PyProof.Rows.All
import Wide.All
import OpenK.AllK
import Wide.FinOn
import Lean
import PyProof.EqAt
import PyProof.EqKinds
import PyProof.NeKinds
import PyProof.TupleCall
import PySem.Challenge.RW_copydesks_k07_a_desk
set_option Elab.async false
set_option maxRecDepth 100000
set_option maxHeartbeats 4000000
set_option Elab.async false
set_option linter.all false
set_option maxRecDepth 100000
/-! THE HAND LAYER, for ints, bools, texts, own classes, LISTS and tuples (index, slices, in, append, pop ..), calls, loops. Paste it whole ahead of your own text; what your proof does not reach may be deleted. -/
namespace L2
open PySem PySem.Spec PyProof.Rows

/-- a key: an int or a str -/
abbrev Key := Sum Int Str
def keyIs : Key → Value → Bool
  | .inl k, v => Value.isInt k v
  | .inr x, v => Value.isStrOf x v
def keyH (w : World) : Key → Int
  | .inl k => hashInt k
  | .inr x => hashStr w x
theorem keyIs_shape : ∀ {k : Key} {v : Value}, keyIs k v = true → (∃ i t, k = Sum.inl i ∧ v = Value.int i t) ∨ (∃ x t, k = Sum.inr x ∧ v = Value.str x t)
  | .inl i, v, h => by
    obtain ⟨t, e⟩ := Value.isInt_shape (k := i) (v := v) h
    exact .inl ⟨i, t, rfl, e⟩
  | .inr x, v, h => by
    obtain ⟨t, e⟩ := Value.isStrOf_shape (x := x) (v := v) h
    exact .inr ⟨x, t, rfl, e⟩
theorem keyIs_int (i : Int) (t : Tok) : keyIs (.inl i) (.int i t) = true := by simp [keyIs, Value.isInt]
theorem keyIs_str (x : Str) (t : Tok) : keyIs (.inr x) (.str x t) = true := by simp [keyIs, Value.isStrOf]
theorem key_ll (a b : Int) : decide ((Sum.inl a : Key) = Sum.inl b) = (a == b) := by
  by_cases e : a = b
  · subst e; simp
  · have h : ¬ (Sum.inl a : Key) = Sum.inl b := fun q => e (Sum.inl.inj q)
    rw [decide_eq_false h]
    exact (beq_eq_false_iff_ne.mpr e).symm
theorem key_rr (a b : Str) : decide ((Sum.inr a : Key) = Sum.inr b) = decide (a = b) := by
  by_cases e : a = b
  · subst e; simp
  · have h : ¬ (Sum.inr a : Key) = Sum.inr b := fun q => e (Sum.inr.inj q)
    rw [decide_eq_false h, decide_eq_false e]
theorem key_lr (a : Int) (b : Str) : decide ((Sum.inl a : Key) = Sum.inr b) = false := decide_eq_false (fun q => nomatch q)
theorem key_rl (a : Str) (b : Int) : decide ((Sum.inr a : Key) = Sum.inl b) = false := decide_eq_false (fun q => nomatch q)

def mixKind (prog : Program) (w : World) : PySem.KeyKind prog w Key where
  is := keyIs
  hash := keyH w
  inj := fun v a b ha hb => by
    rcases keyIs_shape ha with ⟨i, t, rfl, rfl⟩ | ⟨x, t, rfl, rfl⟩
    · rcases keyIs_shape hb with ⟨j, u, rfl, e⟩ | ⟨y, u, rfl, e⟩
      · injection e with e1 _; rw [e1]
      · exact nomatch e
    · rcases keyIs_shape hb with ⟨j, u, rfl, e⟩ | ⟨y, u, rfl, e⟩
      · exact nomatch e
      · injection e with e1 _; rw [e1]
  byValue := fun k v h => by
    rcases keyIs_shape h with ⟨i, t, rfl, rfl⟩ | ⟨x, t, rfl, rfl⟩ <;> rfl
  pyHash := fun hv h => by
    rcases keyIs_shape hv with ⟨i, t, rfl, rfl⟩ | ⟨x, t, rfl, rfl⟩
    · exact wpAny_pyHash_int h
    · exact wpAny_pyHash_str h
  eqBool := fun hu hv h => by
    rcases keyIs_shape hu with ⟨i, t, rfl, rfl⟩ | ⟨x, t, rfl, rfl⟩
    · rcases keyIs_shape hv with ⟨j, u, rfl, rfl⟩ | ⟨y, u, rfl, rfl⟩
      · rw [key_ll] at h; exact wpAny_eqBool_int h
      · rw [key_lr] at h; exact SeqAt.EqAt.int_str i t y u _ _ _ _ h
    · rcases keyIs_shape hv with ⟨j, u, rfl, rfl⟩ | ⟨y, u, rfl, rfl⟩
      · rw [key_rl] at h; exact SeqAt.EqAt.str_int x t j u _ _ _ _ h
      · rw [key_rr] at h; exact wpAny_eqBool_str h
  «strs» := fun k x t v h => by
    rcases keyIs_shape h with ⟨i, u, rfl, e⟩ | ⟨y, u, rfl, e⟩
    · exact nomatch e
    · injection e with e1 _
      subst e1
      cases v <;> rfl

theorem mixKind_int (prog : Program) (w : World) (i : Int) (t : Tok) : (mixKind prog w).is (.inl i) (.int i t) = true := keyIs_int i t
theorem mixKind_str (prog : Program) (w : World) (x : Str) (t : Tok) : (mixKind prog w).is (.inr x) (.str x t) = true := keyIs_str x t
end L2

namespace L2
open PySem PySem.Spec PyProof.Rows

/-- a value, without the heap -/
inductive V where
  | non | bl (b : Bool) | int (i : Int) | str (x : Str) | byt (b : Array UInt8) | flt (b : UInt64) | ref (a : Addr) | ty (n : String)
  deriving DecidableEq

def RelV : V → Value → Prop
  | .non, u => u = Value.none
  | .bl b, u => u = Value.bool b
  | .int i, u => ∃ t, u = Value.int i t
  | .str x, u => ∃ t, u = Value.str x t
  | .byt b, u => ∃ t, u = Value.bytes b t
  | .flt b, u => ∃ t, u = Value.float b t
  | .ref a, u => u = Value.ref a
  | .ty n, u => u = Value.type n

abbrev Vals : List V → List Value → Prop := Paired RelV
theorem Vals.length {xs : List V} {us : List Value} (r : Vals xs us) : xs.length = us.length := Paired.length r
theorem Vals.get : ∀ {xs : List V} {us : List Value} {i : Nat} {x : V}, Vals xs us → xs[i]? = some x → ∃ u, us[i]? = some u ∧ RelV x u
  | _, _, _, _, .nil, e => by simp at e
  | _, _, 0, _, .cons r _, e => by simp at e; subst e; exact ⟨_, rfl, r⟩
  | _, _, i + 1, x, .cons _ t, e => by
    obtain ⟨u, h1, h2⟩ := Vals.get (i := i) (x := x) t (by simpa using e)
    exact ⟨u, by simpa using h1, h2⟩
theorem Vals.set {x : V} {u : Value} (r : RelV x u) : ∀ {xs : List V} {us : List Value} (i : Nat), Vals xs us → Vals (xs.set i x) (us.set i u)
  | _, _, _, .nil => .nil
  | _, _, 0, .cons _ t => .cons r t
  | _, _, i + 1, .cons q t => .cons q (Vals.set r i t)
theorem Vals.append : ∀ {xs ys : List V} {us ws : List Value}, Vals xs us → Vals ys ws → Vals (xs ++ ys) (us ++ ws)
  | _, _, _, _, .nil, s => s
  | _, _, _, _, .cons r t, s => .cons r (Vals.append t s)
def RelO : Option V → Option Value → Prop
  | some v, some u => RelV v u
  | none, none => True
  | _, _ => False
def KV {κ : Type} : List (κ × V) → List (κ × Value) → Prop := Paired fun (p : κ × V) (q : κ × Value) => p.1 = q.1 ∧ RelV p.2 q.2

/-- a key of a dict (00_mix): an int or a text -/
def kV : Key → V
  | .inl i => .int i
  | .inr x => .str x

/-- what stands at a tracked address -/
inductive HO where
  /-- a list -/
  | lst (xs : List V)
  /-- a tuple (never changes) -/
  | tup (xs : List V)
  /-- a dict whose keys are ints and texts; one whose keys are tuples of ints and texts (the empty one is both) -/
  | dK (kvs : List (Key × V)) | dT (kvs : List (List Key × V))
  /-- a set of ints: its members, its size -/
  | set (S : Int → Bool) (n : Nat)
  /-- an instance of the class at C, its dict at dx, its attributes -/
  | ins (C dx : Addr) (fs : List (Str × V))
  /-- the dict of the instance at x -/
  | own (x : Addr)
  /-- the dict of an exception -/
  | xd (fs : List (Str × V))
  /-- a bound method, f of x -/
  | met (f x : Addr)
  /-- a range object lo, lo + 1, .. below hi -/
  | rng (lo hi : Int)
  /-- a thing that is known to the object (the script; a dict while a loop walks it): read, never written while it is so -/
  | frz (o : Obj) (u : HO)
  /-- a code object's table -/
  | tbl (ps : Array Value)
  /-- any other thing, by what is true of its one object (a def of one's own: SetO a S n := HO.ext fun h => ..) -/
  | ext (φ : Heap → Prop)

abbrev Hp := Addr → Option HO
def upd (H : Hp) (a : Addr) (o : HO) : Hp := fun b => if b = a then some o else H b
theorem upd_same {H : Hp} {a : Addr} {o : HO} : upd H a o a = some o := by unfold upd; rw [if_pos rfl]
theorem upd_ne {H : Hp} {a b : Addr} {o : HO} (h : b ≠ a) : upd H a o b = H b := by unfold upd; rw [if_neg h]
/-- two objects of different content stand apart -/
theorem ne_of {H : Hp} {a b : Addr} {o u : HO} (h : H a = some o) (h' : H b = some u) (d : o ≠ u) : a ≠ b := by
  intro e; subst e; rw [h] at h'; exact d (Option.some.inj h')
theorem ne_of_none {H : Hp} {a b : Addr} {o : HO} (h : H a = some o) (h' : H b = none) : a ≠ b := by
  intro e; subst e; rw [h] at h'; cases h'

section
variable (P : Program) (w : World)
def ObjOk (H : Hp) (h : Heap) (a : Addr) : HO → Prop
  | .lst xs => xs.length ≤ sizeLine ∧ ∃ (its : List Value) (n : Nat), Vals xs its ∧ h.get? a = some { cls := .type "list", data := .seq its.toArray n }
  | .tup xs => xs.length ≤ sizeLine ∧ ∃ its : List Value, Vals xs its ∧ IsTup h a its.toArray
  | .dK kvs => kvs.length ≤ sizeLine ∧ (a == sysModules) = false ∧ ∃ vs, KV kvs vs ∧ h.DictOf (mixKind P w) a vs
  | .dT kvs => kvs.length ≤ sizeLine ∧ (a == sysModules) = false ∧ ∃ xs : List (List Key × Addr × Value),
      Paired (fun (p : List Key × V) (q : List Key × Addr × Value) => p.1 = q.1 ∧ H q.2.1 = some (.tup (p.1.map kV)) ∧ RelV p.2 q.2.2) kvs xs ∧
      ∃ o es ep, h.get? a = some o ∧ o.ExactDict ∧ o.data = .dict es ep ∧ es.toList = xs.map (entryOfKey (tupleKind (mixKind P w))) ∧ (xs.map (·.1)).Nodup
  | .set S n => h.SetOf (intKind P w) a S n
  | .ins C dx fs => H dx = some (.own a) ∧ fs.length ≤ 1000 ∧ dx ≠ a ∧ h.get? a = some (PySem.W.instObj C dx) ∧
      ∃ mA, h.Ns1 dx mA ∧ (∀ f, RelO (fs.lookup f) (mA f)) ∧ PySem.Within mA (fs.map (·.1))
  | .own _ => ∃ o, h.get? a = some o
  | .xd fs => ∃ mA, h.Ns1 a mA ∧ ∀ f, RelO (fs.lookup f) (mA f)
  | .rng lo hi => ∃ t u v, h.get? a = some { cls := .type "range", data := .fields #[.int lo t, .int hi u, .int 1 v] }
  | .frz o u => h.get? a = some o ∧ ObjOk H h a u
  | .tbl ps => h.get? a = some { cls := .none, data := .fields ps }
  | .met f x => h.get? a = some (PySem.W.methodObj (.ref f) (.ref x))
  | .ext φ => φ h ∧ (∃ o, h.get? a = some o) ∧ ∀ h1 h2 : Heap, φ h1 → (∀ o, h1.get? a = some o → h2.get? a = some o) → φ h2
/-- the abstract heap is held -/
def HOk (H : Hp) (h : Heap) : Prop := ∀ a o, H a = some o → ObjOk P w H h a o
end

section
variable {P : Program} {w : World} {H H' : Hp} {h h' : Heap} {a : Addr} {o : HO}
theorem ObjOk.lt (x : ObjOk P w H h a o) : a < h.objs.size := by
  cases o with
  | lst xs => obtain ⟨_, _, _, _, e⟩ := x; exact Heap.lt_size e
  | tup xs => obtain ⟨_, _, _, p⟩ := x; exact p.lt
  | dK kvs => obtain ⟨_, _, _, _, o, _, _, e, _⟩ := x; exact Heap.lt_size e
  | dT kvs => obtain ⟨_, _, _, _, o, _, _, e, _⟩ := x; exact Heap.lt_size e
  | set S n => obtain ⟨o, _, _, _, e, _⟩ := x; exact Heap.lt_size e
  | ins C dx fs => obtain ⟨_, _, _, e, _⟩ := x; exact Heap.lt_size e
  | own y => obtain ⟨_, e⟩ := x; exact Heap.lt_size e
  | xd fs => obtain ⟨_, ⟨_, _, _, e, _⟩, _⟩ := x; exact Heap.lt_size e
  | rng lo hi => obtain ⟨_, _, _, e⟩ := x; exact Heap.lt_size e
  | frz ob u => obtain ⟨e, _⟩ := x; exact Heap.lt_size e
  | tbl ps => exact Heap.lt_size (show h.get? a = some _ from x)
  | met f y => exact Heap.lt_size (show h.get? a = some _ from x)
  | ext φ => obtain ⟨_, ⟨_, e⟩, _⟩ := x; exact Heap.lt_size e
theorem Paired.mapP {α β : Type} {F G : α → β → Prop} : ∀ {l₁ : List α} {l₂ : List β}, Paired F l₁ l₂ → (∀ a b, F a b → G a b) → Paired G l₁ l₂
  | _, _, .nil, _ => .nil
  | _, _, .cons r t, f => .cons (f _ _ r) (Paired.mapP t f)
/-- what an object's description leans on: its own object, its own dict, the tuples -/
theorem ObjOk.stay (x : ObjOk P w H h a o) (k : ∀ b u, (b = a ∨ H b = some (.own a)) → h.get? b = some u → h'.get? b = some u)
    (ho : ∀ b, H b = some (.own a) → H' b = some (.own a)) (ht : ∀ b xs, H b = some (.tup xs) → H' b = some (.tup xs)) : ObjOk P w H' h' a o := by
  induction o with
  | lst xs => obtain ⟨z, its, n, r, e⟩ := x; exact ⟨z, its, n, r, k _ _ (.inl rfl) e⟩
  | tup xs => obtain ⟨z, its, r, ob, e, c⟩ := x; exact ⟨z, its, r, ob, k _ _ (.inl rfl) e, c⟩
  | dK kvs => obtain ⟨z, y, vs, r, ob, es, ep, e, c⟩ := x; exact ⟨z, y, vs, r, ob, es, ep, k _ _ (.inl rfl) e, c⟩
  | dT kvs =>
    obtain ⟨z, y, xs, r, ob, es, ep, e, c⟩ := x
    exact ⟨z, y, xs, Paired.mapP r fun p q z => ⟨z.1, ht _ _ z.2.1, z.2.2⟩, ob, es, ep, k _ _ (.inl rfl) e, c⟩
  | set S n => obtain ⟨ob, es, ep, t, e, c⟩ := x; exact ⟨ob, es, ep, t, k _ _ (.inl rfl) e, c⟩
  | ins C dx fs =>
    obtain ⟨d, z, ne, e, mA, ⟨od, es, ep, e2, c⟩, r⟩ := x
    exact ⟨ho _ d, z, ne, k _ _ (.inl rfl) e, mA, ⟨od, es, ep, k _ _ (.inr d) e2, c⟩, r⟩
  | own y => obtain ⟨ob, e⟩ := x; exact ⟨ob, k _ _ (.inl rfl) e⟩
  | xd fs => obtain ⟨mA, ⟨od, es, ep, e, c⟩, r⟩ := x; exact ⟨mA, ⟨od, es, ep, k _ _ (.inl rfl) e, c⟩, r⟩
  | rng lo hi => obtain ⟨t, u, v, e⟩ := x; exact ⟨t, u, v, k _ _ (.inl rfl) e⟩
  | frz ob u ih => obtain ⟨e, q⟩ := x; exact ⟨k _ _ (.inl rfl) e, ih q⟩
  | tbl ps =>
    have e : h.get? a = some { cls := .none, data := .fields ps } := x
    show h'.get? a = some { cls := .none, data := .fields ps }
    exact k a _ (.inl rfl) e
  | met f y =>
    have e : h.get? a = some (PySem.W.methodObj (.ref f) (.ref y)) := x
    show h'.get? a = some (PySem.W.methodObj (.ref f) (.ref y))
    exact k a _ (.inl rfl) e
  | ext φ => obtain ⟨p, ⟨o, e⟩, st⟩ := x; exact ⟨st _ _ p fun o q => k _ _ (.inl rfl) q, ⟨o, k _ _ (.inl rfl) e⟩, st⟩
theorem HOk.lt (x : HOk P w H h) (e : H a = some o) : a < h.objs.size := (x a o e).lt
theorem HOk.fresh (x : HOk P w H h) (e : h.objs.size ≤ a) : H a = none := by
  cases q : H a with
  | none => rfl
  | some u => exact absurd (Nat.lt_of_lt_of_le (x.lt q) e) (Nat.lt_irrefl _)
/-- every object of the heap is kept -/
theorem HOk.kept (x : HOk P w H h) (k : ∀ b u, h.get? b = some u → h'.get? b = some u) : HOk P w H h' := fun a o e =>
  (x a o e).stay (fun b u _ q => k b u q) (fun _ q => q) fun _ _ q => q
/-- a new object is laid and tracked -/
theorem HOk.laid (x : HOk P w H h) (k : ∀ b u, h.get? b = some u → h'.get? b = some u) (hp : h.objs.size ≤ a) (new : ObjOk P w (upd H a o) h' a o) : HOk P w (upd H a o) h' := fun b u e => by
  have hn := x.fresh hp
  by_cases hb : b = a
  · subst hb; rw [upd_same] at e; cases e; exact new
  · rw [upd_ne hb] at e
    exact (x b u e).stay (fun c v _ q => k c v q) (fun c q => by rw [upd_ne (ne_of_none q hn)]; exact q) fun c xs q => by rw [upd_ne (ne_of_none q hn)]; exact q
end

/-- what may be read as u: it is u, or a known u -/
def Rd (H : Hp) (a : Addr) (u : HO) : Prop := H a = some u ∨ ∃ o, H a = some (.frz o u)
theorem Rd.ok {P : Program} {w : World} {H : Hp} {h : Heap} {a : Addr} {u : HO} (r : Rd H a u) (x : HOk P w H h) : ObjOk P w H h a u := by
  rcases r with r | ⟨o, r⟩
  · exact x a u r
  · obtain ⟨_, q⟩ := x a _ r
    exact q
/-- what may be written -/
def Mut : Option HO → Prop
  | some (.lst _) => True
  | some (.dK _) => True
  | some (.dT _) => True
  | some (.set _ _) => True
  | some (.ins _ _ _) => True
  | some (.ext _) => True
  | _ => False
section
variable {P : Program} {w : World} {H : Hp} {h h' : Heap} {x e : Addr} {o' : HO}
/-- the object at e is changed: x itself, or the dict of the instance x -/
theorem HOk.write (ok : HOk P w H h) (mu : Mut (H x)) (he : e = x ∨ H e = some (.own x)) (k : ∀ b u, b ≠ e → h.get? b = some u → h'.get? b = some u) (heo : ∃ u, h'.get? e = some u)
    (new : ObjOk P w (upd H x o') h' x o') : HOk P w (upd H x o') h' := fun b u q => by
  have nown : ∀ c y, H c = some (.own y) → c ≠ x := fun c y r z => by subst z; rw [r] at mu; exact mu
  have ntup : ∀ c xs, H c = some (.tup xs) → c ≠ x := fun c xs r z => by subst z; rw [r] at mu; exact mu
  by_cases hb : b = x
  · subst hb; rw [upd_same] at q; cases q; exact new
  · rw [upd_ne hb] at q
    by_cases hbe : b = e
    · have q' : H b = some (.own x) := by
        rcases he with z | z
        · exact absurd (hbe.trans z) hb
        · rw [hbe]; exact z
      rw [q] at q'; cases q'
      obtain ⟨v, hv⟩ := heo
      exact ⟨v, by rw [hbe]; exact hv⟩
    · refine (ok b u q).stay (fun c v hc r => k c v ?_ r) (fun c r => by rw [upd_ne (nown c b r)]; exact r) fun c xs r => by rw [upd_ne (ntup c xs r)]; exact r
      rcases hc with rfl | hc
      · exact hbe
      · rintro rfl
        rcases he with z | z
        · exact nown c b hc z
        · rw [hc] at z; cases z; exact hb rfl
end

/-! ### kept unless tracked; of the frames at fs (the callers') the slots may change (an exception that passes writes there); of the records at ex (iterators) nothing is said -/
structure Un (fs ex : List Addr) (H H' : Hp) (h h' : Heap) : Prop where
  keep : ∀ b o, h.get? b = some o → H b = none → b ∉ fs → b ∉ ex → h'.get? b = some o
  slot : ∀ b o, h.get? b = some o → H b = none → b ∈ fs → b ∉ ex → ∃ sl, h'.get? b = some { o with slots := sl }
  free : ∀ b o, h.get? b = some o → H b = none → b ∉ ex → H' b = none
  there : ∀ b o, h.get? b = some o → b ∉ ex → ∃ o', h'.get? b = some o'
  tups : ∀ b xs, H b = some (.tup xs) → H' b = some (.tup xs)
  frzs : ∀ b o u, H b = some (.frz o u) → H' b = some (.frz o u)
  tbls : ∀ b ps, H b = some (.tbl ps) → ∃ more, H' b = some (.tbl (ps ++ more))
section
variable {fs fs' ex ex' : List Addr} {H H1 H2 : Hp} {h h1 h2 h' : Heap} {a x e : Addr} {o : HO}
theorem Un.any (u : Un fs ex H H1 h h1) {b : Addr} {ob : Obj} (q : h.get? b = some ob) (n : H b = none) (hx : b ∉ ex) : ∃ sl, h1.get? b = some { ob with slots := sl } := by
  by_cases hb : b ∈ fs
  · exact u.slot b ob q n hb hx
  · exact ⟨ob.slots, u.keep b ob q n hb hx⟩
theorem Un.kept (k : ∀ b u, h.get? b = some u → h'.get? b = some u) : Un fs ex H H h h' :=
  ⟨fun b ob q _ _ _ => k b ob q, fun b ob q _ _ _ => ⟨ob.slots, k b ob q⟩, fun _ _ _ n _ => n, fun b ob q _ => ⟨ob, k b ob q⟩, fun _ _ q => q, fun _ _ _ q => q, fun _ ps q => ⟨#[], by rw [q]; simp⟩⟩
theorem Un.refl : Un fs ex H H h h := Un.kept fun _ _ q => q
theorem Un.laid (k : ∀ b u, h.get? b = some u → h'.get? b = some u) (hp : h.objs.size ≤ a) (hn : H a = none) : Un fs ex H (upd H a o) h h' where
  keep := fun b u q _ _ _ => k b u q
  slot := fun b u q _ _ _ => ⟨u.slots, k b u q⟩
  free := fun b u q n _ => by rw [upd_ne (Nat.ne_of_lt (Nat.lt_of_lt_of_le (Heap.lt_size q) hp))]; exact n
  there := fun b u q _ => ⟨u, k b u q⟩
  tups := fun b xs q => by rw [upd_ne (ne_of_none q hn)]; exact q
  frzs := fun b u xs q => by rw [upd_ne (ne_of_none q hn)]; exact q
  tbls := fun b ps q => ⟨#[], by rw [upd_ne (ne_of_none q hn), q]; simp⟩
theorem Un.write (mu : Mut (H x)) (he : e = x ∨ H e = some (.own x)) (k : ∀ b u, b ≠ e → h.get? b = some u → h'.get? b = some u) (heo : ∃ u, h'.get? e = some u) : Un fs ex H (upd H x o) h h' := by
  have hx : ∀ b, H b = none → b ≠ x := fun b n z => by subst z; rw [n] at mu; exact mu
  have hb : ∀ b, H b = none → b ≠ e := fun b n z => by
    subst z
    rcases he with r | r
    · exact hx b n r
    · rw [n] at r; cases r
  have hm : ∀ b u, H b = some u → ¬ Mut (some u) → b ≠ x := fun b u q nm z => by subst z; rw [q] at mu; exact nm mu
  refine ⟨fun b u q n _ _ => k b u (hb b n) q, fun b u q n _ _ => ⟨u.slots, k b u (hb b n) q⟩, fun b u q n _ => by rw [upd_ne (hx b n)]; exact n, fun b u q _ => ?_,
    fun b xs q => by rw [upd_ne (hm b _ q fun z => z)]; exact q, fun b u xs q => by rw [upd_ne (hm b _ q fun z => z)]; exact q, fun b ps q => ⟨#[], by rw [upd_ne (hm b _ q fun z => z), q]; simp⟩⟩
  by_cases hbe : b = e
  · subst hbe; exact heo
  · exact ⟨u, k b u hbe q⟩
end

/-! ### the heap without what is tracked -/
def trk (h : Heap) (H : Hp) : List Addr := (List.range h.objs.size).filter fun a => (H a).isSome
def hidT (h : Heap) (H : Hp) : Heap := PySem.W.hideAll h (trk h H)
theorem hidT_size (h : Heap) (H : Hp) : (hidT h H).objs.size = h.objs.size := PySem.W.hideAll_size _ _
theorem hidT_get {h : Heap} {H : Hp} {b : Addr} {o : Obj} (e : h.get? b = some o) (n : H b = none) : (hidT h H).get? b = some o :=
  PySem.W.hideAll_get _ e fun hm => by
    have q : (H b).isSome = true := (List.mem_filter.mp hm).2
    rw [n] at q; simp at q
theorem of_hidT {h : Heap} {H : Hp} {b : Addr} {o : Obj} (e : (hidT h H).get? b = some o) : h.get? b = some o ∧ H b = none := by
  have e' : h.get? b = some o := PySem.W.of_hideAll (trk h H) e
  refine ⟨e', ?_⟩
  cases q : H b with
  | none => rfl
  | some x =>
    have hm : b ∈ trk h H := List.mem_filter.mpr ⟨List.mem_range.mpr (Heap.lt_size e'), by simp [q]⟩
    have z : (hidT h H).get? b = none := PySem.W.hideAll_none (trk h H) hm
    rw [z] at e; cases e

/-! ### OpenK's ledger, filled with every new object but one -/
end L2

namespace L2
open PySem PySem.Spec PyProof.Rows

/-- the module's facts, over the base: the heap at the law's entry without what is tracked there -/
structure Mod (K : PySem.W.Frag) (mg : Str → Option Value) (base : Heap) : Prop where
  kin : K.In base
  glob : base.Ns mainGlobals mg
  blt : ∃ mb, base.Ns builtinsNs mb ∧ ∀ x : Str, x ≠ "__name__" → mb x = bootBuiltins x
  nolimit : base.NoLimit

/-- the context: a def's body (or a comprehension's block) running. base: fixed through the whole law; s₀, H₀: the entry; outer: the frames whose slots others may change (a def's callers); stack: all frames that run;
   ex: iterators that were made ahead of the entry and are walked here (a comprehension's); fn: the names whose cells were made at the entry (a def: all; a comprehension's block: its own); calm: not within an except suite; pn: pins that every state bears; xe: what is wanted of an exception that leaves the code -/
structure Cx where
  prog : Program
  w : World
  K : PySem.W.Frag
  mg : Str → Option Value
  base : Heap
  A : Around
  N : List Str
  s₀ : Shared
  H₀ : Hp
  env : Env
  outer : List Env
  stack : List Env
  ex : List Addr
  fn : Str → Bool
  calm : Bool
  pn : List (Addr × Obj)
  xe : Value → Shared → Prop
/-- the callers' frames -/
def frs (l : List Env) : List Addr := l.filterMap (·.frame)
abbrev Cx.fs (X : Cx) : List Addr := frs X.outer

def Vis (sc : Scope) (x : Str) : Prop := sc.names.lookup x = some .local ∨ sc.names.lookup x = some .cell ∨ sc.names.lookup x = some .free
def Loc (sc : Scope) (x : Str) : Prop := sc.names.lookup x = some .local ∨ sc.names.lookup x = some .cell
def Look (env : Env) (h : Heap) (m : Str → Option Value) (x : Str) (u : Value) : Prop :=
  (env.kindOf x = some .local ∧ m x = some u) ∨ ((env.kindOf x = some .cell ∨ env.kindOf x = some .free) ∧ ∃ c, env.cells.lookup x = some c ∧ h.IsCell c (some u))

structure Cx.Ok (X : Cx) : Prop where
  mod : Mod X.K X.mg X.base
  kind : X.env.scope.kind = .function
  glob : X.env.globals = mainGlobals
  blt : X.env.builtins = builtinsNs
  above : X.s₀.heap.objs.size ≤ X.env.locals
  inj : ∀ x y c, X.env.cells.lookup x = some c → X.env.cells.lookup y = some c → x = y
  has : ∀ x, (X.env.kindOf x = some .cell ∨ X.env.kindOf x = some .free) → ∃ c, X.env.cells.lookup x = some c
  cab : ∀ x c, X.fn x = true → X.env.cells.lookup x = some c → X.s₀.heap.objs.size ≤ c
  hd : X.calm = true → X.A.handled = none
  frames : X.A.frames = some X.stack
  stk : X.stack = X.outer ∨ (X.stack = X.env :: X.outer ∧ X.env.frame = some X.env.locals)
  exf : ∀ b ∈ X.ex, b ≠ X.env.locals ∧ ∀ x c, X.env.cells.lookup x = some c → c ≠ b
  bs : ∀ b o, X.base.get? b = some o → X.s₀.heap.get? b = some o ∧ X.H₀ b = none
  bsz : X.base.objs.size ≤ X.s₀.heap.objs.size
  noex : ∀ b o, X.base.get? b = some o → b ∉ X.ex
  exfs : ∀ b ∈ X.ex, b ∉ X.fs
  funs : X.s₀.heap.FunFrames X.base X.outer
  frf : ∀ b ∈ X.fs, X.H₀ b = none

structure Inv (X : Cx) (pins : List (Addr × Obj)) (σ : List (Option V)) (H : Hp) (s : Shared) : Prop where
  ok : X.Ok
  os : s.os = X.s₀.os
  bare : AllBare s.gens
  base : Un X.fs X.ex X.H₀ H X.s₀.heap s.heap
  loc : ∃ m, s.heap.Ns X.env.locals m ∧ ∀ (i : Nat) (x : Str) (v : V), X.N[i]? = some x → σ[i]? = some (some v) → Vis X.env.scope x → ∃ u, RelV v u ∧ Look X.env s.heap m x u
  cell : ∀ x c, X.env.cells.lookup x = some c → ∃ v, s.heap.IsCell c v
  free : H X.env.locals = none
  freeC : ∀ x c, X.env.cells.lookup x = some c → H c = none
  pin : ∀ p ∈ X.pn ++ pins, s.heap.get? p.1 = some p.2 ∧ H p.1 = none ∧ p.1 ≠ X.env.locals ∧ p.1 ∉ X.fs ∧ ∀ v, p.2.data ≠ .cell v
  hok : HOk X.prog X.w H s.heap
  len : σ.length = X.N.length

section
variable {X : Cx} {pins : List (Addr × Obj)} {σ : List (Option V)} {H H' : Hp} {s : Shared} {h' : Heap}

theorem Cx.Ok.nofr (ok : X.Ok) {b : Addr} {o : Obj} (e : X.base.get? b = some o) : b ∉ X.fs := fun hb => by
  have := (ok.funs.mem hb).1
  rw [e] at this; cases this
theorem Inv.bs (I : Inv X pins σ H s) : ∀ b o, X.base.get? b = some o → s.heap.get? b = some o ∧ H b = none := fun b o e =>
  ⟨I.base.keep b o (I.ok.bs b o e).1 (I.ok.bs b o e).2 (I.ok.nofr e) (I.ok.noex b o e), I.base.free b o (I.ok.bs b o e).1 (I.ok.bs b o e).2 (I.ok.noex b o e)⟩
theorem Inv.bk (I : Inv X pins σ H s) : ∀ b o, X.base.get? b = some o → s.heap.get? b = some o := fun b o e => (I.bs b o e).1
theorem Inv.mod (I : Inv X pins σ H s) : Mod X.K X.mg X.base := I.ok.mod
theorem Inv.kIn (I : Inv X pins σ H s) : X.K.In s.heap := I.ok.mod.kin.keeps I.bk
theorem Inv.lt (I : Inv X pins σ H s) : X.env.locals < s.heap.objs.size := let ⟨_, hn, _⟩ := I.loc; hn.lt
theorem Inv.sz (I : Inv X pins σ H s) : X.s₀.heap.objs.size ≤ s.heap.objs.size := Nat.le_trans I.ok.above (Nat.le_of_lt I.lt)
theorem Inv.nofs (I : Inv X pins σ H s) {a : Addr} (h : s.heap.objs.size ≤ a) : a ∉ X.fs := fun hb => by
  obtain ⟨_, o, ho, _⟩ := I.ok.funs.mem hb
  exact absurd (Nat.lt_of_lt_of_le (Heap.lt_size ho) (Nat.le_trans I.sz h)) (Nat.lt_irrefl _)
theorem Inv.cne (I : Inv X pins σ H s) : ∀ x c, X.env.cells.lookup x = some c → c ≠ X.env.locals := fun x c e z => by
  obtain ⟨v, o, ho, hd⟩ := I.cell x c e
  obtain ⟨m, ⟨o', es, ep, ho', hd', _⟩, _⟩ := I.loc
  rw [z, ho'] at ho; cases ho; rw [hd'] at hd; cases hd
theorem Inv.funs (I : Inv X pins σ H s) : s.heap.FunFrames X.base X.outer := by
  have all : ∀ (l : List Env), (∀ b ∈ frs l, b ∈ X.fs) → X.s₀.heap.FunFrames X.base l → s.heap.FunFrames X.base l := by
    intro l
    induction l with
    | nil => intro _ _; trivial
    | cons env r ih =>
      intro hs hl
      obtain ⟨hk, ⟨L, o, hf, hn, ho, hd⟩, hr⟩ := hl
      have hL : L ∈ X.fs := hs L (by unfold frs; rw [List.filterMap_cons, hf]; exact List.mem_cons_self)
      obtain ⟨sl, e⟩ := I.base.slot L o ho (I.ok.frf L hL) hL fun z => I.ok.exfs L z hL
      exact ⟨hk, ⟨L, _, hf, hn, e, hd⟩, ih (fun b hb => hs b (by unfold frs; rw [List.filterMap_cons, hf]; exact List.mem_cons_of_mem _ hb)) hr⟩
  exact all X.outer (fun _ hb => hb) I.ok.funs

/-- the frames that run, for a call -/
theorem Inv.stack (I : Inv X pins σ H s) : s.heap.FunFrames X.base X.stack := by
  rcases I.ok.stk with e | ⟨e, hf⟩
  · rw [e]; exact I.funs
  · rw [e]
    obtain ⟨m, hn, _⟩ := I.loc
    refine .cons (by rw [I.ok.kind]; decide) hf hn ?_ I.funs
    exact Heap.get?_none_of_le (Nat.le_trans I.ok.bsz I.ok.above)
theorem Inv.stkSub (I : Inv X pins σ H s) : ∀ b ∈ frs X.stack, b ∈ X.env.locals :: X.fs := fun b hb => by
  rcases I.ok.stk with e | ⟨e, hf⟩
  · rw [e] at hb; exact List.mem_cons_of_mem _ hb
  · rw [e] at hb
    unfold frs at hb
    rw [List.filterMap_cons, hf] at hb
    exact hb
theorem Inv.stkFree (I : Inv X pins σ H s) : ∀ b ∈ frs X.stack, H b = none := fun b hb => by
  rcases List.mem_cons.mp (I.stkSub b hb) with e | hb
  · rw [e]; exact I.free
  · obtain ⟨_, o, ho, _⟩ := I.ok.funs.mem hb
    exact I.base.free b o ho (I.ok.frf b hb) fun z => I.ok.exfs b z hb

/-- THE STEP: the untracked objects but the frame and the records at ch are kept (the callers' frames up to slots), the frame's map is kept, the new abstract heap is held -/
theorem Inv.step {g' : Array GenState} {t' : Nat} {d' : Drawn} {ch : List Addr} (I : Inv X pins σ H s)
    (hch : ∀ b ∈ ch, (b ∈ X.ex ∨ X.s₀.heap.objs.size ≤ b) ∧ b ≠ X.env.locals ∧ (∀ x c, X.env.cells.lookup x = some c → c ≠ b) ∧ ∀ p ∈ X.pn ++ pins, p.1 ≠ b)
    (keep : ∀ b o, b ≠ X.env.locals → b ∉ X.fs → b ∉ ch → s.heap.get? b = some o → H b = none → h'.get? b = some o)
    (slot : ∀ b o, b ≠ X.env.locals → b ∈ X.fs → b ∉ ch → s.heap.get? b = some o → H b = none → ∃ sl, h'.get? b = some { o with slots := sl }) (free : ∀ b o, b ∉ ch → s.heap.get? b = some o → H b = none → H' b = none)
    (there : ∀ b o, b ∉ ch → s.heap.get? b = some o → ∃ o', h'.get? b = some o')
    (tups : ∀ b xs, H b = some (.tup xs) → H' b = some (.tup xs)) (frzs : ∀ b o u, H b = some (.frz o u) → H' b = some (.frz o u)) (tbls : ∀ b ps, H b = some (.tbl ps) → ∃ more, H' b = some (.tbl (ps ++ more)))
    (ns : ∀ m, s.heap.Ns X.env.locals m → h'.Ns X.env.locals m) (hok : HOk X.prog X.w H' h') (hg : AllBare g') :
    Inv X pins σ H' { s with heap := h', gens := g', drawn := d', toks := t' } := by
  have neL : ∀ b o, X.s₀.heap.get? b = some o → b ≠ X.env.locals := fun b o e => Nat.ne_of_lt (Nat.lt_of_lt_of_le (Heap.lt_size e) I.ok.above)
  have neC : ∀ b o, X.s₀.heap.get? b = some o → b ∉ X.ex → b ∉ ch := fun b o e hx hb => by
    rcases (hch b hb).1 with z | z
    · exact hx z
    · exact absurd (Nat.lt_of_lt_of_le (Heap.lt_size e) z) (Nat.lt_irrefl _)
  have cellK : ∀ x c, X.env.cells.lookup x = some c → ∀ v, s.heap.IsCell c v → h'.IsCell c v := fun x c e v ⟨o, ho, hd⟩ => by
    have nch : c ∉ ch := fun z => (hch c z).2.2.1 x c e rfl
    by_cases hc : c ∈ X.fs
    · obtain ⟨sl, q⟩ := slot c o (I.cne x c e) hc nch ho (I.freeC x c e)
      exact ⟨_, q, hd⟩
    · exact ⟨o, keep c o (I.cne x c e) hc nch ho (I.freeC x c e), hd⟩
  refine ⟨I.ok, I.os, hg, ⟨fun b o e n hb hx => ?_, fun b o e n hb hx => ?_, fun b o e n hx => ?_, fun b o e hx => ?_, fun b xs e => tups b xs (I.base.tups b xs e), fun b o xs e => frzs b o xs (I.base.frzs b o xs e), fun b ps e => ?_⟩, ?_, fun x c e => ?_, ?_, fun x c e => ?_, fun p hp => ?_, hok, I.len⟩
  · exact keep b o (neL b o e) hb (neC b o e hx) (I.base.keep b o e n hb hx) (I.base.free b o e n hx)
  · obtain ⟨sl, e1⟩ := I.base.slot b o e n hb hx
    obtain ⟨sl', e2⟩ := slot b _ (neL b o e) hb (neC b o e hx) e1 (I.base.free b o e n hx)
    exact ⟨sl', e2⟩
  · obtain ⟨o', e1⟩ := I.base.there b o e hx
    exact free b o' (neC b o e hx) e1 (I.base.free b o e n hx)
  · obtain ⟨o', e1⟩ := I.base.there b o e hx
    exact there b o' (neC b o e hx) e1
  · obtain ⟨m1, e1⟩ := I.base.tbls b ps e
    obtain ⟨m2, e2⟩ := tbls b _ e1
    exact ⟨m1 ++ m2, by rw [e2, Array.append_assoc]⟩
  · obtain ⟨m, hn, hl⟩ := I.loc
    refine ⟨m, ns m hn, fun i x v e1 e2 e3 => ?_⟩
    obtain ⟨u, r, l⟩ := hl i x v e1 e2 e3
    refine ⟨u, r, ?_⟩
    rcases l with l | ⟨k, c, e, z⟩
    · exact .inl l
    · exact .inr ⟨k, c, e, cellK x c e _ z⟩
  · obtain ⟨v, z⟩ := I.cell x c e
    exact ⟨v, cellK x c e v z⟩
  · obtain ⟨m, ⟨o, _, _, ho, _⟩, _⟩ := I.loc
    exact free _ o (fun z => (hch _ z).2.1 rfl) ho I.free
  · obtain ⟨v, o, ho, hd⟩ := I.cell x c e
    exact free c o (fun z => (hch c z).2.2.1 x c e rfl) ho (I.freeC x c e)
  · obtain ⟨e, n, ne, nf, d⟩ := I.pin p hp
    have nch : p.1 ∉ ch := fun z => (hch p.1 z).2.2.2 p hp rfl
    exact ⟨keep p.1 p.2 ne nf nch e n, free p.1 p.2 nch e n, ne, nf, d⟩
/-- .. where the frame's own object is kept too -/
theorem Inv.un {t' : Nat} (I : Inv X pins σ H s) (u : Un X.fs [] H H' s.heap h') (hok : HOk X.prog X.w H' h') : Inv X pins σ H' { s with heap := h', toks := t' } := by
  obtain ⟨m, ⟨o, es, ep, ho, r⟩, _⟩ := id I.loc
  obtain ⟨sl, hL⟩ := u.any ho I.free (by simp)
  exact I.step (g' := s.gens) (d' := s.drawn) (ch := []) (fun _ z => nomatch z) (fun b o _ hb _ e n => u.keep b o e n hb (by simp)) (fun b o _ hb _ e n => u.slot b o e n hb (by simp)) (fun b o _ e n => u.free b o e n (by simp)) (fun b o _ e => u.there b o e (by simp)) u.tups u.frzs u.tbls (fun m' hm => by
    obtain ⟨o', es', ep', ho', r'⟩ := hm
    rw [ho] at ho'; cases ho'
    exact ⟨_, es', ep', hL, r'⟩) hok I.bare
/-- behind a call (or a comprehension's block): the slots of this frame may have changed too, the records at ch may have turned -/
theorem Inv.call {g' : Array GenState} {t' : Nat} {d' : Drawn} {ch : List Addr} (I : Inv X pins σ H s) (u : Un (frs X.stack) ch H H' s.heap h') (hok : HOk X.prog X.w H' h') (hg : AllBare g')
    (hch : ∀ b ∈ ch, (b ∈ X.ex ∨ X.s₀.heap.objs.size ≤ b) ∧ b ≠ X.env.locals ∧ (∀ x c, X.env.cells.lookup x = some c → c ≠ b) ∧ ∀ p ∈ X.pn ++ pins, p.1 ≠ b) :
    Inv X pins σ H' { s with heap := h', gens := g', drawn := d', toks := t' } := by
  obtain ⟨m, ⟨o, es, ep, ho, r⟩, _⟩ := id I.loc
  obtain ⟨sl, hL⟩ := u.any ho I.free fun z => (hch _ z).2.1 rfl
  exact I.step (ch := ch) hch (fun b o hL hb hc e n => u.keep b o e n (fun z => (List.mem_cons.mp (I.stkSub b z)).elim hL hb) hc) (fun b o _ _ hc e n => u.any e n hc) (fun b o hc e n => u.free b o e n hc) (fun b o hc e => u.there b o e hc) u.tups u.frzs u.tbls (fun m' hm => by
    obtain ⟨o', es', ep', ho', r'⟩ := hm
    rw [ho] at ho'; cases ho'
    exact ⟨_, es', ep', hL, r'⟩) hok hg
/-- an untracked record of ours (an iterator) has turned -/
theorem Inv.turned {t' : Nat} {it : Addr} (I : Inv X pins σ H s) (k : ∀ b o, b ≠ it → s.heap.get? b = some o → h'.get? b = some o) (hn : H it = none) (hL : it ≠ X.env.locals)
    (h1 : it ∈ X.ex ∨ X.s₀.heap.objs.size ≤ it) (h2 : ∀ x c, X.env.cells.lookup x = some c → c ≠ it) (h3 : ∀ p ∈ X.pn ++ pins, p.1 ≠ it) : Inv X pins σ H { s with heap := h', toks := t' } := by
  have nit : ∀ b u, H b = some u → b ≠ it := fun b u e z => by rw [z, hn] at e; cases e
  refine I.step (g' := s.gens) (d' := s.drawn) (ch := [it]) (fun b hb => ?_) (fun b o _ _ hc e _ => k b o (fun z => hc (by simp [z])) e) (fun b o _ _ hc e _ => ⟨o.slots, k b o (fun z => hc (by simp [z])) e⟩) (fun _ _ _ _ n => n)
    (fun b o hc e => ⟨o, k b o (fun z => hc (by simp [z])) e⟩) (fun _ _ e => e) (fun _ _ _ e => e) (fun b ps e => ⟨#[], by rw [e]; simp⟩) (fun m hm => ?_) (fun b u e => ?_) I.bare
  · have e : b = it := by simpa using hb
    subst e
    exact ⟨h1, hL, h2, h3⟩
  · obtain ⟨o, es, ep, ho, r⟩ := hm
    exact ⟨o, es, ep, k _ o (Ne.symm hL) ho, r⟩
  · refine (I.hok b u e).stay (fun c v hc q => k c v ?_ q) (fun _ q => q) fun _ _ q => q
    rcases hc with z | z
    · rw [z]; exact nit b u e
    · exact nit c _ z
theorem Inv.tok (I : Inv X pins σ H s) (t : Nat) : Inv X pins σ H { s with toks := t } := I.un (h' := s.heap) (t' := t) Un.refl I.hok
/-- all objects kept -/
theorem Inv.kept {t' : Nat} (I : Inv X pins σ H s) (k : ∀ b u, s.heap.get? b = some u → h'.get? b = some u) : Inv X pins σ H { s with heap := h', toks := t' } := I.un (Un.kept k) (I.hok.kept k)
/-- a new object laid and tracked -/
theorem Inv.laid {a : Addr} {o : HO} {t' : Nat} (I : Inv X pins σ H s) (k : ∀ b u, s.heap.get? b = some u → h'.get? b = some u) (hp : s.heap.objs.size ≤ a) (new : ObjOk X.prog X.w (upd H a o) h' a o) :
    Inv X pins σ (upd H a o) { s with heap := h', toks := t' } := I.un (Un.laid k hp (I.hok.fresh hp)) (I.hok.laid k hp new)
/-- an object written -/
theorem Inv.write {x e : Addr} {o : HO} {t' : Nat} (I : Inv X pins σ H s) (mu : Mut (H x)) (he : e = x ∨ H e = some (.own x)) (k : ∀ b u, b ≠ e → s.heap.get? b = some u → h'.get? b = some u) (heo : ∃ u, h'.get? e = some u)
    (new : ObjOk X.prog X.w (upd H x o) h' x o) : Inv X pins σ (upd H x o) { s with heap := h', toks := t' } := I.un (Un.write mu he k heo) (I.hok.write mu he k heo new)
theorem Inv.pins_of {pins' : List (Addr × Obj)} (I : Inv X pins σ H s) (h : ∀ p ∈ pins', s.heap.get? p.1 = some p.2 ∧ H p.1 = none ∧ p.1 ≠ X.env.locals ∧ p.1 ∉ X.fs ∧ ∀ v, p.2.data ≠ .cell v) : Inv X pins' σ H s :=
  ⟨I.ok, I.os, I.bare, I.base, I.loc, I.cell, I.free, I.freeC, fun p hp => (List.mem_append.mp hp).elim (fun z => I.pin p (List.mem_append_left _ z)) (h p), I.hok, I.len⟩

theorem nodup_ix {N : List Str} (hN : N.Nodup) {i j : Nat} {x : Str} (a : N[i]? = some x) (b : N[j]? = some x) : i = j := by
  obtain ⟨h1, e1⟩ := List.getElem?_eq_some_iff.mp a
  obtain ⟨h2, e2⟩ := List.getElem?_eq_some_iff.mp b
  exact (List.getElem_inj hN).mp (e1.trans e2.symm)

/-- a name is stored; what changed -/
theorem store_ok2 {M : Model} {A : Around} {E : Value → Shared → Prop} {i : Nat} {x : Str} {v : V} {u : Value} {Q : Unit → Shared → Prop} (I : Inv X pins σ H s) (hN : X.N.Nodup) (hi : X.N[i]? = some x) (hx : Loc X.env.scope x) (r : RelV v u)
    (h : ∀ s', Inv X pins (σ.set i (some v)) H s' → (∃ a, Heap.SameBut a s.heap s'.heap ∧ (a = X.env.locals ∨ X.env.cells.lookup x = some a)) → Q () s') (hf : X.fn x = true ∨ X.env.scope.names.lookup x = some .local := by first | exact .inl rfl | exact .inr rfl | assumption) : wpAny M A (storeName X.env x u) Q E s := by
  obtain ⟨m, hn, hl⟩ := id I.loc
  have hcls : (X.env.scope.kind == .class || (X.env.scope.kind == .module && X.env.locals != X.env.globals)) = false := by rw [I.ok.kind]; rfl
  have hiσ : i < σ.length := by rw [I.len]; exact (List.getElem?_eq_some_iff.mp hi).1
  have cne := I.cne
  have tracked : ∀ {a : Addr} {h' : Heap}, (∃ o, s.heap.get? a = some o ∧ H a = none) → Heap.SameBut a s.heap h' → HOk X.prog X.w H h' := fun {a h'} ha hs b ob e => by
    obtain ⟨_, _, hfree⟩ := ha
    refine (I.hok b ob e).stay (fun c w' hc q => (hs.2 c ?_).trans q) (fun _ q => q) fun _ _ q => q
    rintro rfl
    rcases hc with rfl | hc
    · rw [hfree] at e; cases e
    · rw [hfree] at hc; cases hc
  rcases hx with hk | hk
  · refine wpAny_storeName_local hk hn (fun h' hn' hs => ?_) hcls
    obtain ⟨oL, _, _, hoL, _⟩ := id hn
    refine h _ ⟨I.ok, I.os, I.bare, ⟨fun b o e n hb hx => ?_, fun b o e n hb hx => ?_, I.base.free, fun b o e hx => ?_, I.base.tups, I.base.frzs, I.base.tbls⟩, ⟨_, hn', fun j y v' e1 e2 e3 => ?_⟩, fun y c e => ?_, I.free, I.freeC, fun p hp => ?_, tracked ⟨oL, hoL, I.free⟩ hs, by simpa using I.len⟩ ⟨_, hs, .inl rfl⟩
    · exact (hs.2 b (Nat.ne_of_lt (Nat.lt_of_lt_of_le (Heap.lt_size e) I.ok.above))).trans (I.base.keep b o e n hb hx)
    · obtain ⟨sl, e1⟩ := I.base.slot b o e n hb hx
      exact ⟨sl, (hs.2 b (Nat.ne_of_lt (Nat.lt_of_lt_of_le (Heap.lt_size e) I.ok.above))).trans e1⟩
    · obtain ⟨o', e1⟩ := I.base.there b o e hx
      exact ⟨o', (hs.2 b (Nat.ne_of_lt (Nat.lt_of_lt_of_le (Heap.lt_size e) I.ok.above))).trans e1⟩
    · by_cases hj : j = i
      · subst hj
        rw [hi] at e1; cases e1
        rw [List.getElem?_set_self hiσ] at e2
        cases e2
        exact ⟨u, r, .inl ⟨hk, by simp⟩⟩
      · rw [List.getElem?_set_ne (Ne.symm hj)] at e2
        obtain ⟨u', r', q⟩ := hl j y v' e1 e2 e3
        refine ⟨u', r', ?_⟩
        rcases q with ⟨k, e⟩ | ⟨k, c, e, z⟩
        · refine .inl ⟨k, ?_⟩
          have : y ≠ x := fun e => hj (nodup_ix hN e1 (e ▸ hi))
          simp [this, e]
        · exact .inr ⟨k, c, e, z.sameBut hs (cne y c e)⟩
    · obtain ⟨w', z⟩ := I.cell y c e
      exact ⟨w', z.sameBut hs (cne y c e)⟩
    · obtain ⟨e, n, ne, nf, d⟩ := I.pin p hp
      exact ⟨(hs.2 p.1 ne).trans e, n, ne, nf, d⟩
  · have hfn : X.fn x = true := by
      rcases hf with z | z
      · exact z
      · rw [z] at hk; cases hk
    obtain ⟨c, hc⟩ := I.ok.has x (.inl hk)
    obtain ⟨w', z⟩ := I.cell x c hc
    refine wpAny_storeName_cell I.ok.kind hk hc z (fun h' hc' hs => ?_)
    obtain ⟨oc, hoc, hocd⟩ := id z
    refine h { s with heap := h' } ⟨I.ok, I.os, I.bare, ⟨fun b o e n hb hx => ?_, fun b o e n hb hx => ?_, I.base.free, fun b o e hx => ?_, I.base.tups, I.base.frzs, I.base.tbls⟩, ⟨m, hn.sameBut hs (Ne.symm (cne x c hc)), fun j y v' e1 e2 e3 => ?_⟩, fun y c' e => ?_, I.free, I.freeC, fun p hp => ?_, tracked ⟨oc, hoc, I.freeC x c hc⟩ hs, by simpa using I.len⟩ ⟨c, hs, .inr hc⟩
    · exact (hs.2 b (Nat.ne_of_lt (Nat.lt_of_lt_of_le (Heap.lt_size e) (I.ok.cab x c hfn hc)))).trans (I.base.keep b o e n hb hx)
    · obtain ⟨sl, e1⟩ := I.base.slot b o e n hb hx
      exact ⟨sl, (hs.2 b (Nat.ne_of_lt (Nat.lt_of_lt_of_le (Heap.lt_size e) (I.ok.cab x c hfn hc)))).trans e1⟩
    · obtain ⟨o', e1⟩ := I.base.there b o e hx
      exact ⟨o', (hs.2 b (Nat.ne_of_lt (Nat.lt_of_lt_of_le (Heap.lt_size e) (I.ok.cab x c hfn hc)))).trans e1⟩
    · by_cases hj : j = i
      · subst hj
        rw [hi] at e1; cases e1
        rw [List.getElem?_set_self hiσ] at e2
        cases e2
        exact ⟨u, r, .inr ⟨.inl hk, c, hc, hc'⟩⟩
      · rw [List.getElem?_set_ne (Ne.symm hj)] at e2
        obtain ⟨u', r', q⟩ := hl j y v' e1 e2 e3
        refine ⟨u', r', ?_⟩
        rcases q with q | ⟨k, c', e, z'⟩
        · exact .inl q
        · refine .inr ⟨k, c', e, z'.sameBut hs ?_⟩
          rintro rfl
          exact hj (nodup_ix hN e1 (I.ok.inj _ _ _ e hc ▸ hi))
    · by_cases hcc : c' = c
      · subst hcc; exact ⟨_, hc'⟩
      · obtain ⟨w2, z2⟩ := I.cell y c' e
        exact ⟨w2, z2.sameBut hs hcc⟩
    · obtain ⟨e, n, ne, nf, d⟩ := I.pin p hp
      refine ⟨(hs.2 p.1 ?_).trans e, n, ne, nf, d⟩
      intro q
      rw [q, hoc] at e
      have q' : oc = p.2 := Option.some.inj e
      exact d w' (by rw [← q']; exact hocd)
theorem store_ok {M : Model} {A : Around} {E : Value → Shared → Prop} {i : Nat} {x : Str} {v : V} {u : Value} {Q : Unit → Shared → Prop} (I : Inv X pins σ H s) (hN : X.N.Nodup) (hi : X.N[i]? = some x) (hx : Loc X.env.scope x) (r : RelV v u)
    (h : ∀ s', Inv X pins (σ.set i (some v)) H s' → Q () s') (hf : X.fn x = true ∨ X.env.scope.names.lookup x = some .local := by first | exact .inl rfl | exact .inr rfl | assumption) : wpAny M A (storeName X.env x u) Q E s :=
  store_ok2 I hN hi hx r (fun s' I' _ => h s' I') hf
/-- behind a call or a block, the state as it is -/
theorem Inv.call' {s' : Shared} {ch : List Addr} (I : Inv X pins σ H s) (ho : s'.os = s.os) (u : Un (frs X.stack) ch H H' s.heap s'.heap) (hok : HOk X.prog X.w H' s'.heap) (hg : AllBare s'.gens)
    (hch : ∀ b ∈ ch, (b ∈ X.ex ∨ X.s₀.heap.objs.size ≤ b) ∧ b ≠ X.env.locals ∧ (∀ x c, X.env.cells.lookup x = some c → c ≠ b) ∧ ∀ p ∈ X.pn ++ pins, p.1 ≠ b) : Inv X pins σ H' s' := by
  obtain ⟨h', g', d', t', o'⟩ := s'
  have e : o' = s.os := ho
  subst e
  exact I.call (g' := g') (t' := t') (d' := d') u hok hg hch
end

/-! ### the judgements -/
/-- an exception: its class, its own dict's address (where it has one), the abstract heap behind it -/
abbrev XK := Value → Option Addr → Hp → Prop
abbrev St := List (Option V)
abbrev VK := V → Hp → Prop
/-- an expression's reading; a test's; an argument list's -/
abbrev TE := St → Hp → VK → Prop
abbrev TT := St → Hp → (Bool → Hp → Prop) → Prop
abbrev TA := St → Hp → (List V → Hp → Prop) → Prop
/-- what is wanted behind a statement -/
structure Ends where
  nx : St → Hp → Prop
  rt : VK
  bk : St → Hp → Prop := fun _ _ => False
  ct : St → Hp → Prop := fun _ _ => False
abbrev TS := Ends → St → Hp → Prop

def EP (X : Cx) (pins : List (Addr × Obj)) (σ : St) (Q : VK) (u : Value) (s' : Shared) : Prop := ∃ v H', Inv X pins σ H' s' ∧ RelV v u ∧ Q v H'
def TP (X : Cx) (pins : List (Addr × Obj)) (σ : St) (Q : Bool → Hp → Prop) (b : Bool) (s' : Shared) : Prop := ∃ H', Inv X pins σ H' s' ∧ Q b H'
def AP (X : Cx) (pins : List (Addr × Obj)) (σ : St) (Q : List V → Hp → Prop) (us : List Value) (s' : Shared) : Prop := ∃ vs H', Inv X pins σ H' s' ∧ Vals vs us ∧ Q vs H'
def SP (X : Cx) (pins : List (Addr × Obj)) (D : Ends) (f : Flow) (s' : Shared) : Prop :=
  match f with
  | .next => ∃ σ' H', Inv X pins σ' H' s' ∧ D.nx σ' H'
  | .brk => ∃ σ' H', Inv X pins σ' H' s' ∧ D.bk σ' H'
  | .cont => ∃ σ' H', Inv X pins σ' H' s' ∧ D.ct σ' H'
  | .ret u => ∃ v σ' H', Inv X pins σ' H' s' ∧ RelV v u ∧ D.rt v H'

def PE (X : Cx) (e : Expr) (t : TE) : Prop :=
  ∀ (pins : List (Addr × Obj)) (s : Shared) (σ : St) (H : Hp) (Q : VK), Inv X pins σ H s → t σ H Q → wpAny (model X.prog X.w) X.A (eval e X.env) (EP X pins σ Q) X.xe s
def PT (X : Cx) (e : Expr) (t : TT) : Prop :=
  ∀ (pins : List (Addr × Obj)) (s : Shared) (σ : St) (H : Hp) (Q : Bool → Hp → Prop), Inv X pins σ H s → t σ H Q → wpAny (model X.prog X.w) X.A (isTrue e X.env (eval e X.env)) (TP X pins σ Q) X.xe s
/-- a test whatever its 'whole' is (and, or) -/
def PW (X : Cx) (e : Expr) (t : TT) : Prop :=
  ∀ (whole : Sem Value) (pins : List (Addr × Obj)) (s : Shared) (σ : St) (H : Hp) (Q : Bool → Hp → Prop), Inv X pins σ H s → t σ H Q → wpAny (model X.prog X.w) X.A (isTrue e X.env whole) (TP X pins σ Q) X.xe s
theorem PW.pt {X : Cx} {e : Expr} {t : TT} (h : PW X e t) : PT X e t := h _
/-- an argument list (no star), from the left -/
def PA (X : Cx) (es : List Expr) (t : TA) : Prop :=
  ∀ (pos : Pos) (pins : List (Addr × Obj)) (s : Shared) (σ : St) (H : Hp) (Q : List V → Hp → Prop), Inv X pins σ H s → t σ H Q → wpAny (model X.prog X.w) X.A (spliced (backTo pos (starEach es X.env))) (AP X pins σ Q) X.xe s
def PS (X : Cx) (st : Stmt) (t : TS) : Prop :=
  ∀ (pins : List (Addr × Obj)) (s : Shared) (σ : St) (H : Hp) (D : Ends), Inv X pins σ H s → t D σ H → wpAny (model X.prog X.w) X.A (exec st X.env) (SP X pins D) X.xe s
def PSs (X : Cx) (st : List Stmt) (t : TS) : Prop :=
  ∀ (pins : List (Addr × Obj)) (s : Shared) (σ : St) (H : Hp) (D : Ends), Inv X pins σ H s → t D σ H → wpAny (model X.prog X.w) X.A (execs st X.env) (SP X pins D) X.xe s
/-- weaken the end -/
theorem thn {α : Type} {t : Sem α} {Q Q' : α → Shared → Prop} {M : Model} {A : Around} {E : Value → Shared → Prop} {s : Shared} (h : wpAny M A t Q E s) (hQ : ∀ a s, Q a s → Q' a s) : wpAny M A t Q' E s := wpAny_mono h hQ fun _ _ x => x
end L2

namespace L2
open PySem PySem.Spec PyProof.Rows
section
variable {X : Cx}

/-! ### names and constants -/
def tVar (i : Nat) : TE := fun σ H Q => ∃ v, σ[i]? = some (some v) ∧ Q v H
def tC (v : V) : TE := fun _ H Q => Q v H
theorem pe_var {i : Nat} {x : Str} {pos : Pos} (hN : X.N[i]? = some x) (hv : Vis X.env.scope x) (hd : (x == ("__debug__" : Str)) = false := by decide) (hcd : (x == ("__classdict__" : Str)) = false := by decide) : PE X (.Name x pos) (tVar i) := by
  intro pins s σ H Q I h
  obtain ⟨v, e, h⟩ := h
  obtain ⟨m, hn, hl⟩ := I.loc
  obtain ⟨u, r, l⟩ := hl i x v hN e hv
  have fin : EP X pins σ Q u s := ⟨v, H, I, r, h⟩
  rcases l with ⟨hk, hm⟩ | ⟨hk, c, hc, hcell⟩
  · exact wpAny_Name (wpAny_loadName_local I.ok.kind hk hn hm fin) hd
  · rcases hk with hk | hk
    · exact wpAny_Name (wpAny_loadName_cell I.ok.kind hk hc hcell fin) hd
    · exact wpAny_Name (wpAny_loadName_free I.ok.kind hk hc hcell fin hcd) hd
theorem pe_int {i j pos} : PE X (.Constant (.int i) j pos) (tC (.int i)) := fun _ _ _ H _ I h => wpAny_Constant_int ⟨.int i, H, I.tok _, ⟨_, rfl⟩, h⟩
theorem pe_bl {b j pos} : PE X (.Constant (.bool b) j pos) (tC (.bl b)) := fun _ _ _ H _ I h => Constant_bool ⟨.bl b, H, I, rfl, h⟩
theorem pe_non {j pos} : PE X (.Constant .none j pos) (tC .non) := fun _ _ _ H _ I h => Constant_none ⟨.non, H, I, rfl, h⟩
theorem pe_str {x j pos} : PE X (.Constant (.str x) j pos) (tC (.str x)) := fun _ _ _ H _ I h => Calls.Constant_str ⟨.str x, H, I.tok _, ⟨_, rfl⟩, h⟩

/-- a global name of the def -/
def Gl (X : Cx) (x : Str) : Prop := X.env.kindOf x = some .globalImplicit
theorem ld_glob {E : Value → Shared → Prop} {pins : List (Addr × Obj)} {s : Shared} {σ : St} {H : Hp} {x : Str} {u : Value} {pos : Pos} {Q : Value → Shared → Prop} (I : Inv X pins σ H s) (hg : Gl X x) (hm : X.mg x = some u) (h : Q u s)
    (hd : (x == ("__debug__" : Str)) = false := by decide) : wpAny (model X.prog X.w) X.A (eval (.Name x pos) X.env) Q E s :=
  Calls.Name_function_global I.ok.kind hg (Calls.loadGlobal_global (by rw [I.ok.glob]; exact I.mod.glob.keeps I.bk) hm h) hd
theorem ld_blt {E : Value → Shared → Prop} {pins : List (Addr × Obj)} {s : Shared} {σ : St} {H : Hp} {x : Str} {u : Value} {pos : Pos} {Q : Value → Shared → Prop} (I : Inv X pins σ H s) (hg : Gl X x) (hm : X.mg x = none) (hv : bootBuiltins x = some u) (h : Q u s)
    (hn : x ≠ "__name__" := by decide) (hd : (x == ("__debug__" : Str)) = false := by decide) : wpAny (model X.prog X.w) X.A (eval (.Name x pos) X.env) Q E s := by
  obtain ⟨mb, h1, h2⟩ := I.mod.blt
  exact Calls.Name_function_global I.ok.kind hg (Calls.loadGlobal_builtin (by rw [I.ok.glob]; exact I.mod.glob.keeps I.bk) hm (by rw [I.ok.blt]; exact h1.keeps I.bk) ((h2 x hn).trans hv) h) hd
/-- a module's constant, a class, a function, as a value -/
theorem pe_glob {x : Str} {v : V} {u : Value} {pos : Pos} (hg : Gl X x) (hm : X.mg x = some u) (r : RelV v u) (hd : (x == ("__debug__" : Str)) = false := by decide) : PE X (.Name x pos) (tC v) :=
  fun _ _ _ H _ I h => ld_glob I hg hm ⟨v, H, I, r, h⟩ hd
theorem pe_bltn {x : Str} {v : V} {u : Value} {pos : Pos} (hg : Gl X x) (hm : X.mg x = none) (hv : bootBuiltins x = some u) (r : RelV v u) (hn : x ≠ "__name__" := by decide) (hd : (x == ("__debug__" : Str)) = false := by decide) : PE X (.Name x pos) (tC v) :=
  fun _ _ _ H _ I h => ld_blt I hg hm hv ⟨v, H, I, r, h⟩ hn hd

/-! ### arithmetic -/
variable {a b : Expr} {ta tb : TE} {pos : Pos}
/-! ### comparisons -/
def PC (X : Cx) (op : CmpOp) (a b : Expr) (t : TE) : Prop :=
  ∀ (pins : List (Addr × Obj)) (s : Shared) (σ : St) (H : Hp) (Q : VK), Inv X pins σ H s → t σ H Q →
    wpAny (model X.prog X.w) X.A (eval a X.env) (fun v s₁ => wpAny (model X.prog X.w) X.A (eval b X.env) (fun u s₂ => wpAny (model X.prog X.w) X.A (compareOp op v u) (EP X pins σ Q) X.xe s₂) X.xe s₁) X.xe s
theorem nobehind (b : Expr) {op : CmpOp} (h : op ≠ .In) (h2 : op ≠ .NotIn) : behindInMarks op b = false := by
  have e1 : (op == CmpOp.In) = false := by cases op <;> first | rfl | exact absurd rfl h
  have e2 : (op == CmpOp.NotIn) = false := by cases op <;> first | rfl | exact absurd rfl h2
  cases b <;> simp [behindInMarks, e1, e2]
/-- is None -/
def tIsN (ta : TE) : TE := fun σ H Q => ta σ H fun x H1 => Q (.bl (decide (x = .non))) H1
def tNotN (ta : TE) : TE := fun σ H Q => ta σ H fun x H1 => Q (.bl (!decide (x = .non))) H1
theorem RelV.none_iff {x : V} {v : Value} (r : RelV x v) : (v == Value.none) = decide (x = .non) := by
  cases x with
  | non => cases r; rfl
  | bl _ => cases r; rfl
  | int _ => obtain ⟨t, rfl⟩ := r; rfl
  | str _ => obtain ⟨t, rfl⟩ := r; rfl
  | byt _ => obtain ⟨t, rfl⟩ := r; rfl
  | flt _ => obtain ⟨t, rfl⟩ := r; rfl
  | ref _ => cases r; rfl
  | ty _ => cases r; rfl
theorem pc_isN {j pos'} (ha : PE X a ta) : PC X .Is a (.Constant .none j pos') (tIsN ta) := by
  intro pins s σ H Q I h
  refine thn (ha pins s σ H _ I h) fun v s1 ⟨x, H1, I1, r1, q1⟩ => ?_
  exact Constant_none (is_none_gen ⟨.bl _, H1, I1, by rw [r1.none_iff]; rfl, q1⟩)
theorem pc_notN {j pos'} (ha : PE X a ta) : PC X .IsNot a (.Constant .none j pos') (tNotN ta) := by
  intro pins s σ H Q I h
  refine thn (ha pins s σ H _ I h) fun v s1 ⟨x, H1, I1, r1, q1⟩ => ?_
  exact Constant_none (isnot_none_gen ⟨.bl _, H1, I1, by rw [r1.none_iff]; rfl, q1⟩)
/-- a comparison as a value, as a test -/
def tB (t : TE) : TT := fun σ H Q => t σ H fun x H1 => ∃ c, x = .bl c ∧ Q c H1
theorem pe_cmp {op : CmpOp} {t : TE} (h : PC X op a b t) (h1 : behindInMarks op b = false := by first | exact nobehind _ (by decide) (by decide) | rfl) : PE X (.Compare a [op] [b] pos) t := fun pins s σ H Q I hw => wpAny_Compare1 (h pins s σ H Q I hw) h1
theorem pt_cmp {op : CmpOp} {t : TE} (h : PC X op a b t) (h1 : behindInMarks op b = false := by first | exact nobehind _ (by decide) (by decide) | rfl) : PT X (.Compare a [op] [b] pos) (tB t) := by
  intro pins s σ H Q I hw
  refine wpAny_isTrue_Compare1 (thn (h pins s σ H _ I hw) fun v s1 h1 => thn h1 fun u s2 h2 => thn h2 fun c s3 ⟨x, H1, I1, r1, q1⟩ => ?_) h1
  obtain ⟨d, rfl, q⟩ := q1
  cases r1
  exact wpAny_truthy_bool ⟨H1, I1, q⟩
/-- an expression whose value is a bool, as a test -/
theorem pt_val {e : Expr} {t : TE} (h : PE X e t) (he : ∀ whole, isTrue e X.env whole = (do let v ← whole; standAt e.pos; holding [v] (truthy v)) := by intro _; rfl) : PT X e (tB t) := by
  intro pins s σ H Q I hw
  refine isTrue_plain (thn (h pins s σ H _ I hw) fun v s1 ⟨x, H1, I1, r1, q1⟩ => ?_) (he _)
  obtain ⟨d, rfl, q⟩ := q1
  cases r1
  exact wpAny_truthy_bool ⟨H1, I1, q⟩

/-! ### and, or, not -/
variable {tA tB' : TT} {rest : List Expr}
def tAnd (t u : TT) : TT := fun σ H Q => t σ H fun c H1 => if c = true then u σ H1 Q else Q false H1
def tOr (t u : TT) : TT := fun σ H Q => t σ H fun c H1 => if c = true then Q true H1 else u σ H1 Q
def tNot (t : TT) : TT := fun σ H Q => t σ H fun c H1 => Q (!c) H1
theorem pw_and1 (ha : PT X a tA) : PW X (.BoolOp .And [a] pos) tA := by
  intro wh pins s σ H Q I h
  refine isTrue_and (thn (ha pins s σ H Q I h) fun c s1 e => ?_)
  cases c with
  | true => exact isTrue_and_nil e
  | false => exact e
theorem pw_or1 (ha : PT X a tA) : PW X (.BoolOp .Or [a] pos) tA := by
  intro wh pins s σ H Q I h
  refine isTrue_or (thn (ha pins s σ H Q I h) fun c s1 e => ?_)
  cases c with
  | false => exact isTrue_or_nil e
  | true => exact e
theorem pw_and (ha : PT X a tA) (hb : PW X (.BoolOp .And (b :: rest) pos) tB') : PW X (.BoolOp .And (a :: b :: rest) pos) (tAnd tA tB') := by
  intro wh pins s σ H Q I h
  refine isTrue_and (thn (ha pins s σ H _ I h) fun c s1 ⟨H1, I1, q1⟩ => ?_)
  cases c with
  | true => exact hb wh pins s1 σ H1 Q I1 q1
  | false => exact ⟨H1, I1, q1⟩
theorem pw_or (ha : PT X a tA) (hb : PW X (.BoolOp .Or (b :: rest) pos) tB') : PW X (.BoolOp .Or (a :: b :: rest) pos) (tOr tA tB') := by
  intro wh pins s σ H Q I h
  refine isTrue_or (thn (ha pins s σ H _ I h) fun c s1 ⟨H1, I1, q1⟩ => ?_)
  cases c with
  | true => exact ⟨H1, I1, q1⟩
  | false => exact hb wh pins s1 σ H1 Q I1 q1
theorem pt_not (ha : PT X a tA) : PT X (.UnaryOp .Not a pos) (tNot tA) := by
  intro pins s σ H Q I h
  exact isTrue_not (ha pins s σ H (fun c H1 => Q (!c) H1) I h)
/-- .. as values (bools) -/
def tAndV (ta tb : TE) : TE := fun σ H Q => ta σ H fun x H1 => ∃ c, x = .bl c ∧ if c = true then tb σ H1 Q else Q (.bl false) H1
def tNotV (ta : TE) : TE := fun σ H Q => ta σ H fun x H1 => ∃ c, x = .bl c ∧ Q (.bl (!c)) H1
theorem pe_one {op} {t : TE} (h : PE X a t) : PE X (.BoolOp op [a] pos) t := fun pins s σ H Q I hw => BoolOp_one (h pins s σ H Q I hw)
theorem pe_and (ha : PE X a ta) (hb : PE X (.BoolOp .And (b :: rest) pos) tb) : PE X (.BoolOp .And (a :: b :: rest) pos) (tAndV ta tb) := by
  intro pins s σ H Q I h
  refine BoolOp_and (thn (ha pins s σ H _ I h) fun v s1 ⟨x, H1, I1, r1, q1⟩ => ?_)
  obtain ⟨c, rfl, q1⟩ := q1
  cases r1
  refine wpAny_truthy_bool ?_
  cases c with
  | true => exact hb pins s1 σ H1 Q I1 q1
  | false => exact ⟨.bl false, H1, I1, rfl, q1⟩
theorem pe_not (ha : PE X a ta) : PE X (.UnaryOp .Not a pos) (tNotV ta) := by
  intro pins s σ H Q I h
  refine UnaryOp_ (thn (ha pins s σ H _ I h) fun v s1 ⟨x, H1, I1, r1, q1⟩ => ?_)
  obtain ⟨c, rfl, q1⟩ := q1
  cases r1
  exact not_of (wpAny_truthy_bool ⟨.bl (!c), H1, I1, rfl, q1⟩)
/-- a if t else b -/
def tIf (t : TT) (ta tb : TE) : TE := fun σ H Q => t σ H fun c H1 => if c = true then ta σ H1 Q else tb σ H1 Q
theorem pe_ifExp {c : Expr} (hc : PT X c tA) (ha : PE X a ta) (hb : PE X b tb) : PE X (.IfExp c a b pos) (tIf tA ta tb) := by
  intro pins s σ H Q I h
  refine wpAny_IfExp (thn (hc pins s σ H _ I h) fun d s1 ⟨H1, I1, q1⟩ => ?_)
  cases d with
  | true => exact ha pins s1 σ H1 Q I1 q1
  | false => exact hb pins s1 σ H1 Q I1 q1
end
end L2

namespace L2
open PySem PySem.Spec PyProof.Rows

/-! ### a list, a tuple that is read: tracked, frozen, or an object of the module -/
def SqL (K : PySem.W.Frag) (H : Hp) (a : Addr) (xs : List V) : Prop :=
  Rd H a (.lst xs) ∨
    ∃ (o : Obj) (its : Array Value) (n : Nat), K.lookup a = some o ∧ o.cls = .type "list" ∧ o.dict = none ∧ o.data = .seq its n ∧ its.size ≤ sizeLine ∧ Vals xs its.toList
def SqT (K : PySem.W.Frag) (H : Hp) (a : Addr) (xs : List V) : Prop :=
  Rd H a (.tup xs) ∨
    ∃ (o : Obj) (its : Array Value) (n : Nat), K.lookup a = some o ∧ o.cls = .type "tuple" ∧ o.data = .seq its n ∧ its.size ≤ sizeLine ∧ Vals xs its.toList
def absV : Value → Option V
  | .none => some .non
  | .bool b => some (.bl b)
  | .int i _ => some (.int i)
  | .str x _ => some (.str x)
  | .bytes b _ => some (.byt b)
  | .float b _ => some (.flt b)
  | .ref a => some (.ref a)
  | .type n => some (.ty n)
  | _ => none
theorem RelV.abs {x : V} {u : Value} (r : RelV x u) : absV u = some x := by
  cases x with
  | non => cases r; rfl
  | bl _ => cases r; rfl
  | int _ => obtain ⟨t, rfl⟩ := r; rfl
  | str _ => obtain ⟨t, rfl⟩ := r; rfl
  | byt _ => obtain ⟨t, rfl⟩ := r; rfl
  | flt _ => obtain ⟨t, rfl⟩ := r; rfl
  | ref _ => cases r; rfl
  | ty _ => cases r; rfl
theorem RelV.inj {x y : V} {u : Value} (r : RelV x u) (q : RelV y u) : x = y := Option.some.inj (r.abs.symm.trans q.abs)
theorem Vals.inj : ∀ {xs ys : List V} {us : List Value}, Vals xs us → Vals ys us → xs = ys
  | _, _, _, .nil, .nil => rfl
  | _, _, _, .cons r t, .cons r' t' => by rw [r.inj r', Vals.inj t t']
section
variable {X : Cx} {pins : List (Addr × Obj)} {σ : St} {H : Hp} {s : Shared} {a : Addr} {xs ys : List V}
theorem SqL.of {K : PySem.W.Frag} (h : H a = some (.lst xs)) : SqL K H a xs := .inl (.inl h)
theorem SqT.of {K : PySem.W.Frag} (h : H a = some (.tup xs)) : SqT K H a xs := .inl (.inl h)
theorem Inv.list (I : Inv X pins σ H s) (h : SqL X.K H a xs) : ∃ its : List Value, Vals xs its ∧ PlainL s.heap a its.toArray ∧ xs.length ≤ sizeLine := by
  rcases h with h | ⟨o, its, n, hk, hc, hd, hs, hz, r⟩
  · obtain ⟨z, its, n, r, e⟩ := h.ok I.hok
    exact ⟨its, r, ⟨_, n, e, rfl, rfl, rfl⟩, z⟩
  · refine ⟨its.toList, r, ⟨o, n, I.kIn a o hk, hc, hd, by simpa using hs⟩, ?_⟩
    have e := r.length
    simp only [Array.length_toList] at e
    omega
theorem Inv.tuple (I : Inv X pins σ H s) (h : SqT X.K H a xs) : ∃ its : List Value, Vals xs its ∧ IsTup s.heap a its.toArray ∧ xs.length ≤ sizeLine := by
  rcases h with h | ⟨o, its, n, hk, hc, hs, hz, r⟩
  · obtain ⟨z, its, r, p⟩ := h.ok I.hok
    exact ⟨its, r, p, z⟩
  · refine ⟨its.toList, r, ⟨o, I.kIn a o hk, hc, n, by simpa using hs⟩, ?_⟩
    have e := r.length
    simp only [Array.length_toList] at e
    omega
theorem Inv.list_inj (I : Inv X pins σ H s) (h : SqL X.K H a xs) (h' : SqL X.K H a ys) : xs = ys := by
  obtain ⟨its, r, ⟨o, n, e, _, _, d⟩, _⟩ := I.list h
  obtain ⟨its', r', ⟨o', n', e', _, _, d'⟩, _⟩ := I.list h'
  rw [e] at e'; cases e'
  rw [d] at d'
  injection d' with d1 _
  have : its = its' := by simpa using congrArg Array.toList d1
  subst this
  exact r.inj r'
end

/-! ### another wish about exceptions -/
abbrev Cx.wish (X : Cx) (E : Value → Shared → Prop) : Cx := { X with xe := E }
/-- no exception leaves -/
abbrev Cx.nox (X : Cx) : Cx := X.wish fun _ _ => False
theorem Cx.Ok.wish {X : Cx} (ok : X.Ok) (E : Value → Shared → Prop) : (X.wish E).Ok :=
  ⟨ok.mod, ok.kind, ok.glob, ok.blt, ok.above, ok.inj, ok.has, ok.cab, ok.hd, ok.frames, ok.stk, ok.exf, ok.bs, ok.bsz, ok.noex, ok.exfs, ok.funs, ok.frf⟩
theorem Cx.Ok.unwish {X : Cx} {E : Value → Shared → Prop} (ok : (X.wish E).Ok) : X.Ok :=
  ⟨ok.mod, ok.kind, ok.glob, ok.blt, ok.above, ok.inj, ok.has, ok.cab, ok.hd, ok.frames, ok.stk, ok.exf, ok.bs, ok.bsz, ok.noex, ok.exfs, ok.funs, ok.frf⟩
section
variable {X : Cx} {pins : List (Addr × Obj)} {σ : St} {H : Hp} {s : Shared} {E : Value → Shared → Prop}
theorem Inv.wish (I : Inv X pins σ H s) (E : Value → Shared → Prop) : Inv (X.wish E) pins σ H s := ⟨I.ok.wish E, I.os, I.bare, I.base, I.loc, I.cell, I.free, I.freeC, I.pin, I.hok, I.len⟩
theorem Inv.unwish (I : Inv (X.wish E) pins σ H s) : Inv X pins σ H s := ⟨I.ok.unwish, I.os, I.bare, I.base, I.loc, I.cell, I.free, I.freeC, I.pin, I.hok, I.len⟩
theorem SP.unwish {D : Ends} {f : Flow} {s' : Shared} (h : SP (X.wish E) pins D f s') : SP X pins D f s' := by
  cases f with
  | next => obtain ⟨σ', H', I, q⟩ := h; exact ⟨σ', H', I.unwish, q⟩
  | brk => obtain ⟨σ', H', I, q⟩ := h; exact ⟨σ', H', I.unwish, q⟩
  | cont => obtain ⟨σ', H', I, q⟩ := h; exact ⟨σ', H', I.unwish, q⟩
  | ret u => obtain ⟨v, σ', H', I, r, q⟩ := h; exact ⟨v, σ', H', I.unwish, r, q⟩
theorem PSs.nox {st : List Stmt} {t : TS} (h : PSs X.nox st t) : PSs X st t := fun pins s σ H D I hw =>
  wpAny_mono (h pins s σ H D (I.wish _) hw) (fun _ _ q => q.unwish) fun _ _ z => False.elim z
end

/-! ### blocks and small statements -/
section
variable {X : Cx} {st : Stmt} {rest : List Stmt} {t u : TS} {e : Expr} {te : TE} {pos : Pos}
def tNext : TS := fun D σ H => D.nx σ H
def tSeq (t u : TS) : TS := fun D σ H => t { D with nx := u D } σ H
theorem pss_nil : PSs X [] tNext := fun _ _ σ H _ I h => wpAny_execs_nil ⟨σ, H, I, h⟩
theorem pss_cons (h1 : PS X st t) (h2 : PSs X rest u) : PSs X (st :: rest) (tSeq t u) := by
  intro pins s σ H D I h
  refine wpAny_execs_cons (thn (h1 pins s σ H { D with nx := u D } I h) fun f s1 q => ?_)
  cases f with
  | next =>
    obtain ⟨σ', H', I', q⟩ := q
    exact h2 pins s1 σ' H' D I' q
  | ret v => exact q
  | brk => exact q
  | cont => exact q
theorem pss_one (h1 : PS X st t) : PSs X [st] t := by
  intro pins s σ H D I h
  refine wpAny_execs_cons (thn (h1 pins s σ H D I h) fun f s1 q => ?_)
  cases f with
  | next => exact wpAny_execs_nil q
  | ret v => exact q
  | brk => exact q
  | cont => exact q
/-- in a def's body nothing is shown -/
theorem Inv.quiet {pins : List (Addr × Obj)} {σ : St} {H : Hp} {s : Shared} (I : Inv X pins σ H s) : interactive X.env = false := by simp [interactive, I.ok.kind]
/-- an expression whose value is dropped -/
def tDrop (te : TE) : TS := fun D σ H => te σ H fun _ H1 => D.nx σ H1
theorem ps_expr (he : PE X e te) (hs : swapsWith e none pos.line X.env = pure false := by rfl) : PS X (.Expr e pos) (tDrop te) := by
  intro pins s σ H D I h
  exact wpAny_Expr_any (thn (he pins s σ H _ I h) fun v s1 ⟨x, H1, I1, r1, q1⟩ => ⟨σ, H1, I1, q1⟩) I.quiet hs
def tRet (te : TE) : TS := fun D σ H => te σ H D.rt
theorem ps_ret (he : PE X e te) : PS X (.Return (some e) pos) (tRet te) := by
  intro pins s σ H D I h
  exact wpAny_Return_some (thn (he pins s σ H _ I h) fun v s1 ⟨x, H1, I1, r1, q1⟩ => ⟨x, σ, H1, I1, r1, q1⟩)
def tIfS (c : TT) (t u : TS) : TS := fun D σ H => c σ H fun b H1 => if b = true then t D σ H1 else u D σ H1
theorem ps_if {c : Expr} {a b : List Stmt} {tc : TT} (hc : PT X c tc) (ha : PSs X a t) (hb : PSs X b u) : PS X (.If c a b pos) (tIfS tc t u) := by
  intro pins s σ H D I h
  refine wpAny_If (thn (hc pins s σ H _ I h) fun d s1 ⟨H1, I1, q1⟩ => ?_)
  cases d with
  | true => exact ha pins s1 σ H1 D I1 q1
  | false => exact hb pins s1 σ H1 D I1 q1
/-- code that the proof never comes to -/
def tNever : TS := fun _ _ _ => False
end

/-! ### targets -/
abbrev TG := V → St → Hp → (St → Hp → Prop) → Prop
abbrev TGs := List V → St → Hp → (St → Hp → Prop) → Prop
def PG (X : Cx) (target : Expr) (t : TG) : Prop :=
  ∀ (pins : List (Addr × Obj)) (s : Shared) (σ : St) (H : Hp) (v : V) (u : Value) (Q : St → Hp → Prop), Inv X pins σ H s → RelV v u → t v σ H Q →
    wpAny (model X.prog X.w) X.A (assign target X.env u) (fun _ s' => ∃ σ' H', Inv X pins σ' H' s' ∧ Q σ' H') X.xe s
/-- several targets, one after another -/
def PGs (X : Cx) (ts : List Expr) (t : TGs) : Prop :=
  ∀ (pins : List (Addr × Obj)) (s : Shared) (σ : St) (H : Hp) (vs : List V) (us : List Value) (Q : St → Hp → Prop), Inv X pins σ H s → Vals vs us → t vs σ H Q →
    wpAny (model X.prog X.w) X.A (assignInOrder ((assignEach ts X.env).map (·.2)) us) (fun _ s' => ∃ σ' H', Inv X pins σ' H' s' ∧ Q σ' H') X.xe s
/-- o[i] = v, by values -/
abbrev TSet := V → V → V → Hp → (Hp → Prop) → Prop
def PSet (X : Cx) (t : TSet) : Prop :=
  ∀ (pins : List (Addr × Obj)) (s : Shared) (σ : St) (H : Hp) (o i v : V) (ov iv u : Value) (Q : Hp → Prop), Inv X pins σ H s → RelV o ov → RelV i iv → RelV v u → t o i v H Q →
    wpAny (model X.prog X.w) X.A (setItem ov iv u) (fun _ s' => ∃ H', Inv X pins σ H' s' ∧ Q H') X.xe s
section
variable {X : Cx} {pos : Pos}
def gName (i : Nat) : TG := fun v σ H Q => Q (σ.set i (some v)) H
theorem pg_name {i : Nat} {x : Str} (hN : X.N.Nodup) (hi : X.N[i]? = some x) (hx : Loc X.env.scope x) (hf : X.fn x = true ∨ X.env.scope.names.lookup x = some .local := by first | exact .inl rfl | exact .inr rfl | assumption) : PG X (.Name x pos) (gName i) := by
  intro pins s σ H v u Q I r h
  exact wpAny_assign_Name (store_ok I hN hi hx r (fun s' I' => ⟨_, H, I', h⟩) hf)
def gNil : TGs := fun vs σ H Q => vs = [] ∧ Q σ H
def gCons (t : TG) (u : TGs) : TGs := fun vs σ H Q => ∃ v r, vs = v :: r ∧ t v σ H fun σ' H' => u r σ' H' Q
theorem pgs_nil : PGs X [] gNil := by
  intro pins s σ H vs us Q I r h
  obtain ⟨e, h⟩ := h
  subst e
  cases r
  exact assignInOrder_nil ⟨σ, H, I, h⟩
theorem pgs_cons {e : Expr} {es : List Expr} {t : TG} {u : TGs} (h1 : PG X e t) (h2 : PGs X es u)
    (hs : (assignEach (e :: es) X.env).map (·.2) = assign e X.env :: (assignEach es X.env).map (·.2) := by rfl) : PGs X (e :: es) (gCons t u) := by
  intro pins s σ H vs us Q I r h
  obtain ⟨v, vr, e1, h⟩ := h
  subst e1
  cases r with
  | cons r rr =>
    rw [hs]
    refine assignInOrder_cons (thn (h1 pins s σ H _ _ _ I r h) fun _ s1 ⟨σ1, H1, I1, q1⟩ => ?_)
    exact h2 pins s1 σ1 H1 _ _ Q I1 rr q1
/-- (a, b, ..) = a tuple of that length -/
def gTup (K : PySem.W.Frag) (n : Nat) (t : TGs) : TG := fun v σ H Q => ∃ a xs, v = .ref a ∧ SqT K H a xs ∧ xs.length = n ∧ t xs σ H Q
theorem pg_tup {es : List Expr} {k : Nat} {t : TGs} {n : Nat} (hc : X.calm = true) (h : PGs X es t)
    (hn : (assignEach es X.env).length = n := by rfl) (hst : (assignEach es X.env).findIdx? (·.1) = none := by rfl) : PG X (.Tuple es k pos) (gTup X.K n t) := by
  intro pins s σ H v u Q I r hw
  obtain ⟨a, xs, e1, hq, hl, hw⟩ := hw
  subst e1
  cases r
  obtain ⟨its, rv, ht, hz⟩ := I.tuple hq
  refine assign_Tuple_tuple (I.ok.hd hc) ht (by simp [hn, ← hl, rv.length]) hst fun h' hx => ?_
  have I1 : Inv X pins σ H { s with heap := h' } := I.kept (t' := s.toks) fun b o e => hx b o (Nat.ne_of_lt (Heap.lt_size e)) e
  exact h pins _ σ H xs _ Q I1 (by simpa using rv) hw
/-- o[i] = .. -/
def gSub (to ti : TE) (t : TSet) : TG := fun v σ H Q => to σ H fun o H1 => ti σ H1 fun i H2 => t o i v H2 fun H3 => Q σ H3
theorem pg_sub {o i : Expr} {to ti : TE} {t : TSet} (ho : PE X o to) (hi : PE X i ti) (hs : PSet X t)
    (ha : ∀ v, assign (.Subscript o i pos) X.env v = (do
      let ov ← holding [v] (eval o X.env)
      let iv ← holding [v, ov] (eval i X.env)
      standAt pos
      holding [v, ov, iv] (setItem ov iv v)
      release [v, ov, iv] []) := by intro _; rfl) : PG X (.Subscript o i pos) (gSub to ti t) := by
  intro pins s σ H v u Q I r h
  rw [ha]
  refine wpAny_bind (wpAny_holding (thn (ho pins s σ H _ I h) fun ov s1 ⟨x, H1, I1, r1, q1⟩ => ?_))
  refine wpAny_bind (wpAny_holding (thn (hi pins s1 σ H1 _ I1 q1) fun iv s2 ⟨y, H2, I2, r2, q2⟩ => ?_))
  refine wpAny_bind (wpAny_standAt (wpAny_bind (wpAny_holding (thn (hs pins s2 σ H2 x y v ov iv u _ I2 r1 r2 r q2) fun _ s3 ⟨H3, I3, q3⟩ => ?_))))
  exact wpAny_release ⟨σ, H3, I3, q3⟩
/-- target = value -/
def tAsg (te : TE) (g : TG) : TS := fun D σ H => te σ H fun x H1 => g x σ H1 D.nx
theorem ps_asg {tg e : Expr} {te : TE} {g : TG} (he : PE X e te) (hg : PG X tg g) (hs : swapsWithSole [tg] e pos.line X.env = pure false := by rfl) (hw : swappedStores [tg] e X.env = pure none := by rfl)
    (h1 : (assignEach [tg] X.env).map (·.2) = [assign tg X.env] := by rfl) : PS X (.Assign [tg] e pos) (tAsg te g) := by
  intro pins s σ H D I h
  refine wpAny_Assign_stores (thn (he pins s σ H _ I h) fun v s1 ⟨x, H1, I1, r1, q1⟩ => ?_) hs hw
  rw [h1]
  exact thn (hg pins s1 σ H1 x v _ I1 r1 q1) fun _ s2 q => q
/-- name = value -/
theorem ps_set {i : Nat} {x : Str} {e : Expr} {te : TE} {pos' : Pos} (hN : X.N.Nodup) (hi : X.N[i]? = some x) (hx : Loc X.env.scope x) (he : PE X e te) (hs : swapsWith e (some (.Name x pos')) pos.line X.env = pure false := by rfl) (hf : X.fn x = true ∨ X.env.scope.names.lookup x = some .local := by first | exact .inl rfl | exact .inr rfl | assumption) :
    PS X (.Assign [.Name x pos'] e pos) (tAsg te (gName i)) := by
  intro pins s σ H D I h
  refine wpAny_Assign_Name (thn (he pins s σ H _ I h) fun v s1 ⟨y, H1, I1, r1, q1⟩ => ?_) hs
  exact store_ok I1 hN hi hx r1 (fun s2 I2 => ⟨_, H1, I2, q1⟩) hf
end

/-! ### while -/
section
variable {X : Cx} {pos : Pos}
/-- the invariant W with its measure -/
def tWhile (c : TT) (tb : TS) : TS := fun D σ H => ∃ W : Nat → St → Hp → Prop, (∃ m, W m σ H) ∧ ∀ m σ H, W m σ H →
  c σ H fun b H1 => if b = true then ∃ N : St → Hp → Prop, (∀ σ' H', N σ' H' → ∃ m', m' < m ∧ W m' σ' H') ∧ tb { D with nx := N, ct := N, bk := D.nx } σ H1 else D.nx σ H1
theorem ps_while {c : Expr} {body : List Stmt} {tc : TT} {tb : TS} (hp : PassesOwn (model X.prog X.w) X.A X.env X.xe) (hc : PT X c tc) (hb : PSs X body tb) : PS X (.While c body [] pos) (tWhile tc tb) := by
  intro pins s σ H D I h
  obtain ⟨W, ⟨m0, w0⟩, turn⟩ := h
  refine wpAny_While (codeAny_whileLoop (fun n s' => ∃ σ' H', Inv X pins σ' H' s' ∧ W n σ' H') ?_ m0 ⟨σ, H, I, w0⟩)
  rintro n s1 ⟨σ1, H1, I1, w1⟩
  refine wpAny_passesOwn hp (thn (hc pins s1 σ1 H1 _ I1 (turn n σ1 H1 w1)) fun b s2 ⟨H2, I2, q2⟩ => ?_)
  cases b with
  | true =>
    obtain ⟨N, hN, q2⟩ := q2
    rw [if_pos rfl]
    refine wpAny_passesOwn hp (thn (hb pins s2 σ1 H2 _ I2 q2) fun f s3 q3 => ?_)
    cases f with
    | next =>
      obtain ⟨σ3, H3, I3, n3⟩ := q3
      obtain ⟨m', hm, w3⟩ := hN σ3 H3 n3
      exact ⟨m', hm, σ3, H3, I3, w3⟩
    | cont =>
      obtain ⟨σ3, H3, I3, n3⟩ := q3
      obtain ⟨m', hm, w3⟩ := hN σ3 H3 n3
      exact ⟨m', hm, σ3, H3, I3, w3⟩
    | brk => exact q3
    | ret v => exact q3
  | false =>
    rw [if_neg Bool.false_ne_true]
    exact wpAny_execs_nil ⟨σ1, H2, I2, q2⟩
end

/-! ### what a loop or a comprehension walks -/
/-- at turn i: it yields x (the heap may grow), or it stops -/
structure It where
  go : Nat → Hp → Prop
  yld : Nat → Hp → V → Hp → Prop
  stop : Nat → Hp → Prop
/-- the iterator's own objects may turn: they are not the frame's, not pinned, younger than the entry (or a comprehension's own) -/
def FpOk (X : Cx) (pins : List (Addr × Obj)) (H : Hp) (b : Addr) : Prop :=
  H b = none ∧ b ≠ X.env.locals ∧ b ∉ X.fs ∧ (b ∈ X.ex ∨ X.s₀.heap.objs.size ≤ b) ∧ (∀ x c, X.env.cells.lookup x = some c → c ≠ b) ∧ ∀ p ∈ X.pn ++ pins, p.1 ≠ b
theorem Inv.fpOk {X : Cx} {pins : List (Addr × Obj)} {σ : St} {H H' : Hp} {s : Shared} {b : Addr} (I : Inv X pins σ H s) (hb : s.heap.objs.size ≤ b) (hn : H' b = none) : FpOk X pins H' b := by
  refine ⟨hn, Nat.ne_of_gt (Nat.lt_of_lt_of_le I.lt hb), I.nofs hb, .inr (Nat.le_trans I.sz hb), fun x c e z => ?_, fun p hp z => ?_⟩
  · obtain ⟨v, q⟩ := I.cell x c e
    exact absurd (Nat.lt_of_lt_of_le q.lt (by rw [z]; exact hb)) (Nat.lt_irrefl _)
  · exact absurd (Nat.lt_of_lt_of_le (Heap.lt_size (I.pin p hp).1) (by rw [z]; exact hb)) (Nat.lt_irrefl _)
structure Turn (P : Program) (w : World) (K : PySem.W.Frag) (tg : Expr) (J : It) (fp : List Addr) (it : Addr) (tn : Nat → Heap → Prop) : Prop where
  mem : it ∈ fp
  obj : ∀ i h, tn i h → ∀ b ∈ fp, ∃ o, h.get? b = some o ∧ ∀ v, o.data ≠ .cell v
  keep : ∀ i h h', tn i h → (∀ b ∈ fp, ∀ o, h.get? b = some o → h'.get? b = some o) → tn i h'
  item : ∀ (X : Cx), X.prog = P → X.w = w → X.K = K → X.calm = true → ∀ (i : Nat) (pins : List (Addr × Obj)) (s : Shared) (σ : St) (H : Hp) (E : Value → Shared → Prop), Inv X pins σ H s → (∀ b ∈ fp, FpOk X pins H b) → tn i s.heap → J.go i H →
    wpAny (model P w) X.A (pyNext (.ref it)) (fun r s1 => ∃ u, r = some u ∧
      wpAny (model P w) X.A (letOwnedTupleGo tg (.ref it) u) (fun _ s2 => ∃ x H', Inv X pins σ H' s2 ∧ RelV x u ∧ J.yld i H x H' ∧ tn (i + 1) s2.heap ∧ ∀ b ∈ fp, H' b = none) E s1) E s
  done : ∀ (X : Cx), X.prog = P → X.w = w → X.K = K → X.calm = true → ∀ (i : Nat) (pins : List (Addr × Obj)) (s : Shared) (σ : St) (H : Hp) (E : Value → Shared → Prop), Inv X pins σ H s → (∀ b ∈ fp, FpOk X pins H b) → tn i s.heap → J.stop i H →
    wpAny (model P w) X.A (pyNext (.ref it)) (fun r s1 => r = none ∧ Inv X pins σ H s1) E s
  self : ∀ (A : Around) (i : Nat) (s : Shared) (Q : Value → Shared → Prop) (E : Value → Shared → Prop), tn i s.heap → Q (.ref it) s → wpAny (model P w) A (pyIter (.ref it)) Q E s
abbrev TI := St → Hp → (It → Hp → Prop) → Prop
/-- an iterator has come -/
def PIE (X : Cx) (pins : List (Addr × Obj)) (σ : St) (tg : Expr) (R : It → Hp → Prop) (itv : Value) (s2 : Shared) : Prop :=
  ∃ (it : Addr) (fp : List Addr) (tn : Nat → Heap → Prop) (J : It) (H' : Hp), itv = .ref it ∧ Inv X pins σ H' s2 ∧ Turn X.prog X.w X.K tg J fp it tn ∧ tn 0 s2.heap ∧ (∀ b ∈ fp, FpOk X pins H' b) ∧ R J H'
def PI (X : Cx) (tg iter : Expr) (wi : TI) : Prop :=
  ∀ (pins : List (Addr × Obj)) (s : Shared) (σ : St) (H : Hp) (R : It → Hp → Prop), Inv X pins σ H s → wi σ H R →
    wpAny (model X.prog X.w) X.A (eval iter X.env) (fun v s1 => wpAny (model X.prog X.w) X.A (pyIter v) (PIE X pins σ tg R) X.xe s1) X.xe s

/-- the step ahead of the store is nothing for an iterator that keeps no tuple -/
theorem go_of {M : Model} {A : Around} {E : Value → Shared → Prop} {s : Shared} {tg : Expr} {it : Addr} {u : Value} {o : Obj} {n : String} {vs : Array Value} {Q : Unit → Shared → Prop} (ho : s.heap.get? it = some o) (hc : o.cls = .type n) (hd : o.data = .fields vs)
    (hn : ["enumerate", "zip", "dict_itemiterator", "dict_reverseitemiterator", "odict_iterator", "itertools.zip_longest", "itertools.pairwise"].contains n = false) (hQ : Q () s) : wpAny M A (letOwnedTupleGo tg (.ref it) u) Q E s := by
  unfold letOwnedTupleGo
  cases tg <;> first
    | exact wpAny_pure hQ
    | (cases u <;> first
        | exact wpAny_pure hQ
        | (refine wpAny_bind (wpAny_load ho ?_)
           rw [hc, hd]
           show wpAny M A (if (["enumerate", "zip", "dict_itemiterator", "dict_reverseitemiterator", "odict_iterator", "itertools.zip_longest", "itertools.pairwise"].contains n && vs[0]? == some (rawInt _)) = true then _ else _) Q E s
           rw [if_neg (by intro h; rw [hn, Bool.false_and] at h; cases h)]
           exact wpAny_pure hQ))

/-- the list at a, as it stands at each turn (a loop may append to it) -/
def Itl (K : PySem.W.Frag) (a : Addr) : It :=
  ⟨fun i H => ∃ xs x, SqL K H a xs ∧ xs[i]? = some x, fun i H x H' => H' = H ∧ ∀ xs, SqL K H a xs → xs[i]? = some x, fun i H => ∃ xs, SqL K H a xs ∧ xs.length ≤ i⟩
/-- lo, lo + 1, .. (n of them) -/
def Itr (lo : Int) (n : Nat) : It := ⟨fun i _ => i < n, fun i H x H' => H' = H ∧ x = .int (lo + i), fun i _ => n ≤ i⟩
theorem turn_list {P : Program} {w : World} {K : PySem.W.Frag} {tg : Expr} (a it : Addr) : Turn P w K tg (Itl K a) [it] it (fun i h => h.IsListIter it a i) where
  mem := by simp
  obj := fun i h st b hb => by
    have e : b = it := by simpa using hb
    subst e
    obtain ⟨o, e, c, d⟩ := st
    exact ⟨o, e, fun v z => by rw [d] at z; cases z⟩
  keep := fun i h h' st k => st.at fun o e => k it (by simp) o e
  item := by
    intro X hP hw hK hc i pins s σ H E I hf st hg
    subst hP hw hK
    obtain ⟨xs, x, hq, hx⟩ := hg
    obtain ⟨its, rv, p, hz⟩ := I.list hq
    obtain ⟨u, hu, ru⟩ := rv.get hx
    obtain ⟨f0, f1, f2, f3, f4, f5⟩ := hf it (by simp)
    refine wpAny_pyNext_list_item st p.isList (x := u) (by simpa using hu) fun h' st' sb => ?_
    have I1 : Inv X pins σ H { s with heap := h' } := I.turned (t' := s.toks) (fun b o hb e => (sb.2 b hb).trans e) f0 f1 f3 f4 f5
    obtain ⟨o, e, c, d⟩ := id st'
    exact ⟨u, rfl, go_of (s := { s with heap := h' }) e c d (by decide) ⟨x, H, I1, ru, ⟨rfl, fun ys hy => by rw [I.list_inj hy hq]; exact hx⟩, st', fun b hb => (hf b hb).1⟩⟩
  done := by
    intro X hP hw hK hc i pins s σ H E I hf st hg
    subst hP hw hK
    obtain ⟨xs, hq, hx⟩ := hg
    obtain ⟨its, rv, p, hz⟩ := I.list hq
    obtain ⟨f0, f1, f2, f3, f4, f5⟩ := hf it (by simp)
    have hl := rv.length
    exact wpAny_pyNext_list_end (I.ok.hd hc) st p.isList (by simp; omega) fun h' eb => ⟨rfl, I.turned (t' := s.toks) (fun b o hb e => eb b o hb e) f0 f1 f3 f4 f5⟩
  self := fun _ _ _ _ _ st h => wpAny_pyIter_listiter st h
theorem turn_range {P : Program} {w : World} {K : PySem.W.Frag} {tg : Expr} (it : Addr) (lo : Int) (n : Nat) : Turn P w K tg (Itr lo n) [it] it (fun i h => IsRangeIter h it (lo + (i : Nat) * 1) ((n : Int) - (i : Nat)) 1) where
  mem := by simp
  obj := fun i h st b hb => by
    have e : b = it := by simpa using hb
    subst e
    exact ⟨_, st, fun v z => by
      have z' : Data.fields _ = Data.cell v := z
      cases z'⟩
  keep := fun i h h' st k => k it (by simp) _ st
  item := by
    intro X hP hw hK hc i pins s σ H E I hf st hg
    subst hP hw hK
    obtain ⟨f0, f1, f2, f3, f4, f5⟩ := hf it (by simp)
    have W := Walks.range (prog := X.prog) (w := X.w) (I.ok.hd hc) it lo 1 n
    refine W.item i s _ _ hg st fun v h' tk hv st' kk => ?_
    obtain ⟨t, rfl⟩ := hv
    have I1 : Inv X pins σ H { s with heap := h', toks := tk } := I.turned (fun b o hb e => kk b o (by simpa using hb) e) f0 f1 f3 f4 f5
    refine ⟨_, rfl, go_of (s := { s with heap := h', toks := tk }) (n := "range_iterator") st' rfl rfl (by decide) ⟨.int (lo + i), H, I1, ⟨t, ?_⟩, ⟨rfl, rfl⟩, st', fun b hb => (hf b hb).1⟩⟩
    rw [Int.mul_one]
  done := by
    intro X hP hw hK hc i pins s σ H E I hf st hg
    subst hP hw hK
    obtain ⟨f0, f1, f2, f3, f4, f5⟩ := hf it (by simp)
    exact wpAny_pyNext_range_end (I.ok.hd hc) st (by have : n ≤ i := hg; omega) fun h' eb => ⟨rfl, I.turned (t' := s.toks) (fun b o hb e => eb b o hb e) f0 f1 f3 f4 f5⟩
  self := fun _ _ _ _ _ st h => wpAny_pyIter_rangeiter st h
end L2

namespace L2
open PySem PySem.Spec PyProof.Rows
section
variable {X : Cx} {tg : Expr}
def iList (K : PySem.W.Frag) (tl : TE) : TI := fun σ H R => tl σ H fun x H1 => ∃ a, x = .ref a ∧ (∃ xs, SqL K H1 a xs) ∧ R (Itl K a) H1
theorem pi_list {l : Expr} {tl : TE} (hl : PE X l tl) : PI X tg l (iList X.K tl) := by
  intro pins s σ H R I h
  refine thn (hl pins s σ H _ I h) fun v s1 ⟨x, H1, I1, r1, q1⟩ => ?_
  obtain ⟨a, e, ⟨xs, hq⟩, q⟩ := q1
  subst e
  cases r1
  obtain ⟨its, rv, p, hz⟩ := I1.list hq
  refine wpAny_pyIter_list p.isList ?_
  refine ⟨s1.heap.objs.size, [s1.heap.objs.size], _, _, H1, rfl, I1.kept (t' := s1.toks) fun b o e => Heap.get?_push_of_some _ e, turn_list a _, ⟨_, Heap.get?_push_size _ rfl, rfl, rfl⟩, fun b hb => ?_, q⟩
  have e : b = s1.heap.objs.size := by simpa using hb
  subst e
  exact I1.fpOk (Nat.le_refl _) (I1.hok.fresh (Nat.le_refl _))
/-- a range object just made, walked -/
theorem range_it {pins : List (Addr × Obj)} {σ : St} {H : Hp} {s : Shared} {R : It → Hp → Prop} {E : Value → Shared → Prop} {lo hi : Int} {t u v : Tok} {tk : Nat} (I : Inv X pins σ H s) (h1 : -(2 ^ 62) ≤ lo) (h2 : lo < 2 ^ 62) (h3 : -(2 ^ 62) ≤ hi) (h4 : hi < 2 ^ 62)
    (q : R (Itr lo (hi - lo).toNat) H) : wpAny (model X.prog X.w) X.A (pyIter (.ref s.heap.objs.size)) (PIE X pins σ tg R) E { s with heap := s.heap.push { cls := .type "range", data := .fields #[.int lo t, .int hi u, .int 1 v] }, toks := tk } := by
  refine wpAny_pyIter_range (IsRange.new ..) (small_one h1 h2 h3 h4) ?_
  have I1 : Inv X pins σ H { s with heap := s.heap.push { cls := .type "range", data := .fields #[.int lo t, .int hi u, .int 1 v] }, toks := tk } := I.kept fun b o e => Heap.get?_push_of_some _ e
  refine ⟨(s.heap.push { cls := .type "range", data := .fields #[.int lo t, .int hi u, .int 1 v] }).objs.size, [(s.heap.push { cls := .type "range", data := .fields #[.int lo t, .int hi u, .int 1 v] }).objs.size], _, _, H, rfl,
    I1.kept (t' := tk) fun b o e => Heap.get?_push_of_some _ e, turn_range _ lo (hi - lo).toNat, ?_, fun b hb => ?_, q⟩
  · have e1 : lo + ((0 : Nat) : Int) * 1 = lo := by simp
    have e2 : (((hi - lo).toNat : Nat) : Int) - ((0 : Nat) : Int) = Builtin.Range.rangeSize lo hi 1 := by rw [rangeSize_one]; split <;> omega
    show IsRangeIter _ _ (lo + ((0 : Nat) : Int) * 1) ((((hi - lo).toNat : Nat) : Int) - ((0 : Nat) : Int)) 1
    rw [e1, e2]
    exact Heap.get?_push_size _ rfl
  · have e : b = (s.heap.push { cls := .type "range", data := .fields #[.int lo t, .int hi u, .int 1 v] }).objs.size := by simpa using hb
    subst e
    exact I1.fpOk (Nat.le_refl _) (I1.hok.fresh (Nat.le_refl _))
def iRng1 (ta : TA) : TI := fun σ H R => ta σ H fun vs H1 => ∃ j : Int, vs = [.int j] ∧ -(2 ^ 62) ≤ j ∧ j < 2 ^ 62 ∧ R (Itr 0 j.toNat) H1
def iRng2 (ta : TA) : TI := fun σ H R => ta σ H fun vs H1 => ∃ i j : Int, vs = [.int i, .int j] ∧ (-(2 ^ 62) ≤ i ∧ i < 2 ^ 62 ∧ -(2 ^ 62) ≤ j ∧ j < 2 ^ 62) ∧ R (Itr i (j - i).toNat) H1
theorem pi_range1 {a : Expr} {ta : TA} {p pos : Pos} (hg : Gl X "range") (hm : X.mg "range" = none) (ha : PA X [a] ta) (hs : starEach [a] X.env = [(false, eval a X.env)] := by rfl) : PI X tg (.Call (.Name "range" p) [a] [] pos) (iRng1 ta) := by
  intro pins s σ H R I h
  refine Call_ (ld_blt I hg hm boot_range (PyProof.Rows.callWith_type1 (thn (ha pos pins s σ H _ I h) fun us s1 ⟨vs, H1, I1, r1, q1⟩ => ?_) hs rfl))
  obtain ⟨j, e, q1, q2, q⟩ := q1
  subst e
  cases r1 with
  | cons r rr =>
    cases rr
    obtain ⟨t, rfl⟩ := r
    exact call_range_1 (range_it I1 (by omega) (by omega) q1 q2 (by simpa using q))
theorem pi_range2 {a b : Expr} {ta : TA} {p pos : Pos} (hg : Gl X "range") (hm : X.mg "range" = none) (ha : PA X [a, b] ta) (hs : starEach [a, b] X.env = [(false, eval a X.env), (false, eval b X.env)] := by rfl) (hs2 : starEach [b] X.env = [(false, eval b X.env)] := by rfl) :
    PI X tg (.Call (.Name "range" p) [a, b] [] pos) (iRng2 ta) := by
  intro pins s σ H R I h
  refine Call_ (ld_blt I hg hm boot_range (PyProof.Rows.callWith_type1 (thn (ha pos pins s σ H _ I h) fun us s1 ⟨vs, H1, I1, r1, q1⟩ => ?_) (by rw [hs, hs2]) (by rw [hs2]; rfl)))
  obtain ⟨i, j, e, ⟨q1, q2, q3, q4⟩, q⟩ := q1
  subst e
  cases r1 with
  | cons r rr =>
    cases rr with
    | cons r' rr =>
      cases rr
      obtain ⟨t, rfl⟩ := r
      obtain ⟨t', rfl⟩ := r'
      exact call_range_2 (range_it I1 q1 q2 q3 q4 q)

/-! ### for -/
/-- W: the invariant by the turn and a measure; N: what the body is to reach -/
def tFor (wi : TI) (g : TG) (tb : TS) : TS := fun D σ H => wi σ H fun J H1 => ∃ W : Nat → Nat → St → Hp → Prop, (∃ m, W 0 m σ H1) ∧ ∀ i m σ H, W i m σ H →
  (J.stop i H ∧ D.nx σ H) ∨ (J.go i H ∧ ∃ N : St → Hp → Prop, (∀ σ' H', N σ' H' → ∃ m', m' < m ∧ W (i + 1) m' σ' H') ∧ ∀ x H', J.yld i H x H' → g x σ H' fun σ2 H2 => tb { D with nx := N, ct := N, bk := D.nx } σ2 H2)
/-- the records at fp as they stand -/
def pinsAt (fp : List Addr) (h : Heap) : List (Addr × Obj) := fp.filterMap fun b => (h.get? b).map fun o => (b, o)
theorem mem_pinsAt {fp : List Addr} {h : Heap} {b : Addr} {o : Obj} (hb : b ∈ fp) (e : h.get? b = some o) : (b, o) ∈ pinsAt fp h := List.mem_filterMap.mpr ⟨b, hb, by rw [e]; rfl⟩
theorem of_pinsAt {fp : List Addr} {h : Heap} {p : Addr × Obj} (hp : p ∈ pinsAt fp h) : p.1 ∈ fp ∧ h.get? p.1 = some p.2 := by
  obtain ⟨b, hb, e⟩ := List.mem_filterMap.mp hp
  cases q : h.get? b with
  | none => rw [q] at e; cases e
  | some o =>
    rw [q] at e
    have e' : (b, o) = p := Option.some.inj e
    subst e'
    exact ⟨hb, q⟩
theorem Inv.pinned {pins : List (Addr × Obj)} {σ : St} {H : Hp} {s : Shared} {fp : List Addr} (I : Inv X pins σ H s) (hf : ∀ b ∈ fp, FpOk X pins H b) (ho : ∀ b ∈ fp, ∃ o, s.heap.get? b = some o ∧ ∀ v, o.data ≠ .cell v) : Inv X (pins ++ pinsAt fp s.heap) σ H s :=
  I.pins_of fun p hp => (List.mem_append.mp hp).elim (fun z => I.pin p (List.mem_append_right _ z)) fun z => by
    obtain ⟨hb, e⟩ := of_pinsAt z
    obtain ⟨f0, f1, f2, _⟩ := hf p.1 hb
    obtain ⟨o, e', d⟩ := ho p.1 hb
    rw [e] at e'; cases e'
    exact ⟨e, f0, f1, f2, d⟩
theorem Inv.unpinned {pins pl : List (Addr × Obj)} {σ : St} {H : Hp} {s : Shared} (I : Inv X (pins ++ pl) σ H s) : Inv X pins σ H s := I.pins_of fun p hp => I.pin p (List.mem_append_right _ (List.mem_append_left _ hp))
theorem ps_for {iter : Expr} {body : List Stmt} {wi : TI} {g : TG} {tb : TS} {pos : Pos} (hp : PassesOwn (model X.prog X.w) X.A X.env X.xe) (hc : X.calm = true) (hi : PI X tg iter wi) (hg : PG X tg g) (hb : PSs X body tb)
    (hs : ∀ x, foldedSetIterable iter X.env x = pure x := by intro _; rfl) : PS X (.For tg iter body [] pos) (tFor wi g tb) := by
  intro pins s σ H D I h
  refine wpAny_For (thn (hi pins s σ H _ I h) fun v s1 h1 => thn h1 fun itv s2 h2 => ?_) hs
  obtain ⟨it, fp, tn, J, H2, e, I2, T, st2, f2, W, ⟨m0, w0⟩, turn⟩ := h2
  subst e
  -- what stays true of the iterator's objects through the loop
  have stat : ∀ {H' : Hp}, (∀ b ∈ fp, H' b = none) → ∀ b ∈ fp, FpOk X pins H' b := fun hn b hb => ⟨hn b hb, (f2 b hb).2⟩
  refine codeAny_forLoop_any (fun n s' => ∃ i σ' H', Inv X pins σ' H' s' ∧ tn i s'.heap ∧ (∀ b ∈ fp, H' b = none) ∧ W i n σ' H') ?_ m0 ⟨0, σ, H2, I2, st2, fun b hb => (f2 b hb).1, w0⟩
  rintro n s3 ⟨i, σ3, H3, I3, st3, fr3, w3⟩
  rcases turn i n σ3 H3 w3 with ⟨stop, qn⟩ | ⟨go, N, hN, step⟩
  · refine wpAny_passesOwn hp (thn (T.done X rfl rfl rfl hc i pins s3 σ3 H3 X.xe I3 (stat fr3) st3 stop) fun r s4 ⟨hr, I4⟩ => ?_)
    subst hr
    exact wpAny_execs_nil ⟨σ3, H3, I4, qn⟩
  · refine wpAny_passesOwn hp (thn (T.item X rfl rfl rfl hc i pins s3 σ3 H3 X.xe I3 (stat fr3) st3 go) fun r s4 ⟨u, hr, h4⟩ => ?_)
    subst hr
    refine wpAny_passesOwn hp (thn h4 fun _ s5 ⟨x, H5, I5, r5, y5, st5, fr5⟩ => ?_)
    have I5' := I5.pinned (stat fr5) (T.obj _ _ st5)
    refine wpAny_passesOwn hp (thn (hg _ s5 σ3 H5 x u _ I5' r5 (step x H5 y5)) fun _ s6 ⟨σ6, H6, I6, q6⟩ => ?_)
    refine wpAny_passesOwn hp (thn (hb _ s6 σ6 H6 _ I6 q6) fun f s7 q7 => ?_)
    have again : ∀ {σ7 : St} {H7 : Hp}, Inv X (pins ++ pinsAt fp s5.heap) σ7 H7 s7 → N σ7 H7 → ∃ m, m < n ∧ ∃ i σ' H', Inv X pins σ' H' s7 ∧ tn i s7.heap ∧ (∀ b ∈ fp, H' b = none) ∧ W i m σ' H' := fun {σ7 H7} I7 n7 => by
      obtain ⟨m', hm, w7⟩ := hN σ7 H7 n7
      refine ⟨m', hm, i + 1, σ7, H7, I7.unpinned, T.keep _ _ _ st5 fun b hb o e => (I7.pin (b, o) (List.mem_append_right _ (List.mem_append_right _ (mem_pinsAt hb e)))).1, fun b hb => ?_, w7⟩
      obtain ⟨o, e, d⟩ := T.obj _ _ st5 b hb
      exact (I7.pin (b, o) (List.mem_append_right _ (List.mem_append_right _ (mem_pinsAt hb e)))).2.1
    cases f with
    | next => obtain ⟨σ7, H7, I7, n7⟩ := q7; exact again I7 n7
    | cont => obtain ⟨σ7, H7, I7, n7⟩ := q7; exact again I7 n7
    | brk => obtain ⟨σ7, H7, I7, q7⟩ := q7; exact ⟨σ7, H7, I7.unpinned, q7⟩
    | ret v => obtain ⟨x7, σ7, H7, I7, r7, q7⟩ := q7; exact ⟨x7, σ7, H7, I7.unpinned, r7, q7⟩
end

/-! ### the forms one uses -/
theorem for_range {lo : Int} {n : Nat} {g : TG} {tb : TS} {D : Ends} {σ : St} {H : Hp} (Pv : Nat → St → Hp → Prop) (h0 : Pv 0 σ H)
    (hs : ∀ i σ H, i < n → Pv i σ H → g (.int (lo + i)) σ H fun σ2 H2 => tb { D with nx := Pv (i + 1), ct := Pv (i + 1), bk := D.nx } σ2 H2) (hd : ∀ σ H, Pv n σ H → D.nx σ H) :
    ∃ W : Nat → Nat → St → Hp → Prop, (∃ m, W 0 m σ H) ∧ ∀ i m σ H, W i m σ H →
      ((Itr lo n).stop i H ∧ D.nx σ H) ∨ ((Itr lo n).go i H ∧ ∃ N : St → Hp → Prop, (∀ σ' H', N σ' H' → ∃ m', m' < m ∧ W (i + 1) m' σ' H') ∧ ∀ x H', (Itr lo n).yld i H x H' → g x σ H' fun σ2 H2 => tb { D with nx := N, ct := N, bk := D.nx } σ2 H2) := by
  refine ⟨fun i m σ H => m = n - i ∧ i ≤ n ∧ Pv i σ H, ⟨n, by simp, Nat.zero_le _, h0⟩, ?_⟩
  rintro i m σ H ⟨rfl, hi, p⟩
  by_cases hlt : i < n
  · refine .inr ⟨hlt, Pv (i + 1), fun σ' H' p' => ⟨n - (i + 1), by omega, rfl, hlt, p'⟩, fun x H' y => ?_⟩
    obtain ⟨e, y⟩ := y
    subst e y
    exact hs i σ _ hlt p
  · have e : i = n := by omega
    subst e
    exact .inl ⟨Nat.le_refl _, hd σ H p⟩
end L2

namespace L2
open PySem PySem.Spec PyProof.Rows

abbrev R2 := V → V → Hp → VK → Prop
/-- a two-place operation on values: f is binaryOp op, inplaceOp op or compareOp op -/
def OpR (X : Cx) (f : Value → Value → Sem Value) (r : R2) : Prop :=
  ∀ (pins : List (Addr × Obj)) (s : Shared) (σ : St) (H : Hp) (x y : V) (v u : Value) (Q : VK), Inv X pins σ H s → RelV x v → RelV y u → r x y H Q →
    wpAny (model X.prog X.w) X.A (f v u) (EP X pins σ Q) X.xe s
/-- a call of a value that is known (a builtin, a type) with values -/
def CallR (X : Cx) (f : Value) (r : List V → Hp → VK → Prop) : Prop :=
  ∀ (pins : List (Addr × Obj)) (s : Shared) (σ : St) (H : Hp) (xs : List V) (us : List Value) (Q : VK), Inv X pins σ H s → Vals xs us → r xs H Q →
    wpAny (model X.prog X.w) X.A (call f us) (EP X pins σ Q) X.xe s
def tOp (r : R2) (ta tb : TE) : TE := fun σ H Q => ta σ H fun x H1 => tb σ H1 fun y H2 => r x y H2 Q
/-- ints in, under C, and a value out -/
def rI (C : Int → Int → Prop) (g : Int → Int → V) : R2 := fun x y H Q => ∃ i j, x = .int i ∧ y = .int j ∧ C i j ∧ Q (g i j) H
def rI0 (g : Int → Int → V) : R2 := fun x y H Q => ∃ i j, x = .int i ∧ y = .int j ∧ Q (g i j) H
section
variable {X : Cx} {a b c : Expr} {ta tb tc : TE} {pos : Pos}

theorem binT (ha : PE X a ta) (hb : PE X b tb) {pins : List (Addr × Obj)} {s : Shared} {σ : St} {H : Hp} {R : V → V → Hp → Prop} (I : Inv X pins σ H s)
    (h : ta σ H fun x H1 => tb σ H1 fun y H2 => R x y H2) {Q : Value → Shared → Prop} {f : Value → Value → Sem Value}
    (hf : ∀ v u s2 x y H2, Inv X pins σ H2 s2 → RelV x v → RelV y u → R x y H2 → wpAny (model X.prog X.w) X.A (f v u) Q X.xe s2) :
    wpAny (model X.prog X.w) X.A (eval a X.env) (fun v s₁ => wpAny (model X.prog X.w) X.A (eval b X.env) (fun u s₂ => wpAny (model X.prog X.w) X.A (f v u) Q X.xe s₂) X.xe s₁) X.xe s := by
  refine thn (ha pins s σ H _ I h) fun v s1 ⟨x, H1, I1, r1, q1⟩ => ?_
  refine thn (hb pins s1 σ H1 _ I1 q1) fun u s2 ⟨y, H2, I2, r2, q2⟩ => ?_
  exact hf v u s2 x y H2 I2 r1 r2 q2

theorem pe_op {op : Operator} {r : R2} (ho : OpR X (binaryOp op) r) (ha : PE X a ta) (hb : PE X b tb) : PE X (.BinOp a op b pos) (tOp r ta tb) := by
  intro pins s σ H Q I h
  exact wpAny_BinOp (binT ha hb I h fun v u s2 x y H2 I2 rx ry q => ho pins s2 σ H2 x y v u Q I2 rx ry q)
/-! ### ints -/
theorem opI {f : Value → Value → Sem Value} {C : Int → Int → Prop} {g : Int → Int → Int}
    (rule : ∀ (i j : Int) (t u : Tok) (s : Shared) (Q : Value → Shared → Prop) (E : Value → Shared → Prop), C i j → Q (.int (g i j) s.toks) { s with toks := s.toks + 1 } → wpAny (model X.prog X.w) X.A (f (.int i t) (.int j u)) Q E s) :
    OpR X f (rI C fun i j => .int (g i j)) := by
  intro pins s σ H x y v u Q I rx ry h
  obtain ⟨i, j, rfl, rfl, hc, q⟩ := h
  obtain ⟨t, rfl⟩ := rx
  obtain ⟨t', rfl⟩ := ry
  exact rule i j t t' s _ _ hc ⟨.int (g i j), H, I.tok _, ⟨_, rfl⟩, q⟩
theorem opI0 {f : Value → Value → Sem Value} {g : Int → Int → Int}
    (rule : ∀ (i j : Int) (t u : Tok) (s : Shared) (Q : Value → Shared → Prop) (E : Value → Shared → Prop), Q (.int (g i j) s.toks) { s with toks := s.toks + 1 } → wpAny (model X.prog X.w) X.A (f (.int i t) (.int j u)) Q E s) :
    OpR X f (rI0 fun i j => .int (g i j)) := by
  intro pins s σ H x y v u Q I rx ry h
  obtain ⟨i, j, rfl, rfl, q⟩ := h
  obtain ⟨t, rfl⟩ := rx
  obtain ⟨t', rfl⟩ := ry
  exact rule i j t t' s _ _ ⟨.int (g i j), H, I.tok _, ⟨_, rfl⟩, q⟩
theorem opB0 {f : Value → Value → Sem Value} {g : Int → Int → Bool}
    (rule : ∀ (i j : Int) (t u : Tok) (s : Shared) (Q : Value → Shared → Prop) (E : Value → Shared → Prop), Q (.bool (g i j)) s → wpAny (model X.prog X.w) X.A (f (.int i t) (.int j u)) Q E s) :
    OpR X f (rI0 fun i j => .bl (g i j)) := by
  intro pins s σ H x y v u Q I rx ry h
  obtain ⟨i, j, rfl, rfl, q⟩ := h
  obtain ⟨t, rfl⟩ := rx
  obtain ⟨t', rfl⟩ := ry
  exact rule i j t t' s _ _ ⟨.bl (g i j), H, I, rfl, q⟩

def CDiv (i j : Int) : Prop := 0 < j ∧ j < 1073741824
def CPow (i j : Int) : Prop := 0 ≤ j ∧ j ≤ 1000000 ∧ i.natAbs < 2 ^ 64
def CMul (i j : Int) : Prop := (-(2 ^ 64) < i ∧ i < 2 ^ 64) ∨ (-(2 ^ 64) < j ∧ j < 2 ^ 64)
theorem CMul.ok {i j : Int} (h : CMul i j) : IntMulOk i j := by
  rcases h with ⟨h1, h2⟩ | ⟨h1, h2⟩
  · exact .of_left (intBits_le_64 h1 h2)
  · exact .of_right (intBits_le_64 h1 h2)
theorem op_add : OpR X (binaryOp .Add) (rI0 fun i j => .int (i + j)) := opI0 fun _ _ _ _ _ _ _ q => add_int q
theorem op_sub : OpR X (binaryOp .Sub) (rI0 fun i j => .int (i - j)) := opI0 fun _ _ _ _ _ _ _ q => sub_int q
theorem op_mul : OpR X (binaryOp .Mult) (rI CMul fun i j => .int (i * j)) := opI fun _ _ _ _ _ _ _ hc q => mul_int q hc.ok
/-- // by a positive divisor -/
theorem op_fdiv : OpR X (binaryOp .FloorDiv) (rI CDiv fun i j => .int (i / j)) := opI fun i j _ _ _ _ _ hc q => by
  have h1 : (0 : Int) < j := hc.1
  have h2 : j < 1073741824 := hc.2
  exact floordiv_int (by omega) (by rw [Int.fdiv_eq_ediv_of_nonneg i (by omega)]; exact q) (.inl (PyProof.noPylong_small (by omega)))
/-- % by a positive divisor of any size -/
theorem op_mod : OpR X (binaryOp .Mod) (rI (fun _ j => 0 < j) fun i j => .int (i % j)) := opI fun i j _ _ _ _ _ hc q => by
  have h1 : (0 : Int) < j := hc
  exact mod_int' (by omega) (by rw [Int.fmod_eq_emod_of_nonneg i (by omega)]; exact q)
theorem op_pow : OpR X (binaryOp .Pow) (rI CPow fun i j => .int (i ^ j.toNat)) := opI fun _ _ _ _ _ _ _ hc q => pow_int_small hc.1 hc.2.1 hc.2.2 q
/-! ### bools among ints: n += (a < b) -/
end

/-! ### comparisons -/
/-- the scalars that == tells apart as data does -/
def scal : V → V → Bool
  | .non, .non => true | .non, .int _ => true | .int _, .non => true | .non, .bl _ => true | .bl _, .non => true | .non, .str _ => true | .str _, .non => true
  | .int _, .int _ => true | .bl _, .bl _ => true | .str _, .str _ => true | .byt _, .byt _ => true
  | .int _, .str _ => true | .str _, .int _ => true | .bl _, .str _ => true | .str _, .bl _ => true
  | _, _ => false
def rEq : R2 := fun x y H Q => scal x y = true ∧ Q (.bl (decide (x = y))) H
def rNe : R2 := fun x y H Q => scal x y = true ∧ Q (.bl (!decide (x = y))) H

theorem dec_int {i j : Int} : decide (V.int i = V.int j) = (i == j) := by
  rw [Bool.eq_iff_iff]
  simp
theorem dec_bl {i j : Bool} : decide (V.bl i = V.bl j) = (i == j) := by
  rw [Bool.eq_iff_iff]
  simp
theorem dec_str {i j : Str} : decide (V.str i = V.str j) = (i == j) := by
  rw [Bool.eq_iff_iff]
  simp
theorem dec_byt {i j : Array UInt8} : decide (V.byt i = V.byt j) = (i.toList == j.toList) := by
  rw [Bool.eq_iff_iff]
  cases i
  cases j
  simp

section
variable {X : Cx} {a b c : Expr} {ta tb tc : TE} {pos : Pos}
theorem fin_bl {pins : List (Addr × Obj)} {σ : St} {H : Hp} {s : Shared} {Q : VK} {k k' : Bool} (I : Inv X pins σ H s) (q : Q (.bl k) H) (e : k = k') : EP X pins σ Q (.bool k') s := by
  subst e
  exact ⟨.bl k, H, I, rfl, q⟩
theorem op_eq : OpR X (compareOp .Eq) rEq := by
  intro pins s σ H x y v u Q I rx ry h
  obtain ⟨hs, q⟩ := h
  cases x with
  | non =>
    cases rx
    cases y with
    | non => cases ry; exact PySem.EqNone.eq_none_none (fin_bl I q (by simp))
    | bl j => cases ry; exact PySem.EqNone.eq_none_bool (fin_bl I q (by simp))
    | int j => obtain ⟨t', rfl⟩ := ry; exact PySem.EqNone.eq_none_int (fin_bl I q (by simp))
    | str j => obtain ⟨t', rfl⟩ := ry; exact PySem.EqNone.eq_none_str (fin_bl I q (by simp))
    | _ => exact absurd (show false = true from hs) Bool.false_ne_true
  | bl i =>
    cases rx
    cases y with
    | non => cases ry; exact PySem.EqNone.eq_bool_none (fin_bl I q (by simp))
    | bl j => cases ry; exact eq_bool (fin_bl I q dec_bl)
    | str j => obtain ⟨t', rfl⟩ := ry; exact PySem.EqMixed.eq_bool_str (fin_bl I q (by simp))
    | _ => exact absurd (show false = true from hs) Bool.false_ne_true
  | int i =>
    obtain ⟨t, rfl⟩ := rx
    cases y with
    | non => cases ry; exact PySem.EqNone.eq_int_none (fin_bl I q (by simp))
    | int j => obtain ⟨t', rfl⟩ := ry; exact eq_int (fin_bl I q dec_int)
    | str j => obtain ⟨t', rfl⟩ := ry; exact PySem.EqMixed.eq_int_str (fin_bl I q (by simp))
    | _ => exact absurd (show false = true from hs) Bool.false_ne_true
  | str i =>
    obtain ⟨t, rfl⟩ := rx
    cases y with
    | non => cases ry; exact PySem.EqNone.eq_str_none (fin_bl I q (by simp))
    | bl j => cases ry; exact PySem.EqMixed.eq_str_bool (fin_bl I q (by simp))
    | int j => obtain ⟨t', rfl⟩ := ry; exact PySem.EqMixed.eq_str_int (fin_bl I q (by simp))
    | str j => obtain ⟨t', rfl⟩ := ry; exact eq_str (fin_bl I q dec_str)
    | _ => exact absurd (show false = true from hs) Bool.false_ne_true
  | byt i =>
    obtain ⟨t, rfl⟩ := rx
    cases y with
    | byt j => obtain ⟨t', rfl⟩ := ry; exact PySem.W.eq_bytes (fin_bl I q dec_byt)
    | _ => exact absurd (show false = true from hs) Bool.false_ne_true
  | _ => cases y <;> exact absurd (show false = true from hs) Bool.false_ne_true
theorem op_ne : OpR X (compareOp .NotEq) rNe := by
  intro pins s σ H x y v u Q I rx ry h
  obtain ⟨hs, q⟩ := h
  cases x with
  | non =>
    cases rx
    cases y with
    | non => cases ry; exact PySem.EqNone.ne_none_none (fin_bl I q (by simp))
    | bl j => cases ry; exact PySem.EqNone.ne_none_bool (fin_bl I q (by simp))
    | int j => obtain ⟨t', rfl⟩ := ry; exact PySem.EqNone.ne_none_int (fin_bl I q (by simp))
    | str j => obtain ⟨t', rfl⟩ := ry; exact PySem.EqNone.ne_none_str (fin_bl I q (by simp))
    | _ => exact absurd (show false = true from hs) Bool.false_ne_true
  | bl i =>
    cases rx
    cases y with
    | non => cases ry; exact PySem.EqNone.ne_bool_none (fin_bl I q (by simp))
    | bl j => cases ry; exact ne_bool (fin_bl I q (congrArg not dec_bl))
    | str j => obtain ⟨t', rfl⟩ := ry; exact PySem.EqMixed.ne_bool_str (fin_bl I q (by simp))
    | _ => exact absurd (show false = true from hs) Bool.false_ne_true
  | int i =>
    obtain ⟨t, rfl⟩ := rx
    cases y with
    | non => cases ry; exact PySem.EqNone.ne_int_none (fin_bl I q (by simp))
    | int j => obtain ⟨t', rfl⟩ := ry; exact ne_int (fin_bl I q (congrArg not dec_int))
    | str j => obtain ⟨t', rfl⟩ := ry; exact PySem.EqMixed.ne_int_str (fin_bl I q (by simp))
    | _ => exact absurd (show false = true from hs) Bool.false_ne_true
  | str i =>
    obtain ⟨t, rfl⟩ := rx
    cases y with
    | non => cases ry; exact PySem.EqNone.ne_str_none (fin_bl I q (by simp))
    | bl j => cases ry; exact PySem.EqMixed.ne_str_bool (fin_bl I q (by simp))
    | int j => obtain ⟨t', rfl⟩ := ry; exact PySem.EqMixed.ne_str_int (fin_bl I q (by simp))
    | str j => obtain ⟨t', rfl⟩ := ry; exact ne_str (fin_bl I q (congrArg not dec_str))
    | _ => exact absurd (show false = true from hs) Bool.false_ne_true
  | byt i =>
    obtain ⟨t, rfl⟩ := rx
    cases y with
    | byt j => obtain ⟨t', rfl⟩ := ry; exact PySem.W.ne_bytes (fin_bl I q (congrArg not dec_byt))
    | _ => exact absurd (show false = true from hs) Bool.false_ne_true
  | _ => cases y <;> exact absurd (show false = true from hs) Bool.false_ne_true

theorem op_lt : OpR X (compareOp .Lt) (rI0 fun i j => .bl (decide (i < j))) := opB0 fun _ _ _ _ _ _ _ q => lt_int q
theorem op_ge : OpR X (compareOp .GtE) (rI0 fun i j => .bl (decide (j ≤ i))) := opB0 fun _ _ _ _ _ _ _ q => ge_int q
theorem nomark (b : Expr) {op : CmpOp} (h : op ≠ .In := by decide) (h2 : op ≠ .NotIn := by decide) : behindInMarks op b = false := by
  have e1 : (op == CmpOp.In) = false := by cases op <;> first | rfl | exact absurd rfl h
  have e2 : (op == CmpOp.NotIn) = false := by cases op <;> first | rfl | exact absurd rfl h2
  cases b <;> simp [behindInMarks, e1, e2]
/-- a comparison as a value; hm: nomark b, or (for in, not in) by with_unfolding_all rfl -/
theorem pe_cmpR {op : CmpOp} {r : R2} (ho : OpR X (compareOp op) r) (ha : PE X a ta) (hb : PE X b tb) (hm : behindInMarks op b = false) : PE X (.Compare a [op] [b] pos) (tOp r ta tb) := by
  intro pins s σ H Q I h
  exact wpAny_Compare1 (binT ha hb I h fun v u s2 x y H2 I2 rx ry q => ho pins s2 σ H2 x y v u Q I2 rx ry q) hm
/-- a reading of a value as a test -/
def tTest (t : TE) : TT := fun σ H Q => t σ H fun x H' => ∃ k, x = .bl k ∧ Q k H'
theorem pt_cmpR {op : CmpOp} {r : R2} (ho : OpR X (compareOp op) r) (ha : PE X a ta) (hb : PE X b tb) (hm : behindInMarks op b = false) : PT X (.Compare a [op] [b] pos) (tTest (tOp r ta tb)) := by
  intro pins s σ H Q I h
  refine wpAny_isTrue_Compare1 (thn (ha pins s σ H _ I h) fun v s1 ⟨x, H1, I1, r1, q1⟩ => thn (hb pins s1 σ H1 _ I1 q1) fun u s2 ⟨y, H2, I2, r2, q2⟩ =>
    thn (ho pins s2 σ H2 x y v u _ I2 r1 r2 q2) fun c s3 ⟨z, H3, I3, r3, k, e, q3⟩ => ?_) hm
  subst e
  cases r3
  exact wpAny_truthy_bool ⟨H3, I3, q3⟩
/-! ### truth -/
theorem line63 : (sizeLine : Nat) < 2 ^ 63 := by rw [sizeLine_eq]; decide
/-! ### strs and bytes -/
/-! ### scalar builtins, by CallR -/
theorem vals1 {x : V} {us : List Value} (r : Vals [x] us) : ∃ u, us = [u] ∧ RelV x u := by
  cases r with
  | cons r1 r2 => cases r2; exact ⟨_, rfl, r1⟩
theorem call_int1 : CallR X (.type "int") (fun xs H Q => (∃ i, xs = [.int i] ∧ Q (.int i) H) ∨ ∃ k, xs = [.bl k] ∧ Q (.int (if k then 1 else 0)) H) := by
  intro pins s σ H xs us Q I r h
  rcases h with ⟨i, rfl, q⟩ | ⟨k, rfl, q⟩
  · obtain ⟨u, rfl, t, rfl⟩ := vals1 r
    exact call_int_int ⟨.int i, H, I, ⟨_, rfl⟩, q⟩
  · obtain ⟨u, rfl, r1⟩ := vals1 r
    cases r1
    exact call_int_bool ⟨.int (if k then 1 else 0), H, I.tok _, ⟨_, rfl⟩, q⟩
end
end L2

namespace L2
open PySem PySem.Spec PyProof.Rows

/-! ### an instance, its attributes a map -/
structure ObjM (h : Heap) (x dx C : Addr) (mA : Str → Option Value) : Prop where
  obj : h.get? x = some (PySem.W.instObj C dx)
  ns : h.Ns1 dx mA
  ne : dx ≠ x

theorem lookIn_ns {h : Heap} {dx : Addr} {mA : Str → Option Value} (n : h.Ns1 dx mA) : ∃ od, h.get? dx = some od ∧ ∀ name, PySem.W.lookIn name od = some (mA name) := by
  obtain ⟨o, es, ep, ho, hd, hk, _, hm⟩ := n
  refine ⟨o, ho, fun name => ?_⟩
  have e := hm name
  unfold nsFind findBy at e
  rw [← Array.find?_toList] at e
  unfold PySem.W.lookIn
  rw [hd]
  dsimp only
  split
  · rename_i y q
    rw [q] at e
    exact congrArg some e
  · rename_i q
    rw [q] at e
    have a : es.toList.any (·.refKey) = false := by
      rw [List.any_eq_false]
      intro y hy
      obtain ⟨z, t, hkey⟩ := hk y (Array.mem_toList_iff.mp hy)
      simp [DictEntry.refKey, hkey]
    have a' : ¬ es.toList.any (·.refKey) = true := by rw [a]; exact Bool.false_ne_true
    rw [if_neg a']
    exact congrArg some e

theorem ObjM.look {h : Heap} {x dx C : Addr} {mA : Str → Option Value} (I : ObjM h x dx C mA) : ∃ od, PySem.W.InstAt h x (PySem.W.instObj C dx) C (some od) ∧ ∀ name, PySem.W.lookIn name od = some (mA name) :=
  let ⟨od, ho, hl⟩ := lookIn_ns I.ns
  ⟨od, ⟨I.obj, rfl, rfl, ho⟩, hl⟩

section
variable {prog : Program} {w : World} {A : Around} {E : Value → Shared → Prop} {s : Shared} {K : PySem.W.Frag} {x dx C f : Addr} {mA : Str → Option Value} {name : Str} {v : Value}

theorem get_map {expr : Bool} {Q : Value → Shared → Prop} (X : K.In s.heap) (I : ObjM s.heap x dx C mA) (hg : PySem.W.plainGet K C name = true) (hh : PySem.W.hasDictIn K C = true)
    (ha : PySem.W.findIn K (.ref C) name = some none) (hv : mA name = some v) (hv' : PySem.W.handedIn v = true) (h : Q v { s with toks := s.toks + 1 }) :
    wpAny (model prog w) A (getAttr (.ref x) name expr) Q E s := by
  obtain ⟨od, J, hl⟩ := I.look
  exact PySem.W.get_value X J (PySem.W.plainGet_of hg).1 (PySem.W.findObj_own hh ha rfl (by rw [hl, hv])) hv' h

theorem get_meth {pl : Sem Bool} {Q : Value × List Value → Shared → Prop} (X : K.In s.heap) (I : ObjM s.heap x dx C mA) (hg : PySem.W.plainGet K C name = true)
    (hf : PySem.W.findIn K (.ref C) name = some (some (.ref f))) (ht : PySem.W.isFn K (.ref f) = true) (hv : mA name = none) (h : Q (.ref f, [.ref x]) s) :
    wpAny (model prog w) A (getMethod (.ref x) name pl) Q E s := by
  obtain ⟨od, J, hl⟩ := I.look
  exact PySem.W.method_fn X J (PySem.W.plainGet_of hg).1 (PySem.W.plainGet_of hg).2 hf (beq_iff_eq.mp ht) (by show (PySem.W.lookIn name od).map (·.isSome) = some false; rw [hl, hv]; rfl) h

theorem set_map {ns : List Str} {Q : Unit → Shared → Prop} (X : K.In s.heap) (I : ObjM s.heap x dx C mA)
    (hs : PySem.W.findIn K (.ref C) "__setattr__" = some (some (.builtin "object.__setattr__"))) (hp : PySem.W.plainOver K C = true) (ht : PySem.W.takerIn K C name = some none) (hh : PySem.W.hasDictIn K C = true)
    (hw : PySem.Within mA ns) (hsz : ns.length ≤ sizeLine)
    (h : ∀ h', ObjM h' x dx C (fun y => if y = name then some v else mA y) → Heap.SameBut dx s.heap h' → Q () { s with heap := h', toks := s.toks + 2 }) :
    wpAny (model prog w) A (setAttr (.ref x) name v) Q E s := by
  obtain ⟨od, J, hl⟩ := I.look
  refine PySem.W.set_plain X J hs (PySem.W.osa_open (s := { s with toks := s.toks + 1 }) (r := none) X J hp ht fun b => ?_)
  obtain ⟨cd, hc, hd'⟩ := PySem.W.any_some hh
  have hx : s.heap.get? x = some ⟨.ref C, some dx, .plain, #[]⟩ := I.obj
  refine wpAny_bind (wpAny_pure (wpAny_bind (wpAny_bind (wpAny_loadPart hx (wpAny_bind (PySem.W.Looks.here (s := { s with toks := s.toks + 1 }) (PySem.W.looks_clsIn X hc) ?_))))))
  rw [hd']
  refine wpAny_pure (a := some dx) (wpAny_bind (wpAny_pure (wpAny_bind ?_)))
  refine wpAny_nsSet1 (s := { s with toks := s.toks + 1 }) I.ns fun h' hn2 hs2 => ?_
  obtain ⟨oD, esD, epD, hoD, hdD, hcD⟩ := hn2.count (PySem.Within.cons name v hw)
  refine wpAny_bind (wpAny_lookBehind hoD (by rw [hdD]; exact pastItsLine_dict (Nat.le_trans hcD (by rw [List.length_cons]; omega))) ?_)
  exact wpAny_pure (h _ ⟨(hs2.2 _ (Ne.symm I.ne)).trans I.obj, hn2, I.ne⟩ hs2)

/-- C(..): the dict at the heap's end, the instance behind it; then its __init__ -/
theorem make_map {R : Result → Shared → Prop} {vs : List Value} {kw : List (Str × Value)} (X : K.In s.heap) (hm : PySem.W.makesIn K C = true)
    (hi : PySem.W.findIn K (.ref C) "__init__" = some (some (.ref f))) (hf : PySem.W.typeIn K (.ref f) = some (.type "function"))
    (h : codeAny (model prog w) (A.under (.builtin "type.__call__" ⟨.ref C :: vs, kw⟩)) (.call (.ref f) ⟨.ref (s.heap.objs.size + 1) :: vs, kw⟩) (PySem.W.InitBack (s.heap.objs.size + 1) R)
      { s with heap := (s.heap.push PySem.W.emptyDict).push (PySem.W.instObj C s.heap.objs.size) }) :
    codeAny (model prog w) A (.call (.ref C) ⟨vs, kw⟩) R s := by
  obtain ⟨hh, g, d, t, os⟩ := s
  exact PySem.W.make_core (PySem.W.makes_of X hm) (PySem.W.looks_findIn X hi) (fun self => PySem.W.bind_fn X self hf) (.inl rfl) h
end

/-! ### the attributes as a list of pairs -/
def putF (f : Str) (v : V) : List (Str × V) → List (Str × V)
  | [] => [(f, v)]
  | (g, x) :: r => if g = f then (g, v) :: r else (g, x) :: putF f v r
theorem lookup_putF (f g : Str) (v : V) : ∀ fs : List (Str × V), (putF f v fs).lookup g = if g = f then some v else fs.lookup g
  | [] => by
    show List.lookup g [(f, v)] = _
    by_cases h : g = f
    · have hb : (g == f) = true := beq_iff_eq.mpr h
      simp only [List.lookup, hb, if_pos h]
    · have hb : (g == f) = false := beq_eq_false_iff_ne.mpr h
      simp only [List.lookup, hb, if_neg h]
  | (k, x) :: r => by
    have ih := lookup_putF f g v r
    rw [show putF f v ((k, x) :: r) = (if k = f then (k, v) :: r else (k, x) :: putF f v r) from rfl]
    by_cases hk : k = f
    · rw [if_pos hk]
      by_cases h : g = k
      · have hb : (g == k) = true := beq_iff_eq.mpr h
        simp only [List.lookup, hb, if_pos (h.trans hk)]
      · have hb : (g == k) = false := beq_eq_false_iff_ne.mpr h
        simp only [List.lookup, hb, if_neg (fun e : g = f => h (e.trans hk.symm))]
    · rw [if_neg hk]
      by_cases h : g = k
      · have hb : (g == k) = true := beq_iff_eq.mpr h
        simp only [List.lookup, hb, if_neg (fun e : g = f => hk (h.symm.trans e))]
      · have hb : (g == k) = false := beq_eq_false_iff_ne.mpr h
        simp only [List.lookup, hb]
        exact ih
theorem keys_putF (f : Str) (v : V) : ∀ fs : List (Str × V), f ∈ (putF f v fs).map (·.1) ∧ ∀ g, g ∈ fs.map (·.1) → g ∈ (putF f v fs).map (·.1)
  | [] => ⟨by simp [putF], fun g h => by simp at h⟩
  | (k, x) :: r => by
    obtain ⟨i1, i2⟩ := keys_putF f v r
    rw [show putF f v ((k, x) :: r) = (if k = f then (k, v) :: r else (k, x) :: putF f v r) from rfl]
    by_cases hk : k = f
    · rw [if_pos hk]
      subst hk
      exact ⟨by simp, fun g h => by simpa using h⟩
    · rw [if_neg hk]
      refine ⟨?_, fun g h => ?_⟩
      · rw [List.map_cons]
        exact List.mem_cons_of_mem _ i1
      · rw [List.map_cons] at h ⊢
        rcases List.mem_cons.mp h with e | e
        · exact List.mem_cons.mpr (.inl e)
        · exact List.mem_cons_of_mem _ (i2 g e)
theorem length_putF (f : Str) (v : V) : ∀ fs : List (Str × V), (putF f v fs).length ≤ fs.length + 1
  | [] => by simp [putF]
  | (k, x) :: r => by
    have ih := length_putF f v r
    rw [show putF f v ((k, x) :: r) = (if k = f then (k, v) :: r else (k, x) :: putF f v r) from rfl]
    by_cases hk : k = f
    · rw [if_pos hk, List.length_cons, List.length_cons]; omega
    · rw [if_neg hk, List.length_cons, List.length_cons]; omega

theorem RelO.some_of {v : V} {o : Option Value} (r : RelO (some v) o) : ∃ u, o = some u ∧ RelV v u := by
  cases o with
  | none => exact (show False from r).elim
  | some u => exact ⟨u, rfl, r⟩
theorem RelO.none_of {o : Option Value} (r : RelO none o) : o = none := by
  cases o with
  | none => rfl
  | some u => exact (show False from r).elim
theorem handed_of {v : V} {u : Value} (r : RelV v u) : PySem.W.handedIn u = true := by
  cases v with
  | non => cases (show u = Value.none from r); rfl
  | bl b => cases (show u = Value.bool b from r); rfl
  | int i => obtain ⟨t, e⟩ := (show ∃ t, u = Value.int i t from r); cases e; rfl
  | str x => obtain ⟨t, e⟩ := (show ∃ t, u = Value.str x t from r); cases e; rfl
  | byt b => obtain ⟨t, e⟩ := (show ∃ t, u = Value.bytes b t from r); cases e; rfl
  | flt b => obtain ⟨t, e⟩ := (show ∃ t, u = Value.float b t from r); cases e; rfl
  | ref a => cases (show u = Value.ref a from r); rfl
  | ty n => cases (show u = Value.type n from r); rfl

section
variable {P : Program} {w : World} {H H' : Hp} {h h' : Heap} {a C dx : Addr} {fs fs' : List (Str × V)}
theorem ins_get (hok : HOk P w H h) (e : H a = some (.ins C dx fs)) : ∃ mA, ObjM h a dx C mA ∧ (∀ f, RelO (fs.lookup f) (mA f)) ∧ PySem.Within mA (fs.map (·.1)) ∧ fs.length ≤ 1000 ∧ H dx = some (.own a) := by
  obtain ⟨d, z, ne, ob, mA, n, r, q⟩ := (show ObjOk P w H h a (.ins C dx fs) from hok a _ e)
  exact ⟨mA, ⟨ob, n, ne⟩, r, q, z, d⟩
end

/-! ### what of the text a class must have -/
structure Cls (K : PySem.W.Frag) (C : Addr) : Prop where
  pg : PySem.W.plainGet K C Str.empty = true
  hd : PySem.W.hasDictIn K C = true
  po : PySem.W.plainOver K C = true
  sa : PySem.W.findIn K (.ref C) "__setattr__" = some (some (.builtin "object.__setattr__"))
theorem Cls.get {K : PySem.W.Frag} {C : Addr} (c : Cls K C) (f : Str) : PySem.W.plainGet K C f = true := c.pg
/-- no class of it has the name -/
def NoAttr (K : PySem.W.Frag) (C : Addr) (f : Str) : Prop := PySem.W.findIn K (.ref C) f = some none
theorem NoAttr.taker {K : PySem.W.Frag} {C : Addr} {f : Str} (n : NoAttr K C f) : PySem.W.takerIn K C f = some none := by
  unfold PySem.W.takerIn
  rw [show PySem.W.findIn K (.ref C) f = some none from n]
  rfl
/-- a method: a plain def of the class or of one above it -/
structure Meth (K : PySem.W.Frag) (C : Addr) (m : Str) (f : Addr) : Prop where
  at_ : PySem.W.findIn K (.ref C) m = some (some (.ref f))
  fn : PySem.W.isFn K (.ref f) = true
  kp : PySem.W.keepIn K (.ref f) = true

section
variable {X : Cx} {pins : List (Addr × Obj)} {σ : St} {H : Hp} {s : Shared} {a C dx : Addr} {fs : List (Str × V)} {f : Str} {v : V} {A : Around} {E : Value → Shared → Prop}

theorem getattr_ok {b : Bool} {Q : Value → Shared → Prop} (I : Inv X pins σ H s) (e : H a = some (.ins C dx fs)) (c : Cls X.K C) (n : NoAttr X.K C f) (l : fs.lookup f = some v)
    (h : ∀ u s', Inv X pins σ H s' → RelV v u → Q u s') : wpAny (model X.prog X.w) A (getAttr (.ref a) f b) Q E s := by
  obtain ⟨mA, O, r, _, _, _⟩ := ins_get I.hok e
  obtain ⟨u, hu, ru⟩ := RelO.some_of (v := v) (o := mA f) (by rw [← l]; exact r f)
  exact get_map I.kIn O (c.get f) c.hd n hu (handed_of ru) (h u _ (I.tok _) ru)

theorem getmeth_ok {m : Str} {g : Addr} {pl : Sem Bool} {Q : Value × List Value → Shared → Prop} (I : Inv X pins σ H s) (e : H a = some (.ins C dx fs)) (c : Cls X.K C) (k : Meth X.K C m g) (l : fs.lookup m = none)
    (h : Q (.ref g, [.ref a]) s) : wpAny (model X.prog X.w) A (getMethod (.ref a) m pl) Q E s := by
  obtain ⟨mA, O, r, _, _, _⟩ := ins_get I.hok e
  have hn : mA m = none := RelO.none_of (by rw [← l]; exact r m)
  exact get_meth I.kIn O (c.get m) k.at_ k.fn hn h

theorem setattr_ok {y : V} {u : Value} {Q : Unit → Shared → Prop} (I : Inv X pins σ H s) (e : H a = some (.ins C dx fs)) (c : Cls X.K C) (n : NoAttr X.K C f) (hl : fs.length < 1000) (ry : RelV y u)
    (h : ∀ s', Inv X pins σ (upd H a (.ins C dx (putF f y fs))) s' → Q () s') : wpAny (model X.prog X.w) A (setAttr (.ref a) f u) Q E s := by
  obtain ⟨mA, O, r, wi, _, ho⟩ := ins_get I.hok e
  have hz : (fs.map (·.1)).length ≤ sizeLine := by rw [List.length_map, sizeLine_eq]; omega
  refine set_map I.kIn O c.sa c.po n.taker c.hd wi hz fun h' O' sb => h _ ?_
  have hd : ∃ o, h'.get? dx = some o := let ⟨o, _, _, e', _⟩ := O'.ns; ⟨o, e'⟩
  refine I.write (x := a) (e := dx) (by rw [e]; exact True.intro) (.inr ho) (fun b q hb z => (sb.2 b hb).trans z) hd ?_
  refine ⟨by rw [upd_ne O.ne]; exact ho, ?_, O.ne, O'.obj, _, O'.ns, fun g => ?_, fun g hg => ?_⟩
  · have := length_putF f y fs; omega
  · show RelO ((putF f y fs).lookup g) (if g = f then some u else mA g)
    rw [lookup_putF]
    by_cases q : g = f
    · rw [if_pos q, if_pos q]; exact ry
    · rw [if_neg q, if_neg q]; exact r g
  · by_cases q : g = f
    · rw [q]; exact (keys_putF f y fs).1
    · refine (keys_putF f y fs).2 g (wi g fun z => hg ?_)
      show (if g = f then some u else mA g) = none
      rw [if_neg q]; exact z

/-- a new instance, tracked, without attributes -/
theorem Inv.made (I : Inv X pins σ H s) : Inv X pins σ (upd (upd H s.heap.objs.size (.own (s.heap.objs.size + 1))) (s.heap.objs.size + 1) (.ins C s.heap.objs.size []))
    { s with heap := (s.heap.push PySem.W.emptyDict).push (PySem.W.instObj C s.heap.objs.size) } := by
  have e1 : (s.heap.push PySem.W.emptyDict).get? s.heap.objs.size = some PySem.W.emptyDict := Heap.get?_push_size s.heap rfl
  have e2 : ((s.heap.push PySem.W.emptyDict).push (PySem.W.instObj C s.heap.objs.size)).get? (s.heap.objs.size + 1) = some (PySem.W.instObj C s.heap.objs.size) := by
    have := Heap.get?_push_size (s.heap.push PySem.W.emptyDict) (o := PySem.W.instObj C s.heap.objs.size) rfl
    rwa [Heap.size_push] at this
  have e3 : (s.heap.push PySem.W.emptyDict).Ns s.heap.objs.size (fun _ => none) := ⟨PySem.W.emptyDict, #[], _, e1, rfl, (fun e he => absurd he (by simp)), fun _ => rfl⟩
  have I1 := I.laid (a := s.heap.objs.size) (o := .own (s.heap.objs.size + 1)) (h' := s.heap.push PySem.W.emptyDict) (t' := s.toks) (fun b u q => Heap.get?_push_of_some _ q) (Nat.le_refl _) ⟨_, e1⟩
  refine I1.laid (a := s.heap.objs.size + 1) (o := .ins C s.heap.objs.size []) (t' := s.toks) (fun b u q => Heap.get?_push_of_some _ q) (Nat.le_of_eq (Heap.size_push _ _)) ?_
  have ne : s.heap.objs.size ≠ s.heap.objs.size + 1 := Nat.ne_of_lt (Nat.lt_succ_self _)
  refine ⟨by rw [upd_ne ne, upd_same], Nat.zero_le _, ne, e2, fun _ => none, (Heap.Ns1.of_empty e3).at fun o q => Heap.get?_push_of_some _ q, fun _ => True.intro, fun y hy => absurd rfl hy⟩

/-- e.f where nothing but the object is asked: through attributeBase (super) and the last hold -/
theorem attr_of {prog : Program} {w : World} {env : Env} {e : Expr} {f : Str} {pos : Pos} {s : Shared} {Q : Value → Shared → Prop} (hb : attributeBase e f env (eval e env) = eval e env)
    (h : wpAny (model prog w) A (eval e env) (fun o s₁ => wpAny (model prog w) A (getAttr o f true) Q E s₁) E s) : wpAny (model prog w) A (eval (.Attribute e f pos) env) Q E s :=
  Attribute_any_ h (by rw [arm_eval_Attribute, hb])
end

/-! ### readings and rules -/
/-- e.f, an attribute of the instance -/
def tFld (K : PySem.W.Frag) (ta : TE) (f : Str) : TE := fun σ H Q => ta σ H fun x H1 => ∃ a C dx fs v, x = .ref a ∧ H1 a = some (.ins C dx fs) ∧ Cls K C ∧ NoAttr K C f ∧ fs.lookup f = some v ∧ Q v H1
/-- e.f = value -/
def sFld (K : PySem.W.Frag) (ta tv : TE) (f : Str) : TS := fun D σ H => tv σ H fun y H1 => ta σ H1 fun x H2 => ∃ a C dx fs, x = .ref a ∧ H2 a = some (.ins C dx fs) ∧ Cls K C ∧ NoAttr K C f ∧ fs.length < 1000 ∧
  D.nx σ (upd H2 a (.ins C dx (putF f y fs)))
section
variable {X : Cx} {o e value : Expr} {f : Str} {pos pos' tpos : Pos} {ta tv : TE}
theorem pe_fld (he : PE X e ta) (hb : attributeBase e f X.env (eval e X.env) = eval e X.env) : PE X (.Attribute e f pos) (tFld X.K ta f) := by
  intro pins s σ H Q I h
  refine attr_of hb (thn (he pins s σ H _ I h) fun u s1 ⟨x, H1, I1, rx, a, C, dx, fs, v, ex, ea, c, n, l, q⟩ => ?_)
  subst ex
  obtain rfl : u = Value.ref a := rx
  exact getattr_ok I1 ea c n l fun u' s2 I2 ru => ⟨v, H1, I2, ru, q⟩
theorem ps_fld (ha : PE X o ta) (hv : PE X value tv) (hs : swapsWith value (some (.Attribute o f pos')) pos.line X.env = pure false) : PS X (.Assign [.Attribute o f pos'] value pos) (sFld X.K ta tv f) := by
  intro pins s σ H D I h
  refine plainObj_wpAny_Assign_Attribute (thn (hv pins s σ H _ I h) fun u s1 ⟨y, H1, I1, ry, q⟩ => thn (ha pins s1 σ H1 _ I1 q) fun ov s2 ⟨x, H2, I2, rx, a, C, dx, fs, ex, ea, c, n, l, q2⟩ => ?_) hs
  subst ex
  obtain rfl : ov = Value.ref a := rx
  exact setattr_ok I2 ea c n l ry fun s3 I3 => ⟨σ, _, I3, q2⟩
end

/-! ### isinstance -/
section
variable {X : Cx} {pins : List (Addr × Obj)} {σ : St} {H : Hp} {s : Shared} {A : Around} {E : Value → Shared → Prop} {Q : Value → Shared → Prop} {c : Value} {b : Bool}
/-- the type of a value, as the fragment's deciders take it; for an instance its class -/
inductive TyOf (K : PySem.W.Frag) (H : Hp) : V → Value → Prop where
  | non : TyOf K H .non (.type "NoneType")
  | bl (x : Bool) : TyOf K H (.bl x) (.type "bool")
  | int (i : Int) : TyOf K H (.int i) (.type "int")
  | str (x : Str) : TyOf K H (.str x) (.type "str")
  | flt (x : UInt64) : TyOf K H (.flt x) (.type "float")
  | lst {a : Addr} {xs : List V} (e : H a = some (.lst xs)) : TyOf K H (.ref a) (.type "list")
  | frz {a : Addr} {o : Obj} {xs : List V} (e : H a = some (.frz o (.lst xs))) : TyOf K H (.ref a) (.type "list")
  | tup {a : Addr} {xs : List V} (e : H a = some (.tup xs)) : TyOf K H (.ref a) (.type "tuple")
  | dK {a : Addr} {kvs : List (Key × V)} (e : H a = some (.dK kvs)) : TyOf K H (.ref a) (.type "dict")
  | dT {a : Addr} {kvs : List (List Key × V)} (e : H a = some (.dT kvs)) : TyOf K H (.ref a) (.type "dict")
  | ins {a C dx : Addr} {fs : List (Str × V)} (e : H a = some (.ins C dx fs)) (cl : Cls K C) (ha : PySem.W.findIn K (.ref C) "__class__" = some (some (.builtin "object.__class__")))
      (hn : PySem.W.specialIn K (.builtin "object.__class__") "__get__" = some (some (.builtin "getset_descriptor.__get__"))) (htk : PySem.W.takesIn K (.builtin "object.__class__") = some true)
      (hm : PySem.W.mroIn K C (.type "object") = some true) : TyOf K H (.ref a) (.ref C)
/-- isinstance(x, c) for one class c, a built-in or an own one: kitOne's answer -/
theorem isinst_ok {x : V} {u t : Value} (I : Inv X pins σ H s) (rx : RelV x u) (ty : TyOf X.K H x t) (e : PySem.W.kitOne X.K t c = some b) (h : ∀ tk, Q (.bool b) { s with toks := tk }) :
    wpAny (model X.prog X.w) A (call (.builtin "isinstance") [u, c]) Q E s := by
  cases ty with
  | non => cases (show u = Value.none from rx); exact PySem.W.kia_one PySem.W.kitx_none I.kIn True.intro e (fun z => nomatch z) h
  | bl y => cases (show u = Value.bool y from rx); exact PySem.W.kia_one PySem.W.kitx_bool I.kIn True.intro e (fun z => nomatch z) h
  | int i => obtain ⟨t, q⟩ := (show ∃ t, u = Value.int i t from rx); cases q; exact PySem.W.kia_one PySem.W.kitx_int I.kIn True.intro e (fun z => nomatch z) h
  | str y => obtain ⟨t, q⟩ := (show ∃ t, u = Value.str y t from rx); cases q; exact PySem.W.kia_one PySem.W.kitx_str I.kIn True.intro e (fun z => nomatch z) h
  | flt y => obtain ⟨t, q⟩ := (show ∃ t, u = Value.float y t from rx); cases q; exact PySem.W.kia_one PySem.W.kitx_float I.kIn True.intro e (fun z => nomatch z) h
  | @lst a xs ea =>
    cases (show u = Value.ref a from rx)
    obtain ⟨_, _, n, _, h1⟩ := (show ObjOk X.prog X.w H s.heap a (.lst xs) from I.hok a _ ea)
    exact PySem.W.kia_one PySem.W.kitx_list I.kIn ⟨_, h1, rfl⟩ e (fun z => nomatch z) h
  | @frz a ob xs ea =>
    cases (show u = Value.ref a from rx)
    obtain ⟨_, _, _, n, _, h1⟩ := (show ObjOk X.prog X.w H s.heap a (.frz ob (.lst xs)) from I.hok a _ ea)
    exact PySem.W.kia_one PySem.W.kitx_list I.kIn ⟨_, h1, rfl⟩ e (fun z => nomatch z) h
  | @tup a xs ea =>
    cases (show u = Value.ref a from rx)
    obtain ⟨_, _, _, p⟩ := (show ObjOk X.prog X.w H s.heap a (.tup xs) from I.hok a _ ea)
    obtain ⟨o, h1, h2, _⟩ := p
    exact PySem.W.kia_one PySem.W.kitx_tuple I.kIn ⟨o, h1, h2⟩ e (fun z => nomatch z) h
  | @dK a kvs ea =>
    cases (show u = Value.ref a from rx)
    obtain ⟨_, _, vs, _, p⟩ := (show ObjOk X.prog X.w H s.heap a (.dK kvs) from I.hok a _ ea)
    obtain ⟨o, es, ep, h1, h2, _⟩ := p
    exact PySem.W.kia_one PySem.W.kitx_dict I.kIn ⟨o, h1, h2.1⟩ e (fun z => nomatch z) h
  | @dT a kvs ea =>
    cases (show u = Value.ref a from rx)
    obtain ⟨_, _, xs, _, o, es, ep, h1, h2, _⟩ := (show ObjOk X.prog X.w H s.heap a (.dT kvs) from I.hok a _ ea)
    exact PySem.W.kia_one PySem.W.kitx_dict I.kIn ⟨o, h1, h2.1⟩ e (fun z => nomatch z) h
  | @ins a C dx fs ea cl ha hn htk hm =>
    cases (show u = Value.ref a from rx)
    obtain ⟨mA, O, _⟩ := ins_get I.hok ea
    obtain ⟨od, J, _⟩ := O.look
    exact PySem.W.kia_one (PySem.W.kitx_own (cl.get _) cl.hd ha hn htk hm) I.kIn J e (fun z => nomatch z) h
end
end L2

namespace L2
open PySem PySem.Spec PyProof.Rows

/-! ### room -/
structure Room (k : Nat) (A : Around) : Prop where
  hd : A.handled = none
  dp : A.depth + 3 * k + 5 < recursionLimit
  un : A.units + 16 * k + 200 < cLine
theorem Room.mono {j k : Nat} {A : Around} (r : Room k A) (h : j ≤ k) : Room j A := ⟨r.hd, by have := r.dp; omega, by have := r.un; omega⟩
theorem Room.deeper {k : Nat} {A : Around} (r : Room (k + 1) A) (env : Env) : Room k (A.deeper env) :=
  ⟨r.hd, by have := r.dp; show A.depth + 1 + 3 * k + 5 < _; omega, by have := r.un; show A.units + 3 + 16 * k + 200 < _; omega⟩
theorem make_depth {A : Around} {C : Addr} {us : List Value} {kw : List (Str × Value)} : (A.under (.builtin "type.__call__" ⟨.ref C :: us, kw⟩)).depth = A.depth + 1 := by
  first | rfl | simp [Around.under, Code.weight, Code.isCreation, Code.isGuard, Code.isCaller, Code.frames, Code.isFrame, guardIds]
theorem make_units {A : Around} {C : Addr} {us : List Value} {kw : List (Str × Value)} : (A.under (.builtin "type.__call__" ⟨.ref C :: us, kw⟩)).units = A.units + 1 := by
  first | rfl | simp [Around.under, Code.cUnits, Code.frames, Code.isFrame]
theorem Room.make {k : Nat} {A : Around} (r : Room (k + 1) A) (C : Addr) (us : List Value) (kw : List (Str × Value)) : Room k (A.under (.builtin "type.__call__" ⟨.ref C :: us, kw⟩)) :=
  ⟨r.hd, by have := r.dp; rw [make_depth]; omega, by have := r.un; rw [make_units]; omega⟩
theorem Room.depth {k : Nat} {A : Around} (r : Room k A) : A.depth < recursionLimit := by have := r.dp; omega
theorem Room.units {k : Nat} {A : Around} (r : Room k A) : A.units + 64 < cLine := by have := r.un; omega
theorem Room.units0 {k : Nat} {A : Around} (r : Room k A) : A.units < cLine := by have := r.un; omega

/-! ### argument lists and displays -/
def tNil : TA := fun _ H Q => Q [] H
def tCons (ta : TE) (tr : TA) : TA := fun σ H Q => ta σ H fun x H1 => tr σ H1 fun xs H2 => Q (x :: xs) H2
section
variable {X : Cx} {e : Expr} {es : List Expr} {te : TE} {t : TA} {pos : Pos}
theorem pa_nil : PA X [] tNil := fun _ _ _ _ H Q I h => Calls.spliced_nil ⟨[], H, I, .nil, h⟩
theorem pa_cons (ha : PE X e te) (hr : PA X es t) (hs : starEach (e :: es) X.env = (false, eval e X.env) :: starEach es X.env := by rfl) : PA X (e :: es) (tCons te t) := by
  intro pos pins s σ H Q I h
  rw [hs]
  show wpAny _ _ (spliced ((false, eval e X.env) :: backTo pos (starEach es X.env))) _ _ s
  refine Calls.spliced_cons (thn (ha pins s σ H _ I h) fun u s1 ⟨x, H1, I1, r1, q1⟩ => ?_)
  exact thn (hr pos pins s1 σ H1 _ I1 q1) fun us s2 ⟨xs, H2, I2, r2, q2⟩ => ⟨x :: xs, H2, I2, .cons r1 r2, q2⟩

/-- a tuple, a list of written items -/
def tTup (t : TA) : TE := fun σ H Q => t σ H fun xs H1 => xs.length ≤ sizeLine ∧ ∀ p, H1 p = none → Q (.ref p) (upd H1 p (.tup xs))
def tLst (t : TA) : TE := fun σ H Q => t σ H fun xs H1 => xs.length ≤ sizeLine ∧ ∀ p, H1 p = none → Q (.ref p) (upd H1 p (.lst xs))
theorem pe_tup {x1} (h : PA X es t) : PE X (.Tuple es x1 pos) (tTup t) := by
  intro pins s σ H Q I hq
  refine wpAny_Tuple_spliced (thn (h pos pins s σ H _ I hq) fun us s1 ⟨xs, H1, I1, r, z, q⟩ => ⟨by rw [← r.length]; exact z, ?_⟩)
  have hf : H1 s1.heap.objs.size = none := I1.hok.fresh (Nat.le_refl _)
  refine ⟨.ref s1.heap.objs.size, upd H1 s1.heap.objs.size (.tup xs), I1.laid (t' := s1.toks) (fun b u e => Heap.get?_push_of_some _ e) (Nat.le_refl _) ?_, rfl, q _ hf⟩
  exact ⟨z, us, r, ⟨_, Heap.get?_push_size _ rfl, rfl, _, rfl⟩⟩
theorem pe_lst (h : PA X es t) : PE X (.List es pos) (tLst t) := by
  intro pins s σ H Q I hq
  refine wpAny_List_spliced (thn (h pos pins s σ H _ I hq) fun us s1 ⟨xs, H1, I1, r, z, q⟩ => ⟨by rw [← r.length]; exact z, ?_⟩)
  have hf : H1 s1.heap.objs.size = none := I1.hok.fresh (Nat.le_refl _)
  refine ⟨.ref s1.heap.objs.size, upd H1 s1.heap.objs.size (.lst xs), I1.laid (t' := s1.toks) (fun b u e => Heap.get?_push_of_some _ e) (Nat.le_refl _) ?_, rfl, q _ hf⟩
  exact ⟨z, us, 0, r, Heap.get?_push_size _ rfl⟩
end

/-! ### what a def promises -/
/-- a def's promise: the bound arguments in the parameters' order, the heap, the wanted end, the wanted exception -/
abbrev Sp := List V → Hp → VK → XK → Prop
/-- how an exception lies behind a call (file 08 gives it): the callers' frames, abstract heap and state ahead of the call, the wish, the exception, the state -/
abbrev CXT := List Env → Hp → Shared → XK → Value → Shared → Prop

/-- the state at a call -/
structure Env0 (P : Program) (w : World) (K : PySem.W.Frag) (mg : Str → Option Value) (base : Heap) (A : Around) (outer : List Env) (s : Shared) (H : Hp) : Prop where
  frames : A.frames = some outer
  mod : Mod K mg base
  bs : ∀ b o, base.get? b = some o → s.heap.get? b = some o ∧ H b = none
  bsz : base.objs.size ≤ s.heap.objs.size
  funs : s.heap.FunFrames base outer
  frf : ∀ b ∈ frs outer, H b = none
  hok : HOk P w H s.heap
  bare : AllBare s.gens
/-- a call's end -/
def CE (outer : List Env) (P : Program) (w : World) (H : Hp) (s : Shared) (Q : VK) (u : Value) (s' : Shared) : Prop :=
  ∃ v H', s'.os = s.os ∧ AllBare s'.gens ∧ Un (frs outer) [] H H' s.heap s'.heap ∧ HOk P w H' s'.heap ∧ RelV v u ∧ Q v H'
def CR (CX : CXT) (outer : List Env) (P : Program) (w : World) (H : Hp) (s : Shared) (Q : VK) (E : XK) (r : Result) (s' : Shared) : Prop :=
  match r with
  | .ok (.ret u) => CE outer P w H s Q u s'
  | .ok _ => False
  | .error e => CX outer H s E e s'
structure FnOk (P : Program) (w : World) (K : PySem.W.Frag) (mg : Str → Option Value) (base : Heap) (CX : CXT) (k : Nat) (f : Addr) (fd : FuncData) (ps : List Str) (sp : Sp) : Prop where
  len : ∀ vs H Q E, sp vs H Q E → vs.length = ps.length
  run : ∀ (A : Around) (outer : List Env) (s : Shared) (H : Hp) (args : Args) (us : List Value) (vs : List V) (Q : VK) (E : XK), Room k A → Env0 P w K mg base A outer s H → BindsTo s fd args (ps.zip us) → Vals vs us → sp vs H Q E →
    codeAny (model P w) A (.call (.ref f) args) (CR CX outer P w H s Q E) s
theorem Env0.make {P : Program} {w : World} {K : PySem.W.Frag} {mg : Str → Option Value} {base : Heap} {A : Around} {outer : List Env} {s : Shared} {H : Hp} (e : Env0 P w K mg base A outer s H) (C : Addr) (us : List Value) (kw : List (Str × Value)) :
    Env0 P w K mg base (A.under (.builtin "type.__call__" ⟨.ref C :: us, kw⟩)) outer s H := ⟨by first | exact e.frames | (simpa [Around.under, Code.envs, Code.isFrame, pushEnvs] using e.frames), e.mod, e.bs, e.bsz, e.funs, e.frf, e.hok, e.bare⟩
section
variable {X : Cx} {pins : List (Addr × Obj)} {σ : St} {H : Hp} {s s' : Shared}
/-- from a body: what a callee wants -/
theorem Inv.env0 (I : Inv X pins σ H s) : Env0 X.prog X.w X.K X.mg X.base X.A X.stack s H :=
  ⟨I.ok.frames, I.ok.mod, I.bs, Nat.le_trans I.ok.bsz I.sz, I.stack, I.stkFree, I.hok, I.bare⟩
/-- behind a call -/
theorem Inv.after {Q : VK} {u : Value} (I : Inv X pins σ H s) (h : CE X.stack X.prog X.w H s Q u s') : EP X pins σ Q u s' := by
  obtain ⟨v, H', os, bare, un, hok, r, q⟩ := h
  obtain ⟨hh, g, d, t, os'⟩ := s'
  obtain rfl : os' = s.os := os
  exact ⟨v, H', I.call (h' := hh) (g' := g) (d' := d) (t' := t) (ch := []) un hok bare (fun b z => absurd z (by simp)), r, q⟩
end

/-! ### calls -/
/-- f(..): the written arguments, then the defaults dvs; E: what is wanted of an exception -/
def tCall (sp : Sp) (dvs : List V) (E : XK) (t : TA) : TE := fun σ H Q => t σ H fun vs H1 => sp (vs ++ dvs) H1 Q E
/-- o.m(..) of an instance of the class at C -/
def tMeth (C : Addr) (m : Str) (sp : Sp) (dvs : List V) (E : XK) (ta : TE) (t : TA) : TE := fun σ H Q => ta σ H fun x H1 => ∃ a dx fs, x = .ref a ∧ H1 a = some (.ins C dx fs) ∧ fs.lookup m = none ∧
  t σ H1 fun vs H2 => sp (x :: (vs ++ dvs)) H2 Q E
/-- C(..): a new instance and its dict, then __init__ -/
def tMake (C : Addr) (sp : Sp) (dvs : List V) (E : XK) (t : TA) : TE := fun σ H Q => t σ H fun vs H1 => ∀ x dx, H1 x = none → H1 dx = none → dx ≠ x →
  sp (.ref x :: (vs ++ dvs)) (upd (upd H1 dx (.own x)) x (.ins C dx [])) (fun v H2 => v = .non ∧ Q (.ref x) H2) E

/-- how the parameters are bound: us the positional arguments, kw the keywords' values by name, ds the defaults that fill up -/
def Binds (K : PySem.W.Frag) (fd : FuncData) (ps : List Str) (ds : List Value) : Prop :=
  ∀ (s : Shared) (us : List Value), K.In s.heap → (us ++ ds).length = ps.length → BindsTo s fd ⟨us, []⟩ (ps.zip (us ++ ds))
/-- every parameter is given -/
theorem Binds.all {K : PySem.W.Frag} {fd : FuncData} {ps : List Str} (h : ∀ us : List Value, us.length = ps.length → bindArgs fd ⟨us, []⟩ = pure (ps.zip us)) : Binds K fd ps [] := fun s us _ hl => by
  rw [List.append_nil] at hl ⊢
  exact .of_eq (h us hl)

/-- an exception of a callee reaches what this body wants of exceptions -/
def Passes (CX : CXT) (X : Cx) (E : XK) : Prop := ∀ (pins : List (Addr × Obj)) (σ : St) (H : Hp) (s : Shared) (e : Value) (s' : Shared), Inv X pins σ H s → CX X.stack H s E e s' → X.xe e s'

section
variable {X : Cx} {CX : CXT} {k : Nat} {f C : Addr} {fd : FuncData} {ps : List Str} {sp : Sp} {dvs : List V} {ds : List Value} {E : XK} {x m : Str} {p pos apos : Pos} {e o : Expr} {es : List Expr} {ta : TE} {t : TA}

/-- the callee runs -/
theorem run_fn {pins : List (Addr × Obj)} {σ : St} {H : Hp} {s : Shared} {Q : VK} {us : List Value} {vs : List V} (F : FnOk X.prog X.w X.K X.mg X.base CX k f fd ps sp) (hr : Room k X.A) (hb : Binds X.K fd ps ds) (hd : Vals dvs ds) (hx : Passes CX X E)
    (I : Inv X pins σ H s) (r : Vals vs us) (h : sp (vs ++ dvs) H Q E) : wpAny (model X.prog X.w) X.A (call (.ref f) us) (EP X pins σ Q) X.xe s := by
  have r2 : Vals (vs ++ dvs) (us ++ ds) := r.append hd
  have hl : (us ++ ds).length = ps.length := by rw [← r2.length]; exact F.len _ _ _ _ h
  refine wpAny_call (codeAny_mono (F.run X.A X.stack s H ⟨us, []⟩ (us ++ ds) (vs ++ dvs) Q E hr I.env0 (hb s us I.kIn hl) r2 h) fun r s' hq => ?_)
  cases r with
  | error e => exact hx pins σ H s e s' I hq
  | ok fl =>
    cases fl with
    | ret u => exact I.after hq
    | next => exact False.elim hq
    | brk => exact False.elim hq
    | cont => exact False.elim hq

theorem pe_call (F : FnOk X.prog X.w X.K X.mg X.base CX k f fd ps sp) (hr : Room k X.A) (hg : Gl X x) (hm : X.mg x = some (.ref f)) (hk : PySem.W.keepIn X.K (.ref f) = true) (hb : Binds X.K fd ps ds) (hd : Vals dvs ds) (hx : Passes CX X E)
    (ha : PA X (e :: es) t) (hdb : (x == ("__debug__" : Str)) = false := by decide) (he : starEach (e :: es) X.env = (false, eval e X.env) :: starEach es X.env := by rfl) (hpl : (backTo pos (starEach es X.env)).any (·.1) = false := by rfl) :
    PE X (.Call (.Name x p) (e :: es) [] pos) (tCall sp dvs E t) := by
  intro pins s σ H Q I h
  refine wpAny_Call_Name_kw (ld_glob I hg hm ?_ hdb)
  refine PySem.W.callWith_K (h₀ := X.base) I.ok.mod.kin hk (thn (ha pos pins s σ H _ I h) fun us s1 ⟨vs, H1, I1, r, q⟩ => ⟨I1.kIn, ?_⟩) he hpl
  exact run_fn F hr hb hd hx I1 r q
/-- o.m(e, ..) -/
theorem pe_meth {pl : Sem Bool} (he : PE X o ta) (c : Cls X.K C) (hm : Meth X.K C m f) (F : FnOk X.prog X.w X.K X.mg X.base CX k f fd ps sp) (hr : Room k X.A) (hb : Binds X.K fd ps ds) (hd : Vals dvs ds) (hx : Passes CX X E) (ha : PA X (e :: es) t)
    (hst : starEach (e :: es) X.env = (false, eval e X.env) :: starEach es X.env := by rfl) (hpl : (backTo pos (starEach es X.env)).any (·.1) = false := by rfl)
    (ht : eval (.Call (.Attribute o m apos) (e :: es) [] pos) X.env = (do
      let ov ← eval o X.env
      standAt apos.atName
      let (f, first) ← holding [ov] (getMethod ov m pl)
      callWith pos f first (backTo pos (starEach (e :: es) X.env)) (backToKw pos (keywordEach [] X.env))) := by rfl) :
    PE X (.Call (.Attribute o m apos) (e :: es) [] pos) (tMeth C m sp dvs E ta t) := by
  intro pins s σ H Q I h
  refine PySem.W.methodCall_KW (pl := pl) (thn (he pins s σ H _ I h) fun u s1 ⟨x, H1, I1, rx, a, dx, fs, ex, ea, l, q⟩ => ?_) ht
  subst ex
  obtain rfl : u = Value.ref a := rx
  refine getmeth_ok I1 ea c hm l ?_
  refine PySem.W.callWith_K (first := [.ref a]) (h₀ := X.base) I.ok.mod.kin hm.kp (thn (ha pos pins s1 σ H1 _ I1 q) fun us s2 ⟨vs, H2, I2, r, q2⟩ => ⟨I2.kIn, ?_⟩) hst hpl
  exact run_fn (us := .ref a :: us) (vs := .ref a :: vs) F hr hb hd hx I2 (.cons rfl r) q2
/-- o.m() -/
theorem pe_meth0 {pl : Sem Bool} (he : PE X o ta) (c : Cls X.K C) (hm : Meth X.K C m f) (F : FnOk X.prog X.w X.K X.mg X.base CX k f fd ps sp) (hr : Room k X.A) (hb : Binds X.K fd ps ds) (hd : Vals dvs ds) (hx : Passes CX X E)
    (ht : eval (.Call (.Attribute o m apos) [] [] pos) X.env = (do
      let ov ← eval o X.env
      standAt apos.atName
      let (f, first) ← holding [ov] (getMethod ov m pl)
      callWith pos f first (backTo pos (starEach [] X.env)) (backToKw pos (keywordEach [] X.env))) := by rfl) :
    PE X (.Call (.Attribute o m apos) [] [] pos) (tMeth C m sp dvs E ta tNil) := by
  intro pins s σ H Q I h
  refine PySem.W.methodCall_KW (pl := pl) (thn (he pins s σ H _ I h) fun u s1 ⟨x, H1, I1, rx, a, dx, fs, ex, ea, l, q⟩ => ?_) ht
  subst ex
  obtain rfl : u = Value.ref a := rx
  refine getmeth_ok I1 ea c hm l ?_
  exact PySem.W.callWith_K0 (first := [.ref a]) I1.kIn hm.kp (run_fn (us := [.ref a]) (vs := [.ref a]) F hr hb hd hx I1 (.cons rfl .nil) q)

/-- what a class must have to be made -/
structure Mk (K : PySem.W.Frag) (C f : Addr) : Prop where
  makes : PySem.W.makesIn K C = true
  init : PySem.W.findIn K (.ref C) "__init__" = some (some (.ref f))
  fn : PySem.W.isFn K (.ref f) = true
  kp : PySem.W.keepIn K (.ref C) = true

theorem run_make {pins : List (Addr × Obj)} {σ : St} {H : Hp} {s : Shared} {Q : VK} {us : List Value} {vs : List V} (M : Mk X.K C f) (F : FnOk X.prog X.w X.K X.mg X.base CX k f fd ps sp) (hr : Room (k + 1) X.A) (hb : Binds X.K fd ps ds) (hd : Vals dvs ds)
    (hx : Passes CX X E) (I : Inv X pins σ H s) (r : Vals vs us)
    (h : ∀ x dx, H x = none → H dx = none → dx ≠ x → sp (.ref x :: (vs ++ dvs)) (upd (upd H dx (.own x)) x (.ins C dx [])) (fun v H2 => v = .non ∧ Q (.ref x) H2) E) :
    wpAny (model X.prog X.w) X.A (call (.ref C) us) (EP X pins σ Q) X.xe s := by
  have hq := h (s.heap.objs.size + 1) s.heap.objs.size (I.hok.fresh (Nat.le_succ _)) (I.hok.fresh (Nat.le_refl _)) (Nat.ne_of_lt (Nat.lt_succ_self _))
  have I2 := Inv.made (C := C) I
  have r2 : Vals (V.ref (s.heap.objs.size + 1) :: (vs ++ dvs)) (Value.ref (s.heap.objs.size + 1) :: (us ++ ds)) := .cons rfl (r.append hd)
  have hl : (Value.ref (s.heap.objs.size + 1) :: us ++ ds).length = ps.length := by
    have e := r2.length
    rw [F.len _ _ _ _ hq] at e
    exact e.symm
  refine wpAny_call (make_map (f := f) I.kIn M.makes M.init (beq_iff_eq.mp M.fn) (codeAny_mono (F.run _ X.stack _ _ ⟨Value.ref (s.heap.objs.size + 1) :: us, []⟩ (Value.ref (s.heap.objs.size + 1) :: (us ++ ds)) _ _ E (hr.make C us [])
    (I2.env0.make C us []) (hb _ (Value.ref (s.heap.objs.size + 1) :: us) I2.kIn hl) r2 hq) fun r s' hq' => ?_))
  cases r with
  | error e => exact hx pins σ _ _ e s' I2 hq'
  | ok fl =>
    cases fl with
    | ret u =>
      obtain ⟨v, H', I3, rv, ev, q3⟩ := I2.after hq'
      subst ev
      exact ⟨rv, ⟨V.ref (s.heap.objs.size + 1), H', I3, rfl, q3⟩⟩
    | next => exact False.elim hq'
    | brk => exact False.elim hq'
    | cont => exact False.elim hq'
theorem pe_make0 (M : Mk X.K C f) (F : FnOk X.prog X.w X.K X.mg X.base CX k f fd ps sp) (hr : Room (k + 1) X.A) (hg : Gl X x) (hm : X.mg x = some (.ref C)) (hb : Binds X.K fd ps ds) (hd : Vals dvs ds) (hx : Passes CX X E)
    (hdb : (x == ("__debug__" : Str)) = false := by decide) : PE X (.Call (.Name x p) [] [] pos) (tMake C sp dvs E tNil) := by
  intro pins s σ H Q I h
  refine wpAny_Call_Name_kw (ld_glob I hg hm ?_ hdb)
  exact PySem.W.callWith_K0 I.kIn M.kp (run_make (us := []) M F hr hb hd hx I .nil h)
end

/-! ### keywords -/
section
variable {X : Cx} {CX : CXT} {k : Nat} {f C : Addr} {fd : FuncData} {ps ks : List Str} {sp : Sp} {E : XK} {x m : Str} {p pos apos kpos : Pos} {e o : Expr} {es : List Expr} {kws : List Keyword} {te ta : TE} {t tk : TA} {nm : Option Str}
variable {g : List Value → List Value → List Value} {gV : List V → List V → List V}
end

/-! ### a def's body keeps its promise -/
/-- names: the parameters first -/
structure FnScope (N P : List Str) (sc : Scope) : Prop where
  kind : sc.kind = .function
  co : sc.isCoroutine = false
  gen : sc.isGenerator = false
  nd : N.Nodup
  pre : N.take P.length = P
  par : ∀ x ∈ P, sc.names.lookup x = some .local ∨ sc.names.lookup x = some .cell
  nofree : ∀ y ∈ sc.names, y.2 ≠ .free

theorem bindL_out {kindOf : Str → Option NameKind} {x : Str} : ∀ {binds : List (Str × Value)} {m : Str → Option Value}, (∀ v, (x, v) ∉ binds) → bindL kindOf binds m x = m x
  | [], _, _ => rfl
  | (n, v) :: r, m, h => by
    unfold bindL
    rw [bindL_out fun w hw => h w (List.mem_cons_of_mem _ hw)]
    split
    · have : x ≠ n := by rintro rfl; exact h v List.mem_cons_self
      simp [this]
    · rfl
theorem bindC_out {kindOf : Str → Option NameKind} {x : Str} : ∀ {binds : List (Str × Value)} {m : Str → Option Value}, (∀ v, (x, v) ∉ binds) → bindC kindOf binds m x = m x
  | [], _, _ => rfl
  | (n, v) :: r, m, h => by
    unfold bindC
    rw [bindC_out fun w hw => h w (List.mem_cons_of_mem _ hw)]
    split
    · rfl
    · have : x ≠ n := by rintro rfl; exact h v List.mem_cons_self
      simp [this]
theorem bindL_get {kindOf : Str → Option NameKind} {x : Str} {v : Value} : ∀ {P : List Str} {vs : List Value} {i : Nat} {m : Str → Option Value}, P.Nodup → P[i]? = some x → vs[i]? = some v → kindOf x = some .local →
    bindL kindOf (P.zip vs) m x = some v
  | [], _, _, _, _, h, _, _ => by simp at h
  | _ :: _, [], _, _, _, _, h, _ => by simp at h
  | p :: P, w :: vs, 0, m, nd, h1, h2, hk => by
    simp at h1 h2; subst h1; subst h2
    show bindL kindOf ((p, w) :: P.zip vs) m p = _
    unfold bindL
    rw [bindL_out fun v hv => (List.nodup_cons.mp nd).1 (List.of_mem_zip hv).1, if_pos hk]
    simp
  | p :: P, w :: vs, i + 1, m, nd, h1, h2, hk => by
    show bindL kindOf ((p, w) :: P.zip vs) m x = _
    unfold bindL
    exact bindL_get (i := i) (List.nodup_cons.mp nd).2 (by simpa using h1) (by simpa using h2) hk
theorem bindC_get {kindOf : Str → Option NameKind} {x : Str} {v : Value} : ∀ {P : List Str} {vs : List Value} {i : Nat} {m : Str → Option Value}, P.Nodup → P[i]? = some x → vs[i]? = some v → kindOf x ≠ some .local →
    bindC kindOf (P.zip vs) m x = some v
  | [], _, _, _, _, h, _, _ => by simp at h
  | _ :: _, [], _, _, _, _, h, _ => by simp at h
  | p :: P, w :: vs, 0, m, nd, h1, h2, hk => by
    simp at h1 h2; subst h1; subst h2
    show bindC kindOf ((p, w) :: P.zip vs) m p = _
    unfold bindC
    rw [bindC_out fun v hv => (List.nodup_cons.mp nd).1 (List.of_mem_zip hv).1, if_neg hk]
    simp
  | p :: P, w :: vs, i + 1, m, nd, h1, h2, hk => by
    show bindC kindOf ((p, w) :: P.zip vs) m x = _
    unfold bindC
    exact bindC_get (i := i) (List.nodup_cons.mp nd).2 (by simpa using h1) (by simpa using h2) hk

/-- the names' values at the entry -/
def start (N : List Str) (vs : List V) : St := vs.map some ++ List.replicate (N.length - vs.length) none

/-- the context of a def's body, at its entry; an exception leaves the frame, then lies as CX says -/
def cxOf (CX : CXT) (P : Program) (w : World) (K : PySem.W.Frag) (mg : Str → Option Value) (base : Heap) (N : List Str) (qual : Str) (scope : Scope) (f : Addr) (cd : Value) (A : Around) (outer : List Env) (s : Shared) (H : Hp) (E : XK) : Cx where
  prog := P
  w := w
  K := K
  mg := mg
  base := base
  A := A.deeper (envOfC qual scope s.heap.objs.size f cd)
  N := N
  s₀ := s
  H₀ := H
  env := envOfC qual scope s.heap.objs.size f cd
  outer := outer
  stack := envOfC qual scope s.heap.objs.size f cd :: outer
  ex := []
  calm := true
  fn := fun _ => true
  pn := []
  xe := fun e s' => wpAny (model P w) (A.deeper (envOfC qual scope s.heap.objs.size f cd)) (leaving (envOfC qual scope s.heap.objs.size f cd) e) (fun _ s'' => CX outer H s E e s'') (fun e' s'' => CX outer H s E e' s'') s'

theorem cell_has {sc : Scope} {n : Nat} {x : Str} (h : sc.names.lookup x = some .cell) : ∃ c, (cellsFrom n sc.names []).lookup x = some c := by
  have q := PySem.W.cellsFrom_some sc.names n [] (.inl h)
  exact Option.isSome_iff_exists.mp q

theorem inv_start {CX : CXT} {P : Program} {w : World} {K : PySem.W.Frag} {mg : Str → Option Value} {base : Heap} {N ps : List Str} {qual : Str} {scope : Scope} {f : Addr} {cd : Value} {A : Around} {outer : List Env} {s s1 : Shared} {H : Hp} {E : XK} {us : List Value} {vs : List V}
    (S : FnScope N ps scope) (hd : A.handled = none) (e0 : Env0 P w K mg base A outer s H) (hl : vs.length = ps.length) (r : Vals vs us)
    (x : InCallC s s.heap.objs.size (bindL (envOfC qual scope s.heap.objs.size f cd).kindOf (ps.zip us) fun _ => none) (cellsFrom (s.heap.objs.size + 1) scope.names []) (bindC (envOfC qual scope s.heap.objs.size f cd).kindOf (ps.zip us) fun _ => none) s1) :
    Inv (cxOf CX P w K mg base N qual scope f cd A outer s H E) [] (start N vs) H s1 := by
  have hpl : ps.length ≤ N.length := by have := congrArg List.length S.pre; rw [List.length_take] at this; omega
  obtain ⟨h1, tk, rfl, hk⟩ := x.done
  have noA : ∀ b : Addr, b ∉ (cxOf CX P w K mg base N qual scope f cd A outer s H E).ex := fun b z => absurd (show b ∈ ([] : List Addr) from z) (by simp)
  refine ⟨⟨e0.mod, S.kind, rfl, rfl, Nat.le_refl _, fun y z c h1 h2 => ?_, fun y hy => ?_, fun y c _ h => ?_, fun _ => hd, Around.frames_deeper e0.frames, .inr ⟨rfl, rfl⟩, fun b z => absurd z (noA b), e0.bs, e0.bsz, fun b _ _ => noA b, fun b z => absurd z (noA b), e0.funs, e0.frf⟩,
    rfl, e0.bare, Un.kept hk, ⟨_, x.toInCall.ns, fun i y v h1 h2 h3 => ?_⟩, fun y c h => ⟨_, x.cell y c h⟩, e0.hok.fresh (Nat.le_refl _), fun y c h => ?_, fun p hp => absurd (show p ∈ ([] : List (Addr × Obj)) from hp) (by simp), e0.hok.kept hk, ?_⟩
  · exact name_of_addr x.apart (PySem.mem_of_lookup h1) (PySem.mem_of_lookup h2)
  · have hy : scope.names.lookup y = some .cell ∨ scope.names.lookup y = some .free := hy
    rcases hy with hy | hy
    · exact cell_has hy
    · exact absurd rfl (S.nofree _ (PySem.mem_of_lookup hy))
  · exact Nat.le_of_lt (x.above y c (PySem.mem_of_lookup h))
  · have hi : i < vs.length := by
      unfold start at h2
      by_cases hi : i < vs.length
      · exact hi
      · rw [List.getElem?_append_right (by simpa using hi)] at h2
        rw [List.getElem?_replicate] at h2
        split at h2 <;> cases h2
    have ha : vs[i]? = some v := by
      unfold start at h2
      rw [List.getElem?_append_left (by simpa using hi), List.getElem?_map] at h2
      cases e : vs[i]? with
      | none => rw [e] at h2; cases h2
      | some a => rw [e] at h2; cases h2; rfl
    obtain ⟨u, hu, rv⟩ := r.get ha
    have hp : ps[i]? = some y := by
      rw [← S.pre, List.getElem?_take_of_lt (by omega)]; exact h1
    have ndP : ps.Nodup := by rw [← S.pre]; exact S.nd.sublist (List.take_sublist _ _)
    refine ⟨u, rv, ?_⟩
    rcases S.par y (List.mem_of_getElem? hp) with k | k
    · exact .inl ⟨k, bindL_get ndP hp hu k⟩
    · obtain ⟨c, e⟩ := cell_has (n := s.heap.objs.size + 1) k
      refine .inr ⟨.inl k, c, e, ?_⟩
      have q := x.cell y c e
      rw [bindC_get ndP hp hu (by show scope.names.lookup y ≠ _; rw [k]; decide)] at q
      exact q
  · exact e0.hok.fresh (Nat.le_of_lt (x.above y c (PySem.mem_of_lookup h)))
  · unfold start
    show _ = N.length
    rw [List.length_append, List.length_map, List.length_replicate]
    omega

/-- THE RULE: a def (or a method) of the text, by its body. The body's reading t is chosen for each entry; it is run at the parameters' values -/
theorem fn_of {CX : CXT} {P : Program} {w : World} {K : PySem.W.Frag} {mg : Str → Option Value} {base : Heap} {k : Nat} {f : Addr} {name qual : Str} {params : Arguments} {body : List Stmt} {scope : Scope} {dV kV doc pm cdv ct oc : Value} {an od : Option Addr}
    {osl : Array (Option Value)} {N ps : List Str} {sp : Sp} (lk : K.lookup f = some ⟨oc, od, .func (PySem.W.fnOf name qual params body scope dV kV doc pm an cdv ct), osl⟩) (hcd : PySem.W.codeIn K cdv qual = true) (S : FnScope N ps scope)
    (len : ∀ vs H Q E, sp vs H Q E → vs.length = ps.length)
    (hbody : ∀ (A : Around) (outer : List Env) (s : Shared) (H : Hp) (vs : List V) (Q : VK) (E : XK), Room k (A.deeper (envOfC qual scope s.heap.objs.size f cdv)) → sp vs H Q E →
      ∃ t, PSs (cxOf CX P w K mg base N qual scope f cdv A outer s H E) body t ∧ t { nx := fun _ H' => Q .non H', rt := Q } (start N vs) H) :
    FnOk P w K mg base CX (k + 1) f (PySem.W.fnOf name qual params body scope dV kV doc pm an cdv ct) ps sp := by
  refine ⟨len, fun A outer s H args us vs Q E hr e0 hb r hsp => ?_⟩
  have hl := len _ _ _ _ hsp
  have KX : K.In s.heap := e0.mod.kin.keeps fun b o e => (e0.bs b o e).1
  have lim : s.heap.NoLimit := e0.mod.nolimit.keeps fun b o e => (e0.bs b o e).1
  have hkind : ∀ y ∈ ps.zip us, scope.names.lookup y.1 = some .local ∨ (scope.names.lookup y.1 = some .cell ∧ ((cellsFrom (s.heap.objs.size + 1) scope.names []).lookup y.1).isSome = true) := fun ⟨n, v⟩ hy => by
    rcases S.par n (List.of_mem_zip hy).1 with q | q
    · exact .inl q
    · exact .inr ⟨q, PySem.W.cellsFrom_some _ _ _ (.inl q)⟩
  refine codeAny_call_function hr.depth (KX _ _ lk) rfl S.co S.gen rfl (PySem.W.codeRec_of KX hcd) (hb _ _ _ _ ?_)
  refine wpAny_newFunctionEnv_cells S.kind hkind fun env he s1 x => ?_
  subst he
  refine ⟨lim.keeps x.toInCall.keep, codeAny_func ?_⟩
  obtain ⟨t, ht, hq⟩ := hbody A outer s H vs Q E (hr.deeper _) hsp
  have I : Inv (cxOf CX P w K mg base N qual scope f cdv A outer s H E) [] (start N vs) H s1 := inv_start S hr.hd e0 hl r x
  refine wpAny_mono (ht [] s1 (start N vs) H _ I hq) (fun fl s' hs => ?_) fun e s' hs => hs
  have fin : ∀ {σ' : St} {H' : Hp} {v : V} {u : Value}, Inv (cxOf CX P w K mg base N qual scope f cdv A outer s H E) [] σ' H' s' → RelV v u → Q v H' → CE outer P w H s Q u s' :=
    fun {σ' H' v u} J rv q => ⟨v, H', J.os, J.bare, J.base, J.hok, rv, q⟩
  cases fl with
  | ret u =>
    obtain ⟨v, σ', H', J, rv, q⟩ := hs
    exact fin J rv q
  | next =>
    obtain ⟨σ', H', J, q⟩ := hs
    exact fin (v := V.non) (u := Value.none) J rfl q
  | brk =>
    obtain ⟨_, _, _, q⟩ := hs
    exact False.elim q
  | cont =>
    obtain ⟨_, _, _, q⟩ := hs
    exact False.elim q
end L2

namespace L2
open PySem PySem.Spec PyProof.Rows
section
variable {X : Cx} {x : Str} {p pos : Pos} {e : Expr} {es : List Expr} {t : TA} {id T : String} {r : List V → Hp → VK → Prop}

def tCB (r : List V → Hp → VK → Prop) (t : TA) : TE := fun σ H Q => t σ H fun vs H1 => r vs H1 Q
/-- f(e, ..), f a built-in function -/
theorem pe_callB (hc : CallR X (.builtin id) r) (hg : Gl X x) (hm : X.mg x = none) (hv : bootBuiltins x = some (.builtin id)) (ha : PA X (e :: es) t) (hn : x ≠ "__name__" := by decide) (hdb : (x == ("__debug__" : Str)) = false := by decide)
    (he : starEach (e :: es) X.env = (false, eval e X.env) :: starEach es X.env := by rfl) (hpl : (backTo pos (starEach es X.env)).any (·.1) = false := by rfl) : PE X (.Call (.Name x p) (e :: es) [] pos) (tCB r t) := by
  intro pins s σ H Q I h
  refine wpAny_Call_Name_kw (ld_blt I hg hm hv ?_ hn hdb)
  exact PyProof.Rows.callWith_builtin1 (thn (ha pos pins s σ H _ I h) fun us s1 ⟨vs, H1, I1, r1, q1⟩ => hc pins s1 σ H1 vs us Q I1 r1 q1) he hpl
/-- T(e, ..), T a built-in type -/
theorem pe_callTy (hc : CallR X (.type T) r) (hg : Gl X x) (hm : X.mg x = none) (hv : bootBuiltins x = some (.type T)) (ha : PA X (e :: es) t) (hn : x ≠ "__name__" := by decide) (hdb : (x == ("__debug__" : Str)) = false := by decide)
    (he : starEach (e :: es) X.env = (false, eval e X.env) :: starEach es X.env := by rfl) (hpl : (backTo pos (starEach es X.env)).any (·.1) = false := by rfl) : PE X (.Call (.Name x p) (e :: es) [] pos) (tCB r t) := by
  intro pins s σ H Q I h
  refine wpAny_Call_Name_kw (ld_blt I hg hm hv ?_ hn hdb)
  exact PyProof.Rows.callWith_type1 (thn (ha pos pins s σ H _ I h) fun us s1 ⟨vs, H1, I1, r1, q1⟩ => hc pins s1 σ H1 vs us Q I1 r1 q1) he hpl
end
end L2

namespace HT
open PySem PyProof.Rows

section
open PySem.SeqAt
open PySem.AutoSeq1 (wpAny_loadPart')
open PySem.MeetsSeq PySem.MeetsSeq2 PySem.MeetsSeq3

end

section
variable {prog : Program} {w : World} {A : Around} {E : Value → Shared → Prop} {s : Shared}

/-! ### t[a:b], not the whole -/
end
end HT

namespace L2
open PySem PySem.Spec PyProof.Rows

/-! ### the parts of a slice -/
section
variable {X : Cx} {e : Expr} {te : TE} {lo hi : Option Expr} {tl th : TO} {pos p2 : Pos}

/-! ### t < u, t + u -/
end
end L2

namespace L2
open PySem PySem.Spec PyProof.Rows

/-! ### places -/
/-- the place that an index of any sign means -/
def ixN (n : Nat) (i : Int) : Option Nat := if 0 ≤ i then (if i < n then some i.toNat else none) else if -(n : Int) ≤ i then some (i + n).toNat else none
def atI {α : Type} (xs : List α) (i : Int) : Option α := (ixN xs.length i).bind fun j => xs[j]?
theorem ixN_seq {n : Nat} {i : Int} {j : Nat} (h : ixN n i = some j) : seqIndex? i n = some j ∧ j < n ∧ -(n : Int) ≤ i ∧ i < n := by
  unfold ixN at h
  by_cases h0 : 0 ≤ i
  · rw [if_pos h0] at h
    by_cases h1 : i < n
    · rw [if_pos h1] at h
      have e : i.toNat = j := Option.some.inj h
      exact ⟨by rw [seqIndex_of h0 h1, e], by omega, by omega, h1⟩
    · rw [if_neg h1] at h; cases h
  · rw [if_neg h0] at h
    by_cases h1 : -(n : Int) ≤ i
    · rw [if_pos h1] at h
      have e : (i + n).toNat = j := Option.some.inj h
      exact ⟨by rw [seqIndex_neg (by omega) h1, e], by omega, h1, by omega⟩
    · rw [if_neg h1] at h; cases h
theorem atI_get {α : Type} {xs : List α} {i : Int} {v : α} (h : atI xs i = some v) : ∃ j, seqIndex? i xs.length = some j ∧ xs[j]? = some v ∧ j < xs.length ∧ -(xs.length : Int) ≤ i ∧ i < xs.length := by
  unfold atI at h
  cases e : ixN xs.length i with
  | none => rw [e] at h; cases h
  | some j =>
    rw [e] at h
    obtain ⟨h1, h2, h3, h4⟩ := ixN_seq e
    exact ⟨j, h1, h, h2, h3, h4⟩
theorem atI_nat {α : Type} {xs : List α} {j : Nat} {v : α} (h : xs[j]? = some v) : atI xs (j : Int) = some v := by
  have hj : j < xs.length := (List.getElem?_eq_some_iff.mp h).1
  have e : ixN xs.length (j : Int) = some j := by
    unfold ixN
    rw [if_pos (by omega), if_pos (by omega)]; simp
  unfold atI; rw [e]; exact h
/-! ### what may be subscripted -/
/-- what stands as an index of a plain subscript -/
def PlainIx (b : Expr) : Prop := ∀ o i, subscripted b false o i = operate [o, i] (getItem o i)
/-- a subscript by values -/
def IxR (X : Cx) (r : R2) : Prop :=
  ∀ (value slice : Expr) (pins : List (Addr × Obj)) (s : Shared) (σ : St) (H : Hp) (x y : V) (v u : Value) (Q : VK), Inv X pins σ H s → RelV x v → RelV y u → r x y H Q →
    subscripted slice false v u = operate [v, u] (getItem v u) → wpAny (model X.prog X.w) X.A (subscriptTail value slice v u) (EP X pins σ Q) X.xe s
/-- a call of a builtin's method by values: the receiver, the arguments -/
def MtR (X : Cx) (id : String) (r : V → List V → Hp → VK → Prop) : Prop :=
  ∀ (pins : List (Addr × Obj)) (s : Shared) (σ : St) (H : Hp) (x : V) (xs : List V) (v : Value) (us : List Value) (Q : VK), Inv X pins σ H s → RelV x v → Vals xs us → r x xs H Q →
    wpAny (model X.prog X.w) X.A (call (.builtin id) (v :: us)) (EP X pins σ Q) X.xe s
section
variable {X : Cx} {a b : Expr} {ta tb : TE} {pos : Pos}
/-- a[b] -/
theorem pe_ix {r : R2} (hr : IxR X r) (ha : PE X a ta) (hb : PE X b tb) (hs : PlainIx b) : PE X (.Subscript a b pos) (tOp r ta tb) := by
  intro pins s σ H Q I h
  exact Subscript_ (binT ha hb I h fun v u s2 x y H2 I2 rx ry q => hr a b pins s2 σ H2 x y v u Q I2 rx ry q (hs _ _))

def rIxL (K : PySem.W.Frag) : R2 := fun x y H Q => ∃ p xs i v, x = .ref p ∧ y = .int i ∧ SqL K H p xs ∧ atI xs i = some v ∧ Q v H
def rIxT (K : PySem.W.Frag) : R2 := fun x y H Q => ∃ p xs i v, x = .ref p ∧ y = .int i ∧ SqT K H p xs ∧ atI xs i = some v ∧ Q v H
theorem ix_list : IxR X (rIxL X.K) := by
  intro value slice pins s σ H x y v u Q I rx ry h hs
  obtain ⟨p, xs, i, z, rfl, rfl, hq, he, q⟩ := h
  cases rx
  obtain ⟨t, rfl⟩ := ry
  obtain ⟨its, r, pl, hz⟩ := I.list hq
  obtain ⟨j, h1, h2, h3, h4, h5⟩ := atI_get he
  obtain ⟨w, ew, rw'⟩ := r.get h2
  have hl := r.length
  have hn := line63
  have fin : EP X pins σ Q w s := ⟨z, H, I, rw', q⟩
  by_cases h0 : 0 ≤ i
  · have hj : i.toNat = j := by
      rw [seqIndex_of h0 h5] at h1
      exact Option.some.inj h1
    exact item_listR pl.isList h0 (by omega) (by rw [hj]; simpa using ew) fin hs
  · have hj : (i + (its.toArray.size : Int)).toNat = j := by
      rw [seqIndex_neg (by omega) h4] at h1
      rw [List.size_toArray, ← hl]
      exact Option.some.inj h1
    exact subscriptTail_builtinR (x := w) pl.isList.typeIs slot_list_getitem.lookup
      (wpAny_getItem_list_neg (Q := fun r s' => r = w ∧ EP X pins σ Q r s') pl.isList (by omega) (by rw [List.size_toArray] <;> omega) (by omega) (by rw [hj]; simpa using ew) ⟨rfl, fin⟩) hs
theorem ix_tup : IxR X (rIxT X.K) := by
  intro value slice pins s σ H x y v u Q I rx ry h hs
  obtain ⟨p, xs, i, z, rfl, rfl, hq, he, q⟩ := h
  cases rx
  obtain ⟨t, rfl⟩ := ry
  obtain ⟨its, r, pl, hz⟩ := I.tuple hq
  obtain ⟨j, h1, h2, h3, h4, h5⟩ := atI_get he
  obtain ⟨w, ew, rw'⟩ := r.get h2
  have hl := r.length
  have hn := line63
  have fin : EP X pins σ Q w s := ⟨z, H, I, rw', q⟩
  exact subscriptTail_builtinR (x := w) pl.typeIs slot_tuple_getitem.lookup
    (getItem_tuple (j := j) (Q := fun r s' => r = w ∧ EP X pins σ Q r s') pl (by omega) (by omega) (by rw [List.size_toArray, ← hl]; exact h1) (by simpa using ew) ⟨rfl, fin⟩) hs
/-! ### xs[i] = v, any sign -/
/-- the list's object behind a store -/
theorem mapSeq_set (its : List Value) (n j : Nat) (u : Value) : Obj.mapSeq (·.setIfInBounds j u) { cls := .type "list", data := .seq its.toArray n } = { cls := .type "list", data := .seq (its.set j u).toArray n } := by
  simp [Obj.mapSeq]
theorem Inv.lst {pins : List (Addr × Obj)} {σ : St} {H : Hp} {s : Shared} {p : Addr} {xs : List V} (I : Inv X pins σ H s) (h : H p = some (.lst xs)) :
    ∃ (its : List Value) (n : Nat), Vals xs its ∧ s.heap.get? p = some { cls := .type "list", data := .seq its.toArray n } ∧ xs.length ≤ sizeLine := by
  obtain ⟨z, its, n, r, e⟩ := I.hok p _ h
  exact ⟨its, n, r, e, z⟩
/-- the list at p is written by an update of its object -/
theorem Inv.lstUpd {pins : List (Addr × Obj)} {σ : St} {H : Hp} {s : Shared} {p : Addr} {xs ys : List V} {its its' : List Value} {n n' : Nat} {f : Obj → Obj} (I : Inv X pins σ H s) (h : H p = some (.lst xs))
    (ho : s.heap.get? p = some { cls := .type "list", data := .seq its.toArray n }) (hf : f { cls := .type "list", data := .seq its.toArray n } = { cls := .type "list", data := .seq its'.toArray n' }) (r : Vals ys its') (hz : ys.length ≤ sizeLine) (t : Nat) :
    Inv X pins σ (upd H p (.lst ys)) { s with heap := s.heap.update p f, toks := t } := by
  have e : (s.heap.update p f).get? p = some { cls := .type "list", data := .seq its'.toArray n' } := by
    rw [Heap.get?_update_self f ho (by rw [hf] <;> rfl), hf]
  refine I.write (x := p) (e := p) (by rw [h]; trivial) (.inl rfl) (fun b u hb q => (Heap.get?_update_other _ _ (Ne.symm hb)).trans q) ⟨_, e⟩ ?_
  exact ⟨hz, its', n', r, e⟩
def rSetL : V → V → V → Hp → (Hp → Prop) → Prop := fun o i v H Q => ∃ p xs k j, o = .ref p ∧ i = .int k ∧ H p = some (.lst xs) ∧ ixN xs.length k = some j ∧ Q (upd H p (.lst (xs.set j v)))
theorem set_list : PSet X rSetL := by
  intro pins s σ H o i v ov iv u Q I ro ri rv h
  obtain ⟨p, xs, k, j, rfl, rfl, hp, hj, q⟩ := h
  cases ro
  obtain ⟨t, rfl⟩ := ri
  obtain ⟨its, n, r, ho, hz⟩ := I.lst hp
  obtain ⟨h1, h2, h3, h4⟩ := ixN_seq hj
  have hl := r.length
  have hn := line63
  have I' : Inv X pins σ (upd H p (.lst (xs.set j v))) { s with heap := s.heap.update p (Obj.mapSeq (·.setIfInBounds j u)) } :=
    I.lstUpd hp ho (mapSeq_set its n j u) (r.set rv j) (by rw [List.length_set]; exact hz) s.toks
  by_cases h0 : 0 ≤ k
  · have hk : k.toNat = j := by
      rw [seqIndex_of h0 h4] at h1
      exact Option.some.inj h1
    exact PySem.W.ki_setAt ho h0 (by omega) (by rw [List.size_toArray, ← hl]; exact h4) (by rw [hk]; exact ⟨_, I', q⟩)
  · have hk : (k + (its.toArray.size : Int)).toNat = j := by
      rw [seqIndex_neg (by omega) h3] at h1
      rw [List.size_toArray, ← hl]
      exact Option.some.inj h1
    exact PySem.W.ki_setBack ho (by omega) (by rw [List.size_toArray, ← hl]; exact h3) (by omega) (by rw [hk]; exact ⟨_, I', q⟩)

/-! ### slices -/
/-! ### in, not in: flat items -/
/-! ### len, list(x), tuple(x) of any list or tuple that is read -/
theorem call_len_seq : CallR X (.builtin "len") (fun xs H Q => ∃ p ys, xs = [.ref p] ∧ (SqL X.K H p ys ∨ SqT X.K H p ys) ∧ Q (.int ys.length) H) := by
  intro pins s σ H xs us Q I r h
  obtain ⟨p, ys, rfl, hq, q⟩ := h
  obtain ⟨u, rfl, rx⟩ := vals1 r
  cases rx
  have hn := line63
  rcases hq with hq | hq
  · obtain ⟨its, r', pl, hz⟩ := I.list hq
    have hlen := r'.length
    exact Calls.call_len_list pl.isList (by simp only [List.size_toArray] <;> omega) ⟨.int ys.length, H, I.tok _, ⟨s.toks + 1, by rw [List.size_toArray, hlen]⟩, q⟩
  · obtain ⟨its, r', pl, hz⟩ := I.tuple hq
    have hlen := r'.length
    exact len_tuple pl (by simp only [List.size_toArray] <;> omega) ⟨.int ys.length, H, I.tok _, ⟨s.toks + 1, by rw [List.size_toArray, hlen]⟩, q⟩
theorem call_list_of : CallR X (.type "list") (fun xs H Q => ∃ p ys, xs = [.ref p] ∧ (SqL X.K H p ys ∨ SqT X.K H p ys) ∧ ∀ l, H l = none → Q (.ref l) (upd H l (.lst ys))) := by
  intro pins s σ H xs us Q I r h
  obtain ⟨p, ys, rfl, hq, q⟩ := h
  obtain ⟨u, rfl, rx⟩ := vals1 r
  cases rx
  have fin : ∀ (its : List Value), Vals ys its → ys.length ≤ sizeLine → ∀ (h' : Heap) (c' : Nat), (∀ b o', s.heap.get? b = some o' → h'.get? b = some o') →
      h'.get? s.heap.objs.size = some { cls := .type "list", dict := none, data := .seq its.toArray c', slots := #[] } → EP X pins σ Q (.ref s.heap.objs.size) { s with heap := h' } := fun its r' hz h' c' kp e =>
    ⟨.ref s.heap.objs.size, _, I.laid (t' := s.toks) kp (Nat.le_refl _) (show ObjOk X.prog X.w _ h' _ (.lst ys) from ⟨hz, its, c', r', e⟩), rfl, q _ (I.hok.fresh (Nat.le_refl _))⟩
  rcases hq with hq | hq
  · obtain ⟨its, r', pl, hz⟩ := I.list hq
    have hlen := r'.length
    obtain ⟨o, ho, hc, n, hd⟩ := pl.isList
    exact call_list_seq p (.inl rfl) ho hc hd (fun h' c' kp e => fin its r' hz h' c' kp e) (by simp only [List.size_toArray] <;> omega)
  · obtain ⟨its, r', pl, hz⟩ := I.tuple hq
    have hlen := r'.length
    obtain ⟨o, ho, hc, n, hd⟩ := pl
    exact call_list_seq p (.inr rfl) ho hc hd (fun h' c' kp e => fin its r' hz h' c' kp e) (by simp only [List.size_toArray] <;> omega)
/-! ### the call of a builtin's method: o.m(..) -/
/-- the value is of that builtin type -/
def tyV (K : PySem.W.Frag) (T : String) (x : V) (H : Hp) : Prop := match x with
  | .str _ => T = "str"
  | .int _ => T = "int"
  | .ref p => (T = "list" ∧ ∃ xs, SqL K H p xs) ∨ (T = "tuple" ∧ ∃ o, K.lookup p = some o ∧ o.cls = .type "tuple" ∧ o.dict = none) ∨
      (T = "dict" ∧ ((∃ kvs, H p = some (.dK kvs)) ∨ ∃ kvs, H p = some (.dT kvs))) ∨ (T = "set" ∧ ∃ S n, H p = some (.set S n))
  | _ => False
theorem tyV_is {pins : List (Addr × Obj)} {σ : St} {H : Hp} {s : Shared} {T : String} {x : V} {v : Value} (I : Inv X pins σ H s) (r : RelV x v) (ty : tyV X.K T x H) :
    s.TypeIs v T ∧ ∀ a, v = .ref a → ∃ ob, s.heap.get? a = some ob ∧ ob.dict = none := by
  cases x with
  | str z =>
    obtain ⟨t, rfl⟩ := r
    cases (show T = "str" from ty)
    exact ⟨typeIs_str s z t, fun _ e => nomatch e⟩
  | int i =>
    obtain ⟨t, rfl⟩ := r
    cases (show T = "int" from ty)
    exact ⟨typeIs_int s i t, fun _ e => nomatch e⟩
  | ref p =>
    cases r
    rcases ty with ⟨rfl, xs, hq⟩ | ⟨rfl, o, hk, hc, hd⟩ | ⟨rfl, hk⟩ | ⟨rfl, S, n, hk⟩
    · obtain ⟨its, _, pl, _⟩ := I.list hq
      refine ⟨pl.isList.typeIs, fun a e => ?_⟩
      cases e
      obtain ⟨o, n, e, c, hd, _⟩ := pl
      exact ⟨o, e, hd⟩
    · refine ⟨⟨o, I.kIn p o hk, hc⟩, fun a e => ?_⟩
      cases e
      exact ⟨o, I.kIn _ o hk, hd⟩
    · have z : ∃ o, s.heap.get? p = some o ∧ o.ExactDict := by
        rcases hk with ⟨kvs, hk⟩ | ⟨kvs, hk⟩
        · obtain ⟨_, _, _, _, o, _, _, e, ex, _⟩ := I.hok p _ hk
          exact ⟨o, e, ex⟩
        · obtain ⟨_, _, _, _, o, _, _, e, ex, _⟩ := I.hok p _ hk
          exact ⟨o, e, ex⟩
      obtain ⟨o, e, ex⟩ := z
      refine ⟨⟨o, e, ex.1⟩, fun a e2 => ?_⟩
      cases e2
      exact ⟨o, e, ex.2.1⟩
    · obtain ⟨o, _, _, _, e, ex, _⟩ := I.hok p _ hk
      refine ⟨⟨o, e, ex.1⟩, fun a e2 => ?_⟩
      cases e2
      exact ⟨o, e, ex.2.1⟩
  | _ => exact False.elim ty
def tBM0 (K : PySem.W.Frag) (T : String) (r : V → List V → Hp → VK → Prop) (to : TE) : TE := fun σ H Q => to σ H fun x H1 => tyV K T x H1 ∧ r x [] H1 Q
def tBM (K : PySem.W.Frag) (T : String) (r : V → List V → Hp → VK → Prop) (to : TE) (t : TA) : TE := fun σ H Q => to σ H fun x H1 => tyV K T x H1 ∧ t σ H1 fun xs H2 => r x xs H2 Q
variable {o e : Expr} {es : List Expr} {to : TE} {t : TA} {name : Str} {apos cpos : Pos} {T id : String} {r : V → List V → Hp → VK → Prop}
theorem pe_bm0 (pa : PlainAttrs T) (slot : Slot T name id) (hty : typeOf (.builtin id) = pure (.type "method_descriptor")) (hm : MtR X id r) (ho : PE X o to)
    (hbase : attributeBase o name X.env (eval o X.env) = eval o X.env := by rfl) (hline : (apos.endLine == cpos.line) = true := by rfl) : PE X (.Call (.Attribute o name apos) [] [] cpos) (tBM0 X.K T r to) := by
  intro pins s σ H Q I h
  refine wpAny_Call_method0_late hbase hline (thn (ho pins s σ H _ I h) fun v s1 ⟨x, H1, I1, r1, ty, q1⟩ => ?_)
  obtain ⟨h1, h2⟩ := tyV_is I1 r1 ty
  exact ⟨T, id, pa, slot, hty, h1, h2, Calls.callWith_builtin rfl (PySem.evalArgs_none (hm pins s1 σ H1 x [] v [] Q I1 r1 .nil q1))⟩
theorem pe_bm (pa : PlainAttrs T) (slot : Slot T name id) (hty : typeOf (.builtin id) = pure (.type "method_descriptor")) (hm : MtR X id r) (ho : PE X o to) (ha : PA X (e :: es) t)
    (hbase : attributeBase o name X.env (eval o X.env) = eval o X.env := by rfl)
    (hfew : ((backTo cpos (starEach (e :: es) X.env)).all (fun x => !x.1) && (backToKw cpos (keywordEach [] X.env)).all (fun x => x.1.isSome)
      && decide ((e :: es).length + ([] : List Keyword).length + (if ([] : List Keyword).isEmpty then 0 else 1) < 30)) = true := by rfl)
    (hline : (apos.endLine == cpos.line) = true := by rfl) (hs : starEach (e :: es) X.env = (false, eval e X.env) :: starEach es X.env := by rfl) (hplain : (backTo cpos (starEach es X.env)).any (·.1) = false := by rfl) :
    PE X (.Call (.Attribute o name apos) (e :: es) [] cpos) (tBM X.K T r to t) := by
  intro pins s σ H Q I h
  refine wpAny_Call_method_late hbase hfew hline rfl (thn (ho pins s σ H _ I h) fun v s1 ⟨x, H1, I1, r1, ty, q1⟩ => ?_)
  obtain ⟨h1, h2⟩ := tyV_is I1 r1 ty
  refine ⟨T, id, pa, slot, hty, h1, h2, ?_⟩
  have hA := ha cpos pins s1 σ H1 _ I1 q1
  rw [hs] at hA ⊢
  refine Calls.callWith_builtin (by show (false || (backTo cpos (starEach es X.env)).any (·.1)) = false; rw [hplain] <;> rfl) (Calls.evalArgs_plain ?_)
  exact thn hA fun us s2 ⟨vs, H2, I2, r2, q2⟩ => hm pins s2 σ H2 x vs v us Q I2 r1 r2 q2
/- xs.append(e), list.index on a module's tuple .. are MtR facts of 06m -/
end
end L2

namespace L2
open PySem PySem.Spec PyProof.Rows

def MtM (X : Cx) (id : String) (r : V → List V → Hp → VK → Prop) : Prop :=
  ∀ (pins : List (Addr × Obj)) (s : Shared) (σ : St) (H : Hp) (x : V) (xs : List V) (v : Value) (us : List Value) (Q : VK), Inv X pins σ H s → RelV x v → Vals xs us → r x xs H Q →
    wpAny (model X.prog X.w) X.A (call (.builtin id) (v :: us)) (EP X pins σ Q) X.xe s

/-! ### lists of values -/
theorem Vals.one : ∀ {x : V} {us : List Value}, Vals [x] us → ∃ u, us = [u] ∧ RelV x u
  | _, _, .cons r .nil => ⟨_, rfl, r⟩
theorem Vals.two : ∀ {x y : V} {us : List Value}, Vals [x, y] us → ∃ u v, us = [u, v] ∧ RelV x u ∧ RelV y v
  | _, _, _, .cons r (.cons q .nil) => ⟨_, _, rfl, r, q⟩
theorem Vals.zero : ∀ {us : List Value}, Vals [] us → us = []
  | _, .nil => rfl
theorem Vals.dropLast {xs : List V} {us : List Value} (h : Vals xs us) : Vals xs.dropLast us.dropLast := by
  induction h with
  | nil => exact .nil
  | cons r t ih =>
    cases t with
    | nil => exact .nil
    | cons q t' => exact .cons r ih
theorem erase_last {α : Type} (l : List α) : l.eraseIdx (l.length - 1) = l.dropLast := by
  induction l with
  | nil => rfl
  | cons a r ih =>
    cases r with
    | nil => rfl
    | cons b r =>
      have e : (a :: b :: r).length - 1 = ((b :: r).length - 1) + 1 := by
        have h1 : (a :: b :: r).length = r.length + 2 := rfl
        have h2 : (b :: r).length = r.length + 1 := rfl
        omega
      rw [e, List.eraseIdx_cons_succ, ih]
      all_goals rfl
section
variable {X : Cx} {pins : List (Addr × Obj)} {σ : St} {H : Hp} {s : Shared} {l b : Addr} {xs ys zs : List V}

/-! ### the two steps: a tracked list is rewritten, a new list is laid -/
theorem Inv.lset {its its' : List Value} {n : Nat} {f : Array Value → Array Value} {t' : Nat} (I : Inv X pins σ H s) (hH : H l = some (.lst xs))
    (e : s.heap.get? l = some { cls := .type "list", data := .seq its.toArray n }) (hf : f its.toArray = its'.toArray) (hv : Vals ys its') (hz : ys.length ≤ sizeLine) :
    Inv X pins σ (upd H l (.lst ys)) { s with heap := s.heap.update l (Obj.mapSeq f), toks := t' } := by
  have q := PySem.IsL.update e f
  rw [hf] at q
  refine I.write (x := l) (e := l) (by rw [hH]; exact trivial) (.inl rfl) (fun b' u hb hu => (Heap.get?_update_other s.heap (Obj.mapSeq f) (Ne.symm hb)).trans hu) ⟨_, q⟩ ?_
  exact ⟨hz, its', _, hv, q⟩
theorem Inv.lnew {its : List Value} {t' : Nat} (I : Inv X pins σ H s) (hv : Vals ys its) (hz : ys.length ≤ sizeLine) :
    Inv X pins σ (upd H s.heap.objs.size (.lst ys)) { s with heap := s.heap.push { cls := .type "list", data := .seq its.toArray }, toks := t' } :=
  I.laid (fun _ _ q => Heap.get?_push_of_some _ q) (Nat.le_refl _) ⟨hz, its, 0, hv, Heap.get?_push_size _ rfl⟩
theorem Inv.lstM (I : Inv X pins σ H s) (hH : H l = some (.lst xs)) : xs.length ≤ sizeLine ∧ ∃ (its : List Value) (n : Nat), Vals xs its ∧ xs.length = its.length ∧ s.heap.get? l = some { cls := .type "list", data := .seq its.toArray n } := by
  obtain ⟨z, its, n, r, e⟩ := I.hok l _ hH
  exact ⟨z, its, n, r, r.length, e⟩

theorem notLongL {n : Nat} (h : n ≤ sizeLine) : Builtin.List.listTooLong n = false := by
  unfold Builtin.List.listTooLong
  exact decide_eq_false (by omega)
end

section
variable {X : Cx}

/-! ### methods -/
def rAppend : V → List V → Hp → VK → Prop := fun x vs H Q => ∃ l xs y, x = .ref l ∧ vs = [y] ∧ H l = some (.lst xs) ∧ xs.length < sizeLine ∧ Q .non (upd H l (.lst (xs ++ [y])))
theorem mt_append : MtM X "list.append" rAppend := by
  intro pins s σ H x vs v us Q I rx rv h
  obtain ⟨l, xs, y, rfl, rfl, hH, hz, q⟩ := h
  cases rx
  obtain ⟨u, rfl, ru⟩ := rv.one
  obtain ⟨z, its, n, r, hl, e⟩ := I.lstM hH
  refine call_meets F.slot_list_append ⟨_, e, rfl⟩ F.entry_list_append (F.args_list_append_2 _ _) (PySem.list_append l its.toArray n u (by rw [List.size_toArray]; omega)) ⟨e, ?_⟩
  refine ⟨.non, _, I.lset (its' := its ++ [u]) hH e (by simp) (r.append (.cons ru .nil)) ?_, rfl, q⟩
  rw [List.length_append, List.length_singleton]
  omega

def rPop : V → List V → Hp → VK → Prop := fun x vs H Q => ∃ l xs y, x = .ref l ∧ vs = [] ∧ H l = some (.lst xs) ∧ xs[xs.length - 1]? = some y ∧ Q y (upd H l (.lst xs.dropLast))
theorem mt_pop : MtM X "list.pop" rPop := by
  intro pins s σ H x vs v us Q I rx rv h
  obtain ⟨l, xs, y, rfl, rfl, hH, hy, q⟩ := h
  cases rx
  have hus := rv.zero
  subst hus
  obtain ⟨z, its, n, r, hl, e⟩ := I.lstM hH
  obtain ⟨u, hu, ru⟩ := r.get hy
  have hy' : its.toArray[its.toArray.size - 1]? = some u := by
    show its.toArray[its.length - 1]? = some u
    rw [← Array.getElem?_toList, ← hl]
    exact hu
  refine call_meets F.slot_list_pop ⟨_, e, rfl⟩ F.entry_list_pop (F.args_list_pop_1 _) (MeetsSeq.list_pop_last l its.toArray n u hy' (by rw [List.size_toArray]; omega)) ⟨e, ?_⟩
  refine ⟨y, _, I.lset (its' := its.dropLast) hH e ?_ r.dropLast ?_, ru, q⟩
  · show its.toArray.eraseIdxIfInBounds (its.toArray.size - 1) = its.dropLast.toArray
    rw [List.size_toArray, List.eraseIdxIfInBounds_toArray, erase_last]
  · rw [List.length_dropLast]
    omega

/-! ### list + list, list += list, list * int -/
/-! ### del xs[i] -/
end

/-! ### xs[a:b] = ys -/
section
variable {prog : Program} {w : World} {A : Around} {E : Value → Shared → Prop} {s : Shared}
end

section
variable {X : Cx}
end
end L2

namespace L2
open PySem PySem.Spec PyProof.Rows

/-! ### lists of pairs as tables -/
section
variable {κ : Type} [DecidableEq κ]
def valV (kvs : List (κ × V)) (k : κ) : Option V := (kvs.find? fun kv => decide (kv.1 = k)).map (·.2)
/-- in its place, or at the end -/
def putK (kvs : List (κ × V)) (k : κ) (v : V) : List (κ × V) :=
  if (kvs.any fun kv => decide (kv.1 = k)) = true then kvs.map (fun kv => if kv.1 = k then (kv.1, v) else kv) else kvs ++ [(k, v)]
def dropK (kvs : List (κ × V)) (k : κ) : List (κ × V) := kvs.filter fun kv => decide (kv.1 ≠ k)

theorem valV_pos {p : κ × V} {r : List (κ × V)} {k : κ} (e : p.1 = k) : valV (p :: r) k = some p.2 := by simp [valV, List.find?_cons, e]
theorem valV_neg {p : κ × V} {r : List (κ × V)} {k : κ} (e : ¬ p.1 = k) : valV (p :: r) k = valV r k := by simp [valV, List.find?_cons, e]
theorem valV_any (k : κ) : ∀ kvs : List (κ × V), (kvs.any fun kv => decide (kv.1 = k)) = (valV kvs k).isSome
  | [] => rfl
  | p :: r => by
    rw [List.any_cons]
    by_cases e : p.1 = k
    · simp only [valV_pos e, decide_eq_true e, Bool.true_or, Option.isSome_some]
    · rw [valV_neg e, decide_eq_false e, Bool.false_or]; exact valV_any k r
theorem valV_map (k j : κ) (y : V) : ∀ kvs : List (κ × V), valV (kvs.map fun kv => if kv.1 = k then (kv.1, y) else kv) j = (valV kvs j).map fun x => if j = k then y else x
  | [] => rfl
  | p :: r => by
    have ih := valV_map k j y r
    rw [List.map_cons]
    by_cases h : p.1 = k
    · rw [if_pos h]
      by_cases e : p.1 = j
      · rw [valV_pos (p := (p.1, y)) e, valV_pos e, Option.map_some, if_pos (e.symm.trans h)]
      · rw [valV_neg (p := (p.1, y)) e, valV_neg e, ih]
    · rw [if_neg h]
      by_cases e : p.1 = j
      · rw [valV_pos (p := p) e, valV_pos e, Option.map_some, if_neg (fun z => h (e.trans z))]
      · rw [valV_neg (p := p) e, valV_neg e, ih]
theorem valV_snoc (k j : κ) (y : V) : ∀ kvs : List (κ × V), valV kvs k = none → valV (kvs ++ [(k, y)]) j = if j = k then some y else valV kvs j
  | [], _ => by
    by_cases e : k = j
    · rw [if_pos e.symm]; exact valV_pos (p := (k, y)) e
    · rw [if_neg (fun z => e z.symm)]; exact valV_neg (p := (k, y)) e
  | p :: r, hn => by
    rw [List.cons_append]
    have hk : ¬ p.1 = k := fun z => by rw [valV_pos z] at hn; cases hn
    rw [valV_neg hk] at hn
    have ih := valV_snoc k j y r hn
    by_cases e : p.1 = j
    · rw [valV_pos e, valV_pos e, if_neg (fun z => hk (e.trans z))]
    · rw [valV_neg e, valV_neg e, ih]
theorem valV_put (kvs : List (κ × V)) (k j : κ) (y : V) : valV (putK kvs k y) j = if j = k then some y else valV kvs j := by
  unfold putK
  by_cases a : (kvs.any fun kv => decide (kv.1 = k)) = true
  · rw [if_pos a, valV_map]
    rw [valV_any] at a
    by_cases e : j = k
    · obtain ⟨x, hx⟩ := Option.isSome_iff_exists.mp a
      rw [if_pos e, e, hx, Option.map_some, if_pos rfl]
    · rw [if_neg e]
      cases valV kvs j with
      | none => rfl
      | some x => rw [Option.map_some, if_neg e]
  · rw [if_neg a]
    refine valV_snoc k j y kvs ?_
    rw [valV_any] at a
    cases q : valV kvs k with
    | none => rfl
    | some x => rw [q] at a; exact (a rfl).elim
theorem length_putK (kvs : List (κ × V)) (k : κ) (v : V) : (putK kvs k v).length ≤ kvs.length + 1 := by
  unfold putK
  split
  · rw [List.length_map]; omega
  · rw [List.length_append, List.length_cons, List.length_nil]; omega
theorem RelO.isSome_eq {o : Option V} {u : Option Value} (r : RelO o u) : o.isSome = u.isSome := by
  cases o with
  | none => cases u with
    | none => rfl
    | some _ => exact (show False from r).elim
  | some _ => cases u with
    | none => exact (show False from r).elim
    | some _ => rfl
/-- raw tables of the same keys -/
theorem KV.val {kvs : List (κ × V)} {vs : List (κ × Value)} (r : KV kvs vs) (k : κ) : RelO (valV kvs k) (valueAt vs k) := by
  unfold KV at r
  induction r with
  | nil => exact True.intro
  | @cons p q ps qs h t ih =>
    obtain ⟨h1, h2⟩ := h
    by_cases e : p.1 = k
    · have e' : q.1 = k := h1.symm.trans e
      have b : valueAt (q :: qs) k = some q.2 := by simp [valueAt, List.find?_cons, e']
      rw [valV_pos e, b]; exact h2
    · have e' : ¬ q.1 = k := fun z => e (h1.trans z)
      have b : valueAt (q :: qs) k = valueAt qs k := by simp [valueAt, List.find?_cons, e']
      rw [valV_neg e, b]; exact ih
theorem KV.any {kvs : List (κ × V)} {vs : List (κ × Value)} (r : KV kvs vs) (k : κ) : (kvs.any fun kv => decide (kv.1 = k)) = vs.any fun kv => decide (kv.1 = k) := by
  unfold KV at r
  induction r with
  | nil => rfl
  | cons h t ih => rw [List.any_cons, List.any_cons, ih, h.1]
theorem KV.repl {kvs : List (κ × V)} {vs : List (κ × Value)} (r : KV kvs vs) (k : κ) {y : V} {u : Value} (ry : RelV y u) :
    KV (kvs.map fun kv => if kv.1 = k then (kv.1, y) else kv) (vs.map fun kv => if kv.1 = k then (kv.1, u) else kv) := by
  unfold KV at r ⊢
  induction r with
  | nil => exact .nil
  | @cons p q ps qs h t ih =>
    rw [List.map_cons, List.map_cons]
    refine .cons ?_ ih
    obtain ⟨h1, h2⟩ := h
    by_cases e : p.1 = k
    · rw [if_pos e, if_pos (h1.symm.trans e)]; exact ⟨h1, ry⟩
    · rw [if_neg e, if_neg (fun z => e (h1.trans z))]; exact ⟨h1, h2⟩
theorem KV.put {kvs : List (κ × V)} {vs : List (κ × Value)} (r : KV kvs vs) (k : κ) {y : V} {u : Value} (ry : RelV y u) : KV (putK kvs k y) (stored vs k u) := by
  unfold putK stored
  rw [r.any k]
  by_cases e : (vs.any fun kv => decide (kv.1 = k)) = true
  · rw [if_pos e, if_pos e]; exact r.repl k ry
  · rw [if_neg e, if_neg e]; exact Paired.snoc r ⟨rfl, ry⟩
theorem KV.drop {kvs : List (κ × V)} {vs : List (κ × Value)} (r : KV kvs vs) (k : κ) : KV (dropK kvs k) (without vs k) := by
  unfold KV at r ⊢
  unfold dropK without
  induction r with
  | nil => exact .nil
  | @cons p q ps qs h t ih =>
    obtain ⟨h1, h2⟩ := h
    rw [List.filter_cons, List.filter_cons]
    by_cases e : p.1 = k
    · have a : ¬ decide (p.1 ≠ k) = true := by simp [e]
      have b : ¬ decide (q.1 ≠ k) = true := by simp [h1.symm.trans e]
      rw [if_neg a, if_neg b]; exact ih
    · have e' : ¬ q.1 = k := fun z => e (h1.trans z)
      have a : decide (p.1 ≠ k) = true := by simp [e]
      have b : decide (q.1 ≠ k) = true := by simp [e']
      rw [if_pos a, if_pos b]; exact .cons ⟨h1, h2⟩ ih
theorem KV.length {kvs : List (κ × V)} {vs : List (κ × Value)} (r : KV kvs vs) : kvs.length = vs.length := Paired.length r
theorem dropK_le (kvs : List (κ × V)) (k : κ) : (dropK kvs k).length ≤ kvs.length := List.length_filter_le _ _
end


/-! ### a tracked dict, its keys ints and texts or tuples of these -/
theorem kV_is {P : Program} {w : World} {k : Key} {u : Value} (r : RelV (kV k) u) : (mixKind P w).is k u = true := by
  cases k with
  | inl i => obtain ⟨t, e⟩ := (show ∃ t, u = Value.int i t from r); subst e; exact mixKind_int P w i t
  | inr x => obtain ⟨t, e⟩ := (show ∃ t, u = Value.str x t from r); subst e; exact mixKind_str P w x t
theorem items_are {P : Program} {w : World} : ∀ {ks : List Key} {us : List Value}, Vals (ks.map kV) us → ItemsAre (mixKind P w) ks us
  | [], _, r => by rw [List.map_nil] at r; cases r; exact .nil
  | k :: ks, _, r => by
    rw [List.map_cons] at r
    cases r with
    | cons h t => exact .cons (kV_is h) (items_are t)

/-- raw entries of a dict with tuple keys -/
abbrev KT (H : Hp) : List (List Key × V) → List (List Key × Addr × Value) → Prop := Paired fun p q => p.1 = q.1 ∧ H q.2.1 = some (.tup (p.1.map kV)) ∧ RelV p.2 q.2.2
theorem KT.val {H : Hp} {kvs : List (List Key × V)} {xs : List (List Key × Addr × Value)} (r : KT H kvs xs) (k : List Key) : RelO (valV kvs k) ((atKey xs k).map (·.2)) := by
  induction r with
  | nil => exact True.intro
  | @cons p q ps qs h t ih =>
    obtain ⟨h1, _, h2⟩ := h
    by_cases e : p.1 = k
    · have e' : q.1 = k := h1.symm.trans e
      have b : atKey (q :: qs) k = some q.2 := by simp [atKey, List.find?_cons, e']
      rw [valV_pos e, b]; exact h2
    · have e' : ¬ q.1 = k := fun z => e (h1.trans z)
      have b : atKey (q :: qs) k = atKey qs k := by simp [atKey, List.find?_cons, e']
      rw [valV_neg e, b]; exact ih
theorem KT.repl {H : Hp} {kvs : List (List Key × V)} {xs : List (List Key × Addr × Value)} (r : KT H kvs xs) (k : List Key) {y : V} {u : Value} (ry : RelV y u) :
    KT H (kvs.map fun kv => if kv.1 = k then (kv.1, y) else kv) (xs.map (putAt k u)) := by
  induction r with
  | nil => exact .nil
  | @cons p q ps qs h t ih =>
    rw [List.map_cons, List.map_cons]
    refine .cons ?_ ih
    obtain ⟨h1, h2, h3⟩ := h
    unfold putAt
    by_cases e : p.1 = k
    · rw [if_pos e, if_pos (h1.symm.trans e)]; exact ⟨h1, h2, ry⟩
    · rw [if_neg e, if_neg (fun z => e (h1.trans z))]; exact ⟨h1, h2, h3⟩
theorem KT.put {H : Hp} {kvs : List (List Key × V)} {xs : List (List Key × Addr × Value)} (r : KT H kvs xs) (k : List Key) {b : Addr} {y : V} {u : Value} (hb : H b = some (.tup (k.map kV))) (ry : RelV y u) :
    KT H (putK kvs k y) (storedH xs k b u) := by
  have e : (kvs.any fun kv => decide (kv.1 = k)) = (atKey xs k).isSome := by
    rw [valV_any, (r.val k).isSome_eq, Option.isSome_map]
  unfold putK storedH
  rw [e]
  by_cases q : (atKey xs k).isSome = true
  · rw [if_pos q, if_pos q]; exact r.repl k ry
  · rw [if_neg q, if_neg q]; exact Paired.snoc r ⟨rfl, hb, ry⟩
theorem KT.keeps {H H' : Hp} {kvs : List (List Key × V)} {xs : List (List Key × Addr × Value)} (r : KT H kvs xs) (ht : ∀ b ys, H b = some (.tup ys) → H' b = some (.tup ys)) : KT H' kvs xs :=
  Paired.mapP r fun _ _ z => ⟨z.1, ht _ _ z.2.1, z.2.2⟩

section
variable {P : Program} {w : World} {H : Hp} {h : Heap} {a : Addr}
theorem rd_of {u : HO} (ok : HOk P w H h) (e : Rd H a u) : ObjOk P w H h a u := e.ok ok
theorem dk_rd {kvs : List (Key × V)} (ok : HOk P w H h) (e : Rd H a (.dK kvs)) : kvs.length ≤ sizeLine ∧ (a == sysModules) = false ∧ ∃ vs, KV kvs vs ∧ h.DictOf (mixKind P w) a vs :=
  show ObjOk P w H h a (.dK kvs) from rd_of ok e
theorem dk_of {kvs : List (Key × V)} (ok : HOk P w H h) (e : H a = some (.dK kvs)) : kvs.length ≤ sizeLine ∧ (a == sysModules) = false ∧ ∃ vs, KV kvs vs ∧ h.DictOf (mixKind P w) a vs := dk_rd ok (.inl e)
/-- a tracked tuple of ints and texts is a key -/
theorem key_of {ks : List Key} (ok : HOk P w H h) (e : H a = some (.tup (ks.map kV))) : (tupleKind (mixKind P w)).is h ks a := by
  obtain ⟨_, its, r, o, h1, h2, n, h3⟩ := (show ObjOk P w H h a (.tup (ks.map kV)) from ok a _ e)
  exact ⟨o, its.toArray, n, h1, h2, h3, by simpa using items_are r⟩
theorem dt_rd {kvs : List (List Key × V)} (ok : HOk P w H h) (e : Rd H a (.dT kvs)) : kvs.length ≤ sizeLine ∧ (a == sysModules) = false ∧
    ∃ xs, KT H kvs xs ∧ h.DictOfH (tupleKind (mixKind P w)) a xs := by
  obtain ⟨z, y, xs, r, o, es, ep, h1, h2, h3, h4, h5⟩ := (show ObjOk P w H h a (.dT kvs) from rd_of ok e)
  refine ⟨z, y, xs, r, o, es, ep, h1, h2, h3, h4, fun x hx => ?_, h5⟩
  have all : ∀ {l : List (List Key × V)} {m : List (List Key × Addr × Value)}, KT H l m → ∀ x ∈ m, (tupleKind (mixKind P w)).is h x.1 x.2.1 := by
    intro l m q
    induction q with
    | nil => intro x hx; exact nomatch hx
    | @cons p q ps qs hq t ih =>
      intro x hx
      rcases List.mem_cons.mp hx with e | hx
      · subst e
        exact key_of ok (by rw [← hq.1]; exact hq.2.1)
      · exact ih x hx
  exact all r x hx
theorem dt_of {kvs : List (List Key × V)} (ok : HOk P w H h) (e : H a = some (.dT kvs)) : kvs.length ≤ sizeLine ∧ (a == sysModules) = false ∧
    ∃ xs, KT H kvs xs ∧ h.DictOfH (tupleKind (mixKind P w)) a xs := dt_rd ok (.inl e)
end

/-- what the dict at a holds at the key y -/
def DGet (H : Hp) (a : Addr) (y : V) (r : Option V) : Prop :=
  (∃ kvs k, Rd H a (.dK kvs) ∧ y = kV k ∧ r = valV kvs k) ∨ ∃ kvs k b, Rd H a (.dT kvs) ∧ y = .ref b ∧ H b = some (.tup (k.map kV)) ∧ r = valV kvs k
/-- the heap behind a[y] = v -/
def DPut (H : Hp) (a : Addr) (y v : V) (H' : Hp) : Prop :=
  (∃ kvs k, H a = some (.dK kvs) ∧ y = kV k ∧ kvs.length < sizeLine ∧ H' = upd H a (.dK (putK kvs k v))) ∨
  ∃ kvs k b, H a = some (.dT kvs) ∧ y = .ref b ∧ H b = some (.tup (k.map kV)) ∧ kvs.length < sizeLine ∧ H' = upd H a (.dT (putK kvs k v))
theorem DGet.k {H : Hp} {a : Addr} {kvs : List (Key × V)} {k : Key} (e : H a = some (.dK kvs)) : DGet H a (kV k) (valV kvs k) := .inl ⟨kvs, k, .inl e, rfl, rfl⟩
theorem DPut.k {H : Hp} {a : Addr} {kvs : List (Key × V)} {k : Key} {v : V} (e : H a = some (.dK kvs)) (hl : kvs.length < sizeLine) : DPut H a (kV k) v (upd H a (.dK (putK kvs k v))) := .inl ⟨kvs, k, e, rfl, hl, rfl⟩
section
variable {X : Cx} {pins : List (Addr × Obj)} {σ : St} {H : Hp} {s : Shared} {a : Addr} {y v : V} {u r : Value} {o : Option V} {A : Around} {E : Value → Shared → Prop}

theorem Inv.big (I : Inv X pins σ H s) : sysModules < s.heap.objs.size := by
  have h : mainGlobals < s.heap.objs.size := (I.mod.glob.keeps I.bk).lt
  exact Nat.lt_trans (by decide) h

/-- d[y], there -/
theorem d_getItem {Q : Value → Shared → Prop} (hu : A.units + 1 < cLine) (I : Inv X pins σ H s) (g : DGet H a y (some v)) (ry : RelV y u) (h : ∀ w' s', Inv X pins σ H s' → RelV v w' → Q w' s') :
    wpAny (model X.prog X.w) A (getItem (.ref a) u) Q E s := by
  rcases g with ⟨kvs, k, e, ey, l⟩ | ⟨kvs, k, b, e, ey, eb, l⟩
  · subst ey
    obtain ⟨z, hd, vs, rel, dd⟩ := dk_rd I.hok e
    obtain ⟨w', hw, rw'⟩ := RelO.some_of (v := v) (o := valueAt vs k) (by rw [l]; exact rel.val k)
    exact wpAny_getItem_of (kV_is ry) dd.mapOf hw (h w' _ (I.tok _) rw')
  · subst ey
    cases (show u = Value.ref b from ry)
    obtain ⟨z, hd, xs, rel, dd⟩ := dt_rd I.hok e
    obtain ⟨w', hw, rw'⟩ := RelO.some_of (v := v) (o := (atKey xs k).map (·.2)) (by rw [l]; exact rel.val k)
    obtain ⟨p, hp, hp2⟩ := Option.map_eq_some_iff.mp hw
    refine wpAny_getItem_heap (tupleKind_room_in1 hu) (key_of I.hok eb) dd hp ?_
    rw [hp2]
    exact h w' _ (I.tok _) rw'
/-- y in d -/
theorem d_in {Q : Value → Shared → Prop} (hu : A.units + 1 < cLine) (I : Inv X pins σ H s) (g : DGet H a y o) (ry : RelV y u) (h : ∀ s', Inv X pins σ H s' → Q (.bool o.isSome) s') :
    wpAny (model X.prog X.w) A (compareOp .In u (.ref a)) Q E s := by
  rcases g with ⟨kvs, k, e, ey, l⟩ | ⟨kvs, k, b, e, ey, eb, l⟩
  · subst ey
    obtain ⟨z, hd, vs, rel, dd⟩ := dk_rd I.hok e
    refine wpAny_in_of (kV_is ry) hd dd.mapOf ?_
    rw [← (rel.val k).isSome_eq, ← l]
    exact h _ (I.tok _)
  · subst ey
    cases (show u = Value.ref b from ry)
    obtain ⟨z, hd, xs, rel, dd⟩ := dt_rd I.hok e
    refine wpAny_in_heap (tupleKind_room_in1 hu) (key_of I.hok eb) hd dd ?_
    have q := (rel.val k).isSome_eq
    rw [Option.isSome_map] at q
    rw [← q, ← l]
    exact h _ (I.tok _)
/-- a dict's object is replaced -/
theorem d_write {h' : Heap} {t' : Nat} {ob : HO} (I : Inv X pins σ H s) (mu : Mut (H a)) (hs : Heap.SameBut a s.heap h') (he : ∃ q, h'.get? a = some q) (new : ObjOk X.prog X.w (upd H a ob) h' a ob) :
    Inv X pins σ (upd H a ob) { s with heap := h', toks := t' } :=
  I.write (x := a) (e := a) mu (.inl rfl) (fun b q hb z => (hs.2 b hb).trans z) he new
theorem dk_new {P : Program} {w : World} {H' : Hp} {h' : Heap} {kvs : List (Key × V)} {vs : List (Key × Value)} (z : kvs.length ≤ sizeLine) (hd : (a == sysModules) = false) (rel : KV kvs vs) (dd : h'.DictOf (mixKind P w) a vs) :
    ObjOk P w H' h' a (.dK kvs) := ⟨z, hd, vs, rel, dd⟩
/-- d[y] = v -/
theorem d_setItem {H' : Hp} {Q : Unit → Shared → Prop} (hu : A.units + 1 < cLine) (I : Inv X pins σ H s) (g : DPut H a y v H') (ry : RelV y u) (rv : RelV v r) (h : ∀ s', Inv X pins σ H' s' → Q () s') :
    wpAny (model X.prog X.w) A (setItem (.ref a) u r) Q E s := by
  rcases g with ⟨kvs, k, e, ey, l, eH⟩ | ⟨kvs, k, b, e, ey, eb, l, eH⟩
  · subst ey eH
    obtain ⟨z, hd, vs, rel, dd⟩ := dk_of I.hok e
    have hz : vs.length ≤ sizeLine := by rw [← rel.length]; exact z
    have hl : (putK kvs k v).length ≤ sizeLine := by have := length_putK kvs k v; omega
    refine wpAny_setItem_pairs (hsz := hz) (kV_is ry) dd fun h' dd' hs => h _ ?_
    have he : ∃ q, h'.get? a = some q := let ⟨q, _, _, hq, _⟩ := dd'; ⟨q, hq⟩
    exact d_write I (by rw [e]; exact True.intro) hs he (dk_new hl hd (rel.put k rv) dd')
  · subst ey eH
    cases (show u = Value.ref b from ry)
    obtain ⟨z, hd, xs, rel, dd⟩ := dt_of I.hok e
    have hz : xs.length ≤ sizeLine := by rw [← Paired.length rel]; exact z
    have hl : (putK kvs k v).length ≤ sizeLine := by have := length_putK kvs k v; omega
    refine wpAny_setItem_heap (hsz := hz) (tupleKind_room_in1 hu) (key_of I.hok eb) dd fun h' dd' hs => h _ ?_
    obtain ⟨q, es, ep, hq, h2, h3, h4, _, h5⟩ := dd'
    refine d_write I (by rw [e]; exact True.intro) hs ⟨q, hq⟩ ⟨hl, hd, _, (rel.put k eb rv).keeps fun c ys ec => ?_, q, es, ep, hq, h2, h3, h4, h5⟩
    rw [upd_ne (ne_of ec e (fun z => nomatch z))]
    exact ec
end

section
variable {X : Cx} {pins : List (Addr × Obj)} {σ : St} {H : Hp} {s : Shared} {a : Addr} {kvs : List (Key × V)} {k : Key} {u : Value} {A : Around} {E : Value → Shared → Prop}
/-- d.pop(k[, x]), there -/
theorem d_pop {v : V} {more : List Value} {Q : Value → Shared → Prop} (I : Inv X pins σ H s) (e : H a = some (.dK kvs)) (ry : RelV (kV k) u) (l : valV kvs k = some v) (hm : more = [] ∨ ∃ x, more = [x])
    (h : ∀ w' s', Inv X pins σ (upd H a (.dK (dropK kvs k))) s' → RelV v w' → Q w' s') : wpAny (model X.prog X.w) A (call (.builtin "dict.pop") (.ref a :: u :: more)) Q E s := by
  obtain ⟨z, hd, vs, rel, dd⟩ := dk_of I.hok e
  obtain ⟨w', hw, rw'⟩ := RelO.some_of (v := v) (o := valueAt vs k) (by rw [← l]; exact rel.val k)
  have hp : (keyPart u).isSome = true := by
    cases k with
    | inl i => obtain ⟨t, q⟩ := (show ∃ t, u = Value.int i t from ry); subst q; rfl
    | inr x => obtain ⟨t, q⟩ := (show ∃ t, u = Value.str x t from ry); subst q; rfl
  have ha : argsOk "dict.pop" ⟨.ref a :: u :: more, []⟩ := by
    rcases hm with q | ⟨x, q⟩
    · subst q; exact PySem.F.args_dict_pop_2 _ _
    · subst q; exact PySem.F.args_dict_pop_3 _ _ _
  refine call_meetsIn PySem.F.slot_dict_pop dd.typeIs PySem.F.entry_dict_pop ha (meets_dict_pop_there (mixKind X.prog X.w) a (kV_is ry) more hm hp)
    ⟨vs, w', dd, by rw [← rel.length]; exact z, hw, fun h' dd' hs => h w' _ ?_ rw'⟩
  have he : ∃ q, h'.get? a = some q := let ⟨q, _, _, hq, _⟩ := dd'; ⟨q, hq⟩
  exact d_write I (by rw [e]; exact True.intro) hs he (dk_new (Nat.le_trans (dropK_le kvs k) z) hd (rel.drop k) dd')
/-- d.pop(k, x), not there -/
theorem d_popD {r : Value} {Q : Value → Shared → Prop} (I : Inv X pins σ H s) (e : H a = some (.dK kvs)) (ry : RelV (kV k) u) (l : valV kvs k = none) (h : ∀ s', Inv X pins σ H s' → Q r s') :
    wpAny (model X.prog X.w) A (call (.builtin "dict.pop") [.ref a, u, r]) Q E s := by
  obtain ⟨z, hd, vs, rel, dd⟩ := dk_of I.hok e
  have hn : valueAt vs k = none := RelO.none_of (by rw [← l]; exact rel.val k)
  have hp : (keyPart u).isSome = true := by
    cases k with
    | inl i => obtain ⟨t, q⟩ := (show ∃ t, u = Value.int i t from ry); subst q; rfl
    | inr x => obtain ⟨t, q⟩ := (show ∃ t, u = Value.str x t from ry); subst q; rfl
  exact call_meetsIn PySem.F.slot_dict_pop dd.typeIs PySem.F.entry_dict_pop (PySem.F.args_dict_pop_3 _ _ _) (meets_dict_pop_default (mixKind X.prog X.w) a (kV_is ry) hd hp r) ⟨vs, dd, hn, h _ (I.tok _)⟩
end


/-! ### readings and rules -/
/-- the element of a subscription, not a slice -/
def NoSl (i : Expr) : Prop := ∀ ov iv, subscripted i false ov iv = operate [ov, iv] (getItem ov iv)
theorem subD_of {prog : Program} {w : World} {A : Around} {E : Value → Shared → Prop} {s : Shared} {env : Env} {value slice : Expr} {pos : Pos} {T id : String} {Q : Value → Shared → Prop}
    (hl : typeLookup (.type T) "__getitem__" = pure (some (.builtin id))) (hs : NoSl slice)
    (h : wpAny (model prog w) A (eval value env) (fun o s₁ => wpAny (model prog w) A (eval slice env) (fun i s₂ => s₂.TypeIs o T ∧ wpAny (model prog w) A (getItem o i) Q E s₂) E s₁) E s) :
    wpAny (model prog w) A (eval (.Subscript value slice pos) env) Q E s := by
  refine Subscript_ (wpAny_mono h (fun o s₁ h₁ => wpAny_mono h₁ (fun i s₂ h₂ => ?_) fun _ _ x => x) fun _ _ x => x)
  obtain ⟨hT, h₂⟩ := h₂
  unfold subscriptTail
  refine wpAny_bind ?_
  rw [getitemInPython_of_ne hT.not_modules]
  refine wpAny_bind (wpAny_specialOf hT hl ?_)
  have fin : wpAny (model prog w) A (subscripted slice false o i) (fun r s₃ => wpAny (model prog w) A (letTemporaryGo value o r >>= fun _ => pure r) Q E s₃) E s₂ := by
    rw [hs o i]
    exact wpAny_operating (wpAny_mono h₂ (fun r s₃ h₃ => wpAny_bind (wpAny_letTemporaryGo (wpAny_pure h₃))) fun _ _ x => x)
  first
    | exact wpAny_pure (wpAny_bind fin)
    | exact wpAny_bind (wpAny_pure (wpAny_bind fin))
    | exact wpAny_bind fin

theorem dict_typeIs {X : Cx} {pins : List (Addr × Obj)} {σ : St} {H : Hp} {s : Shared} {a : Addr} {y : V} {o : Option V} (I : Inv X pins σ H s) (g : DGet H a y o) : s.TypeIs (.ref a) "dict" := by
  rcases g with ⟨kvs, k, e, _, _⟩ | ⟨kvs, k, b, e, _, _, _⟩
  · obtain ⟨_, _, vs, _, dd⟩ := dk_rd I.hok e
    exact dd.typeIs
  · obtain ⟨_, _, xs, _, dd⟩ := dt_rd I.hok e
    exact dd.typeIs
/-- d[y] -/
def tDGet (td ty : TE) : TE := fun σ H Q => td σ H fun x H1 => ty σ H1 fun y H2 => ∃ a v, x = .ref a ∧ DGet H2 a y (some v) ∧ Q v H2
/-- y in d, y not in d -/
def tDIn (ty td : TE) : TE := fun σ H Q => ty σ H fun y H1 => td σ H1 fun x H2 => ∃ a o, x = .ref a ∧ DGet H2 a y o ∧ Q (.bl o.isSome) H2
/-- d[y] = v -/
def sDPut (td ty tv : TE) : TS := fun D σ H => tv σ H fun v H1 => td σ H1 fun x H2 => ty σ H2 fun y H3 => ∃ a H4, x = .ref a ∧ DPut H3 a y v H4 ∧ D.nx σ H4
section
variable {X : Cx} {o i e value : Expr} {pos pos' tpos : Pos} {td ty tv : TE}
theorem pe_dget (hu : X.A.units + 1 < cLine) (ho : PE X o td) (hi : PE X i ty) (hs : NoSl i) : PE X (.Subscript o i pos) (tDGet td ty) := by
  intro pins s σ H Q I h
  refine subD_of PySem.F.slot_dict_getitem.lookup hs (thn (ho pins s σ H _ I h) fun u s1 ⟨x, H1, I1, rx, q1⟩ => thn (hi pins s1 σ H1 _ I1 q1) fun iv s2 ⟨y, H2, I2, ry, a, v, ex, g, q2⟩ => ?_)
  subst ex
  obtain rfl : u = Value.ref a := rx
  exact ⟨dict_typeIs I2 g, d_getItem hu I2 g ry fun w' s3 I3 rw' => ⟨v, H2, I3, rw', q2⟩⟩
theorem pc_din (hu : X.A.units + 1 < cLine) (hi : PE X i ty) (ho : PE X o td) : PC X .In i o (tDIn ty td) := by
  intro pins s σ H Q I h
  refine thn (hi pins s σ H _ I h) fun iv s1 ⟨y, H1, I1, ry, q1⟩ => thn (ho pins s1 σ H1 _ I1 q1) fun u s2 ⟨x, H2, I2, rx, a, ov, ex, g, q2⟩ => ?_
  subst ex
  obtain rfl : u = Value.ref a := rx
  exact d_in hu I2 g ry fun s3 I3 => ⟨.bl ov.isSome, H2, I3, rfl, q2⟩
theorem ps_dput (hu : X.A.units + 1 < cLine) (ho : PE X o td) (hi : PE X i ty) (hv : PE X value tv) (hs : swapsWith value (some (.Subscript o i pos')) pos.line X.env = pure false) :
    PS X (.Assign [.Subscript o i pos'] value pos) (sDPut td ty tv) := by
  intro pins s σ H D I h
  refine wpAny_Assign_Subscript (thn (hv pins s σ H _ I h) fun r s1 ⟨v, H1, I1, rv, q1⟩ => thn (ho pins s1 σ H1 _ I1 q1) fun u s2 ⟨x, H2, I2, rx, q2⟩ => thn (hi pins s2 σ H2 _ I2 q2) fun iv s3 ⟨y, H3, I3, ry, a, H4, ex, g, q3⟩ => ?_) hs
  subst ex
  obtain rfl : u = Value.ref a := rx
  exact d_setItem hu I3 g ry rv fun s4 I4 => ⟨σ, H4, I4, q3⟩
end


/-! ### displays -/
theorem dk_empty {P : Program} {w : World} {H : Hp} (h : Heap) (hb : sysModules < h.objs.size) : ObjOk P w H (h.push { cls := .type "dict", data := .dict #[] }) h.objs.size (.dK []) :=
  ⟨Nat.zero_le _, beq_eq_false_iff_ne.mpr (Ne.symm (Nat.ne_of_lt hb)), [], .nil, Heap.DictOf.new h⟩
/-- {}, to be a dict of the kind that is wanted -/
def tDNewK : TE := fun _ H Q => ∀ p, H p = none → Q (.ref p) (upd H p (.dK []))
section
variable {X : Cx} {pos : Pos}
theorem pe_dnewK : PE X (.Dict [] [] pos) tDNewK := fun pins s σ H Q I h =>
  wpAny_Dict_empty ⟨.ref s.heap.objs.size, _, I.laid (a := s.heap.objs.size) (o := .dK []) (t' := s.toks) (fun _ _ q => Heap.get?_push_of_some _ q) (Nat.le_refl _) (dk_empty s.heap I.big), rfl, h _ (I.hok.fresh (Nat.le_refl _))⟩
end

/-- the pairs of a display, from the left -/
def tPairs : List (TE × TE) → St → Hp → (List (V × V) → Hp → Prop) → Prop
  | [], _, H, Q => Q [] H
  | (tk, tv) :: r, σ, H, Q => tk σ H fun x H1 => tv σ H1 fun y H2 => tPairs r σ H2 fun ps H3 => Q ((x, y) :: ps) H3
abbrev VV : List (V × V) → List (Value × Value) → Prop := Paired fun p q => RelV p.1 q.1 ∧ RelV p.2 q.2
def PPs (X : Cx) (pos : Pos) (keys : List (Option Expr)) (values : List Expr) (trs : List (TE × TE)) : Prop :=
  ∀ (pins : List (Addr × Obj)) (s : Shared) (σ : St) (H : Hp) (Q : List (V × V) → Hp → Prop), Inv X pins σ H s → tPairs trs σ H Q →
    wpAny (model X.prog X.w) X.A (evalPairs (pairTrees keys values X.env pos)) (fun vs s' => ∃ ps H', Inv X pins σ H' s' ∧ VV ps vs ∧ Q ps H') X.xe s
theorem pps_nil {X : Cx} {pos : Pos} : PPs X pos [] [] [] := fun pins s σ H Q I h => pairTrees_nil_walk ⟨[], H, I, .nil, h⟩
theorem pps_cons {X : Cx} {pos : Pos} {k v : Expr} {ks : List (Option Expr)} {vs : List Expr} {tk tv : TE} {trs : List (TE × TE)} (hk : PE X k tk) (hv : PE X v tv) (hr : PPs X pos ks vs trs) :
    PPs X pos (some k :: ks) (v :: vs) ((tk, tv) :: trs) := fun pins s σ H Q I h =>
  pairTrees_cons_walk (thn (hk pins s σ H _ I h) fun u s1 ⟨x, H1, I1, rx, q1⟩ => thn (hv pins s1 σ H1 _ I1 q1) fun w2 s2 ⟨y, H2, I2, ry, q2⟩ =>
    thn (hr pins s2 σ H2 _ I2 q2) fun ws s3 ⟨ps, H3, I3, rel, q3⟩ => ⟨(x, y) :: ps, H3, I3, .cons ⟨rx, ry⟩ rel, q3⟩)

def mergeK (kvs more : List (Key × V)) : List (Key × V) := more.foldl (fun acc kv => putK acc kv.1 kv.2) kvs
theorem KV.merge : ∀ {more : List (Key × V)} {rs : List (Key × Value)} {kvs : List (Key × V)} {vs : List (Key × Value)}, KV more rs → KV kvs vs → KV (mergeK kvs more) (merged vs rs) := by
  intro more rs kvs vs r
  unfold KV at r
  induction r generalizing kvs vs with
  | nil => intro q; exact q
  | @cons p q ps qs h t ih =>
    intro r0
    have e : KV (putK kvs p.1 p.2) (stored vs q.1 q.2) := by
      have := r0.put p.1 h.2
      rw [← h.1]; exact this
    exact ih e
theorem length_mergeK : ∀ (more kvs : List (Key × V)), (mergeK kvs more).length ≤ kvs.length + more.length
  | [], kvs => by show kvs.length ≤ kvs.length + 0; omega
  | p :: r, kvs => by
    have h1 := length_mergeK r (putK kvs p.1 p.2)
    have h2 := length_putK kvs p.1 p.2
    show (mergeK (putK kvs p.1 p.2) r).length ≤ _
    rw [List.length_cons]; omega
theorem carries_of {P : Program} {w : World} : ∀ {kvs : List (Key × V)} {ws : List (Value × Value)}, VV (kvs.map fun kv => (kV kv.1, kv.2)) ws → ∃ rs, Carries (mixKind P w) ws rs ∧ KV kvs rs
  | [], _, r => by rw [List.map_nil] at r; cases r; exact ⟨[], True.intro, .nil⟩
  | p :: kvs, _, r => by
    rw [List.map_cons] at r
    cases r with
    | @cons a b as bs h t =>
      obtain ⟨rs, c, q⟩ := carries_of (P := P) (w := w) t
      obtain ⟨b1, b2⟩ := b
      exact ⟨(p.1, b2) :: rs, ⟨kV_is h.1, rfl, c⟩, .cons ⟨rfl, h.2⟩ q⟩
/-- {k: v, ..} with keys ints and texts; the new dict stands empty while the pairs are made -/
def tDisp (trs : List (TE × TE)) : TE := fun σ H Q => ∀ p, H p = none → tPairs trs σ (upd H p (.dK [])) fun ps H2 => H2 p = some (.dK []) ∧ ∃ kvs : List (Key × V), ps = kvs.map (fun kv => (kV kv.1, kv.2)) ∧ kvs.length ≤ 15 ∧ Q (.ref p) (upd H2 p (.dK (mergeK [] kvs)))
theorem pe_disp {X : Cx} {pos : Pos} {keys : List (Option Expr)} {values : List Expr} {trs : List (TE × TE)} (h : PPs X pos keys values trs) (hall : keys.all (·.isSome) = true) (hl : keys.length = values.length) (h0 : keys ≠ [])
    (h15 : keys.length ≤ 15) : PE X (.Dict keys values pos) (tDisp trs) := by
  intro pins s σ H Q I q
  have hn := I.hok.fresh (Nat.le_refl s.heap.objs.size)
  have I1 := I.laid (a := s.heap.objs.size) (o := .dK []) (h' := s.heap.push { cls := .type "dict", data := .dict #[] }) (t' := s.toks) (fun _ _ q => Heap.get?_push_of_some _ q) (Nat.le_refl _) (dk_empty s.heap I.big)
  refine wpAny_Dict_walk (knd := mixKind X.prog X.w) hall hl h0 h15 (thn (h pins _ σ _ _ I1 (q _ hn)) fun ws s2 ⟨ps, H2, I2, rel, e, kvs, ep, lk, q2⟩ => ?_)
  subst ep
  obtain ⟨rs, c, rk⟩ := carries_of (P := X.prog) (w := X.w) rel
  obtain ⟨z, hd, vs0, r0, dd⟩ := dk_of I2.hok e
  cases r0
  refine ⟨rs, c, dd, fun h' dd' hs => ⟨.ref s.heap.objs.size, _, ?_, rfl, q2⟩⟩
  have hz : (mergeK [] kvs).length ≤ sizeLine := by
    have h1 := length_mergeK kvs []
    rw [List.length_nil] at h1
    rw [sizeLine_eq]; omega
  have he : ∃ q, h'.get? s.heap.objs.size = some q := let ⟨q, _, _, hq, _⟩ := dd'; ⟨q, hq⟩
  exact d_write I2 (by rw [e]; exact True.intro) hs he (dk_new hz hd (rk.merge .nil) dd')


/-! ### methods -/
structure M2 (X : Cx) (o : Expr) (m : Str) (apos : Pos) (e f : Expr) (cpos : Pos) : Prop where
  base : attributeBase o m X.env (eval o X.env) = eval o X.env
  few : ((backTo cpos (starEach [e, f] X.env)).all (fun x => !x.1) && (backToKw cpos (keywordEach [] X.env)).all (fun x => x.1.isSome)
    && decide (([e, f] : List Expr).length + ([] : List Keyword).length + (if ([] : List Keyword).isEmpty then 0 else 1) < 30)) = true
  line : (apos.endLine == cpos.line) = true
  trees : backTo cpos (starEach [e, f] X.env) = [(false, eval e X.env), (false, eval f X.env)]

/-- a is a dict, whatever its keys -/
def IsD (H : Hp) (a : Addr) : Prop := (∃ kvs, Rd H a (.dK kvs)) ∨ ∃ kvs, Rd H a (.dT kvs)
theorem isD_at {X : Cx} {pins : List (Addr × Obj)} {σ : St} {H : Hp} {s : Shared} {a : Addr} (I : Inv X pins σ H s) (d : IsD H a) :
    s.TypeIs (.ref a) "dict" ∧ (∀ b, Value.ref a = .ref b → ∃ ob, s.heap.get? b = some ob ∧ ob.dict = none) ∧ (a == sysModules) = false := by
  rcases d with ⟨kvs, e⟩ | ⟨kvs, e⟩
  · obtain ⟨_, hd, vs, _, dd⟩ := dk_rd I.hok e
    refine ⟨dd.typeIs, fun b q => ?_, hd⟩
    cases q
    obtain ⟨ob, _, _, h1, h2, _⟩ := dd
    exact ⟨ob, h1, h2.2.1⟩
  · obtain ⟨_, hd, xs, _, dd⟩ := dt_rd I.hok e
    refine ⟨dd.typeIs, fun b q => ?_, hd⟩
    cases q
    obtain ⟨ob, _, _, h1, h2, _⟩ := dd
    exact ⟨ob, h1, h2.2.1⟩

section
variable {X : Cx} {pins : List (Addr × Obj)} {σ : St} {H : Hp} {s : Shared} {a : Addr} {y d : V} {u r : Value} {o : Option V} {A : Around} {E : Value → Shared → Prop}
end

def tDPop2 (td ty tx : TE) : TE := fun σ H Q => td σ H fun x H1 => ∃ a, x = .ref a ∧ IsD H1 a ∧ ty σ H1 fun y H2 => tx σ H2 fun z H3 => ∃ kvs k, H3 a = some (.dK kvs) ∧ y = kV k ∧
  (∀ v, valV kvs k = some v → Q v (upd H3 a (.dK (dropK kvs k)))) ∧ (valV kvs k = none → Q z H3)
section
variable {X : Cx} {o e f : Expr} {apos cpos : Pos} {td ty tx : TE}
theorem pe_dpop2 (ho : PE X o td) (he : PE X e ty) (hf : PE X f tx) (m : M2 X o "pop" apos e f cpos) : PE X (.Call (.Attribute o "pop" apos) [e, f] [] cpos) (tDPop2 td ty tx) := by
  intro pins s σ H Q I h
  refine wpAny_Call_method m.base m.few m.line PySem.F.plainAttrs_dict PySem.F.slot_dict_pop PySem.F.type_dict_pop (thn (ho pins s σ H _ I h) fun u s1 ⟨x, H1, I1, rx, a, ex, d, q1⟩ => ?_)
  subst ex
  obtain rfl : u = Value.ref a := rx
  obtain ⟨t1, t2, _⟩ := isD_at I1 d
  refine ⟨t1, t2, ?_⟩
  rw [m.trees]
  refine Calls.callWith_builtin rfl (Calls.evalArgs_plain (Calls.spliced_cons (thn (he pins s1 σ H1 _ I1 q1) fun iv s2 ⟨y, H2, I2, ry, q2⟩ =>
    Calls.spliced_cons (thn (hf pins s2 σ H2 _ I2 q2) fun fv s3 ⟨z, H3, I3, rz, kvs, k, ea, ey, q3, q4⟩ => Calls.spliced_nil ?_))))
  subst ey
  cases l : valV kvs k with
  | some v => exact d_pop I3 ea ry l (.inr ⟨fv, rfl⟩) fun w' s4 I4 rw' => ⟨v, _, I4, rw', q3 v l⟩
  | none => exact d_popD I3 ea ry l fun s4 I4 => ⟨z, H3, I4, rz, q4 l⟩
end

/-! ### dict(d): a copy -/
section
variable {X : Cx} {pins : List (Addr × Obj)} {σ : St} {H : Hp} {s : Shared} {a : Addr} {kvs : List (Key × V)} {A : Around} {E : Value → Shared → Prop}
end


section
variable {X : Cx} {pins : List (Addr × Obj)} {σ : St} {H : Hp} {s : Shared} {a : Addr} {y : V} {u : Value} {A : Around} {E : Value → Shared → Prop}
end
end L2

namespace Att
open PySem PySem.W PySem.Calls PyProof.Rows

/-! ### the script -/
theorem ints_of_wellAll {P : Params} {h : Heap} : ∀ (ns : List Int) (vs : List Value), WellAll P h vs (ns.map WData.int) → IntsAre vs ns := by
  intro ns
  induction ns with
  | nil =>
    intro vs w
    rw [List.map_nil] at w
    cases w
    exact .nil
  | cons n ns ih =>
    intro vs w
    rw [List.map_cons] at w
    cases w with
    | cons a b =>
      cases a
      exact .cons _ _ (ih _ b)

theorem script_of {l : OpenLaw} {n : Nat} (hn : l.most = some n) {P : Params} {h : Heap} {args : List WData} {vals : List Value}
    (hpre : l.row.toRowW.claim.pre args = true) (hwl : WellAll P h vals args) :
    ∃ a vs ns, vals = [Value.ref a] ∧ args = [WData.list (ns.map WData.int)] ∧ h.get? a = some { cls := .type "list", data := .seq vs.toArray } ∧ IntsAre vs ns ∧ ns.length ≤ n := by
  have hsh : WShape.hasAll [] args [.list .int] = true := (pre_splitW hpre).1
  have hc : l.pre.holds [] { args := args } = true := (pre_splitW hpre).2
  obtain ⟨d, r, rfl, h1, h2⟩ := hasAllW_cons hsh
  obtain rfl := hasAllW_nil h2
  obtain ⟨xs, rfl, h3⟩ := hasW_list h1
  obtain ⟨ns, rfl⟩ := items_int h3
  have hlen : ns.length ≤ n := by
    unfold OpenLaw.pre at hc
    have h4 : (WTm.not (.lt (.lit (.int (n : Int))) (.len (.arg 0)))).holds [] { args := [.list (ns.map .int)] } = true := by
      have h4 := (holds_andW hc).1
      rw [hn] at h4
      exact h4
    have h5 := condW_of h4 (w_not (w_lt w_lit (w_len_list (w_arg rfl))))
    rw [List.length_map] at h5
    refine Nat.le_of_not_lt fun q => ?_
    have q' : (n : Int) < ((ns.length : Nat) : Int) := by omega
    first
      | (rw [decide_eq_true q'] at h5; exact absurd h5 (by decide))
      | (simp at h5; omega)
  cases hwl with
  | cons w1 w2 =>
    cases w2
    cases w1 with
    | list ho hall => exact ⟨_, _, ns, rfl, rfl, ho, ints_of_wellAll ns _ hall, hlen⟩

theorem post_true (l : OpenLaw) (args : List WData) : l.row.toRowW.claim.post args (.bool true) args = true :=
  postW_of (r := l.row.toRowW) (X := (true == true))
    (show WShape.has [] (.bool true) .bool = true by first | rfl | decide | simp [WShape.has, WShape.arms, WShape.armsAll])
    (show (WTm.eq .res (.lit (.bool true))).value [] { args := args, res := some (.bool true), after := args } = some (.bool (true == true)) from w_eq_bool (w_res rfl) w_lit) rfl

/-! ### the attachment: holds_open's last premise (the goal 'hc' behind k_head) from a wpAny of the law's body -/
/-- the same from a codeAny of the CALL (for a layer whose function contracts speak of calls) -/
theorem attach_call {l : OpenLaw} {n : Nat} {q : Program} {loose : List Str} {XP : (Str → Option Value) → Heap → Prop} {YP : World → Heap → Prop} {d : DefRec}
    (hn : l.most = some n) (hdf : d.params.defaults = [])
    (call : ∀ (w : World) (s₀ s₁ : Shared) (mg mb : Str → Option Value) (fa : Addr) (o : Obj) (pm cd doc : Value) (a : Addr) (vs : List Value) (ns : List Int),
      Ground q loose [] XP w s₀ mg mb s₁.heap → YP w s₁.heap →
      s₁.heap.get? fa = some o → o.data = .func (docDef d.name d.params d.body d.scope pm cd doc) → s₁.heap.CodeRec cd d.name → mg d.name = some (.ref fa) →
      s₁.heap.get? a = some { cls := .type "list", data := .seq vs.toArray } → IntsAre vs ns → ns.length ≤ n → s₁.gens = #[] →
      codeAny (model l.prog w) callerA (.call (.ref fa) ⟨[.ref a], []⟩) (fun r s' => r = .ok (.ret (.bool true)) ∧ OldK s₁.heap s'.heap ∧ s'.os = s₁.os ∧ AllBare s'.gens) s₁) :
    WalkO q loose XP YP l.row.toRowW d [] (fun f vs => PySem.call f vs) := by
  intro w s₀ s₁ mg mb G Y fa o pm cd doc dV kV ho hd hcd hD hmg hg args vals as hpre hlay hrd hwl hlo
  obtain rfl : dV = .none := Dflts.none hD hdf
  obtain rfl : kV = .none := Dflts.noKw hD
  obtain ⟨a, vs, ns, rfl, rfl, hobj, hints, hlen⟩ := script_of hn hpre hwl
  refine enter_call (codeAny_mono (call w s₀ s₁ mg mb fa o pm cd doc a vs ns G Y ho (fd_plain hd) hcd hmg hobj hints hlen hg) fun r s' hq => ?_)
  obtain ⟨rfl, h2, h3, h4⟩ := hq
  exact ⟨.inl ⟨.bool true, .bool true, [], rfl, fun _ => rfl, .bool true, post_true l _, fun _ => ⟨List.Pairwise.nil, fun _ hm => (nomatch hm)⟩⟩, h2, h3, h4⟩

/-! ### rules over ANY heap (no ledger) from facts about the written part K: the library's own take a ledger (News) for what they write -/
section
variable {prog : Program} {w : World} {A : Around} {E : Value → Shared → Prop} {s : Shared} {K : Frag}

/-! the whole heap as the ledger: makes every rule that writes through a ledger a rule over any heap -/
end
end Att

namespace L2
open PySem PySem.Spec PyProof.Rows

theorem vals_ints : ∀ {vs : List Value} {ns : List Int}, IntsAre vs ns → Vals (ns.map V.int) vs
  | _, _, .nil => .nil
  | _, _, .cons n t h => .cons ⟨t, rfl⟩ (vals_ints h)

/-- nothing is tracked but the script, known to the object (or it is an object of the module) -/
def Only (H : Hp) : Prop := ∀ b, H b = none ∨ ∃ o xs, H b = some (.frz o (.lst xs))

/-- THE HEAD: the law's promise, at the heap behind the top. F, the promise of the law's def, may use that base is part of the heap (so K.In base, base.Ns mainGlobals mg stand in Mod) -/
theorem law_call {P : Program} {w : World} {K : PySem.W.Frag} {mg mb : Str → Option Value} {CX : CXT} {k : Nat} {fa a : Addr} {fd : FuncData} {x : Str} {sp : Sp} {s₁ : Shared} {vs : List Value} {ns : List Int}
    (KX : K.In s₁.heap) (hns : s₁.heap.Ns mainGlobals mg) (hb : s₁.heap.Ns builtinsNs mb) (hbb : ∀ x : Str, x ≠ "__name__" → mb x = bootBuiltins x) (hlim : s₁.heap.NoLimit) (hg : s₁.gens = #[])
    (ha : s₁.heap.get? a = some { cls := .type "list", data := .seq vs.toArray }) (hi : IntsAre vs ns) (hl : ns.length ≤ sizeLine) (hr : Room k callerA)
    (F : ∀ base : Heap, K.In base → base.Ns mainGlobals mg → FnOk P w K mg base CX k fa fd [x] sp) (hbind : ∀ (s : Shared) (u : Value), BindsTo s fd ⟨[u], []⟩ [(x, u)])
    (hsp : ∀ H : Hp, Only H → SqL K H a (ns.map V.int) → sp [.ref a] H (fun v _ => v = .bl true) fun _ _ _ => False)
    (hCX : ∀ H e s', CX [] H s₁ (fun _ _ _ => False) e s' → False) :
    codeAny (model P w) callerA (.call (.ref fa) ⟨[.ref a], []⟩) (fun r s' => r = .ok (.ret (.bool true)) ∧ OldK s₁.heap s'.heap ∧ s'.os = s₁.os ∧ AllBare s'.gens) s₁ := by
  have rv := vals_ints hi
  have lenV := hi.length
  -- from an abstract heap in which nothing but the script may be tracked
  have core : ∀ H : Hp, Only H → SqL K H a (ns.map V.int) → HOk P w H s₁.heap → (∀ b, H b ≠ none → b = a) → (H a ≠ none → K.lookup a = none) →
      codeAny (model P w) callerA (.call (.ref fa) ⟨[.ref a], []⟩) (fun r s' => r = .ok (.ret (.bool true)) ∧ OldK s₁.heap s'.heap ∧ s'.os = s₁.os ∧ AllBare s'.gens) s₁ := by
    intro H hO hS hok hA hK
    have base_of : ∀ {b : Addr} {o : Obj}, s₁.heap.get? b = some o → H b = none → (hidT s₁.heap H).get? b = some o := fun e n => hidT_get e n
    have noA : ∀ {b : Addr} {o : Obj} {es : Array DictEntry} {ep : Nat}, s₁.heap.get? b = some o → o.data = .dict es ep → H b = none := fun {b o es ep} e d => by
      cases q : H b with
      | none => rfl
      | some u =>
        have e' : b = a := hA b (by rw [q]; simp)
        subst e'
        rw [ha] at e; cases e
        have d' : Data.seq vs.toArray _ = Data.dict es ep := d
        cases d'
    have nsK : ∀ {b : Addr} {m : Str → Option Value}, s₁.heap.Ns b m → (hidT s₁.heap H).Ns b m := fun {b m} ⟨o, es, ep, e, d, r⟩ => ⟨o, es, ep, base_of e (noA e d), d, r⟩
    have hKb : K.In (hidT s₁.heap H) := fun b o e => base_of (KX b o e) (by
      cases q : H b with
      | none => rfl
      | some u =>
        have e' : b = a := hA b (by rw [q]; simp)
        subst e'
        rw [hK (by rw [q]; simp)] at e; cases e)
    have hM : Mod K mg (hidT s₁.heap H) := ⟨hKb, nsK hns, ⟨mb, nsK hb, hbb⟩, let ⟨mc, h1, h2⟩ := hlim; ⟨mc, nsK h1, h2⟩⟩
    have e0 : Env0 P w K mg (hidT s₁.heap H) callerA [] s₁ H := ⟨rfl, hM, fun b o e => of_hidT e, Nat.le_of_eq (hidT_size _ _), trivial, fun b hb => absurd (show b ∈ ([] : List Addr) from hb) (by simp), hok, .of_eq hg⟩
    refine codeAny_mono ((F _ hKb (nsK hns)).run callerA [] s₁ H ⟨[.ref a], []⟩ [.ref a] [.ref a] _ _ hr e0 (hbind s₁ (.ref a)) (.cons rfl .nil) (hsp H hO hS)) fun r s' h => ?_
    cases r with
    | error e => exact (hCX H e s' h).elim
    | ok fl =>
      cases fl with
      | next => exact False.elim h
      | brk => exact False.elim h
      | cont => exact False.elim h
      | ret u =>
        obtain ⟨v, H', os, bare, un, hok', r', q⟩ := h
        have q' : v = .bl true := q
        subst q'
        obtain rfl : u = Value.bool true := r'
        refine ⟨rfl, OldK.of_keep fun b o e => ?_, os, bare⟩
        cases q : H b with
        | none => exact un.keep b o e q (by intro z; exact absurd (show b ∈ ([] : List Addr) from z) (by simp)) (by simp)
        | some u =>
          rcases hO b with z | ⟨ob, xs, z⟩
          · rw [q] at z; cases z
          · have z2 := un.frzs b ob _ z
            obtain ⟨e1, _⟩ := hok b _ z
            obtain ⟨e2, _⟩ := hok' b _ z2
            rw [e] at e1; cases e1
            exact e2
  cases hk : K.lookup a with
  | some o =>
    -- the script is one of the module's own objects
    have e := KX a o hk
    rw [ha] at e
    cases e
    refine core (fun _ => none) (fun _ => .inl rfl) (.inr ⟨_, vs.toArray, _, hk, rfl, rfl, rfl, by rw [List.size_toArray, lenV]; exact hl, by simpa using rv⟩) (fun b u z => by have z' : (none : Option HO) = some u := z; cases z') (fun b z => absurd rfl z) fun z => absurd rfl z
  | none =>
    refine core (fun b => if b = a then some (.frz { cls := .type "list", data := .seq vs.toArray } (.lst (ns.map V.int))) else none) (fun b => ?_) (.inl (.inr ⟨{ cls := .type "list", data := .seq vs.toArray }, if_pos rfl⟩)) (fun b u z => ?_) (fun b z => ?_) fun _ => hk
    · by_cases hb : b = a
      · exact .inr ⟨_, _, if_pos hb⟩
      · exact .inl (if_neg hb)
    · by_cases hb : b = a
      · have z' := (if_pos hb).symm.trans z
        cases z'
        subst hb
        exact ⟨ha, by rw [List.length_map]; exact hl, vs, _, rv, ha⟩
      · have z' := (if_neg hb).symm.trans z
        cases z'
    · by_cases hb : b = a
      · exact hb
      · exact absurd (if_neg hb) z
end L2

namespace L2
open PySem PySem.Spec PyProof.Rows

/-- the goal that k_head leaves (case hc), from the law's promise. F gives the function object fd (K's own) once, then the promise over every base -/
theorem walk_of {l : PySem.W.OpenLaw} {n k : Nat} {q : Program} {loose : List Str} {XP : (Str → Option Value) → Heap → Prop} {YP : World → Heap → Prop} {d : DefRec} {K : Params → PySem.W.Frag} {CX : World → CXT} {sp : World → Sp} {x : Str}
    (hn : l.most = some n) (hn2 : n ≤ sizeLine) (hdf : d.params.defaults = []) (hr : Room k callerA)
    (hY : ∀ (w : World) (h : Heap), YP w h → (K w.params).In h)
    (F : ∀ (w : World) (mg : Str → Option Value) (fa : Addr) (h : Heap), (K w.params).In h → h.Ns mainGlobals mg → mg d.name = some (.ref fa) →
      ∃ fd : FuncData, (∀ (s : Shared) (u : Value), BindsTo s fd ⟨[u], []⟩ [(x, u)]) ∧
        ∀ base : Heap, (K w.params).In base → base.Ns mainGlobals mg → FnOk l.prog w (K w.params) mg base (CX w) k fa fd [x] (sp w))
    (hsp : ∀ (w : World) (H : Hp) (a : Addr) (ns : List Int), ns.length ≤ n → Only H → SqL (K w.params) H a (ns.map V.int) → sp w [.ref a] H (fun v _ => v = .bl true) fun _ _ _ => False)
    (hCX : ∀ (w : World) (H : Hp) (s : Shared) (e : Value) (s' : Shared), CX w [] H s (fun _ _ _ => False) e s' → False) :
    PySem.W.WalkO q loose XP YP l.row.toRowW d [] (fun f vs => PySem.call f vs) := by
  refine Att.attach_call hn hdf fun w s₀ s₁ mg mb fa o pm cd doc a vs ns G Y ho hd hcd hmg hobj hints hlen hg => ?_
  have KX := hY w _ Y
  obtain ⟨fd, hb, hF⟩ := F w mg fa _ KX G.T.g hmg
  exact law_call KX G.T.g G.T.b G.T.builtins G.T.nolimit hg hobj hints (Nat.le_trans hlen hn2) hr hF hb (fun H hO hS => hsp w H a ns hlen hO hS) fun H e s' => hCX w H s₁ e s'
end L2

/- THE LAST THEOREM (shape; LID, My.* are yours):
   My.Adr: a structure of the addresses that your layer names (classes, functions); My.Txt K t: a structure (Prop) of the equations over K;
   My.txt_mk : {K} {implicit addresses ..} (e1 : nsIn K mainGlobals "law" = some (some (.ref f))) (e2 : K.lookup f = some ⟨oc, od, .func (fnOf "law" "law" params body scope dV kV doc pm an cdv ct), sl⟩) (e3 : codeIn K cdv "law" = true) .. : ∃ t, My.Txt K t

set_option maxRecDepth 100000 in
set_option maxHeartbeats 0 in
theorem PySem.Challenge.cw_LID_holds : PySem.Challenge.rw_LID.Holds := by
  w_on; o_law; k_head; (case hw => w_witness2)
  k_fill
  refine L2.walk_of (l := PySem.Challenge.rw_LID) (n := 63) (k := 40) (x := "script") (CX := fun w => ..) (sp := fun _ => My.sp_law) rfl (by decide) rfl ⟨rfl, by decide, by decide⟩ (fun w h Y => PySem.W.kIn_of Y) ?F ?S ?C
  case F =>
    intro w mg fa h KX G hmg
    have T : ∃ t, My.Txt (L2.KOf KX) t := by
      dsimp only [L2.KOf]                          -- K must stand as «<heap const> w.params» for k_is
      refine' My.txt_mk ?e1 ?e2 ?e3 ..
      (case e1 => PySem.W.k_is)                    -- in the order: a name -> its address -> its object -> its parts
      (case e2 => PySem.W.k_is)
      ..
    obtain ⟨t, T⟩ := T
    have e0 := hmg.symm.trans (PySem.W.mg_of KX G T.law)
    cases e0                                       -- fa is the law's own address
    exact ⟨_, fun s u => .of_eq rfl, fun base kb nb => My.law_fn T kb nb⟩     -- if «.of_eq rfl» comes too early: refine' ⟨_, ?b, fun base kb nb => My.law_fn T kb nb⟩; exact fun s u => .of_eq rfl
  case S => exact fun w H a ns hl hO hS => ..
  case C => exact ..
(the tactic k_is has no namespace: write k_is) -/

/-! SHORT WORDS over the layer: a def of the text, its body, what a loop and a test want. -/
namespace L2
open PySem PySem.Spec PyProof.Rows

/-! ### the text by places -/
/-- the j-th statement of a class's body -/
def inClass (s : Stmt) (j : Nat) : Stmt := match s with
  | .ClassDef _ _ _ body _ _ _ _ _ _ _ => body.getD j (.Pass ⟨0, 0, 0, 0⟩)
  | _ => .Pass ⟨0, 0, 0, 0⟩
def defArgs (s : Stmt) : Arguments := match s with
  | .FunctionDef _ a _ _ _ _ _ _ _ _ => a
  | _ => { posonlyargs := [], args := [], vararg := none, kwonlyargs := [], kw_defaults := [], kwarg := none, defaults := [] }
def defBody (s : Stmt) : List Stmt := match s with
  | .FunctionDef _ _ b _ _ _ _ _ _ _ => b
  | _ => []
def defScope (s : Stmt) : Scope := match s with
  | .FunctionDef _ _ _ _ _ _ sc _ _ _ => sc
  | _ => { kind := .function, names := [], isGenerator := false, isCoroutine := false }

/-! ### no exception leaves a def -/
abbrev CX0 : CXT := fun _ _ _ _ _ _ => False
abbrev E0 : XK := fun _ _ _ => False
theorem pass0 {X : Cx} : Passes CX0 X E0 := fun _ _ _ _ _ _ _ h => h.elim

/-! ### a def (or method) of the text as it stands behind the top -/
structure Fun (K : PySem.W.Frag) (x qual : Str) (st : Stmt) (f : Addr) (fd : FuncData) : Prop where
  ex : ∃ (oc : Value) (od : Option Addr) (kV doc pm : Value) (an : Option Addr) (cdv ct : Value) (osl : Array (Option Value)),
    fd = PySem.W.fnOf x qual (defArgs st) (defBody st) (defScope st) .none kV doc pm an cdv ct ∧ K.lookup f = some ⟨oc, od, .func fd, osl⟩ ∧ PySem.W.codeIn K cdv qual = true
  kp : PySem.W.keepIn K (.ref f) = true
section
variable {P : Program} {w : World} {K : PySem.W.Frag} {mg : Str → Option Value} {base : Heap}
/-- THE RULE for a def: its body as a term of rules, and the reading of that term -/
theorem Fun.ok {x qual : Str} {st : Stmt} {f : Addr} {fd : FuncData} {N ps : List Str} {k : Nat} {sp : Sp} (F : Fun K x qual st f fd) (S : FnScope N ps (defScope st)) (len : ∀ vs H Q E, sp vs H Q E → vs.length = ps.length)
    (hbody : ∀ (cdv : Value) (A : Around) (outer : List Env) (s : Shared) (H : Hp) (vs : List V) (Q : VK) (E : XK), Room k (A.deeper (envOfC qual (defScope st) s.heap.objs.size f cdv)) → sp vs H Q E →
      ∃ t, PSs (cxOf CX0 P w K mg base N qual (defScope st) f cdv A outer s H E).nox (defBody st) t ∧ t { nx := fun _ H' => Q .non H', rt := Q } (start N vs) H) : FnOk P w K mg base CX0 (k + 1) f fd ps sp := by
  obtain ⟨oc, od, kV, doc, pm, an, cdv, ct, osl, rfl, lk, hcd⟩ := F.ex
  refine fn_of lk hcd S len fun A outer s H vs Q E hr hsp => ?_
  obtain ⟨t, h, q⟩ := hbody cdv A outer s H vs Q E hr hsp
  exact ⟨t, h.nox, q⟩
/-- how its arguments bind (no defaults): h is «fun _ _ _ _ _ _ us hl => match us, hl with | [_, _], _ => rfl», one _ a parameter -/
theorem Fun.binds {x qual : Str} {st : Stmt} {f : Addr} {fd : FuncData} {ps : List Str} (F : Fun K x qual st f fd)
    (h : ∀ (kV doc pm : Value) (an : Option Addr) (cdv ct : Value) (us : List Value), us.length = ps.length → bindArgs (PySem.W.fnOf x qual (defArgs st) (defBody st) (defScope st) .none kV doc pm an cdv ct) ⟨us, []⟩ = pure (ps.zip us)) : Binds K fd ps [] := by
  obtain ⟨oc, od, kV, doc, pm, an, cdv, ct, osl, rfl, lk, hcd⟩ := F.ex
  exact .all (h kV doc pm an cdv ct)
theorem fun_mk {x qual : Str} {st : Stmt} {f : Addr} {oc : Value} {od an : Option Addr} {osl : Array (Option Value)} {kV doc pm cdv ct : Value} (l : K.lookup f = some ⟨oc, od, .func (PySem.W.fnOf x qual (defArgs st) (defBody st) (defScope st) .none kV doc pm an cdv ct), osl⟩)
    (c : PySem.W.codeIn K cdv qual = true) (k : PySem.W.keepIn K (.ref f) = true) : Fun K x qual st f (PySem.W.fnOf x qual (defArgs st) (defBody st) (defScope st) .none kV doc pm an cdv ct) := ⟨⟨oc, od, kV, doc, pm, an, cdv, ct, osl, rfl, l, c⟩, k⟩
end
theorem hu_of {A : Around} {k : Nat} (hr : Room k A) : A.units + 1 < cLine := Nat.lt_of_le_of_lt (Nat.add_le_add_left (by decide : 1 ≤ 64) _) hr.units
/-! ### expressions in short: the name that stands in the i-th slot -/
section
variable {X : Cx}
theorem pv (i : Nat) {x : Str} {pos : Pos} (hN : X.N[i]? = some x := by rfl) (hv : Vis X.env.scope x := by first | exact Or.inl rfl | exact Or.inr (Or.inl rfl) | exact Or.inr (Or.inr rfl)) (hd : (x == ("__debug__" : Str)) = false := by decide)
    (hcd : (x == ("__classdict__" : Str)) = false := by decide) : PE X (.Name x pos) (tVar i) := pe_var hN hv hd hcd
end

/-! ### tests -/
theorem iteF {A B : Prop} (h : B) : if false = true then A else B := by
  rw [if_neg Bool.false_ne_true]
  exact h
theorem iteT {A B : Prop} (h : A) : if true = true then A else B := by
  rw [if_pos rfl]
  exact h
/-! ### heaps -/
/-- all that was tracked is as it was -/
def Same (H H' : Hp) : Prop := ∀ b o, H b = some o → H' b = some o
theorem Same.refl (H : Hp) : Same H H := fun _ _ h => h
theorem Same.trans {H H1 H2 : Hp} (a : Same H H1) (b : Same H1 H2) : Same H H2 := fun c o h => b c o (a c o h)
section
variable {X : Cx}
end
/-! ### a dict's pairs: keys that differ -/
section
variable {κ : Type} [DecidableEq κ]
theorem dropK_pos {p : κ × V} {r : List (κ × V)} {k : κ} (e : p.1 = k) : dropK (p :: r) k = dropK r k := by
  unfold dropK
  rw [List.filter_cons, if_neg (by simp [e])]
theorem dropK_neg {p : κ × V} {r : List (κ × V)} {k : κ} (e : ¬ p.1 = k) : dropK (p :: r) k = p :: dropK r k := by
  unfold dropK
  rw [List.filter_cons, if_pos (by simp [e])]
end
end L2
/-! Plain data in the heap: None, ints, texts, tuples and lists of these. -/
namespace L2
open PySem PySem.Spec PyProof.Rows

inductive D where
  | n | i (k : Int) | s (x : Str) | t (ds : List D) | l (ds : List D)
mutual
def Rep (H : Hp) : V → D → Prop
  | v, .n => v = .non
  | v, .i k => v = .int k
  | v, .s x => v = .str x
  | v, .t ds => ∃ a xs, v = .ref a ∧ H a = some (.tup xs) ∧ RepL H xs ds
  | v, .l ds => ∃ a xs, v = .ref a ∧ H a = some (.lst xs) ∧ RepL H xs ds
def RepL (H : Hp) : List V → List D → Prop
  | xs, [] => xs = []
  | xs, d :: ds => ∃ v r, xs = v :: r ∧ Rep H v d ∧ RepL H r ds
end
mutual
def D.size : D → Nat
  | .n => 1
  | .i _ => 1
  | .s _ => 1
  | .t ds => 1 + D.sizes ds
  | .l ds => 1 + D.sizes ds
def D.sizes : List D → Nat
  | [] => 0
  | d :: ds => D.size d + D.sizes ds
end
/- no lists within -/
mutual
def D.flat : D → Prop
  | .n => True
  | .i _ => True
  | .s _ => True
  | .t ds => D.flats ds
  | .l _ => False
def D.flats : List D → Prop
  | [] => True
  | d :: ds => D.flat d ∧ D.flats ds
end
/-- the tuples stay -/
def TupSame (H H' : Hp) : Prop := ∀ b xs, H b = some (.tup xs) → H' b = some (.tup xs)
/-- the tuples and lists stay -/
def SeqSame (H H' : Hp) : Prop := (∀ b xs, H b = some (.tup xs) → H' b = some (.tup xs)) ∧ ∀ b xs, H b = some (.lst xs) → H' b = some (.lst xs)
mutual
theorem Rep.mono {H H' : Hp} (h : SeqSame H H') : ∀ {d : D} {v : V}, Rep H v d → Rep H' v d
  | .n, _, r => by simpa only [Rep] using r
  | .i _, _, r => by simpa only [Rep] using r
  | .s _, _, r => by simpa only [Rep] using r
  | .t ds, _, r => by
    simp only [Rep] at r ⊢
    obtain ⟨a, xs, e, ha, rl⟩ := r
    exact ⟨a, xs, e, h.1 a xs ha, RepL.mono h rl⟩
  | .l ds, _, r => by
    simp only [Rep] at r ⊢
    obtain ⟨a, xs, e, ha, rl⟩ := r
    exact ⟨a, xs, e, h.2 a xs ha, RepL.mono h rl⟩
theorem RepL.mono {H H' : Hp} (h : SeqSame H H') : ∀ {ds : List D} {xs : List V}, RepL H xs ds → RepL H' xs ds
  | [], _, r => by simpa only [RepL] using r
  | d :: ds, _, r => by
    simp only [RepL] at r ⊢
    obtain ⟨v, q, e, rv, rl⟩ := r
    exact ⟨v, q, e, Rep.mono h rv, RepL.mono h rl⟩
end
mutual
theorem Rep.tmono {H H' : Hp} (h : TupSame H H') : ∀ {d : D} {v : V}, d.flat → Rep H v d → Rep H' v d
  | .n, _, _, r => by simpa only [Rep] using r
  | .i _, _, _, r => by simpa only [Rep] using r
  | .s _, _, _, r => by simpa only [Rep] using r
  | .t ds, _, f, r => by
    simp only [Rep] at r ⊢
    simp only [D.flat] at f
    obtain ⟨a, xs, e, ha, rl⟩ := r
    exact ⟨a, xs, e, h a xs ha, RepL.tmono h f rl⟩
  | .l ds, _, f, r => by simp only [D.flat] at f
theorem RepL.tmono {H H' : Hp} (h : TupSame H H') : ∀ {ds : List D} {xs : List V}, D.flats ds → RepL H xs ds → RepL H' xs ds
  | [], _, _, r => by simpa only [RepL] using r
  | d :: ds, _, f, r => by
    simp only [RepL] at r ⊢
    simp only [D.flats] at f
    obtain ⟨v, q, e, rv, rl⟩ := r
    exact ⟨v, q, e, Rep.tmono h f.1 rv, RepL.tmono h f.2 rl⟩
end
theorem RepL.length {H : Hp} : ∀ {ds : List D} {xs : List V}, RepL H xs ds → xs.length = ds.length
  | [], _, r => by simp only [RepL] at r; subst r; rfl
  | d :: ds, _, r => by
    simp only [RepL] at r
    obtain ⟨v, q, rfl, _, rl⟩ := r
    rw [List.length_cons, List.length_cons, RepL.length rl]
theorem RepL.append {H : Hp} : ∀ {ds es : List D} {xs ys : List V}, RepL H xs ds → RepL H ys es → RepL H (xs ++ ys) (ds ++ es)
  | [], _, _, _, r, q => by simp only [RepL] at r; subst r; exact q
  | d :: ds, es, _, ys, r, q => by
    simp only [RepL] at r
    obtain ⟨v, x, rfl, rv, rl⟩ := r
    show RepL H (v :: (x ++ ys)) (d :: (ds ++ es))
    simp only [RepL]
    exact ⟨v, _, rfl, rv, RepL.append rl q⟩
theorem RepL.snoc {H : Hp} {ds : List D} {xs : List V} {v : V} {d : D} (r : RepL H xs ds) (q : Rep H v d) : RepL H (xs ++ [v]) (ds ++ [d]) :=
  r.append (by simp only [RepL]; exact ⟨v, [], rfl, q, rfl⟩)
theorem RepL.last {H : Hp} : ∀ {ds : List D} {xs : List V} {d : D}, RepL H xs (ds ++ [d]) → ∃ ys v, xs = ys ++ [v] ∧ RepL H ys ds ∧ Rep H v d
  | [], _, d, r => by
    simp only [List.nil_append, RepL] at r
    obtain ⟨v, q, rfl, rv, rfl⟩ := r
    exact ⟨[], v, rfl, by simp only [RepL], rv⟩
  | e :: ds, _, d, r => by
    rw [List.cons_append, RepL] at r
    obtain ⟨v, q, rfl, rv, rl⟩ := r
    obtain ⟨ys, w, rfl, r1, r2⟩ := RepL.last rl
    exact ⟨v :: ys, w, rfl, by rw [RepL]; exact ⟨v, ys, rfl, rv, r1⟩, r2⟩
theorem D.sizes_append : ∀ (a b : List D), D.sizes (a ++ b) = D.sizes a + D.sizes b
  | [], b => by simp [D.sizes]
  | d :: a, b => by rw [List.cons_append, D.sizes, D.sizes, D.sizes_append a b]; omega
theorem D.size_pos : ∀ d : D, 0 < d.size
  | .n => by simp [D.size]
  | .i _ => by simp [D.size]
  | .s _ => by simp [D.size]
  | .t _ => by rw [D.size]; omega
  | .l _ => by rw [D.size]; omega
theorem D.length_le_sizes : ∀ ds : List D, ds.length ≤ D.sizes ds
  | [] => Nat.zero_le _
  | d :: ds => by
    rw [D.sizes, List.length_cons]
    have := D.size_pos d
    have := D.length_le_sizes ds
    omega
end L2
/-! EXCEPTIONS over the hand layer: raise of an own class, passing through defs, try with except. -/
namespace L2
open PySem PySem.Spec PyProof.Rows

theorem ObjOk.here {P : Program} {w : World} {H : Hp} {h : Heap} {a : Addr} {o : HO} (x : ObjOk P w H h a o) : ∃ ob, h.get? a = some ob := by
  cases o with
  | lst xs => obtain ⟨_, _, _, _, e⟩ := x; exact ⟨_, e⟩
  | tup xs => obtain ⟨_, _, _, ob, e, _⟩ := x; exact ⟨_, e⟩
  | dK kvs => obtain ⟨_, _, _, _, o, _, _, e, _⟩ := x; exact ⟨_, e⟩
  | dT kvs => obtain ⟨_, _, _, _, o, _, _, e, _⟩ := x; exact ⟨_, e⟩
  | set S n => obtain ⟨o, _, _, _, e, _⟩ := x; exact ⟨_, e⟩
  | ins C dx fs => obtain ⟨_, _, _, e, _⟩ := x; exact ⟨_, e⟩
  | own y => exact x
  | xd fs => obtain ⟨_, ⟨_, _, _, e, _⟩, _⟩ := x; exact ⟨_, e⟩
  | rng lo hi => obtain ⟨_, _, _, e⟩ := x; exact ⟨_, e⟩
  | frz ob u => obtain ⟨e, _⟩ := x; exact ⟨_, e⟩
  | tbl ps => exact ⟨_, (show h.get? a = some _ from x)⟩
  | met f y => exact ⟨_, (show h.get? a = some _ from x)⟩
  | ext φ => obtain ⟨_, e, _⟩ := x; exact e

/-- an exception e of the class C flies over the frames l: from the state s (abstract heap H) to s' (H'); B: the heap at the raise without the frames -/
structure Fly (P : Program) (w : World) (B : Heap) (a0 : Value) (l : List Env) (H : Hp) (s : Shared) (C : Value) (e : Addr) (H' : Hp) (s' : Shared) : Prop where
  os : s'.os = s.os
  bare : AllBare s'.gens
  fresh : H' e = none
  fly : Heap.FlyingW B l e C a0 s'.heap
  slots : ∀ b ∈ frs l, ∀ o, s.heap.get? b = some o → ∃ sl, s'.heap.get? b = some { o with slots := sl }
  kin : ∀ b o, s.heap.get? b = some o → H b = none → b ∉ frs l → B.get? b = some o
  trk : ∀ b u, H' b = some u → ∃ o, s'.heap.get? b = some o ∧ B.get? b = some o
  all : ∀ b o, s.heap.get? b = some o → b ∉ frs l → ∃ o', B.get? b = some o'
  free : ∀ b o, s.heap.get? b = some o → H b = none → H' b = none
  tups : ∀ b xs, H b = some (.tup xs) → H' b = some (.tup xs)
  frzs : ∀ b o u, H b = some (.frz o u) → H' b = some (.frz o u)
  tbls : ∀ b ps, H b = some (.tbl ps) → ∃ more, H' b = some (.tbl (ps ++ more))
  hok : HOk P w H' s'.heap
section
variable {P : Program} {w : World} {B : Heap} {a0 : Value} {l : List Env} {H H' : Hp} {s s' : Shared} {C : Value} {e : Addr} {h' : Heap}
theorem Fly.un (F : Fly P w B a0 l H s C e H' s') : Un (frs l) [] H H' s.heap s'.heap :=
  ⟨fun b o q n hb _ => F.fly.1 b o (F.kin b o q n hb), fun b o q _ hb _ => F.slots b hb o q, fun b o q n _ => F.free b o q n,
    fun b o q _ => by
      by_cases hb : b ∈ frs l
      · obtain ⟨sl, z⟩ := F.slots b hb o q
        exact ⟨_, z⟩
      · obtain ⟨o', z⟩ := F.all b o q hb
        exact ⟨o', F.fly.1 b o' z⟩, F.tups, F.frzs, F.tbls⟩
theorem hok_stay (hok : HOk P w H' s'.heap) (k : ∀ b u, H' b = some u → ∀ o, s'.heap.get? b = some o → h'.get? b = some o) : HOk P w H' h' := fun a u q =>
  (hok a u q).stay (fun b v hb z => by
    rcases hb with rfl | hb
    · exact k b u q v z
    · exact k b _ hb v z) (fun _ z => z) fun _ _ z => z
theorem Fly.move (F : Fly P w B a0 l H s C e H' s') (fl : Heap.FlyingW B l e C a0 h') (up : s'.heap.UpToSlots h') : Fly P w B a0 l H s C e H' { s' with heap := h' } := by
  refine ⟨F.os, F.bare, F.fresh, fl, fun b hb o q => ?_, F.kin, fun b u q => ?_, F.all, F.free, F.tups, F.frzs, F.tbls, hok_stay F.hok fun b u q o z => ?_⟩
  · obtain ⟨sl, z⟩ := F.slots b hb o q
    obtain ⟨_, o2, z2, nf⟩ := F.fly.2.2.1.mem hb
    rw [z] at z2
    cases z2
    obtain ⟨sl2, z3⟩ := up b _ z nf
    exact ⟨sl2, z3⟩
  · obtain ⟨o, z1, z2⟩ := F.trk b u q
    exact ⟨o, fl.1 b o z2, z2⟩
  · obtain ⟨o', z1, z2⟩ := F.trk b u q
    rw [z] at z1
    cases z1
    exact fl.1 b o z2
end
section
variable {X : Cx} {pins : List (Addr × Obj)} {σ : St} {H H' : Hp} {s s' : Shared} {B : Heap} {a0 C : Value} {e : Addr} {h' h1 : Heap}
theorem Inv.fly (I : Inv X pins σ H s) (F : Fly X.prog X.w B a0 X.stack H s C e H' s') : Inv X pins σ H' s' :=
  I.call' (ch := []) F.os F.un F.hok F.bare (fun b z => absurd z (by simp))
/-- a def's own frame -/
structure OwnFr (X : Cx) : Prop where
  st : X.stack = X.env :: X.outer
  fr : X.env.frame = some X.env.locals
  ex : X.ex = []
theorem OwnFr.frs (O : OwnFr X) : L2.frs X.stack = X.env.locals :: X.fs := by
  rw [O.st]
  show List.filterMap _ (_ :: _) = _
  rw [List.filterMap_cons, O.fr]
  rfl
theorem OwnFr.out (O : OwnFr X) (I : Inv X pins σ H s) {b : Addr} {o : Obj} (q : X.s₀.heap.get? b = some o) (hb : b ∉ L2.frs X.outer) : b ∉ L2.frs X.stack := fun z => by
  rw [O.frs] at z
  rcases List.mem_cons.mp z with z | z
  · exact absurd (Nat.lt_of_lt_of_le (Heap.lt_size q) I.ok.above) (by rw [z]; exact Nat.lt_irrefl _)
  · exact hb z
theorem OwnFr.nex (O : OwnFr X) (b : Addr) : b ∉ X.ex := by rw [O.ex]; simp
theorem Fly.out (O : OwnFr X) (I : Inv X pins σ H s) (F : Fly X.prog X.w B a0 X.stack H s C e H' s') (fl : Heap.FlyingW B X.outer e C a0 h') (up : s'.heap.UpToSlots h') :
    Fly X.prog X.w B a0 X.outer X.H₀ X.s₀ C e H' { s' with heap := h' } := by
  have sub : ∀ b ∈ L2.frs X.outer, b ∈ L2.frs X.stack := fun b hb => by rw [O.frs]; exact List.mem_cons_of_mem _ hb
  refine ⟨F.os.trans I.os, F.bare, F.fresh, fl, fun b hb o q => ?_, fun b o q n hb => ?_, fun b u q => ?_, fun b o q hb => ?_, fun b o q n => ?_, fun b xs q => F.tups b xs (I.base.tups b xs q), fun b o u q => F.frzs b o u (I.base.frzs b o u q), fun b ps q => ?_,
    hok_stay F.hok fun b u q o z => ?_⟩
  · obtain ⟨sl, z⟩ := I.base.slot b o q (I.ok.frf b hb) hb (O.nex b)
    obtain ⟨sl1, z1⟩ := F.slots b (sub b hb) _ z
    obtain ⟨_, o2, z2, nf⟩ := F.fly.2.2.1.mem (sub b hb)
    rw [z1] at z2
    cases z2
    obtain ⟨sl2, z3⟩ := up b _ z1 nf
    exact ⟨sl2, z3⟩
  · exact F.kin b o (I.base.keep b o q n hb (O.nex b)) (I.base.free b o q n (O.nex b)) (O.out I q hb)
  · obtain ⟨o, z1, z2⟩ := F.trk b u q
    exact ⟨o, fl.1 b o z2, z2⟩
  · obtain ⟨o', z⟩ := I.base.there b o q (O.nex b)
    exact F.all b o' z (O.out I q hb)
  · obtain ⟨o', z⟩ := I.base.there b o q (O.nex b)
    exact F.free b o' z (I.base.free b o q n (O.nex b))
  · obtain ⟨m1, z1⟩ := I.base.tbls b ps q
    obtain ⟨m2, z2⟩ := F.tbls b _ z1
    exact ⟨m1 ++ m2, by rw [z2, Array.append_assoc]⟩
  · obtain ⟨o', z1, z2⟩ := F.trk b u q
    rw [z] at z1
    cases z1
    exact fl.1 b o z2
/-- an exception is made and leaves the frame at once -/
theorem Inv.raised {vs : List Value} {A : Around} {E' : Value → Shared → Prop} {M : Model} (I : Inv X pins σ H s) (O : OwnFr X) (hx : Heap.MadeExcOf s.heap h1 e C vs) (hfr : A.frames = some (X.env :: X.outer)) :
    wpAny M A (leaving X.env (.ref e)) (fun _ s'' => ∃ B a0, Fly X.prog X.w B a0 X.outer X.H₀ X.s₀ C e H s'') E' { s with heap := h1 } := by
  have frs' : s.heap.FunFrames (PySem.W.hideAll s.heap (L2.frs X.stack)) (X.env :: X.outer) := by
    have q := PySem.W.funFrames_hide (as := L2.frs X.stack) I.stack fun env he b hb => List.mem_filterMap.mpr ⟨env, he, hb⟩
    rw [O.st] at q ⊢
    exact q
  have sub : ∀ b ∈ L2.frs X.outer, b ∈ L2.frs X.stack := fun b hb => by rw [O.frs]; exact List.mem_cons_of_mem _ hb
  refine wpAny_leaves_madeW (s := { s with heap := h1 }) (base := PySem.W.hideAll s.heap (L2.frs X.stack)) (h := s.heap) hfr O.fr (fun b o q => PySem.W.of_hideAll _ q) frs' hx fun h' t fl _ _ up => ⟨PySem.W.hideAll s.heap (L2.frs X.stack), .ref t, ?_⟩
  have inB : ∀ b u, H b = some u → ∃ o, s.heap.get? b = some o ∧ (PySem.W.hideAll s.heap (L2.frs X.stack)).get? b = some o := fun b u q => by
    obtain ⟨o, z⟩ := (I.hok b u q).here
    exact ⟨o, z, PySem.W.hideAll_get _ z fun hb => by rw [I.stkFree b hb] at q; cases q⟩
  refine ⟨I.os, I.bare, ?_, fl, fun b hb o q => ?_, fun b o q n hb => ?_, fun b u q => ?_, fun b o q hb => ?_, fun b o q n => ?_, fun b xs q => I.base.tups b xs q, fun b o u q => I.base.frzs b o u q, fun b ps q => I.base.tbls b ps q, ?_⟩
  · cases q : H e with
    | none => rfl
    | some u =>
      obtain ⟨o, z⟩ := (I.hok e u q).here
      rw [hx.new] at z
      cases z
  · obtain ⟨sl, z⟩ := I.base.slot b o q (I.ok.frf b hb) hb (O.nex b)
    obtain ⟨_, o2, z2, nf⟩ := I.stack.mem (sub b hb)
    rw [z] at z2
    cases z2
    obtain ⟨sl2, z3⟩ := up b _ (hx.keeps b _ z) nf
    exact ⟨sl2, z3⟩
  · exact PySem.W.hideAll_get _ (I.base.keep b o q n hb (O.nex b)) (O.out I q hb)
  · obtain ⟨o, z1, z2⟩ := inB b u q
    exact ⟨o, fl.1 b o z2, z2⟩
  · obtain ⟨o', z⟩ := I.base.there b o q (O.nex b)
    exact ⟨o', PySem.W.hideAll_get _ z (O.out I q hb)⟩
  · obtain ⟨o', z⟩ := I.base.there b o q (O.nex b)
    exact I.base.free b o q n (O.nex b)
  · exact fun a u q => (I.hok a u q).stay (fun b v hb z => by
      have k : ∀ u', H b = some u' → h'.get? b = some v := fun u' q' => by
        obtain ⟨o, z1, z2⟩ := inB b u' q'
        rw [z] at z1
        cases z1
        exact fl.1 b v z2
      rcases hb with rfl | hb
      · exact k u q
      · exact k _ hb) (fun _ z => z) fun _ _ z => z
end

/-- how an exception of an own class lies behind a call -/
def CX1 (P : Program) (w : World) : CXT := fun l H s E e s' => ∃ B a0 C ea H', e = Value.ref ea ∧ Fly P w B a0 l H s C ea H' s' ∧ E C none H'
section
variable {P : Program} {w : World} {K : PySem.W.Frag} {mg : Str → Option Value} {base : Heap} {N : List Str} {qual : Str} {scope : Scope} {f : Addr} {cd : Value} {A : Around} {outer : List Env} {s : Shared} {H : Hp} {E : XK}
theorem ownFr : OwnFr (cxOf (CX1 P w) P w K mg base N qual scope f cd A outer s H E) := ⟨rfl, rfl, rfl⟩
/-- a callee's exception passes through a def's body -/
theorem passX : Passes (CX1 P w) (cxOf (CX1 P w) P w K mg base N qual scope f cd A outer s H E) E := by
  intro pins σ H1 s1 e s' I h
  obtain ⟨B, a0, C, ea, H', rfl, F, hE⟩ := h
  have fl : Heap.FlyingW B (envOfC qual scope s.heap.objs.size f cd :: outer) ea C a0 s'.heap := F.fly
  refine wpAny_leaves_onW (L := s.heap.objs.size) I.ok.frames rfl fl fun h' fl' up => ?_
  exact ⟨B, a0, C, ea, H', rfl, Fly.out ownFr I F fl' up, hE⟩
/-- what a raise wants of the context -/
def Raises (X : Cx) (E : XK) : Prop := ∀ (pins : List (Addr × Obj)) (σ : St) (H : Hp) (s : Shared) (h' : Heap) (e C : Addr) (vs : List Value), Inv X pins σ H s → Heap.MadeExcOf s.heap h' e (.ref C) vs → E (.ref C) none H → X.xe (.ref e) { s with heap := h' }
theorem raisesX : Raises (cxOf (CX1 P w) P w K mg base N qual scope f cd A outer s H E) E := by
  intro pins σ H1 s1 h' e C vs I hx hE
  refine thn (I.raised ownFr hx I.ok.frames) fun _ s2 h2 => ?_
  obtain ⟨B, a0, F⟩ := h2
  exact ⟨B, a0, _, e, _, rfl, F, hE⟩
end

/-! ### own exception classes -/
/-- the class at C is an own exception under ValueError, with the mro ref C :: bm -/
structure Exc (K : PySem.W.Frag) (C : Addr) (bm : List Value) : Prop where
  obj : ∀ h : Heap, K.In h → ∃ N nm q bs hdct sn sub ab col dd k0 k1 k2 k3 k5 mN, h.get? C = some (excClassObj nm q C N bs bm hdct sn sub ab col dd k0 k1 k2 k3 k5 "ValueError.__new__") ∧ h.Ns N mN ∧ mN "__init__" = none ∧
    OwnTail h [.type "ValueError", .type "Exception", .type "BaseException", .type "object"] bm
def mroIn (K : PySem.W.Frag) (C : Addr) : Option (List Value) := match K.lookup C with
  | some ⟨_, _, .cls cd, _⟩ => some cd.mro
  | _ => none
theorem exc_of {K : PySem.W.Frag} {C : Addr} {bm : List Value} (q : PySem.W.excIn K C [.type "ValueError", .type "Exception", .type "BaseException", .type "object"] "ValueError.__new__" = true) (m : mroIn K C = some (.ref C :: bm)) : Exc K C bm := by
  refine ⟨fun h X => ?_⟩
  unfold PySem.W.excIn at q
  unfold mroIn at m
  split at q
  · rename_i dd cd sl ho
    rw [ho] at m
    split at q
    · rename_i C' bm' k0 k1 k2 k3 n k5 hm hs
      simp only [Bool.and_eq_true, beq_iff_eq, Bool.not_eq_true'] at q
      obtain ⟨⟨⟨⟨⟨rfl, rfl⟩, hdel⟩, ht⟩, hok⟩, hni⟩ := q
      obtain ⟨nm, bs, mro, ns, qn, hd, sn, sub, ab, col, del⟩ := cd
      dsimp only at hm hdel hok hni m
      subst hm hdel
      have e : bm' = bm := by
        injection m with m
        injection m with m1 m2
      subst e
      have hsl : sl = #[k0, k1, k2, k3, some (.builtin "ValueError.__new__"), k5] := by
        obtain ⟨l⟩ := sl
        simp only at hs
        rw [hs]
      subst hsl
      exact ⟨ns, nm, qn, bs, hd, sn, sub, ab, col, dd, k0, k1, k2, k3, k5, _, X _ _ ho, .of_isNs (PySem.W.isNs_of_in X hok), PySem.W.nsMap_none_of_in X hok hni, PySem.W.tail_of_in X ht⟩
    · cases q
  · cases q
theorem Exc.base {K : PySem.W.Frag} {C : Addr} {bm : List Value} (O : Exc K C bm) {h : Heap} (X : K.In h) : bm.contains (.type "BaseException") = true := by
  obtain ⟨_, _, _, _, _, _, _, _, _, _, _, _, _, _, _, _, _, _, _, T⟩ := O.obj h X
  exact T.hasType (by decide +kernel)

/-- raise C(..): the exception leaves with the heap as it stands -/
def tRaise (C : Value) (E : XK) (t : TA) : TS := fun _ σ H => t σ H fun vs H1 => vs.length ≤ sizeLine ∧ E C none H1
section
variable {X : Cx} {C : Addr} {bm : List Value} {x : Str} {np cpos pos : Pos} {e₀ : Expr} {rest : List Expr} {t : TA} {E : XK}
theorem ps_raise (O : Exc X.K C bm) (hg : Gl X x) (hm : X.mg x = some (.ref C)) (hc : X.calm = true) (hr : Raises X E) (ha : PA X (e₀ :: rest) t)
    (he : starEach (e₀ :: rest) X.env = (false, eval e₀ X.env) :: starEach rest X.env := by rfl) (hpl : (backTo cpos (starEach rest X.env)).any (·.1) = false := by rfl) (hdb : (x == ("__debug__" : Str)) = false := by decide) :
    PS X (.Raise (some (.Call (.Name x np) (e₀ :: rest) [] cpos)) none pos) (tRaise (.ref C) E t) := by
  intro pins s σ H D I h
  obtain ⟨N, nm, q, bs, hdct, sn, sub, ab, col, dd, k0, k1, k2, k3, k5, mN, hC, hN, hni, T⟩ := O.obj _ I.ok.mod.kin
  have FB := PySem.F.excBase_ValueError
  refine wpAny_Raise_call_subU (C := C) (nm := nm) (q := q) (N := N) (bs := bs) (bm := bm) (hdct := hdct) (sn := sn) (sub := sub) (ab := ab) (col := col) (dd := dd) (k0 := k0) (k1 := k1) (k2 := k2) (k3 := k3) (k5 := k5)
    FB (by decide +kernel) FB (mN := mN) (T.hasType FB.hasBase) (I.ok.hd hc) (by rw [he]; show (false || (backTo cpos (starEach rest X.env)).any (·.1)) = false; rw [hpl]; rfl) hni (ld_glob I hg hm ⟨rfl, ?_⟩ hdb)
  have q1 := ha cpos pins s σ H _ I h
  rw [he] at q1 ⊢
  refine Calls.evalArgs_plain (thn q1 fun us s2 h2 => ?_)
  obtain ⟨vs, H2, I2, rv, hz, hE⟩ := h2
  exact ⟨rfl, by rw [← rv.length]; exact hz, I2.bk _ _ hC, hN.keeps I2.bk, T.keeps I2.bk, fun h' e hx => hr pins σ H2 s2 h' e C us I2 hx hE⟩
end
end L2
/-! TRY with except of own classes. -/
namespace L2
open PySem PySem.Spec PyProof.Rows

section
variable {M : Model} {A : Around} {E : Value → Shared → Prop}
theorem excMatches_own {s : Shared} {C C' : Addr} {bm bm' : List Value} {K : PySem.W.Frag} (X : K.In s.heap) (O : Exc K C bm) (O' : Exc K C' bm') {e : Addr} {oe : Obj} {Q : Bool → Shared → Prop} (he : s.heap.get? e = some oe) (hcls : oe.cls = .ref C)
    (hq : Q ((Value.ref C :: bm).contains (.ref C')) s) : wpAny M A (excMatches (.ref e) (.ref C')) Q E s := by
  have hb := O'.base X
  obtain ⟨N, nm, q, bs, hdct, sn, sub, ab, col, dd, k0, k1, k2, k3, k5, mN, hC, _⟩ := O.obj _ X
  obtain ⟨N', nm', q', bs', hdct', sn', sub', ab', col', dd', k0', k1', k2', k3', k5', mN', hC', _⟩ := O'.obj _ X
  obtain ⟨h, g, d, t, os⟩ := s
  dsimp only at he hC hC'
  have hcB : (Value.ref C' :: bm').contains (.type "BaseException") = true := by rw [List.contains_cons, hb, Bool.or_true]
  have f := tc_notTuple
  generalize hcc : (Value.ref C :: bm).contains (.ref C') = b at hq
  unfold excMatches
  repeat (first | (with_reducible refine wpAny_loadPart_at he ?_; rw [hcls]) | with_reducible refine wpAny_loadPart_at hC' ?_ | (with_reducible refine wpAny_isSubtype_exc hC' ?_; rw [hcB]) | (with_reducible refine wpAny_isSubtype_exc hC ?_; rw [hcc]) | wp_step)
  cases b <;> (wp_walk; exact hq)
end

/-- a try's body: an exception comes with the frame's values as they stand -/
def tryX (X : Cx) (pl : List (Addr × Obj)) (R : St → Value → Hp → Prop) : Cx :=
  ({ X with pn := X.pn ++ pl } : Cx).wish fun e s' => ∃ pins σ H s, Inv ({ X with pn := X.pn ++ pl } : Cx) pins σ H s ∧ CX1 X.prog X.w X.stack H s (fun C _ H' => R σ C H') e s'
/-- an except suite: the exception e is being handled; nothing is raised there -/
def hush (X : Cx) (e : Addr) : Cx := { X with A := X.A.mark (some (.ref e)), calm := false, xe := fun _ _ => False }
section
variable {X : Cx} {pins pl : List (Addr × Obj)} {σ : St} {H H' : Hp} {s s' : Shared} {R : St → Value → Hp → Prop} {e : Addr} {D : Ends} {f : Flow}
theorem Inv.toPn (I : Inv X pl σ H s) : Inv ({ X with pn := X.pn ++ pl } : Cx) [] σ H s :=
  ⟨⟨I.ok.mod, I.ok.kind, I.ok.glob, I.ok.blt, I.ok.above, I.ok.inj, I.ok.has, I.ok.cab, I.ok.hd, I.ok.frames, I.ok.stk, I.ok.exf, I.ok.bs, I.ok.bsz, I.ok.noex, I.ok.exfs, I.ok.funs, I.ok.frf⟩, I.os, I.bare, I.base, I.loc, I.cell, I.free, I.freeC,
    fun p hp => I.pin p (by rw [List.append_nil] at hp; exact hp), I.hok, I.len⟩
theorem Inv.ofPn (I : Inv ({ X with pn := X.pn ++ pl } : Cx) pins σ H s) : Inv X pl σ H s :=
  ⟨⟨I.ok.mod, I.ok.kind, I.ok.glob, I.ok.blt, I.ok.above, I.ok.inj, I.ok.has, I.ok.cab, I.ok.hd, I.ok.frames, I.ok.stk, I.ok.exf, I.ok.bs, I.ok.bsz, I.ok.noex, I.ok.exfs, I.ok.funs, I.ok.frf⟩, I.os, I.bare, I.base, I.loc, I.cell, I.free, I.freeC,
    fun p hp => I.pin p (List.mem_append_left _ hp), I.hok, I.len⟩
theorem Inv.toTry (I : Inv X pl σ H s) : Inv (tryX X pl R) [] σ H s := I.toPn.wish _
theorem Inv.ofTry (I : Inv (tryX X pl R) pins σ H s) : Inv X pl σ H s := (Inv.unwish I).ofPn
theorem SP.ofTry (h : SP (tryX X pl R) pins D f s') : SP X pl D f s' := by
  cases f with
  | next => obtain ⟨σ', H', I, q⟩ := h; exact ⟨σ', H', I.ofTry, q⟩
  | brk => obtain ⟨σ', H', I, q⟩ := h; exact ⟨σ', H', I.ofTry, q⟩
  | cont => obtain ⟨σ', H', I, q⟩ := h; exact ⟨σ', H', I.ofTry, q⟩
  | ret u => obtain ⟨v, σ', H', I, r, q⟩ := h; exact ⟨v, σ', H', I.ofTry, r, q⟩
theorem Inv.hush (I : Inv X pins σ H s) (e : Addr) : Inv (L2.hush X e) pins σ H s :=
  ⟨⟨I.ok.mod, I.ok.kind, I.ok.glob, I.ok.blt, I.ok.above, I.ok.inj, I.ok.has, I.ok.cab, fun z => (nomatch (show false = true from z)), I.ok.frames, I.ok.stk, I.ok.exf, I.ok.bs, I.ok.bsz, I.ok.noex, I.ok.exfs, I.ok.funs, I.ok.frf⟩, I.os, I.bare, I.base, I.loc, I.cell, I.free, I.freeC,
    I.pin, I.hok, I.len⟩
theorem Inv.unhush {X : Cx} (ok : X.Ok) (I : Inv (L2.hush X e) pins σ H s) : Inv X pins σ H s :=
  ⟨ok, I.os, I.bare, I.base, I.loc, I.cell, I.free, I.freeC, I.pin, I.hok, I.len⟩
theorem SP.unhush (ok : X.Ok) (h : SP (hush X e) pins D f s') : SP X pins D f s' := by
  cases f with
  | next => obtain ⟨σ', H', I, q⟩ := h; exact ⟨σ', H', I.unhush ok, q⟩
  | brk => obtain ⟨σ', H', I, q⟩ := h; exact ⟨σ', H', I.unhush ok, q⟩
  | cont => obtain ⟨σ', H', I, q⟩ := h; exact ⟨σ', H', I.unhush ok, q⟩
  | ret u => obtain ⟨v, σ', H', I, r, q⟩ := h; exact ⟨v, σ', H', I.unhush ok, r, q⟩
end

/-- handlers: the exception (of the class C) has landed in this frame -/
def PH (X : Cx) (hs : List ExceptHandler) (th : Value → TS) : Prop :=
  ∀ (pins : List (Addr × Obj)) (σ : St) (H : Hp) (s : Shared) (B : Heap) (a0 C : Value) (e : Addr) (H' : Hp) (s' : Shared) (D : Ends), Inv X pins σ H s → Fly X.prog X.w B a0 X.stack H s C e H' s' → th C D σ H' →
    wpAny (model X.prog X.w) X.A (handleBy (.ref e) X.env hs) (SP X pins D) X.xe s'
def tTry (tb : (St → Value → Hp → Prop) → TS) (th : Value → TS) : TS := fun D σ H => tb (fun σ' C H' => th C D σ' H') D σ H
/-- an except clause of the own class at C' without a name -/
def tHand (K : PySem.W.Frag) (C' : Addr) (ts : TS) (tr : Value → TS) : Value → TS := fun C D σ H => ∃ c bm, C = Value.ref c ∧ Exc K c bm ∧ if (Value.ref c :: bm).contains (.ref C') = true then ts D σ H else tr C D σ H
/-- the exception itself, tracked -/
def excO (c e : Addr) : HO := .ext fun h => ∃ o, h.get? e = some o ∧ o.cls = Value.ref c
/-- .. with a name in the slot i -/
def tHandAs (K : PySem.W.Frag) (C' : Addr) (i : Nat) (ts : TS) (tr : Value → TS) : Value → TS := fun C D σ H => ∃ c bm, C = Value.ref c ∧ Exc K c bm ∧ if (Value.ref c :: bm).contains (.ref C') = true then
  ∀ e, H e = none → ts { nx := fun σ' H' => D.nx (σ'.set i none) H', rt := D.rt, bk := fun σ' H' => D.bk (σ'.set i none) H', ct := fun σ' H' => D.ct (σ'.set i none) H' } (σ.set i (some (.ref e))) (upd H e (excO c e)) else tr C D σ H
section
variable {X : Cx} {body suite : List Stmt} {b₀ : Stmt} {h₀ : ExceptHandler} {hs rest : List ExceptHandler} {tb : (St → Value → Hp → Prop) → TS} {th tr : Value → TS} {ts : TS} {pos np : Pos} {x n : Str} {C' : Addr} {bm' : List Value}
theorem ph_nil : PH X [] (fun _ => tNever) := fun _ _ _ _ _ _ _ _ _ _ _ _ _ h => h.elim
theorem ps_try (O : OwnFr X) (hb : ∀ pl R, PSs (tryX X pl R) body (tb R)) (hh : PH X (h₀ :: hs) th) : PS X (.Try body (h₀ :: hs) [] [] pos) (tTry tb th) := by
  intro pins s σ H D I h
  refine wpAny_Try_except (wpAny_mono (hb pins _ [] s σ H D I.toTry h) (fun f s1 h1 => ?_) fun e s1 h1 => ?_)
  · cases f with
    | next => exact wpAny_execs_nil (SP.ofTry h1)
    | brk => exact SP.ofTry h1
    | cont => exact SP.ofTry h1
    | ret u => exact SP.ofTry h1
  · obtain ⟨pins', σ', H1, s2, I2, B, a0, C, ea, H', rfl, F, q⟩ := h1
    have I2' : Inv X pins σ' H1 s2 := I2.ofPn
    have fr : X.A.frames = some (X.env :: X.outer) := by rw [← O.st]; exact I2'.ok.frames
    have fl : Heap.FlyingW B (X.env :: X.outer) ea C a0 s1.heap := by rw [← O.st]; exact F.fly
    refine wpAny_looks_onW (L := X.env.locals) fr O.fr fl fun h2 held up2 => ?_
    refine wpAny_landsW held fun h3 fl3 up3 => ?_
    have F3 : Fly X.prog X.w B a0 X.stack H1 s2 C ea H' { s1 with heap := h3 } := F.move (by rw [O.st]; exact fl3) (up2.trans up3)
    exact hh pins σ' H1 s2 B a0 C ea H' _ D I2' F3 q
theorem ph_own (O : OwnFr X) (hg : Gl X x) (hm : X.mg x = some (.ref C')) (O' : Exc X.K C' bm') (hsu : ∀ e, PSs (hush X e) (b₀ :: suite) ts) (hr : PH X rest tr) (hdb : (x == ("__debug__" : Str)) = false := by decide) :
    PH X (.ExceptHandler (some (.Name x np)) none (b₀ :: suite) pos :: rest) (tHand X.K C' ts tr) := by
  intro pins σ H s B a0 C e H' s' D I F h
  obtain ⟨c, bm, rfl, Oc, q⟩ := h
  have I' := I.fly F
  obtain ⟨ob, hob, hcls⟩ := F.fly.there
  refine wpAny_handleBy_cons (codeAny_handlers_test (ld_glob (X := hush X e) (I'.hush e) hg hm ?_ hdb)) (by intro z; cases z)
  refine excMatches_own I'.kIn Oc O' hob hcls ?_
  cases hb : (Value.ref c :: bm).contains (.ref C') with
  | false =>
    rw [hb, if_neg Bool.false_ne_true] at q
    exact hr pins σ H s B a0 _ e H' s' D I F q
  | true =>
    rw [hb, if_pos rfl] at q
    refine codeAny_handlers_suite ?_
    refine lands_againW F.fly fun h3 fl3 up3 => ?_
    have I3 := I.fly (F.move fl3 up3)
    refine wpAny_mono (hsu e pins _ σ H' D (I3.hush e) q) (fun f s4 h4 => ?_) fun _ _ z => z.elim
    exact SP.unhush I.ok h4
/-- the exception is tracked from here on -/
theorem Inv.track {pins : List (Addr × Obj)} {σ : St} {H H' : Hp} {s s' : Shared} {B : Heap} {a0 : Value} {c e : Addr} (I : Inv X pins σ H s) (F : Fly X.prog X.w B a0 X.stack H s (.ref c) e H' s') : Inv X pins σ (upd H' e (excO c e)) s' := by
  have I' := I.fly F
  obtain ⟨oe, vs, heo, hcls, hdat, _⟩ := F.fly.first
  have new : ∀ b o, s.heap.get? b = some o → b ≠ e := fun b o q z => by
    subst z
    by_cases hb : b ∈ L2.frs X.stack
    · obtain ⟨_, o2, z2, nf⟩ := F.fly.2.2.1.mem hb
      rw [heo] at z2
      cases z2
      exact nf vs hdat
    · obtain ⟨o', z'⟩ := F.all b o q hb
      rw [F.fly.2.1] at z'
      cases z'
  have nu : ∀ b u, H' b = some u → b ≠ e := fun b u q z => by rw [z, F.fresh] at q; cases q
  obtain ⟨m, hn, hl⟩ := I'.loc
  obtain ⟨_, ⟨oL, _, _, hoL, _⟩, _⟩ := I.loc
  refine ⟨I'.ok, I'.os, I'.bare, ⟨I'.base.keep, I'.base.slot, fun b o q n hx => ?_, I'.base.there, fun b xs q => ?_, fun b o u q => ?_, fun b ps q => ?_⟩, ⟨m, hn, hl⟩, I'.cell, ?_, fun y d q => ?_, fun p hp => ?_, fun b u q => ?_, I'.len⟩
  · have h1 := I'.base.free b o q n hx
    obtain ⟨o', z⟩ := I.base.there b o q hx
    rw [upd_ne (new b o' z)]
    exact h1
  · have h1 := I'.base.tups b xs q
    rw [upd_ne (nu b _ h1)]
    exact h1
  · have h1 := I'.base.frzs b o u q
    rw [upd_ne (nu b _ h1)]
    exact h1
  · obtain ⟨more, h1⟩ := I'.base.tbls b ps q
    exact ⟨more, by rw [upd_ne (nu b _ h1)]; exact h1⟩
  · rw [upd_ne (new _ oL hoL)]
    exact I'.free
  · obtain ⟨v, o, ho, _⟩ := I.cell y d q
    rw [upd_ne (new _ o ho)]
    exact I'.freeC y d q
  · obtain ⟨e1, n1, n2, n3, n4⟩ := I'.pin p hp
    refine ⟨e1, ?_, n2, n3, n4⟩
    rw [upd_ne (new _ _ (I.pin p hp).1)]
    exact n1
  · by_cases hb : b = e
    · subst hb
      rw [upd_same] at q
      cases q
      refine ⟨⟨oe, heo, hcls⟩, ⟨oe, heo⟩, fun h1 h2 ⟨o, z1, z2⟩ k => ⟨o, k o z1, z2⟩⟩
    · rw [upd_ne hb] at q
      exact (I'.hok b u q).stay (fun _ _ _ z => z) (fun d z => by rw [upd_ne (nu d _ z)]; exact z) fun d xs z => by rw [upd_ne (nu d _ z)]; exact z
/-- a name is let go behind the suite -/
theorem Inv.forget {pins : List (Addr × Obj)} {σ : St} {H : Hp} {s : Shared} {h' : Heap} {i : Nat} {n : Str} {v : Option Value} {tk : Nat} {m : Str → Option Value} (I : Inv X pins σ H s) (hi : X.N[i]? = some n) (hN : X.N.Nodup)
    (hn : s.heap.Ns X.env.locals m) (hl : ∀ (i : Nat) (x : Str) (v : V), X.N[i]? = some x → σ[i]? = some (some v) → Vis X.env.scope x → ∃ u, RelV v u ∧ Look X.env s.heap m x u)
    (hn' : h'.Ns X.env.locals (fun x => if x = n then v else m x)) (hs : Heap.SameBut X.env.locals s.heap h') : Inv X pins (σ.set i none) H { s with heap := h', toks := tk } := by
  have cne := I.cne
  obtain ⟨oL, _, _, hoL, _⟩ := id hn
  refine ⟨I.ok, I.os, I.bare, ⟨fun b o e n hb hx => ?_, fun b o e n hb hx => ?_, I.base.free, fun b o e hx => ?_, I.base.tups, I.base.frzs, I.base.tbls⟩, ⟨_, hn', fun j y v' e1 e2 e3 => ?_⟩, fun y c e => ?_, I.free, I.freeC, fun p hp => ?_, fun b ob e => ?_, by simpa using I.len⟩
  · exact (hs.2 b (Nat.ne_of_lt (Nat.lt_of_lt_of_le (Heap.lt_size e) I.ok.above))).trans (I.base.keep b o e n hb hx)
  · obtain ⟨sl, e1⟩ := I.base.slot b o e n hb hx
    exact ⟨sl, (hs.2 b (Nat.ne_of_lt (Nat.lt_of_lt_of_le (Heap.lt_size e) I.ok.above))).trans e1⟩
  · obtain ⟨o', e1⟩ := I.base.there b o e hx
    exact ⟨o', (hs.2 b (Nat.ne_of_lt (Nat.lt_of_lt_of_le (Heap.lt_size e) I.ok.above))).trans e1⟩
  · by_cases hj : j = i
    · subst hj
      by_cases hz : j < σ.length
      · rw [List.getElem?_set_self hz] at e2
        cases e2
      · rw [List.getElem?_eq_none_iff.mpr (by rw [List.length_set]; omega)] at e2
        cases e2
    · rw [List.getElem?_set_ne (Ne.symm hj)] at e2
      obtain ⟨u', r', q⟩ := hl j y v' e1 e2 e3
      refine ⟨u', r', ?_⟩
      rcases q with ⟨k, e⟩ | ⟨k, c, e, z⟩
      · refine .inl ⟨k, ?_⟩
        have : y ≠ n := fun e => hj (nodup_ix hN e1 (e ▸ hi))
        simp [this, e]
      · exact .inr ⟨k, c, e, z.sameBut hs (cne y c e)⟩
  · obtain ⟨w', z⟩ := I.cell y c e
    exact ⟨w', z.sameBut hs (cne y c e)⟩
  · obtain ⟨e, n, ne, nf, d⟩ := I.pin p hp
    exact ⟨(hs.2 p.1 ne).trans e, n, ne, nf, d⟩
  · refine (I.hok b ob e).stay (fun c w' hc q => (hs.2 c ?_).trans q) (fun _ q => q) fun _ _ q => q
    rintro rfl
    rcases hc with hc | hc
    · rw [← hc, I.free] at e
      cases e
    · rw [I.free] at hc
      cases hc
theorem ph_as {i : Nat} (O : OwnFr X) (hg : Gl X x) (hm : X.mg x = some (.ref C')) (O' : Exc X.K C' bm') (hN : X.N.Nodup) (hi : X.N[i]? = some n) (hlo : X.env.scope.names.lookup n = some .local) (hsu : ∀ e, PSs (hush X e) (b₀ :: suite) ts) (hr : PH X rest tr) (hdb : (x == ("__debug__" : Str)) = false := by decide) :
    PH X (.ExceptHandler (some (.Name x np)) (some n) (b₀ :: suite) pos :: rest) (tHandAs X.K C' i ts tr) := by
  intro pins σ H s B a0 C e H' s' D I F h
  obtain ⟨c, bm, rfl, Oc, q⟩ := h
  have I' := I.fly F
  obtain ⟨ob, hob, hcls⟩ := F.fly.there
  refine wpAny_handleBy_cons (codeAny_handlers_test (ld_glob (X := hush X e) (I'.hush e) hg hm ?_ hdb)) (by intro z; cases z)
  refine excMatches_own I'.kIn Oc O' hob hcls ?_
  cases hb : (Value.ref c :: bm).contains (.ref C') with
  | false =>
    rw [hb, if_neg Bool.false_ne_true] at q
    exact hr pins σ H s B a0 _ e H' s' D I F q
  | true =>
    rw [hb, if_pos rfl] at q
    refine codeAny_handlers_suite_as ?_
    refine lands_againW F.fly fun h3 fl3 up3 => ?_
    have I3 := (I.track (F.move fl3 up3)).hush e
    refine store_ok (X := hush X e) (i := i) I3 hN hi (Or.inl hlo) (v := .ref e) rfl (fun s4 I4 => ?_) (Or.inr hlo)
    have q' := q e F.fresh
    refine wpAny_mono (hsu e pins s4 _ _ _ I4 q') (fun f s5 h5 => ?_) fun _ _ z => z.elim
    have go : ∀ {σ5 : St} {H5 : Hp} {Q : Flow → Shared → Prop} {E : Value → Shared → Prop}, Inv (hush X e) pins σ5 H5 s5 → (∀ s6, Inv X pins (σ5.set i none) H5 s6 → Q f s6) →
        wpAny (model X.prog X.w) X.A (do bindName X.env n .none; unbindBehindTheSuite X.env n pos) (fun _ s6 => Q f s6) E s5 := fun {σ5 H5 Q E} I5 k => by
      have I5' := I5.unhush I.ok
      obtain ⟨m, hn, hl⟩ := I5'.loc
      refine wpAny_nameGoes_keeps hlo hn (by rw [I.ok.kind]; rfl) fun h' v hn' hs => ?_
      exact k _ (I5'.forget hi hN hn hl hn' hs)
    cases f with
    | next => obtain ⟨σ5, H5, I5, q5⟩ := h5; exact go (Q := SP X pins D) I5 fun s6 I6 => ⟨_, _, I6, q5⟩
    | brk => obtain ⟨σ5, H5, I5, q5⟩ := h5; exact go (Q := SP X pins D) I5 fun s6 I6 => ⟨_, _, I6, q5⟩
    | cont => obtain ⟨σ5, H5, I5, q5⟩ := h5; exact go (Q := SP X pins D) I5 fun s6 I6 => ⟨_, _, I6, q5⟩
    | ret u => obtain ⟨v5, σ5, H5, I5, r5, q5⟩ := h5; exact go (Q := SP X pins D) I5 fun s6 I6 => ⟨v5, _, _, I6, r5, q5⟩
end

/-! ### calls within a try: what is wanted of an exception may speak of the frame's values -/
def tCallR (sp : Sp) (R : St → Value → Hp → Prop) (t : TA) : TE := fun σ H Q => t σ H fun vs H1 => sp vs H1 Q fun C _ H' => R σ C H'
def tMethR (C : Addr) (m : Str) (sp : Sp) (R : St → Value → Hp → Prop) (ta : TE) (t : TA) : TE := fun σ H Q => ta σ H fun x H1 => ∃ a dx fs, x = .ref a ∧ H1 a = some (.ins C dx fs) ∧ fs.lookup m = none ∧
  t σ H1 fun vs H2 => sp (x :: vs) H2 Q fun C _ H' => R σ C H'
section
variable {X : Cx} {pl : List (Addr × Obj)} {R : St → Value → Hp → Prop} {k : Nat} {f C : Addr} {fd : FuncData} {ps : List Str} {sp : Sp} {x m : Str} {p pos apos : Pos} {e o : Expr} {es : List Expr} {ta : TE} {t : TA}
theorem run_fnR {pins : List (Addr × Obj)} {σ : St} {H : Hp} {s : Shared} {Q : VK} {us : List Value} {vs : List V} (F : FnOk X.prog X.w X.K X.mg X.base (CX1 X.prog X.w) k f fd ps sp) (hr : Room k X.A) (hb : Binds X.K fd ps [])
    (I : Inv (tryX X pl R) pins σ H s) (r : Vals vs us) (h : sp vs H Q fun C _ H' => R σ C H') : wpAny (model X.prog X.w) X.A (call (.ref f) us) (EP (tryX X pl R) pins σ Q) (tryX X pl R).xe s := by
  have hl : us.length = ps.length := by rw [← r.length]; exact F.len _ _ _ _ h
  have hb' := hb s us I.kIn (by rw [List.append_nil]; exact hl)
  rw [List.append_nil] at hb'
  refine wpAny_call (codeAny_mono (F.run X.A X.stack s H ⟨us, []⟩ us vs Q _ hr I.env0 hb' r h) fun r s' hq => ?_)
  cases r with
  | error e => exact ⟨pins, σ, H, s, I.unwish, hq⟩
  | ok fl =>
    cases fl with
    | ret u => exact I.after hq
    | next => exact False.elim hq
    | brk => exact False.elim hq
    | cont => exact False.elim hq
theorem pe_callR (F : FnOk X.prog X.w X.K X.mg X.base (CX1 X.prog X.w) k f fd ps sp) (hr : Room k X.A) (hg : Gl X x) (hm : X.mg x = some (.ref f)) (hk : PySem.W.keepIn X.K (.ref f) = true) (hb : Binds X.K fd ps [])
    (ha : PA (tryX X pl R) (e :: es) t) (hdb : (x == ("__debug__" : Str)) = false := by decide) (he : starEach (e :: es) X.env = (false, eval e X.env) :: starEach es X.env := by rfl) (hpl : (backTo pos (starEach es X.env)).any (·.1) = false := by rfl) :
    PE (tryX X pl R) (.Call (.Name x p) (e :: es) [] pos) (tCallR sp R t) := by
  intro pins s σ H Q I h
  refine wpAny_Call_Name_kw (ld_glob (X := tryX X pl R) I hg hm ?_ hdb)
  refine PySem.W.callWith_K (h₀ := X.base) I.ok.mod.kin hk (thn (ha pos pins s σ H _ I h) fun us s1 ⟨vs, H1, I1, r, q⟩ => ⟨I1.kIn, ?_⟩) he hpl
  exact run_fnR F hr hb I1 r q
theorem pe_methR {pl' : Sem Bool} (he : PE (tryX X pl R) o ta) (c : Cls X.K C) (hm : Meth X.K C m f) (F : FnOk X.prog X.w X.K X.mg X.base (CX1 X.prog X.w) k f fd ps sp) (hr : Room k X.A) (hb : Binds X.K fd ps []) (ha : PA (tryX X pl R) (e :: es) t)
    (hst : starEach (e :: es) X.env = (false, eval e X.env) :: starEach es X.env := by rfl) (hpl : (backTo pos (starEach es X.env)).any (·.1) = false := by rfl)
    (ht : eval (.Call (.Attribute o m apos) (e :: es) [] pos) X.env = (do
      let ov ← eval o X.env
      standAt apos.atName
      let (f, first) ← holding [ov] (getMethod ov m pl')
      callWith pos f first (backTo pos (starEach (e :: es) X.env)) (backToKw pos (keywordEach [] X.env))) := by rfl) :
    PE (tryX X pl R) (.Call (.Attribute o m apos) (e :: es) [] pos) (tMethR C m sp R ta t) := by
  intro pins s σ H Q I h
  refine PySem.W.methodCall_KW (pl := pl') (thn (he pins s σ H _ I h) fun u s1 ⟨x, H1, I1, rx, a, dx, fs, ex, ea, l, q⟩ => ?_) ht
  subst ex
  obtain rfl : u = Value.ref a := rx
  refine getmeth_ok I1 ea c hm l ?_
  refine PySem.W.callWith_K (first := [.ref a]) (h₀ := X.base) I.ok.mod.kin hm.kp (thn (ha pos pins s1 σ H1 _ I1 q) fun us s2 ⟨vs, H2, I2, r, q2⟩ => ⟨I2.kIn, ?_⟩) hst hpl
  exact run_fnR (us := .ref a :: us) (vs := .ref a :: vs) F hr hb I2 (.cons rfl r) q2
end

/-! ### a def that may raise -/
section
variable {P : Program} {w : World} {K : PySem.W.Frag} {mg : Str → Option Value} {base : Heap}
theorem Fun.okX {x qual : Str} {st : Stmt} {f : Addr} {fd : FuncData} {N ps : List Str} {k : Nat} {sp : Sp} (F : Fun K x qual st f fd) (S : FnScope N ps (defScope st)) (len : ∀ vs H Q E, sp vs H Q E → vs.length = ps.length)
    (hbody : ∀ (cdv : Value) (A : Around) (outer : List Env) (s : Shared) (H : Hp) (vs : List V) (Q : VK) (E : XK), Room k (A.deeper (envOfC qual (defScope st) s.heap.objs.size f cdv)) → sp vs H Q E →
      ∃ t, PSs (cxOf (CX1 P w) P w K mg base N qual (defScope st) f cdv A outer s H E) (defBody st) t ∧ t { nx := fun _ H' => Q .non H', rt := Q } (start N vs) H) : FnOk P w K mg base (CX1 P w) (k + 1) f fd ps sp := by
  obtain ⟨oc, od, kV, doc, pm, an, cdv, ct, osl, rfl, lk, hcd⟩ := F.ex
  exact fn_of lk hcd S len fun A outer s H vs Q E hr hsp => hbody cdv A outer s H vs Q E hr hsp
theorem ownFr0 {CX : CXT} {N : List Str} {qual : Str} {scope : Scope} {f : Addr} {cd : Value} {A : Around} {outer : List Env} {s : Shared} {H : Hp} {E : XK} : OwnFr (cxOf CX P w K mg base N qual scope f cd A outer s H E).nox := ⟨rfl, rfl, rfl⟩
end
end L2
/-! LIST COMPREHENSIONS over the hand layer: one clause, a name or a tuple as target, at most one test. -/
namespace L2
open PySem PySem.Spec PyProof.Rows

theorem compLoop_go {prog : Program} {w : World} {A : Around} {R : Result → Shared → Prop} {s : Shared} {elt target iter : Expr} {ifs : List Expr} {scope : Scope} {pos : Pos} {it acc : Value} {env : Env} (I : Nat → Shared → Prop)
    (turn : ∀ n s, I n s → wpAny (model prog w) A (pyNext it) (fun r s₁ => match r with
      | none => R (.ok .next) s₁
      | some v => wpAny (model prog w) A (letOwnedTupleGo target it v) (fun _ s₁' => wpAny (model prog w) A (assign target env v) (fun _ s₂ =>
          wpAny (model prog w) A (forIn ifs true fun c r => if r = true then do let ok ← isTrue c env (eval c env); pure (ForInStep.yield ok) else pure (ForInStep.yield r)) (fun ok s₃ =>
            if ok = true then wpAny (model prog w) A (eval elt env) (fun x s₄ =>
              wpAny (model prog w) A (call (.builtin "list.append") [acc, x]) (fun _ s₅ => ∃ m, m < n ∧ I m s₅) (fun _ _ => False) s₄) (fun _ _ => False) s₃
            else ∃ m, m < n ∧ I m s₃) (fun _ _ => False) s₂) (fun _ _ => False) s₁') (fun _ _ => False) s₁) (fun _ _ => False) s)
    (n : Nat) (h : I n s) : codeAny (model prog w) A (.compLoop (.ListComp elt [⟨target, iter, ifs, 0⟩] scope pos) 0 it acc env) R s := by
  refine codeAny_loop rfl I (fun n s hI => ?_) n h
  show wpAny _ A ((compTurn (.ListComp elt [⟨target, iter, ifs, 0⟩] scope pos) 0 it acc env).onRaise (fun x => do noteFrame x env; theTreesLotGoes x)) _ _ s
  refine wpAny_noted ?_
  rw [compTurn_list]
  refine wpAny_bind (wpAny_standAt (wpAny_bind (wpAny_mono (turn n s hI) (fun r s₁ h₁ => ?_) fun _ _ h' => h'.elim)))
  cases r with
  | none => exact wpAny_pure h₁
  | some v =>
    refine wpAny_bind (wpAny_mono h₁ (fun _ s₁' h₁' => ?_) fun _ _ h' => h'.elim)
    refine wpAny_bind (wpAny_mono h₁' (fun _ s₂ h₂ => wpAny_bind (wpAny_mono h₂ (fun ok s₃ h₃ => ?_) fun _ _ h' => h'.elim)) fun _ _ h' => h'.elim)
    cases ok with
    | false => exact wpAny_pure ⟨rfl, h₃⟩
    | true =>
      exact wpAny_bind (wpAny_bind (wpAny_mono h₃ (fun x s₄ h₄ => wpAny_bind (wpAny_mono h₄ (fun _ s₅ h₅ => wpAny_pure (wpAny_pure ⟨rfl, h₅⟩)) fun _ _ h' => h'.elim)) fun _ _ h' => h'.elim))

/-- the closure: the free names ys with their cells -/
def clOf (env : Env) (ys : List Str) : List (Str × Addr) := ys.filterMap fun y => (env.cells.lookup y).map fun c => (y, c)
theorem clOf_lookup {env : Env} : ∀ {ys : List Str} {x : Str} {c : Addr}, (clOf env ys).lookup x = some c → x ∈ ys ∧ env.cells.lookup x = some c
  | [], _, _, h => by simp [clOf] at h
  | y :: ys, x, c, h => by
    unfold clOf at h
    rw [List.filterMap_cons] at h
    cases e : env.cells.lookup y with
    | none =>
      rw [e] at h
      obtain ⟨h1, h2⟩ := clOf_lookup (ys := ys) (x := x) (c := c) h
      exact ⟨List.mem_cons_of_mem _ h1, h2⟩
    | some d =>
      rw [e] at h
      change List.lookup x ((y, d) :: clOf env ys) = some c at h
      rw [List.lookup_cons] at h
      cases hx : x == y with
      | true =>
        rw [hx] at h
        cases h
        have q : x = y := by simpa using hx
        subst q
        exact ⟨List.mem_cons_self, e⟩
      | false =>
        rw [hx] at h
        obtain ⟨h1, h2⟩ := clOf_lookup (ys := ys) (x := x) (c := c) h
        exact ⟨List.mem_cons_of_mem _ h1, h2⟩
theorem clOf_has {env : Env} : ∀ {ys : List Str} {x : Str} {c : Addr}, x ∈ ys → env.cells.lookup x = some c → (clOf env ys).lookup x = some c
  | [], _, _, h, _ => by simp at h
  | y :: ys, x, c, h, e => by
    unfold clOf
    rw [List.filterMap_cons]
    by_cases q : x = y
    · subst q
      rw [e]
      show List.lookup x ((x, c) :: _) = some c
      rw [List.lookup_cons]
      simp
    · have h' : x ∈ ys := (List.mem_cons.mp h).resolve_left q
      have ih := clOf_has (env := env) h' e
      cases e' : env.cells.lookup y with
      | none => exact ih
      | some d =>
        show List.lookup x ((y, d) :: clOf env ys) = some c
        rw [List.lookup_cons]
        have : (x == y) = false := by simpa using q
        rw [this]
        exact ih
/-- the free names: where they stand in the def's own slots -/
def FreeOk (X : Cx) : List Str → List Nat → Prop
  | [], [] => True
  | y :: ys, j :: js => (X.N[j]? = some y ∧ (X.env.kindOf y = some .cell ∨ X.env.kindOf y = some .free)) ∧ FreeOk X ys js
  | _, _ => False
def pick (σ : St) (js : List Nat) : St := js.map fun j => (σ[j]?).getD none
structure CompScope (X : Cx) (scope : Scope) (xs ys : List Str) (js : List Nat) : Prop where
  kind : scope.kind = .function
  names : ∀ p ∈ scope.names, (p.2 = .local ∧ scope.names.lookup p.1 = some .local) ∨ (p.2 = .free ∧ p.1 ∈ ys ∧ scope.names.lookup p.1 = some .free) ∨ (p.2 = .globalImplicit ∧ scope.names.lookup p.1 = some .globalImplicit)
  own : ∀ x ∈ xs, scope.names.lookup x = some .local
  frees : ∀ y ∈ ys, scope.names.lookup y = some .free
  clos : closureFor scope X.env = pure (clOf X.env ys)
  fr : FreeOk X ys js
/-- the block of a comprehension -/
def blk (X : Cx) (scope : Scope) (xs ys : List Str) (C : Addr) (s₀ : Shared) (H₀ : Hp) (fp : List Addr) (pl : List (Addr × Obj)) : Cx :=
  { X with N := xs ++ ys, s₀ := s₀, H₀ := H₀, env := compEnvC scope (clOf X.env ys) C X.env, outer := X.stack, ex := fp, fn := fun y => xs.contains y, pn := X.pn ++ pl, xe := fun _ _ => False }
/-- an object of no further use that may turn -/
def Junk (X : Cx) (pins : List (Addr × Obj)) (H : Hp) (C : Addr) : Prop :=
  H C = none ∧ C ≠ X.env.locals ∧ X.s₀.heap.objs.size ≤ C ∧ (∀ x c, X.env.cells.lookup x = some c → c ≠ C) ∧ ∀ p ∈ X.pn ++ pins, p.1 ≠ C
theorem Inv.let_go {X : Cx} {pins : List (Addr × Obj)} {σ : St} {H : Hp} {s : Shared} {C : Addr} {h' : Heap} (I : Inv X pins σ H s) (j : Junk X pins H C) (hs : Heap.SameBut C s.heap h') : Inv X pins σ H { s with heap := h' } :=
  I.turned (t' := s.toks) (fun b _ hb e => (hs.2 b hb).trans e) j.1 j.2.1 (.inr j.2.2.1) j.2.2.2.1 j.2.2.2.2

/-- what the walk of a comprehension comes to: te the test (if there is one), tg the target, te the element -/
def CompGo (J : It) (g : TG) (tc : TT) (te : TE) (σ : St) (acc : Addr) (H1 : Hp) (Q : VK) : Prop :=
  ∃ W : Nat → Nat → List V → St → Hp → Prop, (∃ m, W 0 m [] σ (upd H1 acc (.lst []))) ∧ ∀ i m zs σ H2, W i m zs σ H2 → H2 acc = some (.lst zs) ∧
    ((J.stop i H2 ∧ Q (.ref acc) H2) ∨ (J.go i H2 ∧ ∀ y H3, J.yld i H2 y H3 → g y σ H3 fun σ4 H4 => tc σ4 H4 fun b H5 => if b = true then te σ4 H5 fun z H6 => H6 acc = some (.lst zs) ∧ zs.length < sizeLine ∧ ∃ m', m' < m ∧ W (i + 1) m' (zs ++ [z]) σ4 (upd H6 acc (.lst (zs ++ [z])))
      else ∃ m', m' < m ∧ W (i + 1) m' zs σ4 H5))
def tComp (wi : TI) (n : Nat) (js : List Nat) (g : TG) (tc : TT) (te : TE) : TE := fun σ H Q => wi σ H fun J H1 => ∀ acc, H1 acc = none → CompGo J g tc te (List.replicate n none ++ pick σ js) acc H1 Q
/-- the tests of a clause -/
def PIfs (X : Cx) (ifs : List Expr) (tc : TT) : Prop :=
  ∀ (pins : List (Addr × Obj)) (s : Shared) (σ : St) (H : Hp) (Q : Bool → Hp → Prop), Inv X pins σ H s → tc σ H Q →
    wpAny (model X.prog X.w) X.A (forIn ifs true fun c r => if r = true then do let ok ← isTrue c X.env (eval c X.env); pure (ForInStep.yield ok) else pure (ForInStep.yield r)) (TP X pins σ Q) X.xe s
def tYes : TT := fun _ H Q => Q true H
theorem pif_nil {X : Cx} : PIfs X [] tYes := fun _ _ _ H _ I h => wpAny_tests_nil ⟨H, I, h⟩
section
variable {X : Cx} {scope : Scope} {xs ys : List Str} {js : List Nat} {elt target iter : Expr} {ifs : List Expr} {pos px : Pos} {wi : TI} {g : TG} {tc : TT} {te : TE}
theorem FreeOk.get : ∀ {ys : List Str} {js : List Nat} {i : Nat} {y : Str}, FreeOk X ys js → ys[i]? = some y → ∃ j, js[i]? = some j ∧ X.N[j]? = some y ∧ (X.env.kindOf y = some .cell ∨ X.env.kindOf y = some .free)
  | [], _, _, _, _, h => by simp at h
  | _ :: _, [], _, _, f, _ => f.elim
  | y' :: ys, j :: js, 0, y, f, h => by
    have e : y' = y := by simpa using h
    subst e
    exact ⟨j, rfl, f.1⟩
  | y' :: ys, j :: js, i + 1, y, f, h => by
    obtain ⟨j', h1, h2⟩ := FreeOk.get (i := i) (y := y) f.2 (by simpa using h)
    exact ⟨j', by simpa using h1, h2⟩
theorem FreeOk.len : ∀ {ys : List Str} {js : List Nat}, FreeOk X ys js → ys.length = js.length
  | [], [], _ => rfl
  | [], _ :: _, f => f.elim
  | _ :: _, [], f => f.elim
  | _ :: ys, _ :: js, f => by simp [FreeOk.len f.2]
theorem lookup_relabel_free {env : Env} : ∀ {names : List (Str × NameKind)} {x : Str}, names.lookup x = some .free →
    (names.map fun (n, k) => if (k == NameKind.free && env.scope.kind == .function && env.kindOf n == some .cell) then (n, NameKind.cell) else (n, k)).lookup x = some .cell ∨
    (names.map fun (n, k) => if (k == NameKind.free && env.scope.kind == .function && env.kindOf n == some .cell) then (n, NameKind.cell) else (n, k)).lookup x = some .free
  | [], _, h => by simp at h
  | (n, k) :: r, x, h => by
    have ih := @lookup_relabel_free env r x
    show List.lookup x ((if (k == NameKind.free && env.scope.kind == .function && env.kindOf n == some .cell) = true then (n, NameKind.cell) else (n, k)) :: _) = _ ∨ List.lookup x ((if (k == NameKind.free && env.scope.kind == .function && env.kindOf n == some .cell) = true then (n, NameKind.cell) else (n, k)) :: _) = _
    cases hx : x == n with
    | true =>
      simp only [List.lookup_cons, hx] at h
      cases h
      by_cases hc : (NameKind.free == NameKind.free && env.scope.kind == .function && env.kindOf n == some .cell) = true
      · rw [if_pos hc]; left; simp [List.lookup_cons, hx]
      · rw [if_neg hc]; right; simp [List.lookup_cons, hx]
    | false =>
      simp only [List.lookup_cons, hx] at h
      by_cases hc : (k == NameKind.free && env.scope.kind == .function && env.kindOf n == some .cell) = true
      · rw [if_pos hc]; simp only [List.lookup_cons, hx]; exact ih h
      · rw [if_neg hc]; simp only [List.lookup_cons, hx]; exact ih h
theorem relabel_mem {env : Env} : ∀ {names : List (Str × NameKind)} {x : Str} {k : NameKind}, (names.map fun (n, k) => if (k == NameKind.free && env.scope.kind == .function && env.kindOf n == some .cell) then (n, NameKind.cell) else (n, k)).lookup x = some k →
    ∃ p ∈ names, p.1 = x ∧ (p.2 = k ∨ (p.2 = .free ∧ k = .cell))
  | [], _, _, h => by simp at h
  | (n, k') :: r, x, k, h => by
    have h : List.lookup x ((if (k' == NameKind.free && env.scope.kind == .function && env.kindOf n == some .cell) = true then (n, NameKind.cell) else (n, k')) :: _) = some k := h
    have ih := @relabel_mem env r x k
    by_cases hc : (k' == NameKind.free && env.scope.kind == .function && env.kindOf n == some .cell) = true
    · rw [if_pos hc, List.lookup_cons] at h
      cases hx : x == n with
      | true =>
        rw [hx] at h
        cases h
        refine ⟨(n, k'), List.mem_cons_self, (by simpa using hx : x = n).symm, Or.inr ⟨?_, rfl⟩⟩
        rw [Bool.and_eq_true, Bool.and_eq_true] at hc
        simpa using hc.1.1
      | false =>
        rw [hx] at h
        obtain ⟨p, h1, h2⟩ := ih h
        exact ⟨p, List.mem_cons_of_mem _ h1, h2⟩
    · rw [if_neg hc, List.lookup_cons] at h
      cases hx : x == n with
      | true =>
        rw [hx] at h
        cases h
        exact ⟨(n, k'), List.mem_cons_self, (by simpa using hx : x = n).symm, Or.inl rfl⟩
      | false =>
        rw [hx] at h
        obtain ⟨p, h1, h2⟩ := ih h
        exact ⟨p, List.mem_cons_of_mem _ h1, h2⟩

/-- the block's start -/
theorem blk_start {pins : List (Addr × Obj)} {σ : St} {H : Hp} {s : Shared} {h' : Heap} {fp : List Addr} {tk : Nat} (S : CompScope X scope xs ys js) (I : Inv X pins σ H s) (hf : ∀ b ∈ fp, FpOk X pins H b) (hfl : ∀ b ∈ fp, b < s.heap.objs.size)
    (hn : h'.Ns s.heap.objs.size fun _ => none) (k : ∀ b o, s.heap.get? b = some o → h'.get? b = some o) :
    Inv (blk X scope xs ys s.heap.objs.size s H fp pins) [] (List.replicate xs.length none ++ pick σ js) H { s with heap := h', toks := tk } := by
  have hfr : ∀ a, s.heap.objs.size ≤ a → H a = none := fun a ha => I.hok.fresh ha
  have fpS : ∀ b ∈ fp, b ∉ L2.frs X.stack := fun b hb z => by
    rcases List.mem_cons.mp (I.stkSub b z) with e | e
    · exact (hf b hb).2.1 e
    · exact (hf b hb).2.2.1 e
  have inYs : ∀ x, ((relabel scope X.env).names.lookup x = some .cell ∨ (relabel scope X.env).names.lookup x = some .free) → x ∈ ys := fun x hx => by
    rcases hx with z | z
    · obtain ⟨p, hp, e, z⟩ := relabel_mem z
      rcases S.names p hp with ⟨h1, _⟩ | ⟨_, h2, _⟩ | ⟨h1, _⟩
      · rcases z with z | z
        · rw [h1] at z; cases z
        · rw [h1] at z; cases z.1
      · rw [← e]; exact h2
      · rcases z with z | z
        · rw [h1] at z; cases z
        · rw [h1] at z; cases z.1
    · obtain ⟨p, hp, e, z⟩ := relabel_mem z
      rcases S.names p hp with ⟨h1, _⟩ | ⟨_, h2, _⟩ | ⟨h1, _⟩
      · rcases z with z | z
        · rw [h1] at z; cases z
        · cases z.2
      · rw [← e]; exact h2
      · rcases z with z | z
        · rw [h1] at z; cases z
        · cases z.2
  refine ⟨⟨I.ok.mod, S.kind, I.ok.glob, I.ok.blt, Nat.le_refl _, fun x y c h1 h2 => I.ok.inj x y c (clOf_lookup h1).2 (clOf_lookup h2).2, fun x hx => ?_, fun x c h1 h2 => ?_, I.ok.hd, I.ok.frames, .inl rfl, fun b hb => ⟨?_, fun x c e => (hf b hb).2.2.2.2.1 x c (clOf_lookup e).2⟩,
    I.bs, Nat.le_trans I.ok.bsz I.sz, fun b o e z => ?_, fpS, I.stack, I.stkFree⟩, rfl, I.bare, Un.kept k, ⟨_, hn, fun i y v e1 e2 e3 => ?_⟩, fun x c e => ?_, hfr _ (Nat.le_refl _), fun x c e => ?_, fun p hp => ?_, I.hok.kept k, ?_⟩
  · have q : x ∈ ys := inYs x hx
    obtain ⟨i, hi⟩ := List.getElem?_of_mem q
    obtain ⟨j, _, _, hk⟩ := S.fr.get hi
    obtain ⟨c, hc⟩ := I.ok.has x hk
    exact ⟨c, clOf_has q hc⟩
  · have q := (clOf_lookup h2).1
    have h1' : x ∈ xs := by
      have : xs.contains x = true := h1
      simpa using this
    have a := S.own x h1'
    have b := S.frees x q
    rw [a] at b
    cases b
  · intro z
    have z' : b = s.heap.objs.size := z
    have := hfl b hb
    rw [z'] at this
    exact Nat.lt_irrefl _ this
  · rcases (hf b z).2.2.2.1 with q | q
    · exact I.ok.noex b o e q
    · exact absurd (Nat.lt_of_lt_of_le (Heap.lt_size (I.ok.bs b o e).1) q) (Nat.lt_irrefl _)
  · have e1' : (xs ++ ys)[i]? = some y := e1
    by_cases hi : i < xs.length
    · rw [List.getElem?_append_left (by rw [List.length_replicate]; exact hi), List.getElem?_replicate] at e2
      split at e2 <;> cases e2
    · rw [List.getElem?_append_right (by omega)] at e1'
      rw [List.getElem?_append_right (by rw [List.length_replicate]; omega), List.length_replicate] at e2
      obtain ⟨j, hj, hN, hk⟩ := S.fr.get e1'
      unfold pick at e2
      rw [List.getElem?_map, hj] at e2
      have e4 : σ[j]? = some (some v) := by
        have e5 : (σ[j]?).getD none = some v := by simpa using e2
        cases q : σ[j]? with
        | none => rw [q] at e5; cases e5
        | some o => rw [q] at e5; simpa using e5
      have hvis : Vis X.env.scope y := by
        rcases hk with z | z
        · exact .inr (.inl z)
        · exact .inr (.inr z)
      obtain ⟨m0, _, hl⟩ := I.loc
      obtain ⟨u, ru, lk⟩ := hl j y v hN e4 hvis
      refine ⟨u, ru, .inr ⟨?_, ?_⟩⟩
      · exact lookup_relabel_free (S.frees y (List.mem_of_getElem? e1'))
      · rcases lk with ⟨z, _⟩ | ⟨_, c, hc, hcell⟩
        · rcases hk with q | q
          · rw [q] at z; cases z
          · rw [q] at z; cases z
        · exact ⟨c, clOf_has (List.mem_of_getElem? e1') hc, hcell.keeps k⟩
  · obtain ⟨v, z⟩ := I.cell x c (clOf_lookup e).2
    exact ⟨v, z.keeps k⟩
  · exact I.freeC x c (clOf_lookup e).2
  · have hp' : p ∈ X.pn ++ pins := by
      have : p ∈ (X.pn ++ pins) ++ [] := hp
      rwa [List.append_nil] at this
    obtain ⟨e, n, ne, nf, d⟩ := I.pin p hp'
    refine ⟨k _ _ e, n, fun z => ?_, fun z => ?_, d⟩
    · have z' : p.1 = s.heap.objs.size := z
      exact absurd (Heap.lt_size e) (by rw [z']; exact Nat.lt_irrefl _)
    · have z' : p.1 ∈ L2.frs X.stack := z
      rcases List.mem_cons.mp (I.stkSub _ z') with q | q
      · exact ne q
      · exact nf q
  · show (List.replicate xs.length none ++ pick σ js).length = (xs ++ ys).length
    rw [List.length_append, List.length_append, List.length_replicate]
    unfold pick
    rw [List.length_map, S.fr.len]
theorem comp_run {pins : List (Addr × Obj)} {σ : St} {H2 : Hp} {s2 : Shared} {J : It} {fp : List Addr} {it : Addr} {tn : Nat → Heap → Prop} {Q : VK} (S : CompScope X scope xs ys js) (hc : X.calm = true) (I2 : Inv X pins σ H2 s2) (T : Turn X.prog X.w X.K target J fp it tn) (st2 : tn 0 s2.heap)
    (f2 : ∀ b ∈ fp, FpOk X pins H2 b) (hg : ∀ C s₀ H₀ fp pl, PG (blk X scope xs ys C s₀ H₀ fp pl) target g) (hi : ∀ C s₀ H₀ fp pl, PIfs (blk X scope xs ys C s₀ H₀ fp pl) ifs tc) (he : ∀ C s₀ H₀ fp pl, PE (blk X scope xs ys C s₀ H₀ fp pl) elt te)
    (rd : ∀ acc, H2 acc = none → CompGo J g tc te (List.replicate xs.length none ++ pick σ js) acc H2 Q) {RR : Value → Addr → Result → Shared → Prop}
    (hRR : ∀ acc C H' s' m, s'.heap.Ns C m → Inv X pins σ H' s' → Junk X pins H' C → Q (.ref acc) H' → RR (.ref acc) C (.ok .next) s') :
    wpAny (model X.prog X.w) X.A (newList []) (fun acc s₃ => wpAny (model X.prog X.w) X.A (newFunctionEnv scope X.env.globals (clOf X.env ys) [] X.env.qual none .none (some X.env)) (fun cenv s₄ =>
      codeAny (model X.prog X.w) X.A (.compStart (.ListComp elt [⟨target, iter, ifs, 0⟩] scope pos) 0 (.ref it) acc { cenv with scope := relabel scope X.env }) (RR acc cenv.locals) s₄) X.xe s₃) X.xe s2 := by
  have fresh2 : H2 s2.heap.objs.size = none := I2.hok.fresh (Nat.le_refl _)
  obtain ⟨W, ⟨m0, w0⟩, turn⟩ := rd _ fresh2
  have hcell : ∀ y ∈ scope.names, y.2 ≠ .cell := fun y hy z => by
    rcases S.names y hy with ⟨q, _⟩ | ⟨q, _⟩ | ⟨q, _⟩ <;> rw [q] at z <;> cases z
  refine wpAny_newObj_type (wpAny_newFunctionEnv hcell (by intro y hy; simp at hy) (fun h₁ hns₁ hsb₁ => ?_) S.kind)
  dsimp only at hns₁ hsb₁ ⊢
  have I3 : Inv X pins σ (upd H2 s2.heap.objs.size (.lst [])) { s2 with heap := s2.heap.push { cls := .type "list", dict := none, data := .seq ([] : List Value).toArray }, toks := s2.toks } := I2.lnew (its := []) .nil (Nat.zero_le _)
  generalize hs3 : ({ s2 with heap := s2.heap.push { cls := .type "list", dict := none, data := .seq ([] : List Value).toArray }, toks := s2.toks } : Shared) = s3 at I3
  have hh3 : s2.heap.push { cls := .type "list", dict := none, data := .seq ([] : List Value).toArray } = s3.heap := by rw [← hs3]
  rw [hh3] at hns₁ hsb₁ ⊢
  have ne2 : ∀ b ∈ fp, b < s2.heap.objs.size := fun b hb => by
    obtain ⟨o, e, _⟩ := T.obj 0 _ st2 b hb
    exact Heap.lt_size e
  have sz3 : s3.heap.objs.size = s2.heap.objs.size + 1 := by rw [← hh3, Heap.size_push]
  have f3 : ∀ b ∈ fp, FpOk X pins (upd H2 s2.heap.objs.size (.lst [])) b := fun b hb => by
    obtain ⟨a1, a2⟩ := f2 b hb
    exact ⟨by rw [upd_ne (Nat.ne_of_lt (ne2 b hb))]; exact a1, a2⟩
  have k3 : ∀ b o, s3.heap.get? b = some o → h₁.get? b = some o := fun b o e => hsb₁.extBut b o (Nat.ne_of_lt (Heap.lt_size e)) (Heap.get?_push_of_some _ e)
  have IB := blk_start (tk := s3.toks) S I3 f3 (fun b hb => by rw [sz3]; exact Nat.lt_succ_of_lt (ne2 b hb)) (by simpa using hns₁) k3
  have st3 : tn 0 h₁ := T.keep 0 _ _ st2 fun b hb o e => k3 b o (by rw [← hh3]; exact Heap.get?_push_of_some _ e)
  have stat : ∀ {H' : Hp}, (∀ b ∈ fp, H' b = none) → ∀ b ∈ fp, FpOk (blk X scope xs ys s3.heap.objs.size s3 (upd H2 s2.heap.objs.size (.lst [])) fp pins) [] H' b := fun {H'} hn b hb => by
    obtain ⟨a1, a2, a3, a4, a5, a6⟩ := f3 b hb
    refine ⟨hn b hb, fun z => ?_, fun z => ?_, .inl hb, fun x c e => a5 x c (clOf_lookup e).2, fun p hp => a6 p ?_⟩
    · have z' : b = s3.heap.objs.size := z
      have := ne2 b hb
      rw [z', sz3] at this
      exact absurd this (Nat.not_lt.mpr (Nat.le_succ _))
    · have z' : b ∈ L2.frs X.stack := z
      rcases List.mem_cons.mp (I3.stkSub _ z') with q | q
      · exact a2 q
      · exact a3 q
    · have : p ∈ (X.pn ++ pins) ++ [] := hp
      rwa [List.append_nil] at this
  have loop : ∀ s₄ : Shared, s₄ = { s3 with heap := h₁, toks := s3.toks } →
      codeAny (model X.prog X.w) X.A (.compLoop (.ListComp elt [⟨target, iter, ifs, 0⟩] scope pos) 0 (.ref it) (.ref s2.heap.objs.size) (compEnvC scope (clOf X.env ys) s3.heap.objs.size X.env)) (RR (.ref s2.heap.objs.size) s3.heap.objs.size) s₄ := by
    rintro s₄ rfl
    refine compLoop_go (fun n s' => ∃ i zs σ' H', Inv (blk X scope xs ys s3.heap.objs.size s3 (upd H2 s2.heap.objs.size (.lst [])) fp pins) [] σ' H' s' ∧ tn i s'.heap ∧ (∀ b ∈ fp, H' b = none) ∧ W i n zs σ' H') ?_ m0 ⟨0, [], _, _, IB, st3, fun b hb => (f3 b hb).1, w0⟩
    rintro n s5 ⟨i, zs, σ5, H5, I5, st5, fr5, w5⟩
    obtain ⟨hacc, tt⟩ := turn i n zs σ5 H5 w5
    rcases tt with ⟨stop, qn⟩ | ⟨go, step⟩
    · refine thn (T.done (blk X scope xs ys s3.heap.objs.size s3 (upd H2 s2.heap.objs.size (.lst [])) fp pins) rfl rfl rfl hc i [] s5 σ5 H5 _ I5 (stat fr5) st5 stop) fun r s6 ⟨hr, I6⟩ => ?_
      subst hr
      obtain ⟨m, hm, _⟩ := I6.loc
      have I6' : Inv X pins σ H5 s6 := I3.call' (ch := fp) I6.os I6.base I6.hok I6.bare fun b hb => ⟨(f3 b hb).2.2.2.1, (f3 b hb).2.1, (f3 b hb).2.2.2.2.1, (f3 b hb).2.2.2.2.2⟩
      refine hRR _ _ H5 s6 m hm I6' ⟨I6.free, Nat.ne_of_gt I3.lt, I3.sz, fun x c e z => ?_, fun p hp z => ?_⟩ qn
      · obtain ⟨v, q⟩ := I3.cell x c e
        have := q.lt
        rw [z] at this
        exact Nat.lt_irrefl _ this
      · have := Heap.lt_size (I3.pin p hp).1
        rw [z] at this
        exact Nat.lt_irrefl _ this
    · refine thn (T.item (blk X scope xs ys s3.heap.objs.size s3 (upd H2 s2.heap.objs.size (.lst [])) fp pins) rfl rfl rfl hc i [] s5 σ5 H5 _ I5 (stat fr5) st5 go) fun r s6 ⟨u, hr, h6⟩ => ?_
      subst hr
      refine thn h6 fun _ s7 ⟨x, H7, I7, r7, y7, st7, fr7⟩ => ?_
      have I7' := I7.pinned (stat fr7) (T.obj _ _ st7)
      refine thn (hg _ _ _ _ _ _ s7 σ5 H7 x u _ I7' r7 (step x H7 y7)) fun _ s8 ⟨σ8, H8, I8, q8⟩ => ?_
      have again : ∀ {zs' : List V} {σ9 : St} {H9 : Hp} {s9 : Shared}, Inv (blk X scope xs ys s3.heap.objs.size s3 (upd H2 s2.heap.objs.size (.lst [])) fp pins) ([] ++ pinsAt fp s7.heap) σ9 H9 s9 → (∃ m', m' < n ∧ W (i + 1) m' zs' σ9 H9) →
          ∃ m, m < n ∧ ∃ i zs σ' H', Inv (blk X scope xs ys s3.heap.objs.size s3 (upd H2 s2.heap.objs.size (.lst [])) fp pins) [] σ' H' s9 ∧ tn i s9.heap ∧ (∀ b ∈ fp, H' b = none) ∧ W i m zs σ' H' := fun {zs' σ9 H9 s9} I9 ⟨m', hm, w9⟩ => by
        refine ⟨m', hm, i + 1, zs', σ9, H9, I9.unpinned, T.keep _ _ _ st7 fun b hb o e => (I9.pin (b, o) (List.mem_append_right _ (List.mem_append_right _ (mem_pinsAt hb e)))).1, fun b hb => ?_, w9⟩
        obtain ⟨o, e, d⟩ := T.obj _ _ st7 b hb
        exact (I9.pin (b, o) (List.mem_append_right _ (List.mem_append_right _ (mem_pinsAt hb e)))).2.1
      refine thn (hi _ _ _ _ _ _ s8 σ8 H8 _ I8 q8) fun ok s9 ⟨H9, I9, q9⟩ => ?_
      cases ok with
      | false =>
        rw [if_neg Bool.false_ne_true] at q9 ⊢
        exact again I9 q9
      | true =>
        rw [if_pos rfl] at q9 ⊢
        refine thn (he _ _ _ _ _ _ s9 σ8 H9 _ I9 q9) fun z s10 ⟨zv, H10, I10, rz, ha10, hl10, q10⟩ => ?_
        refine thn (mt_append _ s10 σ8 H10 (.ref s2.heap.objs.size) [zv] (.ref s2.heap.objs.size) [z] (fun _ H11 => H11 = upd H10 s2.heap.objs.size (.lst (zs ++ [zv]))) I10 rfl (.cons rz .nil) ⟨_, zs, zv, rfl, rfl, ha10, hl10, rfl⟩) fun _ s11 ⟨_, H11, I11, _, e11⟩ => ?_
        subst e11
        exact again I11 q10
  have e4 : ({ s2 with heap := h₁, toks := s2.toks + ([] : List (Str × Value)).length } : Shared) = { s3 with heap := h₁, toks := s3.toks } := by
    rw [← hs3]
    rfl
  exact codeAny_compStart_list (loop _ e4) (T.self X.A 0 _ _ _ st3 (loop _ e4))
theorem pe_comp (S : CompScope X scope xs ys js) (hc : X.calm = true) (hw : PI X target iter wi) (hg : ∀ C s₀ H₀ fp pl, PG (blk X scope xs ys C s₀ H₀ fp pl) target g) (hi : ∀ C s₀ H₀ fp pl, PIfs (blk X scope xs ys C s₀ H₀ fp pl) ifs tc) (he : ∀ C s₀ H₀ fp pl, PE (blk X scope xs ys C s₀ H₀ fp pl) elt te)
    (hs : ∀ x, foldedSetIterable iter X.env x = pure x := by intro _; rfl) : PE X (.ListComp elt [⟨target, iter, ifs, 0⟩] scope pos) (tComp wi xs.length js g tc te) := by
  intro pins s σ H Q I h
  rw [eval_ListComp]
  refine wpAny_comprehension_free (use := none) rfl hs S.clos S.kind (fun x hx hl => ?_) (thn (hw pins s σ H _ I h) fun v s1 h1 => thn h1 fun itv s2 h2 => ?_)
  · rcases S.names x hx with ⟨_, q⟩ | ⟨q, _⟩ | ⟨q, _⟩
    · exact q
    · rw [q] at hl; cases hl
    · rw [q] at hl; cases hl
  obtain ⟨it, fp, tn, J, H2, e, I2, T, st2, f2, rd⟩ := h2
  subst e
  refine comp_run (RR := fun acc C => compPost (model X.prog X.w) X.A X.xe none (EP X pins σ Q) acc C) S hc I2 T st2 f2 hg hi he rd fun acc C H' s' m hm I' jk q => ?_
  exact ⟨m, hm, fun h' hsb => ⟨.ref acc, H', I'.let_go jk hsb, rfl, q⟩⟩
/-- x = [..] at a local name, on one row: the stores are exchanged -/
def sComp (i : Nat) (t : TE) : TS := fun D σ H => t σ H fun v H1 => D.nx (σ.set i (some v)) H1
theorem ps_setComp {i : Nat} {x : Str} {py : Pos} {spos : Pos} (hN : X.N.Nodup) (hix : X.N[i]? = some x) (hlo : X.env.scope.names.lookup x = some .local) (S : CompScope X scope xs ys js) (hc : X.calm = true) (hw : PI X target iter wi) (hg : ∀ C s₀ H₀ fp pl, PG (blk X scope xs ys C s₀ H₀ fp pl) target g) (hi : ∀ C s₀ H₀ fp pl, PIfs (blk X scope xs ys C s₀ H₀ fp pl) ifs tc) (he : ∀ C s₀ H₀ fp pl, PE (blk X scope xs ys C s₀ H₀ fp pl) elt te)
    (hsw : swapsWith (.ListComp elt [⟨target, iter, ifs, 0⟩] scope pos) (some (.Name x py)) spos.line X.env = pure true := by rfl) (hs : ∀ x, foldedSetIterable iter X.env x = pure x := by intro _; rfl) :
    PS X (.Assign [.Name x py] (.ListComp elt [⟨target, iter, ifs, 0⟩] scope pos) spos) (sComp i (tComp wi xs.length js g tc te)) := by
  intro pins s σ H D I h
  rw [exec_Assign_Name_used _ _ _ _ hsw]
  refine wpAny_bind (wpAny_standAt (wpAny_bind ?_))
  show wpAny _ X.A (do let _ ← comprehension (.ListComp elt [⟨target, iter, ifs, 0⟩] scope pos) scope X.env _ (newList []) false (eval iter X.env) (some (assign (.Name x py) X.env))) _ _ s
  refine wpAny_bind (wpAny_mono (wpAny_comprehension_free (Q := fun _ s' => SP X pins D .next s') rfl hs S.clos S.kind (fun x hx hl => ?_) (thn (hw pins s σ H _ I h) fun v s1 h1 => thn h1 fun itv s2 h2 => ?_)) (fun _ s' hq => wpAny_pure (wpAny_pure hq)) fun _ _ e => e)
  · rcases S.names x hx with ⟨_, q⟩ | ⟨q, _⟩ | ⟨q, _⟩
    · exact q
    · rw [q] at hl; cases hl
    · rw [q] at hl; cases hl
  obtain ⟨it, fp, tn, J, H2, e, I2, T, st2, f2, rd⟩ := h2
  subst e
  refine comp_run (RR := fun acc C => compPost (model X.prog X.w) X.A X.xe (some (assign (.Name x py) X.env)) (fun _ s' => SP X pins D .next s') acc C) S hc I2 T st2 f2 hg hi he rd fun acc C H' s' m hm I' jk q => ?_
  refine wpAny_assign_Name (store_ok2 I' hN hix (Or.inl hlo) (v := .ref acc) rfl (fun s'' I'' hsb => ?_) (Or.inr hlo))
  obtain ⟨a, hsb, ha⟩ := hsb
  have hCa : C ≠ a := by
    rcases ha with e | e
    · rw [e]; exact jk.2.1
    · exact (jk.2.2.2.1 _ _ e).symm
  exact ⟨m, hm.sameBut hsb hCa, fun h' hs' => ⟨_, _, I''.let_go jk hs', q⟩⟩
end
/-- short for the scopes -/
theorem compScope {X : Cx} {scope : Scope} {xs ys : List Str} {js : List Nat} (kind : scope.kind = .function)
    (names : ∀ p ∈ scope.names, (p.2 = .local ∧ scope.names.lookup p.1 = some .local) ∨ (p.2 = .free ∧ p.1 ∈ ys ∧ scope.names.lookup p.1 = some .free) ∨ (p.2 = .globalImplicit ∧ scope.names.lookup p.1 = some .globalImplicit)) (own : ∀ x ∈ xs, scope.names.lookup x = some .local) (frees : ∀ y ∈ ys, scope.names.lookup y = some .free)
    (clos : closureFor scope X.env = pure (clOf X.env ys)) (fr : FreeOk X ys js) : CompScope X scope xs ys js := ⟨kind, names, own, frees, clos, fr⟩
end L2
namespace L2
open PySem PySem.Spec PyProof.Rows
/-- an element is put behind the others; n: how many are walked -/
def CStep (n : Nat) (acc : Addr) (Pv : Nat → List V → St → Hp → Prop) (i : Nat) (zs : List V) (σ4 : St) : VK := fun z H6 =>
  H6 acc = some (.lst zs) ∧ zs.length < sizeLine ∧ ∃ m', m' < n - i ∧ (m' = n - (i + 1) ∧ i + 1 ≤ n ∧ Pv (i + 1) (zs ++ [z]) σ4 (upd H6 acc (.lst (zs ++ [z]))))
/-- none is -/
def CSkip (n : Nat) (Pv : Nat → List V → St → Hp → Prop) (i : Nat) (zs : List V) (σ4 : St) (H5 : Hp) : Prop := ∃ m', m' < n - i ∧ (m' = n - (i + 1) ∧ i + 1 ≤ n ∧ Pv (i + 1) zs σ4 H5)
theorem CStep.mk {n i : Nat} {acc : Addr} {Pv : Nat → List V → St → Hp → Prop} {zs : List V} {σ4 : St} {z : V} {H6 : Hp} (hi : i < n) (h1 : H6 acc = some (.lst zs)) (h2 : zs.length < sizeLine) (p : Pv (i + 1) (zs ++ [z]) σ4 (upd H6 acc (.lst (zs ++ [z])))) : CStep n acc Pv i zs σ4 z H6 :=
  ⟨h1, h2, _, by omega, rfl, hi, p⟩
/-- over a list that stays as it is -/
theorem comp_list {K : PySem.W.Frag} {a acc : Addr} {xs : List V} {g : TG} {tc : TT} {te : TE} {σ : St} {H1 : Hp} {Q : VK} (Pv : Nat → List V → St → Hp → Prop) (h0 : Pv 0 [] σ (upd H1 acc (.lst [])))
    (hl : ∀ i zs σ H, i ≤ xs.length → Pv i zs σ H → SqL K H a xs ∧ H acc = some (.lst zs))
    (hs : ∀ i x zs σ H, xs[i]? = some x → i < xs.length → Pv i zs σ H → g x σ H fun σ4 H4 => tc σ4 H4 fun b H5 => if b = true then te σ4 H5 (CStep xs.length acc Pv i zs σ4) else CSkip xs.length Pv i zs σ4 H5)
    (hd : ∀ zs σ H, Pv xs.length zs σ H → Q (.ref acc) H) : CompGo (Itl K a) g tc te σ acc H1 Q := by
  refine ⟨fun i m zs σ H => m = xs.length - i ∧ i ≤ xs.length ∧ Pv i zs σ H, ⟨_, rfl, Nat.zero_le _, h0⟩, ?_⟩
  rintro i m zs σ H2 ⟨rfl, hi, p⟩
  obtain ⟨q, ha⟩ := hl i zs σ H2 hi p
  refine ⟨ha, ?_⟩
  by_cases hlt : i < xs.length
  · refine .inr ⟨⟨xs, xs[i], q, by simp [hlt]⟩, fun y H3 yl => ?_⟩
    obtain ⟨e, yl⟩ := yl
    subst e
    exact hs i y zs σ _ (yl xs q) hlt p
  · have e : i = xs.length := by omega
    subst e
    exact .inl ⟨⟨xs, q, Nat.le_refl _⟩, hd zs σ H2 p⟩
theorem comp_range {lo : Int} {n : Nat} {acc : Addr} {g : TG} {tc : TT} {te : TE} {σ : St} {H1 : Hp} {Q : VK} (Pv : Nat → List V → St → Hp → Prop) (h0 : Pv 0 [] σ (upd H1 acc (.lst [])))
    (hl : ∀ i zs σ H, i ≤ n → Pv i zs σ H → H acc = some (.lst zs))
    (hs : ∀ i zs σ H, i < n → Pv i zs σ H → g (.int (lo + i)) σ H fun σ4 H4 => tc σ4 H4 fun b H5 => if b = true then te σ4 H5 (CStep n acc Pv i zs σ4) else CSkip n Pv i zs σ4 H5)
    (hd : ∀ zs σ H, Pv n zs σ H → Q (.ref acc) H) : CompGo (Itr lo n) g tc te σ acc H1 Q := by
  refine ⟨fun i m zs σ H => m = n - i ∧ i ≤ n ∧ Pv i zs σ H, ⟨_, rfl, Nat.zero_le _, h0⟩, ?_⟩
  rintro i m zs σ H2 ⟨rfl, hi, p⟩
  have ha := hl i zs σ H2 hi p
  refine ⟨ha, ?_⟩
  by_cases hlt : i < n
  · refine .inr ⟨hlt, fun y H3 yl => ?_⟩
    obtain ⟨e, yl⟩ := yl
    subst e yl
    exact hs i zs σ _ hlt p
  · have e : i = n := by omega
    subst e
    exact .inl ⟨Nat.le_refl _, hd zs σ H2 p⟩
theorem tYes_if {σ : St} {H : Hp} {A B : Hp → Prop} (h : A H) : tYes σ H (fun b H5 => if b = true then A H5 else B H5) := by
  show if true = true then A H else B H
  rw [if_pos rfl]
  exact h
theorem gYes_if {i : Nat} {v : V} {σ : St} {H : Hp} {A B : St → Hp → Prop} (h : A (σ.set i (some v)) H) : gName i v σ H fun σ4 H4 => tYes σ4 H4 fun b H5 => if b = true then A σ4 H5 else B σ4 H5 := tYes_if (σ := σ.set i (some v)) (A := A (σ.set i (some v))) (B := B (σ.set i (some v))) h
end L2
/-! More rules: names of the top, isinstance, extend by any sequence, a list against [], a table of the top, f-strings. -/
namespace L2
open PySem PySem.Spec PyProof.Rows

section
variable {X : Cx} {x y : Str} {pos : Pos} {a : Addr} {T : String}
theorem pe_gstr (hg : Gl X x) (h : ∃ t, X.mg x = some (.str y t)) (hd : (x == ("__debug__" : Str)) = false := by decide) : PE X (.Name x pos) (tC (.str y)) := by
  obtain ⟨t, h⟩ := h
  exact pe_glob hg h ⟨t, rfl⟩ hd
theorem pe_gref (hg : Gl X x) (h : X.mg x = some (.ref a)) (hd : (x == ("__debug__" : Str)) = false := by decide) : PE X (.Name x pos) (tC (.ref a)) := pe_glob hg h rfl hd
theorem pe_bty (hg : Gl X x) (hm : X.mg x = none) (hv : bootBuiltins x = some (.type T)) (hn : x ≠ "__name__" := by decide) (hd : (x == ("__debug__" : Str)) = false := by decide) : PE X (.Name x pos) (tC (.ty T)) := pe_bltn hg hm hv rfl hn hd
end

/-! ### xs.extend(ys), ys a list or a tuple -/
theorem list_extend_tup (l : Addr) (items : Array Value) (n : Nat) (b : Addr) (items2 : Array Value) (n2 : Nat) (dd : Option Addr) (sl : Array (Option Value)) (hs0 : ¬(!items.isEmpty && Builtin.List.listTooLong (items.size + items2.size)) = true) (hs1 : items.size ≤ sizeLine) (hs2 : items.size + items2.size ≤ sizeLine + 1) :
    Meets (Builtin.«list.extend» ⟨[.ref l, .ref b], []⟩) (fun _ R s => s.heap.get? l = some { cls := .type "list", dict := none, data := .seq items n, slots := #[] } ∧ s.heap.get? b = some { cls := .type "tuple", dict := dd, data := .seq items2 n2, slots := sl } ∧ R (.ok (.ret Value.none)) { s with heap := s.heap.update l (Obj.mapSeq fun x => x ++ items2), toks := s.toks }) :=
  .of_wp fun prog w A R s h => by
    obtain ⟨hp, g, d, tk, os⟩ := s; obtain ⟨hl, hb, h⟩ := h; have f1 := PySem.AutoSeq1.idx_int; have f2 := PySem.AutoSeq1.sub_tuple_tuple; have f3 := PySem.AutoSeq1.sub_list_list; have f4 := PySem.AutoSeq1.sub_tuple_list; have f5 := PySem.AutoSeq1.sub_list_tuple;
    have hz' : (items ++ items2).size ≤ sizeLine + 1 := by rw [Array.size_append]; exact hs2
    wp_walk using (wpAny_updateSeq hl rfl (hz := hs1) (_hz' := hz')), PySem.AutoSeq1.wpAny_loadPart' hl, PySem.AutoSeq1.wpAny_loadPart' hb; exact ⟨_, rfl, h⟩
theorem list_extend_lst (l : Addr) (items : Array Value) (n : Nat) (b : Addr) (items2 : Array Value) (n2 : Nat) (dd : Option Addr) (sl : Array (Option Value)) (hs0 : ¬(!items.isEmpty && Builtin.List.listTooLong (items.size + items2.size)) = true) (hs1 : items.size ≤ sizeLine) (hs2 : items.size + items2.size ≤ sizeLine + 1) :
    Meets (Builtin.«list.extend» ⟨[.ref l, .ref b], []⟩) (fun _ R s => s.heap.get? l = some { cls := .type "list", dict := none, data := .seq items n, slots := #[] } ∧ s.heap.get? b = some { cls := .type "list", dict := dd, data := .seq items2 n2, slots := sl } ∧ R (.ok (.ret Value.none)) { s with heap := s.heap.update l (Obj.mapSeq fun x => x ++ items2), toks := s.toks }) :=
  .of_wp fun prog w A R s h => by
    obtain ⟨hp, g, d, tk, os⟩ := s; obtain ⟨hl, hb, h⟩ := h; have f1 := PySem.AutoSeq1.idx_int; have f2 := PySem.AutoSeq1.sub_tuple_tuple; have f3 := PySem.AutoSeq1.sub_list_list; have f4 := PySem.AutoSeq1.sub_tuple_list; have f5 := PySem.AutoSeq1.sub_list_tuple;
    have hz' : (items ++ items2).size ≤ sizeLine + 1 := by rw [Array.size_append]; exact hs2
    wp_walk using (wpAny_updateSeq hl rfl (hz := hs1) (_hz' := hz')), PySem.AutoSeq1.wpAny_loadPart' hl, PySem.AutoSeq1.wpAny_loadPart' hb; exact ⟨_, rfl, h⟩
def rExtendS (K : PySem.W.Frag) : V → List V → Hp → VK → Prop := fun x vs H Q => ∃ l b xs zs, x = .ref l ∧ vs = [.ref b] ∧ H l = some (.lst xs) ∧ (SqL K H b zs ∨ SqT K H b zs) ∧ xs.length + zs.length ≤ sizeLine ∧ Q .non (upd H l (.lst (xs ++ zs)))
section
variable {X : Cx}
theorem mt_extendS : MtM X "list.extend" (rExtendS X.K) := by
  intro pins s σ H x vs v us Q I rx rv h
  obtain ⟨l, b, xs, zs, rfl, rfl, hH, hB, hz, q⟩ := h
  cases rx
  obtain ⟨u, rfl, ru⟩ := rv.one
  cases ru
  obtain ⟨z, its, n, r, hl, e⟩ := I.lstM hH
  have nl : ∀ {m k : Nat}, m + k ≤ sizeLine → ¬ (!its.toArray.isEmpty && Builtin.List.listTooLong (m + k)) = true := fun hsz => by
    rw [notLongL hsz, Bool.and_false]
    exact Bool.false_ne_true
  rcases hB with hB | hB
  · obtain ⟨its2, r2, ⟨ob, n2, hob, hc, _, hd⟩, z2⟩ := I.list hB
    have l2 := r2.length
    obtain ⟨oc, odd, odt, osl⟩ := ob
    dsimp only at hc hd
    subst hc hd
    refine call_meets F.slot_list_extend ⟨_, e, rfl⟩ F.entry_list_extend (F.args_list_extend_2 _ _)
      (list_extend_lst l its.toArray n b its2.toArray n2 odd osl (nl (by rw [List.size_toArray, List.size_toArray]; omega)) (by rw [List.size_toArray]; omega) (by rw [List.size_toArray, List.size_toArray]; omega)) ⟨e, hob, ?_⟩
    refine ⟨.non, _, I.lset (its' := its ++ its2) hH e (by simp) (r.append r2) ?_, rfl, q⟩
    rw [List.length_append]
    omega
  · obtain ⟨its2, r2, ⟨ob, hob, hc, n2, hd⟩, z2⟩ := I.tuple hB
    have l2 := r2.length
    obtain ⟨oc, odd, odt, osl⟩ := ob
    dsimp only at hc hd
    subst hc hd
    refine call_meets F.slot_list_extend ⟨_, e, rfl⟩ F.entry_list_extend (F.args_list_extend_2 _ _)
      (list_extend_tup l its.toArray n b its2.toArray n2 odd osl (nl (by rw [List.size_toArray, List.size_toArray]; omega)) (by rw [List.size_toArray]; omega) (by rw [List.size_toArray, List.size_toArray]; omega)) ⟨e, hob, ?_⟩
    refine ⟨.non, _, I.lset (its' := its ++ its2) hH e (by simp) (r.append r2) ?_, rfl, q⟩
    rw [List.length_append]
    omega

/-! ### xs == [], xs != [] -/
def rEqNil (K : PySem.W.Frag) (neg : Bool) : R2 := fun x y H Q => ∃ a b xs, x = .ref a ∧ y = .ref b ∧ SqL K H a xs ∧ SqL K H b [] ∧ Q (.bl (if neg then !xs.isEmpty else xs.isEmpty)) H
theorem op_neNil (hu : X.A.units < cLine) : OpR X (compareOp .NotEq) (rEqNil X.K true) := by
  intro pins s σ H x y v u Q I rx ry h
  obtain ⟨a, b, xs, rfl, rfl, ha, hb, q⟩ := h
  cases rx
  cases ry
  obtain ⟨its, r, pl, z⟩ := I.list ha
  obtain ⟨its2, r2, pl2, z2⟩ := I.list hb
  have l1 := r.length
  have l2 := r2.length
  have e2 : its2 = [] := List.length_eq_zero_iff.mp (by rw [← l2]; rfl)
  subst e2
  cases xs with
  | nil =>
    have e1 : its = [] := List.length_eq_zero_iff.mp (by rw [← l1]; rfl)
    subst e1
    exact PySem.SeqAt.RcNeAt.lists (e := fun _ => true) pl.isList pl2.isList rfl hu (fun j h1 _ => absurd h1 (by simp)) X.prog X.w X.xe _ ⟨.bl false, H, I, rfl, q⟩
  | cons y ys =>
    refine PySem.SeqAt.RcNeAt.lists_lengths pl.isList pl2.isList ?_ hu X.prog X.w X.xe _ ⟨.bl true, H, I, rfl, q⟩
    rw [List.size_toArray, ← l1]
    rfl

/-! ### a dict of the top with text keys -/
structure KDict (K : PySem.W.Frag) (w : World) (a : Addr) (tab : List (Str × V)) : Prop where
  ex : ∃ es n, K.lookup a = some ⟨.type "dict", none, .dict es n, #[]⟩ ∧ PySem.W.KeysLit w.params es.toList
  at_ : ∀ x v, tab.lookup x = some v → ∃ u, PySem.W.nsIn K a x = some (some u) ∧ RelV v u
def tKGet (tab : List (Str × V)) (ty : TE) : TE := fun σ H Q => ty σ H fun y H1 => ∃ k v, y = .str k ∧ tab.lookup k = some v ∧ Q v H1
theorem pe_kget {x : Str} {a : Addr} {tab : List (Str × V)} {i : Expr} {ty : TE} {p pos : Pos} (hg : Gl X x) (hm : X.mg x = some (.ref a)) (D : KDict X.K X.w a tab) (hi : PE X i ty) (hs : NoSl i) (hd : (x == ("__debug__" : Str)) = false := by decide) :
    PE X (.Subscript (.Name x p) i pos) (tKGet tab ty) := by
  intro pins s σ H Q I h
  obtain ⟨es, n, hl, hk⟩ := D.ex
  refine subD_of slot_dict_getitem.lookup hs (ld_glob I hg hm (thn (hi pins s σ H _ I h) fun u s1 h1 => ?_) hd)
  obtain ⟨y, H1, I1, ry, k, v, rfl, hv, q⟩ := h1
  obtain ⟨t, rfl⟩ := ry
  obtain ⟨u', e, ru⟩ := D.at_ k v hv
  have hmap := PySem.W.mapOf_K (prog := X.prog) (w := X.w) I1.kIn hl hk
  exact ⟨hmap.typeIs, wpAny_getItem_of (strKind_is X.prog X.w k t) hmap (PySem.W.find_K hl e) ⟨v, H1, I1.tok _, ru, q⟩⟩

/-! ### f"text{n}" of an int -/
end

/-! ### isinstance -/
def clsV : V → Option Value
  | .ty n => some (.type n)
  | .ref a => some (.ref a)
  | _ => none
def rIsi (K : PySem.W.Frag) : List V → Hp → VK → Prop := fun xs H Q => ∃ x c t b, xs = [x, c] ∧ TyOf K H x t ∧ ((∃ cv, clsV c = some cv ∧ PySem.W.kitOne K t cv = some b) ∨ (∃ a cs cvs, c = .ref a ∧ H a = some (.tup cs) ∧ cs.map clsV = cvs.map some ∧ PySem.W.kitAny K t cvs = some b)) ∧ Q (.bl b) H
theorem vals_cls : ∀ {cs : List V} {us : List Value} {cvs : List Value}, Vals cs us → cs.map clsV = cvs.map some → us = cvs
  | [], _, [], .nil, _ => rfl
  | [], _, _ :: _, .nil, h => by simp at h
  | c :: cs, _, [], .cons _ _, h => by simp at h
  | c :: cs, _, cv :: cvs, .cons r t, h => by
    simp only [List.map_cons, List.cons.injEq] at h
    rw [vals_cls t h.2]
    cases c with
    | ty n => cases (show _ = Value.type n from r); simp only [clsV, Option.some.injEq] at h; rw [h.1]
    | ref a => cases (show _ = Value.ref a from r); simp only [clsV, Option.some.injEq] at h; rw [h.1]
    | _ => simp [clsV] at h
section
variable {X : Cx}
theorem isinst_tup {pins : List (Addr × Obj)} {σ : St} {H : Hp} {s : Shared} {A : Around} {E : Value → Shared → Prop} {Q : Value → Shared → Prop} {b : Bool} {x : V} {u t : Value} {a : Addr} {cs : List V} {cvs : List Value} (I : Inv X pins σ H s) (rx : RelV x u) (ty : TyOf X.K H x t)
    (ha : H a = some (.tup cs)) (hcs : cs.map clsV = cvs.map some) (e : PySem.W.kitAny X.K t cvs = some b) (h : ∀ tk, Q (.bool b) { s with toks := tk }) : wpAny (model X.prog X.w) A (call (.builtin "isinstance") [u, .ref a]) Q E s := by
  obtain ⟨_, its, rv, p⟩ := (show ObjOk X.prog X.w H s.heap a (.tup cs) from I.hok a _ ha)
  obtain ⟨⟨oc, odd, odt, osl⟩, h1, h2, n, h3⟩ := p
  dsimp only at h2 h3
  subst h2 h3
  have ei : its = cvs := vals_cls rv hcs
  subst ei
  cases ty with
  | non => cases (show u = Value.none from rx); exact PySem.W.kia_tup PySem.W.kitx_none I.kIn True.intro h1 e (fun z => nomatch z) h
  | bl y => cases (show u = Value.bool y from rx); exact PySem.W.kia_tup PySem.W.kitx_bool I.kIn True.intro h1 e (fun z => nomatch z) h
  | int i => obtain ⟨t, q⟩ := (show ∃ t, u = Value.int i t from rx); cases q; exact PySem.W.kia_tup PySem.W.kitx_int I.kIn True.intro h1 e (fun z => nomatch z) h
  | str y => obtain ⟨t, q⟩ := (show ∃ t, u = Value.str y t from rx); cases q; exact PySem.W.kia_tup PySem.W.kitx_str I.kIn True.intro h1 e (fun z => nomatch z) h
  | flt y => obtain ⟨t, q⟩ := (show ∃ t, u = Value.float y t from rx); cases q; exact PySem.W.kia_tup PySem.W.kitx_float I.kIn True.intro h1 e (fun z => nomatch z) h
  | @lst a xs ea =>
    cases (show u = Value.ref a from rx)
    obtain ⟨_, _, n, _, h1'⟩ := (show ObjOk X.prog X.w H s.heap a (.lst xs) from I.hok a _ ea)
    exact PySem.W.kia_tup PySem.W.kitx_list I.kIn ⟨_, h1', rfl⟩ h1 e (fun z => nomatch z) h
  | @frz a ob xs ea =>
    cases (show u = Value.ref a from rx)
    obtain ⟨_, _, _, n, _, h1'⟩ := (show ObjOk X.prog X.w H s.heap a (.frz ob (.lst xs)) from I.hok a _ ea)
    exact PySem.W.kia_tup PySem.W.kitx_list I.kIn ⟨_, h1', rfl⟩ h1 e (fun z => nomatch z) h
  | @tup a xs ea =>
    cases (show u = Value.ref a from rx)
    obtain ⟨_, _, _, p⟩ := (show ObjOk X.prog X.w H s.heap a (.tup xs) from I.hok a _ ea)
    obtain ⟨o, h1', h2, _⟩ := p
    exact PySem.W.kia_tup PySem.W.kitx_tuple I.kIn ⟨o, h1', h2⟩ h1 e (fun z => nomatch z) h
  | @dK a kvs ea =>
    cases (show u = Value.ref a from rx)
    obtain ⟨_, _, vs, _, p⟩ := (show ObjOk X.prog X.w H s.heap a (.dK kvs) from I.hok a _ ea)
    obtain ⟨o, es, ep, h1', h2, _⟩ := p
    exact PySem.W.kia_tup PySem.W.kitx_dict I.kIn ⟨o, h1', h2.1⟩ h1 e (fun z => nomatch z) h
  | @dT a kvs ea =>
    cases (show u = Value.ref a from rx)
    obtain ⟨_, _, xs, _, o, es, ep, h1', h2, _⟩ := (show ObjOk X.prog X.w H s.heap a (.dT kvs) from I.hok a _ ea)
    exact PySem.W.kia_tup PySem.W.kitx_dict I.kIn ⟨o, h1', h2.1⟩ h1 e (fun z => nomatch z) h
  | @ins a C dx fs ea cl ha hn htk hm =>
    cases (show u = Value.ref a from rx)
    obtain ⟨mA, O, _⟩ := ins_get I.hok ea
    obtain ⟨od, J, _⟩ := O.look
    exact PySem.W.kia_tup (PySem.W.kitx_own (cl.get _) cl.hd ha hn htk hm) I.kIn J h1 e (fun z => nomatch z) h
theorem call_isi : CallR X (.builtin "isinstance") (rIsi X.K) := by
  intro pins s σ H xs us Q I r h
  obtain ⟨x, c, t, b, rfl, ty, hc, q⟩ := h
  obtain ⟨u, v, rfl, ru, rv⟩ := r.two
  have fin : ∀ tk, EP X pins σ Q (.bool b) { s with toks := tk } := fun tk => ⟨.bl b, H, I.tok _, rfl, q⟩
  rcases hc with ⟨cv, e1, e2⟩ | ⟨a, cs, cvs, rfl, e1, e2, e3⟩
  · have ev : v = cv := by
      cases c with
      | ty n => cases (show v = Value.type n from rv); exact Option.some.inj e1
      | ref a => cases (show v = Value.ref a from rv); exact Option.some.inj e1
      | _ => cases e1
    subst ev
    exact isinst_ok I ru ty e2 fin
  · cases (show v = Value.ref a from rv)
    exact isinst_tup I ru ty e1 e2 e3 fin
end
end L2
namespace L2
open PySem PySem.Spec PyProof.Rows
section
variable {X : Cx}
theorem kdict3 {K : PySem.W.Frag} {w : World} {a : Addr} {es : Array DictEntry} {n : Nat} {x0 x1 x2 : Str} {i0 i1 i2 : Int} {t0 t1 t2 : Tok} (hl : K.lookup a = some ⟨.type "dict", none, .dict es n, #[]⟩) (hk : PySem.W.KeysLit w.params es.toList)
    (h0 : PySem.W.nsIn K a x0 = some (some (.int i0 t0))) (h1 : PySem.W.nsIn K a x1 = some (some (.int i1 t1))) (h2 : PySem.W.nsIn K a x2 = some (some (.int i2 t2))) : KDict K w a [(x0, .int i0), (x1, .int i1), (x2, .int i2)] := by
  refine ⟨⟨es, n, hl, hk⟩, fun x v e => ?_⟩
  rw [List.lookup_cons] at e
  split at e
  · rename_i q
    cases e
    rw [beq_iff_eq] at q
    subst q
    exact ⟨_, h0, t0, rfl⟩
  · rw [List.lookup_cons] at e
    split at e
    · rename_i q
      cases e
      rw [beq_iff_eq] at q
      subst q
      exact ⟨_, h1, t1, rfl⟩
    · rw [List.lookup_cons] at e
      split at e
      · rename_i q
        cases e
        rw [beq_iff_eq] at q
        subst q
        exact ⟨_, h2, t2, rfl⟩
      · cases e
end
end L2
namespace L2
open PySem PySem.Spec PyProof.Rows
theorem kit_ii {K : PySem.W.Frag} : PySem.W.kitOne K (.type "int") (.type "int") = some true := by rfl
theorem kit_ib {K : PySem.W.Frag} : PySem.W.kitOne K (.type "int") (.type "bool") = some false := by kernel_rfl
theorem kit_ss {K : PySem.W.Frag} : PySem.W.kitOne K (.type "str") (.type "str") = some true := by rfl
theorem kit_ts {K : PySem.W.Frag} : PySem.W.kitOne K (.type "tuple") (.type "str") = some false := by kernel_rfl
theorem kit_is {K : PySem.W.Frag} : PySem.W.kitOne K (.type "int") (.type "str") = some false := by kernel_rfl
theorem kit_ls {K : PySem.W.Frag} : PySem.W.kitOne K (.type "list") (.type "str") = some false := by kernel_rfl
theorem kit_ll {K : PySem.W.Frag} : PySem.W.kitOne K (.type "list") (.type "list") = some true := by rfl
theorem kit_tl {K : PySem.W.Frag} : PySem.W.kitOne K (.type "tuple") (.type "list") = some false := by kernel_rfl
theorem kit_lt {K : PySem.W.Frag} : PySem.W.kitOne K (.type "list") (.type "tuple") = some false := by kernel_rfl
theorem kit_tt {K : PySem.W.Frag} : PySem.W.kitOne K (.type "tuple") (.type "tuple") = some true := by rfl
theorem kit_al {K : PySem.W.Frag} : PySem.W.kitAny K (.type "list") [.type "list", .type "tuple"] = some true := by kernel_rfl
theorem kit_at {K : PySem.W.Frag} : PySem.W.kitAny K (.type "tuple") [.type "list", .type "tuple"] = some true := by kernel_rfl
theorem kit_ai {K : PySem.W.Frag} : PySem.W.kitAny K (.type "int") [.type "list", .type "tuple"] = some false := by kernel_rfl
theorem kit_as {K : PySem.W.Frag} : PySem.W.kitAny K (.type "str") [.type "list", .type "tuple"] = some false := by kernel_rfl
theorem kit_an {K : PySem.W.Frag} : PySem.W.kitAny K (.type "NoneType") [.type "list", .type "tuple"] = some false := by kernel_rfl
end L2
/-! isinstance of a caught exception -/
namespace L2
open PySem PySem.Spec PyProof.Rows
section
variable {prog : Program} {w : World} {A : Around} {E : Value → Shared → Prop} {h : Heap} {g : Array GenState} {d : Drawn} {t : Nat} {os : OsState} {a : Addr} {o : Obj}
  {nm q : Str} {C N : Addr} {bs bm bmB : List Value} {hdct : Bool} {sn : List Str} {sub : List Value} {ab : Bool} {col : Option Bool} {dd : Option Addr} {k0 k1 k2 k3 k5 : Option Value} {B newId : String} {mN : Str → Option Value}
theorem xc_get {R : Result → Shared → Prop} (hC : h.get? C = some (excClassObj nm q C N bs bm hdct sn sub ab col dd k0 k1 k2 k3 k5 newId)) (hob : bm.contains (.type "object") = true)
    (hx : h.get? a = some o) (hc : o.cls = .ref C) (hq : R (.ok (.ret (.ref C))) ⟨h, g, d, t, os⟩) :
    codeAny (model prog w) A (.call (.builtin "getset_descriptor.__get__") ⟨[.builtin "object.__class__", .ref a, .ref C], []⟩) R ⟨h, g, d, t, os⟩ := by
  have hT5 : (⟨h, g, d, t, os⟩ : Shared).TypeIs (.builtin "object.__class__") "getset_descriptor" := F.typeOf_object_class
  have hcB : (Value.ref C :: bm).contains (.type (".".intercalate ("object.__class__".cutAt '.').dropLast)) = true := by
    rw [F.owner_object_class, List.contains_cons, hob]; rfl
  refine codeAny_call_builtin F.slot_gs_get.plain F.entry_gs_get (F.slot_gs_get.check _ _ _ _ _ _ _ _ hT5 (F.args_gs_get _ _ _) ?_)
  repeat (any_goals (first | assumption | (with_reducible refine wpAny_loadPart_at hx ?_; rw [hc]) | (with_reducible refine wpAny_isSubtype_exc hC ?_; rw [hcB]) | wp_step))
  refine ⟨Code.quiet_builtin _ (by decide +kernel), codeAny_builtin F.entry_object_class ?_⟩
  repeat (any_goals (first | assumption | (with_reducible refine wpAny_loadPart_at hx ?_; rw [hc]) | wp_step))
theorem xc_check {M : Model} {nameV : Value} {Q : Unit → Shared → Prop} (hC : h.get? C = some (excClassObj nm q C N bs bm hdct sn sub ab col dd k0 k1 k2 k3 k5 newId)) (hbase : bm.contains (.type "BaseException") = true)
    (hx : h.get? a = some o) (hc : o.cls = .ref C) (hq : Q () ⟨h, g, d, t, os⟩) : wpAny M A (checkBuiltinCall "BaseException.__getattribute__" ⟨[.ref a, nameV], []⟩) Q E ⟨h, g, d, t, os⟩ := by
  have hk : builtinKind "BaseException.__getattribute__" = some .slot := by decide +kernel
  have hsplit : splitId "BaseException.__getattribute__" = some ("BaseException", "__getattribute__") := by decide +kernel
  have hcB : (Value.ref C :: bm).contains (.type "BaseException") = true := by rw [List.contains_cons, hbase]; rfl
  have ha := F.args_bexc_ga (.ref a) nameV
  simp only [checkBuiltinCall, hk, hsplit]
  refine wpAny_bind ?_
  · unfold isInstance
    repeat (first | (with_reducible refine wpAny_loadPart_at hx ?_; rw [hc]) | (with_reducible refine wpAny_isSubtype_exc hC ?_; rw [hcB]) | wp_step)
    exact hq
theorem xc_entry {tk : Tok} {Q : Fin → Shared → Prop} (hC : h.get? C = some (excClassObj nm q C N bs bm hdct sn sub ab col dd k0 k1 k2 k3 k5 newId)) (hob : bm.contains (.type "object") = true) (L1 : PySem.W.Looks (model prog w) h (typeLookup (.ref C) "__class__") (some (.builtin "object.__class__")))
    (hx : h.get? a = some o) (hc : o.cls = .ref C) (hq : Q (.done (.ret (.ref C))) ⟨h, g, d, t, os⟩) :
    wpAny (model prog w) A (Builtin.«object.__getattribute__» ⟨[.ref a, .str "__class__" tk], []⟩) Q E ⟨h, g, d, t, os⟩ := by
  have hT5 : (⟨h, g, d, t, os⟩ : Shared).TypeIs (.builtin "object.__class__") "getset_descriptor" := F.typeOf_object_class
  have f5 := F.typeOf_object_class
  have f6 := F.slot_gs_get.lookup
  have f7 := F.slot_gs_set.lookup
  repeat (any_goals (first | assumption | (with_reducible refine wpAny_loadPart_at hx ?_; rw [hc]) | with_reducible refine L1.at ?_ | wp_step))
  refine xc_get hC hob hx hc ?_
  repeat (any_goals (first | assumption | wp_step))
theorem xc_by {tk : Tok} {Q : Value → Shared → Prop} (hC : h.get? C = some (excClassObj nm q C N bs bm hdct sn sub ab col dd k0 k1 k2 k3 k5 newId)) (hob : bm.contains (.type "object") = true) (hbase : bm.contains (.type "BaseException") = true)
    (L1 : PySem.W.Looks (model prog w) h (typeLookup (.ref C) "__class__") (some (.builtin "object.__class__"))) (L2 : PySem.W.Looks (model prog w) h (typeLookup (.ref C) "__getattribute__") (some (.builtin "BaseException.__getattribute__"))) (L3 : PySem.W.Looks (model prog w) h (typeLookup (.ref C) "__getattr__") none)
    (hx : h.get? a = some o) (hc : o.cls = .ref C) (hq : Q (.ref C) ⟨h, g, d, t, os⟩) : wpAny (model prog w) A (getAttrBy (.ref a) (.str "__class__" tk) false) Q E ⟨h, g, d, t, os⟩ := by
  have FB := PySem.F.attrBase_ValueError
  have f3 := FB.ga.bind (.ref a)
  have hx2 : (Value.builtin "BaseException.__getattribute__" == Value.builtin "object.__getattribute__") = false := by decide +kernel
  have hx1 : (onTheHeap (Value.ref C) && Value.builtin "BaseException.__getattribute__" == Value.builtin "object.__getattribute__") = false := by rw [hx2]; rfl
  repeat (any_goals (first | assumption | (with_reducible refine wpAny_loadPart_at hx ?_; rw [hc]) | with_reducible refine L2.at ?_ | with_reducible refine L3.at ?_ | wp_step))
  refine codeAny_call_builtin FB.ga.plain F.entry_bexc_ga (xc_check hC hbase hx hc (xc_entry hC hob L1 hx hc ?_))
  repeat (any_goals (first | assumption | wp_step))
theorem xc_attr {Q : Option Value → Shared → Prop} (hC : h.get? C = some (excClassObj nm q C N bs bm hdct sn sub ab col dd k0 k1 k2 k3 k5 newId)) (hob : bm.contains (.type "object") = true) (hbase : bm.contains (.type "BaseException") = true)
    (L1 : PySem.W.Looks (model prog w) h (typeLookup (.ref C) "__class__") (some (.builtin "object.__class__"))) (L2 : PySem.W.Looks (model prog w) h (typeLookup (.ref C) "__getattribute__") (some (.builtin "BaseException.__getattribute__"))) (L3 : PySem.W.Looks (model prog w) h (typeLookup (.ref C) "__getattr__") none)
    (hx : h.get? a = some o) (hc : o.cls = .ref C) (hq : Q (some (.ref C)) ⟨h, g, d, t + 1, os⟩) : wpAny (model prog w) A (getAttr? (.ref a) "__class__") Q E ⟨h, g, d, t, os⟩ := by
  unfold getAttr? getAttrBy?
  repeat (any_goals (first | assumption | with_reducible apply xc_by hC hob hbase L1 L2 L3 hx hc | wp_step))
end
structure ExcAttr (K : PySem.W.Frag) (C : Addr) : Prop where
  cl : PySem.W.findIn K (.ref C) "__class__" = some (some (.builtin "object.__class__"))
  ga : PySem.W.findIn K (.ref C) "__getattribute__" = some (some (.builtin "BaseException.__getattribute__"))
  gt : PySem.W.findIn K (.ref C) "__getattr__" = some none
theorem kitx_exc {K : PySem.W.Frag} {C e : Addr} {bm : List Value} (O : Exc K C bm) (F : ExcAttr K C) : PySem.W.KitX K (.ref e) (.ref C) (fun h => ∃ o, h.get? e = some o ∧ o.cls = Value.ref C) where
  ty := fun M h _ p => by
    obtain ⟨o, h1, h2⟩ := p
    exact h2 ▸ (PySem.W.Looks.ld h1).andThen .now
  it := fun M h X _ => by
    obtain ⟨N, nm, q, bs, hdct, sn, sub, ab, col, dd, k0, k1, k2, k3, k5, mN, hC, _⟩ := O.obj h X
    intro A' Q' E' s' k q
    unfold isType loadHead
    exact wpAny_bind (wpAny_loadPart (k _ _ hC) (wpAny_pure q))
  ne := fun h tp dd its n sl X htp => by
    obtain ⟨N, nm, q, bs, hdct, sn, sub, ab, col, dd, k0, k1, k2, k3, k5, mN, hC, _⟩ := O.obj h X
    refine Bool.eq_false_iff.mpr fun q => ?_
    have e : C = tp := Value.ref.inj (beq_iff_eq.mp q)
    subst e
    rw [hC] at htp
    have z := congrArg Obj.cls (Option.some.inj htp)
    exact absurd (Value.type.inj z) (by decide)
  ca := fun {prog w A E Q s} X p k => by
    obtain ⟨N, nm, q, bs, hdct, sn, sub, ab, col, dd, k0, k1, k2, k3, k5, mN, hC, _, _, T⟩ := O.obj _ X
    obtain ⟨o, h1, h2⟩ := p
    have L1 := PySem.W.looks_findIn (M := model prog w) X F.cl
    have L2 := PySem.W.looks_findIn (M := model prog w) X F.ga
    have L3 := PySem.W.looks_findIn (M := model prog w) X F.gt
    obtain ⟨h, g, d, t, os⟩ := s
    exact xc_attr hC (T.hasType (by decide +kernel)) (T.hasType (by decide +kernel)) L1 L2 L3 h1 h2 k
def rIsiX (K : PySem.W.Frag) : List V → Hp → VK → Prop := fun xs H Q => ∃ e c C bm cv b, xs = [.ref e, c] ∧ H e = some (excO C e) ∧ Exc K C bm ∧ ExcAttr K C ∧ clsV c = some cv ∧ PySem.W.kitOne K (.ref C) cv = some b ∧ Q (.bl b) H
theorem call_isiX {X : Cx} : CallR X (.builtin "isinstance") (rIsiX X.K) := by
  intro pins s σ H xs us Q I r h
  obtain ⟨e, c, C, bm, cv, b, rfl, he, O, F, e1, e2, q⟩ := h
  obtain ⟨u, v, rfl, ru, rv⟩ := r.two
  cases (show u = Value.ref e from ru)
  have ev : v = cv := by
    cases c with
    | ty n => cases (show v = Value.type n from rv); exact Option.some.inj e1
    | ref a => cases (show v = Value.ref a from rv); exact Option.some.inj e1
    | _ => cases e1
  subst ev
  obtain ⟨p, _, _⟩ := (show ObjOk X.prog X.w H s.heap e (excO C e) from I.hok e _ he)
  exact PySem.W.kia_one (kitx_exc O F) I.kIn p e2 (fun z => nomatch z) fun tk => ⟨.bl b, H, I.tok _, rfl, q⟩
end L2
/-! The desk: what its methods come to. -/
namespace K07
open PySem L2
def top (i : Nat) : Stmt := PySem.Challenge.pw_copydesks_k07_a_desk.main.body.getD i (.Pass ⟨0, 0, 0, 0⟩)
abbrev s_ask_letter : Stmt := top 11
abbrev s_answer_letter : Stmt := top 12
abbrev s_gave_letter : Stmt := top 13
abbrev s_is_enough : Stmt := top 16
abbrev s_right_needed : Stmt := top 17
abbrev s_Desk_init : Stmt := inClass (top 18) 0
abbrev s_Desk_right_of : Stmt := inClass (top 18) 1
abbrev s_Desk_waits : Stmt := inClass (top 18) 2
abbrev s_Desk_want : Stmt := inClass (top 18) 3
abbrev s_Desk_take : Stmt := inClass (top 18) 4
abbrev s_Desk_rest : Stmt := inClass (top 18) 5
abbrev s_Desk_may_do : Stmt := inClass (top 18) 6
abbrev s_Desk_do_wish : Stmt := inClass (top 18) 7
abbrev s_Desk_take_loan : Stmt := inClass (top 18) 8
abbrev s_Desk_go_down : Stmt := inClass (top 18) 9
abbrev s_Desk_number_to_tell : Stmt := inClass (top 18) 10
abbrev s_Desk_hold : Stmt := inClass (top 18) 11
abbrev s_taken_by_desk : Stmt := top 19
abbrev s_l_whole : Stmt := top 21
abbrev s_l_at : Stmt := top 22
abbrev s_l_same : Stmt := top 23
abbrev s_l_wanted : Stmt := top 24
abbrev s_l_fulfilled : Stmt := top 25
abbrev s_l_taken : Stmt := top 26
abbrev s_l_rested : Stmt := top 27
abbrev s_l_asked : Stmt := top 28
abbrev s_l_called : Stmt := top 29
abbrev s_l_asked_by_any : Stmt := top 30
abbrev s_l_due_of : Stmt := top 31
abbrev s_l_next_of : Stmt := top 32
abbrev s_l_some_letters : Stmt := top 33
abbrev s_l_as_due : Stmt := top 34
abbrev s_law : Stmt := top 35
theorem sc_ask_letter : FnScope ["page", "right"] ["page", "right"] (defScope s_ask_letter) := ⟨rfl, rfl, rfl, by decide +kernel, rfl, by decide +kernel, by decide +kernel⟩
theorem sc_answer_letter : FnScope ["page", "number"] ["page", "number"] (defScope s_answer_letter) := ⟨rfl, rfl, rfl, by decide +kernel, rfl, by decide +kernel, by decide +kernel⟩
theorem sc_gave_letter : FnScope ["page", "number"] ["page", "number"] (defScope s_gave_letter) := ⟨rfl, rfl, rfl, by decide +kernel, rfl, by decide +kernel, by decide +kernel⟩
theorem sc_is_enough : FnScope ["right", "needed"] ["right", "needed"] (defScope s_is_enough) := ⟨rfl, rfl, rfl, by decide +kernel, rfl, by decide +kernel, by decide +kernel⟩
theorem sc_right_needed : FnScope ["wish"] ["wish"] (defScope s_right_needed) := ⟨rfl, rfl, rfl, by decide +kernel, rfl, by decide +kernel, by decide +kernel⟩
theorem sc_Desk_init : FnScope ["self"] ["self"] (defScope s_Desk_init) := ⟨rfl, rfl, rfl, by decide +kernel, rfl, by decide +kernel, by decide +kernel⟩
theorem sc_Desk_right_of : FnScope ["self", "page"] ["self", "page"] (defScope s_Desk_right_of) := ⟨rfl, rfl, rfl, by decide +kernel, rfl, by decide +kernel, by decide +kernel⟩
theorem sc_Desk_waits : FnScope ["self"] ["self"] (defScope s_Desk_waits) := ⟨rfl, rfl, rfl, by decide +kernel, rfl, by decide +kernel, by decide +kernel⟩
theorem sc_Desk_want : FnScope ["self", "wish"] ["self", "wish"] (defScope s_Desk_want) := ⟨rfl, rfl, rfl, by decide +kernel, rfl, by decide +kernel, by decide +kernel⟩
theorem sc_Desk_take : FnScope ["self", "letter"] ["self", "letter"] (defScope s_Desk_take) := ⟨rfl, rfl, rfl, by decide +kernel, rfl, by decide +kernel, by decide +kernel⟩
theorem sc_Desk_rest : FnScope ["self", "page", "number"] ["self", "page"] (defScope s_Desk_rest) := ⟨rfl, rfl, rfl, by decide +kernel, rfl, by decide +kernel, by decide +kernel⟩
theorem sc_Desk_may_do : FnScope ["self", "wish"] ["self", "wish"] (defScope s_Desk_may_do) := ⟨rfl, rfl, rfl, by decide +kernel, rfl, by decide +kernel, by decide +kernel⟩
theorem sc_Desk_do_wish : FnScope ["self", "wish", "page"] ["self", "wish"] (defScope s_Desk_do_wish) := ⟨rfl, rfl, rfl, by decide +kernel, rfl, by decide +kernel, by decide +kernel⟩
theorem sc_Desk_take_loan : FnScope ["self", "page", "right", "number", "wish"] ["self", "page", "right", "number"] (defScope s_Desk_take_loan) := ⟨rfl, rfl, rfl, by decide +kernel, rfl, by decide +kernel, by decide +kernel⟩
theorem sc_Desk_go_down : FnScope ["self", "page", "right", "number"] ["self", "page", "right"] (defScope s_Desk_go_down) := ⟨rfl, rfl, rfl, by decide +kernel, rfl, by decide +kernel, by decide +kernel⟩
theorem sc_Desk_number_to_tell : FnScope ["self", "page"] ["self", "page"] (defScope s_Desk_number_to_tell) := ⟨rfl, rfl, rfl, by decide +kernel, rfl, by decide +kernel, by decide +kernel⟩
theorem sc_Desk_hold : FnScope ["self", "page", "right", "number"] ["self", "page", "right", "number"] (defScope s_Desk_hold) := ⟨rfl, rfl, rfl, by decide +kernel, rfl, by decide +kernel, by decide +kernel⟩
theorem sc_taken_by_desk : FnScope ["desk", "letters"] ["desk", "letters"] (defScope s_taken_by_desk) := ⟨rfl, rfl, rfl, by decide +kernel, rfl, by decide +kernel, by decide +kernel⟩
theorem sc_l_whole : FnScope ["_law_found"] ["_law_found"] (defScope s_l_whole) := ⟨rfl, rfl, rfl, by decide +kernel, rfl, by decide +kernel, by decide +kernel⟩
theorem sc_l_at : FnScope ["_law_script", "_law_k"] ["_law_script", "_law_k"] (defScope s_l_at) := ⟨rfl, rfl, rfl, by decide +kernel, rfl, by decide +kernel, by decide +kernel⟩
theorem sc_l_same : FnScope ["_law_found", "_law_due", "_law_left", "_law_right", "_law_one", "_law_two"] ["_law_found", "_law_due"] (defScope s_l_same) := ⟨rfl, rfl, rfl, by decide +kernel, rfl, by decide +kernel, by decide +kernel⟩
theorem sc_l_wanted : FnScope ["_law_mine", "_law_wish", "_law_right"] ["_law_mine", "_law_wish"] (defScope s_l_wanted) := ⟨rfl, rfl, rfl, by decide +kernel, rfl, by decide +kernel, by decide +kernel⟩
theorem sc_l_fulfilled : FnScope ["_law_mine", "_law_wish"] ["_law_mine", "_law_wish"] (defScope s_l_fulfilled) := ⟨rfl, rfl, rfl, by decide +kernel, rfl, by decide +kernel, by decide +kernel⟩
theorem sc_l_taken : FnScope ["_law_mine", "_law_letter", "_law_page", "_law_held", "_law_wish", "_law_number"] ["_law_mine", "_law_letter"] (defScope s_l_taken) := ⟨rfl, rfl, rfl, by decide +kernel, rfl, by decide +kernel, by decide +kernel⟩
theorem sc_l_rested : FnScope ["_law_mine", "_law_page", "_law_held"] ["_law_mine", "_law_page"] (defScope s_l_rested) := ⟨rfl, rfl, rfl, by decide +kernel, rfl, by decide +kernel, by decide +kernel⟩
theorem sc_l_asked : FnScope ["_law_desk", "_law_word", "_law_what", "_law_told"] ["_law_desk", "_law_word", "_law_what"] (defScope s_l_asked) := ⟨rfl, rfl, rfl, by decide +kernel, rfl, by decide +kernel, by decide +kernel⟩
theorem sc_l_called : FnScope ["_law_desk", "_law_word", "_law_what"] ["_law_desk", "_law_word", "_law_what"] (defScope s_l_called) := ⟨rfl, rfl, rfl, by decide +kernel, rfl, by decide +kernel, by decide +kernel⟩
theorem sc_l_asked_by_any : FnScope ["_law_desk", "_law_word", "_law_what", "_law_due", "_law_told", "e", "_law_kinds", "_law_good"] ["_law_desk", "_law_word", "_law_what", "_law_due"] (defScope s_l_asked_by_any) := ⟨rfl, rfl, rfl, by decide +kernel, rfl, by decide +kernel, by decide +kernel⟩
theorem sc_l_due_of : FnScope ["_law_mine", "_law_word", "_law_what"] ["_law_mine", "_law_word", "_law_what"] (defScope s_l_due_of) := ⟨rfl, rfl, rfl, by decide +kernel, rfl, by decide +kernel, by decide +kernel⟩
theorem sc_l_next_of : FnScope ["_law_cell", "_law_more", "_law_k", "_law_page", "_law_far", "_law_number", "_law_way"] ["_law_cell", "_law_more", "_law_k"] (defScope s_l_next_of) := ⟨rfl, rfl, rfl, by decide +kernel, rfl, by decide +kernel, by decide +kernel⟩
theorem sc_l_some_letters : FnScope ["_law_script", "_law_k", "_law_row", "_law_j", "_law_cell", "_law_page", "_law_number"] ["_law_script", "_law_k"] (defScope s_l_some_letters) := ⟨rfl, rfl, rfl, by decide +kernel, rfl, by decide +kernel, by decide +kernel⟩
theorem sc_l_as_due : FnScope ["_law_told"] ["_law_told"] (defScope s_l_as_due) := ⟨rfl, rfl, rfl, by decide +kernel, rfl, by decide +kernel, by decide +kernel⟩
theorem sc_law : FnScope ["_law_script", "_law_desk", "_law_spare", "_law_mine", "_law_other", "_law_k", "_law_more", "_law_word", "_law_what", "_law_due", "_law_found", "_law_row", "_law_handed"] ["_law_script"] (defScope s_law) := ⟨rfl, rfl, rfl, by decide +kernel, rfl, by decide +kernel, by decide +kernel⟩
structure Adr where
  C_CopyError : Addr
  C_NoDesk : Addr
  C_NoPage : Addr
  C_Waiting : Addr
  C_NoCopy : Addr
  C_NoLetter : Addr
  C_Desk : Addr
  f_ask_letter : Addr
  fd_ask_letter : FuncData
  f_answer_letter : Addr
  fd_answer_letter : FuncData
  f_gave_letter : Addr
  fd_gave_letter : FuncData
  f_is_enough : Addr
  fd_is_enough : FuncData
  f_right_needed : Addr
  fd_right_needed : FuncData
  f_Desk_init : Addr
  fd_Desk_init : FuncData
  f_Desk_right_of : Addr
  fd_Desk_right_of : FuncData
  f_Desk_waits : Addr
  fd_Desk_waits : FuncData
  f_Desk_want : Addr
  fd_Desk_want : FuncData
  f_Desk_take : Addr
  fd_Desk_take : FuncData
  f_Desk_rest : Addr
  fd_Desk_rest : FuncData
  f_Desk_may_do : Addr
  fd_Desk_may_do : FuncData
  f_Desk_do_wish : Addr
  fd_Desk_do_wish : FuncData
  f_Desk_take_loan : Addr
  fd_Desk_take_loan : FuncData
  f_Desk_go_down : Addr
  fd_Desk_go_down : FuncData
  f_Desk_number_to_tell : Addr
  fd_Desk_number_to_tell : FuncData
  f_Desk_hold : Addr
  fd_Desk_hold : FuncData
  f_taken_by_desk : Addr
  fd_taken_by_desk : FuncData
  f_l_whole : Addr
  fd_l_whole : FuncData
  f_l_at : Addr
  fd_l_at : FuncData
  f_l_same : Addr
  fd_l_same : FuncData
  f_l_wanted : Addr
  fd_l_wanted : FuncData
  f_l_fulfilled : Addr
  fd_l_fulfilled : FuncData
  f_l_taken : Addr
  fd_l_taken : FuncData
  f_l_rested : Addr
  fd_l_rested : FuncData
  f_l_asked : Addr
  fd_l_asked : FuncData
  f_l_called : Addr
  fd_l_called : FuncData
  f_l_asked_by_any : Addr
  fd_l_asked_by_any : FuncData
  f_l_due_of : Addr
  fd_l_due_of : FuncData
  f_l_next_of : Addr
  fd_l_next_of : FuncData
  f_l_some_letters : Addr
  fd_l_some_letters : FuncData
  f_l_as_due : Addr
  fd_l_as_due : FuncData
  f_law : Addr
  fd_law : FuncData
  a_RANKS : Addr
structure Txt (K : PySem.W.Frag) (w : World) (mg : Str → Option Value) (t : Adr) : Prop where
  x_CopyError : Exc K t.C_CopyError [.type "ValueError", .type "Exception", .type "BaseException", .type "object"]
  g_CopyError : mg "CopyError" = some (.ref t.C_CopyError)
  x_NoDesk : Exc K t.C_NoDesk [.ref t.C_CopyError, .type "ValueError", .type "Exception", .type "BaseException", .type "object"]
  g_NoDesk : mg "NoDesk" = some (.ref t.C_NoDesk)
  x_NoPage : Exc K t.C_NoPage [.ref t.C_CopyError, .type "ValueError", .type "Exception", .type "BaseException", .type "object"]
  g_NoPage : mg "NoPage" = some (.ref t.C_NoPage)
  x_Waiting : Exc K t.C_Waiting [.ref t.C_CopyError, .type "ValueError", .type "Exception", .type "BaseException", .type "object"]
  g_Waiting : mg "Waiting" = some (.ref t.C_Waiting)
  x_NoCopy : Exc K t.C_NoCopy [.ref t.C_CopyError, .type "ValueError", .type "Exception", .type "BaseException", .type "object"]
  g_NoCopy : mg "NoCopy" = some (.ref t.C_NoCopy)
  x_NoLetter : Exc K t.C_NoLetter [.ref t.C_CopyError, .type "ValueError", .type "Exception", .type "BaseException", .type "object"]
  g_NoLetter : mg "NoLetter" = some (.ref t.C_NoLetter)
  xa_Waiting : ExcAttr K t.C_Waiting
  ki_Waiting_CopyError : PySem.W.kitOne K (.ref t.C_Waiting) (.ref t.C_CopyError) = some true
  ne_Waiting_CopyError : t.C_Waiting ≠ t.C_CopyError
  ki_Waiting_NoDesk : PySem.W.kitOne K (.ref t.C_Waiting) (.ref t.C_NoDesk) = some false
  ne_Waiting_NoDesk : t.C_Waiting ≠ t.C_NoDesk
  ki_Waiting_NoPage : PySem.W.kitOne K (.ref t.C_Waiting) (.ref t.C_NoPage) = some false
  ne_Waiting_NoPage : t.C_Waiting ≠ t.C_NoPage
  ki_Waiting_Waiting : PySem.W.kitOne K (.ref t.C_Waiting) (.ref t.C_Waiting) = some true
  ki_Waiting_NoCopy : PySem.W.kitOne K (.ref t.C_Waiting) (.ref t.C_NoCopy) = some false
  ne_Waiting_NoCopy : t.C_Waiting ≠ t.C_NoCopy
  ki_Waiting_NoLetter : PySem.W.kitOne K (.ref t.C_Waiting) (.ref t.C_NoLetter) = some false
  ne_Waiting_NoLetter : t.C_Waiting ≠ t.C_NoLetter
  ki_Waiting_ValueError : PySem.W.kitOne K (.ref t.C_Waiting) (.type "ValueError") = some true
  xa_NoCopy : ExcAttr K t.C_NoCopy
  ki_NoCopy_CopyError : PySem.W.kitOne K (.ref t.C_NoCopy) (.ref t.C_CopyError) = some true
  ne_NoCopy_CopyError : t.C_NoCopy ≠ t.C_CopyError
  ki_NoCopy_NoDesk : PySem.W.kitOne K (.ref t.C_NoCopy) (.ref t.C_NoDesk) = some false
  ne_NoCopy_NoDesk : t.C_NoCopy ≠ t.C_NoDesk
  ki_NoCopy_NoPage : PySem.W.kitOne K (.ref t.C_NoCopy) (.ref t.C_NoPage) = some false
  ne_NoCopy_NoPage : t.C_NoCopy ≠ t.C_NoPage
  ki_NoCopy_Waiting : PySem.W.kitOne K (.ref t.C_NoCopy) (.ref t.C_Waiting) = some false
  ne_NoCopy_Waiting : t.C_NoCopy ≠ t.C_Waiting
  ki_NoCopy_NoCopy : PySem.W.kitOne K (.ref t.C_NoCopy) (.ref t.C_NoCopy) = some true
  ki_NoCopy_NoLetter : PySem.W.kitOne K (.ref t.C_NoCopy) (.ref t.C_NoLetter) = some false
  ne_NoCopy_NoLetter : t.C_NoCopy ≠ t.C_NoLetter
  ki_NoCopy_ValueError : PySem.W.kitOne K (.ref t.C_NoCopy) (.type "ValueError") = some true
  c_Desk : Cls K t.C_Desk
  mk_Desk : Mk K t.C_Desk t.f_Desk_init
  g_Desk : mg "Desk" = some (.ref t.C_Desk)
  na_Desk_copies : NoAttr K t.C_Desk "copies"
  na_Desk_wish : NoAttr K t.C_Desk "wish"
  F_ask_letter : Fun K "ask_letter" "ask_letter" s_ask_letter t.f_ask_letter t.fd_ask_letter
  b_ask_letter : Binds K t.fd_ask_letter ["page", "right"] []
  m_ask_letter : mg "ask_letter" = some (.ref t.f_ask_letter)
  F_answer_letter : Fun K "answer_letter" "answer_letter" s_answer_letter t.f_answer_letter t.fd_answer_letter
  b_answer_letter : Binds K t.fd_answer_letter ["page", "number"] []
  m_answer_letter : mg "answer_letter" = some (.ref t.f_answer_letter)
  F_gave_letter : Fun K "gave_letter" "gave_letter" s_gave_letter t.f_gave_letter t.fd_gave_letter
  b_gave_letter : Binds K t.fd_gave_letter ["page", "number"] []
  m_gave_letter : mg "gave_letter" = some (.ref t.f_gave_letter)
  F_is_enough : Fun K "is_enough" "is_enough" s_is_enough t.f_is_enough t.fd_is_enough
  b_is_enough : Binds K t.fd_is_enough ["right", "needed"] []
  m_is_enough : mg "is_enough" = some (.ref t.f_is_enough)
  F_right_needed : Fun K "right_needed" "right_needed" s_right_needed t.f_right_needed t.fd_right_needed
  b_right_needed : Binds K t.fd_right_needed ["wish"] []
  m_right_needed : mg "right_needed" = some (.ref t.f_right_needed)
  F_Desk_init : Fun K "__init__" "Desk.__init__" s_Desk_init t.f_Desk_init t.fd_Desk_init
  b_Desk_init : Binds K t.fd_Desk_init ["self"] []
  F_Desk_right_of : Fun K "right_of" "Desk.right_of" s_Desk_right_of t.f_Desk_right_of t.fd_Desk_right_of
  b_Desk_right_of : Binds K t.fd_Desk_right_of ["self", "page"] []
  mt_Desk_right_of : Meth K t.C_Desk "right_of" t.f_Desk_right_of
  F_Desk_waits : Fun K "waits" "Desk.waits" s_Desk_waits t.f_Desk_waits t.fd_Desk_waits
  b_Desk_waits : Binds K t.fd_Desk_waits ["self"] []
  mt_Desk_waits : Meth K t.C_Desk "waits" t.f_Desk_waits
  F_Desk_want : Fun K "want" "Desk.want" s_Desk_want t.f_Desk_want t.fd_Desk_want
  b_Desk_want : Binds K t.fd_Desk_want ["self", "wish"] []
  mt_Desk_want : Meth K t.C_Desk "want" t.f_Desk_want
  F_Desk_take : Fun K "take" "Desk.take" s_Desk_take t.f_Desk_take t.fd_Desk_take
  b_Desk_take : Binds K t.fd_Desk_take ["self", "letter"] []
  mt_Desk_take : Meth K t.C_Desk "take" t.f_Desk_take
  F_Desk_rest : Fun K "rest" "Desk.rest" s_Desk_rest t.f_Desk_rest t.fd_Desk_rest
  b_Desk_rest : Binds K t.fd_Desk_rest ["self", "page"] []
  mt_Desk_rest : Meth K t.C_Desk "rest" t.f_Desk_rest
  F_Desk_may_do : Fun K "may_do" "Desk.may_do" s_Desk_may_do t.f_Desk_may_do t.fd_Desk_may_do
  b_Desk_may_do : Binds K t.fd_Desk_may_do ["self", "wish"] []
  mt_Desk_may_do : Meth K t.C_Desk "may_do" t.f_Desk_may_do
  F_Desk_do_wish : Fun K "do_wish" "Desk.do_wish" s_Desk_do_wish t.f_Desk_do_wish t.fd_Desk_do_wish
  b_Desk_do_wish : Binds K t.fd_Desk_do_wish ["self", "wish"] []
  mt_Desk_do_wish : Meth K t.C_Desk "do_wish" t.f_Desk_do_wish
  F_Desk_take_loan : Fun K "take_loan" "Desk.take_loan" s_Desk_take_loan t.f_Desk_take_loan t.fd_Desk_take_loan
  b_Desk_take_loan : Binds K t.fd_Desk_take_loan ["self", "page", "right", "number"] []
  mt_Desk_take_loan : Meth K t.C_Desk "take_loan" t.f_Desk_take_loan
  F_Desk_go_down : Fun K "go_down" "Desk.go_down" s_Desk_go_down t.f_Desk_go_down t.fd_Desk_go_down
  b_Desk_go_down : Binds K t.fd_Desk_go_down ["self", "page", "right"] []
  mt_Desk_go_down : Meth K t.C_Desk "go_down" t.f_Desk_go_down
  F_Desk_number_to_tell : Fun K "number_to_tell" "Desk.number_to_tell" s_Desk_number_to_tell t.f_Desk_number_to_tell t.fd_Desk_number_to_tell
  b_Desk_number_to_tell : Binds K t.fd_Desk_number_to_tell ["self", "page"] []
  mt_Desk_number_to_tell : Meth K t.C_Desk "number_to_tell" t.f_Desk_number_to_tell
  F_Desk_hold : Fun K "hold" "Desk.hold" s_Desk_hold t.f_Desk_hold t.fd_Desk_hold
  b_Desk_hold : Binds K t.fd_Desk_hold ["self", "page", "right", "number"] []
  mt_Desk_hold : Meth K t.C_Desk "hold" t.f_Desk_hold
  F_taken_by_desk : Fun K "taken_by_desk" "taken_by_desk" s_taken_by_desk t.f_taken_by_desk t.fd_taken_by_desk
  b_taken_by_desk : Binds K t.fd_taken_by_desk ["desk", "letters"] []
  m_taken_by_desk : mg "taken_by_desk" = some (.ref t.f_taken_by_desk)
  F_l_whole : Fun K "_law_whole" "_law_whole" s_l_whole t.f_l_whole t.fd_l_whole
  b_l_whole : Binds K t.fd_l_whole ["_law_found"] []
  m_l_whole : mg "_law_whole" = some (.ref t.f_l_whole)
  F_l_at : Fun K "_law_at" "_law_at" s_l_at t.f_l_at t.fd_l_at
  b_l_at : Binds K t.fd_l_at ["_law_script", "_law_k"] []
  m_l_at : mg "_law_at" = some (.ref t.f_l_at)
  F_l_same : Fun K "_law_same" "_law_same" s_l_same t.f_l_same t.fd_l_same
  b_l_same : Binds K t.fd_l_same ["_law_found", "_law_due"] []
  m_l_same : mg "_law_same" = some (.ref t.f_l_same)
  F_l_wanted : Fun K "_law_wanted" "_law_wanted" s_l_wanted t.f_l_wanted t.fd_l_wanted
  b_l_wanted : Binds K t.fd_l_wanted ["_law_mine", "_law_wish"] []
  m_l_wanted : mg "_law_wanted" = some (.ref t.f_l_wanted)
  F_l_fulfilled : Fun K "_law_fulfilled" "_law_fulfilled" s_l_fulfilled t.f_l_fulfilled t.fd_l_fulfilled
  b_l_fulfilled : Binds K t.fd_l_fulfilled ["_law_mine", "_law_wish"] []
  m_l_fulfilled : mg "_law_fulfilled" = some (.ref t.f_l_fulfilled)
  F_l_taken : Fun K "_law_taken" "_law_taken" s_l_taken t.f_l_taken t.fd_l_taken
  b_l_taken : Binds K t.fd_l_taken ["_law_mine", "_law_letter"] []
  m_l_taken : mg "_law_taken" = some (.ref t.f_l_taken)
  F_l_rested : Fun K "_law_rested" "_law_rested" s_l_rested t.f_l_rested t.fd_l_rested
  b_l_rested : Binds K t.fd_l_rested ["_law_mine", "_law_page"] []
  m_l_rested : mg "_law_rested" = some (.ref t.f_l_rested)
  F_l_asked : Fun K "_law_asked" "_law_asked" s_l_asked t.f_l_asked t.fd_l_asked
  b_l_asked : Binds K t.fd_l_asked ["_law_desk", "_law_word", "_law_what"] []
  m_l_asked : mg "_law_asked" = some (.ref t.f_l_asked)
  F_l_called : Fun K "_law_called" "_law_called" s_l_called t.f_l_called t.fd_l_called
  b_l_called : Binds K t.fd_l_called ["_law_desk", "_law_word", "_law_what"] []
  m_l_called : mg "_law_called" = some (.ref t.f_l_called)
  F_l_asked_by_any : Fun K "_law_asked_by_any" "_law_asked_by_any" s_l_asked_by_any t.f_l_asked_by_any t.fd_l_asked_by_any
  b_l_asked_by_any : Binds K t.fd_l_asked_by_any ["_law_desk", "_law_word", "_law_what", "_law_due"] []
  m_l_asked_by_any : mg "_law_asked_by_any" = some (.ref t.f_l_asked_by_any)
  F_l_due_of : Fun K "_law_due_of" "_law_due_of" s_l_due_of t.f_l_due_of t.fd_l_due_of
  b_l_due_of : Binds K t.fd_l_due_of ["_law_mine", "_law_word", "_law_what"] []
  m_l_due_of : mg "_law_due_of" = some (.ref t.f_l_due_of)
  F_l_next_of : Fun K "_law_next_of" "_law_next_of" s_l_next_of t.f_l_next_of t.fd_l_next_of
  b_l_next_of : Binds K t.fd_l_next_of ["_law_cell", "_law_more", "_law_k"] []
  m_l_next_of : mg "_law_next_of" = some (.ref t.f_l_next_of)
  F_l_some_letters : Fun K "_law_some_letters" "_law_some_letters" s_l_some_letters t.f_l_some_letters t.fd_l_some_letters
  b_l_some_letters : Binds K t.fd_l_some_letters ["_law_script", "_law_k"] []
  m_l_some_letters : mg "_law_some_letters" = some (.ref t.f_l_some_letters)
  F_l_as_due : Fun K "_law_as_due" "_law_as_due" s_l_as_due t.f_l_as_due t.fd_l_as_due
  b_l_as_due : Binds K t.fd_l_as_due ["_law_told"] []
  m_l_as_due : mg "_law_as_due" = some (.ref t.f_l_as_due)
  F_law : Fun K "law" "law" s_law t.f_law t.fd_law
  b_law : Binds K t.fd_law ["_law_script"] []
  m_law : mg "law" = some (.ref t.f_law)
  g_NONE : ∃ u, mg "NONE" = some (.str "none" u)
  g_READ : ∃ u, mg "READ" = some (.str "read" u)
  g_WRITE : ∃ u, mg "WRITE" = some (.str "write" u)
  g_RANKS : mg "RANKS" = some (.ref t.a_RANKS)
  d_RANKS : KDict K w t.a_RANKS [("none", V.int 0), ("read", V.int 1), ("write", V.int 2)]
  n_isinstance : mg "isinstance" = none
  n_int : mg "int" = none
  n_bool : mg "bool" = none
  n_len : mg "len" = none
  n_list : mg "list" = none
  n_tuple : mg "tuple" = none
  n_str : mg "str" = none
  n_ValueError : mg "ValueError" = none
  n_range : mg "range" = none

/-! ### the mirror -/
inductive Rt where
  | no | rd | wr
  deriving DecidableEq
def Rt.s : Rt → Str
  | .no => "none"
  | .rd => "read"
  | .wr => "write"
def Rt.k : Rt → Int
  | .no => 0
  | .rd => 1
  | .wr => 2
theorem Rt.s_inj : ∀ {a b : Rt}, a.s = b.s → a = b
  | .no, .no, _ => rfl
  | .no, .rd, h => absurd h (by decide +kernel)
  | .no, .wr, h => absurd h (by decide +kernel)
  | .rd, .no, h => absurd h (by decide +kernel)
  | .rd, .rd, _ => rfl
  | .rd, .wr, h => absurd h (by decide +kernel)
  | .wr, .no, h => absurd h (by decide +kernel)
  | .wr, .rd, h => absurd h (by decide +kernel)
  | .wr, .wr, _ => rfl
theorem rt_ne {r q : Rt} {x : Str} (e : x = q.s) (h : r ≠ q) : decide (V.str r.s = V.str x) = false := decide_eq_false fun z => h (Rt.s_inj ((V.str.inj z).trans e))
theorem iteFb {c : Bool} {A B : Prop} (h : c = false) (hb : B) : if c = true then A else B := by rw [h]; exact iteF hb
theorem iteTb {c : Bool} {A B : Prop} (h : c = true) (ha : A) : if c = true then A else B := by rw [h]; exact iteT ha
/-- a wish -/
inductive W where
  | look (p : Int) | put (p n : Int)
def W.pg : W → Int
  | .look p => p
  | .put p _ => p
def W.need : W → Rt
  | .look _ => .rd
  | .put _ _ => .wr
def W.tag : W → Str
  | .look _ => "look"
  | .put _ _ => "put"
def W.vs : W → List V
  | .look p => [.str "look", .int p]
  | .put p n => [.str "put", .int p, .int n]
def W.d : W → D
  | .look p => .t [.s "look", .i p]
  | .put p n => .t [.s "put", .i p, .i n]
/-- a desk's state -/
structure DS where
  rt : Int → Rt
  nm : Int → Int
  ws : Option W
def DS.hold (S : DS) (p : Int) (r : Rt) (n : Int) : DS := { S with rt := fun q => if q = p then r else S.rt q, nm := fun q => if q = p then n else S.nm q }
theorem DS.hold_rt (S : DS) (p : Int) (r : Rt) (n : Int) : (S.hold p r n).rt p = r := by unfold DS.hold; dsimp only; rw [if_pos rfl]
theorem DS.hold_nm (S : DS) (p : Int) (r : Rt) (n : Int) : (S.hold p r n).nm p = n := by unfold DS.hold; dsimp only; rw [if_pos rfl]
theorem DS.hold_rt' (S : DS) {p q : Int} (r : Rt) (n : Int) (h : q ≠ p) : (S.hold p r n).rt q = S.rt q := by unfold DS.hold; dsimp only; rw [if_neg h]
theorem DS.hold_nm' (S : DS) {p q : Int} (r : Rt) (n : Int) (h : q ≠ p) : (S.hold p r n).nm q = S.nm q := by unfold DS.hold; dsimp only; rw [if_neg h]
def DS.ok (S : DS) (w : W) : Prop := w.need.k ≤ (S.rt w.pg).k
instance (S : DS) (w : W) : Decidable (S.ok w) := inferInstanceAs (Decidable (_ ≤ _))
/-- a wish is done: the state behind it, the number told -/
def DS.done (S : DS) : W → DS
  | .look _ => S
  | .put p n => S.hold p (S.rt p) n
def DS.num (S : DS) : W → Int
  | .look p => S.nm p
  | .put _ n => n
/-- the number that it tells when it goes down or gives up -/
def DS.tell (S : DS) (p : Int) : V := if S.rt p = .wr then .int (S.nm p) else .non
/-! ### in the heap -/
def WishAt (H : Hp) (v : V) : Option W → Prop
  | none => v = .non
  | some w => ∃ a, v = .ref a ∧ H a = some (.tup w.vs)
def CopyAt (H : Hp) (o : Option V) (r : Rt) (n : Int) : Prop := if r = .no then o = none else ∃ t, o = some (.ref t) ∧ H t = some (.tup [.str r.s, .int n])
theorem cw : ¬ (("copies" : Str) = "wish") := by decide +kernel
def flds (d : Addr) (v : V) : List (Str × V) := putF "wish" v (putF "copies" (.ref d) [])
theorem flds_eq (d : Addr) (v : V) : flds d v = ([("copies", V.ref d), ("wish", v)] : List (Str × V)) := by
  show (if ("copies" : Str) = "wish" then [(("copies" : Str), v)] else (("copies" : Str), V.ref d) :: putF "wish" v []) = ([("copies", V.ref d), ("wish", v)] : List (Str × V))
  rw [if_neg cw]
  all_goals rfl
theorem flds_copies (d : Addr) (v : V) : (flds d v).lookup ("copies" : Str) = some (.ref d) := by
  unfold flds
  rw [lookup_putF, if_neg cw, lookup_putF, if_pos rfl]
theorem flds_wish (d : Addr) (v : V) : (flds d v).lookup ("wish" : Str) = some v := by
  unfold flds
  rw [lookup_putF, if_pos rfl]
theorem flds_no (d : Addr) (v : V) {m : Str} (h1 : ¬ m = "wish") (h2 : ¬ m = "copies") : (flds d v).lookup m = none := by
  unfold flds
  rw [lookup_putF, if_neg h1, lookup_putF, if_neg h2]
  all_goals rfl
theorem flds_put (d : Addr) (v u : V) : putF "wish" u (flds d v) = flds d u := by
  rw [flds_eq, flds_eq]
  show (if ("copies" : Str) = "wish" then _ else (("copies" : Str), V.ref d) :: (if ("wish" : Str) = "wish" then [(("wish" : Str), u)] else _)) = ([("copies", V.ref d), ("wish", u)] : List (Str × V))
  rw [if_neg cw, if_pos rfl]
theorem flds_len (d : Addr) (v : V) : (flds d v).length = 2 := by rw [flds_eq]; rfl
/-- a Desk stands at p, its dict at d; c bounds the number of its copies -/
structure DeskAt (C : Addr) (H : Hp) (p d : Addr) (S : DS) (c : Nat) : Prop where
  ob : ∃ dx v, H p = some (.ins C dx (flds d v)) ∧ WishAt H v S.ws
  dc : ∃ kvs, H d = some (.dK kvs) ∧ kvs.length ≤ c ∧ ∀ n : Int, CopyAt H (valV kvs (Sum.inl n : Key)) (S.rt n) (S.nm n)
/-- all else is as it was -/
def DF (H H' : Hp) (p d : Addr) : Prop := ∀ b o, H b = some o → b ≠ p → b ≠ d → H' b = some o
theorem DF.refl (H : Hp) (p d : Addr) : DF H H p d := fun _ _ h _ _ => h
theorem DF.trans {H H1 H2 : Hp} {p d : Addr} (a : DF H H1 p d) (b : DF H1 H2 p d) : DF H H2 p d := fun c o h h1 h2 => b c o (a c o h h1 h2) h1 h2
theorem DeskAt.npd {C : Addr} {H : Hp} {p d : Addr} {S : DS} {c : Nat} (D : DeskAt C H p d S c) : p ≠ d := by
  obtain ⟨⟨dx, v, h1, _⟩, ⟨kvs, h2, _⟩⟩ := D
  exact ne_of h1 h2 (by intro z; cases z)
theorem DeskAt.mono {C : Addr} {H : Hp} {p d : Addr} {S : DS} {c c' : Nat} (D : DeskAt C H p d S c) (h : c ≤ c') : DeskAt C H p d S c' := by
  obtain ⟨o, ⟨kvs, h2, h3, h4⟩⟩ := D
  exact ⟨o, ⟨kvs, h2, Nat.le_trans h3 h, h4⟩⟩
theorem WishAt.tmono {H H' : Hp} (h : TupSame H H') {v : V} {o : Option W} (w : WishAt H v o) : WishAt H' v o := by
  cases o with
  | none => exact w
  | some w' =>
    obtain ⟨a, e, ha⟩ := w
    exact ⟨a, e, h a _ ha⟩
theorem CopyAt.tmono {H H' : Hp} (h : TupSame H H') {o : Option V} {r : Rt} {n : Int} (w : CopyAt H o r n) : CopyAt H' o r n := by
  unfold CopyAt at w ⊢
  split
  · rename_i e; rw [if_pos e] at w; exact w
  · rename_i e
    rw [if_neg e] at w
    obtain ⟨t, e, ha⟩ := w
    exact ⟨t, e, h t _ ha⟩
/-- where the two objects and the tuples stay -/
theorem DeskAt.keep {C : Addr} {H H' : Hp} {p d : Addr} {S : DS} {c : Nat} (D : DeskAt C H p d S c) (h : TupSame H H') (hp : ∀ o, H p = some o → H' p = some o) (hd : ∀ o, H d = some o → H' d = some o) : DeskAt C H' p d S c := by
  obtain ⟨⟨dx, v, h1, h2⟩, ⟨kvs, h3, h4, h5⟩⟩ := D
  exact ⟨⟨dx, v, hp _ h1, h2.tmono h⟩, ⟨kvs, hd _ h3, h4, fun n => (h5 n).tmono h⟩⟩
theorem DeskAt.same {C : Addr} {H H' : Hp} {p d : Addr} {S : DS} {c : Nat} (D : DeskAt C H p d S c) (h : Same H H') : DeskAt C H' p d S c := D.keep (fun b xs e => h b _ e) (fun o e => h p o e) fun o e => h d o e
theorem DF.tups {C : Addr} {H H' : Hp} {p d : Addr} {S : DS} {c : Nat} (D : DeskAt C H p d S c) (h : DF H H' p d) : TupSame H H' := fun b xs e => by
  obtain ⟨⟨dx, v, h1, _⟩, ⟨kvs, h2, _⟩⟩ := D
  exact h b _ e (ne_of e h1 (by intro z; cases z)) (ne_of e h2 (by intro z; cases z))
theorem DF.seqs {C : Addr} {H H' : Hp} {p d : Addr} {S : DS} {c : Nat} (D : DeskAt C H p d S c) (h : DF H H' p d) : SeqSame H H' := ⟨h.tups D, fun b xs e => by
  obtain ⟨⟨dx, v, h1, _⟩, ⟨kvs, h2, _⟩⟩ := D
  exact h b _ e (ne_of e h1 (by intro z; cases z)) (ne_of e h2 (by intro z; cases z))⟩
theorem tup_new {H : Hp} {a : Addr} {o : HO} (h : H a = none) : TupSame H (upd H a o) := fun b xs e => by rw [upd_ne (ne_of_none e h)]; exact e
theorem seq_new {H : Hp} {a : Addr} {o : HO} (h : H a = none) : SeqSame H (upd H a o) := ⟨tup_new h, fun b xs e => by rw [upd_ne (ne_of_none e h)]; exact e⟩
theorem same_new {H : Hp} {a : Addr} {o : HO} (h : H a = none) : Same H (upd H a o) := fun b u e => by rw [upd_ne (ne_of_none e h)]; exact e
theorem DF.new {H : Hp} {p d a : Addr} {o : HO} (h : H a = none) : DF H (upd H a o) p d := fun b u e _ _ => same_new h b u e
theorem rep_tup {H : Hp} {a : Addr} {xs : List V} {ds : List D} (h : H a = none) (r : RepL H xs ds) : Rep (upd H a (.tup xs)) (.ref a) (.t ds) := by
  simp only [Rep]
  exact ⟨a, xs, rfl, upd_same, r.mono (seq_new h)⟩
theorem rep_lst {H : Hp} {a : Addr} {xs : List V} {ds : List D} (h : H a = none) (r : RepL H xs ds) : Rep (upd H a (.lst xs)) (.ref a) (.l ds) := by
  simp only [Rep]
  exact ⟨a, xs, rfl, upd_same, r.mono (seq_new h)⟩
/-- what is new: the tuples, and the objects that were not there -/
def nw (H H' : Hp) : Hp := fun b => match H b with
  | none => H' b
  | some (.tup _) => H' b
  | some _ => none
theorem nw_some {H H' : Hp} {b : Addr} {o : HO} (h : nw H H' b = some o) : H' b = some o ∧ (H b = none ∨ ∃ xs, H b = some (.tup xs)) := by
  unfold nw at h
  split at h
  · rename_i e; exact ⟨h, .inl e⟩
  · rename_i xs e; exact ⟨h, .inr ⟨xs, e⟩⟩
  · cases h
theorem nw_of {H H' : Hp} {b : Addr} {o : HO} (h : H' b = some o) (q : H b = none ∨ ∃ xs, H b = some (.tup xs)) : nw H H' b = some o := by
  unfold nw
  rcases q with e | ⟨xs, e⟩ <;> rw [e] <;> exact h
theorem nw_seq {H H' : Hp} : SeqSame (nw H H') H' := ⟨fun _ _ h => (nw_some h).1, fun _ _ h => (nw_some h).1⟩
theorem nw_mono {H H1 H2 : Hp} (h : SeqSame H1 H2) : SeqSame (nw H H1) (nw H H2) := ⟨fun b xs e => nw_of (h.1 b xs (nw_some e).1) (nw_some e).2, fun b xs e => nw_of (h.2 b xs (nw_some e).1) (nw_some e).2⟩
theorem repF_tup {H H1 : Hp} {a : Addr} {xs : List V} {ds : List D} (hH : H a = none) (h : H1 a = none) (r : RepL (nw H H1) xs ds) : Rep (nw H (upd H1 a (.tup xs))) (.ref a) (.t ds) := by
  simp only [Rep]
  exact ⟨a, xs, rfl, nw_of upd_same (.inl hH), r.mono (nw_mono (seq_new h))⟩
theorem repF_lst {H H1 : Hp} {a : Addr} {xs : List V} {ds : List D} (hH : H a = none) (h : H1 a = none) (r : RepL (nw H H1) xs ds) : Rep (nw H (upd H1 a (.lst xs))) (.ref a) (.l ds) := by
  simp only [Rep]
  exact ⟨a, xs, rfl, nw_of upd_same (.inl hH), r.mono (nw_mono (seq_new h))⟩
/-- nothing has gone, and what is no tuple stays none -/
def Kept (H H1 : Hp) : Prop := ∀ b o, H b = some o → ∃ o', H1 b = some o' ∧ ((∀ xs, o ≠ .tup xs) → ∀ xs, o' ≠ .tup xs)
theorem Kept.free {H H1 : Hp} (h : Kept H H1) {a : Addr} (e : H1 a = none) : H a = none := by
  cases q : H a with
  | none => rfl
  | some o => obtain ⟨o', z, _⟩ := h a o q; rw [e] at z; cases z
theorem Kept.tup {H H1 : Hp} (h : Kept H H1) {b : Addr} {xs : List V} (e : H1 b = some (.tup xs)) : H b = none ∨ ∃ ys, H b = some (.tup ys) := by
  cases q : H b with
  | none => exact .inl rfl
  | some o =>
    obtain ⟨o', z, y⟩ := h b o q
    by_cases ht : ∃ xs, o = .tup xs
    · obtain ⟨ys, rfl⟩ := ht; exact .inr ⟨ys, rfl⟩
    · rw [e] at z; cases z
      exact absurd rfl (y (fun ys z => ht ⟨ys, z⟩) xs)
theorem Kept.refl (H : Hp) : Kept H H := fun b o e => ⟨o, e, fun h => h⟩
theorem Kept.new {H H1 : Hp} (h : Kept H H1) {a : Addr} {o : HO} (e : H1 a = none) : Kept H (upd H1 a o) := fun b u q => by
  obtain ⟨o', z, y⟩ := h b u q
  exact ⟨o', by rw [upd_ne (ne_of_none z e)]; exact z, y⟩
theorem DF.kept {C : Addr} {H H' : Hp} {p d : Addr} {S S' : DS} {c c' : Nat} (D : DeskAt C H p d S c) (D' : DeskAt C H' p d S' c') (h : DF H H' p d) : Kept H H' := fun b o e => by
  by_cases hp : b = p
  · subst hp
    obtain ⟨⟨dx, v, h1, _⟩, _⟩ := D'
    exact ⟨_, h1, fun _ xs z => by cases z⟩
  · by_cases hd : b = d
    · subst hd
      obtain ⟨_, ⟨kvs, h2, _⟩⟩ := D'
      exact ⟨_, h2, fun _ xs z => by cases z⟩
    · exact ⟨o, h b o e hp hd, fun z => z⟩
/-- a letter that goes down -/
inductive Let where
  | lend (p : Int) (r : Rt) (n : Int) | back (p : Int) (r : Rt)
def Let.vs : Let → List V
  | .lend p r n => [.str "lend", .int p, .str r.s, .int n]
  | .back p r => [.str "back", .int p, .str r.s]
def Let.d : Let → D
  | .lend p r n => .t [.s "lend", .i p, .s r.s, .i n]
  | .back p r => .t [.s "back", .i p, .s r.s]
def tellD : V → D
  | .int k => .i k
  | _ => .n
/-- what a letter comes to -/
def DS.loan (S : DS) (p : Int) (r : Rt) (n : Int) : DS × List D :=
  let S1 := S.hold p r n
  match S.ws with
  | none => (S1, [])
  | some w => if w.pg = p ∧ S1.ok w then (({ S1 with ws := none } : DS).done w, [.t [.s w.tag, .i w.pg, .i (S1.num w)]]) else (S1, [])
def DS.down (S : DS) (p : Int) (r : Rt) : DS := if (S.rt p).k ≤ r.k then S else S.hold p r (S.nm p)
def DS.take (S : DS) : Let → DS × D
  | .lend p r n => ((S.loan p r n).1, .t [.l (S.loan p r n).2, .l []])
  | .back p r => (S.down p r, .t [.l [], .l [.t [.s "answer", .i p, tellD (S.tell p)]]])
/-- want: none if it waits -/
def DS.want (S : DS) (w : W) : DS × D := if S.ok w then (S.done w, .t [.l [.t [.s w.tag, .i w.pg, .i (S.num w)]], .l []]) else ({ S with ws := some w }, .t [.l [], .l [.t [.s "ask", .i w.pg, .s w.need.s]]])
def DS.rest (S : DS) (p : Int) : DS × D := (S.hold p .no (S.nm p), .l (if S.rt p = .wr then [.t [.s "gave", .i p, .i (S.nm p)]] else []))
/-! ### the promises -/
def spTup (tag : Str) : Sp := fun vs H Q _ => ∃ x y, vs = [x, y] ∧ ∀ a, H a = none → Q (.ref a) (upd H a (.tup [.str tag, x, y]))
def spEnough : Sp := fun vs H Q _ => ∃ r n : Rt, vs = [.str r.s, .str n.s] ∧ Q (.bl (decide (n.k ≤ r.k))) H
def spNeed (K : PySem.W.Frag) : Sp := fun vs H Q _ => ∃ a w, vs = [.ref a] ∧ H a = some (.tup (W.vs w)) ∧ Q (.str w.need.s) H
def spInit (C : Addr) : Sp := fun vs H Q _ => ∃ p dx, vs = [.ref p] ∧ H p = some (.ins C dx []) ∧ ∀ d H', H d = none → DeskAt C H' p d ⟨fun _ => .no, fun _ => 0, none⟩ 0 → (∀ b o, H b = some o → b ≠ p → H' b = some o) → Q .non H'
def spRight (C : Addr) : Sp := fun vs H Q _ => ∃ p d S c n, vs = [.ref p, .int n] ∧ DeskAt C H p d S c ∧ Q (.str (S.rt n).s) H
def spWaits (C : Addr) : Sp := fun vs H Q _ => ∃ p d S c, vs = [.ref p] ∧ DeskAt C H p d S c ∧ Q (.bl S.ws.isSome) H
def spMay (C : Addr) : Sp := fun vs H Q _ => ∃ p d S c a w, vs = [.ref p, .ref a] ∧ DeskAt C H p d S c ∧ H a = some (.tup (W.vs w)) ∧ Q (.bl (decide (S.ok w))) H
def spTell (C : Addr) : Sp := fun vs H Q _ => ∃ p d S c n, vs = [.ref p, .int n] ∧ DeskAt C H p d S c ∧ Q (S.tell n) H
def spHold (C : Addr) : Sp := fun vs H Q _ => ∃ p d S c n r k v, vs = [.ref p, .int n, .str (Rt.s r), v] ∧ DeskAt C H p d S c ∧ c ≤ 1000000 ∧ (r = .no ∨ v = .int k) ∧ ∀ H', DeskAt C H' p d (S.hold n r k) (c + 1) → DF H H' p d → Q .non H'
def spDo (C : Addr) : Sp := fun vs H Q _ => ∃ p d S c a w, vs = [.ref p, .ref a] ∧ DeskAt C H p d S c ∧ c ≤ 1000000 ∧ H a = some (.tup (W.vs w)) ∧ S.ok w ∧
  ∀ t H', DeskAt C H' p d (S.done w) (c + 1) → DF H H' p d → H' t = some (.tup [.str w.tag, .int w.pg, .int (S.num w)]) → Q (.ref t) H'
def spLoan (C : Addr) : Sp := fun vs H Q _ => ∃ p d S c n r k, vs = [.ref p, .int n, .str (Rt.s r), .int k] ∧ DeskAt C H p d S c ∧ c ≤ 900000 ∧
  ∀ v H', DeskAt C H' p d (S.loan n r k).1 (c + 2) → DF H H' p d → Rep (nw H H') v (.l (S.loan n r k).2) → Q v H'
def spDown (C : Addr) : Sp := fun vs H Q _ => ∃ p d S c n r, vs = [.ref p, .int n, .str (Rt.s r)] ∧ DeskAt C H p d S c ∧ c ≤ 900000 ∧
  ∀ v H', DeskAt C H' p d (S.down n r) (c + 2) → DF H H' p d → Rep H' v (.t [.s "answer", .i n, tellD (S.tell n)]) → Q v H'
def spTake (C : Addr) : Sp := fun vs H Q _ => ∃ p d S c a l, vs = [.ref p, .ref a] ∧ DeskAt C H p d S c ∧ c ≤ 900000 ∧ H a = some (.tup (Let.vs l)) ∧
  ∀ v H', DeskAt C H' p d (S.take l).1 (c + 2) → DF H H' p d → Rep (nw H H') v (S.take l).2 → Q v H'
def spWant (C X : Addr) : Sp := fun vs H Q E => ∃ p d S c a w, vs = [.ref p, .ref a] ∧ DeskAt C H p d S c ∧ c ≤ 900000 ∧ H a = some (.tup (W.vs w)) ∧
  match S.ws with
  | none => ∀ v H', DeskAt C H' p d (S.want w).1 (c + 2) → DF H H' p d → Rep H' v (S.want w).2 → Q v H'
  | some _ => E (.ref X) none H
def spRest (C X : Addr) : Sp := fun vs H Q E => ∃ p d S c n, vs = [.ref p, .int n] ∧ DeskAt C H p d S c ∧ c ≤ 900000 ∧ n.natAbs < 1000000 ∧
  if S.rt n = .no then E (.ref X) none H else ∀ v H', DeskAt C H' p d (S.rest n).1 (c + 2) → DF H H' p d → Rep H' v (S.rest n).2 → Q v H'
end K07
namespace K07
open PySem L2
theorem vs_ne {a b : Str} (h : a ≠ b) : decide (V.str a = V.str b) = false := decide_eq_false fun z => h (V.str.inj z)
theorem vs_eq {a : Str} : decide (V.str a = V.str a) = true := decide_eq_true rfl
theorem ranks_at (r : Rt) : ([("none", V.int 0), ("read", V.int 1), ("write", V.int 2)] : List (Str × V)).lookup r.s = some (.int r.k) := by cases r <;> rfl
theorem valV_drop {kvs : List (Key × V)} {k j : Key} : valV (dropK kvs k) j = if j = k then none else valV kvs j := by
  induction kvs with
  | nil => simp [dropK, valV]
  | cons p r ih =>
    by_cases e : p.1 = k
    · rw [dropK_pos e, ih]
      by_cases ej : j = k
      · rw [if_pos ej, if_pos ej]
      · rw [if_neg ej, if_neg ej]
        have : p.1 ≠ j := fun z => ej (z.symm.trans e)
        simp [valV, List.find?_cons, this]
    · rw [dropK_neg e]
      by_cases ej : j = k
      · rw [if_pos ej]
        subst ej
        rw [if_pos rfl] at ih
        simp only [valV, List.find?_cons, e, decide_false] at ih ⊢
        exact ih
      · rw [if_neg ej] at ih ⊢
        by_cases ep : p.1 = j
        · simp [valV, List.find?_cons, ep]
        · simp only [valV, List.find?_cons, ep, decide_false] at ih ⊢
          exact ih
section
variable {P : Program} {w : World} {K : PySem.W.Frag} {mg : Str → Option Value} {base : Heap} {t : Adr}
theorem ok_ask_letter (T : Txt K w mg t) : FnOk P w K mg base CX0 1 t.f_ask_letter t.fd_ask_letter ["page", "right"] (spTup "ask") := by
  refine T.F_ask_letter.ok sc_ask_letter (fun vs H Q E h => ?_) (fun cdv A outer s H vs Q E hr h => ?_)
  · obtain ⟨x, y, rfl, _⟩ := h; rfl
  · obtain ⟨x, y, rfl, k⟩ := h
    refine ⟨_, (pss_one (ps_ret (pe_tup (pa_cons pe_str (pa_cons (pv 0) (pa_cons (pv 1) pa_nil)))))), ?_⟩
    exact ⟨_, rfl, _, rfl, (by show 3 ≤ sizeLine; decide), fun a ha => k a ha⟩
theorem ok_answer_letter (T : Txt K w mg t) : FnOk P w K mg base CX0 1 t.f_answer_letter t.fd_answer_letter ["page", "number"] (spTup "answer") := by
  refine T.F_answer_letter.ok sc_answer_letter (fun vs H Q E h => ?_) (fun cdv A outer s H vs Q E hr h => ?_)
  · obtain ⟨x, y, rfl, _⟩ := h; rfl
  · obtain ⟨x, y, rfl, k⟩ := h
    refine ⟨_, (pss_one (ps_ret (pe_tup (pa_cons pe_str (pa_cons (pv 0) (pa_cons (pv 1) pa_nil)))))), ?_⟩
    exact ⟨_, rfl, _, rfl, (by show 3 ≤ sizeLine; decide), fun a ha => k a ha⟩
theorem ok_gave_letter (T : Txt K w mg t) : FnOk P w K mg base CX0 1 t.f_gave_letter t.fd_gave_letter ["page", "number"] (spTup "gave") := by
  refine T.F_gave_letter.ok sc_gave_letter (fun vs H Q E h => ?_) (fun cdv A outer s H vs Q E hr h => ?_)
  · obtain ⟨x, y, rfl, _⟩ := h; rfl
  · obtain ⟨x, y, rfl, k⟩ := h
    refine ⟨_, (pss_one (ps_ret (pe_tup (pa_cons pe_str (pa_cons (pv 0) (pa_cons (pv 1) pa_nil)))))), ?_⟩
    exact ⟨_, rfl, _, rfl, (by show 3 ≤ sizeLine; decide), fun a ha => k a ha⟩
theorem ok_is_enough (T : Txt K w mg t) : FnOk P w K mg base CX0 1 t.f_is_enough t.fd_is_enough ["right", "needed"] spEnough := by
  refine T.F_is_enough.ok sc_is_enough (fun vs H Q E h => ?_) (fun cdv A outer s H vs Q E hr h => ?_)
  · obtain ⟨x, y, rfl, _⟩ := h; rfl
  · obtain ⟨r, n, rfl, k⟩ := h
    refine ⟨_, (pss_one (ps_ret (pe_cmpR op_ge (pe_kget (by rfl) T.g_RANKS T.d_RANKS (pv 0) (fun _ _ => rfl)) (pe_kget (by rfl) T.g_RANKS T.d_RANKS (pv 1) (fun _ _ => rfl)) (nomark _)))), ?_⟩
    exact ⟨_, rfl, _, _, rfl, ranks_at r, _, rfl, _, _, rfl, ranks_at n, _, _, rfl, rfl, k⟩
theorem ok_right_needed (T : Txt K w mg t) : FnOk P w K mg base CX0 1 t.f_right_needed t.fd_right_needed ["wish"] (spNeed K) := by
  refine T.F_right_needed.ok sc_right_needed (fun vs H Q E h => ?_) (fun cdv A outer s H vs Q E hr h => ?_)
  · obtain ⟨x, y, rfl, _⟩ := h; rfl
  · obtain ⟨a, w, rfl, ha, k⟩ := h
    refine ⟨_, (pss_one (ps_ret (pe_ifExp (pt_cmpR op_eq (pe_ix ix_tup (pv 0) pe_int (fun _ _ => rfl)) pe_str (nomark _)) (pe_gstr (by rfl) T.g_WRITE) (pe_gstr (by rfl) T.g_READ)))), ?_⟩
    cases w with
    | look p =>
      refine ⟨_, rfl, a, _, 0, .str "look", rfl, rfl, SqT.of ha, rfl, rfl, _, rfl, ?_⟩
      rw [vs_ne (by decide +kernel)]
      exact iteF k
    | put p n =>
      refine ⟨_, rfl, a, _, 0, .str "put", rfl, rfl, SqT.of ha, rfl, rfl, _, rfl, ?_⟩
      rw [vs_eq]
      exact iteT k
theorem ok_Desk_init (T : Txt K w mg t) : FnOk P w K mg base CX0 1 t.f_Desk_init t.fd_Desk_init ["self"] (spInit t.C_Desk) := by
  refine T.F_Desk_init.ok sc_Desk_init (fun vs H Q E h => ?_) (fun cdv A outer s H vs Q E hr h => ?_)
  · obtain ⟨x, y, rfl, _⟩ := h; rfl
  · obtain ⟨p, dx, rfl, hp, k⟩ := h
    refine ⟨_, (pss_cons (ps_fld (pv 0) pe_dnewK (by rfl))
      (pss_one (ps_fld (pv 0) pe_non (by rfl)))), ?_⟩
    intro d hd
    have npd : p ≠ d := ne_of_none hp hd
    refine ⟨_, rfl, p, t.C_Desk, dx, [], rfl, (by rw [upd_ne npd]; exact hp), T.c_Desk, T.na_Desk_copies, (by show 0 < 1000; decide), _, rfl, p, t.C_Desk, dx, _, rfl, upd_same, T.c_Desk, T.na_Desk_wish, (by show 1 < 1000; decide), ?_⟩
    refine k d _ hd ⟨⟨dx, .non, upd_same, rfl⟩, ⟨[], by rw [upd_ne npd.symm, upd_ne npd.symm, upd_same], Nat.le_refl _, fun n => rfl⟩⟩ fun b o e hb => ?_
    rw [upd_ne hb, upd_ne hb, upd_ne (ne_of_none e hd)]
    exact e
theorem ok_Desk_right_of (T : Txt K w mg t) : FnOk P w K mg base CX0 1 t.f_Desk_right_of t.fd_Desk_right_of ["self", "page"] (spRight t.C_Desk) := by
  refine T.F_Desk_right_of.ok sc_Desk_right_of (fun vs H Q E h => ?_) (fun cdv A outer s H vs Q E hr h => ?_)
  · obtain ⟨p, d, S, c, n, rfl, _⟩ := h; rfl
  · obtain ⟨p, d, S, c, n, rfl, DA, k⟩ := h
    have hu := hu_of hr
    obtain ⟨⟨dx, v, h1, _⟩, ⟨kvs, h2, h3, h4⟩⟩ := id DA
    refine ⟨_, (pss_one (ps_ret (pe_ifExp (pt_cmp (pc_din hu (pv 1) (pe_fld (pv 0) (by rfl)))) (pe_ix ix_tup (pe_dget hu (pe_fld (pv 0) (by rfl)) (pv 1) (fun _ _ => rfl)) pe_int (fun _ _ => rfl)) (pe_gstr (by rfl) T.g_NONE)))), ?_⟩
    refine ⟨_, rfl, _, rfl, p, _, dx, _, _, rfl, h1, T.c_Desk, T.na_Desk_copies, flds_copies _ _, d, _, rfl, DGet.k (k := Sum.inl n) h2, _, rfl, ?_⟩
    have h5 := h4 n
    unfold CopyAt at h5
    split at h5
    · rename_i e
      rw [h5]
      refine iteF ?_
      rw [e] at k
      exact k
    · rename_i e
      obtain ⟨tt, e1, e2⟩ := h5
      rw [e1]
      refine iteT ?_
      exact ⟨_, rfl, p, _, dx, _, _, rfl, h1, T.c_Desk, T.na_Desk_copies, flds_copies _ _, _, rfl, d, .ref tt, rfl, (by rw [← e1]; exact DGet.k (k := Sum.inl n) h2), tt, _, 0, _, rfl, rfl, SqT.of e2, rfl, k⟩
theorem W.at1 (w : W) : atI w.vs 1 = some (.int w.pg) := by cases w <;> rfl
theorem W.at0 (w : W) : atI w.vs 0 = some (.str w.tag) := by cases w <;> rfl
theorem ok_Desk_may_do (T : Txt K w mg t) : FnOk P w K mg base CX0 2 t.f_Desk_may_do t.fd_Desk_may_do ["self", "wish"] (spMay t.C_Desk) := by
  refine T.F_Desk_may_do.ok sc_Desk_may_do (fun vs H Q E h => ?_) (fun cdv A outer s H vs Q E hr h => ?_)
  · obtain ⟨p, d, S, c, a, w, rfl, _⟩ := h; rfl
  · obtain ⟨p, d, S, c, a, w, rfl, DA, ha, k⟩ := h
    have hu := hu_of hr
    obtain ⟨⟨dx, v, h1, _⟩, _⟩ := id DA
    refine ⟨_, (pss_one (ps_ret (pe_call (ok_is_enough T) (hr.mono (by decide) : Room 1 _) (by rfl) T.m_is_enough T.F_is_enough.kp T.b_is_enough .nil pass0 (pa_cons (pe_meth (pv 0) T.c_Desk T.mt_Desk_right_of (ok_Desk_right_of T) (hr.mono (by decide) : Room 1 _) T.b_Desk_right_of .nil pass0 (pa_cons (pe_ix ix_tup (pv 1) pe_int (fun _ _ => rfl)) pa_nil)) (pa_cons (pe_call (ok_right_needed T) (hr.mono (by decide) : Room 1 _) (by rfl) T.m_right_needed T.F_right_needed.kp T.b_right_needed .nil pass0 (pa_cons (pv 1) pa_nil)) pa_nil))))), ?_⟩
    exact ⟨_, rfl, p, dx, _, rfl, h1, flds_no _ _ (by decide +kernel) (by decide +kernel), _, rfl, a, _, 1, _, rfl, rfl, SqT.of ha, W.at1 w, p, d, S, c, w.pg, rfl, DA, _, rfl, a, w, rfl, ha, S.rt w.pg, w.need, rfl, k⟩
theorem ok_Desk_number_to_tell (T : Txt K w mg t) : FnOk P w K mg base CX0 2 t.f_Desk_number_to_tell t.fd_Desk_number_to_tell ["self", "page"] (spTell t.C_Desk) := by
  refine T.F_Desk_number_to_tell.ok sc_Desk_number_to_tell (fun vs H Q E h => ?_) (fun cdv A outer s H vs Q E hr h => ?_)
  · obtain ⟨p, d, S, c, n, rfl, _⟩ := h; rfl
  · obtain ⟨p, d, S, c, n, rfl, DA, k⟩ := h
    have hu := hu_of hr
    obtain ⟨⟨dx, v, h1, _⟩, ⟨kvs, h2, h3, h4⟩⟩ := id DA
    refine ⟨_, (pss_one (ps_ret (pe_ifExp (pt_cmpR op_eq (pe_meth (pv 0) T.c_Desk T.mt_Desk_right_of (ok_Desk_right_of T) (hr.mono (by decide) : Room 1 _) T.b_Desk_right_of .nil pass0 (pa_cons (pv 1) pa_nil)) (pe_gstr (by rfl) T.g_WRITE) (nomark _)) (pe_ix ix_tup (pe_dget hu (pe_fld (pv 0) (by rfl)) (pv 1) (fun _ _ => rfl)) pe_int (fun _ _ => rfl)) pe_non))), ?_⟩
    refine ⟨_, rfl, p, dx, _, rfl, h1, flds_no _ _ (by decide +kernel) (by decide +kernel), _, rfl, p, d, S, c, n, rfl, DA, rfl, _, rfl, ?_⟩
    unfold DS.tell at k
    by_cases e : S.rt n = .wr
    · have h5 := h4 n
      unfold CopyAt at h5
      rw [e, if_neg (by intro z; cases z)] at h5
      rw [if_pos e] at k
      rw [e]
      obtain ⟨tt, e1, e2⟩ := h5
      refine iteT ?_
      exact ⟨_, rfl, p, _, dx, _, _, rfl, h1, T.c_Desk, T.na_Desk_copies, flds_copies _ _, _, rfl, d, .ref tt, rfl, (by rw [← e1]; exact DGet.k (k := Sum.inl n) h2), tt, _, 1, _, rfl, rfl, SqT.of e2, rfl, k⟩
    · rw [if_neg e] at k
      exact iteFb (rt_ne (x := "write") (q := .wr) rfl e) k
theorem ok_Desk_hold (T : Txt K w mg t) : FnOk P w K mg base CX0 1 t.f_Desk_hold t.fd_Desk_hold ["self", "page", "right", "number"] (spHold t.C_Desk) := by
  refine T.F_Desk_hold.ok sc_Desk_hold (fun vs H Q E h => ?_) (fun cdv A outer s H vs Q E hr h => ?_)
  · obtain ⟨p, d, S, c, n, r, k, v, rfl, _⟩ := h; rfl
  · obtain ⟨p, d, S, c, n, r, z, v, rfl, DA, hc, hv, k⟩ := h
    have hu := hu_of hr
    have npd := DA.npd
    obtain ⟨⟨dx, u, h1, hw⟩, ⟨kvs, h2, h3, h4⟩⟩ := id DA
    refine ⟨_, (pss_one (ps_if (pt_cmpR op_eq (pv 2) (pe_gstr (by rfl) T.g_NONE) (nomark _)) (pss_one (ps_expr (pe_dpop2 (pe_fld (pv 0) (by rfl)) (pv 1) pe_non ⟨rfl, rfl, rfl, rfl⟩))) (pss_one (ps_dput hu (pe_fld (pv 0) (by rfl)) (pv 1) (pe_tup (pa_cons (pv 2) (pa_cons (pv 3) pa_nil))) (by rfl))))), ?_⟩
    refine ⟨_, rfl, rfl, _, rfl, ?_⟩
    by_cases e : r = .no
    · subst e
      refine iteT ?_
      have fin : ∀ kvs', kvs'.length ≤ c → (∀ j : Int, valV kvs' (Sum.inl j : Key) = if (Sum.inl j : Key) = Sum.inl n then none else valV kvs (Sum.inl j : Key)) → Q V.non (upd H d (.dK kvs')) := fun kvs' hl hval => by
        have ts : TupSame H (upd H d (.dK kvs')) := fun b xs e => by rw [upd_ne (ne_of e h2 (by intro z; cases z))]; exact e
        refine k _ ⟨⟨dx, u, by rw [upd_ne npd]; exact h1, hw.tmono ts⟩, ⟨kvs', upd_same, Nat.le_succ_of_le hl, fun j => ?_⟩⟩ fun b o e hp hd => by rw [upd_ne hd]; exact e
        rw [hval j]
        by_cases ej : j = n
        · subst ej
          rw [DS.hold_rt, DS.hold_nm, if_pos rfl]
          unfold CopyAt
          rw [if_pos rfl]
        · have := (h4 j).tmono ts
          rw [if_neg (fun z => ej (Sum.inl.inj z)), DS.hold_rt' _ _ _ ej, DS.hold_nm' _ _ _ ej]
          exact this
      refine ⟨_, rfl, p, _, dx, _, _, rfl, h1, T.c_Desk, T.na_Desk_copies, flds_copies _ _, d, rfl, .inl ⟨kvs, .inl h2⟩, _, rfl, kvs, Sum.inl n, h2, rfl, fun v' hv' => ?_, fun hn => ?_⟩
      · exact fin _ (Nat.le_trans (dropK_le _ _) h3) fun j => valV_drop
      · have q := fin kvs h3 fun j => by
          by_cases ej : (Sum.inl j : Key) = Sum.inl n
          · rw [if_pos ej, ej]; exact hn
          · rw [if_neg ej]
        have eq : upd H d (.dK kvs) = H := by
          funext b
          by_cases hb : b = d
          · rw [hb, upd_same, h2]
          · rw [upd_ne hb]
        rw [eq] at q
        exact q
    · refine iteFb (rt_ne (x := "none") (q := .no) rfl e) ?_
      have hv' : v = .int z := hv.resolve_left e
      subst hv'
      refine ⟨_, rfl, _, rfl, (by show 2 ≤ sizeLine; decide), fun tt htt => ?_⟩
      have ntd : d ≠ tt := ne_of_none h2 htt
      have ntp : p ≠ tt := ne_of_none h1 htt
      refine ⟨_, rfl, p, _, dx, _, _, rfl, (by rw [upd_ne ntp]; exact h1), T.c_Desk, T.na_Desk_copies, flds_copies _ _, _, rfl, d, _, rfl, DPut.k (k := Sum.inl n) (by rw [upd_ne ntd]; exact h2) (Nat.lt_of_le_of_lt (Nat.le_trans h3 hc) (by decide)), ?_⟩
      have ts : TupSame H (upd (upd H tt (.tup [.str r.s, .int z])) d (.dK (putK kvs (Sum.inl n) (.ref tt)))) := fun b xs e => by
        rw [upd_ne (ne_of e h2 (by intro z; cases z)), upd_ne (ne_of_none e htt)]
        exact e
      refine k _ ⟨⟨dx, u, by rw [upd_ne npd, upd_ne ntp]; exact h1, hw.tmono ts⟩, ⟨_, upd_same, Nat.le_trans (length_putK _ _ _) (Nat.succ_le_succ h3), fun j => ?_⟩⟩ fun b o e hp hd => by rw [upd_ne hd, upd_ne (ne_of_none e htt)]; exact e
      rw [valV_put]
      by_cases ej : j = n
      · subst ej
        rw [DS.hold_rt, DS.hold_nm, if_pos rfl]
        unfold CopyAt
        rw [if_neg e]
        exact ⟨tt, rfl, by rw [upd_ne ntd.symm, upd_same]⟩
      · have := (h4 j).tmono ts
        rw [if_neg (fun z => ej (Sum.inl.inj z)), DS.hold_rt' _ _ _ ej, DS.hold_nm' _ _ _ ej]
        exact this
end
end K07
namespace K07
open PySem L2
section
variable {P : Program} {w : World} {K : PySem.W.Frag} {mg : Str → Option Value} {base : Heap} {t : Adr}
theorem DeskAt.new {C : Addr} {H : Hp} {p d a : Addr} {o : HO} {S : DS} {c : Nat} (D : DeskAt C H p d S c) (h : H a = none) : DeskAt C (upd H a o) p d S c := D.same (same_new h)
/-- the copy that a desk may look at -/
theorem DeskAt.copy {C : Addr} {H : Hp} {p d : Addr} {S : DS} {c : Nat} (D : DeskAt C H p d S c) {n : Int} (h : S.rt n ≠ .no) : ∃ kvs tt, H d = some (.dK kvs) ∧ valV kvs (Sum.inl n : Key) = some (.ref tt) ∧ H tt = some (.tup [.str (S.rt n).s, .int (S.nm n)]) := by
  obtain ⟨_, ⟨kvs, h2, _, h4⟩⟩ := D
  have h5 := h4 n
  unfold CopyAt at h5
  rw [if_neg h] at h5
  obtain ⟨tt, e1, e2⟩ := h5
  exact ⟨kvs, tt, h2, e1, e2⟩
theorem DS.ok_no {S : DS} {w : W} (h : S.ok w) : S.rt w.pg ≠ .no := fun e => by
  unfold DS.ok at h
  rw [e] at h
  cases w <;> simp [W.need, Rt.k] at h
theorem DS.done_rt (S : DS) (w : W) (q : Int) : (S.done w).rt q = S.rt q := by
  cases w with
  | look p => rfl
  | put p n => show (if q = p then S.rt p else S.rt q) = S.rt q; split <;> simp_all
theorem DS.done_nm (S : DS) (w : W) : (S.done w).nm w.pg = S.num w := by
  cases w with
  | look p => rfl
  | put p n => show (if p = p then n else S.nm p) = n; rw [if_pos rfl]
theorem ok_Desk_do_wish (T : Txt K w mg t) : FnOk P w K mg base CX0 2 t.f_Desk_do_wish t.fd_Desk_do_wish ["self", "wish"] (spDo t.C_Desk) := by
  refine T.F_Desk_do_wish.ok sc_Desk_do_wish (fun vs H Q E h => ?_) (fun cdv A outer s H vs Q E hr h => ?_)
  · obtain ⟨p, d, S, c, a, w, rfl, _⟩ := h; rfl
  · obtain ⟨p, d, S, c, a, w, rfl, DA, hc, ha, hok, k⟩ := h
    have hu := hu_of hr
    obtain ⟨⟨dx, v, h1, _⟩, _⟩ := id DA
    refine ⟨_, (pss_cons (ps_set (i := 2) sc_Desk_do_wish.nd rfl (Or.inl rfl) (pe_ix ix_tup (pv 1) pe_int (fun _ _ => rfl)))
      (pss_cons (ps_if (pt_cmpR op_eq (pe_ix ix_tup (pv 1) pe_int (fun _ _ => rfl)) pe_str (nomark _)) (pss_one (ps_expr (pe_meth (pv 0) T.c_Desk T.mt_Desk_hold (ok_Desk_hold T) (hr.mono (by decide) : Room 1 _) T.b_Desk_hold .nil pass0 (pa_cons (pv 2) (pa_cons (pe_meth (pv 0) T.c_Desk T.mt_Desk_right_of (ok_Desk_right_of T) (hr.mono (by decide) : Room 1 _) T.b_Desk_right_of .nil pass0 (pa_cons (pv 2) pa_nil)) (pa_cons (pe_ix ix_tup (pv 1) pe_int (fun _ _ => rfl)) pa_nil)))))) pss_nil)
      (pss_one (ps_ret (pe_tup (pa_cons (pe_ix ix_tup (pv 1) pe_int (fun _ _ => rfl)) (pa_cons (pv 2) (pa_cons (pe_ix ix_tup (pe_dget hu (pe_fld (pv 0) (by rfl)) (pv 2) (fun _ _ => rfl)) pe_int (fun _ _ => rfl)) pa_nil)))))))), ?_⟩
    -- page = wish[1]; if wish[0] == 'put'
    refine ⟨_, rfl, a, _, 1, _, rfl, rfl, SqT.of ha, W.at1 w, _, rfl, a, _, 0, _, rfl, rfl, SqT.of ha, W.at0 w, rfl, _, rfl, ?_⟩
    -- return (wish[0], page, self.copies[page][1])
    have fin : ∀ H1 : Hp, DeskAt t.C_Desk H1 p d (S.done w) (c + 1) → DF H H1 p d →
        (tRet (tTup (tCons (tOp (rIxT K) (tVar 1) (tC (.int 0))) (tCons (tVar 2) (tCons (tOp (rIxT K) (tDGet (tFld K (tVar 0) "copies") (tVar 2)) (tC (.int 1))) tNil)))))
          { nx := fun _ H' => Q .non H', rt := Q } [some (.ref p), some (.ref a), some (.int w.pg)] H1 := fun H1 D1 f1 => by
      have ha1 := (f1.tups DA) a _ ha
      obtain ⟨⟨dx1, v1, g1, _⟩, _⟩ := id D1
      have hno : (S.done w).rt w.pg ≠ .no := by rw [DS.done_rt]; exact DS.ok_no hok
      obtain ⟨kvs, tt, h2, e1, e2⟩ := D1.copy hno
      refine ⟨_, rfl, a, _, 0, _, rfl, rfl, SqT.of ha1, W.at0 w, _, rfl, _, rfl, p, _, dx1, _, _, rfl, g1, T.c_Desk, T.na_Desk_copies, flds_copies _ _, _, rfl, d, .ref tt, rfl, (by rw [← e1]; exact DGet.k (k := Sum.inl w.pg) h2), tt, _, 1, .int (S.num w), rfl, rfl, SqT.of e2, (by rw [DS.done_nm]; rfl), (by show 3 ≤ sizeLine; decide), fun u hu => ?_⟩
      exact k u _ (D1.new hu) (f1.trans (DF.new hu)) upd_same
    cases w with
    | look q =>
      refine iteFb (vs_ne (show ("look" : Str) ≠ "put" by decide +kernel)) ?_
      exact fin H (DA.mono (Nat.le_succ _)) (DF.refl _ _ _)
    | put q n =>
      refine iteTb vs_eq ?_
      refine ⟨_, rfl, p, dx, _, rfl, h1, flds_no _ _ (by decide +kernel) (by decide +kernel), _, rfl, _, rfl, p, dx, _, rfl, h1, flds_no _ _ (by decide +kernel) (by decide +kernel), _, rfl, p, d, S, c, q, rfl, DA, _, rfl, a, _, 2, _, rfl, rfl, SqT.of ha, rfl, p, d, S, c, q, S.rt q, n, .int n, rfl, DA, hc, .inr rfl, fun H1 D1 f1 => ?_⟩
      exact fin H1 D1 f1
theorem ok_Desk_take_loan (T : Txt K w mg t) : FnOk P w K mg base CX0 3 t.f_Desk_take_loan t.fd_Desk_take_loan ["self", "page", "right", "number"] (spLoan t.C_Desk) := by
  refine T.F_Desk_take_loan.ok sc_Desk_take_loan (fun vs H Q E h => ?_) (fun cdv A outer s H vs Q E hr h => ?_)
  · obtain ⟨p, d, S, c, n, r, z, rfl, _⟩ := h; rfl
  · obtain ⟨p, d, S, c, n, r, z, rfl, DA, hc, k⟩ := h
    have hu := hu_of hr
    obtain ⟨⟨dx, v, h1, _⟩, _⟩ := id DA
    refine ⟨_, (pss_cons (ps_expr (pe_meth (pv 0) T.c_Desk T.mt_Desk_hold (ok_Desk_hold T) (hr.mono (by decide) : Room 1 _) T.b_Desk_hold .nil pass0 (pa_cons (pv 1) (pa_cons (pv 2) (pa_cons (pv 3) pa_nil)))))
      (pss_cons (ps_set (i := 4) sc_Desk_take_loan.nd rfl (Or.inl rfl) (pe_fld (pv 0) (by rfl)))
      (pss_cons (ps_if (PW.pt (pw_or (pt_cmp (pc_isN (pv 4))) (pw_or (pt_cmpR op_ne (pe_ix ix_tup (pv 4) pe_int (fun _ _ => rfl)) (pv 1) (nomark _)) (pw_or1 (pt_not (pt_val (pe_meth (pv 0) T.c_Desk T.mt_Desk_may_do (ok_Desk_may_do T) (hr.mono (by decide) : Room 2 _) T.b_Desk_may_do .nil pass0 (pa_cons (pv 4) pa_nil)))))))) (pss_one (ps_ret (pe_lst pa_nil))) pss_nil)
      (pss_cons (ps_fld (pv 0) pe_non (by rfl))
      (pss_one (ps_ret (pe_lst (pa_cons (pe_meth (pv 0) T.c_Desk T.mt_Desk_do_wish (ok_Desk_do_wish T) (hr.mono (by decide) : Room 2 _) T.b_Desk_do_wish .nil pass0 (pa_cons (pv 4) pa_nil)) pa_nil)))))))), ?_⟩
    -- self.hold(page, right, number)
    refine ⟨_, rfl, p, dx, _, rfl, h1, flds_no _ _ (by decide +kernel) (by decide +kernel), _, rfl, _, rfl, _, rfl, p, d, S, c, n, r, z, .int z, rfl, DA, by omega, .inr rfl, fun H1 D1 f1 => ?_⟩
    obtain ⟨⟨dx1, v1, g1, gw⟩, ⟨kvs1, g2, g3, g4⟩⟩ := id D1
    have npd := D1.npd
    -- wish = self.wish
    refine ⟨_, rfl, p, _, dx1, _, _, rfl, g1, T.c_Desk, T.na_Desk_wish, flds_wish _ _, ?_⟩
    have gw' : WishAt H1 v1 S.ws := gw
    have none_ : (S.loan n r z).2 = [] → (S.loan n r z).1 = S.hold n r z → ∀ l, H1 l = none → Q (.ref l) (upd H1 l (.lst [])) := fun e1 e2 l hl => by
      refine k _ _ ?_ (f1.trans (DF.new hl)) ?_
      · rw [e2]; exact (D1.new hl).mono (Nat.le_succ _)
      · rw [e1]; exact repF_lst ((f1.kept DA D1).free hl) hl (by simp only [RepL])
    cases hws : S.ws with
    | none =>
      rw [hws] at gw'
      have ev : v1 = .non := gw'
      subst ev
      have e : S.loan n r z = (S.hold n r z, []) := by unfold DS.loan; rw [hws]
      refine ⟨_, rfl, _, rfl, ?_⟩
      refine iteTb rfl (iteT ?_)
      exact ⟨(by show 0 ≤ sizeLine; decide), fun l hl => none_ (by rw [e]) (by rw [e]) l hl⟩
    | some w =>
      rw [hws] at gw'
      obtain ⟨a, ev, ha⟩ := gw'
      subst ev
      refine ⟨_, rfl, _, rfl, ?_⟩
      refine iteFb (decide_eq_false fun z => by cases z) ?_
      refine ⟨_, rfl, a, _, 1, _, rfl, rfl, SqT.of ha, W.at1 w, _, rfl, rfl, _, rfl, ?_⟩
      by_cases epg : w.pg = n
      · refine iteFb (by rw [epg]; simp) ?_
        refine ⟨_, rfl, p, dx1, _, rfl, g1, flds_no _ _ (by decide +kernel) (by decide +kernel), _, rfl, p, d, _, _, a, w, rfl, D1, ha, _, rfl, ?_⟩
        by_cases hok : (S.hold n r z).ok w
        · refine iteFb (by rw [decide_eq_true hok]; rfl) ?_
          -- self.wish = None
          refine ⟨_, rfl, p, _, dx1, _, rfl, g1, T.c_Desk, T.na_Desk_wish, (by rw [flds_len]; show 2 < 1000; decide), ?_⟩
          rw [flds_put]
          have D2 : DeskAt t.C_Desk (upd H1 p (.ins t.C_Desk dx1 (flds d .non))) p d ({ S.hold n r z with ws := none }) (c + 1) := by
            have ts : TupSame H1 (upd H1 p (.ins t.C_Desk dx1 (flds d .non))) := fun b xs e => by rw [upd_ne (ne_of e g1 (by intro z; cases z))]; exact e
            exact ⟨⟨dx1, .non, upd_same, rfl⟩, ⟨kvs1, by rw [upd_ne npd.symm]; exact g2, g3, fun j => (g4 j).tmono ts⟩⟩
          have f2 : DF H1 (upd H1 p (.ins t.C_Desk dx1 (flds d .non))) p d := fun b o e hp hd => by rw [upd_ne hp]; exact e
          have ha2 := (f2.tups D1) a _ ha
          obtain ⟨⟨dx2, v2, k1, _⟩, _⟩ := id D2
          refine ⟨_, rfl, p, dx2, _, rfl, k1, flds_no _ _ (by decide +kernel) (by decide +kernel), _, rfl, p, d, _, _, a, w, rfl, D2, by omega, ha2, hok, fun u H3 D3 f3 hu3 => ?_⟩
          refine ⟨(by show 1 ≤ sizeLine; decide), fun l hl => ?_⟩
          have e : S.loan n r z = (({ S.hold n r z with ws := none } : DS).done w, [.t [.s w.tag, .i w.pg, .i ((S.hold n r z).num w)]]) := by
            unfold DS.loan
            rw [hws]
            dsimp only
            rw [if_pos ⟨epg, hok⟩]
          refine k _ _ ?_ ((f1.trans f2).trans (f3.trans (DF.new hl))) ?_
          · rw [e]; exact D3.new hl
          · rw [e]
            have k3 := ((f1.trans f2).trans f3).kept DA D3
            refine repF_lst (k3.free hl) hl ?_
            simp only [RepL, Rep]
            refine ⟨_, _, rfl, ⟨u, _, rfl, nw_of hu3 (k3.tup hu3), _, _, rfl, rfl, _, _, rfl, rfl, _, _, rfl, ?_, rfl⟩, rfl⟩
            cases w <;> rfl
        · refine iteTb (by rw [decide_eq_false hok]; rfl) ?_
          have e : S.loan n r z = (S.hold n r z, []) := by
            unfold DS.loan
            rw [hws]
            dsimp only
            rw [if_neg fun q => hok q.2]
          exact ⟨(by show 0 ≤ sizeLine; decide), fun l hl => none_ (by rw [e]) (by rw [e]) l hl⟩
      · refine iteTb (by rw [decide_eq_false fun z => epg (V.int.inj z)]; rfl) (iteT ?_)
        have e : S.loan n r z = (S.hold n r z, []) := by
          unfold DS.loan
          rw [hws]
          dsimp only
          rw [if_neg fun q => epg q.1]
        exact ⟨(by show 0 ≤ sizeLine; decide), fun l hl => none_ (by rw [e]) (by rw [e]) l hl⟩
end
end K07
namespace K07
open PySem L2
section
variable {P : Program} {w : World} {K : PySem.W.Frag} {mg : Str → Option Value} {base : Heap} {t : Adr}
theorem rep_tell (H : Hp) (S : DS) (n : Int) : Rep H (S.tell n) (tellD (S.tell n)) := by
  unfold DS.tell
  split <;> simp [Rep, tellD]
theorem ok_Desk_go_down (T : Txt K w mg t) : FnOk P w K mg base CX0 3 t.f_Desk_go_down t.fd_Desk_go_down ["self", "page", "right"] (spDown t.C_Desk) := by
  refine T.F_Desk_go_down.ok sc_Desk_go_down (fun vs H Q E h => ?_) (fun cdv A outer s H vs Q E hr h => ?_)
  · obtain ⟨p, d, S, c, n, r, rfl, _⟩ := h; rfl
  · obtain ⟨p, d, S, c, n, r, rfl, DA, hc, k⟩ := h
    have hu := hu_of hr
    obtain ⟨⟨dx, v, h1, _⟩, _⟩ := id DA
    refine ⟨_, (pss_cons (ps_set (i := 3) sc_Desk_go_down.nd rfl (Or.inl rfl) (pe_meth (pv 0) T.c_Desk T.mt_Desk_number_to_tell (ok_Desk_number_to_tell T) (hr.mono (by decide) : Room 2 _) T.b_Desk_number_to_tell .nil pass0 (pa_cons (pv 1) pa_nil)))
      (pss_cons (ps_if (pt_not (pt_val (pe_call (ok_is_enough T) (hr.mono (by decide) : Room 1 _) (by rfl) T.m_is_enough T.F_is_enough.kp T.b_is_enough .nil pass0 (pa_cons (pv 2) (pa_cons (pe_meth (pv 0) T.c_Desk T.mt_Desk_right_of (ok_Desk_right_of T) (hr.mono (by decide) : Room 1 _) T.b_Desk_right_of .nil pass0 (pa_cons (pv 1) pa_nil)) pa_nil))))) (pss_one (ps_expr (pe_meth (pv 0) T.c_Desk T.mt_Desk_hold (ok_Desk_hold T) (hr.mono (by decide) : Room 1 _) T.b_Desk_hold .nil pass0 (pa_cons (pv 1) (pa_cons (pv 2) (pa_cons (pe_ix ix_tup (pe_dget hu (pe_fld (pv 0) (by rfl)) (pv 1) (fun _ _ => rfl)) pe_int (fun _ _ => rfl)) pa_nil)))))) pss_nil)
      (pss_one (ps_ret (pe_call (ok_answer_letter T) (hr.mono (by decide) : Room 1 _) (by rfl) T.m_answer_letter T.F_answer_letter.kp T.b_answer_letter .nil pass0 (pa_cons (pv 1) (pa_cons (pv 3) pa_nil))))))), ?_⟩
    refine ⟨_, rfl, p, dx, _, rfl, h1, flds_no _ _ (by decide +kernel) (by decide +kernel), _, rfl, p, d, S, c, n, rfl, DA, ?_⟩
    refine ⟨_, rfl, _, rfl, p, dx, _, rfl, h1, flds_no _ _ (by decide +kernel) (by decide +kernel), _, rfl, p, d, S, c, n, rfl, DA, r, S.rt n, rfl, _, rfl, ?_⟩
    have fin : ∀ H1 : Hp, DeskAt t.C_Desk H1 p d (S.down n r) (c + 1) → DF H H1 p d → ∀ a, H1 a = none → Q (.ref a) (upd H1 a (.tup [.str "answer", .int n, S.tell n])) := fun H1 D1 f1 a ha => by
      refine k _ _ ((D1.new ha).mono (Nat.le_succ _)) (f1.trans (DF.new ha)) (rep_tup ha ?_)
      simp only [RepL]
      exact ⟨_, _, rfl, by simp only [Rep], _, _, rfl, by simp only [Rep], _, _, rfl, rep_tell _ _ _, rfl⟩
    by_cases e : (S.rt n).k ≤ r.k
    · refine iteFb (by rw [decide_eq_true e]; rfl) ?_
      exact ⟨_, rfl, _, rfl, _, _, rfl, fin H (by unfold DS.down; rw [if_pos e]; exact DA.mono (Nat.le_succ _)) (DF.refl _ _ _)⟩
    · refine iteTb (by rw [decide_eq_false e]; rfl) ?_
      have hno : S.rt n ≠ .no := fun z => by rw [z] at e; cases r <;> simp [Rt.k] at e
      obtain ⟨kvs, tt, h2, e1, e2⟩ := DA.copy hno
      refine ⟨_, rfl, p, dx, _, rfl, h1, flds_no _ _ (by decide +kernel) (by decide +kernel), _, rfl, _, rfl, _, rfl, p, _, dx, _, _, rfl, h1, T.c_Desk, T.na_Desk_copies, flds_copies _ _, _, rfl, d, .ref tt, rfl, (by rw [← e1]; exact DGet.k (k := Sum.inl n) h2), tt, _, 1, _, rfl, rfl, SqT.of e2, rfl, p, d, S, c, n, r, S.nm n, .int (S.nm n), rfl, DA, by omega, .inr rfl, fun H1 D1 f1 => ?_⟩
      exact ⟨_, rfl, _, rfl, _, _, rfl, fin H1 (by unfold DS.down; rw [if_neg e]; exact D1) f1⟩
theorem ok_Desk_take (T : Txt K w mg t) : FnOk P w K mg base CX0 4 t.f_Desk_take t.fd_Desk_take ["self", "letter"] (spTake t.C_Desk) := by
  refine T.F_Desk_take.ok sc_Desk_take (fun vs H Q E h => ?_) (fun cdv A outer s H vs Q E hr h => ?_)
  · obtain ⟨p, d, S, c, a, l, rfl, _⟩ := h; rfl
  · obtain ⟨p, d, S, c, a, l, rfl, DA, hc, ha, k⟩ := h
    have hu := hu_of hr
    obtain ⟨⟨dx, v, h1, _⟩, _⟩ := id DA
    refine ⟨_, (pss_cons (ps_if (pt_cmpR op_eq (pe_ix ix_tup (pv 1) pe_int (fun _ _ => rfl)) pe_str (nomark _)) (pss_one (ps_ret (pe_tup (pa_cons (pe_meth (pv 0) T.c_Desk T.mt_Desk_take_loan (ok_Desk_take_loan T) (hr.mono (by decide) : Room 3 _) T.b_Desk_take_loan .nil pass0 (pa_cons (pe_ix ix_tup (pv 1) pe_int (fun _ _ => rfl)) (pa_cons (pe_ix ix_tup (pv 1) pe_int (fun _ _ => rfl)) (pa_cons (pe_ix ix_tup (pv 1) pe_int (fun _ _ => rfl)) pa_nil)))) (pa_cons (pe_lst pa_nil) pa_nil))))) pss_nil)
      (pss_one (ps_ret (pe_tup (pa_cons (pe_lst pa_nil) (pa_cons (pe_lst (pa_cons (pe_meth (pv 0) T.c_Desk T.mt_Desk_go_down (ok_Desk_go_down T) (hr.mono (by decide) : Room 3 _) T.b_Desk_go_down .nil pass0 (pa_cons (pe_ix ix_tup (pv 1) pe_int (fun _ _ => rfl)) (pa_cons (pe_ix ix_tup (pv 1) pe_int (fun _ _ => rfl)) pa_nil))) pa_nil)) pa_nil)))))), ?_⟩
    cases l with
    | lend n r z =>
      refine ⟨_, rfl, a, _, 0, .str "lend", rfl, rfl, SqT.of ha, rfl, rfl, _, rfl, ?_⟩
      refine iteTb vs_eq ?_
      refine ⟨_, rfl, p, dx, _, rfl, h1, flds_no _ _ (by decide +kernel) (by decide +kernel), _, rfl, a, _, 1, .int n, rfl, rfl, SqT.of ha, rfl, _, rfl, a, _, 2, .str r.s, rfl, rfl, SqT.of ha, rfl, _, rfl, a, _, 3, .int z, rfl, rfl, SqT.of ha, rfl, p, d, S, c, n, r, z, rfl, DA, hc, fun v H1 D1 f1 r1 => ?_⟩
      refine ⟨(by show 0 ≤ sizeLine; decide), fun l hl => ⟨(by show 2 ≤ sizeLine; decide), fun u hu => ?_⟩⟩
      refine k _ _ ((D1.new hl).new hu) (f1.trans ((DF.new hl).trans (DF.new hu))) ?_
      have k1 := f1.kept DA D1
      refine repF_tup ((k1.new hl).free hu) hu ?_
      simp only [RepL]
      exact ⟨_, _, rfl, r1.mono (nw_mono (seq_new hl)), _, _, rfl, repF_lst (k1.free hl) hl (by simp only [RepL]), rfl⟩
    | back n r =>
      refine ⟨_, rfl, a, _, 0, .str "back", rfl, rfl, SqT.of ha, rfl, rfl, _, rfl, ?_⟩
      refine iteFb (vs_ne (by decide +kernel)) ?_
      refine ⟨(by show 0 ≤ sizeLine; decide), fun l hl => ?_⟩
      have D0 := DA.new (o := .lst []) hl
      obtain ⟨⟨dx0, v0, h10, _⟩, _⟩ := id D0
      have ha0 : upd H l (.lst []) a = some (.tup (Let.vs (.back n r))) := tup_new hl a _ ha
      refine ⟨_, rfl, p, dx0, _, rfl, h10, flds_no _ _ (by decide +kernel) (by decide +kernel), _, rfl, a, _, 1, .int n, rfl, rfl, SqT.of ha0, rfl, _, rfl, a, _, 2, .str r.s, rfl, rfl, SqT.of ha0, rfl, p, d, S, c, n, r, rfl, D0, hc, fun v H1 D1 f1 r1 => ?_⟩
      refine ⟨(by show 1 ≤ sizeLine; decide), fun l2 hl2 => ⟨(by show 2 ≤ sizeLine; decide), fun u hu => ?_⟩⟩
      refine k _ _ ((D1.new hl2).new hu) ((DF.new hl).trans (f1.trans ((DF.new hl2).trans (DF.new hu)))) ?_
      have k0 : Kept H (upd H l (.lst [])) := (Kept.refl H).new hl
      have k1 : Kept H H1 := ((DF.new hl).trans f1).kept DA D1
      refine repF_tup ((k1.new hl2).free hu) hu ?_
      simp only [RepL]
      have rl : Rep (nw H (upd H l (.lst []))) (.ref l) (.l []) := repF_lst hl hl (by simp only [RepL])
      refine ⟨_, _, rfl, (rl.mono (nw_mono (f1.seqs D0))).mono (nw_mono (seq_new hl2)), _, _, rfl, repF_lst (k1.free hl2) hl2 ?_, rfl⟩
      simp only [RepL]
      refine ⟨_, _, rfl, ?_, rfl⟩
      simp only [Rep, RepL] at r1 ⊢
      obtain ⟨b, xs, e1, e2, e3⟩ := r1
      refine ⟨b, xs, e1, nw_of e2 (k1.tup e2), ?_⟩
      obtain ⟨v1, q1, e4, e5, v2, q2, e6, e7, v3, q3, e8, e9, e10⟩ := e3
      refine ⟨v1, q1, e4, e5, v2, q2, e6, e7, v3, q3, e8, ?_, e10⟩
      unfold DS.tell at e9 ⊢
      split
      · rename_i z; rw [if_pos z] at e9; simpa only [tellD, Rep] using e9
      · rename_i z; rw [if_neg z] at e9; simpa only [tellD, Rep] using e9
theorem ok_Desk_waits (T : Txt K w mg t) : FnOk P w K mg base CX0 1 t.f_Desk_waits t.fd_Desk_waits ["self"] (spWaits t.C_Desk) := by
  refine T.F_Desk_waits.ok sc_Desk_waits (fun vs H Q E h => ?_) (fun cdv A outer s H vs Q E hr h => ?_)
  · obtain ⟨p, d, S, c, rfl, _⟩ := h; rfl
  · obtain ⟨p, d, S, c, rfl, DA, k⟩ := h
    have hu := hu_of hr
    obtain ⟨⟨dx, v, h1, hw⟩, _⟩ := id DA
    refine ⟨_, (pss_one (ps_ret (pe_cmp (pc_notN (pe_fld (pv 0) (by rfl)))))), ?_⟩
    refine ⟨_, rfl, p, _, dx, _, _, rfl, h1, T.c_Desk, T.na_Desk_wish, flds_wish _ _, ?_⟩
    have e : (!decide (v = V.non)) = S.ws.isSome := by
      cases hws : S.ws with
      | none => rw [hws] at hw; have e : v = .non := hw; rw [e]; rfl
      | some w' => rw [hws] at hw; obtain ⟨a, e, _⟩ := hw; rw [e]; rfl
    rw [← e] at k
    exact k
theorem ok_Desk_want (T : Txt K w mg t) : FnOk P w K mg base (CX1 P w) 3 t.f_Desk_want t.fd_Desk_want ["self", "wish"] (spWant t.C_Desk t.C_Waiting) := by
  refine T.F_Desk_want.okX sc_Desk_want (fun vs H Q E h => ?_) (fun cdv A outer s H vs Q E hr h => ?_)
  · obtain ⟨p, d, S, c, a, w, rfl, _⟩ := h; rfl
  · obtain ⟨p, d, S, c, a, w, rfl, DA, hc, ha, k⟩ := h
    have hu := hu_of hr
    obtain ⟨⟨dx, v, h1, hw⟩, ⟨kvs, h2, h3, h4⟩⟩ := id DA
    have npd := DA.npd
    refine ⟨_, (pss_cons (ps_if (pt_val (pe_meth0 (pv 0) T.c_Desk T.mt_Desk_waits (ok_Desk_waits T) (hr.mono (by decide) : Room 1 _) T.b_Desk_waits .nil pass0)) (pss_one (ps_raise T.x_Waiting (by rfl) T.g_Waiting rfl raisesX (pa_cons pe_str pa_nil))) pss_nil)
      (pss_cons (ps_if (pt_val (pe_meth (pv 0) T.c_Desk T.mt_Desk_may_do (ok_Desk_may_do T) (hr.mono (by decide) : Room 2 _) T.b_Desk_may_do .nil pass0 (pa_cons (pv 1) pa_nil))) (pss_one (ps_ret (pe_tup (pa_cons (pe_lst (pa_cons (pe_meth (pv 0) T.c_Desk T.mt_Desk_do_wish (ok_Desk_do_wish T) (hr.mono (by decide) : Room 2 _) T.b_Desk_do_wish .nil pass0 (pa_cons (pv 1) pa_nil)) pa_nil)) (pa_cons (pe_lst pa_nil) pa_nil))))) pss_nil)
      (pss_cons (ps_fld (pv 0) (pv 1) (by rfl))
      (pss_one (ps_ret (pe_tup (pa_cons (pe_lst pa_nil) (pa_cons (pe_lst (pa_cons (pe_call (ok_ask_letter T) (hr.mono (by decide) : Room 1 _) (by rfl) T.m_ask_letter T.F_ask_letter.kp T.b_ask_letter .nil pass0 (pa_cons (pe_ix ix_tup (pv 1) pe_int (fun _ _ => rfl)) (pa_cons (pe_call (ok_right_needed T) (hr.mono (by decide) : Room 1 _) (by rfl) T.m_right_needed T.F_right_needed.kp T.b_right_needed .nil pass0 (pa_cons (pv 1) pa_nil)) pa_nil))) pa_nil)) pa_nil)))))))), ?_⟩
    refine ⟨_, rfl, p, dx, _, rfl, h1, flds_no _ _ (by decide +kernel) (by decide +kernel), p, d, S, c, rfl, DA, _, rfl, ?_⟩
    cases hws : S.ws with
    | some w' =>
      rw [hws] at hw k
      obtain ⟨a', ev, _⟩ := hw
      subst ev
      refine iteT ?_
      exact ⟨(by show 1 ≤ sizeLine; decide), k⟩
    | none =>
      rw [hws] at hw k
      have ev : v = .non := hw
      subst ev
      refine iteF ?_
      refine ⟨_, rfl, p, dx, _, rfl, h1, flds_no _ _ (by decide +kernel) (by decide +kernel), _, rfl, p, d, S, c, a, w, rfl, DA, ha, _, rfl, ?_⟩
      by_cases hok : S.ok w
      · refine iteTb (decide_eq_true hok) ?_
        refine ⟨_, rfl, p, dx, _, rfl, h1, flds_no _ _ (by decide +kernel) (by decide +kernel), _, rfl, p, d, S, c, a, w, rfl, DA, by omega, ha, hok, fun u H1 D1 f1 hu1 => ?_⟩
        refine ⟨(by show 1 ≤ sizeLine; decide), fun l hl => ⟨(by show 0 ≤ sizeLine; decide), fun l2 hl2 => ⟨(by show 2 ≤ sizeLine; decide), fun z hz => ?_⟩⟩⟩
        refine k _ _ ?_ (f1.trans ((DF.new hl).trans ((DF.new hl2).trans (DF.new hz)))) ?_
        · unfold DS.want; rw [if_pos hok]; exact (((D1.new hl).new hl2).new hz).mono (Nat.le_succ _)
        · unfold DS.want
          rw [if_pos hok]
          refine rep_tup hz ?_
          simp only [RepL]
          refine ⟨_, _, rfl, (rep_lst hl ?_).mono (seq_new hl2), _, _, rfl, rep_lst hl2 (by simp only [RepL]), rfl⟩
          simp only [RepL, Rep]
          exact ⟨_, _, rfl, ⟨u, _, rfl, hu1, _, _, rfl, rfl, _, _, rfl, rfl, _, _, rfl, rfl, rfl⟩, rfl⟩
      · refine iteFb (decide_eq_false hok) ?_
        -- self.wish = wish
        refine ⟨_, rfl, _, rfl, p, _, dx, _, rfl, h1, T.c_Desk, T.na_Desk_wish, (by rw [flds_len]; show 2 < 1000; decide), ?_⟩
        rw [flds_put]
        have ts : TupSame H (upd H p (.ins t.C_Desk dx (flds d (.ref a)))) := fun b xs e => by rw [upd_ne (ne_of e h1 (by intro z; cases z))]; exact e
        have ha1 := ts a _ ha
        have D1 : DeskAt t.C_Desk (upd H p (.ins t.C_Desk dx (flds d (.ref a)))) p d { S with ws := some w } c :=
          ⟨⟨dx, .ref a, upd_same, a, rfl, ha1⟩, ⟨kvs, by rw [upd_ne npd.symm]; exact h2, h3, fun j => (h4 j).tmono ts⟩⟩
        have f1 : DF H (upd H p (.ins t.C_Desk dx (flds d (.ref a)))) p d := fun b o e hp hd => by rw [upd_ne hp]; exact e
        refine ⟨(by show 0 ≤ sizeLine; decide), fun l hl => ?_⟩
        have ha2 : upd (upd H p (.ins t.C_Desk dx (flds d (.ref a)))) l (.lst []) a = some (.tup w.vs) := tup_new hl a _ ha1
        refine ⟨_, rfl, a, _, 1, _, rfl, rfl, SqT.of ha2, W.at1 w, _, rfl, a, w, rfl, ha2, _, _, rfl, fun z hz => ?_⟩
        refine ⟨(by show 1 ≤ sizeLine; decide), fun l2 hl2 => ⟨(by show 2 ≤ sizeLine; decide), fun y hy => ?_⟩⟩
        refine k _ _ ?_ (f1.trans ((DF.new hl).trans ((DF.new hz).trans ((DF.new hl2).trans (DF.new hy))))) ?_
        · unfold DS.want; rw [if_neg hok]; exact ((((D1.new hl).new hz).new hl2).new hy).mono (by omega)
        · unfold DS.want
          rw [if_neg hok]
          refine rep_tup hy ?_
          simp only [RepL]
          refine ⟨_, _, rfl, ((rep_lst hl (by simp only [RepL])).mono (seq_new hz)).mono (seq_new hl2), _, _, rfl, rep_lst hl2 ?_, rfl⟩
          simp only [RepL]
          refine ⟨_, _, rfl, rep_tup hz ?_, rfl⟩
          simp only [RepL, Rep]
          exact ⟨_, _, rfl, rfl, _, _, rfl, rfl, _, _, rfl, rfl, rfl⟩
theorem ok_Desk_rest (T : Txt K w mg t) : FnOk P w K mg base (CX1 P w) 3 t.f_Desk_rest t.fd_Desk_rest ["self", "page"] (spRest t.C_Desk t.C_NoCopy) := by
  refine T.F_Desk_rest.okX sc_Desk_rest (fun vs H Q E h => ?_) (fun cdv A outer s H vs Q E hr h => ?_)
  · obtain ⟨p, d, S, c, n, rfl, _⟩ := h; rfl
  · obtain ⟨p, d, S, c, n, rfl, DA, hc, hn, k⟩ := h
    have hu := hu_of hr
    obtain ⟨⟨dx, v, h1, _⟩, _⟩ := id DA
    refine ⟨_, (pss_cons (ps_if (pt_cmpR op_eq (pe_meth (pv 0) T.c_Desk T.mt_Desk_right_of (ok_Desk_right_of T) (hr.mono (by decide) : Room 1 _) T.b_Desk_right_of .nil pass0 (pa_cons (pv 1) pa_nil)) (pe_gstr (by rfl) T.g_NONE) (nomark _)) (pss_one (ps_raise T.x_NoCopy (by rfl) T.g_NoCopy rfl raisesX (pa_cons pe_str pa_nil))) pss_nil)
      (pss_cons (ps_set (i := 2) sc_Desk_rest.nd rfl (Or.inl rfl) (pe_meth (pv 0) T.c_Desk T.mt_Desk_number_to_tell (ok_Desk_number_to_tell T) (hr.mono (by decide) : Room 2 _) T.b_Desk_number_to_tell .nil pass0 (pa_cons (pv 1) pa_nil)))
      (pss_cons (ps_expr (pe_meth (pv 0) T.c_Desk T.mt_Desk_hold (ok_Desk_hold T) (hr.mono (by decide) : Room 1 _) T.b_Desk_hold .nil pass0 (pa_cons (pv 1) (pa_cons (pe_gstr (by rfl) T.g_NONE) (pa_cons pe_non pa_nil)))))
      (pss_one (ps_ret (pe_ifExp (pt_cmp (pc_isN (pv 2))) (pe_lst pa_nil) (pe_lst (pa_cons (pe_call (ok_gave_letter T) (hr.mono (by decide) : Room 1 _) (by rfl) T.m_gave_letter T.F_gave_letter.kp T.b_gave_letter .nil pass0 (pa_cons (pv 1) (pa_cons (pv 2) pa_nil))) pa_nil)))))))), ?_⟩
    refine ⟨_, rfl, p, dx, _, rfl, h1, flds_no _ _ (by decide +kernel) (by decide +kernel), _, rfl, p, d, S, c, n, rfl, DA, rfl, _, rfl, ?_⟩
    by_cases e : S.rt n = .no
    · rw [if_pos e] at k
      rw [e]
      refine iteT ?_
      exact ⟨(by show 1 ≤ sizeLine; decide), k⟩
    · rw [if_neg e] at k
      refine iteFb (rt_ne (x := "none") (q := .no) rfl e) ?_
      refine ⟨_, rfl, p, dx, _, rfl, h1, flds_no _ _ (by decide +kernel) (by decide +kernel), _, rfl, p, d, S, c, n, rfl, DA, ?_⟩
      refine ⟨_, rfl, p, dx, _, rfl, h1, flds_no _ _ (by decide +kernel) (by decide +kernel), _, rfl, p, d, S, c, n, .no, S.nm n, .non, rfl, DA, by omega, .inl rfl, fun H1 D1 f1 => ?_⟩
      refine ⟨_, rfl, _, rfl, ?_⟩
      by_cases ew : S.rt n = .wr
      · have et : S.tell n = .int (S.nm n) := by unfold DS.tell; rw [if_pos ew]
        rw [et]
        refine iteF ?_
        refine ⟨_, rfl, _, rfl, _, _, rfl, fun z hz => ⟨(by show 1 ≤ sizeLine; decide), fun l hl => ?_⟩⟩
        refine k _ _ (((D1.new hz).new hl).mono (Nat.le_succ _)) (f1.trans ((DF.new hz).trans (DF.new hl))) ?_
        unfold DS.rest
        rw [if_pos ew]
        refine rep_lst hl ?_
        simp only [RepL]
        refine ⟨_, _, rfl, rep_tup hz ?_, rfl⟩
        simp only [RepL, Rep]
        exact ⟨_, _, rfl, rfl, _, _, rfl, rfl, _, _, rfl, rfl, rfl⟩
      · have et : S.tell n = .non := by unfold DS.tell; rw [if_neg ew]
        rw [et]
        refine iteT ?_
        refine ⟨(by show 0 ≤ sizeLine; decide), fun l hl => ?_⟩
        refine k _ _ ((D1.new hl).mono (Nat.le_succ _)) (f1.trans (DF.new hl)) ?_
        unfold DS.rest
        rw [if_neg ew]
        exact rep_lst hl (by simp only [RepL])
end
end K07
namespace K07
open PySem L2
def spWhole : Sp := fun vs H Q _ => ∃ k, vs = [.int k] ∧ Q (.bl true) H
def spSame : Sp := fun vs H Q _ => ∃ v u d, vs = [v, u] ∧ Rep H v d ∧ Rep H u d ∧ d.size ≤ 1000000 ∧ ∀ H', Same H H' → Q (.bl true) H'
section
variable {P : Program} {w : World} {K : PySem.W.Frag} {mg : Str → Option Value} {base : Heap} {t : Adr}
theorem ok_l_whole (T : Txt K w mg t) : FnOk P w K mg base CX0 1 t.f_l_whole t.fd_l_whole ["_law_found"] spWhole := by
  refine T.F_l_whole.ok sc_l_whole (fun vs H Q E h => ?_) (fun cdv A outer s H vs Q E hr h => ?_)
  · obtain ⟨k, rfl, _⟩ := h; rfl
  · obtain ⟨k, rfl, q⟩ := h
    refine ⟨_, (pss_one (ps_ret (pe_and (pe_callB call_isi (by rfl) T.n_isinstance PyProof.Rows.Boot.«isinstance» (pa_cons (pv 0) (pa_cons (pe_bty (by rfl) T.n_int PyProof.Rows.Boot.«int») pa_nil))) (pe_one (pe_not (pe_callB call_isi (by rfl) T.n_isinstance PyProof.Rows.Boot.«isinstance» (pa_cons (pv 0) (pa_cons (pe_bty (by rfl) T.n_bool PyProof.Rows.Boot.«bool») pa_nil)))))))), ?_⟩
    refine ⟨_, rfl, _, _, .type "int", true, rfl, .int _, .inl ⟨_, rfl, kit_ii⟩, _, rfl, iteT ?_⟩
    exact ⟨_, rfl, _, _, .type "int", false, rfl, .int _, .inl ⟨_, rfl, kit_ib⟩, _, rfl, q⟩
/-- the type of a datum -/
theorem same_tyOf {H : Hp} {v : V} : ∀ {d : D}, Rep H v d → (d = .n ∧ v = .non) ∨ (∃ k, d = .i k ∧ v = .int k) ∨ (∃ x, d = .s x ∧ v = .str x) ∨ (∃ ds a xs, d = .t ds ∧ v = .ref a ∧ H a = some (.tup xs) ∧ RepL H xs ds) ∨ (∃ ds a xs, d = .l ds ∧ v = .ref a ∧ H a = some (.lst xs) ∧ RepL H xs ds)
  | .n, r => by simp only [Rep] at r; exact .inl ⟨rfl, r⟩
  | .i k, r => by simp only [Rep] at r; exact .inr (.inl ⟨k, rfl, r⟩)
  | .s x, r => by simp only [Rep] at r; exact .inr (.inr (.inl ⟨x, rfl, r⟩))
  | .t ds, r => by simp only [Rep] at r; obtain ⟨a, xs, h1, h2, h3⟩ := r; exact .inr (.inr (.inr (.inl ⟨ds, a, xs, rfl, h1, h2, h3⟩)))
  | .l ds, r => by simp only [Rep] at r; obtain ⟨a, xs, h1, h2, h3⟩ := r; exact .inr (.inr (.inr (.inr ⟨ds, a, xs, rfl, h1, h2, h3⟩)))
theorem pop_last {α : Type} (xs : List α) (x : α) : (xs ++ [x])[(xs ++ [x]).length - 1]? = some x := by simp
theorem pop_drop {α : Type} (xs : List α) (x : α) : (xs ++ [x]).dropLast = xs := by simp
set_option maxHeartbeats 8000000 in
theorem ok_l_same (T : Txt K w mg t) : FnOk P w K mg base CX0 2 t.f_l_same t.fd_l_same ["_law_found", "_law_due"] spSame := by
  refine T.F_l_same.ok sc_l_same (fun vs H Q E h => ?_) (fun cdv A outer s H vs Q E hr h => ?_)
  · obtain ⟨v, u, d, rfl, _⟩ := h; rfl
  · obtain ⟨v, u, d, rfl, rv, ru, hsz, k⟩ := h
    refine ⟨_, (pss_cons (ps_set (i := 2) sc_l_same.nd rfl (Or.inl rfl) (pe_lst (pa_cons (pv 0) pa_nil)))
      (pss_cons (ps_set (i := 3) sc_l_same.nd rfl (Or.inl rfl) (pe_lst (pa_cons (pv 1) pa_nil)))
      (pss_cons (ps_while PassesOwn.never (pt_cmpR (op_neNil hr.units0) (pv 3) (pe_lst pa_nil) (nomark _)) (pss_cons (ps_set (i := 4) sc_l_same.nd rfl (Or.inl rfl) (pe_bm0 PySem.F.plainAttrs_list PySem.F.slot_list_pop PySem.F.type_list_pop mt_pop (pv 2)))
      (pss_cons (ps_set (i := 5) sc_l_same.nd rfl (Or.inl rfl) (pe_bm0 PySem.F.plainAttrs_list PySem.F.slot_list_pop PySem.F.type_list_pop mt_pop (pv 3)))
      (pss_one (ps_if (pt_val (pe_callB call_isi (by rfl) T.n_isinstance PyProof.Rows.Boot.«isinstance» (pa_cons (pv 5) (pa_cons (pe_tup (pa_cons (pe_bty (by rfl) T.n_list PyProof.Rows.Boot.«list») (pa_cons (pe_bty (by rfl) T.n_tuple PyProof.Rows.Boot.«tuple») pa_nil))) pa_nil)))) (pss_cons (ps_if (pt_cmpR op_ne (pe_callB call_isi (by rfl) T.n_isinstance PyProof.Rows.Boot.«isinstance» (pa_cons (pv 4) (pa_cons (pe_bty (by rfl) T.n_list PyProof.Rows.Boot.«list») pa_nil))) (pe_callB call_isi (by rfl) T.n_isinstance PyProof.Rows.Boot.«isinstance» (pa_cons (pv 5) (pa_cons (pe_bty (by rfl) T.n_list PyProof.Rows.Boot.«list») pa_nil))) (nomark _)) (pss_one (ps_ret pe_bl)) pss_nil)
      (pss_cons (ps_if (PW.pt (pw_or (pt_cmpR op_ne (pe_callB call_isi (by rfl) T.n_isinstance PyProof.Rows.Boot.«isinstance» (pa_cons (pv 4) (pa_cons (pe_bty (by rfl) T.n_tuple PyProof.Rows.Boot.«tuple») pa_nil))) (pe_callB call_isi (by rfl) T.n_isinstance PyProof.Rows.Boot.«isinstance» (pa_cons (pv 5) (pa_cons (pe_bty (by rfl) T.n_tuple PyProof.Rows.Boot.«tuple») pa_nil))) (nomark _)) (pw_or1 (pt_cmpR op_ne (pe_callB call_len_seq (by rfl) T.n_len PySem.boot_len (pa_cons (pv 4) pa_nil)) (pe_callB call_len_seq (by rfl) T.n_len PySem.boot_len (pa_cons (pv 5) pa_nil)) (nomark _))))) (pss_one (ps_ret pe_bl)) pss_nil)
      (pss_cons (ps_expr (pe_bm PySem.F.plainAttrs_list PySem.F.slot_list_extend PySem.F.type_list_extend mt_extendS (pv 2) (pa_cons (pv 4) pa_nil)))
      (pss_one (ps_expr (pe_bm PySem.F.plainAttrs_list PySem.F.slot_list_extend PySem.F.type_list_extend mt_extendS (pv 3) (pa_cons (pv 5) pa_nil))))))) (pss_one (ps_if (pt_cmp (pc_isN (pv 5))) (pss_one (ps_if (pt_cmp (pc_notN (pv 4))) (pss_one (ps_ret pe_bl)) pss_nil)) (pss_one (ps_if (pt_val (pe_callB call_isi (by rfl) T.n_isinstance PyProof.Rows.Boot.«isinstance» (pa_cons (pv 5) (pa_cons (pe_bty (by rfl) T.n_str PyProof.Rows.Boot.«str») pa_nil)))) (pss_one (ps_if (PW.pt (pw_or (pt_not (pt_val (pe_callB call_isi (by rfl) T.n_isinstance PyProof.Rows.Boot.«isinstance» (pa_cons (pv 4) (pa_cons (pe_bty (by rfl) T.n_str PyProof.Rows.Boot.«str») pa_nil))))) (pw_or1 (pt_cmpR op_ne (pv 4) (pv 5) (nomark _))))) (pss_one (ps_ret pe_bl)) pss_nil)) (pss_one (ps_if (PW.pt (pw_or (pt_not (pt_val (pe_call (ok_l_whole T) (hr.mono (by decide) : Room 1 _) (by rfl) T.m_l_whole T.F_l_whole.kp T.b_l_whole .nil pass0 (pa_cons (pv 4) pa_nil)))) (pw_or1 (pt_cmpR op_ne (pv 4) (pv 5) (nomark _))))) (pss_one (ps_ret pe_bl)) pss_nil)))))))))))
      (pss_one (ps_ret pe_bl))))), ?_⟩
    refine ⟨_, rfl, (by show 1 ≤ sizeLine; decide), fun L hL => ⟨_, rfl, (by show 1 ≤ sizeLine; decide), fun R hR => ?_⟩⟩
    have nLR : L ≠ R := fun e => by subst e; rw [upd_same] at hR; cases hR
    have hR0 : H R = none := by rw [upd_ne nLR.symm] at hR; exact hR
    refine ⟨fun m σ H2 => ∃ ds xs ys o1 o2, σ = [some v, some u, some (.ref L), some (.ref R), o1, o2] ∧ Same H H2 ∧ H2 L = some (.lst xs) ∧ H2 R = some (.lst ys) ∧ RepL H xs ds ∧ RepL H ys ds ∧ m = D.sizes ds ∧ D.sizes ds ≤ 1000000,
      ⟨_, [d], [v], [u], none, none, rfl, (same_new hL).trans (same_new hR), (by rw [upd_ne nLR, upd_same]), upd_same, by simp only [RepL]; exact ⟨v, [], rfl, rv, rfl⟩, by simp only [RepL]; exact ⟨u, [], rfl, ru, rfl⟩, rfl, by simp only [D.sizes]; omega⟩, ?_⟩
    rintro m σ H2 ⟨ds, xs, ys, o1, o2, rfl, s2, gL, gR, rx, ry, rfl, hb⟩
    -- while _law_right != []
    refine ⟨_, rfl, (by show 0 ≤ sizeLine; decide), fun e he => ⟨R, e, ys, rfl, rfl, SqL.of (same_new he _ _ gR), SqL.of upd_same, _, rfl, ?_⟩⟩
    have s3 : Same H (upd H2 e (.lst [])) := s2.trans (same_new he)
    have gL3 : upd H2 e (.lst []) L = some (.lst xs) := same_new he _ _ gL
    have gR3 : upd H2 e (.lst []) R = some (.lst ys) := same_new he _ _ gR
    generalize upd H2 e (.lst []) = H3 at s3 gL3 gR3
    clear gL gR s2 he
    rcases List.eq_nil_or_concat ds with rfl | ⟨ds0, dd, rfl⟩
    · simp only [RepL] at ry
      subst ry
      refine iteFb rfl ?_
      exact k H3 s3
    · rw [List.concat_eq_append] at rx ry hb ⊢
      obtain ⟨xs0, x, rfl, rx0, rxl⟩ := RepL.last rx
      obtain ⟨ys0, y, rfl, ry0, ryl⟩ := RepL.last ry
      refine iteTb (by simp) ?_
      refine ⟨fun σ' H' => ∃ m', m' < D.sizes (ds0 ++ [dd]) ∧ ∃ ds xs ys o1 o2, σ' = [some v, some u, some (.ref L), some (.ref R), o1, o2] ∧ Same H H' ∧ H' L = some (.lst xs) ∧ H' R = some (.lst ys) ∧ RepL H xs ds ∧ RepL H ys ds ∧ m' = D.sizes ds ∧ D.sizes ds ≤ 1000000, fun σ' H' z => z, ?_⟩
      -- pop, pop
      refine ⟨_, rfl, .inl ⟨rfl, _, SqL.of gL3⟩, L, _, x, rfl, rfl, gL3, pop_last _ _, ?_⟩
      rw [pop_drop]
      have gR4 : upd H3 L (.lst xs0) R = some (.lst (ys0 ++ [y])) := by rw [upd_ne nLR.symm]; exact gR3
      refine ⟨_, rfl, .inl ⟨rfl, _, SqL.of gR4⟩, R, _, y, rfl, rfl, gR4, pop_last _ _, ?_⟩
      rw [pop_drop]
      have s5 : Same H (upd (upd H3 L (.lst xs0)) R (.lst ys0)) := fun b o hbo => by
        rw [upd_ne (ne_of_none hbo hR0), upd_ne (ne_of_none hbo hL)]
        exact s3 b o hbo
      have gL5 : upd (upd H3 L (.lst xs0)) R (.lst ys0) L = some (.lst xs0) := by rw [upd_ne nLR, upd_same]
      have gR5 : upd (upd H3 L (.lst xs0)) R (.lst ys0) R = some (.lst ys0) := upd_same
      generalize upd (upd H3 L (.lst xs0)) R (.lst ys0) = H5 at s5 gL5 gR5
      have hszd : D.sizes (ds0 ++ [dd]) = D.sizes ds0 + dd.size := by rw [D.sizes_append]; simp [D.sizes]
      have go : ∀ (H6 : Hp), Same H5 H6 → ∃ m', m' < D.sizes (ds0 ++ [dd]) ∧ ∃ ds xs ys o1 o2, [some v, some u, some (.ref L), some (.ref R), some x, some y] = [some v, some u, some (.ref L), some (.ref R), o1, o2] ∧ Same H H6 ∧ H6 L = some (.lst xs) ∧ H6 R = some (.lst ys) ∧ RepL H xs ds ∧ RepL H ys ds ∧ m' = D.sizes ds ∧ D.sizes ds ≤ 1000000 := fun H6 s6 => by
        have := dd.size_pos
        exact ⟨_, by omega, ds0, xs0, ys0, _, _, rfl, s5.trans s6, s6 _ _ gL5, s6 _ _ gR5, rx0, ry0, rfl, by omega⟩
      -- isinstance(_law_two, (list, tuple))
      refine ⟨_, rfl, (by show 2 ≤ sizeLine; decide), fun tt ht => ?_⟩
      have s6 : Same H5 (upd H5 tt (.tup [.ty "list", .ty "tuple"])) := same_new ht
      have h6 : upd H5 tt (.tup [.ty "list", .ty "tuple"]) tt = some (.tup [.ty "list", .ty "tuple"]) := upd_same
      generalize upd H5 tt (.tup [.ty "list", .ty "tuple"]) = H6 at s6 h6
      have sH6 := s5.trans s6
      have grow : ∀ (es : List D) (zs ws : List V), RepL H zs es → RepL H ws es → dd.size = 1 + D.sizes es → ∀ H7, Same H6 H7 → ∃ m', m' < D.sizes (ds0 ++ [dd]) ∧ ∃ ds xs ys o1 o2, [some v, some u, some (.ref L), some (.ref R), some x, some y] = [some v, some u, some (.ref L), some (.ref R), o1, o2] ∧ Same H (upd (upd H7 L (.lst (xs0 ++ zs))) R (.lst (ys0 ++ ws))) ∧ (upd (upd H7 L (.lst (xs0 ++ zs))) R (.lst (ys0 ++ ws))) L = some (.lst xs) ∧ (upd (upd H7 L (.lst (xs0 ++ zs))) R (.lst (ys0 ++ ws))) R = some (.lst ys) ∧ RepL H xs ds ∧ RepL H ys ds ∧ m' = D.sizes ds ∧ D.sizes ds ≤ 1000000 := fun es zs ws rz rw' he H7 s7 => by
        refine ⟨_, ?_, ds0 ++ es, xs0 ++ zs, ys0 ++ ws, _, _, rfl, fun b o hbo => ?_, by rw [upd_ne nLR, upd_same], upd_same, rx0.append rz, ry0.append rw', rfl, ?_⟩
        · rw [D.sizes_append]; omega
        · rw [upd_ne (ne_of_none hbo hR0), upd_ne (ne_of_none hbo hL)]
          exact s7 b o (sH6 b o hbo)
        · rw [D.sizes_append]; omega
      rcases same_tyOf rxl with ⟨rfl, rfl⟩ | ⟨k1, rfl, rfl⟩ | ⟨x1, rfl, rfl⟩ | ⟨es, a, zs, rfl, rfl, ha, rz⟩ | ⟨es, a, zs, rfl, rfl, ha, rz⟩
      · simp only [Rep] at ryl
        subst ryl
        refine ⟨_, _, _, false, rfl, .non, .inr ⟨tt, _, [.type "list", .type "tuple"], rfl, h6, rfl, kit_an⟩, _, rfl, iteF ?_⟩
        refine ⟨_, rfl, _, rfl, iteTb rfl ?_⟩
        refine ⟨_, rfl, _, rfl, iteFb rfl ?_⟩
        exact go H6 s6
      · simp only [Rep] at ryl
        subst ryl
        refine ⟨_, _, _, false, rfl, .int _, .inr ⟨tt, _, [.type "list", .type "tuple"], rfl, h6, rfl, kit_ai⟩, _, rfl, iteF ?_⟩
        refine ⟨_, rfl, _, rfl, iteFb rfl ?_⟩
        refine ⟨_, rfl, _, _, _, false, rfl, .int _, .inl ⟨_, rfl, kit_is⟩, _, rfl, iteF ?_⟩
        refine ⟨_, rfl, k1, rfl, _, rfl, iteF ?_⟩
        refine ⟨_, rfl, _, rfl, rfl, _, rfl, iteFb (by simp) ?_⟩
        exact go H6 s6
      · simp only [Rep] at ryl
        subst ryl
        refine ⟨_, _, _, false, rfl, .str _, .inr ⟨tt, _, [.type "list", .type "tuple"], rfl, h6, rfl, kit_as⟩, _, rfl, iteF ?_⟩
        refine ⟨_, rfl, _, rfl, iteFb rfl ?_⟩
        refine ⟨_, rfl, _, _, _, true, rfl, .str _, .inl ⟨_, rfl, kit_ss⟩, _, rfl, iteT ?_⟩
        refine ⟨_, rfl, _, _, _, true, rfl, .str _, .inl ⟨_, rfl, kit_ss⟩, _, rfl, iteF ?_⟩
        refine ⟨_, rfl, _, rfl, rfl, _, rfl, iteFb (by simp) ?_⟩
        exact go H6 s6
      · simp only [Rep] at ryl
        obtain ⟨a2, zs2, rfl, ha2, rz2⟩ := ryl
        have ha6 := sH6 _ _ ha
        have ha26 := sH6 _ _ ha2
        have hl1 := rz.length
        have hl2 := rz2.length
        refine ⟨_, _, _, true, rfl, .tup ha26, .inr ⟨tt, _, [.type "list", .type "tuple"], rfl, h6, rfl, kit_at⟩, _, rfl, iteT ?_⟩
        refine ⟨_, rfl, _, _, _, false, rfl, .tup ha6, .inl ⟨_, rfl, kit_tl⟩, _, rfl, _, _, _, false, rfl, .tup ha26, .inl ⟨_, rfl, kit_tl⟩, rfl, _, rfl, iteFb rfl ?_⟩
        refine ⟨_, rfl, _, _, _, true, rfl, .tup ha6, .inl ⟨_, rfl, kit_tt⟩, _, rfl, _, _, _, true, rfl, .tup ha26, .inl ⟨_, rfl, kit_tt⟩, rfl, _, rfl, iteFb rfl ?_⟩
        refine ⟨_, rfl, a, zs, rfl, .inr (SqT.of ha6), _, rfl, a2, zs2, rfl, .inr (SqT.of ha26), rfl, _, rfl, iteFb (by rw [hl1, hl2]; simp) ?_⟩
        have b1 : xs0.length + zs.length ≤ sizeLine := by
          have q1 := rx0.length
          have q2 := D.length_le_sizes ds0
          have q3 := D.length_le_sizes es
          have q4 : (D.t es).size = 1 + D.sizes es := by simp [D.size]
          have : (1000000 : Nat) ≤ sizeLine := by decide
          omega
        have b2 : ys0.length + zs2.length ≤ sizeLine := by
          have q1 := ry0.length
          have q2 := D.length_le_sizes ds0
          have q3 := D.length_le_sizes es
          have q4 : (D.t es).size = 1 + D.sizes es := by simp [D.size]
          have : (1000000 : Nat) ≤ sizeLine := by decide
          omega
        have nLa2 : a2 ≠ L := ne_of_none ha2 hL
        have gL6 := s6 _ _ gL5
        have gR6 : upd H6 L (.lst (xs0 ++ zs)) R = some (.lst ys0) := by rw [upd_ne nLR.symm]; exact s6 _ _ gR5
        refine ⟨_, rfl, .inl ⟨rfl, _, SqL.of gL6⟩, _, rfl, L, a, xs0, zs, rfl, rfl, gL6, (.inr (SqT.of ha6)), b1, ?_⟩
        refine ⟨_, rfl, .inl ⟨rfl, _, SqL.of gR6⟩, _, rfl, R, a2, ys0, zs2, rfl, rfl, gR6, (.inr (SqT.of (by rw [upd_ne nLa2]; exact ha26))), b2, ?_⟩
        exact grow es zs zs2 rz rz2 (by simp [D.size]) H6 (Same.refl _)
      · simp only [Rep] at ryl
        obtain ⟨a2, zs2, rfl, ha2, rz2⟩ := ryl
        have ha6 := sH6 _ _ ha
        have ha26 := sH6 _ _ ha2
        have hl1 := rz.length
        have hl2 := rz2.length
        refine ⟨_, _, _, true, rfl, .lst ha26, .inr ⟨tt, _, [.type "list", .type "tuple"], rfl, h6, rfl, kit_al⟩, _, rfl, iteT ?_⟩
        refine ⟨_, rfl, _, _, _, true, rfl, .lst ha6, .inl ⟨_, rfl, kit_ll⟩, _, rfl, _, _, _, true, rfl, .lst ha26, .inl ⟨_, rfl, kit_ll⟩, rfl, _, rfl, iteFb rfl ?_⟩
        refine ⟨_, rfl, _, _, _, false, rfl, .lst ha6, .inl ⟨_, rfl, kit_lt⟩, _, rfl, _, _, _, false, rfl, .lst ha26, .inl ⟨_, rfl, kit_lt⟩, rfl, _, rfl, iteFb rfl ?_⟩
        refine ⟨_, rfl, a, zs, rfl, .inl (SqL.of ha6), _, rfl, a2, zs2, rfl, .inl (SqL.of ha26), rfl, _, rfl, iteFb (by rw [hl1, hl2]; simp) ?_⟩
        have b1 : xs0.length + zs.length ≤ sizeLine := by
          have q1 := rx0.length
          have q2 := D.length_le_sizes ds0
          have q3 := D.length_le_sizes es
          have q4 : (D.l es).size = 1 + D.sizes es := by simp [D.size]
          have : (1000000 : Nat) ≤ sizeLine := by decide
          omega
        have b2 : ys0.length + zs2.length ≤ sizeLine := by
          have q1 := ry0.length
          have q2 := D.length_le_sizes ds0
          have q3 := D.length_le_sizes es
          have q4 : (D.l es).size = 1 + D.sizes es := by simp [D.size]
          have : (1000000 : Nat) ≤ sizeLine := by decide
          omega
        have nLa2 : a2 ≠ L := ne_of_none ha2 hL
        have gL6 := s6 _ _ gL5
        have gR6 : upd H6 L (.lst (xs0 ++ zs)) R = some (.lst ys0) := by rw [upd_ne nLR.symm]; exact s6 _ _ gR5
        refine ⟨_, rfl, .inl ⟨rfl, _, SqL.of gL6⟩, _, rfl, L, a, xs0, zs, rfl, rfl, gL6, (.inl (SqL.of ha6)), b1, ?_⟩
        refine ⟨_, rfl, .inl ⟨rfl, _, SqL.of gR6⟩, _, rfl, R, a2, ys0, zs2, rfl, rfl, gR6, (.inl (SqL.of (by rw [upd_ne nLa2]; exact ha26))), b2, ?_⟩
        exact grow es zs zs2 rz rz2 (by simp [D.size]) H6 (Same.refl _)
end
end K07
namespace K07
open PySem L2
/-! ### the law's own defs -/
def Let.pg : Let → Int
  | .lend p _ _ => p
  | .back p _ => p
/-- lent with read or write; bid to read or to none -/
def Let.nice : Let → Prop
  | .lend _ r _ => r ≠ .no
  | .back _ r => r ≠ .wr
/-- what is handed to a desk -/
inductive Op where
  | look (p : Int) | put (p n : Int) | lend (p : Int) (r : Rt) (n : Int) | back (p : Int) (r : Rt) | rest (p : Int)
def Op.word : Op → Str
  | .look _ => "want"
  | .put _ _ => "want"
  | .lend _ _ _ => "take"
  | .back _ _ => "take"
  | .rest _ => "rest"
def Op.pg : Op → Int
  | .look p => p
  | .put p _ => p
  | .lend p _ _ => p
  | .back p _ => p
  | .rest p => p
def Op.d : Op → D
  | .look p => (W.look p).d
  | .put p n => (W.put p n).d
  | .lend p r n => (Let.lend p r n).d
  | .back p r => (Let.back p r).d
  | .rest p => .i p
theorem Op.flat (o : Op) : o.d.flat := by cases o <;> simp [Op.d, W.d, Let.d, D.flat, D.flats]
def Op.nice : Op → Prop
  | .lend _ r _ => r ≠ .no
  | .back _ r => r ≠ .wr
  | _ => True
/-- several letters, one after the other -/
def DS.takes (S : DS) : List Let → DS × List D
  | [] => (S, [])
  | l :: r => (((S.take l).1.takes r).1, (S.take l).2 :: ((S.take l).1.takes r).2)
def refD (x : Str) : D := .t [.s "refused", .s x]
/-- the state behind it, what is due (a text where it is refused) -/
def DS.do (S : DS) : Op → DS × D
  | .look p => match S.ws with | none => S.want (.look p) | some _ => (S, .s "waiting")
  | .put p n => match S.ws with | none => S.want (.put p n) | some _ => (S, .s "waiting")
  | .lend p r n => S.take (.lend p r n)
  | .back p r => S.take (.back p r)
  | .rest p => if S.rt p = .no then (S, .s "no copy") else S.rest p
def asDue : D → D
  | .s x => refD x
  | d => d
theorem rep_wish {H : Hp} {v : V} {w : W} (h : Rep H v w.d) : ∃ a, v = .ref a ∧ H a = some (.tup w.vs) := by
  cases w <;> (simp only [W.d, Rep, RepL] at h)
  · obtain ⟨a, xs, rfl, ha, v1, r1, rfl, rfl, v2, r2, rfl, rfl, rfl⟩ := h
    exact ⟨a, rfl, ha⟩
  · obtain ⟨a, xs, rfl, ha, v1, r1, rfl, rfl, v2, r2, rfl, rfl, v3, r3, rfl, rfl, rfl⟩ := h
    exact ⟨a, rfl, ha⟩
theorem rep_let {H : Hp} {v : V} {l : Let} (h : Rep H v l.d) : ∃ a, v = .ref a ∧ H a = some (.tup l.vs) := by
  cases l <;> (simp only [Let.d, Rep, RepL] at h)
  · obtain ⟨a, xs, rfl, ha, v1, r1, rfl, rfl, v2, r2, rfl, rfl, v3, r3, rfl, rfl, v4, r4, rfl, rfl, rfl⟩ := h
    exact ⟨a, rfl, ha⟩
  · obtain ⟨a, xs, rfl, ha, v1, r1, rfl, rfl, v2, r2, rfl, rfl, v3, r3, rfl, rfl, rfl⟩ := h
    exact ⟨a, rfl, ha⟩
/-! the law's own desk: a dict with two lists and a wish -/
def mineD (mr mc : Addr) (v : V) : List (Key × V) := [(Sum.inr "rights", .ref mr), (Sum.inr "copies", .ref mc), (Sum.inr "wish", v)]
structure MineAt (H : Hp) (m mr mc : Addr) (S : DS) : Prop where
  ob : ∃ v, H m = some (.dK (mineD mr mc v)) ∧ WishAt H v S.ws
  rg : H mr = some (.lst [.str (S.rt 0).s, .str (S.rt 1).s, .str (S.rt 2).s])
  cp : H mc = some (.lst [.int (S.nm 0), .int (S.nm 1), .int (S.nm 2)])
  ne : mr ≠ mc
def MF (H H' : Hp) (m mr mc : Addr) : Prop := ∀ b o, H b = some o → b ≠ m → b ≠ mr → b ≠ mc → H' b = some o
theorem MF.refl (H : Hp) (m mr mc : Addr) : MF H H m mr mc := fun _ _ h _ _ _ => h
theorem MF.trans {H H1 H2 : Hp} {m mr mc : Addr} (a : MF H H1 m mr mc) (b : MF H1 H2 m mr mc) : MF H H2 m mr mc := fun c o h h1 h2 h3 => b c o (a c o h h1 h2 h3) h1 h2 h3
theorem MF.new {H : Hp} {m mr mc a : Addr} {o : HO} (h : H a = none) : MF H (upd H a o) m mr mc := fun b u e _ _ _ => same_new h b u e
theorem MineAt.keep {H H' : Hp} {m mr mc : Addr} {S : DS} (M : MineAt H m mr mc S) (h : TupSame H H') (h1 : ∀ o, H m = some o → H' m = some o) (h2 : ∀ o, H mr = some o → H' mr = some o) (h3 : ∀ o, H mc = some o → H' mc = some o) : MineAt H' m mr mc S := by
  obtain ⟨⟨v, a, b⟩, c, d, e⟩ := M
  exact ⟨⟨v, h1 _ a, b.tmono h⟩, h2 _ c, h3 _ d, e⟩
theorem MineAt.same {H H' : Hp} {m mr mc : Addr} {S : DS} (M : MineAt H m mr mc S) (h : Same H H') : MineAt H' m mr mc S := M.keep (fun b xs e => h b _ e) (fun o e => h _ o e) (fun o e => h _ o e) fun o e => h _ o e
theorem MineAt.new {H : Hp} {m mr mc a : Addr} {o : HO} {S : DS} (M : MineAt H m mr mc S) (h : H a = none) : MineAt (upd H a o) m mr mc S := M.same (same_new h)
theorem MineAt.nmr {H : Hp} {m mr mc : Addr} {S : DS} (M : MineAt H m mr mc S) : m ≠ mr ∧ m ≠ mc := by
  obtain ⟨⟨v, a, _⟩, c, d, _⟩ := M
  exact ⟨ne_of a c (by intro z; cases z), ne_of a d (by intro z; cases z)⟩
theorem MF.tups {H H' : Hp} {m mr mc : Addr} {S : DS} (M : MineAt H m mr mc S) (h : MF H H' m mr mc) : TupSame H H' := fun b xs e => by
  obtain ⟨⟨v, a, _⟩, c, d, _⟩ := M
  exact h b _ e (ne_of e a (by intro z; cases z)) (ne_of e c (by intro z; cases z)) (ne_of e d (by intro z; cases z))
/-- a page of the three -/
def Pg (p : Int) : Prop := p = 0 ∨ p = 1 ∨ p = 2
theorem MineAt.atR {H : Hp} {m mr mc : Addr} {S : DS} (M : MineAt H m mr mc S) {p : Int} (h : Pg p) : atI ([.str (S.rt 0).s, .str (S.rt 1).s, .str (S.rt 2).s] : List V) p = some (.str (S.rt p).s) := by
  rcases h with rfl | rfl | rfl <;> rfl
theorem atC (S : DS) {p : Int} (h : Pg p) : atI ([.int (S.nm 0), .int (S.nm 1), .int (S.nm 2)] : List V) p = some (.int (S.nm p)) := by
  rcases h with rfl | rfl | rfl <;> rfl
theorem mk_put (mr mc : Addr) (v u : V) : putK (mineD mr mc v) (Sum.inr "wish" : Key) u = mineD mr mc u := by rfl
end K07
namespace K07
open PySem L2
def spFul : Sp := fun vs H Q _ => ∃ m mr mc S a w, vs = [.ref m, .ref a] ∧ MineAt H m mr mc S ∧ H a = some (.tup (W.vs w)) ∧ Pg w.pg ∧
  ∀ u H', MineAt H' m mr mc (S.done w) → MF H H' m mr mc → H' u = some (.tup [.str w.tag, .int w.pg, .int (S.num w)]) → Q (.ref u) H'
def spWantL : Sp := fun vs H Q _ => ∃ m mr mc S a w, vs = [.ref m, .ref a] ∧ MineAt H m mr mc S ∧ H a = some (.tup (W.vs w)) ∧ Pg w.pg ∧
  match S.ws with
  | none => ∀ v H', MineAt H' m mr mc (S.want w).1 → MF H H' m mr mc → Rep H' v (S.want w).2 → Q v H'
  | some _ => Q (.str "waiting") H
def spTakeL : Sp := fun vs H Q _ => ∃ m mr mc S a l, vs = [.ref m, .ref a] ∧ MineAt H m mr mc S ∧ H a = some (.tup (Let.vs l)) ∧ Pg l.pg ∧ l.nice ∧
  ∀ v H', MineAt H' m mr mc (S.take l).1 → MF H H' m mr mc → Rep (nw H H') v (S.take l).2 → Q v H'
def spRestL : Sp := fun vs H Q _ => ∃ m mr mc S p, vs = [.ref m, .int p] ∧ MineAt H m mr mc S ∧ Pg p ∧
  if S.rt p = .no then Q (.str "no copy") H else ∀ v H', MineAt H' m mr mc (S.rest p).1 → MF H H' m mr mc → Rep H' v (S.rest p).2 → Q v H'
theorem MF.kept {H H' : Hp} {m mr mc : Addr} {S S' : DS} (M : MineAt H m mr mc S) (M' : MineAt H' m mr mc S') (h : MF H H' m mr mc) : Kept H H' := fun b o e => by
  obtain ⟨⟨v, a, _⟩, c, d, _⟩ := M'
  by_cases h1 : b = m
  · subst h1; exact ⟨_, a, fun _ xs z => by cases z⟩
  · by_cases h2 : b = mr
    · subst h2; exact ⟨_, c, fun _ xs z => by cases z⟩
    · by_cases h3 : b = mc
      · subst h3; exact ⟨_, d, fun _ xs z => by cases z⟩
      · exact ⟨o, h b o e h1 h2 h3, fun z => z⟩
theorem setR (S : DS) {p : Int} (h : Pg p) (r : Rt) (n : Int) : ∃ j, ixN ([.str (S.rt 0).s, .str (S.rt 1).s, .str (S.rt 2).s] : List V).length p = some j ∧
    ([.str (S.rt 0).s, .str (S.rt 1).s, .str (S.rt 2).s] : List V).set j (.str r.s) = [.str ((S.hold p r n).rt 0).s, .str ((S.hold p r n).rt 1).s, .str ((S.hold p r n).rt 2).s] := by
  rcases h with rfl | rfl | rfl
  · exact ⟨0, rfl, rfl⟩
  · exact ⟨1, rfl, rfl⟩
  · exact ⟨2, rfl, rfl⟩
theorem setC (S : DS) {p : Int} (h : Pg p) (r : Rt) (n : Int) : ∃ j, ixN ([.int (S.nm 0), .int (S.nm 1), .int (S.nm 2)] : List V).length p = some j ∧
    ([.int (S.nm 0), .int (S.nm 1), .int (S.nm 2)] : List V).set j (.int n) = [.int ((S.hold p r n).nm 0), .int ((S.hold p r n).nm 1), .int ((S.hold p r n).nm 2)] := by
  rcases h with rfl | rfl | rfl
  · exact ⟨0, rfl, rfl⟩
  · exact ⟨1, rfl, rfl⟩
  · exact ⟨2, rfl, rfl⟩
/-- rights and numbers that are as they were -/
theorem MineAt.eqv {H : Hp} {m mr mc : Addr} {S S' : DS} (M : MineAt H m mr mc S) (h1 : ∀ p, S'.rt p = S.rt p) (h2 : ∀ p, S'.nm p = S.nm p) (h3 : S'.ws = S.ws) : MineAt H m mr mc S' := by
  obtain ⟨⟨v, a, b⟩, c, d, e⟩ := M
  exact ⟨⟨v, a, by rw [h3]; exact b⟩, by rw [h1, h1, h1]; exact c, by rw [h2, h2, h2]; exact d, e⟩
/-- a store into the rights -/
theorem MineAt.setRt {H : Hp} {m mr mc : Addr} {S : DS} (M : MineAt H m mr mc S) {p : Int} (r : Rt) {xs : List V} (e : xs = [.str ((S.hold p r (S.nm p)).rt 0).s, .str ((S.hold p r (S.nm p)).rt 1).s, .str ((S.hold p r (S.nm p)).rt 2).s]) :
    MineAt (upd H mr (.lst xs)) m mr mc (S.hold p r (S.nm p)) ∧ MF H (upd H mr (.lst xs)) m mr mc := by
  subst e
  have hm := M.nmr
  obtain ⟨⟨v, a, b⟩, c, d, ne⟩ := id M
  have mf : MF H (upd H mr (.lst [.str ((S.hold p r (S.nm p)).rt 0).s, .str ((S.hold p r (S.nm p)).rt 1).s, .str ((S.hold p r (S.nm p)).rt 2).s])) m mr mc := fun b o e _ h2 _ => by rw [upd_ne h2]; exact e
  have en : ∀ q, (S.hold p r (S.nm p)).nm q = S.nm q := fun q => by
    unfold DS.hold; dsimp only
    by_cases z : q = p
    · rw [if_pos z, z]
    · rw [if_neg z]
  exact ⟨⟨⟨v, by rw [upd_ne hm.1]; exact a, b.tmono (mf.tups M)⟩, upd_same, by rw [en, en, en, upd_ne ne.symm]; exact d, ne⟩, mf⟩
/-- a store into the copies -/
theorem MineAt.setCp {H : Hp} {m mr mc : Addr} {S : DS} (M : MineAt H m mr mc S) {p n : Int} {xs : List V} (e : xs = [.int ((S.hold p (S.rt p) n).nm 0), .int ((S.hold p (S.rt p) n).nm 1), .int ((S.hold p (S.rt p) n).nm 2)]) :
    MineAt (upd H mc (.lst xs)) m mr mc (S.hold p (S.rt p) n) ∧ MF H (upd H mc (.lst xs)) m mr mc := by
  subst e
  have hm := M.nmr
  obtain ⟨⟨v, a, b⟩, c, d, ne⟩ := id M
  have mf : MF H (upd H mc (.lst [.int ((S.hold p (S.rt p) n).nm 0), .int ((S.hold p (S.rt p) n).nm 1), .int ((S.hold p (S.rt p) n).nm 2)])) m mr mc := fun b o e _ _ h3 => by rw [upd_ne h3]; exact e
  have er : ∀ q, (S.hold p (S.rt p) n).rt q = S.rt q := fun q => by
    unfold DS.hold; dsimp only
    by_cases z : q = p
    · rw [if_pos z, z]
    · rw [if_neg z]
  exact ⟨⟨⟨v, by rw [upd_ne hm.2]; exact a, b.tmono (mf.tups M)⟩, by rw [er, er, er, upd_ne ne]; exact c, upd_same, ne⟩, mf⟩
/-- a store of the wish -/
theorem MineAt.setWs {H : Hp} {m mr mc : Addr} {S : DS} (M : MineAt H m mr mc S) {v : V} {o : Option W} (hw : WishAt H v o) : MineAt (upd H m (.dK (mineD mr mc v))) m mr mc { S with ws := o } ∧ MF H (upd H m (.dK (mineD mr mc v))) m mr mc := by
  have hm := M.nmr
  obtain ⟨⟨v', a, b⟩, c, d, ne⟩ := id M
  have mf : MF H (upd H m (.dK (mineD mr mc v))) m mr mc := fun b o e h1 _ _ => by rw [upd_ne h1]; exact e
  exact ⟨⟨⟨v, upd_same, hw.tmono (mf.tups M)⟩, by rw [upd_ne hm.1.symm]; exact c, by rw [upd_ne hm.2.symm]; exact d, ne⟩, mf⟩
section
variable {P : Program} {w : World} {K : PySem.W.Frag} {mg : Str → Option Value} {base : Heap} {t : Adr}
theorem ok_l_fulfilled (T : Txt K w mg t) : FnOk P w K mg base CX0 1 t.f_l_fulfilled t.fd_l_fulfilled ["_law_mine", "_law_wish"] spFul := by
  refine T.F_l_fulfilled.ok sc_l_fulfilled (fun vs H Q E h => ?_) (fun cdv A outer s H vs Q E hr h => ?_)
  · obtain ⟨m, mr, mc, S, a, w, rfl, _⟩ := h; rfl
  · obtain ⟨m, mr, mc, S, a, w, rfl, M, ha, hp, k⟩ := h
    have hu := hu_of hr
    refine ⟨_, (pss_cons (ps_if (pt_cmpR op_eq (pe_ix ix_tup (pv 1) pe_int (fun _ _ => rfl)) pe_str (nomark _)) (pss_one (ps_asg (pe_ix ix_tup (pv 1) pe_int (fun _ _ => rfl)) (pg_sub (pe_dget hu (pv 0) pe_str (fun _ _ => rfl)) (pe_ix ix_tup (pv 1) pe_int (fun _ _ => rfl)) set_list))) pss_nil)
      (pss_one (ps_ret (pe_tup (pa_cons (pe_ix ix_tup (pv 1) pe_int (fun _ _ => rfl)) (pa_cons (pe_ix ix_tup (pv 1) pe_int (fun _ _ => rfl)) (pa_cons (pe_ix ix_list (pe_dget hu (pv 0) pe_str (fun _ _ => rfl)) (pe_ix ix_tup (pv 1) pe_int (fun _ _ => rfl)) (fun _ _ => rfl)) pa_nil))))))), ?_⟩
    have fin : ∀ H1 : Hp, MineAt H1 m mr mc (S.done w) → MF H H1 m mr mc →
        (tRet (tTup (tCons (tOp (rIxT K) (tVar 1) (tC (.int 0))) (tCons (tOp (rIxT K) (tVar 1) (tC (.int 1))) (tCons (tOp (rIxL K) (tDGet (tVar 0) (tC (.str "copies"))) (tOp (rIxT K) (tVar 1) (tC (.int 1)))) tNil)))))
          { nx := fun _ H' => Q .non H', rt := Q } [some (.ref m), some (.ref a)] H1 := fun H1 M1 f1 => by
      have ha1 := (f1.tups M) a _ ha
      obtain ⟨⟨v, a1, _⟩, _, d1, _⟩ := id M1
      refine ⟨_, rfl, a, _, 0, _, rfl, rfl, SqT.of ha1, W.at0 w, _, rfl, a, _, 1, _, rfl, rfl, SqT.of ha1, W.at1 w, _, rfl, m, .ref mc, rfl, DGet.k (k := Sum.inr "copies") a1, _, rfl, a, _, 1, _, rfl, rfl, SqT.of ha1, W.at1 w, mc, _, _, .int (S.num w), rfl, rfl, SqL.of d1, ?_, (by show 3 ≤ sizeLine; decide), fun u hu => ?_⟩
      · rw [atC _ hp, DS.done_nm]
      · exact k u _ (M1.new hu) (f1.trans (MF.new hu)) upd_same
    refine ⟨_, rfl, a, _, 0, _, rfl, rfl, SqT.of ha, W.at0 w, rfl, _, rfl, ?_⟩
    cases w with
    | look q =>
      refine iteFb (vs_ne (show ("look" : Str) ≠ "put" by decide +kernel)) ?_
      exact fin H M (MF.refl _ _ _ _)
    | put q n =>
      refine iteTb vs_eq ?_
      obtain ⟨⟨v, a1, _⟩, _, d1, _⟩ := id M
      obtain ⟨j, j1, j2⟩ := setC S hp (S.rt q) n
      refine ⟨_, rfl, a, _, 2, .int n, rfl, rfl, SqT.of ha, rfl, _, rfl, m, .ref mc, rfl, DGet.k (k := Sum.inr "copies") a1, _, rfl, a, _, 1, .int q, rfl, rfl, SqT.of ha, rfl, mc, _, _, j, rfl, rfl, d1, j1, ?_⟩
      obtain ⟨M1, f1⟩ := M.setCp (p := q) (n := n) j2
      exact fin _ M1 f1
end
end K07
namespace K07
open PySem L2
theorem DS.ok_wr {S : DS} {w : W} (h : S.rt w.pg = .wr) : S.ok w := by unfold DS.ok; rw [h]; cases w <;> simp [W.need, Rt.k]
theorem DS.ok_rd_look {S : DS} {p : Int} (h : S.rt p = .rd) : S.ok (.look p) := by unfold DS.ok; show Rt.rd.k ≤ (S.rt p).k; rw [h]; exact Int.le_refl _
theorem DS.ok_rd_put {S : DS} {p n : Int} (h : S.rt p = .rd) : ¬ S.ok (.put p n) := by unfold DS.ok; show ¬ Rt.wr.k ≤ (S.rt p).k; rw [h]; decide
theorem DS.ok_no' {S : DS} {w : W} (h : S.rt w.pg = .no) : ¬ S.ok w := fun z => DS.ok_no z h
section
variable {P : Program} {w : World} {K : PySem.W.Frag} {mg : Str → Option Value} {base : Heap} {t : Adr}
theorem ok_l_wanted (T : Txt K w mg t) : FnOk P w K mg base CX0 2 t.f_l_wanted t.fd_l_wanted ["_law_mine", "_law_wish"] spWantL := by
  refine T.F_l_wanted.ok sc_l_wanted (fun vs H Q E h => ?_) (fun cdv A outer s H vs Q E hr h => ?_)
  · obtain ⟨m, mr, mc, S, a, w, rfl, _⟩ := h; rfl
  · obtain ⟨m, mr, mc, S, a, w, rfl, M, ha, hp, k⟩ := h
    have hu := hu_of hr
    obtain ⟨⟨v, a1, hw⟩, c1, d1, _⟩ := id M
    refine ⟨_, (pss_cons (ps_if (pt_cmp (pc_notN (pe_dget hu (pv 0) pe_str (fun _ _ => rfl)))) (pss_one (ps_ret pe_str)) pss_nil)
      (pss_cons (ps_set (i := 2) sc_l_wanted.nd rfl (Or.inl rfl) (pe_ix ix_list (pe_dget hu (pv 0) pe_str (fun _ _ => rfl)) (pe_ix ix_tup (pv 1) pe_int (fun _ _ => rfl)) (fun _ _ => rfl)))
      (pss_cons (ps_if (PW.pt (pw_or (pt_cmpR op_eq (pv 2) pe_str (nomark _)) (pw_or1 (PW.pt (pw_and (pt_cmpR op_eq (pv 2) pe_str (nomark _)) (pw_and1 (pt_cmpR op_eq (pe_ix ix_tup (pv 1) pe_int (fun _ _ => rfl)) pe_str (nomark _)))))))) (pss_one (ps_ret (pe_tup (pa_cons (pe_lst (pa_cons (pe_call (ok_l_fulfilled T) (hr.mono (by decide) : Room 1 _) (by rfl) T.m_l_fulfilled T.F_l_fulfilled.kp T.b_l_fulfilled .nil pass0 (pa_cons (pv 0) (pa_cons (pv 1) pa_nil))) pa_nil)) (pa_cons (pe_lst pa_nil) pa_nil))))) pss_nil)
      (pss_cons (ps_dput hu (pv 0) pe_str (pv 1) (by rfl))
      (pss_one (ps_ret (pe_tup (pa_cons (pe_lst pa_nil) (pa_cons (pe_lst (pa_cons (pe_tup (pa_cons pe_str (pa_cons (pe_ix ix_tup (pv 1) pe_int (fun _ _ => rfl)) (pa_cons (pe_ix ix_list (pe_lst (pa_cons pe_str (pa_cons pe_str pa_nil))) (pe_callTy call_int1 (by rfl) T.n_int PyProof.Rows.Boot.«int» (pa_cons (pe_cmpR op_eq (pe_ix ix_tup (pv 1) pe_int (fun _ _ => rfl)) pe_str (nomark _)) pa_nil)) (fun _ _ => rfl)) pa_nil)))) pa_nil)) pa_nil))))))))), ?_⟩
    refine ⟨_, rfl, m, v, rfl, DGet.k (k := Sum.inr "wish") a1, _, rfl, ?_⟩
    cases hws : S.ws with
    | some w' =>
      rw [hws] at hw k
      obtain ⟨a', ev, _⟩ := hw
      subst ev
      exact iteT k
    | none =>
      rw [hws] at hw k
      have ev : v = .non := hw
      subst ev
      refine iteF ?_
      refine ⟨_, rfl, m, .ref mr, rfl, DGet.k (k := Sum.inr "rights") a1, _, rfl, a, _, 1, _, rfl, rfl, SqT.of ha, W.at1 w, mr, _, _, _, rfl, rfl, SqL.of c1, M.atR hp, ?_⟩
      refine ⟨_, rfl, rfl, _, rfl, ?_⟩
      -- the two ways behind the test
      have yes : S.ok w → (tRet (tTup (tCons (tLst (tCons (tCall spFul [] E0 (tCons (tVar 0) (tCons (tVar 1) tNil))) tNil)) (tCons (tLst tNil) tNil)))) { nx := fun _ H' => Q .non H', rt := Q } [some (.ref m), some (.ref a), some (.str (S.rt w.pg).s)] H := fun hok => by
        refine ⟨_, rfl, _, rfl, m, mr, mc, S, a, w, rfl, M, ha, hp, fun u H1 M1 f1 hu1 => ⟨(by show 1 ≤ sizeLine; decide), fun l hl => ⟨(by show 0 ≤ sizeLine; decide), fun l2 hl2 => ⟨(by show 2 ≤ sizeLine; decide), fun z hz => ?_⟩⟩⟩⟩
        refine k _ _ ?_ (f1.trans ((MF.new hl).trans ((MF.new hl2).trans (MF.new hz)))) ?_
        · unfold DS.want; rw [if_pos hok]; exact ((M1.new hl).new hl2).new hz
        · unfold DS.want
          rw [if_pos hok]
          refine rep_tup hz ?_
          simp only [RepL]
          refine ⟨_, _, rfl, (rep_lst hl ?_).mono (seq_new hl2), _, _, rfl, rep_lst hl2 (by simp only [RepL]), rfl⟩
          simp only [RepL, Rep]
          exact ⟨_, _, rfl, ⟨u, _, rfl, hu1, _, _, rfl, rfl, _, _, rfl, rfl, _, _, rfl, rfl, rfl⟩, rfl⟩
      have no : ¬ S.ok w → (tSeq (sDPut (tVar 0) (tC (.str "wish")) (tVar 1)) (tRet (tTup (tCons (tLst tNil) (tCons (tLst (tCons (tTup (tCons (tC (.str "ask")) (tCons (tOp (rIxT K) (tVar 1) (tC (.int 1))) (tCons (tOp (rIxL K) (tLst (tCons (tC (.str "read")) (tCons (tC (.str "write")) tNil)))
          (tCB (fun xs H Q => (∃ i, xs = [.int i] ∧ Q (.int i) H) ∨ ∃ k, xs = [.bl k] ∧ Q (.int (if k then 1 else 0)) H) (tCons (tOp rEq (tOp (rIxT K) (tVar 1) (tC (.int 0))) (tC (.str "put"))) tNil))) tNil)))) tNil)) tNil))))) { nx := fun _ H' => Q .non H', rt := Q } [some (.ref m), some (.ref a), some (.str (S.rt w.pg).s)] H := fun hok => by
        refine ⟨_, rfl, _, rfl, m, _, rfl, DPut.k (k := Sum.inr "wish") a1 (by show 3 < sizeLine; decide), ?_⟩
        rw [mk_put]
        obtain ⟨M1, f1⟩ := M.setWs (v := .ref a) (o := some w) ⟨a, rfl, ha⟩
        have ha1 := (f1.tups M) a _ ha
        generalize upd H m (.dK (mineD mr mc (.ref a))) = H1 at M1 f1 ha1
        refine ⟨(by show 0 ≤ sizeLine; decide), fun l hl => ?_⟩
        have ha2 : upd H1 l (.lst []) a = some (.tup w.vs) := tup_new hl a _ ha1
        refine ⟨_, rfl, a, _, 1, _, rfl, rfl, SqT.of ha2, W.at1 w, (by show 2 ≤ sizeLine; decide), fun q hq => ?_⟩
        have ha3 : upd (upd H1 l (.lst [])) q (.lst [.str "read", .str "write"]) a = some (.tup w.vs) := tup_new hq a _ ha2
        refine ⟨_, rfl, a, _, 0, _, rfl, rfl, SqT.of ha3, W.at0 w, rfl, .inr ⟨_, rfl, q, _, _, .str w.need.s, rfl, rfl, SqL.of upd_same, ?_, (by show 3 ≤ sizeLine; decide), fun z hz => ⟨(by show 1 ≤ sizeLine; decide), fun l2 hl2 => ⟨(by show 2 ≤ sizeLine; decide), fun y hy => ?_⟩⟩⟩⟩
        · cases w with
          | look p => rw [show decide (V.str (W.look p).tag = V.str "put") = false from vs_ne (show ("look" : Str) ≠ "put" by decide +kernel)]; rfl
          | put p n => rw [show decide (V.str (W.put p n).tag = V.str "put") = true from vs_eq]; rfl
        · refine k _ _ ?_ (f1.trans ((MF.new hl).trans ((MF.new hq).trans ((MF.new hz).trans ((MF.new hl2).trans (MF.new hy)))))) ?_
          · unfold DS.want; rw [if_neg hok]; exact ((((M1.new hl).new hq).new hz).new hl2).new hy
          · unfold DS.want
            rw [if_neg hok]
            refine rep_tup hy ?_
            simp only [RepL]
            refine ⟨_, _, rfl, (((rep_lst hl (by simp only [RepL])).mono (seq_new hq)).mono (seq_new hz)).mono (seq_new hl2), _, _, rfl, rep_lst hl2 ?_, rfl⟩
            simp only [RepL]
            refine ⟨_, _, rfl, rep_tup hz ?_, rfl⟩
            simp only [RepL, Rep]
            exact ⟨_, _, rfl, rfl, _, _, rfl, rfl, _, _, rfl, rfl, rfl⟩
      cases hrt : S.rt w.pg with
      | wr =>
        refine iteTb vs_eq (iteT ?_)
        rw [hrt] at yes
        exact yes (DS.ok_wr hrt)
      | rd =>
        rw [hrt] at yes no
        refine iteFb (vs_ne (show ("read" : Str) ≠ "write" by decide +kernel)) ?_
        refine ⟨_, rfl, rfl, _, rfl, iteTb vs_eq ?_⟩
        refine ⟨_, rfl, a, _, 0, _, rfl, rfl, SqT.of ha, W.at0 w, rfl, _, rfl, ?_⟩
        cases w with
        | look p => exact iteTb vs_eq (yes (DS.ok_rd_look hrt))
        | put p n => exact iteFb (vs_ne (show ("put" : Str) ≠ "look" by decide +kernel)) (no (DS.ok_rd_put hrt))
      | no =>
        rw [hrt] at no
        refine iteFb (vs_ne (show ("none" : Str) ≠ "write" by decide +kernel)) ?_
        refine ⟨_, rfl, rfl, _, rfl, iteFb (vs_ne (show ("none" : Str) ≠ "read" by decide +kernel)) (iteF ?_)⟩
        exact no (DS.ok_no' hrt)
theorem ok_l_rested (T : Txt K w mg t) : FnOk P w K mg base CX0 1 t.f_l_rested t.fd_l_rested ["_law_mine", "_law_page"] spRestL := by
  refine T.F_l_rested.ok sc_l_rested (fun vs H Q E h => ?_) (fun cdv A outer s H vs Q E hr h => ?_)
  · obtain ⟨m, mr, mc, S, p, rfl, _⟩ := h; rfl
  · obtain ⟨m, mr, mc, S, p, rfl, M, hp, k⟩ := h
    have hu := hu_of hr
    obtain ⟨⟨v, a1, hw⟩, c1, d1, _⟩ := id M
    refine ⟨_, (pss_cons (ps_set (i := 2) sc_l_rested.nd rfl (Or.inl rfl) (pe_ix ix_list (pe_dget hu (pv 0) pe_str (fun _ _ => rfl)) (pv 1) (fun _ _ => rfl)))
      (pss_cons (ps_if (pt_cmpR op_eq (pv 2) pe_str (nomark _)) (pss_one (ps_ret pe_str)) pss_nil)
      (pss_cons (ps_asg pe_str (pg_sub (pe_dget hu (pv 0) pe_str (fun _ _ => rfl)) (pv 1) set_list))
      (pss_cons (ps_if (pt_cmpR op_eq (pv 2) pe_str (nomark _)) (pss_one (ps_ret (pe_lst (pa_cons (pe_tup (pa_cons pe_str (pa_cons (pv 1) (pa_cons (pe_ix ix_list (pe_dget hu (pv 0) pe_str (fun _ _ => rfl)) (pv 1) (fun _ _ => rfl)) pa_nil)))) pa_nil)))) pss_nil)
      (pss_one (ps_ret (pe_lst pa_nil))))))), ?_⟩
    refine ⟨_, rfl, m, .ref mr, rfl, DGet.k (k := Sum.inr "rights") a1, _, rfl, mr, _, _, _, rfl, rfl, SqL.of c1, M.atR hp, ?_⟩
    refine ⟨_, rfl, rfl, _, rfl, ?_⟩
    by_cases e : S.rt p = .no
    · rw [if_pos e] at k
      rw [e]
      exact iteTb vs_eq k
    · rw [if_neg e] at k
      refine iteFb (rt_ne (x := "none") (q := .no) rfl e) ?_
      obtain ⟨j, j1, j2⟩ := setR S hp .no (S.nm p)
      refine ⟨_, rfl, m, .ref mr, rfl, DGet.k (k := Sum.inr "rights") a1, _, rfl, mr, _, _, j, rfl, rfl, c1, j1, ?_⟩
      obtain ⟨M1, f1⟩ := M.setRt (p := p) .no j2
      obtain ⟨⟨v1, a11, hw1⟩, c11, d11, _⟩ := id M1
      refine ⟨_, rfl, rfl, _, rfl, ?_⟩
      by_cases ew : S.rt p = .wr
      · rw [ew]
        refine iteTb vs_eq ?_
        refine ⟨_, rfl, _, rfl, m, .ref mc, rfl, DGet.k (k := Sum.inr "copies") a11, _, rfl, mc, _, _, _, rfl, rfl, SqL.of d11, atC _ hp, (by show 3 ≤ sizeLine; decide), fun z hz => ⟨(by show 1 ≤ sizeLine; decide), fun l hl => ?_⟩⟩
        refine k _ _ ((M1.new hz).new hl) (f1.trans ((MF.new hz).trans (MF.new hl))) ?_
        unfold DS.rest
        rw [if_pos ew]
        refine rep_lst hl ?_
        simp only [RepL]
        refine ⟨_, _, rfl, rep_tup hz ?_, rfl⟩
        simp only [RepL, Rep]
        exact ⟨_, _, rfl, rfl, _, _, rfl, rfl, _, _, rfl, by rw [DS.hold_nm], rfl⟩
      · refine iteFb (rt_ne (x := "write") (q := .wr) rfl ew) ?_
        refine ⟨(by show 0 ≤ sizeLine; decide), fun l hl => ?_⟩
        refine k _ _ (M1.new hl) (f1.trans (MF.new hl)) ?_
        unfold DS.rest
        rw [if_neg ew]
        exact rep_lst hl (by simp only [RepL])
end
end K07
namespace K07
open PySem L2
section
variable {P : Program} {w : World} {K : PySem.W.Frag} {mg : Str → Option Value} {base : Heap} {t : Adr}
theorem hold2 (S : DS) (p : Int) (r : Rt) (n : Int) : (S.hold p r (S.nm p)).hold p ((S.hold p r (S.nm p)).rt p) n = S.hold p r n := by
  unfold DS.hold
  dsimp only
  congr 1
  · funext q
    by_cases e : q = p <;> simp [e]
  · funext q
    by_cases e : q = p <;> simp [e]
theorem ok_l_taken (T : Txt K w mg t) : FnOk P w K mg base CX0 2 t.f_l_taken t.fd_l_taken ["_law_mine", "_law_letter"] spTakeL := by
  refine T.F_l_taken.ok sc_l_taken (fun vs H Q E h => ?_) (fun cdv A outer s H vs Q E hr h => ?_)
  · obtain ⟨m, mr, mc, S, a, l, rfl, _⟩ := h; rfl
  · obtain ⟨m, mr, mc, S, a, l, rfl, M, ha, hp, hni, k⟩ := h
    have hu := hu_of hr
    obtain ⟨⟨v, a1, hw⟩, c1, d1, _⟩ := id M
    refine ⟨_, (pss_cons (ps_set (i := 2) sc_l_taken.nd rfl (Or.inl rfl) (pe_ix ix_tup (pv 1) pe_int (fun _ _ => rfl)))
      (pss_cons (ps_set (i := 3) sc_l_taken.nd rfl (Or.inl rfl) (pe_ix ix_list (pe_dget hu (pv 0) pe_str (fun _ _ => rfl)) (pv 2) (fun _ _ => rfl)))
      (pss_cons (ps_if (pt_cmpR op_eq (pe_ix ix_tup (pv 1) pe_int (fun _ _ => rfl)) pe_str (nomark _)) (pss_cons (ps_asg (pe_ix ix_tup (pv 1) pe_int (fun _ _ => rfl)) (pg_sub (pe_dget hu (pv 0) pe_str (fun _ _ => rfl)) (pv 2) set_list))
      (pss_cons (ps_asg (pe_ix ix_tup (pv 1) pe_int (fun _ _ => rfl)) (pg_sub (pe_dget hu (pv 0) pe_str (fun _ _ => rfl)) (pv 2) set_list))
      (pss_cons (ps_set (i := 4) sc_l_taken.nd rfl (Or.inl rfl) (pe_dget hu (pv 0) pe_str (fun _ _ => rfl)))
      (pss_cons (ps_if (PW.pt (pw_or (pt_cmp (pc_isN (pv 4))) (pw_or (pt_cmpR op_ne (pe_ix ix_tup (pv 4) pe_int (fun _ _ => rfl)) (pv 2) (nomark _)) (pw_or1 (PW.pt (pw_and (pt_cmpR op_eq (pe_ix ix_tup (pv 4) pe_int (fun _ _ => rfl)) pe_str (nomark _)) (pw_and1 (pt_cmpR op_eq (pe_ix ix_tup (pv 1) pe_int (fun _ _ => rfl)) pe_str (nomark _))))))))) (pss_one (ps_ret (pe_tup (pa_cons (pe_lst pa_nil) (pa_cons (pe_lst pa_nil) pa_nil))))) pss_nil)
      (pss_cons (ps_dput hu (pv 0) pe_str pe_non (by rfl))
      (pss_one (ps_ret (pe_tup (pa_cons (pe_lst (pa_cons (pe_call (ok_l_fulfilled T) (hr.mono (by decide) : Room 1 _) (by rfl) T.m_l_fulfilled T.F_l_fulfilled.kp T.b_l_fulfilled .nil pass0 (pa_cons (pv 0) (pa_cons (pv 4) pa_nil))) pa_nil)) (pa_cons (pe_lst pa_nil) pa_nil)))))))))) pss_nil)
      (pss_cons (ps_set (i := 5) sc_l_taken.nd rfl (Or.inl rfl) pe_non)
      (pss_cons (ps_if (pt_cmpR op_eq (pv 3) pe_str (nomark _)) (pss_one (ps_set (i := 5) sc_l_taken.nd rfl (Or.inl rfl) (pe_ix ix_list (pe_dget hu (pv 0) pe_str (fun _ _ => rfl)) (pv 2) (fun _ _ => rfl)))) pss_nil)
      (pss_cons (ps_if (PW.pt (pw_or (pt_cmpR op_eq (pv 3) pe_str (nomark _)) (pw_or1 (pt_cmpR op_eq (pe_ix ix_tup (pv 1) pe_int (fun _ _ => rfl)) pe_str (nomark _))))) (pss_one (ps_asg (pe_ix ix_tup (pv 1) pe_int (fun _ _ => rfl)) (pg_sub (pe_dget hu (pv 0) pe_str (fun _ _ => rfl)) (pv 2) set_list))) pss_nil)
      (pss_one (ps_ret (pe_tup (pa_cons (pe_lst pa_nil) (pa_cons (pe_lst (pa_cons (pe_tup (pa_cons pe_str (pa_cons (pv 2) (pa_cons (pv 5) pa_nil)))) pa_nil)) pa_nil))))))))))), ?_⟩
    have at1 : atI l.vs 1 = some (.int l.pg) := by cases l <;> rfl
    refine ⟨_, rfl, a, _, 1, _, rfl, rfl, SqT.of ha, at1, ?_⟩
    refine ⟨_, rfl, m, .ref mr, rfl, DGet.k (k := Sum.inr "rights") a1, _, rfl, mr, _, _, _, rfl, rfl, SqL.of c1, M.atR hp, ?_⟩
    cases l with
    | lend p r n =>
      refine ⟨_, rfl, a, _, 0, .str "lend", rfl, rfl, SqT.of ha, rfl, rfl, _, rfl, iteTb vs_eq ?_⟩
      -- the rights, the copies
      obtain ⟨j, j1, j2⟩ := setR S hp r (S.nm p)
      refine ⟨_, rfl, a, _, 2, .str r.s, rfl, rfl, SqT.of ha, rfl, _, rfl, m, .ref mr, rfl, DGet.k (k := Sum.inr "rights") a1, _, rfl, mr, _, _, j, rfl, rfl, c1, j1, ?_⟩
      obtain ⟨M1, f1⟩ := M.setRt (p := p) r j2
      obtain ⟨⟨v1, a11, hw1⟩, c11, d11, _⟩ := id M1
      have ha1 := (f1.tups M) a _ ha
      obtain ⟨i, i1, i2⟩ := setC (S.hold p r (S.nm p)) hp ((S.hold p r (S.nm p)).rt p) n
      refine ⟨_, rfl, a, _, 3, .int n, rfl, rfl, SqT.of ha1, rfl, _, rfl, m, .ref mc, rfl, DGet.k (k := Sum.inr "copies") a11, _, rfl, mc, _, _, i, rfl, rfl, d11, i1, ?_⟩
      obtain ⟨M2, f2⟩ := M1.setCp (p := p) (n := n) i2
      rw [hold2] at M2
      have f02 := f1.trans f2
      have ha2 := (f2.tups M1) a _ ha1
      generalize upd (upd H mr _) mc _ = H2 at M2 f2 f02 ha2
      obtain ⟨⟨v2, a12, hw2⟩, c12, d12, _⟩ := id M2
      -- wish = mine['wish']
      refine ⟨_, rfl, m, v2, rfl, DGet.k (k := Sum.inr "wish") a12, ?_⟩
      have none_ : (S.loan p r n).2 = [] → (S.loan p r n).1 = S.hold p r n → ∀ l, H2 l = none → ∀ l2, (upd H2 l (.lst [])) l2 = none → ∀ z, (upd (upd H2 l (.lst [])) l2 (.lst [])) z = none → Q (.ref z) (upd (upd (upd H2 l (.lst [])) l2 (.lst [])) z (.tup [.ref l, .ref l2])) := fun e1 e2 l hl l2 hl2 z hz => by
        refine k _ _ ?_ (f02.trans ((MF.new hl).trans ((MF.new hl2).trans (MF.new hz)))) ?_
        · show MineAt _ m mr mc (S.loan p r n).1
          rw [e2]; exact ((M2.new hl).new hl2).new hz
        · show Rep _ _ (.t [.l (S.loan p r n).2, .l []])
          rw [e1]
          have k2 := f02.kept M M2
          refine repF_tup (((k2.new hl).new hl2).free hz) hz ?_
          simp only [RepL]
          exact ⟨_, _, rfl, (repF_lst (k2.free hl) hl (by simp only [RepL])).mono (nw_mono (seq_new hl2)), _, _, rfl, repF_lst ((k2.new hl).free hl2) hl2 (by simp only [RepL]), rfl⟩
      have hw2' : WishAt H2 v2 S.ws := hw2
      cases hws : S.ws with
      | none =>
        rw [hws] at hw2'
        have ev : v2 = .non := hw2'
        subst ev
        have e : S.loan p r n = (S.hold p r n, []) := by unfold DS.loan; rw [hws]
        refine ⟨_, rfl, _, rfl, iteTb rfl (iteT ?_)⟩
        exact ⟨(by show 0 ≤ sizeLine; decide), fun l hl => ⟨(by show 0 ≤ sizeLine; decide), fun l2 hl2 => ⟨(by show 2 ≤ sizeLine; decide), fun z hz => none_ (by rw [e]) (by rw [e]) l hl l2 hl2 z hz⟩⟩⟩
      | some w =>
        rw [hws] at hw2'
        obtain ⟨b, ev, hb⟩ := hw2'
        subst ev
        refine ⟨_, rfl, _, rfl, iteFb (decide_eq_false fun z => by cases z) ?_⟩
        refine ⟨_, rfl, b, _, 1, _, rfl, rfl, SqT.of hb, W.at1 w, _, rfl, rfl, _, rfl, ?_⟩
        by_cases epg : w.pg = p
        · refine iteFb (by rw [epg]; simp [Let.pg]) ?_
          have yes : (S.hold p r n).ok w → (tSeq (sDPut (tVar 0) (tC (.str "wish")) (tC .non)) (tRet (tTup (tCons (tLst (tCons (tCall spFul [] E0 (tCons (tVar 0) (tCons (tVar 4) tNil))) tNil)) (tCons (tLst tNil) tNil))))) { nx := fun _ H' => Q .non H', rt := Q } [some (.ref m), some (.ref a), some (.int (Let.lend p r n).pg), some (.str (S.rt (Let.lend p r n).pg).s), some (.ref b), none] H2 := fun hok => by
            refine ⟨_, rfl, m, _, rfl, DPut.k (k := Sum.inr "wish") a12 (by show 3 < sizeLine; decide), ?_⟩
            rw [mk_put]
            obtain ⟨M3, f3⟩ := M2.setWs (v := .non) (o := none) rfl
            have hb3 := (f3.tups M2) b _ hb
            generalize upd H2 m (.dK (mineD mr mc .non)) = H3 at M3 f3 hb3
            refine ⟨_, rfl, _, rfl, m, mr, mc, _, b, w, rfl, M3, hb3, epg ▸ hp, fun u H4 M4 f4 hu4 => ⟨(by show 1 ≤ sizeLine; decide), fun l hl => ⟨(by show 0 ≤ sizeLine; decide), fun l2 hl2 => ⟨(by show 2 ≤ sizeLine; decide), fun z hz => ?_⟩⟩⟩⟩
            have e : S.loan p r n = (({ S.hold p r n with ws := none } : DS).done w, [.t [.s w.tag, .i w.pg, .i ((S.hold p r n).num w)]]) := by
              unfold DS.loan
              rw [hws]
              dsimp only
              rw [if_pos ⟨epg, hok⟩]
            refine k _ _ ?_ (f02.trans (f3.trans (f4.trans ((MF.new hl).trans ((MF.new hl2).trans (MF.new hz)))))) ?_
            · show MineAt _ m mr mc (S.loan p r n).1
              rw [e]; exact ((M4.new hl).new hl2).new hz
            · show Rep _ _ (.t [.l (S.loan p r n).2, .l []])
              rw [e]
              have k4 := (f02.trans (f3.trans f4)).kept M M4
              refine repF_tup (((k4.new hl).new hl2).free hz) hz ?_
              simp only [RepL]
              refine ⟨_, _, rfl, (repF_lst (k4.free hl) hl ?_).mono (nw_mono (seq_new hl2)), _, _, rfl, repF_lst ((k4.new hl).free hl2) hl2 (by simp only [RepL]), rfl⟩
              simp only [RepL, Rep]
              refine ⟨_, _, rfl, ⟨u, _, rfl, nw_of hu4 (k4.tup hu4), _, _, rfl, rfl, _, _, rfl, rfl, _, _, rfl, ?_, rfl⟩, rfl⟩
              cases w <;> rfl
          have no : ¬ (S.hold p r n).ok w → ∀ l, H2 l = none → ∀ l2, (upd H2 l (.lst [])) l2 = none → ∀ z, (upd (upd H2 l (.lst [])) l2 (.lst [])) z = none → Q (.ref z) (upd (upd (upd H2 l (.lst [])) l2 (.lst [])) z (.tup [.ref l, .ref l2])) := fun hok => by
            have e : S.loan p r n = (S.hold p r n, []) := by
              unfold DS.loan
              rw [hws]
              dsimp only
              rw [if_neg fun q => hok q.2]
            exact none_ (by rw [e]) (by rw [e])
          have hrt : (S.hold p r n).rt w.pg = r := by rw [epg, DS.hold_rt]
          refine ⟨_, rfl, b, _, 0, _, rfl, rfl, SqT.of hb, W.at0 w, rfl, _, rfl, ?_⟩
          cases w with
          | look q =>
            refine iteFb (vs_ne (show ("look" : Str) ≠ "put" by decide +kernel)) (iteF ?_)
            refine yes ?_
            cases r with
            | no => exact absurd rfl hni
            | rd => exact DS.ok_rd_look hrt
            | wr => exact DS.ok_wr hrt
          | put q z =>
            refine iteTb vs_eq ?_
            refine ⟨_, rfl, a, _, 2, .str r.s, rfl, rfl, SqT.of ha2, rfl, rfl, _, rfl, ?_⟩
            cases r with
            | no => exact absurd rfl hni
            | rd =>
              refine iteTb vs_eq ?_
              exact ⟨(by show 0 ≤ sizeLine; decide), fun l hl => ⟨(by show 0 ≤ sizeLine; decide), fun l2 hl2 => ⟨(by show 2 ≤ sizeLine; decide), fun z hz => no (DS.ok_rd_put hrt) l hl l2 hl2 z hz⟩⟩⟩
            | wr =>
              refine iteFb (vs_ne (show ("write" : Str) ≠ "read" by decide +kernel)) ?_
              exact yes (DS.ok_wr hrt)
        · refine iteTb (by rw [show decide (V.int w.pg = V.int (Let.lend p r n).pg) = false from decide_eq_false fun z => epg (V.int.inj z)]; rfl) (iteT ?_)
          have e : S.loan p r n = (S.hold p r n, []) := by
            unfold DS.loan
            rw [hws]
            dsimp only
            rw [if_neg fun q => epg q.1]
          exact ⟨(by show 0 ≤ sizeLine; decide), fun l hl => ⟨(by show 0 ≤ sizeLine; decide), fun l2 hl2 => ⟨(by show 2 ≤ sizeLine; decide), fun z hz => none_ (by rw [e]) (by rw [e]) l hl l2 hl2 z hz⟩⟩⟩
    | back p r =>
      refine ⟨_, rfl, a, _, 0, .str "back", rfl, rfl, SqT.of ha, rfl, rfl, _, rfl, iteFb (vs_ne (show ("back" : Str) ≠ "lend" by decide +kernel)) ?_⟩
      -- what is told in the end
      have fin : ∀ (H1 : Hp) (x : V), x = S.tell p → MineAt H1 m mr mc (S.down p r) → MF H H1 m mr mc → (tRet (tTup (tCons (tLst tNil) (tCons (tLst (tCons (tTup (tCons (tC (.str "answer")) (tCons (tVar 2) (tCons (tVar 5) tNil)))) tNil)) tNil))))
          { nx := fun _ H' => Q .non H', rt := Q } [some (.ref m), some (.ref a), some (.int p), some (.str (S.rt p).s), none, some x] H1 := fun H1 x ex M1 f1 => by
        subst ex
        refine ⟨(by show 0 ≤ sizeLine; decide), fun l hl => ⟨_, rfl, _, rfl, (by show 3 ≤ sizeLine; decide), fun z hz => ⟨(by show 1 ≤ sizeLine; decide), fun l2 hl2 => ⟨(by show 2 ≤ sizeLine; decide), fun y hy => ?_⟩⟩⟩⟩
        refine k _ _ ((((M1.new hl).new hz).new hl2).new hy) (f1.trans ((MF.new hl).trans ((MF.new hz).trans ((MF.new hl2).trans (MF.new hy))))) ?_
        have k1 := f1.kept M M1
        refine repF_tup ((((k1.new hl).new hz).new hl2).free hy) hy ?_
        simp only [RepL]
        refine ⟨_, _, rfl, ((repF_lst (k1.free hl) hl (by simp only [RepL])).mono (nw_mono (seq_new hz))).mono (nw_mono (seq_new hl2)), _, _, rfl, repF_lst (((k1.new hl).new hz).free hl2) hl2 ?_, rfl⟩
        simp only [RepL]
        refine ⟨_, _, rfl, repF_tup ((k1.new hl).free hz) hz ?_, rfl⟩
        simp only [RepL]
        exact ⟨_, _, rfl, by simp only [Rep], _, _, rfl, by simp only [Rep], _, _, rfl, rep_tell _ _ _, rfl⟩
      have low : ∀ x, x = S.tell p → (S.rt p = .wr ∨ r = .no) → (tSeq (tAsg (tOp (rIxT K) (tVar 1) (tC (.int 2))) (gSub (tDGet (tVar 0) (tC (.str "rights"))) (tVar 2) rSetL)) (tRet (tTup (tCons (tLst tNil) (tCons (tLst (tCons (tTup (tCons (tC (.str "answer")) (tCons (tVar 2) (tCons (tVar 5) tNil)))) tNil)) tNil)))))
          { nx := fun _ H' => Q .non H', rt := Q } [some (.ref m), some (.ref a), some (.int p), some (.str (S.rt p).s), none, some x] H := fun x ex hd => by
        obtain ⟨j, j1, j2⟩ := setR S hp r (S.nm p)
        refine ⟨_, rfl, a, _, 2, .str r.s, rfl, rfl, SqT.of ha, rfl, _, rfl, m, .ref mr, rfl, DGet.k (k := Sum.inr "rights") a1, _, rfl, mr, _, _, j, rfl, rfl, c1, j1, ?_⟩
        obtain ⟨M1, f1⟩ := M.setRt (p := p) r j2
        refine fin _ x ex ?_ f1
        unfold DS.down
        by_cases e : (S.rt p).k ≤ r.k
        · rw [if_pos e]
          have er : S.rt p = r := by
            rcases hd with z | z
            · rw [z] at e ⊢
              cases r with
              | no => simp [Rt.k] at e
              | rd => simp [Rt.k] at e
              | wr => rfl
            · subst z
              cases hq : S.rt p with
              | no => rfl
              | rd => rw [hq] at e; simp [Rt.k] at e
              | wr => rw [hq] at e; simp [Rt.k] at e
          refine M1.eqv (fun q => ?_) (fun q => ?_) rfl
          · unfold DS.hold; dsimp only
            by_cases z : q = p
            · rw [if_pos z, z, er]
            · rw [if_neg z]
          · unfold DS.hold; dsimp only
            by_cases z : q = p
            · rw [if_pos z, z]
            · rw [if_neg z]
        · rw [if_neg e]; exact M1
      have stay : ∀ x, x = S.tell p → ¬ (S.rt p = .wr ∨ r = .no) → MineAt H m mr mc (S.down p r) := fun x ex hd => by
        unfold DS.down
        rw [if_pos ?_]
        · exact M
        · cases hq : S.rt p with
          | wr => exact absurd (.inl hq) hd
          | no => cases r <;> simp [Rt.k]
          | rd =>
            cases r with
            | no => exact absurd (.inr rfl) hd
            | rd => exact Int.le_refl _
            | wr => simp [Rt.k]
      refine ⟨_, rfl, rfl, _, rfl, ?_⟩
      by_cases ew : S.rt p = .wr
      · have et : S.tell p = .int (S.nm p) := by unfold DS.tell; rw [if_pos ew]
        refine iteTb (by show decide (V.str (S.rt p).s = V.str "write") = true; rw [ew]; exact vs_eq) ?_
        refine ⟨_, rfl, m, .ref mc, rfl, DGet.k (k := Sum.inr "copies") a1, _, rfl, mc, _, _, _, rfl, rfl, SqL.of d1, atC _ hp, ?_⟩
        refine ⟨_, rfl, rfl, _, rfl, iteTb (by show decide (V.str (S.rt p).s = V.str "write") = true; rw [ew]; exact vs_eq) (iteT ?_)⟩
        exact low _ et.symm (.inl ew)
      · have et : S.tell p = .non := by unfold DS.tell; rw [if_neg ew]
        refine iteFb (rt_ne (x := "write") (q := .wr) rfl ew) ?_
        refine ⟨_, rfl, rfl, _, rfl, iteFb (rt_ne (x := "write") (q := .wr) rfl ew) ?_⟩
        refine ⟨_, rfl, a, _, 2, .str r.s, rfl, rfl, SqT.of ha, rfl, rfl, _, rfl, ?_⟩
        by_cases er : r = .no
        · subst er
          refine iteTb vs_eq ?_
          exact low _ et.symm (.inr rfl)
        · refine iteFb (rt_ne (x := "none") (q := .no) rfl er) ?_
          exact fin H _ et.symm (stay _ et.symm fun z => z.elim ew er) (MF.refl _ _ _ _)
end
end K07
namespace K07
open PySem L2
def spDue : Sp := fun vs H Q _ => ∃ m mr mc S op v, vs = [.ref m, .str (Op.word op), v] ∧ MineAt H m mr mc S ∧ Rep H v op.d ∧ Pg op.pg ∧ op.nice ∧
  ∀ u H', MineAt H' m mr mc (S.do op).1 → MF H H' m mr mc → Rep H' u (S.do op).2 → Q u H'
def spAsDue : Sp := fun vs H Q _ => ∃ v d, vs = [v] ∧ Rep H v d ∧ d ≠ .n ∧ (∀ k, d ≠ .i k) ∧ ∀ u H', Same H H' → Rep H' u (asDue d) → Q u H'
def spAsked (C : Addr) : Sp := fun vs H Q _ => ∃ p d S c op v, vs = [.ref p, .str (Op.word op), v] ∧ DeskAt C H p d S c ∧ c ≤ 800000 ∧ Rep H v op.d ∧ Pg op.pg ∧
  ∀ u H', DeskAt C H' p d (S.do op).1 (c + 2) → DF H H' p d → Rep H' u (asDue (S.do op).2) → Q u H'
/-- refused: with which text -/
def DS.bad (S : DS) : Op → Option Str
  | .look _ => S.ws.map fun _ => "waiting"
  | .put _ _ => S.ws.map fun _ => "waiting"
  | .lend _ _ _ => none
  | .back _ _ => none
  | .rest p => if S.rt p = .no then some "no copy" else none
def spCalled (C CW CN : Addr) : Sp := fun vs H Q E => ∃ p d S c op v, vs = [.ref p, .str (Op.word op), v] ∧ DeskAt C H p d S c ∧ c ≤ 800000 ∧ Rep H v op.d ∧ Pg op.pg ∧
  (S.bad op = none → ∀ u H', DeskAt C H' p d (S.do op).1 (c + 2) → DF H H' p d → Rep H' u (S.do op).2 → Q u H') ∧
  (S.bad op = some "waiting" → E (.ref CW) none H) ∧ (S.bad op = some "no copy" → E (.ref CN) none H)
def spTakenBy (C : Addr) : Sp := fun vs H Q _ => ∃ (p d : Addr) (S : DS) (c : Nat) (a : Addr) (xs : List V) (ls : List Let), vs = [.ref p, .ref a] ∧ DeskAt C H p d S c ∧ c + 2 * ls.length ≤ 900000 ∧ H a = some (.lst xs) ∧ RepL H xs (ls.map Let.d) ∧ ls.length ≤ 1000 ∧
  ∀ v H', DeskAt C H' p d (S.takes ls).1 (c + 2 * ls.length) → DF H H' p d → Rep H' v (.l (S.takes ls).2) → Q v H'
theorem DS.want_asDue (S : DS) (w : W) : asDue (S.want w).2 = (S.want w).2 := by unfold DS.want; split <;> rfl
theorem DS.take_asDue (S : DS) (l : Let) : asDue (S.take l).2 = (S.take l).2 := by cases l <;> rfl
section
variable {P : Program} {w : World} {K : PySem.W.Frag} {mg : Str → Option Value} {base : Heap} {t : Adr}
theorem ok_l_due_of (T : Txt K w mg t) : FnOk P w K mg base CX0 3 t.f_l_due_of t.fd_l_due_of ["_law_mine", "_law_word", "_law_what"] spDue := by
  refine T.F_l_due_of.ok sc_l_due_of (fun vs H Q E h => ?_) (fun cdv A outer s H vs Q E hr h => ?_)
  · obtain ⟨m, mr, mc, S, op, v, rfl, _⟩ := h; rfl
  · obtain ⟨m, mr, mc, S, op, v, rfl, M, rv, hp, hni, k⟩ := h
    refine ⟨_, (pss_cons (ps_if (pt_cmpR op_eq (pv 1) pe_str (nomark _)) (pss_one (ps_ret (pe_call (ok_l_wanted T) (hr.mono (by decide) : Room 2 _) (by rfl) T.m_l_wanted T.F_l_wanted.kp T.b_l_wanted .nil pass0 (pa_cons (pv 0) (pa_cons (pv 2) pa_nil))))) pss_nil)
      (pss_cons (ps_if (pt_cmpR op_eq (pv 1) pe_str (nomark _)) (pss_one (ps_ret (pe_call (ok_l_taken T) (hr.mono (by decide) : Room 2 _) (by rfl) T.m_l_taken T.F_l_taken.kp T.b_l_taken .nil pass0 (pa_cons (pv 0) (pa_cons (pv 2) pa_nil))))) pss_nil)
      (pss_one (ps_ret (pe_call (ok_l_rested T) (hr.mono (by decide) : Room 1 _) (by rfl) T.m_l_rested T.F_l_rested.kp T.b_l_rested .nil pass0 (pa_cons (pv 0) (pa_cons (pv 2) pa_nil))))))), ?_⟩
    have want : ∀ (wi : W) (a : Addr), op = (match wi with | .look p => .look p | .put p n => .put p n) → v = .ref a → H a = some (.tup wi.vs) → spWantL [.ref m, v] H Q E0 := fun wi a e ev ha => by
      subst ev
      have ep : op.pg = wi.pg := by cases wi <;> (subst e; rfl)
      refine ⟨m, mr, mc, S, a, wi, rfl, M, ha, ep ▸ hp, ?_⟩
      cases hws : S.ws with
      | none =>
        refine fun u H' M' f' r' => k u H' ?_ f' ?_
        · cases wi <;> (subst e; simp only [DS.do, hws]; exact M')
        · cases wi <;> (subst e; simp only [DS.do, hws]; exact r')
      | some w' =>
        refine k _ _ ?_ (MF.refl _ _ _ _) ?_
        · cases wi <;> (subst e; simp only [DS.do, hws]; exact M)
        · cases wi <;> (subst e; simp only [DS.do, hws, Rep])
    have take : ∀ (l : Let) (a : Addr), op = (match l with | .lend p r n => .lend p r n | .back p r => .back p r) → v = .ref a → H a = some (.tup l.vs) → spTakeL [.ref m, v] H Q E0 := fun l a e ev ha => by
      subst ev
      have ep : op.pg = l.pg := by cases l <;> (subst e; rfl)
      refine ⟨m, mr, mc, S, a, l, rfl, M, ha, ep ▸ hp, ?_, fun u H' M' f' r' => k u H' ?_ f' ?_⟩
      · cases l <;> (subst e; exact hni)
      · cases l <;> (subst e; exact M')
      · cases l <;> (subst e; exact r'.mono nw_seq)
    refine ⟨_, rfl, rfl, _, rfl, ?_⟩
    cases op with
    | look p =>
      obtain ⟨a, ev, ha⟩ := rep_wish (w := .look p) rv
      refine iteTb vs_eq ?_
      exact ⟨_, rfl, _, rfl, want (.look p) a rfl ev ha⟩
    | put p n =>
      obtain ⟨a, ev, ha⟩ := rep_wish (w := .put p n) rv
      refine iteTb vs_eq ?_
      exact ⟨_, rfl, _, rfl, want (.put p n) a rfl ev ha⟩
    | lend p r n =>
      obtain ⟨a, ev, ha⟩ := rep_let (l := .lend p r n) rv
      refine iteFb (vs_ne (show ("take" : Str) ≠ "want" by decide +kernel)) ?_
      refine ⟨_, rfl, rfl, _, rfl, iteTb vs_eq ?_⟩
      exact ⟨_, rfl, _, rfl, take (.lend p r n) a rfl ev ha⟩
    | back p r =>
      obtain ⟨a, ev, ha⟩ := rep_let (l := .back p r) rv
      refine iteFb (vs_ne (show ("take" : Str) ≠ "want" by decide +kernel)) ?_
      refine ⟨_, rfl, rfl, _, rfl, iteTb vs_eq ?_⟩
      exact ⟨_, rfl, _, rfl, take (.back p r) a rfl ev ha⟩
    | rest p =>
      simp only [Op.d, Rep] at rv
      subst rv
      refine iteFb (vs_ne (show ("rest" : Str) ≠ "want" by decide +kernel)) ?_
      refine ⟨_, rfl, rfl, _, rfl, iteFb (vs_ne (show ("rest" : Str) ≠ "take" by decide +kernel)) ?_⟩
      refine ⟨_, rfl, _, rfl, m, mr, mc, S, p, rfl, M, hp, ?_⟩
      by_cases e : S.rt p = .no
      · rw [if_pos e]
        refine k _ _ ?_ (MF.refl _ _ _ _) ?_
        · simp only [DS.do, if_pos e]; exact M
        · simp only [DS.do, if_pos e, Rep]
      · rw [if_neg e]
        refine fun u H' M' f' r' => k u H' ?_ f' ?_
        · simp only [DS.do, if_neg e]; exact M'
        · simp only [DS.do, if_neg e]; exact r'
theorem ok_l_as_due (T : Txt K w mg t) : FnOk P w K mg base CX0 1 t.f_l_as_due t.fd_l_as_due ["_law_told"] spAsDue := by
  refine T.F_l_as_due.ok sc_l_as_due (fun vs H Q E h => ?_) (fun cdv A outer s H vs Q E hr h => ?_)
  · obtain ⟨v, d, rfl, _⟩ := h; rfl
  · obtain ⟨v, d, rfl, rv, h0, h1, k⟩ := h
    refine ⟨_, (pss_cons (ps_if (pt_val (pe_callB call_isi (by rfl) T.n_isinstance PyProof.Rows.Boot.«isinstance» (pa_cons (pv 0) (pa_cons (pe_bty (by rfl) T.n_str PyProof.Rows.Boot.«str») pa_nil)))) (pss_one (ps_ret (pe_tup (pa_cons pe_str (pa_cons (pv 0) pa_nil))))) pss_nil)
      (pss_one (ps_ret (pv 0)))), ?_⟩
    rcases same_tyOf rv with ⟨rfl, rfl⟩ | ⟨k1, rfl, rfl⟩ | ⟨x1, rfl, rfl⟩ | ⟨es, a, zs, rfl, rfl, ha, rz⟩ | ⟨es, a, zs, rfl, rfl, ha, rz⟩
    · exact absurd rfl h0
    · exact absurd rfl (h1 k1)
    · refine ⟨_, rfl, _, _, _, true, rfl, .str _, .inl ⟨_, rfl, kit_ss⟩, _, rfl, iteT ?_⟩
      refine ⟨_, rfl, (by show 2 ≤ sizeLine; decide), fun z hz => ?_⟩
      refine k _ _ (same_new hz) (rep_tup hz ?_)
      simp only [RepL, Rep]
      exact ⟨_, _, rfl, rfl, _, _, rfl, rfl, rfl⟩
    · refine ⟨_, rfl, _, _, _, false, rfl, .tup ha, .inl ⟨_, rfl, kit_ts⟩, _, rfl, iteF ?_⟩
      exact ⟨_, rfl, k _ _ (Same.refl _) rv⟩
    · refine ⟨_, rfl, _, _, _, false, rfl, .lst ha, .inl ⟨_, rfl, kit_ls⟩, _, rfl, iteF ?_⟩
      exact ⟨_, rfl, k _ _ (Same.refl _) rv⟩
end
end K07
namespace K07
open PySem L2
theorem RepL.get {H : Hp} : ∀ {ds : List D} {xs : List V} {i : Nat} {x : V}, RepL H xs ds → xs[i]? = some x → ∃ d, ds[i]? = some d ∧ Rep H x d
  | [], _, i, x, r, h => by simp only [RepL] at r; subst r; simp at h
  | d :: ds, _, 0, x, r, h => by
    simp only [RepL] at r
    obtain ⟨v, q, rfl, rv, _⟩ := r
    have e : v = x := by simpa using h
    subst e
    exact ⟨d, rfl, rv⟩
  | d :: ds, _, i + 1, x, r, h => by
    simp only [RepL] at r
    obtain ⟨v, q, rfl, _, rl⟩ := r
    obtain ⟨e, h1, h2⟩ := RepL.get (i := i) (x := x) rl (by simpa using h)
    exact ⟨e, by simpa using h1, h2⟩
theorem DS.takes_snoc (S : DS) : ∀ (ls : List Let) (l : Let), S.takes (ls ++ [l]) = (((S.takes ls).1.take l).1, (S.takes ls).2 ++ [((S.takes ls).1.take l).2])
  | [], l => rfl
  | l' :: ls, l => by
    show DS.takes S (l' :: (ls ++ [l])) = _
    simp only [DS.takes]
    rw [DS.takes_snoc (S.take l').1 ls l]
    rfl
theorem take_snoc {α : Type} {ls : List α} {i : Nat} {l : α} (h : ls[i]? = some l) : ls.take (i + 1) = ls.take i ++ [l] := by
  rw [List.take_add_one, h]; rfl
/-- a heap without one object -/
def hid (H : Hp) (a : Addr) : Hp := fun b => if b = a then none else H b
theorem hid_seq {H : Hp} {a : Addr} : SeqSame (hid H a) H := by
  constructor <;> (intro b xs h; unfold hid at h; split at h; cases h; exact h)
theorem hid_upd {H : Hp} {a : Addr} {o : HO} : hid (upd H a o) a = hid H a := by
  funext b
  unfold hid
  by_cases e : b = a
  · rw [if_pos e, if_pos e]
  · rw [if_neg e, if_neg e, upd_ne e]
theorem hid_mono {H H' : Hp} {a : Addr} (h : SeqSame H H') : SeqSame (hid H a) (hid H' a) := by
  constructor <;> (intro b xs e; unfold hid at e ⊢; split at e; cases e; rename_i z; rw [if_neg z]; first | exact h.1 b xs e | exact h.2 b xs e)
/-- a new thing doesn't reach an old list -/
theorem nw_hid {H H' : Hp} {a : Addr} {zs : List V} (h : H a = some (.lst zs)) : SeqSame (nw H H') (hid H' a) := by
  constructor <;> (intro b xs e; obtain ⟨e1, e2⟩ := nw_some e; unfold hid; split; (rename_i z; subst z; rcases e2 with q | ⟨_, q⟩ <;> (rw [h] at q; cases q)); exact e1)
section
variable {P : Program} {w : World} {K : PySem.W.Frag} {mg : Str → Option Value} {base : Heap} {t : Adr}
theorem DeskAt.updL {C : Addr} {H : Hp} {p d a : Addr} {S : DS} {c : Nat} {xs ys : List V} (D : DeskAt C H p d S c) (h : H a = some (.lst xs)) : DeskAt C (upd H a (.lst ys)) p d S c := by
  obtain ⟨⟨dx, v, h1, _⟩, ⟨kvs, h2, _⟩⟩ := id D
  refine D.keep (fun b zs e => by rw [upd_ne (ne_of e h (by intro z; cases z))]; exact e) (fun o e => ?_) (fun o e => ?_)
  · rw [upd_ne (ne_of h1 h (by intro z; cases z))]; exact e
  · rw [upd_ne (ne_of h2 h (by intro z; cases z))]; exact e
theorem ok_taken_by_desk (T : Txt K w mg t) : FnOk P w K mg base CX0 5 t.f_taken_by_desk t.fd_taken_by_desk ["desk", "letters"] (spTakenBy t.C_Desk) := by
  refine T.F_taken_by_desk.ok sc_taken_by_desk (fun vs H Q E h => ?_) (fun cdv A outer s H vs Q E hr h => ?_)
  · obtain ⟨p, d, S, c, a, xs, ls, rfl, _⟩ := h; rfl
  · obtain ⟨p, d, S, c, a, xs, ls, rfl, DA, hc, ha, rx, hl, k⟩ := h
    have hu := hu_of hr
    have hxl : xs.length = ls.length := by rw [rx.length, List.length_map]
    refine ⟨_, (pss_one (ps_ret (pe_comp (compScope (xs := ["letter"]) (ys := ["desk"]) (js := [0]) rfl (by decide +kernel) (by decide +kernel) (by decide +kernel) (by rfl) ⟨⟨rfl, Or.inl rfl⟩, trivial⟩) rfl (pi_list (pv 1)) (fun _ _ _ _ _ => (pg_name (i := 0) (show List.Nodup ((["letter"] : List Str) ++ (["desk"] : List Str) : List Str) by decide +kernel) rfl (Or.inl rfl))) (fun _ _ _ _ _ => pif_nil) (fun _ _ _ _ _ => (pe_meth (pv 1) T.c_Desk T.mt_Desk_take (ok_Desk_take T) (hr.mono (by decide) : Room 4 _) T.b_Desk_take .nil pass0 (pa_cons (pv 0) pa_nil)))))), ?_⟩
    refine ⟨_, rfl, a, rfl, ⟨_, SqL.of ha⟩, fun acc hacc => ?_⟩
    have nacc : ∀ b o, H b = some o → b ≠ acc := fun b o e => ne_of_none e hacc
    refine comp_list (xs := xs) (fun i zs σ H2 => ∃ o, σ = [o, some (.ref p)] ∧ DeskAt t.C_Desk H2 p d (S.takes (ls.take i)).1 (c + 2 * i) ∧ DF H H2 p d ∧ H2 acc = some (.lst zs) ∧ RepL (hid H2 acc) zs (S.takes (ls.take i)).2 ∧ zs.length = i)
      ⟨none, rfl, (DA.new hacc).mono (Nat.le_refl _), DF.new hacc, upd_same, by simp [DS.takes, RepL], rfl⟩ ?_ ?_ ?_
    · rintro i zs σ H2 hi ⟨o, rfl, D2, f2, h2, _⟩
      obtain ⟨⟨dx, v, h1, _⟩, ⟨kvs, h2', _⟩⟩ := id DA
      exact ⟨SqL.of (f2 a _ ha (ne_of ha h1 (by intro z; cases z)) (ne_of ha h2' (by intro z; cases z))), h2⟩
    · rintro i x zs σ H2 hx hi ⟨o, rfl, D2, f2, h2, r2, hz⟩
      obtain ⟨e, he, re⟩ := RepL.get rx hx
      rw [List.getElem?_map] at he
      cases hli : ls[i]? with
      | none => rw [hli] at he; cases he
      | some l =>
        rw [hli] at he
        cases he
        obtain ⟨b, rfl, hb⟩ := rep_let re
        have hb2 := (f2.tups DA) b _ hb
        obtain ⟨⟨dx, v, h1, _⟩, ⟨kvs2, h22, _⟩⟩ := id D2
        refine gYes_if ?_
        refine ⟨_, rfl, p, dx, _, rfl, h1, flds_no _ _ (by decide +kernel) (by decide +kernel), _, rfl, p, d, _, _, b, l, rfl, D2, (by omega), hb2, fun v H3 D3 f3 r3 => ?_⟩
        have ha3 : H3 acc = some (.lst zs) := f3 acc _ h2 (ne_of h2 h1 (by intro z; cases z)) (ne_of h2 h22 (by intro z; cases z))
        refine CStep.mk hi ha3 (by have : (1000 : Nat) < sizeLine := by decide
                                   omega) ⟨_, rfl, ?_, ?_, upd_same, ?_, by simp [hz]⟩
        · rw [take_snoc hli, DS.takes_snoc]
          exact (D3.updL ha3).mono (by omega)
        · intro b' o' e' hp hd
          rw [upd_ne (nacc b' o' e')]
          exact f3 b' o' (f2 b' o' e' hp hd) hp hd
        · rw [take_snoc hli, DS.takes_snoc, hid_upd]
          exact (r2.mono (hid_mono (f3.seqs D2))).snoc (r3.mono (nw_hid h2))
    · rintro zs σ H2 ⟨o, rfl, D2, f2, h2, r2, hz⟩
      rw [hxl, List.take_length] at D2 r2
      refine k _ _ D2 f2 ?_
      simp only [Rep]
      exact ⟨acc, zs, rfl, h2, r2.mono hid_seq⟩
end
end K07
namespace K07
open PySem L2
theorem Pg.small {p : Int} (h : Pg p) : p.natAbs < 1000000 := by rcases h with rfl | rfl | rfl <;> decide
theorem DS.do_look {S : DS} {p : Int} (h : S.ws = none) : S.do (.look p) = S.want (.look p) := by simp only [DS.do, h]
theorem DS.do_put {S : DS} {p n : Int} (h : S.ws = none) : S.do (.put p n) = S.want (.put p n) := by simp only [DS.do, h]
theorem DS.do_rest {S : DS} {p : Int} (h : S.rt p ≠ .no) : S.do (.rest p) = S.rest p := by simp only [DS.do, if_neg h]
section
variable {P : Program} {w : World} {K : PySem.W.Frag} {mg : Str → Option Value} {base : Heap} {t : Adr}
theorem ok_l_called (T : Txt K w mg t) : FnOk P w K mg base (CX1 P w) 6 t.f_l_called t.fd_l_called ["_law_desk", "_law_word", "_law_what"] (spCalled t.C_Desk t.C_Waiting t.C_NoCopy) := by
  refine T.F_l_called.okX sc_l_called (fun vs H Q E h => ?_) (fun cdv A outer s H vs Q E hr h => ?_)
  · obtain ⟨p, d, S, c, op, v, rfl, _⟩ := h; rfl
  · obtain ⟨p, d, S, c, op, v, rfl, DA, hc, rv, hp, k1, k2, k3⟩ := h
    obtain ⟨⟨dx, vw, h1, _⟩, _⟩ := id DA
    refine ⟨_, (pss_cons (ps_if (pt_cmpR op_eq (pv 1) pe_str (nomark _)) (pss_one (ps_ret (pe_meth (pv 0) T.c_Desk T.mt_Desk_want (ok_Desk_want T) (hr.mono (by decide) : Room 3 _) T.b_Desk_want .nil passX (pa_cons (pv 2) pa_nil)))) pss_nil)
      (pss_cons (ps_if (pt_cmpR op_eq (pv 1) pe_str (nomark _)) (pss_one (ps_ret (pe_ix ix_list (pe_call (ok_taken_by_desk T) (hr.mono (by decide) : Room 5 _) (by rfl) T.m_taken_by_desk T.F_taken_by_desk.kp T.b_taken_by_desk .nil pass0 (pa_cons (pv 0) (pa_cons (pe_lst (pa_cons (pv 2) pa_nil)) pa_nil))) pe_int (fun _ _ => rfl)))) pss_nil)
      (pss_one (ps_ret (pe_meth (pv 0) T.c_Desk T.mt_Desk_rest (ok_Desk_rest T) (hr.mono (by decide) : Room 3 _) T.b_Desk_rest .nil passX (pa_cons (pv 2) pa_nil)))))), ?_⟩
    have take : ∀ (l : Let) (a : Addr), v = .ref a → H a = some (.tup l.vs) → (∀ u H', DeskAt t.C_Desk H' p d (S.take l).1 (c + 2) → DF H H' p d → Rep H' u (S.take l).2 → Q u H') →
        (tRet (tOp (rIxL K) (tCall (spTakenBy t.C_Desk) [] E0 (tCons (tVar 0) (tCons (tLst (tCons (tVar 2) tNil)) tNil))) (tC (.int 0)))) { nx := fun _ H' => Q .non H', rt := Q } [some (.ref p), some (.str "take"), some v] H := fun l a ev ha q => by
      subst ev
      refine ⟨_, rfl, _, rfl, (by show 1 ≤ sizeLine; decide), fun b hb => ?_⟩
      refine ⟨p, d, S, c, b, [.ref a], [l], rfl, DA.new hb, (by simp; omega), upd_same, ?_, (by simp), fun u H' D' f' r' => ?_⟩
      · simp only [List.map_cons, List.map_nil, RepL]
        refine ⟨_, _, rfl, ?_, rfl⟩
        have := tup_new (o := .lst [.ref a]) hb a _ ha
        cases l <;> simp only [Let.d, Rep, RepL]
        · exact ⟨a, _, rfl, this, _, _, rfl, rfl, _, _, rfl, rfl, _, _, rfl, rfl, _, _, rfl, rfl, rfl⟩
        · exact ⟨a, _, rfl, this, _, _, rfl, rfl, _, _, rfl, rfl, _, _, rfl, rfl, rfl⟩
      · simp only [DS.takes, Rep, RepL] at r'
        obtain ⟨e, xs, rfl, he, u0, r0, rfl, ru, rfl⟩ := r'
        exact ⟨e, _, 0, u0, rfl, rfl, SqL.of he, rfl, q _ _ D' ((DF.new hb).trans f') ru⟩
    have want : ∀ (wi : W) (a : Addr), v = .ref a → H a = some (.tup wi.vs) → (S.ws = none → ∀ u H', DeskAt t.C_Desk H' p d (S.want wi).1 (c + 2) → DF H H' p d → Rep H' u (S.want wi).2 → Q u H') → (∀ w', S.ws = some w' → E (.ref t.C_Waiting) none H) → spWant t.C_Desk t.C_Waiting [.ref p, v] H Q E := fun wi a ev ha q1 q2 => by
      subst ev
      refine ⟨p, d, S, c, a, wi, rfl, DA, by omega, ha, ?_⟩
      cases hws : S.ws with
      | none => exact q1 hws
      | some w' => exact q2 w' hws
    refine ⟨_, rfl, rfl, _, rfl, ?_⟩
    cases op with
    | look q =>
      obtain ⟨a, ev, ha⟩ := rep_wish (w := .look q) rv
      refine iteTb vs_eq ?_
      refine ⟨_, rfl, p, dx, _, rfl, h1, flds_no _ _ (by decide +kernel) (by decide +kernel), _, rfl, want (.look q) a ev ha (fun hws => ?_) fun w' hws => ?_⟩
      · have := k1 (by simp [DS.bad, hws])
        rw [DS.do_look hws] at this
        exact this
      · exact k2 (by simp [DS.bad, hws])
    | put q n =>
      obtain ⟨a, ev, ha⟩ := rep_wish (w := .put q n) rv
      refine iteTb vs_eq ?_
      refine ⟨_, rfl, p, dx, _, rfl, h1, flds_no _ _ (by decide +kernel) (by decide +kernel), _, rfl, want (.put q n) a ev ha (fun hws => ?_) fun w' hws => ?_⟩
      · have := k1 (by simp [DS.bad, hws])
        rw [DS.do_put hws] at this
        exact this
      · exact k2 (by simp [DS.bad, hws])
    | lend q r n =>
      obtain ⟨a, ev, ha⟩ := rep_let (l := .lend q r n) rv
      refine iteFb (vs_ne (show ("take" : Str) ≠ "want" by decide +kernel)) ?_
      refine ⟨_, rfl, rfl, _, rfl, iteTb vs_eq ?_⟩
      exact take (.lend q r n) a ev ha (k1 rfl)
    | back q r =>
      obtain ⟨a, ev, ha⟩ := rep_let (l := .back q r) rv
      refine iteFb (vs_ne (show ("take" : Str) ≠ "want" by decide +kernel)) ?_
      refine ⟨_, rfl, rfl, _, rfl, iteTb vs_eq ?_⟩
      exact take (.back q r) a ev ha (k1 rfl)
    | rest q =>
      simp only [Op.d, Rep] at rv
      subst rv
      refine iteFb (vs_ne (show ("rest" : Str) ≠ "want" by decide +kernel)) ?_
      refine ⟨_, rfl, rfl, _, rfl, iteFb (vs_ne (show ("rest" : Str) ≠ "take" by decide +kernel)) ?_⟩
      refine ⟨_, rfl, p, dx, _, rfl, h1, flds_no _ _ (by decide +kernel) (by decide +kernel), _, rfl, p, d, S, c, q, rfl, DA, by omega, Pg.small hp, ?_⟩
      by_cases e : S.rt q = .no
      · rw [if_pos e]
        exact k3 (by simp [DS.bad, e])
      · rw [if_neg e]
        have := k1 (by simp [DS.bad, e])
        rw [DS.do_rest e] at this
        exact this
theorem asDue_want (S : DS) (wi : W) : asDue (S.want wi).2 = (S.want wi).2 := S.want_asDue wi
theorem ok_l_asked (T : Txt K w mg t) : FnOk P w K mg base CX0 5 t.f_l_asked t.fd_l_asked ["_law_desk", "_law_word", "_law_what"] (spAsked t.C_Desk) := by
  refine T.F_l_asked.ok sc_l_asked (fun vs H Q E h => ?_) (fun cdv A outer s H vs Q E hr h => ?_)
  · obtain ⟨p, d, S, c, op, v, rfl, _⟩ := h; rfl
  · obtain ⟨p, d, S, c, op, v, rfl, DA, hc, rv, hp, k⟩ := h
    obtain ⟨⟨dx, vw, h1, _⟩, _⟩ := id DA
    refine ⟨_, (pss_cons (ps_set (i := 3) sc_l_asked.nd rfl (Or.inl rfl) pe_non)
      (pss_cons (ps_try ownFr0 (fun _ _ => (pss_one (ps_if (pt_cmpR op_eq (pv 1) pe_str (nomark _)) (pss_one (ps_set (i := 3) sc_l_asked.nd rfl (Or.inl rfl) (pe_methR (pv 0) T.c_Desk T.mt_Desk_want (ok_Desk_want T) (hr.mono (by decide) : Room 3 _) T.b_Desk_want (pa_cons (pv 2) pa_nil)))) (pss_one (ps_if (pt_cmpR op_eq (pv 1) pe_str (nomark _)) (pss_one (ps_set (i := 3) sc_l_asked.nd rfl (Or.inl rfl) (pe_meth (pv 0) T.c_Desk T.mt_Desk_take (ok_Desk_take T) (hr.mono (by decide) : Room 4 _) T.b_Desk_take .nil pass0 (pa_cons (pv 2) pa_nil)))) (pss_one (ps_set (i := 3) sc_l_asked.nd rfl (Or.inl rfl) (pe_methR (pv 0) T.c_Desk T.mt_Desk_rest (ok_Desk_rest T) (hr.mono (by decide) : Room 3 _) T.b_Desk_rest (pa_cons (pv 2) pa_nil))))))))) (ph_own ownFr0 (by rfl) T.g_Waiting T.x_Waiting (fun _ => (pss_one (ps_set (i := 3) sc_l_asked.nd rfl (Or.inl rfl) (pe_tup (pa_cons pe_str (pa_cons pe_str pa_nil)))))) (ph_own ownFr0 (by rfl) T.g_NoCopy T.x_NoCopy (fun _ => (pss_one (ps_set (i := 3) sc_l_asked.nd rfl (Or.inl rfl) (pe_tup (pa_cons pe_str (pa_cons pe_str pa_nil)))))) ph_nil)))
      (pss_one (ps_ret (pv 3))))), ?_⟩
    have refd : ∀ x, (S.do op) = (S, .s x) → ∀ z, H z = none → Q (.ref z) (upd H z (.tup [.str "refused", .str x])) := fun x e z hz => by
      rw [e] at k
      refine k _ _ ((DA.new hz).mono (by omega)) (DF.new hz) (rep_tup hz ?_)
      simp only [RepL, Rep]
      exact ⟨_, _, rfl, rfl, _, _, rfl, rfl, rfl⟩
    refine ⟨_, rfl, rfl, _, rfl, ?_⟩
    cases op with
    | look q =>
      obtain ⟨a, rfl, ha⟩ := rep_wish (w := .look q) rv
      refine iteTb vs_eq ?_
      refine ⟨_, rfl, p, dx, _, rfl, h1, flds_no _ _ (by decide +kernel) (by decide +kernel), _, rfl, p, d, S, c, a, .look q, rfl, DA, by omega, ha, ?_⟩
      cases hws : S.ws with
      | none =>
        rw [DS.do_look hws, asDue_want] at k
        exact fun u H' D' f' r' => ⟨_, rfl, k u H' D' f' r'⟩
      | some w' =>
        refine ⟨t.C_Waiting, _, rfl, T.x_Waiting, iteTb (by simp) ?_⟩
        exact ⟨(by show 2 ≤ sizeLine; decide), fun z hz => ⟨_, rfl, refd "waiting" (by simp only [DS.do, hws]) z hz⟩⟩
    | put q n =>
      obtain ⟨a, rfl, ha⟩ := rep_wish (w := .put q n) rv
      refine iteTb vs_eq ?_
      refine ⟨_, rfl, p, dx, _, rfl, h1, flds_no _ _ (by decide +kernel) (by decide +kernel), _, rfl, p, d, S, c, a, .put q n, rfl, DA, by omega, ha, ?_⟩
      cases hws : S.ws with
      | none =>
        rw [DS.do_put hws, asDue_want] at k
        exact fun u H' D' f' r' => ⟨_, rfl, k u H' D' f' r'⟩
      | some w' =>
        refine ⟨t.C_Waiting, _, rfl, T.x_Waiting, iteTb (by simp) ?_⟩
        exact ⟨(by show 2 ≤ sizeLine; decide), fun z hz => ⟨_, rfl, refd "waiting" (by simp only [DS.do, hws]) z hz⟩⟩
    | lend q r n =>
      obtain ⟨a, rfl, ha⟩ := rep_let (l := .lend q r n) rv
      refine iteFb (vs_ne (show ("take" : Str) ≠ "want" by decide +kernel)) ?_
      refine ⟨_, rfl, rfl, _, rfl, iteTb vs_eq ?_⟩
      refine ⟨_, rfl, p, dx, _, rfl, h1, flds_no _ _ (by decide +kernel) (by decide +kernel), _, rfl, p, d, S, c, a, .lend q r n, rfl, DA, by omega, ha, fun u H' D' f' r' => ⟨_, rfl, k u H' D' f' (r'.mono nw_seq)⟩⟩
    | back q r =>
      obtain ⟨a, rfl, ha⟩ := rep_let (l := .back q r) rv
      refine iteFb (vs_ne (show ("take" : Str) ≠ "want" by decide +kernel)) ?_
      refine ⟨_, rfl, rfl, _, rfl, iteTb vs_eq ?_⟩
      refine ⟨_, rfl, p, dx, _, rfl, h1, flds_no _ _ (by decide +kernel) (by decide +kernel), _, rfl, p, d, S, c, a, .back q r, rfl, DA, by omega, ha, fun u H' D' f' r' => ⟨_, rfl, k u H' D' f' (r'.mono nw_seq)⟩⟩
    | rest q =>
      simp only [Op.d, Rep] at rv
      subst rv
      refine iteFb (vs_ne (show ("rest" : Str) ≠ "want" by decide +kernel)) ?_
      refine ⟨_, rfl, rfl, _, rfl, iteFb (vs_ne (show ("rest" : Str) ≠ "take" by decide +kernel)) ?_⟩
      refine ⟨_, rfl, p, dx, _, rfl, h1, flds_no _ _ (by decide +kernel) (by decide +kernel), _, rfl, p, d, S, c, q, rfl, DA, by omega, Pg.small hp, ?_⟩
      by_cases e : S.rt q = .no
      · rw [if_pos e]
        refine ⟨t.C_NoCopy, _, rfl, T.x_NoCopy, iteFb ?_ ⟨t.C_NoCopy, _, rfl, T.x_NoCopy, iteTb (by simp) ?_⟩⟩
        · have n1 := T.ne_Waiting_NoCopy
          have n2 := T.ne_Waiting_CopyError
          simp [n1, n2]
        · exact ⟨(by show 2 ≤ sizeLine; decide), fun z hz => ⟨_, rfl, refd "no copy" (by simp only [DS.do, if_pos e]) z hz⟩⟩
      · rw [if_neg e]
        rw [DS.do_rest e] at k
        exact fun u H' D' f' r' => ⟨_, rfl, k u H' D' f' r'⟩
end
end K07
namespace L2
open PySem
theorem callR_K {X : Cx} {K : PySem.W.Frag} {v : Value} {r : PySem.W.Frag → List V → Hp → VK → Prop} (h : CallR X v (r X.K)) (e : X.K = K) : CallR X v (r K) := e ▸ h
theorem ixR_K {X : Cx} {K : PySem.W.Frag} {r : PySem.W.Frag → R2} (h : IxR X (r X.K)) (e : X.K = K) : IxR X (r K) := e ▸ h
end L2
namespace K07
open PySem L2
def spAny (C : Addr) : Sp := fun vs H Q _ => ∃ p d S c op v vd, vs = [.ref p, .str (Op.word op), v, vd] ∧ DeskAt C H p d S c ∧ c ≤ 800000 ∧ Rep H v op.d ∧ Pg op.pg ∧ Rep H vd (S.do op).2 ∧
  ∀ u H', DeskAt C H' p d (S.do op).1 (c + 2) → DF H H' p d → Rep H' u (asDue (S.do op).2) → Q u H'
theorem DS.notbad (S : DS) {op : Op} (h : S.bad op = none) : asDue (S.do op).2 = (S.do op).2 := by
  cases op with
  | look p =>
    simp only [DS.bad, Option.map_eq_none_iff] at h
    rw [DS.do_look h]; exact S.want_asDue _
  | put p n =>
    simp only [DS.bad, Option.map_eq_none_iff] at h
    rw [DS.do_put h]; exact S.want_asDue _
  | lend p r n => exact S.take_asDue _
  | back p r => exact S.take_asDue _
  | rest p =>
    simp only [DS.bad] at h
    split at h
    · cases h
    · rename_i e; rw [DS.do_rest e]; rfl
theorem DS.isbad (S : DS) {op : Op} {x : Str} (h : S.bad op = some x) : S.do op = (S, .s x) := by
  cases op with
  | look p =>
    cases hw : S.ws with
    | none => simp [DS.bad, hw] at h
    | some w => simp [DS.bad, hw] at h; subst h; simp only [DS.do, hw]
  | put p n =>
    cases hw : S.ws with
    | none => simp [DS.bad, hw] at h
    | some w => simp [DS.bad, hw] at h; subst h; simp only [DS.do, hw]
  | lend p r n => cases h
  | back p r => cases h
  | rest p =>
    simp only [DS.bad] at h
    split at h
    · cases h; rename_i e; simp only [DS.do, if_pos e]
    · cases h
section
variable {P : Program} {w : World} {K : PySem.W.Frag} {mg : Str → Option Value} {base : Heap} {t : Adr}
theorem ok_l_asked_by_any (T : Txt K w mg t) : FnOk P w K mg base CX0 7 t.f_l_asked_by_any t.fd_l_asked_by_any ["_law_desk", "_law_word", "_law_what", "_law_due"] (spAny t.C_Desk) := by
  refine T.F_l_asked_by_any.ok sc_l_asked_by_any (fun vs H Q E h => ?_) (fun cdv A outer s H vs Q E hr h => ?_)
  · obtain ⟨p, d, S, c, op, v, vd, rfl, _⟩ := h; rfl
  · obtain ⟨p, d, S, c, op, v, vd, rfl, DA, hc, rv, hp, rd, k⟩ := h
    refine ⟨_, (pss_cons (ps_set (i := 4) sc_l_asked_by_any.nd rfl (Or.inl rfl) pe_non)
      (pss_cons (ps_try ownFr0 (fun _ _ => (pss_one (ps_set (i := 4) sc_l_asked_by_any.nd rfl (Or.inl rfl) (pe_callR (X := _) (ok_l_called T) (hr.mono (by decide) : Room 6 _) (by rfl) T.m_l_called T.F_l_called.kp T.b_l_called (pa_cons (pv 0) (pa_cons (pv 1) (pa_cons (pv 2) pa_nil))))))) (ph_as (i := 5) ownFr0 (by rfl) T.g_CopyError T.x_CopyError sc_l_asked_by_any.nd rfl rfl (fun _ => (pss_cons (ps_set (i := 6) sc_l_asked_by_any.nd rfl (Or.inl rfl) (pe_op op_add (pe_callTy call_int1 (by rfl) T.n_int PyProof.Rows.Boot.«int» (pa_cons (pe_callB (callR_K (K := K) (r := rIsiX) call_isiX rfl) (by rfl) T.n_isinstance PyProof.Rows.Boot.«isinstance» (pa_cons (pv 5) (pa_cons (pe_gref (by rfl) T.g_NoCopy) pa_nil))) pa_nil)) (pe_callTy call_int1 (by rfl) T.n_int PyProof.Rows.Boot.«int» (pa_cons (pe_callB (callR_K (K := K) (r := rIsiX) call_isiX rfl) (by rfl) T.n_isinstance PyProof.Rows.Boot.«isinstance» (pa_cons (pv 5) (pa_cons (pe_gref (by rfl) T.g_NoDesk) pa_nil))) pa_nil))))
      (pss_cons (ps_set (i := 6) sc_l_asked_by_any.nd rfl (Or.inl rfl) (pe_op op_add (pe_op op_add (pv 6) (pe_callTy call_int1 (by rfl) T.n_int PyProof.Rows.Boot.«int» (pa_cons (pe_callB (callR_K (K := K) (r := rIsiX) call_isiX rfl) (by rfl) T.n_isinstance PyProof.Rows.Boot.«isinstance» (pa_cons (pv 5) (pa_cons (pe_gref (by rfl) T.g_NoLetter) pa_nil))) pa_nil))) (pe_callTy call_int1 (by rfl) T.n_int PyProof.Rows.Boot.«int» (pa_cons (pe_callB (callR_K (K := K) (r := rIsiX) call_isiX rfl) (by rfl) T.n_isinstance PyProof.Rows.Boot.«isinstance» (pa_cons (pv 5) (pa_cons (pe_gref (by rfl) T.g_NoPage) pa_nil))) pa_nil))))
      (pss_cons (ps_set (i := 6) sc_l_asked_by_any.nd rfl (Or.inl rfl) (pe_op op_add (pv 6) (pe_callTy call_int1 (by rfl) T.n_int PyProof.Rows.Boot.«int» (pa_cons (pe_callB (callR_K (K := K) (r := rIsiX) call_isiX rfl) (by rfl) T.n_isinstance PyProof.Rows.Boot.«isinstance» (pa_cons (pv 5) (pa_cons (pe_gref (by rfl) T.g_Waiting) pa_nil))) pa_nil))))
      (pss_cons (ps_set (i := 7) sc_l_asked_by_any.nd rfl (Or.inl rfl) (pe_and (pe_cmpR op_eq (pv 6) pe_int (nomark _)) (pe_one (pe_callB (callR_K (K := K) (r := rIsiX) call_isiX rfl) (by rfl) T.n_isinstance PyProof.Rows.Boot.«isinstance» (pa_cons (pv 5) (pa_cons (pe_bty (by rfl) T.n_ValueError PyProof.Rows.Boot.«ValueError») pa_nil))))))
      (pss_one (ps_set (i := 4) sc_l_asked_by_any.nd rfl (Or.inl rfl) (pe_tup (pa_cons pe_str (pa_cons (pe_ix (ixR_K (K := K) (r := rIxL) ix_list rfl) (pe_lst (pa_cons pe_str (pa_cons (pv 3) pa_nil))) (pe_callTy call_int1 (by rfl) T.n_int PyProof.Rows.Boot.«int» (pa_cons (pe_and (pv 7) (pe_one (pe_callB (callR_K (K := K) (r := rIsi) call_isi rfl) (by rfl) T.n_isinstance PyProof.Rows.Boot.«isinstance» (pa_cons (pv 3) (pa_cons (pe_bty (by rfl) T.n_str PyProof.Rows.Boot.«str») pa_nil))))) pa_nil)) (fun _ _ => rfl)) pa_nil)))))))))) ph_nil))
      (pss_one (ps_ret (pv 4))))), ?_⟩
    refine ⟨_, rfl, _, rfl, _, rfl, p, d, S, c, op, v, rfl, DA, hc, rv, hp, ?_, ?_, ?_⟩
    · intro hb u H' D' f' r'
      refine ⟨_, rfl, k u H' D' f' ?_⟩
      rw [show asDue (S.do op).2 = (S.do op).2 from S.notbad hb]
      exact r'
    · intro hb
      refine ⟨t.C_Waiting, _, rfl, T.x_Waiting, iteTb (by simp) fun e he => ?_⟩
      refine ⟨_, rfl, e, _, _, _, _, _, rfl, upd_same, T.x_Waiting, T.xa_Waiting, rfl, T.ki_Waiting_NoCopy, .inr ⟨_, rfl, _, rfl, e, _, _, _, _, _, rfl, upd_same, T.x_Waiting, T.xa_Waiting, rfl, T.ki_Waiting_NoDesk, .inr ⟨_, rfl, _, _, rfl, rfl, ?_⟩⟩⟩
      refine ⟨_, rfl, _, rfl, e, _, _, _, _, _, rfl, upd_same, T.x_Waiting, T.xa_Waiting, rfl, T.ki_Waiting_NoLetter, .inr ⟨_, rfl, _, _, rfl, rfl, _, rfl, e, _, _, _, _, _, rfl, upd_same, T.x_Waiting, T.xa_Waiting, rfl, T.ki_Waiting_NoPage, .inr ⟨_, rfl, _, _, rfl, rfl, ?_⟩⟩⟩
      refine ⟨_, rfl, _, rfl, e, _, _, _, _, _, rfl, upd_same, T.x_Waiting, T.xa_Waiting, rfl, T.ki_Waiting_Waiting, .inr ⟨_, rfl, _, _, rfl, rfl, ?_⟩⟩
      refine ⟨_, rfl, rfl, _, rfl, iteTb (by decide) ⟨_, rfl, e, _, _, _, _, _, rfl, upd_same, T.x_Waiting, T.xa_Waiting, rfl, T.ki_Waiting_ValueError, ?_⟩⟩
      have eb := S.isbad (x := "waiting") hb
      rw [eb] at k rd
      have evd : vd = .str "waiting" := by simpa only [Rep] using rd
      subst evd
      refine ⟨_, rfl, (by show 2 ≤ sizeLine; decide), fun l hl => ⟨_, rfl, _, rfl, iteT ⟨_, rfl, _, _, _, true, rfl, .str _, .inl ⟨_, rfl, kit_ss⟩, .inr ⟨_, rfl, l, _, 1, .str "waiting", rfl, rfl, SqL.of upd_same, rfl, ?_⟩⟩⟩⟩
      refine ⟨(by show 2 ≤ sizeLine; decide), fun z hz => ⟨_, rfl, ?_⟩⟩
      refine k _ _ ((((DA.new he).new hl).new hz).mono (by omega)) ((DF.new he).trans ((DF.new hl).trans (DF.new hz))) (rep_tup hz ?_)
      simp only [RepL, Rep]
      exact ⟨_, _, rfl, rfl, _, _, rfl, rfl, rfl⟩
    · intro hb
      refine ⟨t.C_NoCopy, _, rfl, T.x_NoCopy, iteTb (by simp) fun e he => ?_⟩
      refine ⟨_, rfl, e, _, _, _, _, _, rfl, upd_same, T.x_NoCopy, T.xa_NoCopy, rfl, T.ki_NoCopy_NoCopy, .inr ⟨_, rfl, _, rfl, e, _, _, _, _, _, rfl, upd_same, T.x_NoCopy, T.xa_NoCopy, rfl, T.ki_NoCopy_NoDesk, .inr ⟨_, rfl, _, _, rfl, rfl, ?_⟩⟩⟩
      refine ⟨_, rfl, _, rfl, e, _, _, _, _, _, rfl, upd_same, T.x_NoCopy, T.xa_NoCopy, rfl, T.ki_NoCopy_NoLetter, .inr ⟨_, rfl, _, _, rfl, rfl, _, rfl, e, _, _, _, _, _, rfl, upd_same, T.x_NoCopy, T.xa_NoCopy, rfl, T.ki_NoCopy_NoPage, .inr ⟨_, rfl, _, _, rfl, rfl, ?_⟩⟩⟩
      refine ⟨_, rfl, _, rfl, e, _, _, _, _, _, rfl, upd_same, T.x_NoCopy, T.xa_NoCopy, rfl, T.ki_NoCopy_Waiting, .inr ⟨_, rfl, _, _, rfl, rfl, ?_⟩⟩
      refine ⟨_, rfl, rfl, _, rfl, iteTb (by decide) ⟨_, rfl, e, _, _, _, _, _, rfl, upd_same, T.x_NoCopy, T.xa_NoCopy, rfl, T.ki_NoCopy_ValueError, ?_⟩⟩
      have eb := S.isbad (x := "no copy") hb
      rw [eb] at k rd
      have evd : vd = .str "no copy" := by simpa only [Rep] using rd
      subst evd
      refine ⟨_, rfl, (by show 2 ≤ sizeLine; decide), fun l hl => ⟨_, rfl, _, rfl, iteT ⟨_, rfl, _, _, _, true, rfl, .str _, .inl ⟨_, rfl, kit_ss⟩, .inr ⟨_, rfl, l, _, 1, .str "no copy", rfl, rfl, SqL.of upd_same, rfl, ?_⟩⟩⟩⟩
      refine ⟨(by show 2 ≤ sizeLine; decide), fun z hz => ⟨_, rfl, ?_⟩⟩
      refine k _ _ ((((DA.new he).new hl).new hz).mono (by omega)) ((DF.new he).trans ((DF.new hl).trans (DF.new hz))) (rep_tup hz ?_)
      simp only [RepL, Rep]
      exact ⟨_, _, rfl, rfl, _, _, rfl, rfl, rfl⟩
end
end K07
namespace K07
open PySem L2
theorem atI_lt {α : Type} {xs : List α} {k : Int} (h0 : 0 ≤ k) (h1 : k < xs.length) : ∃ v, atI xs k = some v ∧ xs[k.toNat]? = some v := by
  obtain ⟨n, rfl⟩ := Int.eq_ofNat_of_zero_le h0
  have hn : n < xs.length := by omega
  exact ⟨xs[n], atI_nat (by simp [hn]), by simp [hn]⟩
theorem atInt {ns : List Int} {k : Int} (h0 : 0 ≤ k) (h1 : k < ns.length) : ∃ z, atI (ns.map V.int) k = some (.int z) := by
  obtain ⟨v, h2, h3⟩ := atI_lt (xs := ns.map V.int) h0 (by simpa using h1)
  rw [List.getElem?_map] at h3
  cases e : ns[k.toNat]? with
  | none => rw [e] at h3; cases h3
  | some z => rw [e] at h3; cases h3; exact ⟨z, h2⟩
def spAt (K : PySem.W.Frag) : Sp := fun vs H Q _ => ∃ (a : Addr) (ns : List Int) (k : Int), vs = [.ref a, .int k] ∧ SqL K H a (ns.map V.int) ∧ 0 ≤ k ∧ ∀ z : Int, Q (.int z) H
def spNext : Sp := fun vs H Q _ => ∃ cell more k, vs = [.int cell, .int more, .int k] ∧ ∀ (op : Op) a v H', Pg op.pg → op.nice → Same H H' → H' a = some (.tup [.str op.word, v]) → Rep H' v op.d → Q (.ref a) H'
theorem Pg.mod (x : Int) : Pg (x % 3) := by unfold Pg; omega
theorem vi_eq {i j : Int} (h : i = j) : decide (V.int i = V.int j) = true := decide_eq_true (congrArg V.int h)
theorem vi_ne {i j : Int} (h : i ≠ j) : decide (V.int i = V.int j) = false := decide_eq_false fun z => h (V.int.inj z)
section
variable {P : Program} {w : World} {K : PySem.W.Frag} {mg : Str → Option Value} {base : Heap} {t : Adr}
theorem ok_l_at (T : Txt K w mg t) : FnOk P w K mg base CX0 1 t.f_l_at t.fd_l_at ["_law_script", "_law_k"] (spAt K) := by
  refine T.F_l_at.ok sc_l_at (fun vs H Q E h => ?_) (fun cdv A outer s H vs Q E hr h => ?_)
  · obtain ⟨a, ns, k, rfl, _⟩ := h; rfl
  · obtain ⟨a, ns, k, rfl, ha, hk, q⟩ := h
    refine ⟨_, (pss_cons (ps_if (pt_cmpR op_lt (pv 1) (pe_callB call_len_seq (by rfl) T.n_len PySem.boot_len (pa_cons (pv 0) pa_nil)) (nomark _)) (pss_one (ps_ret (pe_ix ix_list (pv 0) (pv 1) (fun _ _ => rfl)))) pss_nil)
      (pss_one (ps_ret pe_int))), ?_⟩
    refine ⟨_, rfl, _, rfl, a, _, rfl, .inl ha, _, _, rfl, rfl, _, rfl, ?_⟩
    by_cases h : k < ((ns.map V.int).length : Nat)
    · refine iteTb (decide_eq_true h) ?_
      obtain ⟨z, hz⟩ := atInt hk (by simpa using h)
      exact ⟨_, rfl, _, rfl, a, _, k, _, rfl, rfl, ha, hz, q z⟩
    · refine iteFb (decide_eq_false h) ?_
      exact q 0
theorem ok_l_next_of (T : Txt K w mg t) : FnOk P w K mg base CX0 1 t.f_l_next_of t.fd_l_next_of ["_law_cell", "_law_more", "_law_k"] spNext := by
  refine T.F_l_next_of.ok sc_l_next_of (fun vs H Q E h => ?_) (fun cdv A outer s H vs Q E hr h => ?_)
  · obtain ⟨a, ns, k, rfl, _⟩ := h; rfl
  · obtain ⟨cell, more, k, rfl, q⟩ := h
    refine ⟨_, (pss_cons (ps_set (i := 3) sc_l_next_of.nd rfl (Or.inl rfl) (pe_op op_mod (pe_op op_add (pe_op op_fdiv (pv 0) pe_int) (pv 2)) pe_int))
      (pss_cons (ps_set (i := 4) sc_l_next_of.nd rfl (Or.inl rfl) (pe_op op_mod (pe_op op_mul (pv 1) pe_int) (pe_op op_pow pe_int pe_int)))
      (pss_cons (ps_set (i := 5) sc_l_next_of.nd rfl (Or.inl rfl) (pe_ix ix_list (pe_lst (pa_cons (pe_op op_sub (pe_op op_mod (pe_op op_add (pv 1) (pe_op op_mul pe_int (pv 2))) pe_int) pe_int) (pa_cons (pv 4) (pa_cons (pe_op op_sub pe_int (pv 4)) pa_nil)))) (pe_op op_mod (pv 2) pe_int) (fun _ _ => rfl)))
      (pss_cons (ps_set (i := 6) sc_l_next_of.nd rfl (Or.inl rfl) (pe_op op_mod (pe_op op_add (pv 0) (pv 2)) pe_int))
      (pss_cons (ps_if (pt_cmpR op_lt (pv 6) pe_int (nomark _)) (pss_one (ps_ret (pe_tup (pa_cons pe_str (pa_cons (pe_tup (pa_cons pe_str (pa_cons (pv 3) pa_nil))) pa_nil))))) pss_nil)
      (pss_cons (ps_if (pt_cmpR op_lt (pv 6) pe_int (nomark _)) (pss_one (ps_ret (pe_tup (pa_cons pe_str (pa_cons (pe_tup (pa_cons pe_str (pa_cons (pv 3) (pa_cons (pe_ix ix_list (pe_lst (pa_cons (pv 5) (pa_cons pe_int pa_nil))) (pe_callTy call_int1 (by rfl) T.n_int PyProof.Rows.Boot.«int» (pa_cons (pe_cmpR op_eq (pv 5) pe_int (nomark _)) pa_nil)) (fun _ _ => rfl)) pa_nil)))) pa_nil))))) pss_nil)
      (pss_cons (ps_if (PW.pt (pw_or (pt_cmpR op_eq (pv 6) pe_int (nomark _)) (pw_or1 (pt_cmpR op_eq (pv 6) pe_int (nomark _))))) (pss_one (ps_ret (pe_tup (pa_cons pe_str (pa_cons (pe_tup (pa_cons pe_str (pa_cons (pv 3) (pa_cons (pe_ix ix_list (pe_lst (pa_cons pe_str (pa_cons pe_str pa_nil))) (pe_op op_sub (pv 6) pe_int) (fun _ _ => rfl)) (pa_cons (pv 5) pa_nil))))) pa_nil))))) pss_nil)
      (pss_cons (ps_if (pt_cmpR op_eq (pv 6) pe_int (nomark _)) (pss_one (ps_ret (pe_tup (pa_cons pe_str (pa_cons (pe_tup (pa_cons pe_str (pa_cons (pv 3) (pa_cons (pe_ix ix_list (pe_lst (pa_cons pe_str (pa_cons pe_str pa_nil))) (pe_op op_mod (pe_op op_fdiv (pv 0) pe_int) pe_int) (fun _ _ => rfl)) pa_nil)))) pa_nil))))) pss_nil)
      (pss_one (ps_ret (pe_tup (pa_cons pe_str (pa_cons (pv 3) pa_nil))))))))))))), ?_⟩
    refine ⟨_, rfl, _, _, rfl, rfl, ⟨by decide, by decide⟩, _, rfl, _, _, rfl, rfl, _, _, rfl, rfl, (show (0 : Int) < 3 by decide), ?_⟩
    refine ⟨_, rfl, _, _, rfl, rfl, .inr ⟨by decide, by decide⟩, _, _, rfl, rfl, ⟨by decide, by decide, by decide⟩, _, _, rfl, rfl, (show (0 : Int) < (10 : Int) ^ (30 : Int).toNat by decide), ?_⟩
    refine ⟨_, rfl, _, rfl, _, _, rfl, rfl, .inl ⟨by decide, by decide⟩, _, _, rfl, rfl, _, _, rfl, rfl, (show (0 : Int) < 40 by decide), _, _, rfl, rfl, _, rfl, _, rfl, _, _, rfl, rfl, (by show 3 ≤ sizeLine; decide), fun l hl => ?_⟩
    have hn : ∃ n, atI ([.int ((more + 3 * k) % 40 - 9), .int (more * 48271 % (10 : Int) ^ (30 : Int).toNat), .int (0 - more * 48271 % (10 : Int) ^ (30 : Int).toNat)] : List V) (k % 3) = some (.int n) := by
      have h3 : k % 3 = 0 ∨ k % 3 = 1 ∨ k % 3 = 2 := by omega
      rcases h3 with e | e | e <;> rw [e]
      · exact ⟨_, rfl⟩
      · exact ⟨_, rfl⟩
      · exact ⟨_, rfl⟩
    obtain ⟨n, hn⟩ := hn
    refine ⟨_, rfl, _, _, rfl, rfl, (show (0 : Int) < 3 by decide), l, _, _, _, rfl, rfl, SqL.of upd_same, hn, ?_⟩
    have sl := same_new (o := .lst [.int ((more + 3 * k) % 40 - 9), .int (more * 48271 % (10 : Int) ^ (30 : Int).toNat), .int (0 - more * 48271 % (10 : Int) ^ (30 : Int).toNat)]) hl
    have hpg := Pg.mod (cell / 8 + k)
    refine ⟨_, rfl, _, rfl, _, _, rfl, rfl, _, _, rfl, rfl, (show (0 : Int) < 8 by decide), ?_⟩
    have hw : 0 ≤ (cell + k) % 8 ∧ (cell + k) % 8 < 8 := by omega
    refine ⟨_, rfl, _, _, rfl, rfl, _, rfl, ?_⟩
    by_cases h2 : (cell + k) % 8 < 2
    · refine iteTb (decide_eq_true h2) ?_
      refine ⟨_, rfl, (by show 2 ≤ sizeLine; decide), fun b hb => ⟨(by show 2 ≤ sizeLine; decide), fun c hc => ?_⟩⟩
      refine q (.look ((cell / 8 + k) % 3)) c (.ref b) _ hpg trivial (sl.trans ((same_new hb).trans (same_new hc))) upd_same ((rep_tup hb ?_).mono (seq_new hc))
      simp only [RepL, Rep]
      exact ⟨_, _, rfl, rfl, _, _, rfl, rfl, rfl⟩
    refine iteFb (decide_eq_false h2) ?_
    refine ⟨_, rfl, _, _, rfl, rfl, _, rfl, ?_⟩
    by_cases h4 : (cell + k) % 8 < 4
    · refine iteTb (decide_eq_true h4) ?_
      refine ⟨_, rfl, _, rfl, (by show 2 ≤ sizeLine; decide), fun l2 hl2 => ⟨_, rfl, rfl, .inr ⟨_, rfl, ?_⟩⟩⟩
      have hx : ∃ m, atI ([.int n, .int 1000000000000] : List V) (if decide (V.int n = V.int 30) = true then 1 else 0) = some (.int m) := by
        by_cases e : decide (V.int n = V.int 30) = true
        · rw [if_pos e]; exact ⟨_, rfl⟩
        · rw [if_neg e]; exact ⟨_, rfl⟩
      obtain ⟨m, hx⟩ := hx
      refine ⟨l2, _, _, _, rfl, rfl, SqL.of upd_same, hx, (by show 3 ≤ sizeLine; decide), fun b hb => ⟨(by show 2 ≤ sizeLine; decide), fun c hc => ?_⟩⟩
      refine q (.put ((cell / 8 + k) % 3) m) c (.ref b) _ hpg trivial (sl.trans ((same_new hl2).trans ((same_new hb).trans (same_new hc)))) upd_same ((rep_tup hb ?_).mono (seq_new hc))
      simp only [RepL, Rep]
      exact ⟨_, _, rfl, rfl, _, _, rfl, rfl, _, _, rfl, rfl, rfl⟩
    refine iteFb (decide_eq_false h4) ?_
    by_cases h5 : (cell + k) % 8 = 4 ∨ (cell + k) % 8 = 5
    · have hx : ∃ r : Rt, r ≠ .no ∧ atI ([.str "read", .str "write"] : List V) ((cell + k) % 8 - 4) = some (.str r.s) := by
        rcases h5 with e | e <;> rw [e]
        · exact ⟨.rd, by decide, rfl⟩
        · exact ⟨.wr, by decide, rfl⟩
      obtain ⟨r, hr1, hx⟩ := hx
      refine ⟨_, rfl, rfl, _, rfl, ?_⟩
      by_cases e : (cell + k) % 8 = 4
      · refine iteTb (vi_eq e) (iteT ?_)
        refine ⟨_, rfl, (by show 2 ≤ sizeLine; decide), fun l2 hl2 => ⟨_, rfl, _, _, rfl, rfl, l2, _, _, _, rfl, rfl, SqL.of upd_same, hx, _, rfl, (by show 4 ≤ sizeLine; decide), fun b hb => ⟨(by show 2 ≤ sizeLine; decide), fun c hc => ?_⟩⟩⟩
        refine q (.lend ((cell / 8 + k) % 3) r n) c (.ref b) _ hpg hr1 (sl.trans ((same_new hl2).trans ((same_new hb).trans (same_new hc)))) upd_same ((rep_tup hb ?_).mono (seq_new hc))
        simp only [RepL, Rep]
        exact ⟨_, _, rfl, rfl, _, _, rfl, rfl, _, _, rfl, rfl, _, _, rfl, rfl, rfl⟩
      · refine iteFb (vi_ne e) ?_
        refine ⟨_, rfl, rfl, _, rfl, iteTb (vi_eq (h5.resolve_left e)) ?_⟩
        refine ⟨_, rfl, (by show 2 ≤ sizeLine; decide), fun l2 hl2 => ⟨_, rfl, _, _, rfl, rfl, l2, _, _, _, rfl, rfl, SqL.of upd_same, hx, _, rfl, (by show 4 ≤ sizeLine; decide), fun b hb => ⟨(by show 2 ≤ sizeLine; decide), fun c hc => ?_⟩⟩⟩
        refine q (.lend ((cell / 8 + k) % 3) r n) c (.ref b) _ hpg hr1 (sl.trans ((same_new hl2).trans ((same_new hb).trans (same_new hc)))) upd_same ((rep_tup hb ?_).mono (seq_new hc))
        simp only [RepL, Rep]
        exact ⟨_, _, rfl, rfl, _, _, rfl, rfl, _, _, rfl, rfl, _, _, rfl, rfl, rfl⟩
    refine ⟨_, rfl, rfl, _, rfl, iteFb (vi_ne fun e => h5 (.inl e)) ⟨_, rfl, rfl, _, rfl, iteFb (vi_ne fun e => h5 (.inr e)) ?_⟩⟩
    refine ⟨_, rfl, rfl, _, rfl, ?_⟩
    by_cases h6 : (cell + k) % 8 = 6
    · refine iteTb (vi_eq h6) ?_
      have hx : ∃ r : Rt, r ≠ .wr ∧ atI ([.str "read", .str "none"] : List V) (cell / 8 % 2) = some (.str r.s) := by
        have h2 : cell / 8 % 2 = 0 ∨ cell / 8 % 2 = 1 := by omega
        rcases h2 with e | e <;> rw [e]
        · exact ⟨.rd, by decide, rfl⟩
        · exact ⟨.no, by decide, rfl⟩
      obtain ⟨r, hr1, hx⟩ := hx
      refine ⟨_, rfl, (by show 2 ≤ sizeLine; decide), fun l2 hl2 => ⟨_, rfl, _, _, rfl, rfl, ⟨by decide, by decide⟩, _, _, rfl, rfl, (show (0 : Int) < 2 by decide), l2, _, _, _, rfl, rfl, SqL.of upd_same, hx, (by show 3 ≤ sizeLine; decide), fun b hb => ⟨(by show 2 ≤ sizeLine; decide), fun c hc => ?_⟩⟩⟩
      refine q (.back ((cell / 8 + k) % 3) r) c (.ref b) _ hpg hr1 (sl.trans ((same_new hl2).trans ((same_new hb).trans (same_new hc)))) upd_same ((rep_tup hb ?_).mono (seq_new hc))
      simp only [RepL, Rep]
      exact ⟨_, _, rfl, rfl, _, _, rfl, rfl, _, _, rfl, rfl, rfl⟩
    refine iteFb (vi_ne h6) ?_
    refine ⟨_, rfl, (by show 2 ≤ sizeLine; decide), fun c hc => ?_⟩
    refine q (.rest ((cell / 8 + k) % 3)) c _ _ hpg trivial (sl.trans (same_new hc)) upd_same ?_
    simp only [Op.d, Rep]
end
end K07
namespace K07
open PySem L2
def LetOk (l : Let) : Prop := Pg l.pg ∧ l.nice
def spSome (K : PySem.W.Frag) : Sp := fun vs H Q _ => ∃ (a : Addr) (ns : List Int) (k : Int), vs = [.ref a, .int k] ∧ SqL K H a (ns.map V.int) ∧ 0 ≤ k ∧ k < ns.length ∧
  ∀ (l : Addr) (xs : List V) (ls : List Let) H', ls.length ≤ 4 → (∀ e ∈ ls, LetOk e) → H l = none → Same H H' → H' l = some (.lst xs) → RepL H' xs (ls.map Let.d) → Q (.ref l) H'
theorem SqL.same {K : PySem.W.Frag} {H H' : Hp} {a : Addr} {xs : List V} (h : SqL K H a xs) (s : Same H H') : SqL K H' a xs := by
  rcases h with (h | ⟨o, h⟩) | h
  · exact .inl (.inl (s _ _ h))
  · exact .inl (.inr ⟨o, s _ _ h⟩)
  · exact .inr h
theorem flats_let : ∀ ls : List Let, D.flats (ls.map Let.d)
  | [] => by simp [D.flats]
  | l :: ls => by
    rw [List.map_cons, D.flats]
    exact ⟨by cases l <;> simp [Let.d, D.flat, D.flats], flats_let ls⟩
section
variable {P : Program} {w : World} {K : PySem.W.Frag} {mg : Str → Option Value} {base : Heap} {t : Adr}
theorem ok_l_some_letters (T : Txt K w mg t) : FnOk P w K mg base CX0 1 t.f_l_some_letters t.fd_l_some_letters ["_law_script", "_law_k"] (spSome K) := by
  refine T.F_l_some_letters.ok sc_l_some_letters (fun vs H Q E h => ?_) (fun cdv A outer s H vs Q E hr h => ?_)
  · obtain ⟨a, ns, k, rfl, _⟩ := h; rfl
  · obtain ⟨a, ns, k, rfl, ha, hk, hk2, q⟩ := h
    refine ⟨_, (pss_cons (ps_set (i := 2) sc_l_some_letters.nd rfl (Or.inl rfl) (pe_lst pa_nil))
      (pss_cons (ps_for PassesOwn.never rfl (pi_range1 (by rfl) T.n_range (pa_cons (pe_op op_mod (pe_ix ix_list (pv 0) (pv 1) (fun _ _ => rfl)) pe_int) pa_nil)) (pg_name (i := 3) sc_l_some_letters.nd rfl (Or.inl rfl)) (pss_cons (ps_set (i := 4) sc_l_some_letters.nd rfl (Or.inl rfl) (pe_op op_add (pe_ix ix_list (pv 0) (pe_op op_mod (pe_op op_add (pv 1) (pv 3)) (pe_callB call_len_seq (by rfl) T.n_len PySem.boot_len (pa_cons (pv 0) pa_nil))) (fun _ _ => rfl)) (pv 3)))
      (pss_cons (ps_set (i := 5) sc_l_some_letters.nd rfl (Or.inl rfl) (pe_op op_mod (pe_op op_fdiv (pv 4) pe_int) pe_int))
      (pss_cons (ps_set (i := 6) sc_l_some_letters.nd rfl (Or.inl rfl) (pe_op op_mod (pe_op op_mul (pv 4) pe_int) (pe_op op_pow pe_int pe_int)))
      (pss_one (ps_if (pt_cmpR op_lt (pe_op op_mod (pv 4) pe_int) pe_int (nomark _)) (pss_one (ps_expr (pe_bm PySem.F.plainAttrs_list PySem.F.slot_list_append PySem.F.type_list_append mt_append (pv 2) (pa_cons (pe_tup (pa_cons pe_str (pa_cons (pv 5) (pa_cons (pe_ix ix_list (pe_lst (pa_cons pe_str (pa_cons pe_str pa_nil))) (pe_op op_mod (pv 4) pe_int) (fun _ _ => rfl)) (pa_cons (pv 6) pa_nil))))) pa_nil)))) (pss_one (ps_expr (pe_bm PySem.F.plainAttrs_list PySem.F.slot_list_append PySem.F.type_list_append mt_append (pv 2) (pa_cons (pe_tup (pa_cons pe_str (pa_cons (pv 5) (pa_cons (pe_ix ix_list (pe_lst (pa_cons pe_str (pa_cons pe_str pa_nil))) (pe_op op_sub (pe_op op_mod (pv 4) pe_int) pe_int) (fun _ _ => rfl)) pa_nil)))) pa_nil))))))))))
      (pss_one (ps_ret (pv 2))))), ?_⟩
    refine ⟨(by show 0 ≤ sizeLine; decide), fun l hl => ?_⟩
    obtain ⟨z, hz⟩ := atInt hk hk2
    have ha1 := SqL.same ha (same_new (o := .lst []) hl)
    refine ⟨_, rfl, _, rfl, a, _, k, _, rfl, rfl, ha1, hz, _, _, rfl, rfl, (show (0 : Int) < 5 by decide), ?_⟩
    refine ⟨_, rfl, ?_⟩
    have hm : 0 ≤ z % 5 ∧ z % 5 ≤ 4 := by omega
    refine ⟨by omega, by omega, ?_⟩
    refine for_range (lo := 0) (n := (z % 5).toNat) (fun i σ H2 => ∃ o3 o4 o5 o6 xs ls, σ = [some (.ref a), some (.int k), some (.ref l), o3, o4, o5, o6] ∧ Same H H2 ∧ H2 l = some (.lst xs) ∧ xs.length = i ∧ List.length ls = i ∧ (∀ e ∈ ls, LetOk e) ∧ RepL H2 xs (ls.map Let.d))
      ⟨none, none, none, none, [], [], rfl, same_new hl, upd_same, rfl, rfl, (by simp), (by simp [RepL])⟩ ?_ ?_
    · rintro i σ H2 hi ⟨o3, o4, o5, o6, xs, ls, rfl, sa, hx, hxl, hll, hok, rx⟩
      have hlen : (0 : Int) < ((ns.map V.int).length : Nat) := by simp only [List.length_map]; omega
      have hb1 := Int.emod_nonneg (k + (0 + (i : Int))) (Int.ne_of_gt hlen)
      have hb2 := Int.emod_lt_of_pos (k + (0 + (i : Int))) hlen
      obtain ⟨y, hy⟩ := atInt (ns := ns) hb1 (by simpa only [List.length_map] using hb2)
      have ha2 := SqL.same ha sa
      refine ⟨_, rfl, _, rfl, _, rfl, _, _, rfl, rfl, _, rfl, a, _, rfl, .inl ha2, _, _, rfl, rfl, hlen, a, _, _, _, rfl, rfl, ha2, hy, _, rfl, _, _, rfl, rfl, ?_⟩
      refine ⟨_, rfl, _, _, rfl, rfl, ⟨by decide, by decide⟩, _, _, rfl, rfl, (show (0 : Int) < 3 by decide), ?_⟩
      refine ⟨_, rfl, _, _, rfl, rfl, .inr ⟨by decide, by decide⟩, _, _, rfl, rfl, ⟨by decide, by decide, by decide⟩, _, _, rfl, rfl, (show (0 : Int) < (10 : Int) ^ (30 : Int).toNat by decide), ?_⟩
      refine ⟨_, rfl, _, _, rfl, rfl, (show (0 : Int) < 4 by decide), _, _, rfl, rfl, _, rfl, ?_⟩
      have fin : ∀ (e : Let) (H3 : Hp) (b : Addr) (o3 o4 o5 o6 : Option V), LetOk e → Same H2 H3 → H3 b = none →
          ∃ p3 p4 p5 p6 xs' ls', ([some (.ref a), some (.int k), some (.ref l), o3, o4, o5, o6] : St) = [some (.ref a), some (.int k), some (.ref l), p3, p4, p5, p6] ∧ Same H (upd (upd H3 b (.tup e.vs)) l (.lst (xs ++ [.ref b]))) ∧ (upd (upd H3 b (.tup e.vs)) l (.lst (xs ++ [.ref b]))) l = some (.lst xs') ∧ xs'.length = i + 1 ∧ List.length ls' = i + 1 ∧ (∀ e ∈ ls', LetOk e) ∧ RepL (upd (upd H3 b (.tup e.vs)) l (.lst (xs ++ [.ref b]))) xs' (ls'.map Let.d) := by
        intro e H3 b o3 o4 o5 o6 he s3 hb
        have hbl : b ≠ l := (ne_of_none (s3 _ _ hx) hb).symm
        refine ⟨o3, o4, o5, o6, xs ++ [.ref b], ls ++ [e], rfl, ?_, upd_same, by simp [hxl], by simp [hll], ?_, ?_⟩
        · intro b' o' e'
          have h3 := s3 _ _ (sa _ _ e')
          rw [upd_ne (ne_of_none e' hl), upd_ne (ne_of_none h3 hb)]
          exact h3
        · intro e' h'
          rcases List.mem_append.mp h' with h' | h'
          · exact hok e' h'
          · rw [List.mem_singleton] at h'; subst h'; exact he
        · rw [List.map_append]
          refine RepL.snoc (rx.tmono (fun b' zs e' => ?_) (flats_let ls)) ?_
          · have h3 := s3 _ _ e'
            rw [upd_ne (ne_of e' hx (by intro z; cases z)), upd_ne (ne_of_none h3 hb)]
            exact h3
          · have hb4 : (upd (upd H3 b (.tup e.vs)) l (.lst (xs ++ [.ref b]))) b = some (.tup e.vs) := by rw [upd_ne hbl, upd_same]
            cases e <;> simp only [Let.d, Rep, RepL]
            · exact ⟨b, _, rfl, hb4, _, _, rfl, rfl, _, _, rfl, rfl, _, _, rfl, rfl, _, _, rfl, rfl, rfl⟩
            · exact ⟨b, _, rfl, hb4, _, _, rfl, rfl, _, _, rfl, rfl, _, _, rfl, rfl, rfl⟩
      have sz : xs.length < sizeLine := by
        have : (4 : Nat) < sizeLine := by decide
        omega
      have hm4 : 0 ≤ (y + (0 + (i : Int))) % 4 ∧ (y + (0 + (i : Int))) % 4 < 4 := by omega
      by_cases h2 : (y + (0 + (i : Int))) % 4 < 2
      · refine iteTb (decide_eq_true h2) ?_
        have hx2 : ∃ r : Rt, r ≠ .no ∧ atI ([.str "read", .str "write"] : List V) ((y + (0 + (i : Int))) % 4) = some (.str r.s) := by
          have h01 : (y + (0 + (i : Int))) % 4 = 0 ∨ (y + (0 + (i : Int))) % 4 = 1 := by omega
          rcases h01 with e | e <;> rw [e]
          · exact ⟨.rd, by decide, rfl⟩
          · exact ⟨.wr, by decide, rfl⟩
        obtain ⟨r, hr1, hx2⟩ := hx2
        refine ⟨_, rfl, .inl ⟨rfl, _, SqL.of hx⟩, _, rfl, (by show 2 ≤ sizeLine; decide), fun l2 hl2 => ⟨_, rfl, _, _, rfl, rfl, (show (0 : Int) < 4 by decide), l2, _, _, _, rfl, rfl, SqL.of upd_same, hx2, _, rfl, (by show 4 ≤ sizeLine; decide), fun b hb => ?_⟩⟩
        have h3 := same_new (o := .lst [.str "read", .str "write"]) hl2
        refine ⟨l, xs, .ref b, rfl, rfl, (by rw [upd_ne (ne_of_none (h3 _ _ hx) hb)]; exact h3 _ _ hx), sz, ?_⟩
        exact fin (.lend _ r _) _ b _ _ _ _ ⟨Pg.mod _, hr1⟩ h3 hb
      · refine iteFb (decide_eq_false h2) ?_
        have hx2 : ∃ r : Rt, r ≠ .wr ∧ atI ([.str "read", .str "none"] : List V) ((y + (0 + (i : Int))) % 4 - 2) = some (.str r.s) := by
          have h01 : (y + (0 + (i : Int))) % 4 = 2 ∨ (y + (0 + (i : Int))) % 4 = 3 := by omega
          rcases h01 with e | e <;> rw [e]
          · exact ⟨.rd, by decide, rfl⟩
          · exact ⟨.no, by decide, rfl⟩
        obtain ⟨r, hr1, hx2⟩ := hx2
        refine ⟨_, rfl, .inl ⟨rfl, _, SqL.of hx⟩, _, rfl, (by show 2 ≤ sizeLine; decide), fun l2 hl2 => ⟨_, rfl, _, _, rfl, rfl, (show (0 : Int) < 4 by decide), _, _, rfl, rfl, l2, _, _, _, rfl, rfl, SqL.of upd_same, hx2, (by show 3 ≤ sizeLine; decide), fun b hb => ?_⟩⟩
        have h3 := same_new (o := .lst [.str "read", .str "none"]) hl2
        refine ⟨l, xs, .ref b, rfl, rfl, (by rw [upd_ne (ne_of_none (h3 _ _ hx) hb)]; exact h3 _ _ hx), sz, ?_⟩
        exact fin (.back _ r) _ b _ _ _ _ ⟨Pg.mod _, hr1⟩ h3 hb
    · rintro σ H2 ⟨o3, o4, o5, o6, xs, ls, rfl, sa, hx, hxl, hll, hok, rx⟩
      exact ⟨_, rfl, q l xs ls H2 (by omega) hok hl sa hx rx⟩
end
end K07
namespace K07
open PySem L2
/-- where the two desks and the two mirrors lie -/
structure Ad where
  p : Addr
  d : Addr
  m : Addr
  mr : Addr
  mc : Addr
  p2 : Addr
  d2 : Addr
  m2 : Addr
  mr2 : Addr
  mc2 : Addr
def FD (p d b : Addr) : Prop := b = p ∨ b = d
def FM (m mr mc b : Addr) : Prop := b = m ∨ b = mr ∨ b = mc
structure Sep (H0 : Hp) (x : Ad) : Prop where
  n1 : ∀ b, FD x.p x.d b → H0 b = none
  n2 : ∀ b, FD x.p2 x.d2 b → H0 b = none
  n3 : ∀ b, FM x.m x.mr x.mc b → H0 b = none
  n4 : ∀ b, FM x.m2 x.mr2 x.mc2 b → H0 b = none
  s12 : ∀ b, FD x.p x.d b → FD x.p2 x.d2 b → False
  s13 : ∀ b, FD x.p x.d b → FM x.m x.mr x.mc b → False
  s14 : ∀ b, FD x.p x.d b → FM x.m2 x.mr2 x.mc2 b → False
  s23 : ∀ b, FD x.p2 x.d2 b → FM x.m x.mr x.mc b → False
  s24 : ∀ b, FD x.p2 x.d2 b → FM x.m2 x.mr2 x.mc2 b → False
  s34 : ∀ b, FM x.m x.mr x.mc b → FM x.m2 x.mr2 x.mc2 b → False
structure All (C : Addr) (H0 H : Hp) (x : Ad) (S1 T1 S2 T2 : DS) (c1 c2 : Nat) : Prop where
  D1 : DeskAt C H x.p x.d S1 c1
  D2 : DeskAt C H x.p2 x.d2 S2 c2
  M1 : MineAt H x.m x.mr x.mc T1
  M2 : MineAt H x.m2 x.mr2 x.mc2 T2
  old : Same H0 H
section
variable {C : Addr} {H0 H H' : Hp} {x : Ad} {S1 T1 S2 T2 S' : DS} {c1 c2 c' : Nat}
theorem All.same (h : All C H0 H x S1 T1 S2 T2 c1 c2) (s : Same H H') : All C H0 H' x S1 T1 S2 T2 c1 c2 := ⟨h.D1.same s, h.D2.same s, h.M1.same s, h.M2.same s, h.old.trans s⟩
theorem All.mono (h : All C H0 H x S1 T1 S2 T2 c1 c2) {e1 e2 : Nat} (h1 : c1 ≤ e1) (h2 : c2 ≤ e2) : All C H0 H x S1 T1 S2 T2 e1 e2 := ⟨h.D1.mono h1, h.D2.mono h2, h.M1, h.M2, h.old⟩
theorem All.desk1 (Z : Sep H0 x) (h : All C H0 H x S1 T1 S2 T2 c1 c2) (D : DeskAt C H' x.p x.d S' c') (f : DF H H' x.p x.d) : All C H0 H' x S' T1 S2 T2 c' c2 := by
  have k : ∀ b o, H b = some o → ¬ FD x.p x.d b → H' b = some o := fun b o e n => f b o e (fun z => n (.inl z)) fun z => n (.inr z)
  have tp := f.tups h.D1
  refine ⟨D, h.D2.keep tp (fun o e => k _ o e fun z => Z.s12 _ z (.inl rfl)) (fun o e => k _ o e fun z => Z.s12 _ z (.inr rfl)),
    h.M1.keep tp (fun o e => k _ o e fun z => Z.s13 _ z (.inl rfl)) (fun o e => k _ o e fun z => Z.s13 _ z (.inr (.inl rfl))) (fun o e => k _ o e fun z => Z.s13 _ z (.inr (.inr rfl))),
    h.M2.keep tp (fun o e => k _ o e fun z => Z.s14 _ z (.inl rfl)) (fun o e => k _ o e fun z => Z.s14 _ z (.inr (.inl rfl))) (fun o e => k _ o e fun z => Z.s14 _ z (.inr (.inr rfl))), fun b o e => k b o (h.old b o e) fun z => ?_⟩
  have := Z.n1 b z; rw [this] at e; cases e
theorem All.desk2 (Z : Sep H0 x) (h : All C H0 H x S1 T1 S2 T2 c1 c2) (D : DeskAt C H' x.p2 x.d2 S' c') (f : DF H H' x.p2 x.d2) : All C H0 H' x S1 T1 S' T2 c1 c' := by
  have k : ∀ b o, H b = some o → ¬ FD x.p2 x.d2 b → H' b = some o := fun b o e n => f b o e (fun z => n (.inl z)) fun z => n (.inr z)
  have tp := f.tups h.D2
  refine ⟨h.D1.keep tp (fun o e => k _ o e fun z => Z.s12 _ (.inl rfl) z) (fun o e => k _ o e fun z => Z.s12 _ (.inr rfl) z), D,
    h.M1.keep tp (fun o e => k _ o e fun z => Z.s23 _ z (.inl rfl)) (fun o e => k _ o e fun z => Z.s23 _ z (.inr (.inl rfl))) (fun o e => k _ o e fun z => Z.s23 _ z (.inr (.inr rfl))),
    h.M2.keep tp (fun o e => k _ o e fun z => Z.s24 _ z (.inl rfl)) (fun o e => k _ o e fun z => Z.s24 _ z (.inr (.inl rfl))) (fun o e => k _ o e fun z => Z.s24 _ z (.inr (.inr rfl))), fun b o e => k b o (h.old b o e) fun z => ?_⟩
  have := Z.n2 b z; rw [this] at e; cases e
theorem All.mine1 (Z : Sep H0 x) (h : All C H0 H x S1 T1 S2 T2 c1 c2) (M : MineAt H' x.m x.mr x.mc S') (f : MF H H' x.m x.mr x.mc) : All C H0 H' x S1 S' S2 T2 c1 c2 := by
  have k : ∀ b o, H b = some o → ¬ FM x.m x.mr x.mc b → H' b = some o := fun b o e n => f b o e (fun z => n (.inl z)) (fun z => n (.inr (.inl z))) fun z => n (.inr (.inr z))
  have tp := f.tups h.M1
  refine ⟨h.D1.keep tp (fun o e => k _ o e fun z => Z.s13 _ (.inl rfl) z) (fun o e => k _ o e fun z => Z.s13 _ (.inr rfl) z), h.D2.keep tp (fun o e => k _ o e fun z => Z.s23 _ (.inl rfl) z) (fun o e => k _ o e fun z => Z.s23 _ (.inr rfl) z), M,
    h.M2.keep tp (fun o e => k _ o e fun z => Z.s34 _ z (.inl rfl)) (fun o e => k _ o e fun z => Z.s34 _ z (.inr (.inl rfl))) (fun o e => k _ o e fun z => Z.s34 _ z (.inr (.inr rfl))), fun b o e => k b o (h.old b o e) fun z => ?_⟩
  have := Z.n3 b z; rw [this] at e; cases e
theorem All.mine2 (Z : Sep H0 x) (h : All C H0 H x S1 T1 S2 T2 c1 c2) (M : MineAt H' x.m2 x.mr2 x.mc2 S') (f : MF H H' x.m2 x.mr2 x.mc2) : All C H0 H' x S1 T1 S2 S' c1 c2 := by
  have k : ∀ b o, H b = some o → ¬ FM x.m2 x.mr2 x.mc2 b → H' b = some o := fun b o e n => f b o e (fun z => n (.inl z)) (fun z => n (.inr (.inl z))) fun z => n (.inr (.inr z))
  have tp := f.tups h.M2
  refine ⟨h.D1.keep tp (fun o e => k _ o e fun z => Z.s14 _ (.inl rfl) z) (fun o e => k _ o e fun z => Z.s14 _ (.inr rfl) z), h.D2.keep tp (fun o e => k _ o e fun z => Z.s24 _ (.inl rfl) z) (fun o e => k _ o e fun z => Z.s24 _ (.inr rfl) z),
    h.M1.keep tp (fun o e => k _ o e fun z => Z.s34 _ (.inl rfl) z) (fun o e => k _ o e fun z => Z.s34 _ (.inr (.inl rfl)) z) (fun o e => k _ o e fun z => Z.s34 _ (.inr (.inr rfl)) z), M, fun b o e => k b o (h.old b o e) fun z => ?_⟩
  have := Z.n4 b z; rw [this] at e; cases e
theorem DeskAt.fd {p d b : Addr} (D : DeskAt C H p d S1 c1) (h : FD p d b) : H b ≠ none := by
  obtain ⟨⟨dx, v, h1, _⟩, ⟨kvs, h2, _⟩⟩ := D
  rcases h with rfl | rfl
  · rw [h1]; exact fun z => nomatch z
  · rw [h2]; exact fun z => nomatch z
theorem MineAt.fm {m mr mc b : Addr} (M : MineAt H m mr mc S1) (h : FM m mr mc b) : H b ≠ none := by
  obtain ⟨⟨v, h1, _⟩, h2, h3, _⟩ := M
  rcases h with rfl | rfl | rfl
  · rw [h1]; exact fun z => nomatch z
  · rw [h2]; exact fun z => nomatch z
  · rw [h3]; exact fun z => nomatch z
/-- a list that came later stays where a mirror is written -/
theorem MF.later {m mr mc l : Addr} {o : HO} (f : MF H H' m mr mc) (n : ¬ FM m mr mc l) (h : H l = some o) : H' l = some o := f l o h (fun z => n (.inl z)) (fun z => n (.inr (.inl z))) fun z => n (.inr (.inr z))
/-- a heap without three lists -/
def hid3 (H : Hp) (a b c : Addr) : Hp := hid (hid (hid H a) b) c
theorem hid3_upd {a b c : Addr} {o : HO} : hid3 (upd H a o) a b c = hid3 H a b c := by unfold hid3; rw [hid_upd]
theorem hid3_of {a b c e : Addr} {o : HO} (h : H e = some o) (h1 : e ≠ a) (h2 : e ≠ b) (h3 : e ≠ c) : hid3 H a b c e = some o := by
  unfold hid3 hid
  rw [if_neg h3, if_neg h2, if_neg h1]
  exact h
theorem hid3_some {a b c e : Addr} {o : HO} (h : hid3 H a b c e = some o) : H e = some o ∧ e ≠ a ∧ e ≠ b ∧ e ≠ c := by
  unfold hid3 hid at h
  by_cases h3 : e = c
  · rw [if_pos h3] at h; cases h
  rw [if_neg h3] at h
  by_cases h2 : e = b
  · rw [if_pos h2] at h; cases h
  rw [if_neg h2] at h
  by_cases h1 : e = a
  · rw [if_pos h1] at h; cases h
  rw [if_neg h1] at h
  exact ⟨h, h1, h2, h3⟩
theorem hid3_seq {a b c : Addr} : SeqSame (hid3 H a b c) H := ⟨fun _ _ h => (hid3_some h).1, fun _ _ h => (hid3_some h).1⟩
theorem MF.hid3 {m mr mc a : Addr} (M : MineAt H m mr mc S1) (f : MF H H' m mr mc) : SeqSame (hid3 H a mr mc) (hid3 H' a mr mc) := by
  obtain ⟨⟨v, h1, _⟩, _, _, _⟩ := M
  constructor <;> (intro e xs h; obtain ⟨h0, n1, n2, n3⟩ := hid3_some h; exact hid3_of (f e _ h0 (ne_of h0 h1 (by intro z; cases z)) n2 n3) n1 n2 n3)
theorem nw_hid3 {a b c : Addr} {xs ys zs : List V} (ha : H a = some (.lst xs)) (hb : H b = some (.lst ys)) (hc : H c = some (.lst zs)) : SeqSame (nw H H') (hid3 H' a b c) := by
  constructor <;> (intro e us h; obtain ⟨h1, h2⟩ := nw_some h; refine hid3_of h1 ?_ ?_ ?_ <;> (intro z; subst z; rcases h2 with q | ⟨_, q⟩ <;> simp_all))
end
end K07
namespace K07
open PySem L2
def spLaw (K : PySem.W.Frag) : Sp := fun vs H Q _ => ∃ (a : Addr) (ns : List Int), vs = [.ref a] ∧ SqL K H a (ns.map V.int) ∧ ns.length ≤ 63 ∧ ∀ H', Q (.bl true) H'
def DS0 : DS := ⟨fun _ => .no, fun _ => 0, none⟩
theorem Same.none {H H' : Hp} (h : Same H H') {b : Addr} (e : H' b = none) : H b = none := by
  cases q : H b with
  | none => rfl
  | some o => rw [h b o q] at e; cases e
theorem merge_mine (a b : Addr) : mergeK [] [(Sum.inr ("rights" : Str), V.ref a), (Sum.inr ("copies" : Str), V.ref b), (Sum.inr ("wish" : Str), V.non)] = mineD a b .non := by
  have e1 : ¬ ((Sum.inr ("rights" : Str) : Key) = Sum.inr ("copies" : Str)) := by intro z; exact absurd (Sum.inr.inj z) (by decide +kernel)
  have e2 : ¬ ((Sum.inr ("rights" : Str) : Key) = Sum.inr ("wish" : Str)) := by intro z; exact absurd (Sum.inr.inj z) (by decide +kernel)
  have e3 : ¬ ((Sum.inr ("copies" : Str) : Key) = Sum.inr ("wish" : Str)) := by intro z; exact absurd (Sum.inr.inj z) (by decide +kernel)
  simp [mergeK, putK, mineD, e1, e2, e3]
theorem desk_new {C : Addr} {H H1 : Hp} {p dx d : Addr} (hp : H p = none) (hdx : H dx = none) (hne : dx ≠ p) (hd : (upd (upd H dx (.own p)) p (.ins C dx [])) d = none)
    (f : ∀ b o, (upd (upd H dx (.own p)) p (.ins C dx [])) b = some o → b ≠ p → H1 b = some o) : Same H H1 ∧ ∀ b, FD p d b → H b = none := by
  have k : Same H (upd (upd H dx (.own p)) p (.ins C dx [])) := (same_new hdx).trans (same_new (by rw [upd_ne hne.symm]; exact hp))
  refine ⟨fun b o e => f b o (k b o e) (ne_of_none e hp), fun b h => ?_⟩
  rcases h with rfl | rfl
  · exact hp
  · exact Same.none k hd
theorem mine_new {H : Hp} {m mr mc : Addr} {xs ys : List V} (hm : H m = none) (hr : upd H m (.dK []) mr = none) (hc : upd (upd H m (.dK [])) mr (.lst xs) mc = none) (ex : xs = [.str "none", .str "none", .str "none"]) (ey : ys = [.int 0, .int 0, .int 0]) :
    MineAt (upd (upd (upd (upd H m (.dK [])) mr (.lst xs)) mc (.lst ys)) m (.dK (mineD mr mc .non))) m mr mc DS0 ∧ Same H (upd (upd (upd (upd H m (.dK [])) mr (.lst xs)) mc (.lst ys)) m (.dK (mineD mr mc .non))) ∧ (upd (upd (upd H m (.dK [])) mr (.lst xs)) mc (.lst ys)) m = some (.dK []) ∧ ∀ b, FM m mr mc b → H b = none := by
  have n1 : m ≠ mr := ne_of_none upd_same hr
  have k1 := same_new (o := .lst xs) hr
  have n2 : m ≠ mc := ne_of_none (k1 _ _ upd_same) hc
  have n3 : mr ≠ mc := ne_of_none upd_same hc
  have hm2 : (upd (upd (upd H m (.dK [])) mr (.lst xs)) mc (.lst ys)) m = some (.dK []) := by rw [upd_ne n2, upd_ne n1, upd_same]
  refine ⟨⟨⟨.non, upd_same, rfl⟩, ?_, ?_, n3⟩, ?_, hm2, ?_⟩
  · rw [upd_ne n1.symm, upd_ne n3, upd_same, ex]; rfl
  · rw [upd_ne n2.symm, upd_same, ey]; rfl
  · intro b o e
    have hb := ne_of_none e hm
    rw [upd_ne hb]
    exact (same_new hc) b o (k1 b o ((same_new hm) b o e))
  · rintro b (rfl | rfl | rfl)
    · exact hm
    · exact Same.none (same_new hm) hr
    · exact Same.none (same_new hm) (Same.none k1 hc)
theorem seq_via {A B : TS} {D : Ends} {σ : St} {H : Hp} (R : St → Hp → Prop) (ha : ∀ N : St → Hp → Prop, (∀ σ' H', R σ' H' → N σ' H') → A { D with nx := N } σ H) (hb : ∀ σ' H', R σ' H' → B D σ' H') : tSeq A B D σ H := ha _ hb
theorem same_seq {H H' : Hp} (h : Same H H') : SeqSame H H' := ⟨fun b xs e => h b _ e, fun b xs e => h b _ e⟩
theorem DS.want_size (S : DS) (w : W) : (S.want w).2.size ≤ 20 := by unfold DS.want; split <;> simp [D.size, D.sizes]
theorem tellD_size (v : V) : (tellD v).size = 1 := by cases v <;> rfl
theorem DS.take_size (S : DS) (l : Let) : (S.take l).2.size ≤ 20 := by
  cases l with
  | lend p r n =>
    simp only [DS.take, DS.loan]
    split
    · simp [D.size, D.sizes]
    · split <;> simp [D.size, D.sizes]
  | back p r => simp [DS.take, D.size, D.sizes, tellD_size]
theorem DS.rest_size (S : DS) (p : Int) : (S.rest p).2.size ≤ 20 := by unfold DS.rest; dsimp only; split <;> simp [D.size, D.sizes]
theorem DS.do_size (S : DS) (op : Op) : (asDue (S.do op).2).size ≤ 20 := by
  cases h : S.bad op with
  | some x => rw [S.isbad h]; simp [asDue, refD, D.size, D.sizes]
  | none =>
    rw [S.notbad h]
    cases op with
    | look p => simp only [DS.bad, Option.map_eq_none_iff] at h; rw [DS.do_look h]; exact S.want_size _
    | put p n => simp only [DS.bad, Option.map_eq_none_iff] at h; rw [DS.do_put h]; exact S.want_size _
    | lend p r n => exact S.take_size _
    | back p r => exact S.take_size _
    | rest p =>
      simp only [DS.bad] at h
      split at h
      · cases h
      · rename_i e; rw [DS.do_rest e]; exact S.rest_size p
theorem DS.do_kind (S : DS) (op : Op) : (S.do op).2 ≠ .n ∧ ∀ k, (S.do op).2 ≠ .i k := by
  cases h : S.bad op with
  | some x => rw [S.isbad h]; exact ⟨(fun z => nomatch z), fun k z => nomatch z⟩
  | none =>
    cases op with
    | look p => simp only [DS.bad, Option.map_eq_none_iff] at h; rw [DS.do_look h]; unfold DS.want; split <;> exact ⟨(fun z => nomatch z), fun k z => nomatch z⟩
    | put p n => simp only [DS.bad, Option.map_eq_none_iff] at h; rw [DS.do_put h]; unfold DS.want; split <;> exact ⟨(fun z => nomatch z), fun k z => nomatch z⟩
    | lend p r n => exact ⟨(fun z => nomatch z), fun k z => nomatch z⟩
    | back p r => exact ⟨(fun z => nomatch z), fun k z => nomatch z⟩
    | rest p =>
      simp only [DS.bad] at h
      split at h
      · cases h
      · rename_i e; rw [DS.do_rest e]; exact ⟨(fun z => nomatch z), fun k z => nomatch z⟩
theorem DS.takes_size (S : DS) : ∀ ls : List Let, D.sizes (S.takes ls).2 ≤ 20 * ls.length
  | [] => by simp [DS.takes, D.sizes]
  | l :: ls => by
    have h1 := S.take_size l
    have h2 := DS.takes_size (S.take l).1 ls
    simp only [DS.takes, D.sizes, List.length_cons]
    omega
theorem lets_size : ∀ ls : List Let, D.sizes (ls.map Let.d) ≤ 20 * ls.length
  | [] => by simp [D.sizes]
  | l :: ls => by
    have h2 := lets_size ls
    have h1 : l.d.size ≤ 20 := by cases l <;> simp [Let.d, D.size, D.sizes]
    simp only [List.map_cons, D.sizes, List.length_cons]
    omega
section
variable {P : Program} {w : World} {K : PySem.W.Frag} {mg : Str → Option Value} {base : Heap} {t : Adr}
theorem ok_law (T : Txt K w mg t) : FnOk P w K mg base CX0 8 t.f_law t.fd_law ["_law_script"] (spLaw K) := by
  refine T.F_law.ok sc_law (fun vs H Q E h => ?_) (fun cdv A outer s H vs Q E hr h => ?_)
  · obtain ⟨a, ns, rfl, _⟩ := h; rfl
  · obtain ⟨a, ns, rfl, ha, hl, q⟩ := h
    have hu := hu_of hr
    refine' ⟨_, ?sr, ?_⟩
    case' sr => refine' pss_cons ?s0 ?sr0
    case' sr0 => refine' pss_cons ?s1 ?sr1
    case' sr1 => refine' pss_cons ?s2 ?sr2
    case' sr2 => refine' pss_cons ?s3 ?sr3
    case' sr3 => refine' pss_cons ?s4 ?sr4
    case' sr4 => refine' pss_one ?s5
    case' s0 => exact (ps_set (i := 1) sc_law.nd rfl (Or.inr rfl) (pe_make0 T.mk_Desk (ok_Desk_init T) (hr.mono (by decide) : Room 2 _) (by rfl) T.g_Desk T.b_Desk_init .nil pass0))
    case' s1 => exact (ps_set (i := 2) sc_law.nd rfl (Or.inr rfl) (pe_make0 T.mk_Desk (ok_Desk_init T) (hr.mono (by decide) : Room 2 _) (by rfl) T.g_Desk T.b_Desk_init .nil pass0))
    case' s2 => refine' ps_set (X := _) (x := "_law_mine") (e := _) (te := _) (i := 3) ?xhN ?xhi ?xhx ?xe ?xhs ?xhf
    case' xhN => exact sc_law.nd
    case' xhi => rfl
    case' xhx => exact (Or.inr rfl)
    case' xhs => rfl
    case' xhf => exact .inl rfl
    case' xe => refine' pe_disp (X := _) (trs := _) ?xp ?xn2 ?xn3 ?xn0 ?xn1
    case' xn2 => rfl
    case' xn3 => rfl
    case' xn0 => exact List.cons_ne_nil _ _
    case' xn1 => decide
    case' xp => refine' pps_cons (X := _) (tk := _) (tv := _) (trs := _) ?xk0 ?xv0 ?xp1
    case' xk0 => exact pe_str
    case' xv0 => exact (pe_lst (pa_cons pe_str (pa_cons pe_str (pa_cons pe_str pa_nil))))
    case' xp1 => refine' pps_cons (X := _) (tk := _) (tv := _) (trs := _) ?xk1 ?xv1 ?xp2
    case' xk1 => exact pe_str
    case' xv1 => exact (pe_lst (pa_cons pe_int (pa_cons pe_int (pa_cons pe_int pa_nil))))
    case' xp2 => refine' pps_cons (X := _) (tk := _) (tv := _) (trs := _) ?xk2 ?xv2 ?xp3
    case' xk2 => exact pe_str
    case' xv2 => exact pe_non
    case' xp3 => exact pps_nil
    case' s3 => refine' ps_set (X := _) (x := "_law_other") (e := _) (te := _) (i := 4) ?yhN ?yhi ?yhx ?ye ?yhs ?yhf
    case' yhN => exact sc_law.nd
    case' yhi => rfl
    case' yhx => exact (Or.inl rfl)
    case' yhs => rfl
    case' yhf => exact .inl rfl
    case' ye => refine' pe_disp (X := _) (trs := _) ?yp ?yn2 ?yn3 ?yn0 ?yn1
    case' yn2 => rfl
    case' yn3 => rfl
    case' yn0 => exact List.cons_ne_nil _ _
    case' yn1 => decide
    case' yp => refine' pps_cons (X := _) (tk := _) (tv := _) (trs := _) ?yk0 ?yv0 ?yp1
    case' yk0 => exact pe_str
    case' yv0 => exact (pe_lst (pa_cons pe_str (pa_cons pe_str (pa_cons pe_str pa_nil))))
    case' yp1 => refine' pps_cons (X := _) (tk := _) (tv := _) (trs := _) ?yk1 ?yv1 ?yp2
    case' yk1 => exact pe_str
    case' yv1 => exact (pe_lst (pa_cons pe_int (pa_cons pe_int (pa_cons pe_int pa_nil))))
    case' yp2 => refine' pps_cons (X := _) (tk := _) (tv := _) (trs := _) ?yk2 ?yv2 ?yp3
    case' yk2 => exact pe_str
    case' yv2 => exact pe_non
    case' yp3 => exact pps_nil
    case' s4 => refine' ps_for PassesOwn.never rfl (pi_range2 (by rfl) T.n_range (pa_cons pe_int (pa_cons (pe_callB call_len_seq (by rfl) T.n_len PySem.boot_len (pa_cons (pv 0) pa_nil)) pa_nil))) (pg_name (i := 5) sc_law.nd rfl (Or.inl rfl)) ?br
    case' br => refine' pss_cons ?b0 ?br0
    case' br0 => refine' pss_cons ?b1 ?br1
    case' br1 => refine' pss_cons ?b2 ?br2
    case' br2 => refine' pss_cons ?b3 ?br3
    case' br3 => refine' pss_cons ?b4 ?br4
    case' br4 => refine' pss_cons ?b5 ?br5
    case' br5 => refine' pss_cons ?b6 ?br6
    case' br6 => refine' pss_one ?b7
    case' b0 => exact (ps_set (i := 6) sc_law.nd rfl (Or.inl rfl) (pe_ix ix_list (pv 0) (pe_op op_sub (pe_callB call_len_seq (by rfl) T.n_len PySem.boot_len (pa_cons (pv 0) pa_nil)) (pv 5)) (fun _ _ => rfl)))
    case' b1 => exact (ps_asg (pe_call (ok_l_next_of T) (hr.mono (by decide) : Room 1 _) (by rfl) T.m_l_next_of T.F_l_next_of.kp T.b_l_next_of .nil pass0 (pa_cons (pe_op op_add (pe_ix ix_list (pv 0) (pv 5) (fun _ _ => rfl)) (pe_op op_mod (pe_call (ok_l_at T) (hr.mono (by decide) : Room 1 _) (by rfl) T.m_l_at T.F_l_at.kp T.b_l_at .nil pass0 (pa_cons (pv 0) (pa_cons pe_int pa_nil))) pe_int)) (pa_cons (pv 6) (pa_cons (pv 5) pa_nil)))) (pg_tup rfl (pgs_cons (pg_name (i := 7) sc_law.nd rfl (Or.inl rfl)) (pgs_cons (pg_name (i := 8) sc_law.nd rfl (Or.inl rfl)) pgs_nil))))
    case' b2 => refine' ps_if (pt_cmpR op_eq (pe_op op_mod (pv 5) pe_int) pe_int (nomark _)) ?c2r pss_nil
    case' c2r => refine' pss_cons ?c20 ?c2r0
    case' c2r0 => refine' pss_one ?c21
    case' c20 => exact (ps_set (i := 9) sc_law.nd rfl (Or.inl rfl) (pe_call (ok_l_due_of T) (hr.mono (by decide) : Room 3 _) (by rfl) T.m_l_due_of T.F_l_due_of.kp T.b_l_due_of .nil pass0 (pa_cons (pv 4) (pa_cons (pv 7) (pa_cons (pv 8) pa_nil)))))
    case' c21 => exact (ps_if (pt_not (pt_val (pe_call (ok_l_same T) (hr.mono (by decide) : Room 2 _) (by rfl) T.m_l_same T.F_l_same.kp T.b_l_same .nil pass0 (pa_cons (pe_call (ok_l_asked T) (hr.mono (by decide) : Room 5 _) (by rfl) T.m_l_asked T.F_l_asked.kp T.b_l_asked .nil pass0 (pa_cons (pv 2) (pa_cons (pv 7) (pa_cons (pv 8) pa_nil)))) (pa_cons (pe_call (ok_l_as_due T) (hr.mono (by decide) : Room 1 _) (by rfl) T.m_l_as_due T.F_l_as_due.kp T.b_l_as_due .nil pass0 (pa_cons (pv 9) pa_nil)) pa_nil))))) (pss_one (ps_ret pe_bl)) pss_nil)
    case' b3 => exact (ps_set (i := 9) sc_law.nd rfl (Or.inl rfl) (pe_call (ok_l_due_of T) (hr.mono (by decide) : Room 3 _) (by rfl) T.m_l_due_of T.F_l_due_of.kp T.b_l_due_of .nil pass0 (pa_cons (pv 3) (pa_cons (pv 7) (pa_cons (pv 8) pa_nil)))))
    case' b4 => exact (ps_if (pt_cmpR op_eq (pe_op op_mod (pv 5) pe_int) pe_int (nomark _)) (pss_one (ps_set (i := 10) sc_law.nd rfl (Or.inl rfl) (pe_call (ok_l_asked_by_any T) (hr.mono (by decide) : Room 7 _) (by rfl) T.m_l_asked_by_any T.F_l_asked_by_any.kp T.b_l_asked_by_any .nil pass0 (pa_cons (pv 1) (pa_cons (pv 7) (pa_cons (pv 8) (pa_cons (pv 9) pa_nil))))))) (pss_one (ps_set (i := 10) sc_law.nd rfl (Or.inl rfl) (pe_call (ok_l_asked T) (hr.mono (by decide) : Room 5 _) (by rfl) T.m_l_asked T.F_l_asked.kp T.b_l_asked .nil pass0 (pa_cons (pv 1) (pa_cons (pv 7) (pa_cons (pv 8) pa_nil)))))))
    case' b5 => exact (ps_if (pt_not (pt_val (pe_call (ok_l_same T) (hr.mono (by decide) : Room 2 _) (by rfl) T.m_l_same T.F_l_same.kp T.b_l_same .nil pass0 (pa_cons (pv 10) (pa_cons (pe_call (ok_l_as_due T) (hr.mono (by decide) : Room 1 _) (by rfl) T.m_l_as_due T.F_l_as_due.kp T.b_l_as_due .nil pass0 (pa_cons (pv 9) pa_nil)) pa_nil))))) (pss_one (ps_ret pe_bl)) pss_nil)
    case' b6 => refine' ps_if (pt_cmpR op_eq (pe_op op_mod (pv 5) pe_int) pe_int (nomark _)) ?c6r pss_nil
    case' c6r => refine' pss_cons ?c60 ?c6r0
    case' c6r0 => refine' pss_cons ?c61 ?c6r1
    case' c6r1 => refine' pss_cons ?c62 ?c6r2
    case' c6r2 => refine' pss_cons ?c63 ?c6r3
    case' c6r3 => refine' pss_cons ?c64 ?c6r4
    case' c6r4 => refine' pss_one ?c65
    case' c60 => exact (ps_set (i := 11) sc_law.nd rfl (Or.inl rfl) (pe_call (ok_l_some_letters T) (hr.mono (by decide) : Room 1 _) (by rfl) T.m_l_some_letters T.F_l_some_letters.kp T.b_l_some_letters .nil pass0 (pa_cons (pv 0) (pa_cons (pv 5) pa_nil))))
    case' c61 => exact (ps_set (i := 12) sc_law.nd rfl (Or.inl rfl) (pe_callTy call_list_of (by rfl) T.n_list PyProof.Rows.Boot.«list» (pa_cons (pv 11) pa_nil)))
    case' c62 => exact (ps_setComp (i := 9) sc_law.nd rfl rfl (compScope (xs := ["_law_letter"]) (ys := ["_law_mine"]) (js := [3]) rfl (by decide +kernel) (by decide +kernel) (by decide +kernel) (by rfl) ⟨⟨rfl, Or.inl rfl⟩, trivial⟩) rfl (pi_list (pv 11)) (fun _ _ _ _ _ => (pg_name (i := 0) (show List.Nodup ((["_law_letter"] : List Str) ++ (["_law_mine"] : List Str) : List Str) by decide +kernel) rfl (Or.inl rfl))) (fun _ _ _ _ _ => pif_nil) (fun _ _ _ _ _ => (pe_call (ok_l_taken T) (hr.mono (by decide) : Room 2 _) (by rfl) T.m_l_taken T.F_l_taken.kp T.b_l_taken .nil pass0 (pa_cons (pv 1) (pa_cons (pv 0) pa_nil)))))
    case' c63 => exact (ps_set (i := 10) sc_law.nd rfl (Or.inl rfl) (pe_call (ok_taken_by_desk T) (hr.mono (by decide) : Room 5 _) (by rfl) T.m_taken_by_desk T.F_taken_by_desk.kp T.b_taken_by_desk .nil pass0 (pa_cons (pv 1) (pa_cons (pv 12) pa_nil))))
    case' c64 => exact (ps_if (PW.pt (pw_or (pt_not (pt_val (pe_callB call_isi (by rfl) T.n_isinstance PyProof.Rows.Boot.«isinstance» (pa_cons (pv 10) (pa_cons (pe_bty (by rfl) T.n_list PyProof.Rows.Boot.«list») pa_nil))))) (pw_or1 (pt_not (pt_val (pe_call (ok_l_same T) (hr.mono (by decide) : Room 2 _) (by rfl) T.m_l_same T.F_l_same.kp T.b_l_same .nil pass0 (pa_cons (pv 10) (pa_cons (pv 9) pa_nil)))))))) (pss_one (ps_ret pe_bl)) pss_nil)
    case' c65 => exact (ps_if (pt_not (pt_val (pe_call (ok_l_same T) (hr.mono (by decide) : Room 2 _) (by rfl) T.m_l_same T.F_l_same.kp T.b_l_same .nil pass0 (pa_cons (pv 12) (pa_cons (pv 11) pa_nil))))) (pss_one (ps_ret pe_bl)) pss_nil)
    case' b7 => exact (ps_if (pt_not (pt_val (pe_call (ok_l_same T) (hr.mono (by decide) : Room 2 _) (by rfl) T.m_l_same T.F_l_same.kp T.b_l_same .nil pass0 (pa_cons (pe_comp (compScope (xs := ["_law_page"]) (ys := ["_law_desk"]) (js := [1]) rfl (by decide +kernel) (by decide +kernel) (by decide +kernel) (by rfl) ⟨⟨rfl, Or.inl rfl⟩, trivial⟩) rfl (pi_range1 (by rfl) T.n_range (pa_cons pe_int pa_nil)) (fun _ _ _ _ _ => (pg_name (i := 0) (show List.Nodup ((["_law_page"] : List Str) ++ (["_law_desk"] : List Str) : List Str) by decide +kernel) rfl (Or.inl rfl))) (fun _ _ _ _ _ => pif_nil) (fun _ _ _ _ _ => (pe_meth (pv 1) T.c_Desk T.mt_Desk_right_of (ok_Desk_right_of T) (hr.mono (by decide) : Room 1 _) T.b_Desk_right_of .nil pass0 (pa_cons (pv 0) pa_nil)))) (pa_cons (pe_dget hu (pv 3) pe_str (fun _ _ => rfl)) pa_nil))))) (pss_one (ps_ret pe_bl)) pss_nil)
    case' s5 => exact (ps_ret (pe_call (ok_l_same T) (hr.mono (by decide) : Room 2 _) (by rfl) T.m_l_same T.F_l_same.kp T.b_l_same .nil pass0 (pa_cons (pe_comp (compScope (xs := ["_law_page"]) (ys := ["_law_spare"]) (js := [2]) rfl (by decide +kernel) (by decide +kernel) (by decide +kernel) (by rfl) ⟨⟨rfl, Or.inl rfl⟩, trivial⟩) rfl (pi_range1 (by rfl) T.n_range (pa_cons pe_int pa_nil)) (fun _ _ _ _ _ => (pg_name (i := 0) (show List.Nodup ((["_law_page"] : List Str) ++ (["_law_spare"] : List Str) : List Str) by decide +kernel) rfl (Or.inl rfl))) (fun _ _ _ _ _ => pif_nil) (fun _ _ _ _ _ => (pe_meth (pv 1) T.c_Desk T.mt_Desk_right_of (ok_Desk_right_of T) (hr.mono (by decide) : Room 1 _) T.b_Desk_right_of .nil pass0 (pa_cons (pv 0) pa_nil)))) (pa_cons (pe_dget hu (pv 4) pe_str (fun _ _ => rfl)) pa_nil))))
    refine fun p dx hp hdx hne => ⟨p, dx, rfl, upd_same, fun d H1 hd DA1 f1 => ⟨rfl, ?_⟩⟩
    obtain ⟨sa1, n1⟩ := desk_new hp hdx hne hd f1
    refine fun p2 dx2 hp2 hdx2 hne2 => ⟨p2, dx2, rfl, upd_same, fun d2 H2 hd2 DA2 f2 => ⟨rfl, ?_⟩⟩
    obtain ⟨sa2, n2⟩ := desk_new hp2 hdx2 hne2 hd2 f2
    refine fun m hm => ⟨(by show 3 ≤ sizeLine; decide), fun mr hmr => ⟨(by show 3 ≤ sizeLine; decide), fun mc hmc => ?_⟩⟩
    obtain ⟨M1, sa3, hm', n3⟩ := mine_new hm hmr hmc rfl rfl
    refine ⟨hm', [(Sum.inr "rights", .ref mr), (Sum.inr "copies", .ref mc), (Sum.inr "wish", .non)], rfl, (by show 3 ≤ 15; decide), ?_⟩
    rw [merge_mine]
    generalize upd (upd (upd (upd H2 m _) mr _) mc _) m _ = H3 at M1 sa3
    refine fun m2 hm2 => ⟨(by show 3 ≤ sizeLine; decide), fun mr2 hmr2 => ⟨(by show 3 ≤ sizeLine; decide), fun mc2 hmc2 => ?_⟩⟩
    obtain ⟨M2, sa4, hm2', n4⟩ := mine_new hm2 hmr2 hmc2 rfl rfl
    refine ⟨hm2', [(Sum.inr "rights", .ref mr2), (Sum.inr "copies", .ref mc2), (Sum.inr "wish", .non)], rfl, (by show 3 ≤ 15; decide), ?_⟩
    rw [merge_mine]
    generalize upd (upd (upd (upd H3 m2 _) mr2 _) mc2 _) m2 _ = H4 at M2 sa4
    have Z : Sep H ⟨p, d, m, mr, mc, p2, d2, m2, mr2, mc2⟩ := {
      n1 := n1
      n2 := fun b h => Same.none sa1 (n2 b h)
      n3 := fun b h => Same.none (sa1.trans sa2) (n3 b h)
      n4 := fun b h => Same.none ((sa1.trans sa2).trans sa3) (n4 b h)
      s12 := fun b h k => DA1.fd h (n2 b k)
      s13 := fun b h k => (DA1.same sa2).fd h (n3 b k)
      s14 := fun b h k => (DA1.same (sa2.trans sa3)).fd h (n4 b k)
      s23 := fun b h k => DA2.fd h (n3 b k)
      s24 := fun b h k => (DA2.same sa3).fd h (n4 b k)
      s34 := fun b h k => M1.fm h (n4 b k) }
    have W : All t.C_Desk H H4 ⟨p, d, m, mr, mc, p2, d2, m2, mr2, mc2⟩ DS0 DS0 DS0 DS0 0 0 := ⟨DA1.same ((sa2.trans sa3).trans sa4), DA2.same (sa3.trans sa4), M1.same sa4, M2, ((sa1.trans sa2).trans sa3).trans sa4⟩
    clear hm hmr hmc hm2 hmr2 hmc2 hm' hm2' M1 M2 DA1 DA2 f1 f2 n1 n2 n3 n4
    have ha4 := SqL.same ha W.old
    refine ⟨_, rfl, a, _, rfl, .inl ha4, ?_⟩
    refine ⟨_, _, rfl, ⟨by decide, by decide, (by have : (0 : Int) ≤ ((ns.map V.int).length : Nat) := Int.natCast_nonneg _
                                                  omega), (by simp only [List.length_map]; omega)⟩, ?_⟩
    have el : ((ns.map V.int).length : Nat) = ns.length := List.length_map _
    refine for_range (lo := 1) (n := (((ns.map V.int).length : Int) - 1).toNat) (fun i σ H5 => ∃ o5 o6 o7 o8 o9 o10 o11 o12 S S2, σ = [some (.ref a), some (.ref p), some (.ref p2), some (.ref m), some (.ref m2), o5, o6, o7, o8, o9, o10, o11, o12] ∧ All t.C_Desk H H5 ⟨p, d, m, mr, mc, p2, d2, m2, mr2, mc2⟩ S S S2 S2 (10 * i) (10 * i))
      ⟨none, none, none, none, none, none, none, none, DS0, DS0, rfl, W⟩ ?_ ?_
    · rintro i σ H5 hi ⟨o5, o6, o7, o8, o9, o10, o11, o12, S, S2, rfl, W5⟩
      have ha5 := SqL.same ha W5.old
      have hi2 : (1 : Int) + (i : Int) < (ns.length : Nat) := by omega
      obtain ⟨z1, hz1⟩ := atInt (ns := ns) (k := ((ns.map V.int).length : Int) - (1 + (i : Int))) (by omega) (by omega)
      obtain ⟨z2, hz2⟩ := atInt (ns := ns) (k := 1 + (i : Int)) (by omega) hi2
      refine ⟨_, rfl, _, rfl, a, _, rfl, .inl ha5, _, rfl, _, _, rfl, rfl, a, _, _, _, rfl, rfl, ha5, hz1, ?_⟩
      refine ⟨_, rfl, _, rfl, a, _, _, _, rfl, rfl, ha5, hz2, _, rfl, a, ns, 0, rfl, ha5, Int.le_refl _, fun y => ⟨_, _, rfl, rfl, (show (0 : Int) < 8 by decide), _, _, rfl, rfl, _, rfl, _, rfl, _, _, _, rfl, fun op e v H6 hpg hni s6 he rv => ?_⟩⟩
      refine ⟨e, _, rfl, SqT.of he, rfl, ?_⟩
      refine ⟨_, _, rfl, _, _, rfl, rfl, ?_⟩
      have W6 := W5.same s6
      dsimp only
      refine seq_via (fun σ' H' => ∃ o9 S2', σ' = [some (.ref a), some (.ref p), some (.ref p2), some (.ref m), some (.ref m2), some (.int (1 + (i : Int))), some (.int z1), some (.str op.word), some v, o9, o10, o11, o12] ∧ All t.C_Desk H H' ⟨p, d, m, mr, mc, p2, d2, m2, mr2, mc2⟩ S S S2' S2' (10 * i) (10 * i + 2) ∧ Rep H' v op.d) (fun N hN => ?_) ?_
      · refine ⟨_, rfl, _, _, rfl, rfl, (show (0 : Int) < 4 by decide), rfl, _, rfl, ?_⟩
        by_cases h4 : (1 + (i : Int)) % 4 = 3
        · refine iteTb (vi_eq h4) ?_
          refine ⟨_, rfl, _, rfl, _, rfl, m2, mr2, mc2, S2, op, v, rfl, W6.M2, rv, hpg, hni, fun u H7 M7 f7 r7 => ?_⟩
          have W7 := W6.mine2 Z M7 f7
          have rv7 := Rep.tmono (f7.tups W6.M2) op.flat rv
          refine ⟨_, rfl, _, rfl, _, rfl, p2, d2, S2, 10 * i, op, v, rfl, W7.D2, (by omega), rv7, hpg, fun u2 H8 D8 f8 r8 => ?_⟩
          have W8 := W7.desk2 Z D8 f8
          refine ⟨_, rfl, u, (S2.do op).2, rfl, r7.mono (f8.seqs W7.D2), (S2.do_kind op).1, (S2.do_kind op).2, fun u3 H9 s9 r9 => ?_⟩
          refine ⟨u2, u3, asDue (S2.do op).2, rfl, r8.mono (same_seq s9), r9, (by have := S2.do_size op; omega), fun H10 s10 => ⟨_, rfl, iteFb rfl ?_⟩⟩
          exact hN _ _ ⟨_, _, rfl, W8.same (s9.trans s10), (rv7.mono (f8.seqs W7.D2)).mono (same_seq (s9.trans s10))⟩
        · refine iteFb (vi_ne h4) ?_
          exact hN _ _ ⟨_, _, rfl, W6.mono (Nat.le_refl _) (by omega), rv⟩
      · rintro σ6 H7 ⟨o9, S2', rfl, W7, rv7⟩
        refine ⟨_, rfl, _, rfl, _, rfl, m, mr, mc, S, op, v, rfl, W7.M1, rv7, hpg, hni, fun u H8 M8 f8 r8 => ?_⟩
        have W8 := W7.mine1 Z M8 f8
        have rv8 := Rep.tmono (f8.tups W7.M1) op.flat rv7
        dsimp only
        refine seq_via (fun σ' H' => ∃ u2, σ' = [some (.ref a), some (.ref p), some (.ref p2), some (.ref m), some (.ref m2), some (.int (1 + (i : Int))), some (.int z1), some (.str op.word), some v, some u, some u2, o11, o12] ∧ All t.C_Desk H H' ⟨p, d, m, mr, mc, p2, d2, m2, mr2, mc2⟩ (S.do op).1 (S.do op).1 S2' S2' (10 * i + 2) (10 * i + 2) ∧ Rep H' u (S.do op).2 ∧ Rep H' u2 (asDue (S.do op).2)) (fun N hN => ?_) ?_
        · refine ⟨_, rfl, _, _, rfl, rfl, (show (0 : Int) < 3 by decide), rfl, _, rfl, ?_⟩
          by_cases h3 : (1 + (i : Int)) % 3 = 1
          · refine iteTb (vi_eq h3) ?_
            refine ⟨_, rfl, _, rfl, _, rfl, _, rfl, p, d, S, 10 * i, op, v, u, rfl, W8.D1, (by omega), rv8, hpg, r8, fun u2 H9 D9 f9 r9 => ?_⟩
            exact hN _ _ ⟨u2, rfl, W8.desk1 Z D9 f9, r8.mono (f9.seqs W8.D1), r9⟩
          · refine iteFb (vi_ne h3) ?_
            refine ⟨_, rfl, _, rfl, _, rfl, p, d, S, 10 * i, op, v, rfl, W8.D1, (by omega), rv8, hpg, fun u2 H9 D9 f9 r9 => ?_⟩
            exact hN _ _ ⟨u2, rfl, W8.desk1 Z D9 f9, r8.mono (f9.seqs W8.D1), r9⟩
        · rintro σ9 H9 ⟨u2, rfl, W9, r9, r9'⟩
          refine ⟨_, rfl, _, rfl, u, (S.do op).2, rfl, r9, (S.do_kind op).1, (S.do_kind op).2, fun u3 H10 s10 r10 => ?_⟩
          refine ⟨u2, u3, asDue (S.do op).2, rfl, r9'.mono (same_seq s10), r10, (by have := S.do_size op; omega), fun H11 s11 => ⟨_, rfl, iteFb rfl ?_⟩⟩
          have W11 := W9.same (s10.trans s11)
          generalize (S.do op).1 = Sx at W11
          dsimp only [tNext]
          refine seq_via (fun σ' H' => ∃ q9 q10 q11 q12 S', σ' = [some (.ref a), some (.ref p), some (.ref p2), some (.ref m), some (.ref m2), some (.int (1 + (i : Int))), some (.int z1), some (.str op.word), some v, q9, q10, q11, q12] ∧ All t.C_Desk H H' ⟨p, d, m, mr, mc, p2, d2, m2, mr2, mc2⟩ S' S' S2' S2' (10 * i + 10) (10 * i + 2)) (fun N hN => ?_) ?_
          · refine ⟨_, rfl, _, _, rfl, rfl, (show (0 : Int) < 5 by decide), rfl, _, rfl, ?_⟩
            by_cases h5 : (1 + (i : Int)) % 5 = 2
            · refine iteTb (vi_eq h5) ?_
              have ha11 := SqL.same ha W11.old
              refine ⟨_, rfl, _, rfl, a, ns, 1 + (i : Int), rfl, ha11, (by omega), hi2, fun l xs ls H12 hls hok hl s12 hrow rx => ?_⟩
              have W12 := W11.same s12
              refine ⟨_, rfl, l, xs, rfl, .inl (SqL.of hrow), fun l2 hl2 => ?_⟩
              have s13 := same_new (o := .lst xs) hl2
              have W13 := W12.same s13
              have hrow13 := s13 _ _ hrow
              have rx13 := RepL.tmono (tup_new (o := .lst xs) hl2) (flats_let ls) rx
              have hl2_13 : (upd H12 l2 (.lst xs)) l2 = some (.lst xs) := upd_same
              have nl : ¬ FM m mr mc l := fun z => W11.M1.fm z hl
              have nl2 : ¬ FM m mr mc l2 := fun z => W12.M1.fm z hl2
              generalize upd H12 l2 (.lst xs) = H13 at s13 W13 hrow13 rx13 hl2_13
              have hxl : xs.length = ls.length := by rw [rx13.length, List.length_map]
              refine ⟨_, rfl, l, rfl, ⟨_, SqL.of hrow13⟩, fun acc hacc => ?_⟩
              have nacc : ¬ FM m mr mc acc := fun z => W13.M1.fm z hacc
              refine comp_list (xs := xs) (fun j zs σ H2 => ∃ o, σ = [o, some (.ref m)] ∧ MineAt H2 m mr mc (Sx.takes (ls.take j)).1 ∧ (∀ b o, H13 b = some o → ¬ FM m mr mc b → H2 b = some o) ∧ TupSame H13 H2 ∧ H2 acc = some (.lst zs) ∧ RepL (hid3 H2 acc mr mc) zs (Sx.takes (ls.take j)).2 ∧ zs.length = j)
                ⟨none, rfl, W13.M1.new hacc, (fun b o e _ => same_new hacc b o e), tup_new hacc, upd_same, by simp [DS.takes, RepL], rfl⟩ ?_ ?_ ?_
              · rintro j zs σ H2 hj ⟨o, rfl, M2, k2, t2, h2, _⟩
                exact ⟨SqL.of (k2 _ _ hrow13 nl), h2⟩
              · rintro j y zs σ H2 hy hj ⟨o, rfl, M2, k2, t2, h2, r2, hz⟩
                obtain ⟨e', he', re⟩ := RepL.get rx13 hy
                rw [List.getElem?_map] at he'
                cases hli : ls[j]? with
                | none => rw [hli] at he'; cases he'
                | some le =>
                  rw [hli] at he'
                  cases he'
                  obtain ⟨b, rfl, hb⟩ := rep_let re
                  have hb2 := t2 b _ hb
                  have lok := hok le (List.mem_of_getElem? hli)
                  refine gYes_if ?_
                  refine ⟨_, rfl, _, rfl, m, mr, mc, _, b, le, rfl, M2, hb2, lok.1, lok.2, fun v3 H3 M3 f3 r3 => ?_⟩
                  have ha3 : H3 acc = some (.lst zs) := f3.later nacc h2
                  refine CStep.mk hj ha3 (by have : (4 : Nat) < sizeLine := by decide
                                             omega) ⟨_, rfl, ?_, ?_, ?_, upd_same, ?_, by simp [hz]⟩
                  · rw [take_snoc hli, DS.takes_snoc]
                    refine M3.keep (fun b' us e' => by rw [upd_ne (ne_of e' ha3 (by intro z; cases z))]; exact e') (fun o' e' => ?_) (fun o' e' => ?_) (fun o' e' => ?_)
                    · rw [upd_ne (fun z => nacc (.inl z.symm))]; exact e'
                    · rw [upd_ne (fun z => nacc (.inr (.inl z.symm)))]; exact e'
                    · rw [upd_ne (fun z => nacc (.inr (.inr z.symm)))]; exact e'
                  · intro b' o' e' n'
                    rw [upd_ne (ne_of_none e' hacc)]
                    exact f3.later n' (k2 b' o' e' n')
                  · intro b' us e'
                    rw [upd_ne (ne_of_none e' hacc)]
                    exact f3.tups M2 b' us (t2 b' us e')
                  · rw [take_snoc hli, DS.takes_snoc, hid3_upd]
                    exact (r2.mono (MF.hid3 M2 f3)).snoc (r3.mono (nw_hid3 h2 M2.rg M2.cp))
              · rintro zs σ H2 ⟨o, rfl, M2, k2, t2, h2, r2, hz⟩
                rw [hxl, List.take_length] at M2 r2
                have W14 := W13.mine1 Z M2 (fun b o e n1 n2 n3 => k2 b o e (by rintro (z | z | z) <;> contradiction))
                have hl14 := k2 _ _ hrow13 nl
                have hl214 := k2 _ _ hl2_13 nl2
                have rx14 := RepL.tmono t2 (flats_let ls) rx13
                refine ⟨_, rfl, _, rfl, p, d, Sx, 10 * i + 2, l2, xs, ls, rfl, W14.D1, (by omega), hl214, rx14, (by omega), fun u4 H4' D4 f4 r4 => ?_⟩
                have W15 := W14.desk1 Z D4 f4
                have q4 := f4.seqs W14.D1
                have rx15 := rx14.mono q4
                have hl15 := q4.2 _ _ hl14
                have hl215 := q4.2 _ _ hl214
                have r15 : Rep H4' (.ref acc) (.l (Sx.takes ls).2) := by
                  simp only [Rep]
                  exact ⟨acc, zs, rfl, q4.2 _ _ h2, (r2.mono hid3_seq).mono q4⟩
                have r4' := r4
                simp only [Rep] at r4'
                obtain ⟨fa, fxs, rfl, hfa, rf⟩ := r4'
                refine ⟨_, rfl, _, _, _, true, rfl, .lst hfa, .inl ⟨_, rfl, kit_ll⟩, _, rfl, iteFb rfl ?_⟩
                have zs1 := Sx.takes_size ls
                have zs2 := lets_size ls
                refine ⟨_, rfl, _, rfl, .ref fa, .ref acc, .l (Sx.takes ls).2, rfl, r4, r15, (by simp only [D.size]; omega), fun H5' s5 => ⟨_, rfl, iteFb rfl ?_⟩⟩
                refine ⟨_, rfl, _, rfl, .ref l2, .ref l, .l (ls.map Let.d), rfl, ?_, ?_, (by simp only [D.size]; omega), fun H6' s6' => ⟨_, rfl, iteFb rfl ?_⟩⟩
                · simp only [Rep]; exact ⟨l2, xs, rfl, s5 _ _ hl215, rx15.mono (same_seq s5)⟩
                · simp only [Rep]; exact ⟨l, xs, rfl, s5 _ _ hl15, rx15.mono (same_seq s5)⟩
                exact hN _ _ ⟨_, _, _, _, (Sx.takes ls).1, rfl, (W15.same (s5.trans s6')).mono (by omega) (Nat.le_refl _)⟩
            · refine iteFb (vi_ne h5) ?_
              exact hN _ _ ⟨_, _, _, _, Sx, rfl, W11.mono (by omega) (Nat.le_refl _)⟩
          · rintro σ12 H12 ⟨q9, q10, q11, q12, S', rfl, W12⟩
            refine ⟨3, rfl, (by decide), (by decide), fun acc hacc => ?_⟩
            refine comp_range (lo := 0) (n := 3) (fun j zs σ H2 => ∃ o, σ = [o, some (.ref p)] ∧ Same H12 H2 ∧ H2 acc = some (.lst zs) ∧ zs = ([.str (S'.rt 0).s, .str (S'.rt 1).s, .str (S'.rt 2).s] : List V).take j) ⟨none, rfl, same_new hacc, upd_same, rfl⟩ ?_ ?_ ?_
            · rintro j zs σ H2 hj ⟨o, rfl, k2, h2, hz⟩
              exact h2
            · rintro j zs σ H2 hj ⟨o, rfl, k2, h2, hz⟩
              have D2 := W12.D1.same k2
              obtain ⟨⟨dx, vw, h1, _⟩, _⟩ := id D2
              refine gYes_if ?_
              refine ⟨_, rfl, p, dx, _, rfl, h1, flds_no _ _ (by decide +kernel) (by decide +kernel), _, rfl, p, d, S', _, _, rfl, D2, ?_⟩
              refine CStep.mk hj h2 (by rw [hz, List.length_take]; have : (3 : Nat) < sizeLine := by decide
                                        omega) ⟨_, rfl, ?_, upd_same, ?_⟩
              · intro b' o' e'
                rw [upd_ne (ne_of_none e' hacc)]
                exact k2 b' o' e'
              · rw [hz]
                have h3 : j = 0 ∨ j = 1 ∨ j = 2 := by omega
                rcases h3 with rfl | rfl | rfl <;> rfl
            · rintro zs σ H2 ⟨o, rfl, k2, h2, hz⟩
              have ez : zs = [.str (S'.rt 0).s, .str (S'.rt 1).s, .str (S'.rt 2).s] := hz
              subst ez
              have W2 := W12.same k2
              obtain ⟨⟨vw, a1, hw⟩, c1, d1, _⟩ := id W2.M1
              refine ⟨_, rfl, m, .ref mr, rfl, DGet.k (k := Sum.inr "rights") a1, ?_⟩
              refine ⟨.ref acc, .ref mr, .l [.s (S'.rt 0).s, .s (S'.rt 1).s, .s (S'.rt 2).s], rfl, ?_, ?_, (by simp [D.size, D.sizes]), fun H14 s14 => ?_⟩
              · simp only [Rep, RepL]; exact ⟨acc, _, rfl, h2, _, _, rfl, rfl, _, _, rfl, rfl, _, _, rfl, rfl, rfl⟩
              · simp only [Rep, RepL]; exact ⟨mr, _, rfl, c1, _, _, rfl, rfl, _, _, rfl, rfl, _, _, rfl, rfl, rfl⟩
              exact ⟨_, rfl, iteFb rfl ⟨_, _, _, _, _, _, _, _, S', S2', rfl, (W2.same s14).mono (by omega) (by omega)⟩⟩
    · rintro σ H5 ⟨o5, o6, o7, o8, o9, o10, o11, o12, S, S2, rfl, W5⟩
      refine ⟨3, rfl, (by decide), (by decide), fun acc hacc => ?_⟩
      refine comp_range (lo := 0) (n := 3) (fun j zs σ H2 => ∃ o, σ = [o, some (.ref p2)] ∧ Same H5 H2 ∧ H2 acc = some (.lst zs) ∧ zs = ([.str (S2.rt 0).s, .str (S2.rt 1).s, .str (S2.rt 2).s] : List V).take j) ⟨none, rfl, same_new hacc, upd_same, rfl⟩ ?_ ?_ ?_
      · rintro j zs σ H2 hj ⟨o, rfl, k2, h2, hz⟩
        exact h2
      · rintro j zs σ H2 hj ⟨o, rfl, k2, h2, hz⟩
        have D2 := W5.D2.same k2
        obtain ⟨⟨dx, vw, h1, _⟩, _⟩ := id D2
        refine gYes_if ?_
        refine ⟨_, rfl, p2, dx, _, rfl, h1, flds_no _ _ (by decide +kernel) (by decide +kernel), _, rfl, p2, d2, S2, _, _, rfl, D2, ?_⟩
        refine CStep.mk hj h2 (by rw [hz, List.length_take]; have : (3 : Nat) < sizeLine := by decide
                                  omega) ⟨_, rfl, ?_, upd_same, ?_⟩
        · intro b' o' e'
          rw [upd_ne (ne_of_none e' hacc)]
          exact k2 b' o' e'
        · rw [hz]
          have h3 : j = 0 ∨ j = 1 ∨ j = 2 := by omega
          rcases h3 with rfl | rfl | rfl <;> rfl
      · rintro zs σ H2 ⟨o, rfl, k2, h2, hz⟩
        have ez : zs = [.str (S2.rt 0).s, .str (S2.rt 1).s, .str (S2.rt 2).s] := hz
        subst ez
        have W2 := W5.same k2
        obtain ⟨⟨vw, a1, hw⟩, c1, d1, _⟩ := id W2.M2
        refine ⟨_, rfl, m2, .ref mr2, rfl, DGet.k (k := Sum.inr "rights") a1, ?_⟩
        refine ⟨.ref acc, .ref mr2, .l [.s (S2.rt 0).s, .s (S2.rt 1).s, .s (S2.rt 2).s], rfl, ?_, ?_, (by simp [D.size, D.sizes]), fun H14 s14 => ?_⟩
        · simp only [Rep, RepL]; exact ⟨acc, _, rfl, h2, _, _, rfl, rfl, _, _, rfl, rfl, _, _, rfl, rfl, rfl⟩
        · simp only [Rep, RepL]; exact ⟨mr2, _, rfl, c1, _, _, rfl, rfl, _, _, rfl, rfl, _, _, rfl, rfl, rfl⟩
        exact q H14
end
end K07
namespace K07
open PySem L2
theorem all_mk {l : PySem.W.OpenLaw} {w : World} {K : PySem.W.Frag} {h : Heap} {mg : Str → Option Value} {fa : Addr} (X : K.In h) (G : h.Ns mainGlobals mg) (hfa : mg "law" = some (.ref fa))
    {C_CopyError : Addr}
    {C_NoDesk : Addr}
    {C_NoPage : Addr}
    {C_Waiting : Addr}
    {C_NoCopy : Addr}
    {C_NoLetter : Addr}
    {C_Desk : Addr}
    {f_ask_letter : Addr} {od_ask_letter an_ask_letter : Option Addr} {sl_ask_letter : Array (Option Value)} {oc_ask_letter kV_ask_letter dc_ask_letter pm_ask_letter cd_ask_letter ct_ask_letter : Value}
    {f_answer_letter : Addr} {od_answer_letter an_answer_letter : Option Addr} {sl_answer_letter : Array (Option Value)} {oc_answer_letter kV_answer_letter dc_answer_letter pm_answer_letter cd_answer_letter ct_answer_letter : Value}
    {f_gave_letter : Addr} {od_gave_letter an_gave_letter : Option Addr} {sl_gave_letter : Array (Option Value)} {oc_gave_letter kV_gave_letter dc_gave_letter pm_gave_letter cd_gave_letter ct_gave_letter : Value}
    {f_is_enough : Addr} {od_is_enough an_is_enough : Option Addr} {sl_is_enough : Array (Option Value)} {oc_is_enough kV_is_enough dc_is_enough pm_is_enough cd_is_enough ct_is_enough : Value}
    {f_right_needed : Addr} {od_right_needed an_right_needed : Option Addr} {sl_right_needed : Array (Option Value)} {oc_right_needed kV_right_needed dc_right_needed pm_right_needed cd_right_needed ct_right_needed : Value}
    {f_Desk_init : Addr} {od_Desk_init an_Desk_init : Option Addr} {sl_Desk_init : Array (Option Value)} {oc_Desk_init kV_Desk_init dc_Desk_init pm_Desk_init cd_Desk_init ct_Desk_init : Value}
    {f_Desk_right_of : Addr} {od_Desk_right_of an_Desk_right_of : Option Addr} {sl_Desk_right_of : Array (Option Value)} {oc_Desk_right_of kV_Desk_right_of dc_Desk_right_of pm_Desk_right_of cd_Desk_right_of ct_Desk_right_of : Value}
    {f_Desk_waits : Addr} {od_Desk_waits an_Desk_waits : Option Addr} {sl_Desk_waits : Array (Option Value)} {oc_Desk_waits kV_Desk_waits dc_Desk_waits pm_Desk_waits cd_Desk_waits ct_Desk_waits : Value}
    {f_Desk_want : Addr} {od_Desk_want an_Desk_want : Option Addr} {sl_Desk_want : Array (Option Value)} {oc_Desk_want kV_Desk_want dc_Desk_want pm_Desk_want cd_Desk_want ct_Desk_want : Value}
    {f_Desk_take : Addr} {od_Desk_take an_Desk_take : Option Addr} {sl_Desk_take : Array (Option Value)} {oc_Desk_take kV_Desk_take dc_Desk_take pm_Desk_take cd_Desk_take ct_Desk_take : Value}
    {f_Desk_rest : Addr} {od_Desk_rest an_Desk_rest : Option Addr} {sl_Desk_rest : Array (Option Value)} {oc_Desk_rest kV_Desk_rest dc_Desk_rest pm_Desk_rest cd_Desk_rest ct_Desk_rest : Value}
    {f_Desk_may_do : Addr} {od_Desk_may_do an_Desk_may_do : Option Addr} {sl_Desk_may_do : Array (Option Value)} {oc_Desk_may_do kV_Desk_may_do dc_Desk_may_do pm_Desk_may_do cd_Desk_may_do ct_Desk_may_do : Value}
    {f_Desk_do_wish : Addr} {od_Desk_do_wish an_Desk_do_wish : Option Addr} {sl_Desk_do_wish : Array (Option Value)} {oc_Desk_do_wish kV_Desk_do_wish dc_Desk_do_wish pm_Desk_do_wish cd_Desk_do_wish ct_Desk_do_wish : Value}
    {f_Desk_take_loan : Addr} {od_Desk_take_loan an_Desk_take_loan : Option Addr} {sl_Desk_take_loan : Array (Option Value)} {oc_Desk_take_loan kV_Desk_take_loan dc_Desk_take_loan pm_Desk_take_loan cd_Desk_take_loan ct_Desk_take_loan : Value}
    {f_Desk_go_down : Addr} {od_Desk_go_down an_Desk_go_down : Option Addr} {sl_Desk_go_down : Array (Option Value)} {oc_Desk_go_down kV_Desk_go_down dc_Desk_go_down pm_Desk_go_down cd_Desk_go_down ct_Desk_go_down : Value}
    {f_Desk_number_to_tell : Addr} {od_Desk_number_to_tell an_Desk_number_to_tell : Option Addr} {sl_Desk_number_to_tell : Array (Option Value)} {oc_Desk_number_to_tell kV_Desk_number_to_tell dc_Desk_number_to_tell pm_Desk_number_to_tell cd_Desk_number_to_tell ct_Desk_number_to_tell : Value}
    {f_Desk_hold : Addr} {od_Desk_hold an_Desk_hold : Option Addr} {sl_Desk_hold : Array (Option Value)} {oc_Desk_hold kV_Desk_hold dc_Desk_hold pm_Desk_hold cd_Desk_hold ct_Desk_hold : Value}
    {f_taken_by_desk : Addr} {od_taken_by_desk an_taken_by_desk : Option Addr} {sl_taken_by_desk : Array (Option Value)} {oc_taken_by_desk kV_taken_by_desk dc_taken_by_desk pm_taken_by_desk cd_taken_by_desk ct_taken_by_desk : Value}
    {f_l_whole : Addr} {od_l_whole an_l_whole : Option Addr} {sl_l_whole : Array (Option Value)} {oc_l_whole kV_l_whole dc_l_whole pm_l_whole cd_l_whole ct_l_whole : Value}
    {f_l_at : Addr} {od_l_at an_l_at : Option Addr} {sl_l_at : Array (Option Value)} {oc_l_at kV_l_at dc_l_at pm_l_at cd_l_at ct_l_at : Value}
    {f_l_same : Addr} {od_l_same an_l_same : Option Addr} {sl_l_same : Array (Option Value)} {oc_l_same kV_l_same dc_l_same pm_l_same cd_l_same ct_l_same : Value}
    {f_l_wanted : Addr} {od_l_wanted an_l_wanted : Option Addr} {sl_l_wanted : Array (Option Value)} {oc_l_wanted kV_l_wanted dc_l_wanted pm_l_wanted cd_l_wanted ct_l_wanted : Value}
    {f_l_fulfilled : Addr} {od_l_fulfilled an_l_fulfilled : Option Addr} {sl_l_fulfilled : Array (Option Value)} {oc_l_fulfilled kV_l_fulfilled dc_l_fulfilled pm_l_fulfilled cd_l_fulfilled ct_l_fulfilled : Value}
    {f_l_taken : Addr} {od_l_taken an_l_taken : Option Addr} {sl_l_taken : Array (Option Value)} {oc_l_taken kV_l_taken dc_l_taken pm_l_taken cd_l_taken ct_l_taken : Value}
    {f_l_rested : Addr} {od_l_rested an_l_rested : Option Addr} {sl_l_rested : Array (Option Value)} {oc_l_rested kV_l_rested dc_l_rested pm_l_rested cd_l_rested ct_l_rested : Value}
    {f_l_asked : Addr} {od_l_asked an_l_asked : Option Addr} {sl_l_asked : Array (Option Value)} {oc_l_asked kV_l_asked dc_l_asked pm_l_asked cd_l_asked ct_l_asked : Value}
    {f_l_called : Addr} {od_l_called an_l_called : Option Addr} {sl_l_called : Array (Option Value)} {oc_l_called kV_l_called dc_l_called pm_l_called cd_l_called ct_l_called : Value}
    {f_l_asked_by_any : Addr} {od_l_asked_by_any an_l_asked_by_any : Option Addr} {sl_l_asked_by_any : Array (Option Value)} {oc_l_asked_by_any kV_l_asked_by_any dc_l_asked_by_any pm_l_asked_by_any cd_l_asked_by_any ct_l_asked_by_any : Value}
    {f_l_due_of : Addr} {od_l_due_of an_l_due_of : Option Addr} {sl_l_due_of : Array (Option Value)} {oc_l_due_of kV_l_due_of dc_l_due_of pm_l_due_of cd_l_due_of ct_l_due_of : Value}
    {f_l_next_of : Addr} {od_l_next_of an_l_next_of : Option Addr} {sl_l_next_of : Array (Option Value)} {oc_l_next_of kV_l_next_of dc_l_next_of pm_l_next_of cd_l_next_of ct_l_next_of : Value}
    {f_l_some_letters : Addr} {od_l_some_letters an_l_some_letters : Option Addr} {sl_l_some_letters : Array (Option Value)} {oc_l_some_letters kV_l_some_letters dc_l_some_letters pm_l_some_letters cd_l_some_letters ct_l_some_letters : Value}
    {f_l_as_due : Addr} {od_l_as_due an_l_as_due : Option Addr} {sl_l_as_due : Array (Option Value)} {oc_l_as_due kV_l_as_due dc_l_as_due pm_l_as_due cd_l_as_due ct_l_as_due : Value}
    {f_law : Addr} {od_law an_law : Option Addr} {sl_law : Array (Option Value)} {oc_law kV_law dc_law pm_law cd_law ct_law : Value}
    {u_NONE : Tok}
    {u_READ : Tok}
    {u_WRITE : Tok}
    {a_RANKS : Addr} {es_RANKS : Array DictEntry} {z_RANKS : Nat} {t0_RANKS : Tok} {t1_RANKS : Tok} {t2_RANKS : Tok}
    (aC_CopyError : PySem.W.nsIn K mainGlobals "CopyError" = some (some (.ref C_CopyError)))
    (aC_NoDesk : PySem.W.nsIn K mainGlobals "NoDesk" = some (some (.ref C_NoDesk)))
    (aC_NoPage : PySem.W.nsIn K mainGlobals "NoPage" = some (some (.ref C_NoPage)))
    (aC_Waiting : PySem.W.nsIn K mainGlobals "Waiting" = some (some (.ref C_Waiting)))
    (aC_NoCopy : PySem.W.nsIn K mainGlobals "NoCopy" = some (some (.ref C_NoCopy)))
    (aC_NoLetter : PySem.W.nsIn K mainGlobals "NoLetter" = some (some (.ref C_NoLetter)))
    (aC_Desk : PySem.W.nsIn K mainGlobals "Desk" = some (some (.ref C_Desk)))
    (xi_CopyError : PySem.W.excIn K C_CopyError [.type "ValueError", .type "Exception", .type "BaseException", .type "object"] "ValueError.__new__" = true)
    (xm_CopyError : L2.mroIn K C_CopyError = some (.ref C_CopyError :: [.type "ValueError", .type "Exception", .type "BaseException", .type "object"]))
    (xi_NoDesk : PySem.W.excIn K C_NoDesk [.type "ValueError", .type "Exception", .type "BaseException", .type "object"] "ValueError.__new__" = true)
    (xm_NoDesk : L2.mroIn K C_NoDesk = some (.ref C_NoDesk :: [.ref C_CopyError, .type "ValueError", .type "Exception", .type "BaseException", .type "object"]))
    (xi_NoPage : PySem.W.excIn K C_NoPage [.type "ValueError", .type "Exception", .type "BaseException", .type "object"] "ValueError.__new__" = true)
    (xm_NoPage : L2.mroIn K C_NoPage = some (.ref C_NoPage :: [.ref C_CopyError, .type "ValueError", .type "Exception", .type "BaseException", .type "object"]))
    (xi_Waiting : PySem.W.excIn K C_Waiting [.type "ValueError", .type "Exception", .type "BaseException", .type "object"] "ValueError.__new__" = true)
    (xm_Waiting : L2.mroIn K C_Waiting = some (.ref C_Waiting :: [.ref C_CopyError, .type "ValueError", .type "Exception", .type "BaseException", .type "object"]))
    (xi_NoCopy : PySem.W.excIn K C_NoCopy [.type "ValueError", .type "Exception", .type "BaseException", .type "object"] "ValueError.__new__" = true)
    (xm_NoCopy : L2.mroIn K C_NoCopy = some (.ref C_NoCopy :: [.ref C_CopyError, .type "ValueError", .type "Exception", .type "BaseException", .type "object"]))
    (xi_NoLetter : PySem.W.excIn K C_NoLetter [.type "ValueError", .type "Exception", .type "BaseException", .type "object"] "ValueError.__new__" = true)
    (xm_NoLetter : L2.mroIn K C_NoLetter = some (.ref C_NoLetter :: [.ref C_CopyError, .type "ValueError", .type "Exception", .type "BaseException", .type "object"]))
    (xacl_Waiting : PySem.W.findIn K (.ref C_Waiting) "__class__" = some (some (.builtin "object.__class__")))
    (xaga_Waiting : PySem.W.findIn K (.ref C_Waiting) "__getattribute__" = some (some (.builtin "BaseException.__getattribute__")))
    (xagt_Waiting : PySem.W.findIn K (.ref C_Waiting) "__getattr__" = some none)
    (ki_Waiting_CopyError : PySem.W.kitOne K (.ref C_Waiting) (.ref C_CopyError) = some true)
    (ne_Waiting_CopyError : C_Waiting ≠ C_CopyError)
    (ki_Waiting_NoDesk : PySem.W.kitOne K (.ref C_Waiting) (.ref C_NoDesk) = some false)
    (ne_Waiting_NoDesk : C_Waiting ≠ C_NoDesk)
    (ki_Waiting_NoPage : PySem.W.kitOne K (.ref C_Waiting) (.ref C_NoPage) = some false)
    (ne_Waiting_NoPage : C_Waiting ≠ C_NoPage)
    (ki_Waiting_Waiting : PySem.W.kitOne K (.ref C_Waiting) (.ref C_Waiting) = some true)
    (ki_Waiting_NoCopy : PySem.W.kitOne K (.ref C_Waiting) (.ref C_NoCopy) = some false)
    (ne_Waiting_NoCopy : C_Waiting ≠ C_NoCopy)
    (ki_Waiting_NoLetter : PySem.W.kitOne K (.ref C_Waiting) (.ref C_NoLetter) = some false)
    (ne_Waiting_NoLetter : C_Waiting ≠ C_NoLetter)
    (ki_Waiting_ValueError : PySem.W.kitOne K (.ref C_Waiting) (.type "ValueError") = some true)
    (xacl_NoCopy : PySem.W.findIn K (.ref C_NoCopy) "__class__" = some (some (.builtin "object.__class__")))
    (xaga_NoCopy : PySem.W.findIn K (.ref C_NoCopy) "__getattribute__" = some (some (.builtin "BaseException.__getattribute__")))
    (xagt_NoCopy : PySem.W.findIn K (.ref C_NoCopy) "__getattr__" = some none)
    (ki_NoCopy_CopyError : PySem.W.kitOne K (.ref C_NoCopy) (.ref C_CopyError) = some true)
    (ne_NoCopy_CopyError : C_NoCopy ≠ C_CopyError)
    (ki_NoCopy_NoDesk : PySem.W.kitOne K (.ref C_NoCopy) (.ref C_NoDesk) = some false)
    (ne_NoCopy_NoDesk : C_NoCopy ≠ C_NoDesk)
    (ki_NoCopy_NoPage : PySem.W.kitOne K (.ref C_NoCopy) (.ref C_NoPage) = some false)
    (ne_NoCopy_NoPage : C_NoCopy ≠ C_NoPage)
    (ki_NoCopy_Waiting : PySem.W.kitOne K (.ref C_NoCopy) (.ref C_Waiting) = some false)
    (ne_NoCopy_Waiting : C_NoCopy ≠ C_Waiting)
    (ki_NoCopy_NoCopy : PySem.W.kitOne K (.ref C_NoCopy) (.ref C_NoCopy) = some true)
    (ki_NoCopy_NoLetter : PySem.W.kitOne K (.ref C_NoCopy) (.ref C_NoLetter) = some false)
    (ne_NoCopy_NoLetter : C_NoCopy ≠ C_NoLetter)
    (ki_NoCopy_ValueError : PySem.W.kitOne K (.ref C_NoCopy) (.type "ValueError") = some true)
    (pg_Desk : PySem.W.plainGet K C_Desk Str.empty = true)
    (hd_Desk : PySem.W.hasDictIn K C_Desk = true)
    (po_Desk : PySem.W.plainOver K C_Desk = true)
    (sa_Desk : PySem.W.findIn K (.ref C_Desk) "__setattr__" = some (some (.builtin "object.__setattr__")))
    (mk_Desk : PySem.W.makesIn K C_Desk = true)
    (kc_Desk : PySem.W.keepIn K (.ref C_Desk) = true)
    (na_Desk_copies : PySem.W.findIn K (.ref C_Desk) "copies" = some none)
    (na_Desk_wish : PySem.W.findIn K (.ref C_Desk) "wish" = some none)
    (a_ask_letter : PySem.W.nsIn K mainGlobals "ask_letter" = some (some (.ref f_ask_letter)))
    (l_ask_letter : K.lookup f_ask_letter = some ⟨oc_ask_letter, od_ask_letter, .func (PySem.W.fnOf "ask_letter" "ask_letter" (defArgs s_ask_letter) (defBody s_ask_letter) (defScope s_ask_letter) .none kV_ask_letter dc_ask_letter pm_ask_letter an_ask_letter cd_ask_letter ct_ask_letter), sl_ask_letter⟩)
    (c_ask_letter : PySem.W.codeIn K cd_ask_letter "ask_letter" = true)
    (k_ask_letter : PySem.W.keepIn K (.ref f_ask_letter) = true)
    (a_answer_letter : PySem.W.nsIn K mainGlobals "answer_letter" = some (some (.ref f_answer_letter)))
    (l_answer_letter : K.lookup f_answer_letter = some ⟨oc_answer_letter, od_answer_letter, .func (PySem.W.fnOf "answer_letter" "answer_letter" (defArgs s_answer_letter) (defBody s_answer_letter) (defScope s_answer_letter) .none kV_answer_letter dc_answer_letter pm_answer_letter an_answer_letter cd_answer_letter ct_answer_letter), sl_answer_letter⟩)
    (c_answer_letter : PySem.W.codeIn K cd_answer_letter "answer_letter" = true)
    (k_answer_letter : PySem.W.keepIn K (.ref f_answer_letter) = true)
    (a_gave_letter : PySem.W.nsIn K mainGlobals "gave_letter" = some (some (.ref f_gave_letter)))
    (l_gave_letter : K.lookup f_gave_letter = some ⟨oc_gave_letter, od_gave_letter, .func (PySem.W.fnOf "gave_letter" "gave_letter" (defArgs s_gave_letter) (defBody s_gave_letter) (defScope s_gave_letter) .none kV_gave_letter dc_gave_letter pm_gave_letter an_gave_letter cd_gave_letter ct_gave_letter), sl_gave_letter⟩)
    (c_gave_letter : PySem.W.codeIn K cd_gave_letter "gave_letter" = true)
    (k_gave_letter : PySem.W.keepIn K (.ref f_gave_letter) = true)
    (a_is_enough : PySem.W.nsIn K mainGlobals "is_enough" = some (some (.ref f_is_enough)))
    (l_is_enough : K.lookup f_is_enough = some ⟨oc_is_enough, od_is_enough, .func (PySem.W.fnOf "is_enough" "is_enough" (defArgs s_is_enough) (defBody s_is_enough) (defScope s_is_enough) .none kV_is_enough dc_is_enough pm_is_enough an_is_enough cd_is_enough ct_is_enough), sl_is_enough⟩)
    (c_is_enough : PySem.W.codeIn K cd_is_enough "is_enough" = true)
    (k_is_enough : PySem.W.keepIn K (.ref f_is_enough) = true)
    (a_right_needed : PySem.W.nsIn K mainGlobals "right_needed" = some (some (.ref f_right_needed)))
    (l_right_needed : K.lookup f_right_needed = some ⟨oc_right_needed, od_right_needed, .func (PySem.W.fnOf "right_needed" "right_needed" (defArgs s_right_needed) (defBody s_right_needed) (defScope s_right_needed) .none kV_right_needed dc_right_needed pm_right_needed an_right_needed cd_right_needed ct_right_needed), sl_right_needed⟩)
    (c_right_needed : PySem.W.codeIn K cd_right_needed "right_needed" = true)
    (k_right_needed : PySem.W.keepIn K (.ref f_right_needed) = true)
    (a_Desk_init : PySem.W.findIn K (.ref C_Desk) "__init__" = some (some (.ref f_Desk_init)))
    (i_Desk_init : PySem.W.isFn K (.ref f_Desk_init) = true)
    (l_Desk_init : K.lookup f_Desk_init = some ⟨oc_Desk_init, od_Desk_init, .func (PySem.W.fnOf "__init__" "Desk.__init__" (defArgs s_Desk_init) (defBody s_Desk_init) (defScope s_Desk_init) .none kV_Desk_init dc_Desk_init pm_Desk_init an_Desk_init cd_Desk_init ct_Desk_init), sl_Desk_init⟩)
    (c_Desk_init : PySem.W.codeIn K cd_Desk_init "Desk.__init__" = true)
    (k_Desk_init : PySem.W.keepIn K (.ref f_Desk_init) = true)
    (a_Desk_right_of : PySem.W.findIn K (.ref C_Desk) "right_of" = some (some (.ref f_Desk_right_of)))
    (i_Desk_right_of : PySem.W.isFn K (.ref f_Desk_right_of) = true)
    (l_Desk_right_of : K.lookup f_Desk_right_of = some ⟨oc_Desk_right_of, od_Desk_right_of, .func (PySem.W.fnOf "right_of" "Desk.right_of" (defArgs s_Desk_right_of) (defBody s_Desk_right_of) (defScope s_Desk_right_of) .none kV_Desk_right_of dc_Desk_right_of pm_Desk_right_of an_Desk_right_of cd_Desk_right_of ct_Desk_right_of), sl_Desk_right_of⟩)
    (c_Desk_right_of : PySem.W.codeIn K cd_Desk_right_of "Desk.right_of" = true)
    (k_Desk_right_of : PySem.W.keepIn K (.ref f_Desk_right_of) = true)
    (a_Desk_waits : PySem.W.findIn K (.ref C_Desk) "waits" = some (some (.ref f_Desk_waits)))
    (i_Desk_waits : PySem.W.isFn K (.ref f_Desk_waits) = true)
    (l_Desk_waits : K.lookup f_Desk_waits = some ⟨oc_Desk_waits, od_Desk_waits, .func (PySem.W.fnOf "waits" "Desk.waits" (defArgs s_Desk_waits) (defBody s_Desk_waits) (defScope s_Desk_waits) .none kV_Desk_waits dc_Desk_waits pm_Desk_waits an_Desk_waits cd_Desk_waits ct_Desk_waits), sl_Desk_waits⟩)
    (c_Desk_waits : PySem.W.codeIn K cd_Desk_waits "Desk.waits" = true)
    (k_Desk_waits : PySem.W.keepIn K (.ref f_Desk_waits) = true)
    (a_Desk_want : PySem.W.findIn K (.ref C_Desk) "want" = some (some (.ref f_Desk_want)))
    (i_Desk_want : PySem.W.isFn K (.ref f_Desk_want) = true)
    (l_Desk_want : K.lookup f_Desk_want = some ⟨oc_Desk_want, od_Desk_want, .func (PySem.W.fnOf "want" "Desk.want" (defArgs s_Desk_want) (defBody s_Desk_want) (defScope s_Desk_want) .none kV_Desk_want dc_Desk_want pm_Desk_want an_Desk_want cd_Desk_want ct_Desk_want), sl_Desk_want⟩)
    (c_Desk_want : PySem.W.codeIn K cd_Desk_want "Desk.want" = true)
    (k_Desk_want : PySem.W.keepIn K (.ref f_Desk_want) = true)
    (a_Desk_take : PySem.W.findIn K (.ref C_Desk) "take" = some (some (.ref f_Desk_take)))
    (i_Desk_take : PySem.W.isFn K (.ref f_Desk_take) = true)
    (l_Desk_take : K.lookup f_Desk_take = some ⟨oc_Desk_take, od_Desk_take, .func (PySem.W.fnOf "take" "Desk.take" (defArgs s_Desk_take) (defBody s_Desk_take) (defScope s_Desk_take) .none kV_Desk_take dc_Desk_take pm_Desk_take an_Desk_take cd_Desk_take ct_Desk_take), sl_Desk_take⟩)
    (c_Desk_take : PySem.W.codeIn K cd_Desk_take "Desk.take" = true)
    (k_Desk_take : PySem.W.keepIn K (.ref f_Desk_take) = true)
    (a_Desk_rest : PySem.W.findIn K (.ref C_Desk) "rest" = some (some (.ref f_Desk_rest)))
    (i_Desk_rest : PySem.W.isFn K (.ref f_Desk_rest) = true)
    (l_Desk_rest : K.lookup f_Desk_rest = some ⟨oc_Desk_rest, od_Desk_rest, .func (PySem.W.fnOf "rest" "Desk.rest" (defArgs s_Desk_rest) (defBody s_Desk_rest) (defScope s_Desk_rest) .none kV_Desk_rest dc_Desk_rest pm_Desk_rest an_Desk_rest cd_Desk_rest ct_Desk_rest), sl_Desk_rest⟩)
    (c_Desk_rest : PySem.W.codeIn K cd_Desk_rest "Desk.rest" = true)
    (k_Desk_rest : PySem.W.keepIn K (.ref f_Desk_rest) = true)
    (a_Desk_may_do : PySem.W.findIn K (.ref C_Desk) "may_do" = some (some (.ref f_Desk_may_do)))
    (i_Desk_may_do : PySem.W.isFn K (.ref f_Desk_may_do) = true)
    (l_Desk_may_do : K.lookup f_Desk_may_do = some ⟨oc_Desk_may_do, od_Desk_may_do, .func (PySem.W.fnOf "may_do" "Desk.may_do" (defArgs s_Desk_may_do) (defBody s_Desk_may_do) (defScope s_Desk_may_do) .none kV_Desk_may_do dc_Desk_may_do pm_Desk_may_do an_Desk_may_do cd_Desk_may_do ct_Desk_may_do), sl_Desk_may_do⟩)
    (c_Desk_may_do : PySem.W.codeIn K cd_Desk_may_do "Desk.may_do" = true)
    (k_Desk_may_do : PySem.W.keepIn K (.ref f_Desk_may_do) = true)
    (a_Desk_do_wish : PySem.W.findIn K (.ref C_Desk) "do_wish" = some (some (.ref f_Desk_do_wish)))
    (i_Desk_do_wish : PySem.W.isFn K (.ref f_Desk_do_wish) = true)
    (l_Desk_do_wish : K.lookup f_Desk_do_wish = some ⟨oc_Desk_do_wish, od_Desk_do_wish, .func (PySem.W.fnOf "do_wish" "Desk.do_wish" (defArgs s_Desk_do_wish) (defBody s_Desk_do_wish) (defScope s_Desk_do_wish) .none kV_Desk_do_wish dc_Desk_do_wish pm_Desk_do_wish an_Desk_do_wish cd_Desk_do_wish ct_Desk_do_wish), sl_Desk_do_wish⟩)
    (c_Desk_do_wish : PySem.W.codeIn K cd_Desk_do_wish "Desk.do_wish" = true)
    (k_Desk_do_wish : PySem.W.keepIn K (.ref f_Desk_do_wish) = true)
    (a_Desk_take_loan : PySem.W.findIn K (.ref C_Desk) "take_loan" = some (some (.ref f_Desk_take_loan)))
    (i_Desk_take_loan : PySem.W.isFn K (.ref f_Desk_take_loan) = true)
    (l_Desk_take_loan : K.lookup f_Desk_take_loan = some ⟨oc_Desk_take_loan, od_Desk_take_loan, .func (PySem.W.fnOf "take_loan" "Desk.take_loan" (defArgs s_Desk_take_loan) (defBody s_Desk_take_loan) (defScope s_Desk_take_loan) .none kV_Desk_take_loan dc_Desk_take_loan pm_Desk_take_loan an_Desk_take_loan cd_Desk_take_loan ct_Desk_take_loan), sl_Desk_take_loan⟩)
    (c_Desk_take_loan : PySem.W.codeIn K cd_Desk_take_loan "Desk.take_loan" = true)
    (k_Desk_take_loan : PySem.W.keepIn K (.ref f_Desk_take_loan) = true)
    (a_Desk_go_down : PySem.W.findIn K (.ref C_Desk) "go_down" = some (some (.ref f_Desk_go_down)))
    (i_Desk_go_down : PySem.W.isFn K (.ref f_Desk_go_down) = true)
    (l_Desk_go_down : K.lookup f_Desk_go_down = some ⟨oc_Desk_go_down, od_Desk_go_down, .func (PySem.W.fnOf "go_down" "Desk.go_down" (defArgs s_Desk_go_down) (defBody s_Desk_go_down) (defScope s_Desk_go_down) .none kV_Desk_go_down dc_Desk_go_down pm_Desk_go_down an_Desk_go_down cd_Desk_go_down ct_Desk_go_down), sl_Desk_go_down⟩)
    (c_Desk_go_down : PySem.W.codeIn K cd_Desk_go_down "Desk.go_down" = true)
    (k_Desk_go_down : PySem.W.keepIn K (.ref f_Desk_go_down) = true)
    (a_Desk_number_to_tell : PySem.W.findIn K (.ref C_Desk) "number_to_tell" = some (some (.ref f_Desk_number_to_tell)))
    (i_Desk_number_to_tell : PySem.W.isFn K (.ref f_Desk_number_to_tell) = true)
    (l_Desk_number_to_tell : K.lookup f_Desk_number_to_tell = some ⟨oc_Desk_number_to_tell, od_Desk_number_to_tell, .func (PySem.W.fnOf "number_to_tell" "Desk.number_to_tell" (defArgs s_Desk_number_to_tell) (defBody s_Desk_number_to_tell) (defScope s_Desk_number_to_tell) .none kV_Desk_number_to_tell dc_Desk_number_to_tell pm_Desk_number_to_tell an_Desk_number_to_tell cd_Desk_number_to_tell ct_Desk_number_to_tell), sl_Desk_number_to_tell⟩)
    (c_Desk_number_to_tell : PySem.W.codeIn K cd_Desk_number_to_tell "Desk.number_to_tell" = true)
    (k_Desk_number_to_tell : PySem.W.keepIn K (.ref f_Desk_number_to_tell) = true)
    (a_Desk_hold : PySem.W.findIn K (.ref C_Desk) "hold" = some (some (.ref f_Desk_hold)))
    (i_Desk_hold : PySem.W.isFn K (.ref f_Desk_hold) = true)
    (l_Desk_hold : K.lookup f_Desk_hold = some ⟨oc_Desk_hold, od_Desk_hold, .func (PySem.W.fnOf "hold" "Desk.hold" (defArgs s_Desk_hold) (defBody s_Desk_hold) (defScope s_Desk_hold) .none kV_Desk_hold dc_Desk_hold pm_Desk_hold an_Desk_hold cd_Desk_hold ct_Desk_hold), sl_Desk_hold⟩)
    (c_Desk_hold : PySem.W.codeIn K cd_Desk_hold "Desk.hold" = true)
    (k_Desk_hold : PySem.W.keepIn K (.ref f_Desk_hold) = true)
    (a_taken_by_desk : PySem.W.nsIn K mainGlobals "taken_by_desk" = some (some (.ref f_taken_by_desk)))
    (l_taken_by_desk : K.lookup f_taken_by_desk = some ⟨oc_taken_by_desk, od_taken_by_desk, .func (PySem.W.fnOf "taken_by_desk" "taken_by_desk" (defArgs s_taken_by_desk) (defBody s_taken_by_desk) (defScope s_taken_by_desk) .none kV_taken_by_desk dc_taken_by_desk pm_taken_by_desk an_taken_by_desk cd_taken_by_desk ct_taken_by_desk), sl_taken_by_desk⟩)
    (c_taken_by_desk : PySem.W.codeIn K cd_taken_by_desk "taken_by_desk" = true)
    (k_taken_by_desk : PySem.W.keepIn K (.ref f_taken_by_desk) = true)
    (a_l_whole : PySem.W.nsIn K mainGlobals "_law_whole" = some (some (.ref f_l_whole)))
    (l_l_whole : K.lookup f_l_whole = some ⟨oc_l_whole, od_l_whole, .func (PySem.W.fnOf "_law_whole" "_law_whole" (defArgs s_l_whole) (defBody s_l_whole) (defScope s_l_whole) .none kV_l_whole dc_l_whole pm_l_whole an_l_whole cd_l_whole ct_l_whole), sl_l_whole⟩)
    (c_l_whole : PySem.W.codeIn K cd_l_whole "_law_whole" = true)
    (k_l_whole : PySem.W.keepIn K (.ref f_l_whole) = true)
    (a_l_at : PySem.W.nsIn K mainGlobals "_law_at" = some (some (.ref f_l_at)))
    (l_l_at : K.lookup f_l_at = some ⟨oc_l_at, od_l_at, .func (PySem.W.fnOf "_law_at" "_law_at" (defArgs s_l_at) (defBody s_l_at) (defScope s_l_at) .none kV_l_at dc_l_at pm_l_at an_l_at cd_l_at ct_l_at), sl_l_at⟩)
    (c_l_at : PySem.W.codeIn K cd_l_at "_law_at" = true)
    (k_l_at : PySem.W.keepIn K (.ref f_l_at) = true)
    (a_l_same : PySem.W.nsIn K mainGlobals "_law_same" = some (some (.ref f_l_same)))
    (l_l_same : K.lookup f_l_same = some ⟨oc_l_same, od_l_same, .func (PySem.W.fnOf "_law_same" "_law_same" (defArgs s_l_same) (defBody s_l_same) (defScope s_l_same) .none kV_l_same dc_l_same pm_l_same an_l_same cd_l_same ct_l_same), sl_l_same⟩)
    (c_l_same : PySem.W.codeIn K cd_l_same "_law_same" = true)
    (k_l_same : PySem.W.keepIn K (.ref f_l_same) = true)
    (a_l_wanted : PySem.W.nsIn K mainGlobals "_law_wanted" = some (some (.ref f_l_wanted)))
    (l_l_wanted : K.lookup f_l_wanted = some ⟨oc_l_wanted, od_l_wanted, .func (PySem.W.fnOf "_law_wanted" "_law_wanted" (defArgs s_l_wanted) (defBody s_l_wanted) (defScope s_l_wanted) .none kV_l_wanted dc_l_wanted pm_l_wanted an_l_wanted cd_l_wanted ct_l_wanted), sl_l_wanted⟩)
    (c_l_wanted : PySem.W.codeIn K cd_l_wanted "_law_wanted" = true)
    (k_l_wanted : PySem.W.keepIn K (.ref f_l_wanted) = true)
    (a_l_fulfilled : PySem.W.nsIn K mainGlobals "_law_fulfilled" = some (some (.ref f_l_fulfilled)))
    (l_l_fulfilled : K.lookup f_l_fulfilled = some ⟨oc_l_fulfilled, od_l_fulfilled, .func (PySem.W.fnOf "_law_fulfilled" "_law_fulfilled" (defArgs s_l_fulfilled) (defBody s_l_fulfilled) (defScope s_l_fulfilled) .none kV_l_fulfilled dc_l_fulfilled pm_l_fulfilled an_l_fulfilled cd_l_fulfilled ct_l_fulfilled), sl_l_fulfilled⟩)
    (c_l_fulfilled : PySem.W.codeIn K cd_l_fulfilled "_law_fulfilled" = true)
    (k_l_fulfilled : PySem.W.keepIn K (.ref f_l_fulfilled) = true)
    (a_l_taken : PySem.W.nsIn K mainGlobals "_law_taken" = some (some (.ref f_l_taken)))
    (l_l_taken : K.lookup f_l_taken = some ⟨oc_l_taken, od_l_taken, .func (PySem.W.fnOf "_law_taken" "_law_taken" (defArgs s_l_taken) (defBody s_l_taken) (defScope s_l_taken) .none kV_l_taken dc_l_taken pm_l_taken an_l_taken cd_l_taken ct_l_taken), sl_l_taken⟩)
    (c_l_taken : PySem.W.codeIn K cd_l_taken "_law_taken" = true)
    (k_l_taken : PySem.W.keepIn K (.ref f_l_taken) = true)
    (a_l_rested : PySem.W.nsIn K mainGlobals "_law_rested" = some (some (.ref f_l_rested)))
    (l_l_rested : K.lookup f_l_rested = some ⟨oc_l_rested, od_l_rested, .func (PySem.W.fnOf "_law_rested" "_law_rested" (defArgs s_l_rested) (defBody s_l_rested) (defScope s_l_rested) .none kV_l_rested dc_l_rested pm_l_rested an_l_rested cd_l_rested ct_l_rested), sl_l_rested⟩)
    (c_l_rested : PySem.W.codeIn K cd_l_rested "_law_rested" = true)
    (k_l_rested : PySem.W.keepIn K (.ref f_l_rested) = true)
    (a_l_asked : PySem.W.nsIn K mainGlobals "_law_asked" = some (some (.ref f_l_asked)))
    (l_l_asked : K.lookup f_l_asked = some ⟨oc_l_asked, od_l_asked, .func (PySem.W.fnOf "_law_asked" "_law_asked" (defArgs s_l_asked) (defBody s_l_asked) (defScope s_l_asked) .none kV_l_asked dc_l_asked pm_l_asked an_l_asked cd_l_asked ct_l_asked), sl_l_asked⟩)
    (c_l_asked : PySem.W.codeIn K cd_l_asked "_law_asked" = true)
    (k_l_asked : PySem.W.keepIn K (.ref f_l_asked) = true)
    (a_l_called : PySem.W.nsIn K mainGlobals "_law_called" = some (some (.ref f_l_called)))
    (l_l_called : K.lookup f_l_called = some ⟨oc_l_called, od_l_called, .func (PySem.W.fnOf "_law_called" "_law_called" (defArgs s_l_called) (defBody s_l_called) (defScope s_l_called) .none kV_l_called dc_l_called pm_l_called an_l_called cd_l_called ct_l_called), sl_l_called⟩)
    (c_l_called : PySem.W.codeIn K cd_l_called "_law_called" = true)
    (k_l_called : PySem.W.keepIn K (.ref f_l_called) = true)
    (a_l_asked_by_any : PySem.W.nsIn K mainGlobals "_law_asked_by_any" = some (some (.ref f_l_asked_by_any)))
    (l_l_asked_by_any : K.lookup f_l_asked_by_any = some ⟨oc_l_asked_by_any, od_l_asked_by_any, .func (PySem.W.fnOf "_law_asked_by_any" "_law_asked_by_any" (defArgs s_l_asked_by_any) (defBody s_l_asked_by_any) (defScope s_l_asked_by_any) .none kV_l_asked_by_any dc_l_asked_by_any pm_l_asked_by_any an_l_asked_by_any cd_l_asked_by_any ct_l_asked_by_any), sl_l_asked_by_any⟩)
    (c_l_asked_by_any : PySem.W.codeIn K cd_l_asked_by_any "_law_asked_by_any" = true)
    (k_l_asked_by_any : PySem.W.keepIn K (.ref f_l_asked_by_any) = true)
    (a_l_due_of : PySem.W.nsIn K mainGlobals "_law_due_of" = some (some (.ref f_l_due_of)))
    (l_l_due_of : K.lookup f_l_due_of = some ⟨oc_l_due_of, od_l_due_of, .func (PySem.W.fnOf "_law_due_of" "_law_due_of" (defArgs s_l_due_of) (defBody s_l_due_of) (defScope s_l_due_of) .none kV_l_due_of dc_l_due_of pm_l_due_of an_l_due_of cd_l_due_of ct_l_due_of), sl_l_due_of⟩)
    (c_l_due_of : PySem.W.codeIn K cd_l_due_of "_law_due_of" = true)
    (k_l_due_of : PySem.W.keepIn K (.ref f_l_due_of) = true)
    (a_l_next_of : PySem.W.nsIn K mainGlobals "_law_next_of" = some (some (.ref f_l_next_of)))
    (l_l_next_of : K.lookup f_l_next_of = some ⟨oc_l_next_of, od_l_next_of, .func (PySem.W.fnOf "_law_next_of" "_law_next_of" (defArgs s_l_next_of) (defBody s_l_next_of) (defScope s_l_next_of) .none kV_l_next_of dc_l_next_of pm_l_next_of an_l_next_of cd_l_next_of ct_l_next_of), sl_l_next_of⟩)
    (c_l_next_of : PySem.W.codeIn K cd_l_next_of "_law_next_of" = true)
    (k_l_next_of : PySem.W.keepIn K (.ref f_l_next_of) = true)
    (a_l_some_letters : PySem.W.nsIn K mainGlobals "_law_some_letters" = some (some (.ref f_l_some_letters)))
    (l_l_some_letters : K.lookup f_l_some_letters = some ⟨oc_l_some_letters, od_l_some_letters, .func (PySem.W.fnOf "_law_some_letters" "_law_some_letters" (defArgs s_l_some_letters) (defBody s_l_some_letters) (defScope s_l_some_letters) .none kV_l_some_letters dc_l_some_letters pm_l_some_letters an_l_some_letters cd_l_some_letters ct_l_some_letters), sl_l_some_letters⟩)
    (c_l_some_letters : PySem.W.codeIn K cd_l_some_letters "_law_some_letters" = true)
    (k_l_some_letters : PySem.W.keepIn K (.ref f_l_some_letters) = true)
    (a_l_as_due : PySem.W.nsIn K mainGlobals "_law_as_due" = some (some (.ref f_l_as_due)))
    (l_l_as_due : K.lookup f_l_as_due = some ⟨oc_l_as_due, od_l_as_due, .func (PySem.W.fnOf "_law_as_due" "_law_as_due" (defArgs s_l_as_due) (defBody s_l_as_due) (defScope s_l_as_due) .none kV_l_as_due dc_l_as_due pm_l_as_due an_l_as_due cd_l_as_due ct_l_as_due), sl_l_as_due⟩)
    (c_l_as_due : PySem.W.codeIn K cd_l_as_due "_law_as_due" = true)
    (k_l_as_due : PySem.W.keepIn K (.ref f_l_as_due) = true)
    (a_law : PySem.W.nsIn K mainGlobals "law" = some (some (.ref f_law)))
    (l_law : K.lookup f_law = some ⟨oc_law, od_law, .func (PySem.W.fnOf "law" "law" (defArgs s_law) (defBody s_law) (defScope s_law) .none kV_law dc_law pm_law an_law cd_law ct_law), sl_law⟩)
    (c_law : PySem.W.codeIn K cd_law "law" = true)
    (k_law : PySem.W.keepIn K (.ref f_law) = true)
    (v_NONE : PySem.W.nsIn K mainGlobals "NONE" = some (some (.str "none" u_NONE)))
    (v_READ : PySem.W.nsIn K mainGlobals "READ" = some (some (.str "read" u_READ)))
    (v_WRITE : PySem.W.nsIn K mainGlobals "WRITE" = some (some (.str "write" u_WRITE)))
    (v_RANKS : PySem.W.nsIn K mainGlobals "RANKS" = some (some (.ref a_RANKS)))
    (kl_RANKS : K.lookup a_RANKS = some ⟨.type "dict", none, .dict es_RANKS z_RANKS, #[]⟩)
    (kk_RANKS : PySem.W.KeysLit w.params es_RANKS.toList)
    (ki0_RANKS : PySem.W.nsIn K a_RANKS "none" = some (some (.int 0 t0_RANKS)))
    (ki1_RANKS : PySem.W.nsIn K a_RANKS "read" = some (some (.int 1 t1_RANKS)))
    (ki2_RANKS : PySem.W.nsIn K a_RANKS "write" = some (some (.int 2 t2_RANKS)))
    (z_isinstance : PySem.W.nsIn K mainGlobals "isinstance" = some none)
    (z_int : PySem.W.nsIn K mainGlobals "int" = some none)
    (z_bool : PySem.W.nsIn K mainGlobals "bool" = some none)
    (z_len : PySem.W.nsIn K mainGlobals "len" = some none)
    (z_list : PySem.W.nsIn K mainGlobals "list" = some none)
    (z_tuple : PySem.W.nsIn K mainGlobals "tuple" = some none)
    (z_str : PySem.W.nsIn K mainGlobals "str" = some none)
    (z_ValueError : PySem.W.nsIn K mainGlobals "ValueError" = some none)
    (z_range : PySem.W.nsIn K mainGlobals "range" = some none)
    : ∃ fd : FuncData, (∀ (s : Shared) (v : Value), BindsTo s fd ⟨[v], []⟩ [("_law_script", v)]) ∧ ∀ base : Heap, K.In base → base.Ns mainGlobals mg → FnOk l.prog w K mg base CX0 8 fa fd ["_law_script"] (spLaw K) := by
  have e := (PySem.W.mg_of X G a_law).symm.trans hfa
  cases e
  have F_ask_letter := fun_mk (st := s_ask_letter) l_ask_letter c_ask_letter k_ask_letter
  have b_ask_letter := F_ask_letter.binds (ps := ["page", "right"]) fun _ _ _ _ _ _ us hl => match us, hl with | [_, _], _ => rfl
  have F_answer_letter := fun_mk (st := s_answer_letter) l_answer_letter c_answer_letter k_answer_letter
  have b_answer_letter := F_answer_letter.binds (ps := ["page", "number"]) fun _ _ _ _ _ _ us hl => match us, hl with | [_, _], _ => rfl
  have F_gave_letter := fun_mk (st := s_gave_letter) l_gave_letter c_gave_letter k_gave_letter
  have b_gave_letter := F_gave_letter.binds (ps := ["page", "number"]) fun _ _ _ _ _ _ us hl => match us, hl with | [_, _], _ => rfl
  have F_is_enough := fun_mk (st := s_is_enough) l_is_enough c_is_enough k_is_enough
  have b_is_enough := F_is_enough.binds (ps := ["right", "needed"]) fun _ _ _ _ _ _ us hl => match us, hl with | [_, _], _ => rfl
  have F_right_needed := fun_mk (st := s_right_needed) l_right_needed c_right_needed k_right_needed
  have b_right_needed := F_right_needed.binds (ps := ["wish"]) fun _ _ _ _ _ _ us hl => match us, hl with | [_], _ => rfl
  have F_Desk_init := fun_mk (st := s_Desk_init) l_Desk_init c_Desk_init k_Desk_init
  have b_Desk_init := F_Desk_init.binds (ps := ["self"]) fun _ _ _ _ _ _ us hl => match us, hl with | [_], _ => rfl
  have F_Desk_right_of := fun_mk (st := s_Desk_right_of) l_Desk_right_of c_Desk_right_of k_Desk_right_of
  have b_Desk_right_of := F_Desk_right_of.binds (ps := ["self", "page"]) fun _ _ _ _ _ _ us hl => match us, hl with | [_, _], _ => rfl
  have F_Desk_waits := fun_mk (st := s_Desk_waits) l_Desk_waits c_Desk_waits k_Desk_waits
  have b_Desk_waits := F_Desk_waits.binds (ps := ["self"]) fun _ _ _ _ _ _ us hl => match us, hl with | [_], _ => rfl
  have F_Desk_want := fun_mk (st := s_Desk_want) l_Desk_want c_Desk_want k_Desk_want
  have b_Desk_want := F_Desk_want.binds (ps := ["self", "wish"]) fun _ _ _ _ _ _ us hl => match us, hl with | [_, _], _ => rfl
  have F_Desk_take := fun_mk (st := s_Desk_take) l_Desk_take c_Desk_take k_Desk_take
  have b_Desk_take := F_Desk_take.binds (ps := ["self", "letter"]) fun _ _ _ _ _ _ us hl => match us, hl with | [_, _], _ => rfl
  have F_Desk_rest := fun_mk (st := s_Desk_rest) l_Desk_rest c_Desk_rest k_Desk_rest
  have b_Desk_rest := F_Desk_rest.binds (ps := ["self", "page"]) fun _ _ _ _ _ _ us hl => match us, hl with | [_, _], _ => rfl
  have F_Desk_may_do := fun_mk (st := s_Desk_may_do) l_Desk_may_do c_Desk_may_do k_Desk_may_do
  have b_Desk_may_do := F_Desk_may_do.binds (ps := ["self", "wish"]) fun _ _ _ _ _ _ us hl => match us, hl with | [_, _], _ => rfl
  have F_Desk_do_wish := fun_mk (st := s_Desk_do_wish) l_Desk_do_wish c_Desk_do_wish k_Desk_do_wish
  have b_Desk_do_wish := F_Desk_do_wish.binds (ps := ["self", "wish"]) fun _ _ _ _ _ _ us hl => match us, hl with | [_, _], _ => rfl
  have F_Desk_take_loan := fun_mk (st := s_Desk_take_loan) l_Desk_take_loan c_Desk_take_loan k_Desk_take_loan
  have b_Desk_take_loan := F_Desk_take_loan.binds (ps := ["self", "page", "right", "number"]) fun _ _ _ _ _ _ us hl => match us, hl with | [_, _, _, _], _ => rfl
  have F_Desk_go_down := fun_mk (st := s_Desk_go_down) l_Desk_go_down c_Desk_go_down k_Desk_go_down
  have b_Desk_go_down := F_Desk_go_down.binds (ps := ["self", "page", "right"]) fun _ _ _ _ _ _ us hl => match us, hl with | [_, _, _], _ => rfl
  have F_Desk_number_to_tell := fun_mk (st := s_Desk_number_to_tell) l_Desk_number_to_tell c_Desk_number_to_tell k_Desk_number_to_tell
  have b_Desk_number_to_tell := F_Desk_number_to_tell.binds (ps := ["self", "page"]) fun _ _ _ _ _ _ us hl => match us, hl with | [_, _], _ => rfl
  have F_Desk_hold := fun_mk (st := s_Desk_hold) l_Desk_hold c_Desk_hold k_Desk_hold
  have b_Desk_hold := F_Desk_hold.binds (ps := ["self", "page", "right", "number"]) fun _ _ _ _ _ _ us hl => match us, hl with | [_, _, _, _], _ => rfl
  have F_taken_by_desk := fun_mk (st := s_taken_by_desk) l_taken_by_desk c_taken_by_desk k_taken_by_desk
  have b_taken_by_desk := F_taken_by_desk.binds (ps := ["desk", "letters"]) fun _ _ _ _ _ _ us hl => match us, hl with | [_, _], _ => rfl
  have F_l_whole := fun_mk (st := s_l_whole) l_l_whole c_l_whole k_l_whole
  have b_l_whole := F_l_whole.binds (ps := ["_law_found"]) fun _ _ _ _ _ _ us hl => match us, hl with | [_], _ => rfl
  have F_l_at := fun_mk (st := s_l_at) l_l_at c_l_at k_l_at
  have b_l_at := F_l_at.binds (ps := ["_law_script", "_law_k"]) fun _ _ _ _ _ _ us hl => match us, hl with | [_, _], _ => rfl
  have F_l_same := fun_mk (st := s_l_same) l_l_same c_l_same k_l_same
  have b_l_same := F_l_same.binds (ps := ["_law_found", "_law_due"]) fun _ _ _ _ _ _ us hl => match us, hl with | [_, _], _ => rfl
  have F_l_wanted := fun_mk (st := s_l_wanted) l_l_wanted c_l_wanted k_l_wanted
  have b_l_wanted := F_l_wanted.binds (ps := ["_law_mine", "_law_wish"]) fun _ _ _ _ _ _ us hl => match us, hl with | [_, _], _ => rfl
  have F_l_fulfilled := fun_mk (st := s_l_fulfilled) l_l_fulfilled c_l_fulfilled k_l_fulfilled
  have b_l_fulfilled := F_l_fulfilled.binds (ps := ["_law_mine", "_law_wish"]) fun _ _ _ _ _ _ us hl => match us, hl with | [_, _], _ => rfl
  have F_l_taken := fun_mk (st := s_l_taken) l_l_taken c_l_taken k_l_taken
  have b_l_taken := F_l_taken.binds (ps := ["_law_mine", "_law_letter"]) fun _ _ _ _ _ _ us hl => match us, hl with | [_, _], _ => rfl
  have F_l_rested := fun_mk (st := s_l_rested) l_l_rested c_l_rested k_l_rested
  have b_l_rested := F_l_rested.binds (ps := ["_law_mine", "_law_page"]) fun _ _ _ _ _ _ us hl => match us, hl with | [_, _], _ => rfl
  have F_l_asked := fun_mk (st := s_l_asked) l_l_asked c_l_asked k_l_asked
  have b_l_asked := F_l_asked.binds (ps := ["_law_desk", "_law_word", "_law_what"]) fun _ _ _ _ _ _ us hl => match us, hl with | [_, _, _], _ => rfl
  have F_l_called := fun_mk (st := s_l_called) l_l_called c_l_called k_l_called
  have b_l_called := F_l_called.binds (ps := ["_law_desk", "_law_word", "_law_what"]) fun _ _ _ _ _ _ us hl => match us, hl with | [_, _, _], _ => rfl
  have F_l_asked_by_any := fun_mk (st := s_l_asked_by_any) l_l_asked_by_any c_l_asked_by_any k_l_asked_by_any
  have b_l_asked_by_any := F_l_asked_by_any.binds (ps := ["_law_desk", "_law_word", "_law_what", "_law_due"]) fun _ _ _ _ _ _ us hl => match us, hl with | [_, _, _, _], _ => rfl
  have F_l_due_of := fun_mk (st := s_l_due_of) l_l_due_of c_l_due_of k_l_due_of
  have b_l_due_of := F_l_due_of.binds (ps := ["_law_mine", "_law_word", "_law_what"]) fun _ _ _ _ _ _ us hl => match us, hl with | [_, _, _], _ => rfl
  have F_l_next_of := fun_mk (st := s_l_next_of) l_l_next_of c_l_next_of k_l_next_of
  have b_l_next_of := F_l_next_of.binds (ps := ["_law_cell", "_law_more", "_law_k"]) fun _ _ _ _ _ _ us hl => match us, hl with | [_, _, _], _ => rfl
  have F_l_some_letters := fun_mk (st := s_l_some_letters) l_l_some_letters c_l_some_letters k_l_some_letters
  have b_l_some_letters := F_l_some_letters.binds (ps := ["_law_script", "_law_k"]) fun _ _ _ _ _ _ us hl => match us, hl with | [_, _], _ => rfl
  have F_l_as_due := fun_mk (st := s_l_as_due) l_l_as_due c_l_as_due k_l_as_due
  have b_l_as_due := F_l_as_due.binds (ps := ["_law_told"]) fun _ _ _ _ _ _ us hl => match us, hl with | [_], _ => rfl
  have F_law := fun_mk (st := s_law) l_law c_law k_law
  have b_law := F_law.binds (ps := ["_law_script"]) fun _ _ _ _ _ _ us hl => match us, hl with | [_], _ => rfl
  have T : Txt K w mg ⟨C_CopyError, C_NoDesk, C_NoPage, C_Waiting, C_NoCopy, C_NoLetter, C_Desk, f_ask_letter, PySem.W.fnOf "ask_letter" "ask_letter" (defArgs s_ask_letter) (defBody s_ask_letter) (defScope s_ask_letter) .none kV_ask_letter dc_ask_letter pm_ask_letter an_ask_letter cd_ask_letter ct_ask_letter, f_answer_letter, PySem.W.fnOf "answer_letter" "answer_letter" (defArgs s_answer_letter) (defBody s_answer_letter) (defScope s_answer_letter) .none kV_answer_letter dc_answer_letter pm_answer_letter an_answer_letter cd_answer_letter ct_answer_letter, f_gave_letter, PySem.W.fnOf "gave_letter" "gave_letter" (defArgs s_gave_letter) (defBody s_gave_letter) (defScope s_gave_letter) .none kV_gave_letter dc_gave_letter pm_gave_letter an_gave_letter cd_gave_letter ct_gave_letter, f_is_enough, PySem.W.fnOf "is_enough" "is_enough" (defArgs s_is_enough) (defBody s_is_enough) (defScope s_is_enough) .none kV_is_enough dc_is_enough pm_is_enough an_is_enough cd_is_enough ct_is_enough, f_right_needed, PySem.W.fnOf "right_needed" "right_needed" (defArgs s_right_needed) (defBody s_right_needed) (defScope s_right_needed) .none kV_right_needed dc_right_needed pm_right_needed an_right_needed cd_right_needed ct_right_needed, f_Desk_init, PySem.W.fnOf "__init__" "Desk.__init__" (defArgs s_Desk_init) (defBody s_Desk_init) (defScope s_Desk_init) .none kV_Desk_init dc_Desk_init pm_Desk_init an_Desk_init cd_Desk_init ct_Desk_init, f_Desk_right_of, PySem.W.fnOf "right_of" "Desk.right_of" (defArgs s_Desk_right_of) (defBody s_Desk_right_of) (defScope s_Desk_right_of) .none kV_Desk_right_of dc_Desk_right_of pm_Desk_right_of an_Desk_right_of cd_Desk_right_of ct_Desk_right_of, f_Desk_waits, PySem.W.fnOf "waits" "Desk.waits" (defArgs s_Desk_waits) (defBody s_Desk_waits) (defScope s_Desk_waits) .none kV_Desk_waits dc_Desk_waits pm_Desk_waits an_Desk_waits cd_Desk_waits ct_Desk_waits, f_Desk_want, PySem.W.fnOf "want" "Desk.want" (defArgs s_Desk_want) (defBody s_Desk_want) (defScope s_Desk_want) .none kV_Desk_want dc_Desk_want pm_Desk_want an_Desk_want cd_Desk_want ct_Desk_want, f_Desk_take, PySem.W.fnOf "take" "Desk.take" (defArgs s_Desk_take) (defBody s_Desk_take) (defScope s_Desk_take) .none kV_Desk_take dc_Desk_take pm_Desk_take an_Desk_take cd_Desk_take ct_Desk_take, f_Desk_rest, PySem.W.fnOf "rest" "Desk.rest" (defArgs s_Desk_rest) (defBody s_Desk_rest) (defScope s_Desk_rest) .none kV_Desk_rest dc_Desk_rest pm_Desk_rest an_Desk_rest cd_Desk_rest ct_Desk_rest, f_Desk_may_do, PySem.W.fnOf "may_do" "Desk.may_do" (defArgs s_Desk_may_do) (defBody s_Desk_may_do) (defScope s_Desk_may_do) .none kV_Desk_may_do dc_Desk_may_do pm_Desk_may_do an_Desk_may_do cd_Desk_may_do ct_Desk_may_do, f_Desk_do_wish, PySem.W.fnOf "do_wish" "Desk.do_wish" (defArgs s_Desk_do_wish) (defBody s_Desk_do_wish) (defScope s_Desk_do_wish) .none kV_Desk_do_wish dc_Desk_do_wish pm_Desk_do_wish an_Desk_do_wish cd_Desk_do_wish ct_Desk_do_wish, f_Desk_take_loan, PySem.W.fnOf "take_loan" "Desk.take_loan" (defArgs s_Desk_take_loan) (defBody s_Desk_take_loan) (defScope s_Desk_take_loan) .none kV_Desk_take_loan dc_Desk_take_loan pm_Desk_take_loan an_Desk_take_loan cd_Desk_take_loan ct_Desk_take_loan, f_Desk_go_down, PySem.W.fnOf "go_down" "Desk.go_down" (defArgs s_Desk_go_down) (defBody s_Desk_go_down) (defScope s_Desk_go_down) .none kV_Desk_go_down dc_Desk_go_down pm_Desk_go_down an_Desk_go_down cd_Desk_go_down ct_Desk_go_down, f_Desk_number_to_tell, PySem.W.fnOf "number_to_tell" "Desk.number_to_tell" (defArgs s_Desk_number_to_tell) (defBody s_Desk_number_to_tell) (defScope s_Desk_number_to_tell) .none kV_Desk_number_to_tell dc_Desk_number_to_tell pm_Desk_number_to_tell an_Desk_number_to_tell cd_Desk_number_to_tell ct_Desk_number_to_tell, f_Desk_hold, PySem.W.fnOf "hold" "Desk.hold" (defArgs s_Desk_hold) (defBody s_Desk_hold) (defScope s_Desk_hold) .none kV_Desk_hold dc_Desk_hold pm_Desk_hold an_Desk_hold cd_Desk_hold ct_Desk_hold, f_taken_by_desk, PySem.W.fnOf "taken_by_desk" "taken_by_desk" (defArgs s_taken_by_desk) (defBody s_taken_by_desk) (defScope s_taken_by_desk) .none kV_taken_by_desk dc_taken_by_desk pm_taken_by_desk an_taken_by_desk cd_taken_by_desk ct_taken_by_desk, f_l_whole, PySem.W.fnOf "_law_whole" "_law_whole" (defArgs s_l_whole) (defBody s_l_whole) (defScope s_l_whole) .none kV_l_whole dc_l_whole pm_l_whole an_l_whole cd_l_whole ct_l_whole, f_l_at, PySem.W.fnOf "_law_at" "_law_at" (defArgs s_l_at) (defBody s_l_at) (defScope s_l_at) .none kV_l_at dc_l_at pm_l_at an_l_at cd_l_at ct_l_at, f_l_same, PySem.W.fnOf "_law_same" "_law_same" (defArgs s_l_same) (defBody s_l_same) (defScope s_l_same) .none kV_l_same dc_l_same pm_l_same an_l_same cd_l_same ct_l_same, f_l_wanted, PySem.W.fnOf "_law_wanted" "_law_wanted" (defArgs s_l_wanted) (defBody s_l_wanted) (defScope s_l_wanted) .none kV_l_wanted dc_l_wanted pm_l_wanted an_l_wanted cd_l_wanted ct_l_wanted, f_l_fulfilled, PySem.W.fnOf "_law_fulfilled" "_law_fulfilled" (defArgs s_l_fulfilled) (defBody s_l_fulfilled) (defScope s_l_fulfilled) .none kV_l_fulfilled dc_l_fulfilled pm_l_fulfilled an_l_fulfilled cd_l_fulfilled ct_l_fulfilled, f_l_taken, PySem.W.fnOf "_law_taken" "_law_taken" (defArgs s_l_taken) (defBody s_l_taken) (defScope s_l_taken) .none kV_l_taken dc_l_taken pm_l_taken an_l_taken cd_l_taken ct_l_taken, f_l_rested, PySem.W.fnOf "_law_rested" "_law_rested" (defArgs s_l_rested) (defBody s_l_rested) (defScope s_l_rested) .none kV_l_rested dc_l_rested pm_l_rested an_l_rested cd_l_rested ct_l_rested, f_l_asked, PySem.W.fnOf "_law_asked" "_law_asked" (defArgs s_l_asked) (defBody s_l_asked) (defScope s_l_asked) .none kV_l_asked dc_l_asked pm_l_asked an_l_asked cd_l_asked ct_l_asked, f_l_called, PySem.W.fnOf "_law_called" "_law_called" (defArgs s_l_called) (defBody s_l_called) (defScope s_l_called) .none kV_l_called dc_l_called pm_l_called an_l_called cd_l_called ct_l_called, f_l_asked_by_any, PySem.W.fnOf "_law_asked_by_any" "_law_asked_by_any" (defArgs s_l_asked_by_any) (defBody s_l_asked_by_any) (defScope s_l_asked_by_any) .none kV_l_asked_by_any dc_l_asked_by_any pm_l_asked_by_any an_l_asked_by_any cd_l_asked_by_any ct_l_asked_by_any, f_l_due_of, PySem.W.fnOf "_law_due_of" "_law_due_of" (defArgs s_l_due_of) (defBody s_l_due_of) (defScope s_l_due_of) .none kV_l_due_of dc_l_due_of pm_l_due_of an_l_due_of cd_l_due_of ct_l_due_of, f_l_next_of, PySem.W.fnOf "_law_next_of" "_law_next_of" (defArgs s_l_next_of) (defBody s_l_next_of) (defScope s_l_next_of) .none kV_l_next_of dc_l_next_of pm_l_next_of an_l_next_of cd_l_next_of ct_l_next_of, f_l_some_letters, PySem.W.fnOf "_law_some_letters" "_law_some_letters" (defArgs s_l_some_letters) (defBody s_l_some_letters) (defScope s_l_some_letters) .none kV_l_some_letters dc_l_some_letters pm_l_some_letters an_l_some_letters cd_l_some_letters ct_l_some_letters, f_l_as_due, PySem.W.fnOf "_law_as_due" "_law_as_due" (defArgs s_l_as_due) (defBody s_l_as_due) (defScope s_l_as_due) .none kV_l_as_due dc_l_as_due pm_l_as_due an_l_as_due cd_l_as_due ct_l_as_due, fa, PySem.W.fnOf "law" "law" (defArgs s_law) (defBody s_law) (defScope s_law) .none kV_law dc_law pm_law an_law cd_law ct_law, a_RANKS⟩ := ⟨exc_of xi_CopyError xm_CopyError,
    PySem.W.mg_of X G aC_CopyError,
    exc_of xi_NoDesk xm_NoDesk,
    PySem.W.mg_of X G aC_NoDesk,
    exc_of xi_NoPage xm_NoPage,
    PySem.W.mg_of X G aC_NoPage,
    exc_of xi_Waiting xm_Waiting,
    PySem.W.mg_of X G aC_Waiting,
    exc_of xi_NoCopy xm_NoCopy,
    PySem.W.mg_of X G aC_NoCopy,
    exc_of xi_NoLetter xm_NoLetter,
    PySem.W.mg_of X G aC_NoLetter,
    ⟨xacl_Waiting, xaga_Waiting, xagt_Waiting⟩,
    ki_Waiting_CopyError,
    ne_Waiting_CopyError,
    ki_Waiting_NoDesk,
    ne_Waiting_NoDesk,
    ki_Waiting_NoPage,
    ne_Waiting_NoPage,
    ki_Waiting_Waiting,
    ki_Waiting_NoCopy,
    ne_Waiting_NoCopy,
    ki_Waiting_NoLetter,
    ne_Waiting_NoLetter,
    ki_Waiting_ValueError,
    ⟨xacl_NoCopy, xaga_NoCopy, xagt_NoCopy⟩,
    ki_NoCopy_CopyError,
    ne_NoCopy_CopyError,
    ki_NoCopy_NoDesk,
    ne_NoCopy_NoDesk,
    ki_NoCopy_NoPage,
    ne_NoCopy_NoPage,
    ki_NoCopy_Waiting,
    ne_NoCopy_Waiting,
    ki_NoCopy_NoCopy,
    ki_NoCopy_NoLetter,
    ne_NoCopy_NoLetter,
    ki_NoCopy_ValueError,
    ⟨pg_Desk, hd_Desk, po_Desk, sa_Desk⟩,
    ⟨mk_Desk, a_Desk_init, i_Desk_init, kc_Desk⟩,
    PySem.W.mg_of X G aC_Desk,
    na_Desk_copies,
    na_Desk_wish,
    F_ask_letter,
    b_ask_letter,
    PySem.W.mg_of X G a_ask_letter,
    F_answer_letter,
    b_answer_letter,
    PySem.W.mg_of X G a_answer_letter,
    F_gave_letter,
    b_gave_letter,
    PySem.W.mg_of X G a_gave_letter,
    F_is_enough,
    b_is_enough,
    PySem.W.mg_of X G a_is_enough,
    F_right_needed,
    b_right_needed,
    PySem.W.mg_of X G a_right_needed,
    F_Desk_init,
    b_Desk_init,
    F_Desk_right_of,
    b_Desk_right_of,
    ⟨a_Desk_right_of, i_Desk_right_of, k_Desk_right_of⟩,
    F_Desk_waits,
    b_Desk_waits,
    ⟨a_Desk_waits, i_Desk_waits, k_Desk_waits⟩,
    F_Desk_want,
    b_Desk_want,
    ⟨a_Desk_want, i_Desk_want, k_Desk_want⟩,
    F_Desk_take,
    b_Desk_take,
    ⟨a_Desk_take, i_Desk_take, k_Desk_take⟩,
    F_Desk_rest,
    b_Desk_rest,
    ⟨a_Desk_rest, i_Desk_rest, k_Desk_rest⟩,
    F_Desk_may_do,
    b_Desk_may_do,
    ⟨a_Desk_may_do, i_Desk_may_do, k_Desk_may_do⟩,
    F_Desk_do_wish,
    b_Desk_do_wish,
    ⟨a_Desk_do_wish, i_Desk_do_wish, k_Desk_do_wish⟩,
    F_Desk_take_loan,
    b_Desk_take_loan,
    ⟨a_Desk_take_loan, i_Desk_take_loan, k_Desk_take_loan⟩,
    F_Desk_go_down,
    b_Desk_go_down,
    ⟨a_Desk_go_down, i_Desk_go_down, k_Desk_go_down⟩,
    F_Desk_number_to_tell,
    b_Desk_number_to_tell,
    ⟨a_Desk_number_to_tell, i_Desk_number_to_tell, k_Desk_number_to_tell⟩,
    F_Desk_hold,
    b_Desk_hold,
    ⟨a_Desk_hold, i_Desk_hold, k_Desk_hold⟩,
    F_taken_by_desk,
    b_taken_by_desk,
    PySem.W.mg_of X G a_taken_by_desk,
    F_l_whole,
    b_l_whole,
    PySem.W.mg_of X G a_l_whole,
    F_l_at,
    b_l_at,
    PySem.W.mg_of X G a_l_at,
    F_l_same,
    b_l_same,
    PySem.W.mg_of X G a_l_same,
    F_l_wanted,
    b_l_wanted,
    PySem.W.mg_of X G a_l_wanted,
    F_l_fulfilled,
    b_l_fulfilled,
    PySem.W.mg_of X G a_l_fulfilled,
    F_l_taken,
    b_l_taken,
    PySem.W.mg_of X G a_l_taken,
    F_l_rested,
    b_l_rested,
    PySem.W.mg_of X G a_l_rested,
    F_l_asked,
    b_l_asked,
    PySem.W.mg_of X G a_l_asked,
    F_l_called,
    b_l_called,
    PySem.W.mg_of X G a_l_called,
    F_l_asked_by_any,
    b_l_asked_by_any,
    PySem.W.mg_of X G a_l_asked_by_any,
    F_l_due_of,
    b_l_due_of,
    PySem.W.mg_of X G a_l_due_of,
    F_l_next_of,
    b_l_next_of,
    PySem.W.mg_of X G a_l_next_of,
    F_l_some_letters,
    b_l_some_letters,
    PySem.W.mg_of X G a_l_some_letters,
    F_l_as_due,
    b_l_as_due,
    PySem.W.mg_of X G a_l_as_due,
    F_law,
    b_law,
    PySem.W.mg_of X G a_law,
    ⟨u_NONE, PySem.W.mg_of X G v_NONE⟩,
    ⟨u_READ, PySem.W.mg_of X G v_READ⟩,
    ⟨u_WRITE, PySem.W.mg_of X G v_WRITE⟩,
    PySem.W.mg_of X G v_RANKS,
    kdict3 kl_RANKS kk_RANKS ki0_RANKS ki1_RANKS ki2_RANKS,
    PySem.W.mg_none_of X G z_isinstance,
    PySem.W.mg_none_of X G z_int,
    PySem.W.mg_none_of X G z_bool,
    PySem.W.mg_none_of X G z_len,
    PySem.W.mg_none_of X G z_list,
    PySem.W.mg_none_of X G z_tuple,
    PySem.W.mg_none_of X G z_str,
    PySem.W.mg_none_of X G z_ValueError,
    PySem.W.mg_none_of X G z_range⟩
  exact ⟨_, fun s v => .of_eq rfl, fun base _ _ => ok_law T⟩
theorem walk {l : PySem.W.OpenLaw} {q : Program} {loose : List Str} {XP : (Str → Option Value) → Heap → Prop} {YP : World → Heap → Prop} {d : DefRec} {K : Params → PySem.W.Frag} (hn : l.most = some 63) (hdf : d.params.defaults = [])
    (hY : ∀ (w : World) (h : Heap), YP w h → (K w.params).In h)
    (F : ∀ (w : World) (mg : Str → Option Value) (fa : Addr) (h : Heap), (K w.params).In h → h.Ns mainGlobals mg → mg d.name = some (.ref fa) →
      ∃ fd : FuncData, (∀ (s : Shared) (u : Value), BindsTo s fd ⟨[u], []⟩ [("_law_script", u)]) ∧ ∀ base : Heap, (K w.params).In base → base.Ns mainGlobals mg → FnOk l.prog w (K w.params) mg base CX0 8 fa fd ["_law_script"] (spLaw (K w.params))) :
    PySem.W.WalkO q loose XP YP l.row.toRowW d [] (fun f vs => PySem.call f vs) :=
  L2.walk_of (n := 63) (k := 8) (x := "_law_script") (CX := fun _ => CX0) (sp := fun w => spLaw (K w.params)) hn (by decide) hdf ⟨rfl, by decide, by decide⟩ hY F (fun _ _ a ns hl _ hS => ⟨a, ns, rfl, hS, hl, fun _ => rfl⟩) fun _ _ _ _ _ z => z
end K07
open PySem PySem.W PyProof.Rows
set_option maxRecDepth 100000 in
set_option maxHeartbeats 0 in
theorem PySem.Challenge.cw_copydesks_k07_a_desk_holds : PySem.Challenge.rw_copydesks_k07_a_desk.Holds := by
  w_on; o_law; k_head; (case hw => w_witness2)
  k_fill
  refine K07.walk (l := PySem.Challenge.rw_copydesks_k07_a_desk) rfl rfl (fun w h Y => PySem.W.kIn_of Y) ?F
  case F =>
    intro w mg fa h KX G hmg
    refine' K07.all_mk KX G hmg ?aC_CopyError ?aC_NoDesk ?aC_NoPage ?aC_Waiting ?aC_NoCopy ?aC_NoLetter ?aC_Desk ?xi_CopyError ?xm_CopyError ?xi_NoDesk ?xm_NoDesk ?xi_NoPage ?xm_NoPage ?xi_Waiting ?xm_Waiting ?xi_NoCopy ?xm_NoCopy ?xi_NoLetter ?xm_NoLetter ?xacl_Waiting ?xaga_Waiting ?xagt_Waiting ?ki_Waiting_CopyError ?ne_Waiting_CopyError ?ki_Waiting_NoDesk ?ne_Waiting_NoDesk ?ki_Waiting_NoPage ?ne_Waiting_NoPage ?ki_Waiting_Waiting ?ki_Waiting_NoCopy ?ne_Waiting_NoCopy ?ki_Waiting_NoLetter ?ne_Waiting_NoLetter ?ki_Waiting_ValueError ?xacl_NoCopy ?xaga_NoCopy ?xagt_NoCopy ?ki_NoCopy_CopyError ?ne_NoCopy_CopyError ?ki_NoCopy_NoDesk ?ne_NoCopy_NoDesk ?ki_NoCopy_NoPage ?ne_NoCopy_NoPage ?ki_NoCopy_Waiting ?ne_NoCopy_Waiting ?ki_NoCopy_NoCopy ?ki_NoCopy_NoLetter ?ne_NoCopy_NoLetter ?ki_NoCopy_ValueError ?pg_Desk ?hd_Desk ?po_Desk ?sa_Desk ?mk_Desk ?kc_Desk ?na_Desk_copies ?na_Desk_wish ?a_ask_letter ?l_ask_letter ?c_ask_letter ?k_ask_letter ?a_answer_letter ?l_answer_letter ?c_answer_letter ?k_answer_letter ?a_gave_letter ?l_gave_letter ?c_gave_letter ?k_gave_letter ?a_is_enough ?l_is_enough ?c_is_enough ?k_is_enough ?a_right_needed ?l_right_needed ?c_right_needed ?k_right_needed ?a_Desk_init ?i_Desk_init ?l_Desk_init ?c_Desk_init ?k_Desk_init ?a_Desk_right_of ?i_Desk_right_of ?l_Desk_right_of ?c_Desk_right_of ?k_Desk_right_of ?a_Desk_waits ?i_Desk_waits ?l_Desk_waits ?c_Desk_waits ?k_Desk_waits ?a_Desk_want ?i_Desk_want ?l_Desk_want ?c_Desk_want ?k_Desk_want ?a_Desk_take ?i_Desk_take ?l_Desk_take ?c_Desk_take ?k_Desk_take ?a_Desk_rest ?i_Desk_rest ?l_Desk_rest ?c_Desk_rest ?k_Desk_rest ?a_Desk_may_do ?i_Desk_may_do ?l_Desk_may_do ?c_Desk_may_do ?k_Desk_may_do ?a_Desk_do_wish ?i_Desk_do_wish ?l_Desk_do_wish ?c_Desk_do_wish ?k_Desk_do_wish ?a_Desk_take_loan ?i_Desk_take_loan ?l_Desk_take_loan ?c_Desk_take_loan ?k_Desk_take_loan ?a_Desk_go_down ?i_Desk_go_down ?l_Desk_go_down ?c_Desk_go_down ?k_Desk_go_down ?a_Desk_number_to_tell ?i_Desk_number_to_tell ?l_Desk_number_to_tell ?c_Desk_number_to_tell ?k_Desk_number_to_tell ?a_Desk_hold ?i_Desk_hold ?l_Desk_hold ?c_Desk_hold ?k_Desk_hold ?a_taken_by_desk ?l_taken_by_desk ?c_taken_by_desk ?k_taken_by_desk ?a_l_whole ?l_l_whole ?c_l_whole ?k_l_whole ?a_l_at ?l_l_at ?c_l_at ?k_l_at ?a_l_same ?l_l_same ?c_l_same ?k_l_same ?a_l_wanted ?l_l_wanted ?c_l_wanted ?k_l_wanted ?a_l_fulfilled ?l_l_fulfilled ?c_l_fulfilled ?k_l_fulfilled ?a_l_taken ?l_l_taken ?c_l_taken ?k_l_taken ?a_l_rested ?l_l_rested ?c_l_rested ?k_l_rested ?a_l_asked ?l_l_asked ?c_l_asked ?k_l_asked ?a_l_called ?l_l_called ?c_l_called ?k_l_called ?a_l_asked_by_any ?l_l_asked_by_any ?c_l_asked_by_any ?k_l_asked_by_any ?a_l_due_of ?l_l_due_of ?c_l_due_of ?k_l_due_of ?a_l_next_of ?l_l_next_of ?c_l_next_of ?k_l_next_of ?a_l_some_letters ?l_l_some_letters ?c_l_some_letters ?k_l_some_letters ?a_l_as_due ?l_l_as_due ?c_l_as_due ?k_l_as_due ?a_law ?l_law ?c_law ?k_law ?v_NONE ?v_READ ?v_WRITE ?v_RANKS ?kl_RANKS ?kk_RANKS ?ki0_RANKS ?ki1_RANKS ?ki2_RANKS ?z_isinstance ?z_int ?z_bool ?z_len ?z_list ?z_tuple ?z_str ?z_ValueError ?z_range
    (case aC_CopyError => k_is)
    (case aC_NoDesk => k_is)
    (case aC_NoPage => k_is)
    (case aC_Waiting => k_is)
    (case aC_NoCopy => k_is)
    (case aC_NoLetter => k_is)
    (case aC_Desk => k_is)
    (case xi_CopyError => kernel_rfl)
    (case xm_CopyError => kernel_rfl)
    (case xi_NoDesk => kernel_rfl)
    (case xm_NoDesk => kernel_rfl)
    (case xi_NoPage => kernel_rfl)
    (case xm_NoPage => kernel_rfl)
    (case xi_Waiting => kernel_rfl)
    (case xm_Waiting => kernel_rfl)
    (case xi_NoCopy => kernel_rfl)
    (case xm_NoCopy => kernel_rfl)
    (case xi_NoLetter => kernel_rfl)
    (case xm_NoLetter => kernel_rfl)
    (case xacl_Waiting => k_is)
    (case xaga_Waiting => k_is)
    (case xagt_Waiting => k_is)
    (case ki_Waiting_CopyError => kernel_rfl)
    (case ne_Waiting_CopyError => decide)
    (case ki_Waiting_NoDesk => kernel_rfl)
    (case ne_Waiting_NoDesk => decide)
    (case ki_Waiting_NoPage => kernel_rfl)
    (case ne_Waiting_NoPage => decide)
    (case ki_Waiting_Waiting => kernel_rfl)
    (case ki_Waiting_NoCopy => kernel_rfl)
    (case ne_Waiting_NoCopy => decide)
    (case ki_Waiting_NoLetter => kernel_rfl)
    (case ne_Waiting_NoLetter => decide)
    (case ki_Waiting_ValueError => kernel_rfl)
    (case xacl_NoCopy => k_is)
    (case xaga_NoCopy => k_is)
    (case xagt_NoCopy => k_is)
    (case ki_NoCopy_CopyError => kernel_rfl)
    (case ne_NoCopy_CopyError => decide)
    (case ki_NoCopy_NoDesk => kernel_rfl)
    (case ne_NoCopy_NoDesk => decide)
    (case ki_NoCopy_NoPage => kernel_rfl)
    (case ne_NoCopy_NoPage => decide)
    (case ki_NoCopy_Waiting => kernel_rfl)
    (case ne_NoCopy_Waiting => decide)
    (case ki_NoCopy_NoCopy => kernel_rfl)
    (case ki_NoCopy_NoLetter => kernel_rfl)
    (case ne_NoCopy_NoLetter => decide)
    (case ki_NoCopy_ValueError => kernel_rfl)
    (case pg_Desk => k_is)
    (case hd_Desk => k_is)
    (case po_Desk => k_is)
    (case sa_Desk => k_is)
    (case mk_Desk => k_is)
    (case kc_Desk => k_is)
    (case na_Desk_copies => k_is)
    (case na_Desk_wish => k_is)
    (case a_ask_letter => k_is)
    (case l_ask_letter => k_is)
    (case c_ask_letter => k_is)
    (case k_ask_letter => k_is)
    (case a_answer_letter => k_is)
    (case l_answer_letter => k_is)
    (case c_answer_letter => k_is)
    (case k_answer_letter => k_is)
    (case a_gave_letter => k_is)
    (case l_gave_letter => k_is)
    (case c_gave_letter => k_is)
    (case k_gave_letter => k_is)
    (case a_is_enough => k_is)
    (case l_is_enough => k_is)
    (case c_is_enough => k_is)
    (case k_is_enough => k_is)
    (case a_right_needed => k_is)
    (case l_right_needed => k_is)
    (case c_right_needed => k_is)
    (case k_right_needed => k_is)
    (case a_Desk_init => k_is)
    (case i_Desk_init => k_is)
    (case l_Desk_init => k_is)
    (case c_Desk_init => k_is)
    (case k_Desk_init => k_is)
    (case a_Desk_right_of => k_is)
    (case i_Desk_right_of => k_is)
    (case l_Desk_right_of => k_is)
    (case c_Desk_right_of => k_is)
    (case k_Desk_right_of => k_is)
    (case a_Desk_waits => k_is)
    (case i_Desk_waits => k_is)
    (case l_Desk_waits => k_is)
    (case c_Desk_waits => k_is)
    (case k_Desk_waits => k_is)
    (case a_Desk_want => k_is)
    (case i_Desk_want => k_is)
    (case l_Desk_want => k_is)
    (case c_Desk_want => k_is)
    (case k_Desk_want => k_is)
    (case a_Desk_take => k_is)
    (case i_Desk_take => k_is)
    (case l_Desk_take => k_is)
    (case c_Desk_take => k_is)
    (case k_Desk_take => k_is)
    (case a_Desk_rest => k_is)
    (case i_Desk_rest => k_is)
    (case l_Desk_rest => k_is)
    (case c_Desk_rest => k_is)
    (case k_Desk_rest => k_is)
    (case a_Desk_may_do => k_is)
    (case i_Desk_may_do => k_is)
    (case l_Desk_may_do => k_is)
    (case c_Desk_may_do => k_is)
    (case k_Desk_may_do => k_is)
    (case a_Desk_do_wish => k_is)
    (case i_Desk_do_wish => k_is)
    (case l_Desk_do_wish => k_is)
    (case c_Desk_do_wish => k_is)
    (case k_Desk_do_wish => k_is)
    (case a_Desk_take_loan => k_is)
    (case i_Desk_take_loan => k_is)
    (case l_Desk_take_loan => k_is)
    (case c_Desk_take_loan => k_is)
    (case k_Desk_take_loan => k_is)
    (case a_Desk_go_down => k_is)
    (case i_Desk_go_down => k_is)
    (case l_Desk_go_down => k_is)
    (case c_Desk_go_down => k_is)
    (case k_Desk_go_down => k_is)
    (case a_Desk_number_to_tell => k_is)
    (case i_Desk_number_to_tell => k_is)
    (case l_Desk_number_to_tell => k_is)
    (case c_Desk_number_to_tell => k_is)
    (case k_Desk_number_to_tell => k_is)
    (case a_Desk_hold => k_is)
    (case i_Desk_hold => k_is)
    (case l_Desk_hold => k_is)
    (case c_Desk_hold => k_is)
    (case k_Desk_hold => k_is)
    (case a_taken_by_desk => k_is)
    (case l_taken_by_desk => k_is)
    (case c_taken_by_desk => k_is)
    (case k_taken_by_desk => k_is)
    (case a_l_whole => k_is)
    (case l_l_whole => k_is)
    (case c_l_whole => k_is)
    (case k_l_whole => k_is)
    (case a_l_at => k_is)
    (case l_l_at => k_is)
    (case c_l_at => k_is)
    (case k_l_at => k_is)
    (case a_l_same => k_is)
    (case l_l_same => k_is)
    (case c_l_same => k_is)
    (case k_l_same => k_is)
    (case a_l_wanted => k_is)
    (case l_l_wanted => k_is)
    (case c_l_wanted => k_is)
    (case k_l_wanted => k_is)
    (case a_l_fulfilled => k_is)
    (case l_l_fulfilled => k_is)
    (case c_l_fulfilled => k_is)
    (case k_l_fulfilled => k_is)
    (case a_l_taken => k_is)
    (case l_l_taken => k_is)
    (case c_l_taken => k_is)
    (case k_l_taken => k_is)
    (case a_l_rested => k_is)
    (case l_l_rested => k_is)
    (case c_l_rested => k_is)
    (case k_l_rested => k_is)
    (case a_l_asked => k_is)
    (case l_l_asked => k_is)
    (case c_l_asked => k_is)
    (case k_l_asked => k_is)
    (case a_l_called => k_is)
    (case l_l_called => k_is)
    (case c_l_called => k_is)
    (case k_l_called => k_is)
    (case a_l_asked_by_any => k_is)
    (case l_l_asked_by_any => k_is)
    (case c_l_asked_by_any => k_is)
    (case k_l_asked_by_any => k_is)
    (case a_l_due_of => k_is)
    (case l_l_due_of => k_is)
    (case c_l_due_of => k_is)
    (case k_l_due_of => k_is)
    (case a_l_next_of => k_is)
    (case l_l_next_of => k_is)
    (case c_l_next_of => k_is)
    (case k_l_next_of => k_is)
    (case a_l_some_letters => k_is)
    (case l_l_some_letters => k_is)
    (case c_l_some_letters => k_is)
    (case k_l_some_letters => k_is)
    (case a_l_as_due => k_is)
    (case l_l_as_due => k_is)
    (case c_l_as_due => k_is)
    (case k_l_as_due => k_is)
    (case a_law => k_is)
    (case l_law => k_is)
    (case c_law => k_is)
    (case k_law => k_is)
    (case v_NONE => k_is)
    (case v_READ => k_is)
    (case v_WRITE => k_is)
    (case v_RANKS => k_is)
    (case kl_RANKS => k_is)
    (case kk_RANKS => exact ⟨⟨_, _, rfl, rfl⟩, ⟨⟨_, _, rfl, rfl⟩, ⟨⟨_, _, rfl, rfl⟩, trivial⟩⟩⟩)
    (case ki0_RANKS => k_is)
    (case ki1_RANKS => k_is)
    (case ki2_RANKS => k_is)
    (case z_isinstance => k_is)
    (case z_int => k_is)
    (case z_bool => k_is)
    (case z_len => k_is)
    (case z_list => k_is)
    (case z_tuple => k_is)
    (case z_str => k_is)
    (case z_ValueError => k_is)
    (case z_range => k_is)
