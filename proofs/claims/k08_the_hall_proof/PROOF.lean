import PyProof.Rows.All
import Wide.All
import OpenK.AllK
import Wide.FinOn
import Lean
import PyProof.EqAt
import PyProof.EqKinds
import PyProof.NeKinds
import PyProof.TupleCall
import PySem.Challenge.RW_copydesks_k08_the_hall
set_option Elab.async false
set_option maxRecDepth 100000
set_option maxHeartbeats 4000000
set_option Elab.async false
set_option linter.all false
set_option maxRecDepth 100000
/-! THE HAND LAYER, for ints, bools, texts, own classes, LISTS and tuples (index, slices, in, append, pop ..), calls, loops. Paste it whole ahead of your own text; what your proof does not reach may be deleted. -/
namespace L2
open PySem PySem.Spec PyProof.Rows

/-- a key: an int or a str -/
abbrev Key := Sum Int Str
def keyIs : Key → Value → Bool
  | .inl k, v => Value.isInt k v
  | .inr x, v => Value.isStrOf x v
def keyH (w : World) : Key → Int
  | .inl k => hashInt k
  | .inr x => hashStr w x
theorem keyIs_shape : ∀ {k : Key} {v : Value}, keyIs k v = true → (∃ i t, k = Sum.inl i ∧ v = Value.int i t) ∨ (∃ x t, k = Sum.inr x ∧ v = Value.str x t)
  | .inl i, v, h => by
    obtain ⟨t, e⟩ := Value.isInt_shape (k := i) (v := v) h
    exact .inl ⟨i, t, rfl, e⟩
  | .inr x, v, h => by
    obtain ⟨t, e⟩ := Value.isStrOf_shape (x := x) (v := v) h
    exact .inr ⟨x, t, rfl, e⟩
theorem keyIs_int (i : Int) (t : Tok) : keyIs (.inl i) (.int i t) = true := by simp [keyIs, Value.isInt]
theorem keyIs_str (x : Str) (t : Tok) : keyIs (.inr x) (.str x t) = true := by simp [keyIs, Value.isStrOf]
theorem key_ll (a b : Int) : decide ((Sum.inl a : Key) = Sum.inl b) = (a == b) := by
  by_cases e : a = b
  · subst e; simp
  · have h : ¬ (Sum.inl a : Key) = Sum.inl b := fun q => e (Sum.inl.inj q)
    rw [decide_eq_false h]
    exact (beq_eq_false_iff_ne.mpr e).symm
theorem key_rr (a b : Str) : decide ((Sum.inr a : Key) = Sum.inr b) = decide (a = b) := by
  by_cases e : a = b
  · subst e; simp
  · have h : ¬ (Sum.inr a : Key) = Sum.inr b := fun q => e (Sum.inr.inj q)
    rw [decide_eq_false h, decide_eq_false e]
theorem key_lr (a : Int) (b : Str) : decide ((Sum.inl a : Key) = Sum.inr b) = false := decide_eq_false (fun q => nomatch q)
theorem key_rl (a : Str) (b : Int) : decide ((Sum.inr a : Key) = Sum.inl b) = false := decide_eq_false (fun q => nomatch q)

def mixKind (prog : Program) (w : World) : PySem.KeyKind prog w Key where
  is := keyIs
  hash := keyH w
  inj := fun v a b ha hb => by
    rcases keyIs_shape ha with ⟨i, t, rfl, rfl⟩ | ⟨x, t, rfl, rfl⟩
    · rcases keyIs_shape hb with ⟨j, u, rfl, e⟩ | ⟨y, u, rfl, e⟩
      · injection e with e1 _; rw [e1]
      · exact nomatch e
    · rcases keyIs_shape hb with ⟨j, u, rfl, e⟩ | ⟨y, u, rfl, e⟩
      · exact nomatch e
      · injection e with e1 _; rw [e1]
  byValue := fun k v h => by
    rcases keyIs_shape h with ⟨i, t, rfl, rfl⟩ | ⟨x, t, rfl, rfl⟩ <;> rfl
  pyHash := fun hv h => by
    rcases keyIs_shape hv with ⟨i, t, rfl, rfl⟩ | ⟨x, t, rfl, rfl⟩
    · exact wpAny_pyHash_int h
    · exact wpAny_pyHash_str h
  eqBool := fun hu hv h => by
    rcases keyIs_shape hu with ⟨i, t, rfl, rfl⟩ | ⟨x, t, rfl, rfl⟩
    · rcases keyIs_shape hv with ⟨j, u, rfl, rfl⟩ | ⟨y, u, rfl, rfl⟩
      · rw [key_ll] at h; exact wpAny_eqBool_int h
      · rw [key_lr] at h; exact SeqAt.EqAt.int_str i t y u _ _ _ _ h
    · rcases keyIs_shape hv with ⟨j, u, rfl, rfl⟩ | ⟨y, u, rfl, rfl⟩
      · rw [key_rl] at h; exact SeqAt.EqAt.str_int x t j u _ _ _ _ h
      · rw [key_rr] at h; exact wpAny_eqBool_str h
  «strs» := fun k x t v h => by
    rcases keyIs_shape h with ⟨i, u, rfl, e⟩ | ⟨y, u, rfl, e⟩
    · exact nomatch e
    · injection e with e1 _
      subst e1
      cases v <;> rfl

theorem mixKind_int (prog : Program) (w : World) (i : Int) (t : Tok) : (mixKind prog w).is (.inl i) (.int i t) = true := keyIs_int i t
theorem mixKind_str (prog : Program) (w : World) (x : Str) (t : Tok) : (mixKind prog w).is (.inr x) (.str x t) = true := keyIs_str x t
end L2

namespace L2
open PySem PySem.Spec PyProof.Rows

/-- a value, without the heap -/
inductive V where
  | non | bl (b : Bool) | int (i : Int) | str (x : Str) | byt (b : Array UInt8) | flt (b : UInt64) | ref (a : Addr) | ty (n : String)
  deriving DecidableEq

def RelV : V → Value → Prop
  | .non, u => u = Value.none
  | .bl b, u => u = Value.bool b
  | .int i, u => ∃ t, u = Value.int i t
  | .str x, u => ∃ t, u = Value.str x t
  | .byt b, u => ∃ t, u = Value.bytes b t
  | .flt b, u => ∃ t, u = Value.float b t
  | .ref a, u => u = Value.ref a
  | .ty n, u => u = Value.type n

abbrev Vals : List V → List Value → Prop := Paired RelV
theorem Vals.length {xs : List V} {us : List Value} (r : Vals xs us) : xs.length = us.length := Paired.length r
theorem Vals.get : ∀ {xs : List V} {us : List Value} {i : Nat} {x : V}, Vals xs us → xs[i]? = some x → ∃ u, us[i]? = some u ∧ RelV x u
  | _, _, _, _, .nil, e => by simp at e
  | _, _, 0, _, .cons r _, e => by simp at e; subst e; exact ⟨_, rfl, r⟩
  | _, _, i + 1, x, .cons _ t, e => by
    obtain ⟨u, h1, h2⟩ := Vals.get (i := i) (x := x) t (by simpa using e)
    exact ⟨u, by simpa using h1, h2⟩
theorem Vals.set {x : V} {u : Value} (r : RelV x u) : ∀ {xs : List V} {us : List Value} (i : Nat), Vals xs us → Vals (xs.set i x) (us.set i u)
  | _, _, _, .nil => .nil
  | _, _, 0, .cons _ t => .cons r t
  | _, _, i + 1, .cons q t => .cons q (Vals.set r i t)
theorem Vals.append : ∀ {xs ys : List V} {us ws : List Value}, Vals xs us → Vals ys ws → Vals (xs ++ ys) (us ++ ws)
  | _, _, _, _, .nil, s => s
  | _, _, _, _, .cons r t, s => .cons r (Vals.append t s)
theorem Vals.take : ∀ {xs : List V} {us : List Value} (n : Nat), Vals xs us → Vals (xs.take n) (us.take n)
  | _, _, 0, _ => .nil
  | _, _, _ + 1, .nil => .nil
  | _, _, n + 1, .cons r t => .cons r (Vals.take n t)
theorem Vals.drop : ∀ {xs : List V} {us : List Value} (n : Nat), Vals xs us → Vals (xs.drop n) (us.drop n)
  | _, _, 0, r => r
  | _, _, _ + 1, .nil => .nil
  | _, _, n + 1, .cons _ t => Vals.drop n t
def RelO : Option V → Option Value → Prop
  | some v, some u => RelV v u
  | none, none => True
  | _, _ => False
def KV {κ : Type} : List (κ × V) → List (κ × Value) → Prop := Paired fun (p : κ × V) (q : κ × Value) => p.1 = q.1 ∧ RelV p.2 q.2

/-- a key of a dict (00_mix): an int or a text -/
def kV : Key → V
  | .inl i => .int i
  | .inr x => .str x

/-- what stands at a tracked address -/
inductive HO where
  /-- a list -/
  | lst (xs : List V)
  /-- a tuple (never changes) -/
  | tup (xs : List V)
  /-- a dict whose keys are ints and texts; one whose keys are tuples of ints and texts (the empty one is both) -/
  | dK (kvs : List (Key × V)) | dT (kvs : List (List Key × V))
  /-- a set of ints: its members, its size -/
  | set (S : Int → Bool) (n : Nat)
  /-- an instance of the class at C, its dict at dx, its attributes -/
  | ins (C dx : Addr) (fs : List (Str × V))
  /-- the dict of the instance at x -/
  | own (x : Addr)
  /-- the dict of an exception -/
  | xd (fs : List (Str × V))
  /-- a bound method, f of x -/
  | met (f x : Addr)
  /-- a range object lo, lo + 1, .. below hi -/
  | rng (lo hi : Int)
  /-- a thing that is known to the object (the script; a dict while a loop walks it): read, never written while it is so -/
  | frz (o : Obj) (u : HO)
  /-- a code object's table -/
  | tbl (ps : Array Value)
  /-- any other thing, by what is true of its one object (a def of one's own: SetO a S n := HO.ext fun h => ..) -/
  | ext (φ : Heap → Prop)

abbrev Hp := Addr → Option HO
def upd (H : Hp) (a : Addr) (o : HO) : Hp := fun b => if b = a then some o else H b
theorem upd_same {H : Hp} {a : Addr} {o : HO} : upd H a o a = some o := by unfold upd; rw [if_pos rfl]
theorem upd_ne {H : Hp} {a b : Addr} {o : HO} (h : b ≠ a) : upd H a o b = H b := by unfold upd; rw [if_neg h]
theorem upd_upd {H : Hp} {a : Addr} {o u : HO} : upd (upd H a o) a u = upd H a u := by
  funext b; unfold upd; split <;> rfl
/-- two objects of different content stand apart -/
theorem ne_of {H : Hp} {a b : Addr} {o u : HO} (h : H a = some o) (h' : H b = some u) (d : o ≠ u) : a ≠ b := by
  intro e; subst e; rw [h] at h'; exact d (Option.some.inj h')
theorem ne_of_none {H : Hp} {a b : Addr} {o : HO} (h : H a = some o) (h' : H b = none) : a ≠ b := by
  intro e; subst e; rw [h] at h'; cases h'

section
variable (P : Program) (w : World)
def ObjOk (H : Hp) (h : Heap) (a : Addr) : HO → Prop
  | .lst xs => xs.length ≤ sizeLine ∧ ∃ (its : List Value) (n : Nat), Vals xs its ∧ h.get? a = some { cls := .type "list", data := .seq its.toArray n }
  | .tup xs => xs.length ≤ sizeLine ∧ ∃ its : List Value, Vals xs its ∧ IsTup h a its.toArray
  | .dK kvs => kvs.length ≤ sizeLine ∧ (a == sysModules) = false ∧ ∃ vs, KV kvs vs ∧ h.DictOf (mixKind P w) a vs
  | .dT kvs => kvs.length ≤ sizeLine ∧ (a == sysModules) = false ∧ ∃ xs : List (List Key × Addr × Value),
      Paired (fun (p : List Key × V) (q : List Key × Addr × Value) => p.1 = q.1 ∧ H q.2.1 = some (.tup (p.1.map kV)) ∧ RelV p.2 q.2.2) kvs xs ∧
      ∃ o es ep, h.get? a = some o ∧ o.ExactDict ∧ o.data = .dict es ep ∧ es.toList = xs.map (entryOfKey (tupleKind (mixKind P w))) ∧ (xs.map (·.1)).Nodup
  | .set S n => h.SetOf (intKind P w) a S n
  | .ins C dx fs => H dx = some (.own a) ∧ fs.length ≤ 1000 ∧ dx ≠ a ∧ h.get? a = some (PySem.W.instObj C dx) ∧
      ∃ mA, h.Ns1 dx mA ∧ (∀ f, RelO (fs.lookup f) (mA f)) ∧ PySem.Within mA (fs.map (·.1))
  | .own _ => ∃ o, h.get? a = some o
  | .xd fs => ∃ mA, h.Ns1 a mA ∧ ∀ f, RelO (fs.lookup f) (mA f)
  | .rng lo hi => ∃ t u v, h.get? a = some { cls := .type "range", data := .fields #[.int lo t, .int hi u, .int 1 v] }
  | .frz o u => h.get? a = some o ∧ ObjOk H h a u
  | .tbl ps => h.get? a = some { cls := .none, data := .fields ps }
  | .met f x => h.get? a = some (PySem.W.methodObj (.ref f) (.ref x))
  | .ext φ => φ h ∧ (∃ o, h.get? a = some o) ∧ ∀ h1 h2 : Heap, φ h1 → (∀ o, h1.get? a = some o → h2.get? a = some o) → φ h2
/-- the abstract heap is held -/
def HOk (H : Hp) (h : Heap) : Prop := ∀ a o, H a = some o → ObjOk P w H h a o
end

section
variable {P : Program} {w : World} {H H' : Hp} {h h' : Heap} {a : Addr} {o : HO}
theorem ObjOk.lt (x : ObjOk P w H h a o) : a < h.objs.size := by
  cases o with
  | lst xs => obtain ⟨_, _, _, _, e⟩ := x; exact Heap.lt_size e
  | tup xs => obtain ⟨_, _, _, p⟩ := x; exact p.lt
  | dK kvs => obtain ⟨_, _, _, _, o, _, _, e, _⟩ := x; exact Heap.lt_size e
  | dT kvs => obtain ⟨_, _, _, _, o, _, _, e, _⟩ := x; exact Heap.lt_size e
  | set S n => obtain ⟨o, _, _, _, e, _⟩ := x; exact Heap.lt_size e
  | ins C dx fs => obtain ⟨_, _, _, e, _⟩ := x; exact Heap.lt_size e
  | own y => obtain ⟨_, e⟩ := x; exact Heap.lt_size e
  | xd fs => obtain ⟨_, ⟨_, _, _, e, _⟩, _⟩ := x; exact Heap.lt_size e
  | rng lo hi => obtain ⟨_, _, _, e⟩ := x; exact Heap.lt_size e
  | frz ob u => obtain ⟨e, _⟩ := x; exact Heap.lt_size e
  | tbl ps => exact Heap.lt_size (show h.get? a = some _ from x)
  | met f y => exact Heap.lt_size (show h.get? a = some _ from x)
  | ext φ => obtain ⟨_, ⟨_, e⟩, _⟩ := x; exact Heap.lt_size e
theorem Paired.mapP {α β : Type} {F G : α → β → Prop} : ∀ {l₁ : List α} {l₂ : List β}, Paired F l₁ l₂ → (∀ a b, F a b → G a b) → Paired G l₁ l₂
  | _, _, .nil, _ => .nil
  | _, _, .cons r t, f => .cons (f _ _ r) (Paired.mapP t f)
/-- what an object's description leans on: its own object, its own dict, the tuples -/
theorem ObjOk.stay (x : ObjOk P w H h a o) (k : ∀ b u, (b = a ∨ H b = some (.own a)) → h.get? b = some u → h'.get? b = some u)
    (ho : ∀ b, H b = some (.own a) → H' b = some (.own a)) (ht : ∀ b xs, H b = some (.tup xs) → H' b = some (.tup xs)) : ObjOk P w H' h' a o := by
  induction o with
  | lst xs => obtain ⟨z, its, n, r, e⟩ := x; exact ⟨z, its, n, r, k _ _ (.inl rfl) e⟩
  | tup xs => obtain ⟨z, its, r, ob, e, c⟩ := x; exact ⟨z, its, r, ob, k _ _ (.inl rfl) e, c⟩
  | dK kvs => obtain ⟨z, y, vs, r, ob, es, ep, e, c⟩ := x; exact ⟨z, y, vs, r, ob, es, ep, k _ _ (.inl rfl) e, c⟩
  | dT kvs =>
    obtain ⟨z, y, xs, r, ob, es, ep, e, c⟩ := x
    exact ⟨z, y, xs, Paired.mapP r fun p q z => ⟨z.1, ht _ _ z.2.1, z.2.2⟩, ob, es, ep, k _ _ (.inl rfl) e, c⟩
  | set S n => obtain ⟨ob, es, ep, t, e, c⟩ := x; exact ⟨ob, es, ep, t, k _ _ (.inl rfl) e, c⟩
  | ins C dx fs =>
    obtain ⟨d, z, ne, e, mA, ⟨od, es, ep, e2, c⟩, r⟩ := x
    exact ⟨ho _ d, z, ne, k _ _ (.inl rfl) e, mA, ⟨od, es, ep, k _ _ (.inr d) e2, c⟩, r⟩
  | own y => obtain ⟨ob, e⟩ := x; exact ⟨ob, k _ _ (.inl rfl) e⟩
  | xd fs => obtain ⟨mA, ⟨od, es, ep, e, c⟩, r⟩ := x; exact ⟨mA, ⟨od, es, ep, k _ _ (.inl rfl) e, c⟩, r⟩
  | rng lo hi => obtain ⟨t, u, v, e⟩ := x; exact ⟨t, u, v, k _ _ (.inl rfl) e⟩
  | frz ob u ih => obtain ⟨e, q⟩ := x; exact ⟨k _ _ (.inl rfl) e, ih q⟩
  | tbl ps =>
    have e : h.get? a = some { cls := .none, data := .fields ps } := x
    show h'.get? a = some { cls := .none, data := .fields ps }
    exact k a _ (.inl rfl) e
  | met f y =>
    have e : h.get? a = some (PySem.W.methodObj (.ref f) (.ref y)) := x
    show h'.get? a = some (PySem.W.methodObj (.ref f) (.ref y))
    exact k a _ (.inl rfl) e
  | ext φ => obtain ⟨p, ⟨o, e⟩, st⟩ := x; exact ⟨st _ _ p fun o q => k _ _ (.inl rfl) q, ⟨o, k _ _ (.inl rfl) e⟩, st⟩
theorem HOk.lt (x : HOk P w H h) (e : H a = some o) : a < h.objs.size := (x a o e).lt
theorem HOk.fresh (x : HOk P w H h) (e : h.objs.size ≤ a) : H a = none := by
  cases q : H a with
  | none => rfl
  | some u => exact absurd (Nat.lt_of_lt_of_le (x.lt q) e) (Nat.lt_irrefl _)
/-- every object of the heap is kept -/
theorem HOk.kept (x : HOk P w H h) (k : ∀ b u, h.get? b = some u → h'.get? b = some u) : HOk P w H h' := fun a o e =>
  (x a o e).stay (fun b u _ q => k b u q) (fun _ q => q) fun _ _ q => q
/-- a new object is laid and tracked -/
theorem HOk.laid (x : HOk P w H h) (k : ∀ b u, h.get? b = some u → h'.get? b = some u) (hp : h.objs.size ≤ a) (new : ObjOk P w (upd H a o) h' a o) : HOk P w (upd H a o) h' := fun b u e => by
  have hn := x.fresh hp
  by_cases hb : b = a
  · subst hb; rw [upd_same] at e; cases e; exact new
  · rw [upd_ne hb] at e
    exact (x b u e).stay (fun c v _ q => k c v q) (fun c q => by rw [upd_ne (ne_of_none q hn)]; exact q) fun c xs q => by rw [upd_ne (ne_of_none q hn)]; exact q
end

/-- what may be read as u: it is u, or a known u -/
def Rd (H : Hp) (a : Addr) (u : HO) : Prop := H a = some u ∨ ∃ o, H a = some (.frz o u)
theorem Rd.ok {P : Program} {w : World} {H : Hp} {h : Heap} {a : Addr} {u : HO} (r : Rd H a u) (x : HOk P w H h) : ObjOk P w H h a u := by
  rcases r with r | ⟨o, r⟩
  · exact x a u r
  · obtain ⟨_, q⟩ := x a _ r
    exact q
/-- what may be written -/
def Mut : Option HO → Prop
  | some (.lst _) => True
  | some (.dK _) => True
  | some (.dT _) => True
  | some (.set _ _) => True
  | some (.ins _ _ _) => True
  | some (.ext _) => True
  | _ => False
section
variable {P : Program} {w : World} {H : Hp} {h h' : Heap} {x e : Addr} {o' : HO}
/-- the object at e is changed: x itself, or the dict of the instance x -/
theorem HOk.write (ok : HOk P w H h) (mu : Mut (H x)) (he : e = x ∨ H e = some (.own x)) (k : ∀ b u, b ≠ e → h.get? b = some u → h'.get? b = some u) (heo : ∃ u, h'.get? e = some u)
    (new : ObjOk P w (upd H x o') h' x o') : HOk P w (upd H x o') h' := fun b u q => by
  have nown : ∀ c y, H c = some (.own y) → c ≠ x := fun c y r z => by subst z; rw [r] at mu; exact mu
  have ntup : ∀ c xs, H c = some (.tup xs) → c ≠ x := fun c xs r z => by subst z; rw [r] at mu; exact mu
  by_cases hb : b = x
  · subst hb; rw [upd_same] at q; cases q; exact new
  · rw [upd_ne hb] at q
    by_cases hbe : b = e
    · have q' : H b = some (.own x) := by
        rcases he with z | z
        · exact absurd (hbe.trans z) hb
        · rw [hbe]; exact z
      rw [q] at q'; cases q'
      obtain ⟨v, hv⟩ := heo
      exact ⟨v, by rw [hbe]; exact hv⟩
    · refine (ok b u q).stay (fun c v hc r => k c v ?_ r) (fun c r => by rw [upd_ne (nown c b r)]; exact r) fun c xs r => by rw [upd_ne (ntup c xs r)]; exact r
      rcases hc with rfl | hc
      · exact hbe
      · rintro rfl
        rcases he with z | z
        · exact nown c b hc z
        · rw [hc] at z; cases z; exact hb rfl
end

/-! ### kept unless tracked; of the frames at fs (the callers') the slots may change (an exception that passes writes there); of the records at ex (iterators) nothing is said -/
structure Un (fs ex : List Addr) (H H' : Hp) (h h' : Heap) : Prop where
  keep : ∀ b o, h.get? b = some o → H b = none → b ∉ fs → b ∉ ex → h'.get? b = some o
  slot : ∀ b o, h.get? b = some o → H b = none → b ∈ fs → b ∉ ex → ∃ sl, h'.get? b = some { o with slots := sl }
  free : ∀ b o, h.get? b = some o → H b = none → b ∉ ex → H' b = none
  there : ∀ b o, h.get? b = some o → b ∉ ex → ∃ o', h'.get? b = some o'
  tups : ∀ b xs, H b = some (.tup xs) → H' b = some (.tup xs)
  frzs : ∀ b o u, H b = some (.frz o u) → H' b = some (.frz o u)
  tbls : ∀ b ps, H b = some (.tbl ps) → ∃ more, H' b = some (.tbl (ps ++ more))
section
variable {fs fs' ex ex' : List Addr} {H H1 H2 : Hp} {h h1 h2 h' : Heap} {a x e : Addr} {o : HO}
theorem Un.any (u : Un fs ex H H1 h h1) {b : Addr} {ob : Obj} (q : h.get? b = some ob) (n : H b = none) (hx : b ∉ ex) : ∃ sl, h1.get? b = some { ob with slots := sl } := by
  by_cases hb : b ∈ fs
  · exact u.slot b ob q n hb hx
  · exact ⟨ob.slots, u.keep b ob q n hb hx⟩
theorem Un.kept (k : ∀ b u, h.get? b = some u → h'.get? b = some u) : Un fs ex H H h h' :=
  ⟨fun b ob q _ _ _ => k b ob q, fun b ob q _ _ _ => ⟨ob.slots, k b ob q⟩, fun _ _ _ n _ => n, fun b ob q _ => ⟨ob, k b ob q⟩, fun _ _ q => q, fun _ _ _ q => q, fun _ ps q => ⟨#[], by rw [q]; simp⟩⟩
theorem Un.refl : Un fs ex H H h h := Un.kept fun _ _ q => q
theorem Un.laid (k : ∀ b u, h.get? b = some u → h'.get? b = some u) (hp : h.objs.size ≤ a) (hn : H a = none) : Un fs ex H (upd H a o) h h' where
  keep := fun b u q _ _ _ => k b u q
  slot := fun b u q _ _ _ => ⟨u.slots, k b u q⟩
  free := fun b u q n _ => by rw [upd_ne (Nat.ne_of_lt (Nat.lt_of_lt_of_le (Heap.lt_size q) hp))]; exact n
  there := fun b u q _ => ⟨u, k b u q⟩
  tups := fun b xs q => by rw [upd_ne (ne_of_none q hn)]; exact q
  frzs := fun b u xs q => by rw [upd_ne (ne_of_none q hn)]; exact q
  tbls := fun b ps q => ⟨#[], by rw [upd_ne (ne_of_none q hn), q]; simp⟩
theorem Un.write (mu : Mut (H x)) (he : e = x ∨ H e = some (.own x)) (k : ∀ b u, b ≠ e → h.get? b = some u → h'.get? b = some u) (heo : ∃ u, h'.get? e = some u) : Un fs ex H (upd H x o) h h' := by
  have hx : ∀ b, H b = none → b ≠ x := fun b n z => by subst z; rw [n] at mu; exact mu
  have hb : ∀ b, H b = none → b ≠ e := fun b n z => by
    subst z
    rcases he with r | r
    · exact hx b n r
    · rw [n] at r; cases r
  have hm : ∀ b u, H b = some u → ¬ Mut (some u) → b ≠ x := fun b u q nm z => by subst z; rw [q] at mu; exact nm mu
  refine ⟨fun b u q n _ _ => k b u (hb b n) q, fun b u q n _ _ => ⟨u.slots, k b u (hb b n) q⟩, fun b u q n _ => by rw [upd_ne (hx b n)]; exact n, fun b u q _ => ?_,
    fun b xs q => by rw [upd_ne (hm b _ q fun z => z)]; exact q, fun b u xs q => by rw [upd_ne (hm b _ q fun z => z)]; exact q, fun b ps q => ⟨#[], by rw [upd_ne (hm b _ q fun z => z), q]; simp⟩⟩
  by_cases hbe : b = e
  · subst hbe; exact heo
  · exact ⟨u, k b u hbe q⟩
end

/-! ### the heap without what is tracked -/
def trk (h : Heap) (H : Hp) : List Addr := (List.range h.objs.size).filter fun a => (H a).isSome
def hidT (h : Heap) (H : Hp) : Heap := PySem.W.hideAll h (trk h H)
theorem hidT_size (h : Heap) (H : Hp) : (hidT h H).objs.size = h.objs.size := PySem.W.hideAll_size _ _
theorem hidT_get {h : Heap} {H : Hp} {b : Addr} {o : Obj} (e : h.get? b = some o) (n : H b = none) : (hidT h H).get? b = some o :=
  PySem.W.hideAll_get _ e fun hm => by
    have q : (H b).isSome = true := (List.mem_filter.mp hm).2
    rw [n] at q; simp at q
theorem of_hidT {h : Heap} {H : Hp} {b : Addr} {o : Obj} (e : (hidT h H).get? b = some o) : h.get? b = some o ∧ H b = none := by
  have e' : h.get? b = some o := PySem.W.of_hideAll (trk h H) e
  refine ⟨e', ?_⟩
  cases q : H b with
  | none => rfl
  | some x =>
    have hm : b ∈ trk h H := List.mem_filter.mpr ⟨List.mem_range.mpr (Heap.lt_size e'), by simp [q]⟩
    have z : (hidT h H).get? b = none := PySem.W.hideAll_none (trk h H) hm
    rw [z] at e; cases e

/-! ### OpenK's ledger, filled with every new object but one -/
end L2

namespace L2
open PySem PySem.Spec PyProof.Rows

/-- the module's facts, over the base: the heap at the law's entry without what is tracked there -/
structure Mod (K : PySem.W.Frag) (mg : Str → Option Value) (base : Heap) : Prop where
  kin : K.In base
  glob : base.Ns mainGlobals mg
  blt : ∃ mb, base.Ns builtinsNs mb ∧ ∀ x : Str, x ≠ "__name__" → mb x = bootBuiltins x
  nolimit : base.NoLimit

/-- the context: a def's body (or a comprehension's block) running. base: fixed through the whole law; s₀, H₀: the entry; outer: the frames whose slots others may change (a def's callers); stack: all frames that run;
   ex: iterators that were made ahead of the entry and are walked here (a comprehension's); fn: the names whose cells were made at the entry (a def: all; a comprehension's block: its own); calm: not within an except suite; pn: pins that every state bears; xe: what is wanted of an exception that leaves the code -/
structure Cx where
  prog : Program
  w : World
  K : PySem.W.Frag
  mg : Str → Option Value
  base : Heap
  A : Around
  N : List Str
  s₀ : Shared
  H₀ : Hp
  env : Env
  outer : List Env
  stack : List Env
  ex : List Addr
  fn : Str → Bool
  calm : Bool
  pn : List (Addr × Obj)
  xe : Value → Shared → Prop
/-- the callers' frames -/
def frs (l : List Env) : List Addr := l.filterMap (·.frame)
abbrev Cx.fs (X : Cx) : List Addr := frs X.outer

def Vis (sc : Scope) (x : Str) : Prop := sc.names.lookup x = some .local ∨ sc.names.lookup x = some .cell ∨ sc.names.lookup x = some .free
def Loc (sc : Scope) (x : Str) : Prop := sc.names.lookup x = some .local ∨ sc.names.lookup x = some .cell
def Look (env : Env) (h : Heap) (m : Str → Option Value) (x : Str) (u : Value) : Prop :=
  (env.kindOf x = some .local ∧ m x = some u) ∨ ((env.kindOf x = some .cell ∨ env.kindOf x = some .free) ∧ ∃ c, env.cells.lookup x = some c ∧ h.IsCell c (some u))

structure Cx.Ok (X : Cx) : Prop where
  mod : Mod X.K X.mg X.base
  kind : X.env.scope.kind = .function
  glob : X.env.globals = mainGlobals
  blt : X.env.builtins = builtinsNs
  above : X.s₀.heap.objs.size ≤ X.env.locals
  inj : ∀ x y c, X.env.cells.lookup x = some c → X.env.cells.lookup y = some c → x = y
  has : ∀ x, (X.env.kindOf x = some .cell ∨ X.env.kindOf x = some .free) → ∃ c, X.env.cells.lookup x = some c
  cab : ∀ x c, X.fn x = true → X.env.cells.lookup x = some c → X.s₀.heap.objs.size ≤ c
  hd : X.calm = true → X.A.handled = none
  frames : X.A.frames = some X.stack
  stk : X.stack = X.outer ∨ (X.stack = X.env :: X.outer ∧ X.env.frame = some X.env.locals)
  exf : ∀ b ∈ X.ex, b ≠ X.env.locals ∧ ∀ x c, X.env.cells.lookup x = some c → c ≠ b
  bs : ∀ b o, X.base.get? b = some o → X.s₀.heap.get? b = some o ∧ X.H₀ b = none
  bsz : X.base.objs.size ≤ X.s₀.heap.objs.size
  noex : ∀ b o, X.base.get? b = some o → b ∉ X.ex
  exfs : ∀ b ∈ X.ex, b ∉ X.fs
  funs : X.s₀.heap.FunFrames X.base X.outer
  frf : ∀ b ∈ X.fs, X.H₀ b = none

structure Inv (X : Cx) (pins : List (Addr × Obj)) (σ : List (Option V)) (H : Hp) (s : Shared) : Prop where
  ok : X.Ok
  os : s.os = X.s₀.os
  bare : AllBare s.gens
  base : Un X.fs X.ex X.H₀ H X.s₀.heap s.heap
  loc : ∃ m, s.heap.Ns X.env.locals m ∧ ∀ (i : Nat) (x : Str) (v : V), X.N[i]? = some x → σ[i]? = some (some v) → Vis X.env.scope x → ∃ u, RelV v u ∧ Look X.env s.heap m x u
  cell : ∀ x c, X.env.cells.lookup x = some c → ∃ v, s.heap.IsCell c v
  free : H X.env.locals = none
  freeC : ∀ x c, X.env.cells.lookup x = some c → H c = none
  pin : ∀ p ∈ X.pn ++ pins, s.heap.get? p.1 = some p.2 ∧ H p.1 = none ∧ p.1 ≠ X.env.locals ∧ p.1 ∉ X.fs ∧ ∀ v, p.2.data ≠ .cell v
  hok : HOk X.prog X.w H s.heap
  len : σ.length = X.N.length

section
variable {X : Cx} {pins : List (Addr × Obj)} {σ : List (Option V)} {H H' : Hp} {s : Shared} {h' : Heap}

theorem Cx.Ok.nofr (ok : X.Ok) {b : Addr} {o : Obj} (e : X.base.get? b = some o) : b ∉ X.fs := fun hb => by
  have := (ok.funs.mem hb).1
  rw [e] at this; cases this
theorem Inv.bs (I : Inv X pins σ H s) : ∀ b o, X.base.get? b = some o → s.heap.get? b = some o ∧ H b = none := fun b o e =>
  ⟨I.base.keep b o (I.ok.bs b o e).1 (I.ok.bs b o e).2 (I.ok.nofr e) (I.ok.noex b o e), I.base.free b o (I.ok.bs b o e).1 (I.ok.bs b o e).2 (I.ok.noex b o e)⟩
theorem Inv.bk (I : Inv X pins σ H s) : ∀ b o, X.base.get? b = some o → s.heap.get? b = some o := fun b o e => (I.bs b o e).1
theorem Inv.mod (I : Inv X pins σ H s) : Mod X.K X.mg X.base := I.ok.mod
theorem Inv.kIn (I : Inv X pins σ H s) : X.K.In s.heap := I.ok.mod.kin.keeps I.bk
theorem Inv.lt (I : Inv X pins σ H s) : X.env.locals < s.heap.objs.size := let ⟨_, hn, _⟩ := I.loc; hn.lt
theorem Inv.sz (I : Inv X pins σ H s) : X.s₀.heap.objs.size ≤ s.heap.objs.size := Nat.le_trans I.ok.above (Nat.le_of_lt I.lt)
theorem Inv.nofs (I : Inv X pins σ H s) {a : Addr} (h : s.heap.objs.size ≤ a) : a ∉ X.fs := fun hb => by
  obtain ⟨_, o, ho, _⟩ := I.ok.funs.mem hb
  exact absurd (Nat.lt_of_lt_of_le (Heap.lt_size ho) (Nat.le_trans I.sz h)) (Nat.lt_irrefl _)
theorem Inv.cne (I : Inv X pins σ H s) : ∀ x c, X.env.cells.lookup x = some c → c ≠ X.env.locals := fun x c e z => by
  obtain ⟨v, o, ho, hd⟩ := I.cell x c e
  obtain ⟨m, ⟨o', es, ep, ho', hd', _⟩, _⟩ := I.loc
  rw [z, ho'] at ho; cases ho; rw [hd'] at hd; cases hd
theorem Inv.funs (I : Inv X pins σ H s) : s.heap.FunFrames X.base X.outer := by
  have all : ∀ (l : List Env), (∀ b ∈ frs l, b ∈ X.fs) → X.s₀.heap.FunFrames X.base l → s.heap.FunFrames X.base l := by
    intro l
    induction l with
    | nil => intro _ _; trivial
    | cons env r ih =>
      intro hs hl
      obtain ⟨hk, ⟨L, o, hf, hn, ho, hd⟩, hr⟩ := hl
      have hL : L ∈ X.fs := hs L (by unfold frs; rw [List.filterMap_cons, hf]; exact List.mem_cons_self)
      obtain ⟨sl, e⟩ := I.base.slot L o ho (I.ok.frf L hL) hL fun z => I.ok.exfs L z hL
      exact ⟨hk, ⟨L, _, hf, hn, e, hd⟩, ih (fun b hb => hs b (by unfold frs; rw [List.filterMap_cons, hf]; exact List.mem_cons_of_mem _ hb)) hr⟩
  exact all X.outer (fun _ hb => hb) I.ok.funs

/-- the frames that run, for a call -/
theorem Inv.stack (I : Inv X pins σ H s) : s.heap.FunFrames X.base X.stack := by
  rcases I.ok.stk with e | ⟨e, hf⟩
  · rw [e]; exact I.funs
  · rw [e]
    obtain ⟨m, hn, _⟩ := I.loc
    refine .cons (by rw [I.ok.kind]; decide) hf hn ?_ I.funs
    exact Heap.get?_none_of_le (Nat.le_trans I.ok.bsz I.ok.above)
theorem Inv.stkSub (I : Inv X pins σ H s) : ∀ b ∈ frs X.stack, b ∈ X.env.locals :: X.fs := fun b hb => by
  rcases I.ok.stk with e | ⟨e, hf⟩
  · rw [e] at hb; exact List.mem_cons_of_mem _ hb
  · rw [e] at hb
    unfold frs at hb
    rw [List.filterMap_cons, hf] at hb
    exact hb
theorem Inv.stkFree (I : Inv X pins σ H s) : ∀ b ∈ frs X.stack, H b = none := fun b hb => by
  rcases List.mem_cons.mp (I.stkSub b hb) with e | hb
  · rw [e]; exact I.free
  · obtain ⟨_, o, ho, _⟩ := I.ok.funs.mem hb
    exact I.base.free b o ho (I.ok.frf b hb) fun z => I.ok.exfs b z hb

/-- THE STEP: the untracked objects but the frame and the records at ch are kept (the callers' frames up to slots), the frame's map is kept, the new abstract heap is held -/
theorem Inv.step {g' : Array GenState} {t' : Nat} {d' : Drawn} {ch : List Addr} (I : Inv X pins σ H s)
    (hch : ∀ b ∈ ch, (b ∈ X.ex ∨ X.s₀.heap.objs.size ≤ b) ∧ b ≠ X.env.locals ∧ (∀ x c, X.env.cells.lookup x = some c → c ≠ b) ∧ ∀ p ∈ X.pn ++ pins, p.1 ≠ b)
    (keep : ∀ b o, b ≠ X.env.locals → b ∉ X.fs → b ∉ ch → s.heap.get? b = some o → H b = none → h'.get? b = some o)
    (slot : ∀ b o, b ≠ X.env.locals → b ∈ X.fs → b ∉ ch → s.heap.get? b = some o → H b = none → ∃ sl, h'.get? b = some { o with slots := sl }) (free : ∀ b o, b ∉ ch → s.heap.get? b = some o → H b = none → H' b = none)
    (there : ∀ b o, b ∉ ch → s.heap.get? b = some o → ∃ o', h'.get? b = some o')
    (tups : ∀ b xs, H b = some (.tup xs) → H' b = some (.tup xs)) (frzs : ∀ b o u, H b = some (.frz o u) → H' b = some (.frz o u)) (tbls : ∀ b ps, H b = some (.tbl ps) → ∃ more, H' b = some (.tbl (ps ++ more)))
    (ns : ∀ m, s.heap.Ns X.env.locals m → h'.Ns X.env.locals m) (hok : HOk X.prog X.w H' h') (hg : AllBare g') :
    Inv X pins σ H' { s with heap := h', gens := g', drawn := d', toks := t' } := by
  have neL : ∀ b o, X.s₀.heap.get? b = some o → b ≠ X.env.locals := fun b o e => Nat.ne_of_lt (Nat.lt_of_lt_of_le (Heap.lt_size e) I.ok.above)
  have neC : ∀ b o, X.s₀.heap.get? b = some o → b ∉ X.ex → b ∉ ch := fun b o e hx hb => by
    rcases (hch b hb).1 with z | z
    · exact hx z
    · exact absurd (Nat.lt_of_lt_of_le (Heap.lt_size e) z) (Nat.lt_irrefl _)
  have cellK : ∀ x c, X.env.cells.lookup x = some c → ∀ v, s.heap.IsCell c v → h'.IsCell c v := fun x c e v ⟨o, ho, hd⟩ => by
    have nch : c ∉ ch := fun z => (hch c z).2.2.1 x c e rfl
    by_cases hc : c ∈ X.fs
    · obtain ⟨sl, q⟩ := slot c o (I.cne x c e) hc nch ho (I.freeC x c e)
      exact ⟨_, q, hd⟩
    · exact ⟨o, keep c o (I.cne x c e) hc nch ho (I.freeC x c e), hd⟩
  refine ⟨I.ok, I.os, hg, ⟨fun b o e n hb hx => ?_, fun b o e n hb hx => ?_, fun b o e n hx => ?_, fun b o e hx => ?_, fun b xs e => tups b xs (I.base.tups b xs e), fun b o xs e => frzs b o xs (I.base.frzs b o xs e), fun b ps e => ?_⟩, ?_, fun x c e => ?_, ?_, fun x c e => ?_, fun p hp => ?_, hok, I.len⟩
  · exact keep b o (neL b o e) hb (neC b o e hx) (I.base.keep b o e n hb hx) (I.base.free b o e n hx)
  · obtain ⟨sl, e1⟩ := I.base.slot b o e n hb hx
    obtain ⟨sl', e2⟩ := slot b _ (neL b o e) hb (neC b o e hx) e1 (I.base.free b o e n hx)
    exact ⟨sl', e2⟩
  · obtain ⟨o', e1⟩ := I.base.there b o e hx
    exact free b o' (neC b o e hx) e1 (I.base.free b o e n hx)
  · obtain ⟨o', e1⟩ := I.base.there b o e hx
    exact there b o' (neC b o e hx) e1
  · obtain ⟨m1, e1⟩ := I.base.tbls b ps e
    obtain ⟨m2, e2⟩ := tbls b _ e1
    exact ⟨m1 ++ m2, by rw [e2, Array.append_assoc]⟩
  · obtain ⟨m, hn, hl⟩ := I.loc
    refine ⟨m, ns m hn, fun i x v e1 e2 e3 => ?_⟩
    obtain ⟨u, r, l⟩ := hl i x v e1 e2 e3
    refine ⟨u, r, ?_⟩
    rcases l with l | ⟨k, c, e, z⟩
    · exact .inl l
    · exact .inr ⟨k, c, e, cellK x c e _ z⟩
  · obtain ⟨v, z⟩ := I.cell x c e
    exact ⟨v, cellK x c e v z⟩
  · obtain ⟨m, ⟨o, _, _, ho, _⟩, _⟩ := I.loc
    exact free _ o (fun z => (hch _ z).2.1 rfl) ho I.free
  · obtain ⟨v, o, ho, hd⟩ := I.cell x c e
    exact free c o (fun z => (hch c z).2.2.1 x c e rfl) ho (I.freeC x c e)
  · obtain ⟨e, n, ne, nf, d⟩ := I.pin p hp
    have nch : p.1 ∉ ch := fun z => (hch p.1 z).2.2.2 p hp rfl
    exact ⟨keep p.1 p.2 ne nf nch e n, free p.1 p.2 nch e n, ne, nf, d⟩
/-- .. where the frame's own object is kept too -/
theorem Inv.un {t' : Nat} (I : Inv X pins σ H s) (u : Un X.fs [] H H' s.heap h') (hok : HOk X.prog X.w H' h') : Inv X pins σ H' { s with heap := h', toks := t' } := by
  obtain ⟨m, ⟨o, es, ep, ho, r⟩, _⟩ := id I.loc
  obtain ⟨sl, hL⟩ := u.any ho I.free (by simp)
  exact I.step (g' := s.gens) (d' := s.drawn) (ch := []) (fun _ z => nomatch z) (fun b o _ hb _ e n => u.keep b o e n hb (by simp)) (fun b o _ hb _ e n => u.slot b o e n hb (by simp)) (fun b o _ e n => u.free b o e n (by simp)) (fun b o _ e => u.there b o e (by simp)) u.tups u.frzs u.tbls (fun m' hm => by
    obtain ⟨o', es', ep', ho', r'⟩ := hm
    rw [ho] at ho'; cases ho'
    exact ⟨_, es', ep', hL, r'⟩) hok I.bare
/-- behind a call (or a comprehension's block): the slots of this frame may have changed too, the records at ch may have turned -/
theorem Inv.call {g' : Array GenState} {t' : Nat} {d' : Drawn} {ch : List Addr} (I : Inv X pins σ H s) (u : Un (frs X.stack) ch H H' s.heap h') (hok : HOk X.prog X.w H' h') (hg : AllBare g')
    (hch : ∀ b ∈ ch, (b ∈ X.ex ∨ X.s₀.heap.objs.size ≤ b) ∧ b ≠ X.env.locals ∧ (∀ x c, X.env.cells.lookup x = some c → c ≠ b) ∧ ∀ p ∈ X.pn ++ pins, p.1 ≠ b) :
    Inv X pins σ H' { s with heap := h', gens := g', drawn := d', toks := t' } := by
  obtain ⟨m, ⟨o, es, ep, ho, r⟩, _⟩ := id I.loc
  obtain ⟨sl, hL⟩ := u.any ho I.free fun z => (hch _ z).2.1 rfl
  exact I.step (ch := ch) hch (fun b o hL hb hc e n => u.keep b o e n (fun z => (List.mem_cons.mp (I.stkSub b z)).elim hL hb) hc) (fun b o _ _ hc e n => u.any e n hc) (fun b o hc e n => u.free b o e n hc) (fun b o hc e => u.there b o e hc) u.tups u.frzs u.tbls (fun m' hm => by
    obtain ⟨o', es', ep', ho', r'⟩ := hm
    rw [ho] at ho'; cases ho'
    exact ⟨_, es', ep', hL, r'⟩) hok hg
/-- an untracked record of ours (an iterator) has turned -/
theorem Inv.turned {t' : Nat} {it : Addr} (I : Inv X pins σ H s) (k : ∀ b o, b ≠ it → s.heap.get? b = some o → h'.get? b = some o) (hn : H it = none) (hL : it ≠ X.env.locals)
    (h1 : it ∈ X.ex ∨ X.s₀.heap.objs.size ≤ it) (h2 : ∀ x c, X.env.cells.lookup x = some c → c ≠ it) (h3 : ∀ p ∈ X.pn ++ pins, p.1 ≠ it) : Inv X pins σ H { s with heap := h', toks := t' } := by
  have nit : ∀ b u, H b = some u → b ≠ it := fun b u e z => by rw [z, hn] at e; cases e
  refine I.step (g' := s.gens) (d' := s.drawn) (ch := [it]) (fun b hb => ?_) (fun b o _ _ hc e _ => k b o (fun z => hc (by simp [z])) e) (fun b o _ _ hc e _ => ⟨o.slots, k b o (fun z => hc (by simp [z])) e⟩) (fun _ _ _ _ n => n)
    (fun b o hc e => ⟨o, k b o (fun z => hc (by simp [z])) e⟩) (fun _ _ e => e) (fun _ _ _ e => e) (fun b ps e => ⟨#[], by rw [e]; simp⟩) (fun m hm => ?_) (fun b u e => ?_) I.bare
  · have e : b = it := by simpa using hb
    subst e
    exact ⟨h1, hL, h2, h3⟩
  · obtain ⟨o, es, ep, ho, r⟩ := hm
    exact ⟨o, es, ep, k _ o (Ne.symm hL) ho, r⟩
  · refine (I.hok b u e).stay (fun c v hc q => k c v ?_ q) (fun _ q => q) fun _ _ q => q
    rcases hc with z | z
    · rw [z]; exact nit b u e
    · exact nit c _ z
theorem Inv.tok (I : Inv X pins σ H s) (t : Nat) : Inv X pins σ H { s with toks := t } := I.un (h' := s.heap) (t' := t) Un.refl I.hok
/-- all objects kept -/
theorem Inv.kept {t' : Nat} (I : Inv X pins σ H s) (k : ∀ b u, s.heap.get? b = some u → h'.get? b = some u) : Inv X pins σ H { s with heap := h', toks := t' } := I.un (Un.kept k) (I.hok.kept k)
/-- a new object laid and tracked -/
theorem Inv.laid {a : Addr} {o : HO} {t' : Nat} (I : Inv X pins σ H s) (k : ∀ b u, s.heap.get? b = some u → h'.get? b = some u) (hp : s.heap.objs.size ≤ a) (new : ObjOk X.prog X.w (upd H a o) h' a o) :
    Inv X pins σ (upd H a o) { s with heap := h', toks := t' } := I.un (Un.laid k hp (I.hok.fresh hp)) (I.hok.laid k hp new)
/-- an object written -/
theorem Inv.write {x e : Addr} {o : HO} {t' : Nat} (I : Inv X pins σ H s) (mu : Mut (H x)) (he : e = x ∨ H e = some (.own x)) (k : ∀ b u, b ≠ e → s.heap.get? b = some u → h'.get? b = some u) (heo : ∃ u, h'.get? e = some u)
    (new : ObjOk X.prog X.w (upd H x o) h' x o) : Inv X pins σ (upd H x o) { s with heap := h', toks := t' } := I.un (Un.write mu he k heo) (I.hok.write mu he k heo new)
theorem Inv.pins_of {pins' : List (Addr × Obj)} (I : Inv X pins σ H s) (h : ∀ p ∈ pins', s.heap.get? p.1 = some p.2 ∧ H p.1 = none ∧ p.1 ≠ X.env.locals ∧ p.1 ∉ X.fs ∧ ∀ v, p.2.data ≠ .cell v) : Inv X pins' σ H s :=
  ⟨I.ok, I.os, I.bare, I.base, I.loc, I.cell, I.free, I.freeC, fun p hp => (List.mem_append.mp hp).elim (fun z => I.pin p (List.mem_append_left _ z)) (h p), I.hok, I.len⟩

theorem nodup_ix {N : List Str} (hN : N.Nodup) {i j : Nat} {x : Str} (a : N[i]? = some x) (b : N[j]? = some x) : i = j := by
  obtain ⟨h1, e1⟩ := List.getElem?_eq_some_iff.mp a
  obtain ⟨h2, e2⟩ := List.getElem?_eq_some_iff.mp b
  exact (List.getElem_inj hN).mp (e1.trans e2.symm)

/-- a name is stored; what changed -/
theorem store_ok2 {M : Model} {A : Around} {E : Value → Shared → Prop} {i : Nat} {x : Str} {v : V} {u : Value} {Q : Unit → Shared → Prop} (I : Inv X pins σ H s) (hN : X.N.Nodup) (hi : X.N[i]? = some x) (hx : Loc X.env.scope x) (r : RelV v u)
    (h : ∀ s', Inv X pins (σ.set i (some v)) H s' → (∃ a, Heap.SameBut a s.heap s'.heap ∧ (a = X.env.locals ∨ X.env.cells.lookup x = some a)) → Q () s') (hf : X.fn x = true ∨ X.env.scope.names.lookup x = some .local := by first | exact .inl rfl | exact .inr rfl | assumption) : wpAny M A (storeName X.env x u) Q E s := by
  obtain ⟨m, hn, hl⟩ := id I.loc
  have hcls : (X.env.scope.kind == .class || (X.env.scope.kind == .module && X.env.locals != X.env.globals)) = false := by rw [I.ok.kind]; rfl
  have hiσ : i < σ.length := by rw [I.len]; exact (List.getElem?_eq_some_iff.mp hi).1
  have cne := I.cne
  have tracked : ∀ {a : Addr} {h' : Heap}, (∃ o, s.heap.get? a = some o ∧ H a = none) → Heap.SameBut a s.heap h' → HOk X.prog X.w H h' := fun {a h'} ha hs b ob e => by
    obtain ⟨_, _, hfree⟩ := ha
    refine (I.hok b ob e).stay (fun c w' hc q => (hs.2 c ?_).trans q) (fun _ q => q) fun _ _ q => q
    rintro rfl
    rcases hc with rfl | hc
    · rw [hfree] at e; cases e
    · rw [hfree] at hc; cases hc
  rcases hx with hk | hk
  · refine wpAny_storeName_local hk hn (fun h' hn' hs => ?_) hcls
    obtain ⟨oL, _, _, hoL, _⟩ := id hn
    refine h _ ⟨I.ok, I.os, I.bare, ⟨fun b o e n hb hx => ?_, fun b o e n hb hx => ?_, I.base.free, fun b o e hx => ?_, I.base.tups, I.base.frzs, I.base.tbls⟩, ⟨_, hn', fun j y v' e1 e2 e3 => ?_⟩, fun y c e => ?_, I.free, I.freeC, fun p hp => ?_, tracked ⟨oL, hoL, I.free⟩ hs, by simpa using I.len⟩ ⟨_, hs, .inl rfl⟩
    · exact (hs.2 b (Nat.ne_of_lt (Nat.lt_of_lt_of_le (Heap.lt_size e) I.ok.above))).trans (I.base.keep b o e n hb hx)
    · obtain ⟨sl, e1⟩ := I.base.slot b o e n hb hx
      exact ⟨sl, (hs.2 b (Nat.ne_of_lt (Nat.lt_of_lt_of_le (Heap.lt_size e) I.ok.above))).trans e1⟩
    · obtain ⟨o', e1⟩ := I.base.there b o e hx
      exact ⟨o', (hs.2 b (Nat.ne_of_lt (Nat.lt_of_lt_of_le (Heap.lt_size e) I.ok.above))).trans e1⟩
    · by_cases hj : j = i
      · subst hj
        rw [hi] at e1; cases e1
        rw [List.getElem?_set_self hiσ] at e2
        cases e2
        exact ⟨u, r, .inl ⟨hk, by simp⟩⟩
      · rw [List.getElem?_set_ne (Ne.symm hj)] at e2
        obtain ⟨u', r', q⟩ := hl j y v' e1 e2 e3
        refine ⟨u', r', ?_⟩
        rcases q with ⟨k, e⟩ | ⟨k, c, e, z⟩
        · refine .inl ⟨k, ?_⟩
          have : y ≠ x := fun e => hj (nodup_ix hN e1 (e ▸ hi))
          simp [this, e]
        · exact .inr ⟨k, c, e, z.sameBut hs (cne y c e)⟩
    · obtain ⟨w', z⟩ := I.cell y c e
      exact ⟨w', z.sameBut hs (cne y c e)⟩
    · obtain ⟨e, n, ne, nf, d⟩ := I.pin p hp
      exact ⟨(hs.2 p.1 ne).trans e, n, ne, nf, d⟩
  · have hfn : X.fn x = true := by
      rcases hf with z | z
      · exact z
      · rw [z] at hk; cases hk
    obtain ⟨c, hc⟩ := I.ok.has x (.inl hk)
    obtain ⟨w', z⟩ := I.cell x c hc
    refine wpAny_storeName_cell I.ok.kind hk hc z (fun h' hc' hs => ?_)
    obtain ⟨oc, hoc, hocd⟩ := id z
    refine h { s with heap := h' } ⟨I.ok, I.os, I.bare, ⟨fun b o e n hb hx => ?_, fun b o e n hb hx => ?_, I.base.free, fun b o e hx => ?_, I.base.tups, I.base.frzs, I.base.tbls⟩, ⟨m, hn.sameBut hs (Ne.symm (cne x c hc)), fun j y v' e1 e2 e3 => ?_⟩, fun y c' e => ?_, I.free, I.freeC, fun p hp => ?_, tracked ⟨oc, hoc, I.freeC x c hc⟩ hs, by simpa using I.len⟩ ⟨c, hs, .inr hc⟩
    · exact (hs.2 b (Nat.ne_of_lt (Nat.lt_of_lt_of_le (Heap.lt_size e) (I.ok.cab x c hfn hc)))).trans (I.base.keep b o e n hb hx)
    · obtain ⟨sl, e1⟩ := I.base.slot b o e n hb hx
      exact ⟨sl, (hs.2 b (Nat.ne_of_lt (Nat.lt_of_lt_of_le (Heap.lt_size e) (I.ok.cab x c hfn hc)))).trans e1⟩
    · obtain ⟨o', e1⟩ := I.base.there b o e hx
      exact ⟨o', (hs.2 b (Nat.ne_of_lt (Nat.lt_of_lt_of_le (Heap.lt_size e) (I.ok.cab x c hfn hc)))).trans e1⟩
    · by_cases hj : j = i
      · subst hj
        rw [hi] at e1; cases e1
        rw [List.getElem?_set_self hiσ] at e2
        cases e2
        exact ⟨u, r, .inr ⟨.inl hk, c, hc, hc'⟩⟩
      · rw [List.getElem?_set_ne (Ne.symm hj)] at e2
        obtain ⟨u', r', q⟩ := hl j y v' e1 e2 e3
        refine ⟨u', r', ?_⟩
        rcases q with q | ⟨k, c', e, z'⟩
        · exact .inl q
        · refine .inr ⟨k, c', e, z'.sameBut hs ?_⟩
          rintro rfl
          exact hj (nodup_ix hN e1 (I.ok.inj _ _ _ e hc ▸ hi))
    · by_cases hcc : c' = c
      · subst hcc; exact ⟨_, hc'⟩
      · obtain ⟨w2, z2⟩ := I.cell y c' e
        exact ⟨w2, z2.sameBut hs hcc⟩
    · obtain ⟨e, n, ne, nf, d⟩ := I.pin p hp
      refine ⟨(hs.2 p.1 ?_).trans e, n, ne, nf, d⟩
      intro q
      rw [q, hoc] at e
      have q' : oc = p.2 := Option.some.inj e
      exact d w' (by rw [← q']; exact hocd)
theorem store_ok {M : Model} {A : Around} {E : Value → Shared → Prop} {i : Nat} {x : Str} {v : V} {u : Value} {Q : Unit → Shared → Prop} (I : Inv X pins σ H s) (hN : X.N.Nodup) (hi : X.N[i]? = some x) (hx : Loc X.env.scope x) (r : RelV v u)
    (h : ∀ s', Inv X pins (σ.set i (some v)) H s' → Q () s') (hf : X.fn x = true ∨ X.env.scope.names.lookup x = some .local := by first | exact .inl rfl | exact .inr rfl | assumption) : wpAny M A (storeName X.env x u) Q E s :=
  store_ok2 I hN hi hx r (fun s' I' _ => h s' I') hf
/-- behind a call or a block, the state as it is -/
theorem Inv.call' {s' : Shared} {ch : List Addr} (I : Inv X pins σ H s) (ho : s'.os = s.os) (u : Un (frs X.stack) ch H H' s.heap s'.heap) (hok : HOk X.prog X.w H' s'.heap) (hg : AllBare s'.gens)
    (hch : ∀ b ∈ ch, (b ∈ X.ex ∨ X.s₀.heap.objs.size ≤ b) ∧ b ≠ X.env.locals ∧ (∀ x c, X.env.cells.lookup x = some c → c ≠ b) ∧ ∀ p ∈ X.pn ++ pins, p.1 ≠ b) : Inv X pins σ H' s' := by
  obtain ⟨h', g', d', t', o'⟩ := s'
  have e : o' = s.os := ho
  subst e
  exact I.call (g' := g') (t' := t') (d' := d') u hok hg hch
end

/-! ### the judgements -/
/-- an exception: its class, its own dict's address (where it has one), the abstract heap behind it -/
abbrev XK := Value → Option Addr → Hp → Prop
abbrev St := List (Option V)
abbrev VK := V → Hp → Prop
/-- an expression's reading; a test's; an argument list's -/
abbrev TE := St → Hp → VK → Prop
abbrev TT := St → Hp → (Bool → Hp → Prop) → Prop
abbrev TA := St → Hp → (List V → Hp → Prop) → Prop
/-- what is wanted behind a statement -/
structure Ends where
  nx : St → Hp → Prop
  rt : VK
  bk : St → Hp → Prop := fun _ _ => False
  ct : St → Hp → Prop := fun _ _ => False
abbrev TS := Ends → St → Hp → Prop

def EP (X : Cx) (pins : List (Addr × Obj)) (σ : St) (Q : VK) (u : Value) (s' : Shared) : Prop := ∃ v H', Inv X pins σ H' s' ∧ RelV v u ∧ Q v H'
def TP (X : Cx) (pins : List (Addr × Obj)) (σ : St) (Q : Bool → Hp → Prop) (b : Bool) (s' : Shared) : Prop := ∃ H', Inv X pins σ H' s' ∧ Q b H'
def AP (X : Cx) (pins : List (Addr × Obj)) (σ : St) (Q : List V → Hp → Prop) (us : List Value) (s' : Shared) : Prop := ∃ vs H', Inv X pins σ H' s' ∧ Vals vs us ∧ Q vs H'
def SP (X : Cx) (pins : List (Addr × Obj)) (D : Ends) (f : Flow) (s' : Shared) : Prop :=
  match f with
  | .next => ∃ σ' H', Inv X pins σ' H' s' ∧ D.nx σ' H'
  | .brk => ∃ σ' H', Inv X pins σ' H' s' ∧ D.bk σ' H'
  | .cont => ∃ σ' H', Inv X pins σ' H' s' ∧ D.ct σ' H'
  | .ret u => ∃ v σ' H', Inv X pins σ' H' s' ∧ RelV v u ∧ D.rt v H'

def PE (X : Cx) (e : Expr) (t : TE) : Prop :=
  ∀ (pins : List (Addr × Obj)) (s : Shared) (σ : St) (H : Hp) (Q : VK), Inv X pins σ H s → t σ H Q → wpAny (model X.prog X.w) X.A (eval e X.env) (EP X pins σ Q) X.xe s
def PT (X : Cx) (e : Expr) (t : TT) : Prop :=
  ∀ (pins : List (Addr × Obj)) (s : Shared) (σ : St) (H : Hp) (Q : Bool → Hp → Prop), Inv X pins σ H s → t σ H Q → wpAny (model X.prog X.w) X.A (isTrue e X.env (eval e X.env)) (TP X pins σ Q) X.xe s
/-- a test whatever its 'whole' is (and, or) -/
def PW (X : Cx) (e : Expr) (t : TT) : Prop :=
  ∀ (whole : Sem Value) (pins : List (Addr × Obj)) (s : Shared) (σ : St) (H : Hp) (Q : Bool → Hp → Prop), Inv X pins σ H s → t σ H Q → wpAny (model X.prog X.w) X.A (isTrue e X.env whole) (TP X pins σ Q) X.xe s
theorem PW.pt {X : Cx} {e : Expr} {t : TT} (h : PW X e t) : PT X e t := h _
/-- an argument list (no star), from the left -/
def PA (X : Cx) (es : List Expr) (t : TA) : Prop :=
  ∀ (pos : Pos) (pins : List (Addr × Obj)) (s : Shared) (σ : St) (H : Hp) (Q : List V → Hp → Prop), Inv X pins σ H s → t σ H Q → wpAny (model X.prog X.w) X.A (spliced (backTo pos (starEach es X.env))) (AP X pins σ Q) X.xe s
def PS (X : Cx) (st : Stmt) (t : TS) : Prop :=
  ∀ (pins : List (Addr × Obj)) (s : Shared) (σ : St) (H : Hp) (D : Ends), Inv X pins σ H s → t D σ H → wpAny (model X.prog X.w) X.A (exec st X.env) (SP X pins D) X.xe s
def PSs (X : Cx) (st : List Stmt) (t : TS) : Prop :=
  ∀ (pins : List (Addr × Obj)) (s : Shared) (σ : St) (H : Hp) (D : Ends), Inv X pins σ H s → t D σ H → wpAny (model X.prog X.w) X.A (execs st X.env) (SP X pins D) X.xe s
/-- weaken the end -/
theorem thn {α : Type} {t : Sem α} {Q Q' : α → Shared → Prop} {M : Model} {A : Around} {E : Value → Shared → Prop} {s : Shared} (h : wpAny M A t Q E s) (hQ : ∀ a s, Q a s → Q' a s) : wpAny M A t Q' E s := wpAny_mono h hQ fun _ _ x => x
end L2

namespace L2
open PySem PySem.Spec PyProof.Rows
section
variable {X : Cx}

/-! ### names and constants -/
def tVar (i : Nat) : TE := fun σ H Q => ∃ v, σ[i]? = some (some v) ∧ Q v H
def tC (v : V) : TE := fun _ H Q => Q v H
theorem pe_var {i : Nat} {x : Str} {pos : Pos} (hN : X.N[i]? = some x) (hv : Vis X.env.scope x) (hd : (x == ("__debug__" : Str)) = false := by decide) (hcd : (x == ("__classdict__" : Str)) = false := by decide) : PE X (.Name x pos) (tVar i) := by
  intro pins s σ H Q I h
  obtain ⟨v, e, h⟩ := h
  obtain ⟨m, hn, hl⟩ := I.loc
  obtain ⟨u, r, l⟩ := hl i x v hN e hv
  have fin : EP X pins σ Q u s := ⟨v, H, I, r, h⟩
  rcases l with ⟨hk, hm⟩ | ⟨hk, c, hc, hcell⟩
  · exact wpAny_Name (wpAny_loadName_local I.ok.kind hk hn hm fin) hd
  · rcases hk with hk | hk
    · exact wpAny_Name (wpAny_loadName_cell I.ok.kind hk hc hcell fin) hd
    · exact wpAny_Name (wpAny_loadName_free I.ok.kind hk hc hcell fin hcd) hd
theorem pe_int {i j pos} : PE X (.Constant (.int i) j pos) (tC (.int i)) := fun _ _ _ H _ I h => wpAny_Constant_int ⟨.int i, H, I.tok _, ⟨_, rfl⟩, h⟩
theorem pe_bl {b j pos} : PE X (.Constant (.bool b) j pos) (tC (.bl b)) := fun _ _ _ H _ I h => Constant_bool ⟨.bl b, H, I, rfl, h⟩
theorem pe_non {j pos} : PE X (.Constant .none j pos) (tC .non) := fun _ _ _ H _ I h => Constant_none ⟨.non, H, I, rfl, h⟩
theorem pe_str {x j pos} : PE X (.Constant (.str x) j pos) (tC (.str x)) := fun _ _ _ H _ I h => Calls.Constant_str ⟨.str x, H, I.tok _, ⟨_, rfl⟩, h⟩

/-- a global name of the def -/
def Gl (X : Cx) (x : Str) : Prop := X.env.kindOf x = some .globalImplicit
theorem ld_glob {E : Value → Shared → Prop} {pins : List (Addr × Obj)} {s : Shared} {σ : St} {H : Hp} {x : Str} {u : Value} {pos : Pos} {Q : Value → Shared → Prop} (I : Inv X pins σ H s) (hg : Gl X x) (hm : X.mg x = some u) (h : Q u s)
    (hd : (x == ("__debug__" : Str)) = false := by decide) : wpAny (model X.prog X.w) X.A (eval (.Name x pos) X.env) Q E s :=
  Calls.Name_function_global I.ok.kind hg (Calls.loadGlobal_global (by rw [I.ok.glob]; exact I.mod.glob.keeps I.bk) hm h) hd
theorem ld_blt {E : Value → Shared → Prop} {pins : List (Addr × Obj)} {s : Shared} {σ : St} {H : Hp} {x : Str} {u : Value} {pos : Pos} {Q : Value → Shared → Prop} (I : Inv X pins σ H s) (hg : Gl X x) (hm : X.mg x = none) (hv : bootBuiltins x = some u) (h : Q u s)
    (hn : x ≠ "__name__" := by decide) (hd : (x == ("__debug__" : Str)) = false := by decide) : wpAny (model X.prog X.w) X.A (eval (.Name x pos) X.env) Q E s := by
  obtain ⟨mb, h1, h2⟩ := I.mod.blt
  exact Calls.Name_function_global I.ok.kind hg (Calls.loadGlobal_builtin (by rw [I.ok.glob]; exact I.mod.glob.keeps I.bk) hm (by rw [I.ok.blt]; exact h1.keeps I.bk) ((h2 x hn).trans hv) h) hd
/-- a module's constant, a class, a function, as a value -/
theorem pe_glob {x : Str} {v : V} {u : Value} {pos : Pos} (hg : Gl X x) (hm : X.mg x = some u) (r : RelV v u) (hd : (x == ("__debug__" : Str)) = false := by decide) : PE X (.Name x pos) (tC v) :=
  fun _ _ _ H _ I h => ld_glob I hg hm ⟨v, H, I, r, h⟩ hd
theorem pe_bltn {x : Str} {v : V} {u : Value} {pos : Pos} (hg : Gl X x) (hm : X.mg x = none) (hv : bootBuiltins x = some u) (r : RelV v u) (hn : x ≠ "__name__" := by decide) (hd : (x == ("__debug__" : Str)) = false := by decide) : PE X (.Name x pos) (tC v) :=
  fun _ _ _ H _ I h => ld_blt I hg hm hv ⟨v, H, I, r, h⟩ hn hd

/-! ### arithmetic -/
variable {a b : Expr} {ta tb : TE} {pos : Pos}
/-! ### comparisons -/
def PC (X : Cx) (op : CmpOp) (a b : Expr) (t : TE) : Prop :=
  ∀ (pins : List (Addr × Obj)) (s : Shared) (σ : St) (H : Hp) (Q : VK), Inv X pins σ H s → t σ H Q →
    wpAny (model X.prog X.w) X.A (eval a X.env) (fun v s₁ => wpAny (model X.prog X.w) X.A (eval b X.env) (fun u s₂ => wpAny (model X.prog X.w) X.A (compareOp op v u) (EP X pins σ Q) X.xe s₂) X.xe s₁) X.xe s
theorem nobehind (b : Expr) {op : CmpOp} (h : op ≠ .In) (h2 : op ≠ .NotIn) : behindInMarks op b = false := by
  have e1 : (op == CmpOp.In) = false := by cases op <;> first | rfl | exact absurd rfl h
  have e2 : (op == CmpOp.NotIn) = false := by cases op <;> first | rfl | exact absurd rfl h2
  cases b <;> simp [behindInMarks, e1, e2]
def tNotN (ta : TE) : TE := fun σ H Q => ta σ H fun x H1 => Q (.bl (!decide (x = .non))) H1
theorem RelV.none_iff {x : V} {v : Value} (r : RelV x v) : (v == Value.none) = decide (x = .non) := by
  cases x with
  | non => cases r; rfl
  | bl _ => cases r; rfl
  | int _ => obtain ⟨t, rfl⟩ := r; rfl
  | str _ => obtain ⟨t, rfl⟩ := r; rfl
  | byt _ => obtain ⟨t, rfl⟩ := r; rfl
  | flt _ => obtain ⟨t, rfl⟩ := r; rfl
  | ref _ => cases r; rfl
  | ty _ => cases r; rfl
theorem pc_notN {j pos'} (ha : PE X a ta) : PC X .IsNot a (.Constant .none j pos') (tNotN ta) := by
  intro pins s σ H Q I h
  refine thn (ha pins s σ H _ I h) fun v s1 ⟨x, H1, I1, r1, q1⟩ => ?_
  exact Constant_none (isnot_none_gen ⟨.bl _, H1, I1, by rw [r1.none_iff]; rfl, q1⟩)
/-- a comparison as a value, as a test -/
def tB (t : TE) : TT := fun σ H Q => t σ H fun x H1 => ∃ c, x = .bl c ∧ Q c H1
theorem pt_cmp {op : CmpOp} {t : TE} (h : PC X op a b t) (h1 : behindInMarks op b = false := by first | exact nobehind _ (by decide) (by decide) | rfl) : PT X (.Compare a [op] [b] pos) (tB t) := by
  intro pins s σ H Q I hw
  refine wpAny_isTrue_Compare1 (thn (h pins s σ H _ I hw) fun v s1 h1 => thn h1 fun u s2 h2 => thn h2 fun c s3 ⟨x, H1, I1, r1, q1⟩ => ?_) h1
  obtain ⟨d, rfl, q⟩ := q1
  cases r1
  exact wpAny_truthy_bool ⟨H1, I1, q⟩
/-- an expression whose value is a bool, as a test -/
theorem pt_val {e : Expr} {t : TE} (h : PE X e t) (he : ∀ whole, isTrue e X.env whole = (do let v ← whole; standAt e.pos; holding [v] (truthy v)) := by intro _; rfl) : PT X e (tB t) := by
  intro pins s σ H Q I hw
  refine isTrue_plain (thn (h pins s σ H _ I hw) fun v s1 ⟨x, H1, I1, r1, q1⟩ => ?_) (he _)
  obtain ⟨d, rfl, q⟩ := q1
  cases r1
  exact wpAny_truthy_bool ⟨H1, I1, q⟩

/-! ### and, or, not -/
variable {tA tB' : TT} {rest : List Expr}
def tAnd (t u : TT) : TT := fun σ H Q => t σ H fun c H1 => if c = true then u σ H1 Q else Q false H1
def tOr (t u : TT) : TT := fun σ H Q => t σ H fun c H1 => if c = true then Q true H1 else u σ H1 Q
def tNot (t : TT) : TT := fun σ H Q => t σ H fun c H1 => Q (!c) H1
theorem pw_and1 (ha : PT X a tA) : PW X (.BoolOp .And [a] pos) tA := by
  intro wh pins s σ H Q I h
  refine isTrue_and (thn (ha pins s σ H Q I h) fun c s1 e => ?_)
  cases c with
  | true => exact isTrue_and_nil e
  | false => exact e
theorem pw_or1 (ha : PT X a tA) : PW X (.BoolOp .Or [a] pos) tA := by
  intro wh pins s σ H Q I h
  refine isTrue_or (thn (ha pins s σ H Q I h) fun c s1 e => ?_)
  cases c with
  | false => exact isTrue_or_nil e
  | true => exact e
theorem pw_and (ha : PT X a tA) (hb : PW X (.BoolOp .And (b :: rest) pos) tB') : PW X (.BoolOp .And (a :: b :: rest) pos) (tAnd tA tB') := by
  intro wh pins s σ H Q I h
  refine isTrue_and (thn (ha pins s σ H _ I h) fun c s1 ⟨H1, I1, q1⟩ => ?_)
  cases c with
  | true => exact hb wh pins s1 σ H1 Q I1 q1
  | false => exact ⟨H1, I1, q1⟩
theorem pw_or (ha : PT X a tA) (hb : PW X (.BoolOp .Or (b :: rest) pos) tB') : PW X (.BoolOp .Or (a :: b :: rest) pos) (tOr tA tB') := by
  intro wh pins s σ H Q I h
  refine isTrue_or (thn (ha pins s σ H _ I h) fun c s1 ⟨H1, I1, q1⟩ => ?_)
  cases c with
  | true => exact ⟨H1, I1, q1⟩
  | false => exact hb wh pins s1 σ H1 Q I1 q1
theorem pt_not (ha : PT X a tA) : PT X (.UnaryOp .Not a pos) (tNot tA) := by
  intro pins s σ H Q I h
  exact isTrue_not (ha pins s σ H (fun c H1 => Q (!c) H1) I h)
/-- .. as values (bools) -/
def tAndV (ta tb : TE) : TE := fun σ H Q => ta σ H fun x H1 => ∃ c, x = .bl c ∧ if c = true then tb σ H1 Q else Q (.bl false) H1
def tOrV (ta tb : TE) : TE := fun σ H Q => ta σ H fun x H1 => ∃ c, x = .bl c ∧ if c = true then Q (.bl true) H1 else tb σ H1 Q
def tNotV (ta : TE) : TE := fun σ H Q => ta σ H fun x H1 => ∃ c, x = .bl c ∧ Q (.bl (!c)) H1
theorem pe_one {op} {t : TE} (h : PE X a t) : PE X (.BoolOp op [a] pos) t := fun pins s σ H Q I hw => BoolOp_one (h pins s σ H Q I hw)
theorem pe_and (ha : PE X a ta) (hb : PE X (.BoolOp .And (b :: rest) pos) tb) : PE X (.BoolOp .And (a :: b :: rest) pos) (tAndV ta tb) := by
  intro pins s σ H Q I h
  refine BoolOp_and (thn (ha pins s σ H _ I h) fun v s1 ⟨x, H1, I1, r1, q1⟩ => ?_)
  obtain ⟨c, rfl, q1⟩ := q1
  cases r1
  refine wpAny_truthy_bool ?_
  cases c with
  | true => exact hb pins s1 σ H1 Q I1 q1
  | false => exact ⟨.bl false, H1, I1, rfl, q1⟩
theorem pe_or (ha : PE X a ta) (hb : PE X (.BoolOp .Or (b :: rest) pos) tb) : PE X (.BoolOp .Or (a :: b :: rest) pos) (tOrV ta tb) := by
  intro pins s σ H Q I h
  refine BoolOp_or (thn (ha pins s σ H _ I h) fun v s1 ⟨x, H1, I1, r1, q1⟩ => ?_)
  obtain ⟨c, rfl, q1⟩ := q1
  cases r1
  refine wpAny_truthy_bool ?_
  cases c with
  | false => exact hb pins s1 σ H1 Q I1 q1
  | true => exact ⟨.bl true, H1, I1, rfl, q1⟩
theorem pe_not (ha : PE X a ta) : PE X (.UnaryOp .Not a pos) (tNotV ta) := by
  intro pins s σ H Q I h
  refine UnaryOp_ (thn (ha pins s σ H _ I h) fun v s1 ⟨x, H1, I1, r1, q1⟩ => ?_)
  obtain ⟨c, rfl, q1⟩ := q1
  cases r1
  exact not_of (wpAny_truthy_bool ⟨.bl (!c), H1, I1, rfl, q1⟩)
/-- a if t else b -/
def tIf (t : TT) (ta tb : TE) : TE := fun σ H Q => t σ H fun c H1 => if c = true then ta σ H1 Q else tb σ H1 Q
theorem pe_ifExp {c : Expr} (hc : PT X c tA) (ha : PE X a ta) (hb : PE X b tb) : PE X (.IfExp c a b pos) (tIf tA ta tb) := by
  intro pins s σ H Q I h
  refine wpAny_IfExp (thn (hc pins s σ H _ I h) fun d s1 ⟨H1, I1, q1⟩ => ?_)
  cases d with
  | true => exact ha pins s1 σ H1 Q I1 q1
  | false => exact hb pins s1 σ H1 Q I1 q1
end
end L2

namespace L2
open PySem PySem.Spec PyProof.Rows

/-! ### a list, a tuple that is read: tracked, frozen, or an object of the module -/
def SqL (K : PySem.W.Frag) (H : Hp) (a : Addr) (xs : List V) : Prop :=
  Rd H a (.lst xs) ∨
    ∃ (o : Obj) (its : Array Value) (n : Nat), K.lookup a = some o ∧ o.cls = .type "list" ∧ o.dict = none ∧ o.data = .seq its n ∧ its.size ≤ sizeLine ∧ Vals xs its.toList
def SqT (K : PySem.W.Frag) (H : Hp) (a : Addr) (xs : List V) : Prop :=
  Rd H a (.tup xs) ∨
    ∃ (o : Obj) (its : Array Value) (n : Nat), K.lookup a = some o ∧ o.cls = .type "tuple" ∧ o.data = .seq its n ∧ its.size ≤ sizeLine ∧ Vals xs its.toList
def absV : Value → Option V
  | .none => some .non
  | .bool b => some (.bl b)
  | .int i _ => some (.int i)
  | .str x _ => some (.str x)
  | .bytes b _ => some (.byt b)
  | .float b _ => some (.flt b)
  | .ref a => some (.ref a)
  | .type n => some (.ty n)
  | _ => none
theorem RelV.abs {x : V} {u : Value} (r : RelV x u) : absV u = some x := by
  cases x with
  | non => cases r; rfl
  | bl _ => cases r; rfl
  | int _ => obtain ⟨t, rfl⟩ := r; rfl
  | str _ => obtain ⟨t, rfl⟩ := r; rfl
  | byt _ => obtain ⟨t, rfl⟩ := r; rfl
  | flt _ => obtain ⟨t, rfl⟩ := r; rfl
  | ref _ => cases r; rfl
  | ty _ => cases r; rfl
theorem RelV.inj {x y : V} {u : Value} (r : RelV x u) (q : RelV y u) : x = y := Option.some.inj (r.abs.symm.trans q.abs)
theorem Vals.inj : ∀ {xs ys : List V} {us : List Value}, Vals xs us → Vals ys us → xs = ys
  | _, _, _, .nil, .nil => rfl
  | _, _, _, .cons r t, .cons r' t' => by rw [r.inj r', Vals.inj t t']
section
variable {X : Cx} {pins : List (Addr × Obj)} {σ : St} {H : Hp} {s : Shared} {a : Addr} {xs ys : List V}
theorem SqL.of {K : PySem.W.Frag} (h : H a = some (.lst xs)) : SqL K H a xs := .inl (.inl h)
theorem SqT.of {K : PySem.W.Frag} (h : H a = some (.tup xs)) : SqT K H a xs := .inl (.inl h)
theorem Inv.list (I : Inv X pins σ H s) (h : SqL X.K H a xs) : ∃ its : List Value, Vals xs its ∧ PlainL s.heap a its.toArray ∧ xs.length ≤ sizeLine := by
  rcases h with h | ⟨o, its, n, hk, hc, hd, hs, hz, r⟩
  · obtain ⟨z, its, n, r, e⟩ := h.ok I.hok
    exact ⟨its, r, ⟨_, n, e, rfl, rfl, rfl⟩, z⟩
  · refine ⟨its.toList, r, ⟨o, n, I.kIn a o hk, hc, hd, by simpa using hs⟩, ?_⟩
    have e := r.length
    simp only [Array.length_toList] at e
    omega
theorem Inv.tuple (I : Inv X pins σ H s) (h : SqT X.K H a xs) : ∃ its : List Value, Vals xs its ∧ IsTup s.heap a its.toArray ∧ xs.length ≤ sizeLine := by
  rcases h with h | ⟨o, its, n, hk, hc, hs, hz, r⟩
  · obtain ⟨z, its, r, p⟩ := h.ok I.hok
    exact ⟨its, r, p, z⟩
  · refine ⟨its.toList, r, ⟨o, I.kIn a o hk, hc, n, by simpa using hs⟩, ?_⟩
    have e := r.length
    simp only [Array.length_toList] at e
    omega
theorem Inv.list_inj (I : Inv X pins σ H s) (h : SqL X.K H a xs) (h' : SqL X.K H a ys) : xs = ys := by
  obtain ⟨its, r, ⟨o, n, e, _, _, d⟩, _⟩ := I.list h
  obtain ⟨its', r', ⟨o', n', e', _, _, d'⟩, _⟩ := I.list h'
  rw [e] at e'; cases e'
  rw [d] at d'
  injection d' with d1 _
  have : its = its' := by simpa using congrArg Array.toList d1
  subst this
  exact r.inj r'
end

/-! ### another wish about exceptions -/
abbrev Cx.wish (X : Cx) (E : Value → Shared → Prop) : Cx := { X with xe := E }
/-- no exception leaves -/
abbrev Cx.nox (X : Cx) : Cx := X.wish fun _ _ => False
theorem Cx.Ok.wish {X : Cx} (ok : X.Ok) (E : Value → Shared → Prop) : (X.wish E).Ok :=
  ⟨ok.mod, ok.kind, ok.glob, ok.blt, ok.above, ok.inj, ok.has, ok.cab, ok.hd, ok.frames, ok.stk, ok.exf, ok.bs, ok.bsz, ok.noex, ok.exfs, ok.funs, ok.frf⟩
theorem Cx.Ok.unwish {X : Cx} {E : Value → Shared → Prop} (ok : (X.wish E).Ok) : X.Ok :=
  ⟨ok.mod, ok.kind, ok.glob, ok.blt, ok.above, ok.inj, ok.has, ok.cab, ok.hd, ok.frames, ok.stk, ok.exf, ok.bs, ok.bsz, ok.noex, ok.exfs, ok.funs, ok.frf⟩
section
variable {X : Cx} {pins : List (Addr × Obj)} {σ : St} {H : Hp} {s : Shared} {E : Value → Shared → Prop}
theorem Inv.wish (I : Inv X pins σ H s) (E : Value → Shared → Prop) : Inv (X.wish E) pins σ H s := ⟨I.ok.wish E, I.os, I.bare, I.base, I.loc, I.cell, I.free, I.freeC, I.pin, I.hok, I.len⟩
theorem Inv.unwish (I : Inv (X.wish E) pins σ H s) : Inv X pins σ H s := ⟨I.ok.unwish, I.os, I.bare, I.base, I.loc, I.cell, I.free, I.freeC, I.pin, I.hok, I.len⟩
theorem SP.unwish {D : Ends} {f : Flow} {s' : Shared} (h : SP (X.wish E) pins D f s') : SP X pins D f s' := by
  cases f with
  | next => obtain ⟨σ', H', I, q⟩ := h; exact ⟨σ', H', I.unwish, q⟩
  | brk => obtain ⟨σ', H', I, q⟩ := h; exact ⟨σ', H', I.unwish, q⟩
  | cont => obtain ⟨σ', H', I, q⟩ := h; exact ⟨σ', H', I.unwish, q⟩
  | ret u => obtain ⟨v, σ', H', I, r, q⟩ := h; exact ⟨v, σ', H', I.unwish, r, q⟩
theorem PSs.nox {st : List Stmt} {t : TS} (h : PSs X.nox st t) : PSs X st t := fun pins s σ H D I hw =>
  wpAny_mono (h pins s σ H D (I.wish _) hw) (fun _ _ q => q.unwish) fun _ _ z => False.elim z
end

/-! ### blocks and small statements -/
section
variable {X : Cx} {st : Stmt} {rest : List Stmt} {t u : TS} {e : Expr} {te : TE} {pos : Pos}
def tNext : TS := fun D σ H => D.nx σ H
def tSeq (t u : TS) : TS := fun D σ H => t { D with nx := u D } σ H
theorem pss_nil : PSs X [] tNext := fun _ _ σ H _ I h => wpAny_execs_nil ⟨σ, H, I, h⟩
theorem pss_cons (h1 : PS X st t) (h2 : PSs X rest u) : PSs X (st :: rest) (tSeq t u) := by
  intro pins s σ H D I h
  refine wpAny_execs_cons (thn (h1 pins s σ H { D with nx := u D } I h) fun f s1 q => ?_)
  cases f with
  | next =>
    obtain ⟨σ', H', I', q⟩ := q
    exact h2 pins s1 σ' H' D I' q
  | ret v => exact q
  | brk => exact q
  | cont => exact q
theorem pss_one (h1 : PS X st t) : PSs X [st] t := by
  intro pins s σ H D I h
  refine wpAny_execs_cons (thn (h1 pins s σ H D I h) fun f s1 q => ?_)
  cases f with
  | next => exact wpAny_execs_nil q
  | ret v => exact q
  | brk => exact q
  | cont => exact q
/-- in a def's body nothing is shown -/
theorem Inv.quiet {pins : List (Addr × Obj)} {σ : St} {H : Hp} {s : Shared} (I : Inv X pins σ H s) : interactive X.env = false := by simp [interactive, I.ok.kind]
/-- an expression whose value is dropped -/
def tDrop (te : TE) : TS := fun D σ H => te σ H fun _ H1 => D.nx σ H1
theorem ps_expr (he : PE X e te) (hs : swapsWith e none pos.line X.env = pure false := by rfl) : PS X (.Expr e pos) (tDrop te) := by
  intro pins s σ H D I h
  exact wpAny_Expr_any (thn (he pins s σ H _ I h) fun v s1 ⟨x, H1, I1, r1, q1⟩ => ⟨σ, H1, I1, q1⟩) I.quiet hs
def tRet (te : TE) : TS := fun D σ H => te σ H D.rt
theorem ps_ret (he : PE X e te) : PS X (.Return (some e) pos) (tRet te) := by
  intro pins s σ H D I h
  exact wpAny_Return_some (thn (he pins s σ H _ I h) fun v s1 ⟨x, H1, I1, r1, q1⟩ => ⟨x, σ, H1, I1, r1, q1⟩)
def tIfS (c : TT) (t u : TS) : TS := fun D σ H => c σ H fun b H1 => if b = true then t D σ H1 else u D σ H1
theorem ps_if {c : Expr} {a b : List Stmt} {tc : TT} (hc : PT X c tc) (ha : PSs X a t) (hb : PSs X b u) : PS X (.If c a b pos) (tIfS tc t u) := by
  intro pins s σ H D I h
  refine wpAny_If (thn (hc pins s σ H _ I h) fun d s1 ⟨H1, I1, q1⟩ => ?_)
  cases d with
  | true => exact ha pins s1 σ H1 D I1 q1
  | false => exact hb pins s1 σ H1 D I1 q1
end

/-! ### targets -/
abbrev TG := V → St → Hp → (St → Hp → Prop) → Prop
abbrev TGs := List V → St → Hp → (St → Hp → Prop) → Prop
def PG (X : Cx) (target : Expr) (t : TG) : Prop :=
  ∀ (pins : List (Addr × Obj)) (s : Shared) (σ : St) (H : Hp) (v : V) (u : Value) (Q : St → Hp → Prop), Inv X pins σ H s → RelV v u → t v σ H Q →
    wpAny (model X.prog X.w) X.A (assign target X.env u) (fun _ s' => ∃ σ' H', Inv X pins σ' H' s' ∧ Q σ' H') X.xe s
/-- several targets, one after another -/
def PGs (X : Cx) (ts : List Expr) (t : TGs) : Prop :=
  ∀ (pins : List (Addr × Obj)) (s : Shared) (σ : St) (H : Hp) (vs : List V) (us : List Value) (Q : St → Hp → Prop), Inv X pins σ H s → Vals vs us → t vs σ H Q →
    wpAny (model X.prog X.w) X.A (assignInOrder ((assignEach ts X.env).map (·.2)) us) (fun _ s' => ∃ σ' H', Inv X pins σ' H' s' ∧ Q σ' H') X.xe s
/-- o[i] = v, by values -/
abbrev TSet := V → V → V → Hp → (Hp → Prop) → Prop
def PSet (X : Cx) (t : TSet) : Prop :=
  ∀ (pins : List (Addr × Obj)) (s : Shared) (σ : St) (H : Hp) (o i v : V) (ov iv u : Value) (Q : Hp → Prop), Inv X pins σ H s → RelV o ov → RelV i iv → RelV v u → t o i v H Q →
    wpAny (model X.prog X.w) X.A (setItem ov iv u) (fun _ s' => ∃ H', Inv X pins σ H' s' ∧ Q H') X.xe s
section
variable {X : Cx} {pos : Pos}
def gName (i : Nat) : TG := fun v σ H Q => Q (σ.set i (some v)) H
theorem pg_name {i : Nat} {x : Str} (hN : X.N.Nodup) (hi : X.N[i]? = some x) (hx : Loc X.env.scope x) (hf : X.fn x = true ∨ X.env.scope.names.lookup x = some .local := by first | exact .inl rfl | exact .inr rfl | assumption) : PG X (.Name x pos) (gName i) := by
  intro pins s σ H v u Q I r h
  exact wpAny_assign_Name (store_ok I hN hi hx r (fun s' I' => ⟨_, H, I', h⟩) hf)
def gNil : TGs := fun vs σ H Q => vs = [] ∧ Q σ H
def gCons (t : TG) (u : TGs) : TGs := fun vs σ H Q => ∃ v r, vs = v :: r ∧ t v σ H fun σ' H' => u r σ' H' Q
theorem pgs_nil : PGs X [] gNil := by
  intro pins s σ H vs us Q I r h
  obtain ⟨e, h⟩ := h
  subst e
  cases r
  exact assignInOrder_nil ⟨σ, H, I, h⟩
theorem pgs_cons {e : Expr} {es : List Expr} {t : TG} {u : TGs} (h1 : PG X e t) (h2 : PGs X es u)
    (hs : (assignEach (e :: es) X.env).map (·.2) = assign e X.env :: (assignEach es X.env).map (·.2) := by rfl) : PGs X (e :: es) (gCons t u) := by
  intro pins s σ H vs us Q I r h
  obtain ⟨v, vr, e1, h⟩ := h
  subst e1
  cases r with
  | cons r rr =>
    rw [hs]
    refine assignInOrder_cons (thn (h1 pins s σ H _ _ _ I r h) fun _ s1 ⟨σ1, H1, I1, q1⟩ => ?_)
    exact h2 pins s1 σ1 H1 _ _ Q I1 rr q1
/-- (a, b, ..) = a tuple of that length -/
def gTup (K : PySem.W.Frag) (n : Nat) (t : TGs) : TG := fun v σ H Q => ∃ a xs, v = .ref a ∧ SqT K H a xs ∧ xs.length = n ∧ t xs σ H Q
theorem pg_tup {es : List Expr} {k : Nat} {t : TGs} {n : Nat} (hc : X.calm = true) (h : PGs X es t)
    (hn : (assignEach es X.env).length = n := by rfl) (hst : (assignEach es X.env).findIdx? (·.1) = none := by rfl) : PG X (.Tuple es k pos) (gTup X.K n t) := by
  intro pins s σ H v u Q I r hw
  obtain ⟨a, xs, e1, hq, hl, hw⟩ := hw
  subst e1
  cases r
  obtain ⟨its, rv, ht, hz⟩ := I.tuple hq
  refine assign_Tuple_tuple (I.ok.hd hc) ht (by simp [hn, ← hl, rv.length]) hst fun h' hx => ?_
  have I1 : Inv X pins σ H { s with heap := h' } := I.kept (t' := s.toks) fun b o e => hx b o (Nat.ne_of_lt (Heap.lt_size e)) e
  exact h pins _ σ H xs _ Q I1 (by simpa using rv) hw
/-- o[i] = .. -/
def gSub (to ti : TE) (t : TSet) : TG := fun v σ H Q => to σ H fun o H1 => ti σ H1 fun i H2 => t o i v H2 fun H3 => Q σ H3
theorem pg_sub {o i : Expr} {to ti : TE} {t : TSet} (ho : PE X o to) (hi : PE X i ti) (hs : PSet X t)
    (ha : ∀ v, assign (.Subscript o i pos) X.env v = (do
      let ov ← holding [v] (eval o X.env)
      let iv ← holding [v, ov] (eval i X.env)
      standAt pos
      holding [v, ov, iv] (setItem ov iv v)
      release [v, ov, iv] []) := by intro _; rfl) : PG X (.Subscript o i pos) (gSub to ti t) := by
  intro pins s σ H v u Q I r h
  rw [ha]
  refine wpAny_bind (wpAny_holding (thn (ho pins s σ H _ I h) fun ov s1 ⟨x, H1, I1, r1, q1⟩ => ?_))
  refine wpAny_bind (wpAny_holding (thn (hi pins s1 σ H1 _ I1 q1) fun iv s2 ⟨y, H2, I2, r2, q2⟩ => ?_))
  refine wpAny_bind (wpAny_standAt (wpAny_bind (wpAny_holding (thn (hs pins s2 σ H2 x y v ov iv u _ I2 r1 r2 r q2) fun _ s3 ⟨H3, I3, q3⟩ => ?_))))
  exact wpAny_release ⟨σ, H3, I3, q3⟩
/-- target = value -/
def tAsg (te : TE) (g : TG) : TS := fun D σ H => te σ H fun x H1 => g x σ H1 D.nx
theorem ps_asg {tg e : Expr} {te : TE} {g : TG} (he : PE X e te) (hg : PG X tg g) (hs : swapsWithSole [tg] e pos.line X.env = pure false := by rfl) (hw : swappedStores [tg] e X.env = pure none := by rfl)
    (h1 : (assignEach [tg] X.env).map (·.2) = [assign tg X.env] := by rfl) : PS X (.Assign [tg] e pos) (tAsg te g) := by
  intro pins s σ H D I h
  refine wpAny_Assign_stores (thn (he pins s σ H _ I h) fun v s1 ⟨x, H1, I1, r1, q1⟩ => ?_) hs hw
  rw [h1]
  exact thn (hg pins s1 σ H1 x v _ I1 r1 q1) fun _ s2 q => q
/-- name = value -/
theorem ps_set {i : Nat} {x : Str} {e : Expr} {te : TE} {pos' : Pos} (hN : X.N.Nodup) (hi : X.N[i]? = some x) (hx : Loc X.env.scope x) (he : PE X e te) (hs : swapsWith e (some (.Name x pos')) pos.line X.env = pure false := by rfl) (hf : X.fn x = true ∨ X.env.scope.names.lookup x = some .local := by first | exact .inl rfl | exact .inr rfl | assumption) :
    PS X (.Assign [.Name x pos'] e pos) (tAsg te (gName i)) := by
  intro pins s σ H D I h
  refine wpAny_Assign_Name (thn (he pins s σ H _ I h) fun v s1 ⟨y, H1, I1, r1, q1⟩ => ?_) hs
  exact store_ok I1 hN hi hx r1 (fun s2 I2 => ⟨_, H1, I2, q1⟩) hf
end

/-! ### while -/
section
variable {X : Cx} {pos : Pos}
/-- the invariant W with its measure -/
def tWhile (c : TT) (tb : TS) : TS := fun D σ H => ∃ W : Nat → St → Hp → Prop, (∃ m, W m σ H) ∧ ∀ m σ H, W m σ H →
  c σ H fun b H1 => if b = true then ∃ N : St → Hp → Prop, (∀ σ' H', N σ' H' → ∃ m', m' < m ∧ W m' σ' H') ∧ tb { D with nx := N, ct := N, bk := D.nx } σ H1 else D.nx σ H1
theorem ps_while {c : Expr} {body : List Stmt} {tc : TT} {tb : TS} (hp : PassesOwn (model X.prog X.w) X.A X.env X.xe) (hc : PT X c tc) (hb : PSs X body tb) : PS X (.While c body [] pos) (tWhile tc tb) := by
  intro pins s σ H D I h
  obtain ⟨W, ⟨m0, w0⟩, turn⟩ := h
  refine wpAny_While (codeAny_whileLoop (fun n s' => ∃ σ' H', Inv X pins σ' H' s' ∧ W n σ' H') ?_ m0 ⟨σ, H, I, w0⟩)
  rintro n s1 ⟨σ1, H1, I1, w1⟩
  refine wpAny_passesOwn hp (thn (hc pins s1 σ1 H1 _ I1 (turn n σ1 H1 w1)) fun b s2 ⟨H2, I2, q2⟩ => ?_)
  cases b with
  | true =>
    obtain ⟨N, hN, q2⟩ := q2
    rw [if_pos rfl]
    refine wpAny_passesOwn hp (thn (hb pins s2 σ1 H2 _ I2 q2) fun f s3 q3 => ?_)
    cases f with
    | next =>
      obtain ⟨σ3, H3, I3, n3⟩ := q3
      obtain ⟨m', hm, w3⟩ := hN σ3 H3 n3
      exact ⟨m', hm, σ3, H3, I3, w3⟩
    | cont =>
      obtain ⟨σ3, H3, I3, n3⟩ := q3
      obtain ⟨m', hm, w3⟩ := hN σ3 H3 n3
      exact ⟨m', hm, σ3, H3, I3, w3⟩
    | brk => exact q3
    | ret v => exact q3
  | false =>
    rw [if_neg Bool.false_ne_true]
    exact wpAny_execs_nil ⟨σ1, H2, I2, q2⟩
end

/-! ### what a loop or a comprehension walks -/
/-- at turn i: it yields x (the heap may grow), or it stops -/
structure It where
  go : Nat → Hp → Prop
  yld : Nat → Hp → V → Hp → Prop
  stop : Nat → Hp → Prop
/-- the iterator's own objects may turn: they are not the frame's, not pinned, younger than the entry (or a comprehension's own) -/
def FpOk (X : Cx) (pins : List (Addr × Obj)) (H : Hp) (b : Addr) : Prop :=
  H b = none ∧ b ≠ X.env.locals ∧ b ∉ X.fs ∧ (b ∈ X.ex ∨ X.s₀.heap.objs.size ≤ b) ∧ (∀ x c, X.env.cells.lookup x = some c → c ≠ b) ∧ ∀ p ∈ X.pn ++ pins, p.1 ≠ b
theorem Inv.fpOk {X : Cx} {pins : List (Addr × Obj)} {σ : St} {H H' : Hp} {s : Shared} {b : Addr} (I : Inv X pins σ H s) (hb : s.heap.objs.size ≤ b) (hn : H' b = none) : FpOk X pins H' b := by
  refine ⟨hn, Nat.ne_of_gt (Nat.lt_of_lt_of_le I.lt hb), I.nofs hb, .inr (Nat.le_trans I.sz hb), fun x c e z => ?_, fun p hp z => ?_⟩
  · obtain ⟨v, q⟩ := I.cell x c e
    exact absurd (Nat.lt_of_lt_of_le q.lt (by rw [z]; exact hb)) (Nat.lt_irrefl _)
  · exact absurd (Nat.lt_of_lt_of_le (Heap.lt_size (I.pin p hp).1) (by rw [z]; exact hb)) (Nat.lt_irrefl _)
structure Turn (P : Program) (w : World) (K : PySem.W.Frag) (tg : Expr) (J : It) (fp : List Addr) (it : Addr) (tn : Nat → Heap → Prop) : Prop where
  mem : it ∈ fp
  obj : ∀ i h, tn i h → ∀ b ∈ fp, ∃ o, h.get? b = some o ∧ ∀ v, o.data ≠ .cell v
  keep : ∀ i h h', tn i h → (∀ b ∈ fp, ∀ o, h.get? b = some o → h'.get? b = some o) → tn i h'
  item : ∀ (X : Cx), X.prog = P → X.w = w → X.K = K → X.calm = true → ∀ (i : Nat) (pins : List (Addr × Obj)) (s : Shared) (σ : St) (H : Hp) (E : Value → Shared → Prop), Inv X pins σ H s → (∀ b ∈ fp, FpOk X pins H b) → tn i s.heap → J.go i H →
    wpAny (model P w) X.A (pyNext (.ref it)) (fun r s1 => ∃ u, r = some u ∧
      wpAny (model P w) X.A (letOwnedTupleGo tg (.ref it) u) (fun _ s2 => ∃ x H', Inv X pins σ H' s2 ∧ RelV x u ∧ J.yld i H x H' ∧ tn (i + 1) s2.heap ∧ ∀ b ∈ fp, H' b = none) E s1) E s
  done : ∀ (X : Cx), X.prog = P → X.w = w → X.K = K → X.calm = true → ∀ (i : Nat) (pins : List (Addr × Obj)) (s : Shared) (σ : St) (H : Hp) (E : Value → Shared → Prop), Inv X pins σ H s → (∀ b ∈ fp, FpOk X pins H b) → tn i s.heap → J.stop i H →
    wpAny (model P w) X.A (pyNext (.ref it)) (fun r s1 => r = none ∧ Inv X pins σ H s1) E s
  self : ∀ (A : Around) (i : Nat) (s : Shared) (Q : Value → Shared → Prop) (E : Value → Shared → Prop), tn i s.heap → Q (.ref it) s → wpAny (model P w) A (pyIter (.ref it)) Q E s
abbrev TI := St → Hp → (It → Hp → Prop) → Prop
/-- an iterator has come -/
def PIE (X : Cx) (pins : List (Addr × Obj)) (σ : St) (tg : Expr) (R : It → Hp → Prop) (itv : Value) (s2 : Shared) : Prop :=
  ∃ (it : Addr) (fp : List Addr) (tn : Nat → Heap → Prop) (J : It) (H' : Hp), itv = .ref it ∧ Inv X pins σ H' s2 ∧ Turn X.prog X.w X.K tg J fp it tn ∧ tn 0 s2.heap ∧ (∀ b ∈ fp, FpOk X pins H' b) ∧ R J H'
def PI (X : Cx) (tg iter : Expr) (wi : TI) : Prop :=
  ∀ (pins : List (Addr × Obj)) (s : Shared) (σ : St) (H : Hp) (R : It → Hp → Prop), Inv X pins σ H s → wi σ H R →
    wpAny (model X.prog X.w) X.A (eval iter X.env) (fun v s1 => wpAny (model X.prog X.w) X.A (pyIter v) (PIE X pins σ tg R) X.xe s1) X.xe s

/-- the step ahead of the store is nothing for an iterator that keeps no tuple -/
theorem go_of {M : Model} {A : Around} {E : Value → Shared → Prop} {s : Shared} {tg : Expr} {it : Addr} {u : Value} {o : Obj} {n : String} {vs : Array Value} {Q : Unit → Shared → Prop} (ho : s.heap.get? it = some o) (hc : o.cls = .type n) (hd : o.data = .fields vs)
    (hn : ["enumerate", "zip", "dict_itemiterator", "dict_reverseitemiterator", "odict_iterator", "itertools.zip_longest", "itertools.pairwise"].contains n = false) (hQ : Q () s) : wpAny M A (letOwnedTupleGo tg (.ref it) u) Q E s := by
  unfold letOwnedTupleGo
  cases tg <;> first
    | exact wpAny_pure hQ
    | (cases u <;> first
        | exact wpAny_pure hQ
        | (refine wpAny_bind (wpAny_load ho ?_)
           rw [hc, hd]
           show wpAny M A (if (["enumerate", "zip", "dict_itemiterator", "dict_reverseitemiterator", "odict_iterator", "itertools.zip_longest", "itertools.pairwise"].contains n && vs[0]? == some (rawInt _)) = true then _ else _) Q E s
           rw [if_neg (by intro h; rw [hn, Bool.false_and] at h; cases h)]
           exact wpAny_pure hQ))

/-- the list at a, as it stands at each turn (a loop may append to it) -/
def Itl (K : PySem.W.Frag) (a : Addr) : It :=
  ⟨fun i H => ∃ xs x, SqL K H a xs ∧ xs[i]? = some x, fun i H x H' => H' = H ∧ ∀ xs, SqL K H a xs → xs[i]? = some x, fun i H => ∃ xs, SqL K H a xs ∧ xs.length ≤ i⟩
/-- lo, lo + 1, .. (n of them) -/
def Itr (lo : Int) (n : Nat) : It := ⟨fun i _ => i < n, fun i H x H' => H' = H ∧ x = .int (lo + i), fun i _ => n ≤ i⟩
theorem turn_list {P : Program} {w : World} {K : PySem.W.Frag} {tg : Expr} (a it : Addr) : Turn P w K tg (Itl K a) [it] it (fun i h => h.IsListIter it a i) where
  mem := by simp
  obj := fun i h st b hb => by
    have e : b = it := by simpa using hb
    subst e
    obtain ⟨o, e, c, d⟩ := st
    exact ⟨o, e, fun v z => by rw [d] at z; cases z⟩
  keep := fun i h h' st k => st.at fun o e => k it (by simp) o e
  item := by
    intro X hP hw hK hc i pins s σ H E I hf st hg
    subst hP hw hK
    obtain ⟨xs, x, hq, hx⟩ := hg
    obtain ⟨its, rv, p, hz⟩ := I.list hq
    obtain ⟨u, hu, ru⟩ := rv.get hx
    obtain ⟨f0, f1, f2, f3, f4, f5⟩ := hf it (by simp)
    refine wpAny_pyNext_list_item st p.isList (x := u) (by simpa using hu) fun h' st' sb => ?_
    have I1 : Inv X pins σ H { s with heap := h' } := I.turned (t' := s.toks) (fun b o hb e => (sb.2 b hb).trans e) f0 f1 f3 f4 f5
    obtain ⟨o, e, c, d⟩ := id st'
    exact ⟨u, rfl, go_of (s := { s with heap := h' }) e c d (by decide) ⟨x, H, I1, ru, ⟨rfl, fun ys hy => by rw [I.list_inj hy hq]; exact hx⟩, st', fun b hb => (hf b hb).1⟩⟩
  done := by
    intro X hP hw hK hc i pins s σ H E I hf st hg
    subst hP hw hK
    obtain ⟨xs, hq, hx⟩ := hg
    obtain ⟨its, rv, p, hz⟩ := I.list hq
    obtain ⟨f0, f1, f2, f3, f4, f5⟩ := hf it (by simp)
    have hl := rv.length
    exact wpAny_pyNext_list_end (I.ok.hd hc) st p.isList (by simp; omega) fun h' eb => ⟨rfl, I.turned (t' := s.toks) (fun b o hb e => eb b o hb e) f0 f1 f3 f4 f5⟩
  self := fun _ _ _ _ _ st h => wpAny_pyIter_listiter st h
theorem turn_range {P : Program} {w : World} {K : PySem.W.Frag} {tg : Expr} (it : Addr) (lo : Int) (n : Nat) : Turn P w K tg (Itr lo n) [it] it (fun i h => IsRangeIter h it (lo + (i : Nat) * 1) ((n : Int) - (i : Nat)) 1) where
  mem := by simp
  obj := fun i h st b hb => by
    have e : b = it := by simpa using hb
    subst e
    exact ⟨_, st, fun v z => by
      have z' : Data.fields _ = Data.cell v := z
      cases z'⟩
  keep := fun i h h' st k => k it (by simp) _ st
  item := by
    intro X hP hw hK hc i pins s σ H E I hf st hg
    subst hP hw hK
    obtain ⟨f0, f1, f2, f3, f4, f5⟩ := hf it (by simp)
    have W := Walks.range (prog := X.prog) (w := X.w) (I.ok.hd hc) it lo 1 n
    refine W.item i s _ _ hg st fun v h' tk hv st' kk => ?_
    obtain ⟨t, rfl⟩ := hv
    have I1 : Inv X pins σ H { s with heap := h', toks := tk } := I.turned (fun b o hb e => kk b o (by simpa using hb) e) f0 f1 f3 f4 f5
    refine ⟨_, rfl, go_of (s := { s with heap := h', toks := tk }) (n := "range_iterator") st' rfl rfl (by decide) ⟨.int (lo + i), H, I1, ⟨t, ?_⟩, ⟨rfl, rfl⟩, st', fun b hb => (hf b hb).1⟩⟩
    rw [Int.mul_one]
  done := by
    intro X hP hw hK hc i pins s σ H E I hf st hg
    subst hP hw hK
    obtain ⟨f0, f1, f2, f3, f4, f5⟩ := hf it (by simp)
    exact wpAny_pyNext_range_end (I.ok.hd hc) st (by have : n ≤ i := hg; omega) fun h' eb => ⟨rfl, I.turned (t' := s.toks) (fun b o hb e => eb b o hb e) f0 f1 f3 f4 f5⟩
  self := fun _ _ _ _ _ st h => wpAny_pyIter_rangeiter st h
end L2

namespace L2
open PySem PySem.Spec PyProof.Rows
section
variable {X : Cx} {tg : Expr}
def iList (K : PySem.W.Frag) (tl : TE) : TI := fun σ H R => tl σ H fun x H1 => ∃ a, x = .ref a ∧ (∃ xs, SqL K H1 a xs) ∧ R (Itl K a) H1
theorem pi_list {l : Expr} {tl : TE} (hl : PE X l tl) : PI X tg l (iList X.K tl) := by
  intro pins s σ H R I h
  refine thn (hl pins s σ H _ I h) fun v s1 ⟨x, H1, I1, r1, q1⟩ => ?_
  obtain ⟨a, e, ⟨xs, hq⟩, q⟩ := q1
  subst e
  cases r1
  obtain ⟨its, rv, p, hz⟩ := I1.list hq
  refine wpAny_pyIter_list p.isList ?_
  refine ⟨s1.heap.objs.size, [s1.heap.objs.size], _, _, H1, rfl, I1.kept (t' := s1.toks) fun b o e => Heap.get?_push_of_some _ e, turn_list a _, ⟨_, Heap.get?_push_size _ rfl, rfl, rfl⟩, fun b hb => ?_, q⟩
  have e : b = s1.heap.objs.size := by simpa using hb
  subst e
  exact I1.fpOk (Nat.le_refl _) (I1.hok.fresh (Nat.le_refl _))
/-- a range object just made, walked -/
theorem range_it {pins : List (Addr × Obj)} {σ : St} {H : Hp} {s : Shared} {R : It → Hp → Prop} {E : Value → Shared → Prop} {lo hi : Int} {t u v : Tok} {tk : Nat} (I : Inv X pins σ H s) (h1 : -(2 ^ 62) ≤ lo) (h2 : lo < 2 ^ 62) (h3 : -(2 ^ 62) ≤ hi) (h4 : hi < 2 ^ 62)
    (q : R (Itr lo (hi - lo).toNat) H) : wpAny (model X.prog X.w) X.A (pyIter (.ref s.heap.objs.size)) (PIE X pins σ tg R) E { s with heap := s.heap.push { cls := .type "range", data := .fields #[.int lo t, .int hi u, .int 1 v] }, toks := tk } := by
  refine wpAny_pyIter_range (IsRange.new ..) (small_one h1 h2 h3 h4) ?_
  have I1 : Inv X pins σ H { s with heap := s.heap.push { cls := .type "range", data := .fields #[.int lo t, .int hi u, .int 1 v] }, toks := tk } := I.kept fun b o e => Heap.get?_push_of_some _ e
  refine ⟨(s.heap.push { cls := .type "range", data := .fields #[.int lo t, .int hi u, .int 1 v] }).objs.size, [(s.heap.push { cls := .type "range", data := .fields #[.int lo t, .int hi u, .int 1 v] }).objs.size], _, _, H, rfl,
    I1.kept (t' := tk) fun b o e => Heap.get?_push_of_some _ e, turn_range _ lo (hi - lo).toNat, ?_, fun b hb => ?_, q⟩
  · have e1 : lo + ((0 : Nat) : Int) * 1 = lo := by simp
    have e2 : (((hi - lo).toNat : Nat) : Int) - ((0 : Nat) : Int) = Builtin.Range.rangeSize lo hi 1 := by rw [rangeSize_one]; split <;> omega
    show IsRangeIter _ _ (lo + ((0 : Nat) : Int) * 1) ((((hi - lo).toNat : Nat) : Int) - ((0 : Nat) : Int)) 1
    rw [e1, e2]
    exact Heap.get?_push_size _ rfl
  · have e : b = (s.heap.push { cls := .type "range", data := .fields #[.int lo t, .int hi u, .int 1 v] }).objs.size := by simpa using hb
    subst e
    exact I1.fpOk (Nat.le_refl _) (I1.hok.fresh (Nat.le_refl _))
def iRng1 (ta : TA) : TI := fun σ H R => ta σ H fun vs H1 => ∃ j : Int, vs = [.int j] ∧ -(2 ^ 62) ≤ j ∧ j < 2 ^ 62 ∧ R (Itr 0 j.toNat) H1
def iRng2 (ta : TA) : TI := fun σ H R => ta σ H fun vs H1 => ∃ i j : Int, vs = [.int i, .int j] ∧ (-(2 ^ 62) ≤ i ∧ i < 2 ^ 62 ∧ -(2 ^ 62) ≤ j ∧ j < 2 ^ 62) ∧ R (Itr i (j - i).toNat) H1
theorem pi_range1 {a : Expr} {ta : TA} {p pos : Pos} (hg : Gl X "range") (hm : X.mg "range" = none) (ha : PA X [a] ta) (hs : starEach [a] X.env = [(false, eval a X.env)] := by rfl) : PI X tg (.Call (.Name "range" p) [a] [] pos) (iRng1 ta) := by
  intro pins s σ H R I h
  refine Call_ (ld_blt I hg hm boot_range (PyProof.Rows.callWith_type1 (thn (ha pos pins s σ H _ I h) fun us s1 ⟨vs, H1, I1, r1, q1⟩ => ?_) hs rfl))
  obtain ⟨j, e, q1, q2, q⟩ := q1
  subst e
  cases r1 with
  | cons r rr =>
    cases rr
    obtain ⟨t, rfl⟩ := r
    exact call_range_1 (range_it I1 (by omega) (by omega) q1 q2 (by simpa using q))
theorem pi_range2 {a b : Expr} {ta : TA} {p pos : Pos} (hg : Gl X "range") (hm : X.mg "range" = none) (ha : PA X [a, b] ta) (hs : starEach [a, b] X.env = [(false, eval a X.env), (false, eval b X.env)] := by rfl) (hs2 : starEach [b] X.env = [(false, eval b X.env)] := by rfl) :
    PI X tg (.Call (.Name "range" p) [a, b] [] pos) (iRng2 ta) := by
  intro pins s σ H R I h
  refine Call_ (ld_blt I hg hm boot_range (PyProof.Rows.callWith_type1 (thn (ha pos pins s σ H _ I h) fun us s1 ⟨vs, H1, I1, r1, q1⟩ => ?_) (by rw [hs, hs2]) (by rw [hs2]; rfl)))
  obtain ⟨i, j, e, ⟨q1, q2, q3, q4⟩, q⟩ := q1
  subst e
  cases r1 with
  | cons r rr =>
    cases rr with
    | cons r' rr =>
      cases rr
      obtain ⟨t, rfl⟩ := r
      obtain ⟨t', rfl⟩ := r'
      exact call_range_2 (range_it I1 q1 q2 q3 q4 q)

/-! ### for -/
/-- W: the invariant by the turn and a measure; N: what the body is to reach -/
def tFor (wi : TI) (g : TG) (tb : TS) : TS := fun D σ H => wi σ H fun J H1 => ∃ W : Nat → Nat → St → Hp → Prop, (∃ m, W 0 m σ H1) ∧ ∀ i m σ H, W i m σ H →
  (J.stop i H ∧ D.nx σ H) ∨ (J.go i H ∧ ∃ N : St → Hp → Prop, (∀ σ' H', N σ' H' → ∃ m', m' < m ∧ W (i + 1) m' σ' H') ∧ ∀ x H', J.yld i H x H' → g x σ H' fun σ2 H2 => tb { D with nx := N, ct := N, bk := D.nx } σ2 H2)
/-- the records at fp as they stand -/
def pinsAt (fp : List Addr) (h : Heap) : List (Addr × Obj) := fp.filterMap fun b => (h.get? b).map fun o => (b, o)
theorem mem_pinsAt {fp : List Addr} {h : Heap} {b : Addr} {o : Obj} (hb : b ∈ fp) (e : h.get? b = some o) : (b, o) ∈ pinsAt fp h := List.mem_filterMap.mpr ⟨b, hb, by rw [e]; rfl⟩
theorem of_pinsAt {fp : List Addr} {h : Heap} {p : Addr × Obj} (hp : p ∈ pinsAt fp h) : p.1 ∈ fp ∧ h.get? p.1 = some p.2 := by
  obtain ⟨b, hb, e⟩ := List.mem_filterMap.mp hp
  cases q : h.get? b with
  | none => rw [q] at e; cases e
  | some o =>
    rw [q] at e
    have e' : (b, o) = p := Option.some.inj e
    subst e'
    exact ⟨hb, q⟩
theorem Inv.pinned {pins : List (Addr × Obj)} {σ : St} {H : Hp} {s : Shared} {fp : List Addr} (I : Inv X pins σ H s) (hf : ∀ b ∈ fp, FpOk X pins H b) (ho : ∀ b ∈ fp, ∃ o, s.heap.get? b = some o ∧ ∀ v, o.data ≠ .cell v) : Inv X (pins ++ pinsAt fp s.heap) σ H s :=
  I.pins_of fun p hp => (List.mem_append.mp hp).elim (fun z => I.pin p (List.mem_append_right _ z)) fun z => by
    obtain ⟨hb, e⟩ := of_pinsAt z
    obtain ⟨f0, f1, f2, _⟩ := hf p.1 hb
    obtain ⟨o, e', d⟩ := ho p.1 hb
    rw [e] at e'; cases e'
    exact ⟨e, f0, f1, f2, d⟩
theorem Inv.unpinned {pins pl : List (Addr × Obj)} {σ : St} {H : Hp} {s : Shared} (I : Inv X (pins ++ pl) σ H s) : Inv X pins σ H s := I.pins_of fun p hp => I.pin p (List.mem_append_right _ (List.mem_append_left _ hp))
theorem ps_for {iter : Expr} {body : List Stmt} {wi : TI} {g : TG} {tb : TS} {pos : Pos} (hp : PassesOwn (model X.prog X.w) X.A X.env X.xe) (hc : X.calm = true) (hi : PI X tg iter wi) (hg : PG X tg g) (hb : PSs X body tb)
    (hs : ∀ x, foldedSetIterable iter X.env x = pure x := by intro _; rfl) : PS X (.For tg iter body [] pos) (tFor wi g tb) := by
  intro pins s σ H D I h
  refine wpAny_For (thn (hi pins s σ H _ I h) fun v s1 h1 => thn h1 fun itv s2 h2 => ?_) hs
  obtain ⟨it, fp, tn, J, H2, e, I2, T, st2, f2, W, ⟨m0, w0⟩, turn⟩ := h2
  subst e
  -- what stays true of the iterator's objects through the loop
  have stat : ∀ {H' : Hp}, (∀ b ∈ fp, H' b = none) → ∀ b ∈ fp, FpOk X pins H' b := fun hn b hb => ⟨hn b hb, (f2 b hb).2⟩
  refine codeAny_forLoop_any (fun n s' => ∃ i σ' H', Inv X pins σ' H' s' ∧ tn i s'.heap ∧ (∀ b ∈ fp, H' b = none) ∧ W i n σ' H') ?_ m0 ⟨0, σ, H2, I2, st2, fun b hb => (f2 b hb).1, w0⟩
  rintro n s3 ⟨i, σ3, H3, I3, st3, fr3, w3⟩
  rcases turn i n σ3 H3 w3 with ⟨stop, qn⟩ | ⟨go, N, hN, step⟩
  · refine wpAny_passesOwn hp (thn (T.done X rfl rfl rfl hc i pins s3 σ3 H3 X.xe I3 (stat fr3) st3 stop) fun r s4 ⟨hr, I4⟩ => ?_)
    subst hr
    exact wpAny_execs_nil ⟨σ3, H3, I4, qn⟩
  · refine wpAny_passesOwn hp (thn (T.item X rfl rfl rfl hc i pins s3 σ3 H3 X.xe I3 (stat fr3) st3 go) fun r s4 ⟨u, hr, h4⟩ => ?_)
    subst hr
    refine wpAny_passesOwn hp (thn h4 fun _ s5 ⟨x, H5, I5, r5, y5, st5, fr5⟩ => ?_)
    have I5' := I5.pinned (stat fr5) (T.obj _ _ st5)
    refine wpAny_passesOwn hp (thn (hg _ s5 σ3 H5 x u _ I5' r5 (step x H5 y5)) fun _ s6 ⟨σ6, H6, I6, q6⟩ => ?_)
    refine wpAny_passesOwn hp (thn (hb _ s6 σ6 H6 _ I6 q6) fun f s7 q7 => ?_)
    have again : ∀ {σ7 : St} {H7 : Hp}, Inv X (pins ++ pinsAt fp s5.heap) σ7 H7 s7 → N σ7 H7 → ∃ m, m < n ∧ ∃ i σ' H', Inv X pins σ' H' s7 ∧ tn i s7.heap ∧ (∀ b ∈ fp, H' b = none) ∧ W i m σ' H' := fun {σ7 H7} I7 n7 => by
      obtain ⟨m', hm, w7⟩ := hN σ7 H7 n7
      refine ⟨m', hm, i + 1, σ7, H7, I7.unpinned, T.keep _ _ _ st5 fun b hb o e => (I7.pin (b, o) (List.mem_append_right _ (List.mem_append_right _ (mem_pinsAt hb e)))).1, fun b hb => ?_, w7⟩
      obtain ⟨o, e, d⟩ := T.obj _ _ st5 b hb
      exact (I7.pin (b, o) (List.mem_append_right _ (List.mem_append_right _ (mem_pinsAt hb e)))).2.1
    cases f with
    | next => obtain ⟨σ7, H7, I7, n7⟩ := q7; exact again I7 n7
    | cont => obtain ⟨σ7, H7, I7, n7⟩ := q7; exact again I7 n7
    | brk => obtain ⟨σ7, H7, I7, q7⟩ := q7; exact ⟨σ7, H7, I7.unpinned, q7⟩
    | ret v => obtain ⟨x7, σ7, H7, I7, r7, q7⟩ := q7; exact ⟨x7, σ7, H7, I7.unpinned, r7, q7⟩
end

/-! ### the forms one uses -/
/-- over a list that the body leaves as it is -/
theorem for_list {K : PySem.W.Frag} {a : Addr} {xs : List V} {g : TG} {tb : TS} {D : Ends} {σ : St} {H : Hp} (Pv : Nat → St → Hp → Prop) (h0 : Pv 0 σ H) (hl : ∀ i σ H, i ≤ xs.length → Pv i σ H → SqL K H a xs)
    (hs : ∀ i x σ H, xs[i]? = some x → Pv i σ H → g x σ H fun σ2 H2 => tb { D with nx := Pv (i + 1), ct := Pv (i + 1), bk := D.nx } σ2 H2) (hd : ∀ σ H, Pv xs.length σ H → D.nx σ H) :
    ∃ W : Nat → Nat → St → Hp → Prop, (∃ m, W 0 m σ H) ∧ ∀ i m σ H, W i m σ H →
      ((Itl K a).stop i H ∧ D.nx σ H) ∨ ((Itl K a).go i H ∧ ∃ N : St → Hp → Prop, (∀ σ' H', N σ' H' → ∃ m', m' < m ∧ W (i + 1) m' σ' H') ∧ ∀ x H', (Itl K a).yld i H x H' → g x σ H' fun σ2 H2 => tb { D with nx := N, ct := N, bk := D.nx } σ2 H2) := by
  refine ⟨fun i m σ H => m = xs.length - i ∧ i ≤ xs.length ∧ Pv i σ H, ⟨xs.length, by simp, Nat.zero_le _, h0⟩, ?_⟩
  rintro i m σ H ⟨rfl, hi, p⟩
  have q := hl i σ H hi p
  by_cases hlt : i < xs.length
  · refine .inr ⟨⟨xs, xs[i], q, by simp [hlt]⟩, Pv (i + 1), fun σ' H' p' => ⟨xs.length - (i + 1), by omega, rfl, hlt, p'⟩, fun x H' y => ?_⟩
    obtain ⟨e, y⟩ := y
    subst e
    exact hs i x σ _ (y xs q) p
  · have e : i = xs.length := by omega
    subst e
    exact .inl ⟨⟨xs, q, Nat.le_refl _⟩, hd σ H p⟩
theorem for_range {lo : Int} {n : Nat} {g : TG} {tb : TS} {D : Ends} {σ : St} {H : Hp} (Pv : Nat → St → Hp → Prop) (h0 : Pv 0 σ H)
    (hs : ∀ i σ H, i < n → Pv i σ H → g (.int (lo + i)) σ H fun σ2 H2 => tb { D with nx := Pv (i + 1), ct := Pv (i + 1), bk := D.nx } σ2 H2) (hd : ∀ σ H, Pv n σ H → D.nx σ H) :
    ∃ W : Nat → Nat → St → Hp → Prop, (∃ m, W 0 m σ H) ∧ ∀ i m σ H, W i m σ H →
      ((Itr lo n).stop i H ∧ D.nx σ H) ∨ ((Itr lo n).go i H ∧ ∃ N : St → Hp → Prop, (∀ σ' H', N σ' H' → ∃ m', m' < m ∧ W (i + 1) m' σ' H') ∧ ∀ x H', (Itr lo n).yld i H x H' → g x σ H' fun σ2 H2 => tb { D with nx := N, ct := N, bk := D.nx } σ2 H2) := by
  refine ⟨fun i m σ H => m = n - i ∧ i ≤ n ∧ Pv i σ H, ⟨n, by simp, Nat.zero_le _, h0⟩, ?_⟩
  rintro i m σ H ⟨rfl, hi, p⟩
  by_cases hlt : i < n
  · refine .inr ⟨hlt, Pv (i + 1), fun σ' H' p' => ⟨n - (i + 1), by omega, rfl, hlt, p'⟩, fun x H' y => ?_⟩
    obtain ⟨e, y⟩ := y
    subst e y
    exact hs i σ _ hlt p
  · have e : i = n := by omega
    subst e
    exact .inl ⟨Nat.le_refl _, hd σ H p⟩
end L2

namespace L2
open PySem PySem.Spec PyProof.Rows

abbrev R2 := V → V → Hp → VK → Prop
/-- a two-place operation on values: f is binaryOp op, inplaceOp op or compareOp op -/
def OpR (X : Cx) (f : Value → Value → Sem Value) (r : R2) : Prop :=
  ∀ (pins : List (Addr × Obj)) (s : Shared) (σ : St) (H : Hp) (x y : V) (v u : Value) (Q : VK), Inv X pins σ H s → RelV x v → RelV y u → r x y H Q →
    wpAny (model X.prog X.w) X.A (f v u) (EP X pins σ Q) X.xe s
/-- a call of a value that is known (a builtin, a type) with values -/
def CallR (X : Cx) (f : Value) (r : List V → Hp → VK → Prop) : Prop :=
  ∀ (pins : List (Addr × Obj)) (s : Shared) (σ : St) (H : Hp) (xs : List V) (us : List Value) (Q : VK), Inv X pins σ H s → Vals xs us → r xs H Q →
    wpAny (model X.prog X.w) X.A (call f us) (EP X pins σ Q) X.xe s
/-- a value's truth -/
def TruR (X : Cx) (r : V → Hp → (Bool → Hp → Prop) → Prop) : Prop :=
  ∀ (pins : List (Addr × Obj)) (s : Shared) (σ : St) (H : Hp) (x : V) (v : Value) (Q : Bool → Hp → Prop), Inv X pins σ H s → RelV x v → r x H Q →
    wpAny (model X.prog X.w) X.A (truthy v) (TP X pins σ Q) X.xe s

def tOp (r : R2) (ta tb : TE) : TE := fun σ H Q => ta σ H fun x H1 => tb σ H1 fun y H2 => r x y H2 Q
/-- ints in, under C, and a value out -/
def rI (C : Int → Int → Prop) (g : Int → Int → V) : R2 := fun x y H Q => ∃ i j, x = .int i ∧ y = .int j ∧ C i j ∧ Q (g i j) H
def rI0 (g : Int → Int → V) : R2 := fun x y H Q => ∃ i j, x = .int i ∧ y = .int j ∧ Q (g i j) H
section
variable {X : Cx} {a b c : Expr} {ta tb tc : TE} {pos : Pos}

theorem binT (ha : PE X a ta) (hb : PE X b tb) {pins : List (Addr × Obj)} {s : Shared} {σ : St} {H : Hp} {R : V → V → Hp → Prop} (I : Inv X pins σ H s)
    (h : ta σ H fun x H1 => tb σ H1 fun y H2 => R x y H2) {Q : Value → Shared → Prop} {f : Value → Value → Sem Value}
    (hf : ∀ v u s2 x y H2, Inv X pins σ H2 s2 → RelV x v → RelV y u → R x y H2 → wpAny (model X.prog X.w) X.A (f v u) Q X.xe s2) :
    wpAny (model X.prog X.w) X.A (eval a X.env) (fun v s₁ => wpAny (model X.prog X.w) X.A (eval b X.env) (fun u s₂ => wpAny (model X.prog X.w) X.A (f v u) Q X.xe s₂) X.xe s₁) X.xe s := by
  refine thn (ha pins s σ H _ I h) fun v s1 ⟨x, H1, I1, r1, q1⟩ => ?_
  refine thn (hb pins s1 σ H1 _ I1 q1) fun u s2 ⟨y, H2, I2, r2, q2⟩ => ?_
  exact hf v u s2 x y H2 I2 r1 r2 q2

theorem pe_op {op : Operator} {r : R2} (ho : OpR X (binaryOp op) r) (ha : PE X a ta) (hb : PE X b tb) : PE X (.BinOp a op b pos) (tOp r ta tb) := by
  intro pins s σ H Q I h
  exact wpAny_BinOp (binT ha hb I h fun v u s2 x y H2 I2 rx ry q => ho pins s2 σ H2 x y v u Q I2 rx ry q)
/-! ### ints -/
theorem opI {f : Value → Value → Sem Value} {C : Int → Int → Prop} {g : Int → Int → Int}
    (rule : ∀ (i j : Int) (t u : Tok) (s : Shared) (Q : Value → Shared → Prop) (E : Value → Shared → Prop), C i j → Q (.int (g i j) s.toks) { s with toks := s.toks + 1 } → wpAny (model X.prog X.w) X.A (f (.int i t) (.int j u)) Q E s) :
    OpR X f (rI C fun i j => .int (g i j)) := by
  intro pins s σ H x y v u Q I rx ry h
  obtain ⟨i, j, rfl, rfl, hc, q⟩ := h
  obtain ⟨t, rfl⟩ := rx
  obtain ⟨t', rfl⟩ := ry
  exact rule i j t t' s _ _ hc ⟨.int (g i j), H, I.tok _, ⟨_, rfl⟩, q⟩
theorem opI0 {f : Value → Value → Sem Value} {g : Int → Int → Int}
    (rule : ∀ (i j : Int) (t u : Tok) (s : Shared) (Q : Value → Shared → Prop) (E : Value → Shared → Prop), Q (.int (g i j) s.toks) { s with toks := s.toks + 1 } → wpAny (model X.prog X.w) X.A (f (.int i t) (.int j u)) Q E s) :
    OpR X f (rI0 fun i j => .int (g i j)) := by
  intro pins s σ H x y v u Q I rx ry h
  obtain ⟨i, j, rfl, rfl, q⟩ := h
  obtain ⟨t, rfl⟩ := rx
  obtain ⟨t', rfl⟩ := ry
  exact rule i j t t' s _ _ ⟨.int (g i j), H, I.tok _, ⟨_, rfl⟩, q⟩
theorem opB0 {f : Value → Value → Sem Value} {g : Int → Int → Bool}
    (rule : ∀ (i j : Int) (t u : Tok) (s : Shared) (Q : Value → Shared → Prop) (E : Value → Shared → Prop), Q (.bool (g i j)) s → wpAny (model X.prog X.w) X.A (f (.int i t) (.int j u)) Q E s) :
    OpR X f (rI0 fun i j => .bl (g i j)) := by
  intro pins s σ H x y v u Q I rx ry h
  obtain ⟨i, j, rfl, rfl, q⟩ := h
  obtain ⟨t, rfl⟩ := rx
  obtain ⟨t', rfl⟩ := ry
  exact rule i j t t' s _ _ ⟨.bl (g i j), H, I, rfl, q⟩

def CDiv (i j : Int) : Prop := 0 < j ∧ j < 1073741824
def CMul (i j : Int) : Prop := (-(2 ^ 64) < i ∧ i < 2 ^ 64) ∨ (-(2 ^ 64) < j ∧ j < 2 ^ 64)
theorem CMul.ok {i j : Int} (h : CMul i j) : IntMulOk i j := by
  rcases h with ⟨h1, h2⟩ | ⟨h1, h2⟩
  · exact .of_left (intBits_le_64 h1 h2)
  · exact .of_right (intBits_le_64 h1 h2)
theorem op_add : OpR X (binaryOp .Add) (rI0 fun i j => .int (i + j)) := opI0 fun _ _ _ _ _ _ _ q => add_int q
theorem op_sub : OpR X (binaryOp .Sub) (rI0 fun i j => .int (i - j)) := opI0 fun _ _ _ _ _ _ _ q => sub_int q
theorem op_mul : OpR X (binaryOp .Mult) (rI CMul fun i j => .int (i * j)) := opI fun _ _ _ _ _ _ _ hc q => mul_int q hc.ok
/-- // by a positive divisor -/
theorem op_fdiv : OpR X (binaryOp .FloorDiv) (rI CDiv fun i j => .int (i / j)) := opI fun i j _ _ _ _ _ hc q => by
  have h1 : (0 : Int) < j := hc.1
  have h2 : j < 1073741824 := hc.2
  exact floordiv_int (by omega) (by rw [Int.fdiv_eq_ediv_of_nonneg i (by omega)]; exact q) (.inl (PyProof.noPylong_small (by omega)))
/-- % by a positive divisor of any size -/
theorem op_mod : OpR X (binaryOp .Mod) (rI (fun _ j => 0 < j) fun i j => .int (i % j)) := opI fun i j _ _ _ _ _ hc q => by
  have h1 : (0 : Int) < j := hc
  exact mod_int' (by omega) (by rw [Int.fmod_eq_emod_of_nonneg i (by omega)]; exact q)
/-! ### bools among ints: n += (a < b) -/
end

/-! ### comparisons -/
/-- the scalars that == tells apart as data does -/
def scal : V → V → Bool
  | .non, .non => true | .non, .int _ => true | .int _, .non => true | .non, .bl _ => true | .bl _, .non => true | .non, .str _ => true | .str _, .non => true
  | .int _, .int _ => true | .bl _, .bl _ => true | .str _, .str _ => true | .byt _, .byt _ => true
  | .int _, .str _ => true | .str _, .int _ => true | .bl _, .str _ => true | .str _, .bl _ => true
  | _, _ => false
def rEq : R2 := fun x y H Q => scal x y = true ∧ Q (.bl (decide (x = y))) H
def rNe : R2 := fun x y H Q => scal x y = true ∧ Q (.bl (!decide (x = y))) H

theorem dec_int {i j : Int} : decide (V.int i = V.int j) = (i == j) := by
  rw [Bool.eq_iff_iff]
  simp
theorem dec_bl {i j : Bool} : decide (V.bl i = V.bl j) = (i == j) := by
  rw [Bool.eq_iff_iff]
  simp
theorem dec_str {i j : Str} : decide (V.str i = V.str j) = (i == j) := by
  rw [Bool.eq_iff_iff]
  simp
theorem dec_byt {i j : Array UInt8} : decide (V.byt i = V.byt j) = (i.toList == j.toList) := by
  rw [Bool.eq_iff_iff]
  cases i
  cases j
  simp

section
variable {X : Cx} {a b c : Expr} {ta tb tc : TE} {pos : Pos}
theorem fin_bl {pins : List (Addr × Obj)} {σ : St} {H : Hp} {s : Shared} {Q : VK} {k k' : Bool} (I : Inv X pins σ H s) (q : Q (.bl k) H) (e : k = k') : EP X pins σ Q (.bool k') s := by
  subst e
  exact ⟨.bl k, H, I, rfl, q⟩
theorem op_eq : OpR X (compareOp .Eq) rEq := by
  intro pins s σ H x y v u Q I rx ry h
  obtain ⟨hs, q⟩ := h
  cases x with
  | non =>
    cases rx
    cases y with
    | non => cases ry; exact PySem.EqNone.eq_none_none (fin_bl I q (by simp))
    | bl j => cases ry; exact PySem.EqNone.eq_none_bool (fin_bl I q (by simp))
    | int j => obtain ⟨t', rfl⟩ := ry; exact PySem.EqNone.eq_none_int (fin_bl I q (by simp))
    | str j => obtain ⟨t', rfl⟩ := ry; exact PySem.EqNone.eq_none_str (fin_bl I q (by simp))
    | _ => exact absurd (show false = true from hs) Bool.false_ne_true
  | bl i =>
    cases rx
    cases y with
    | non => cases ry; exact PySem.EqNone.eq_bool_none (fin_bl I q (by simp))
    | bl j => cases ry; exact eq_bool (fin_bl I q dec_bl)
    | str j => obtain ⟨t', rfl⟩ := ry; exact PySem.EqMixed.eq_bool_str (fin_bl I q (by simp))
    | _ => exact absurd (show false = true from hs) Bool.false_ne_true
  | int i =>
    obtain ⟨t, rfl⟩ := rx
    cases y with
    | non => cases ry; exact PySem.EqNone.eq_int_none (fin_bl I q (by simp))
    | int j => obtain ⟨t', rfl⟩ := ry; exact eq_int (fin_bl I q dec_int)
    | str j => obtain ⟨t', rfl⟩ := ry; exact PySem.EqMixed.eq_int_str (fin_bl I q (by simp))
    | _ => exact absurd (show false = true from hs) Bool.false_ne_true
  | str i =>
    obtain ⟨t, rfl⟩ := rx
    cases y with
    | non => cases ry; exact PySem.EqNone.eq_str_none (fin_bl I q (by simp))
    | bl j => cases ry; exact PySem.EqMixed.eq_str_bool (fin_bl I q (by simp))
    | int j => obtain ⟨t', rfl⟩ := ry; exact PySem.EqMixed.eq_str_int (fin_bl I q (by simp))
    | str j => obtain ⟨t', rfl⟩ := ry; exact eq_str (fin_bl I q dec_str)
    | _ => exact absurd (show false = true from hs) Bool.false_ne_true
  | byt i =>
    obtain ⟨t, rfl⟩ := rx
    cases y with
    | byt j => obtain ⟨t', rfl⟩ := ry; exact PySem.W.eq_bytes (fin_bl I q dec_byt)
    | _ => exact absurd (show false = true from hs) Bool.false_ne_true
  | _ => cases y <;> exact absurd (show false = true from hs) Bool.false_ne_true
theorem op_ne : OpR X (compareOp .NotEq) rNe := by
  intro pins s σ H x y v u Q I rx ry h
  obtain ⟨hs, q⟩ := h
  cases x with
  | non =>
    cases rx
    cases y with
    | non => cases ry; exact PySem.EqNone.ne_none_none (fin_bl I q (by simp))
    | bl j => cases ry; exact PySem.EqNone.ne_none_bool (fin_bl I q (by simp))
    | int j => obtain ⟨t', rfl⟩ := ry; exact PySem.EqNone.ne_none_int (fin_bl I q (by simp))
    | str j => obtain ⟨t', rfl⟩ := ry; exact PySem.EqNone.ne_none_str (fin_bl I q (by simp))
    | _ => exact absurd (show false = true from hs) Bool.false_ne_true
  | bl i =>
    cases rx
    cases y with
    | non => cases ry; exact PySem.EqNone.ne_bool_none (fin_bl I q (by simp))
    | bl j => cases ry; exact ne_bool (fin_bl I q (congrArg not dec_bl))
    | str j => obtain ⟨t', rfl⟩ := ry; exact PySem.EqMixed.ne_bool_str (fin_bl I q (by simp))
    | _ => exact absurd (show false = true from hs) Bool.false_ne_true
  | int i =>
    obtain ⟨t, rfl⟩ := rx
    cases y with
    | non => cases ry; exact PySem.EqNone.ne_int_none (fin_bl I q (by simp))
    | int j => obtain ⟨t', rfl⟩ := ry; exact ne_int (fin_bl I q (congrArg not dec_int))
    | str j => obtain ⟨t', rfl⟩ := ry; exact PySem.EqMixed.ne_int_str (fin_bl I q (by simp))
    | _ => exact absurd (show false = true from hs) Bool.false_ne_true
  | str i =>
    obtain ⟨t, rfl⟩ := rx
    cases y with
    | non => cases ry; exact PySem.EqNone.ne_str_none (fin_bl I q (by simp))
    | bl j => cases ry; exact PySem.EqMixed.ne_str_bool (fin_bl I q (by simp))
    | int j => obtain ⟨t', rfl⟩ := ry; exact PySem.EqMixed.ne_str_int (fin_bl I q (by simp))
    | str j => obtain ⟨t', rfl⟩ := ry; exact ne_str (fin_bl I q (congrArg not dec_str))
    | _ => exact absurd (show false = true from hs) Bool.false_ne_true
  | byt i =>
    obtain ⟨t, rfl⟩ := rx
    cases y with
    | byt j => obtain ⟨t', rfl⟩ := ry; exact PySem.W.ne_bytes (fin_bl I q (congrArg not dec_byt))
    | _ => exact absurd (show false = true from hs) Bool.false_ne_true
  | _ => cases y <;> exact absurd (show false = true from hs) Bool.false_ne_true

theorem op_lt : OpR X (compareOp .Lt) (rI0 fun i j => .bl (decide (i < j))) := opB0 fun _ _ _ _ _ _ _ q => lt_int q
theorem op_gt : OpR X (compareOp .Gt) (rI0 fun i j => .bl (decide (j < i))) := opB0 fun _ _ _ _ _ _ _ q => gt_int q
theorem op_ge : OpR X (compareOp .GtE) (rI0 fun i j => .bl (decide (j ≤ i))) := opB0 fun _ _ _ _ _ _ _ q => ge_int q
theorem nomark (b : Expr) {op : CmpOp} (h : op ≠ .In := by decide) (h2 : op ≠ .NotIn := by decide) : behindInMarks op b = false := by
  have e1 : (op == CmpOp.In) = false := by cases op <;> first | rfl | exact absurd rfl h
  have e2 : (op == CmpOp.NotIn) = false := by cases op <;> first | rfl | exact absurd rfl h2
  cases b <;> simp [behindInMarks, e1, e2]
/-- a comparison as a value; hm: nomark b, or (for in, not in) by with_unfolding_all rfl -/
theorem pe_cmpR {op : CmpOp} {r : R2} (ho : OpR X (compareOp op) r) (ha : PE X a ta) (hb : PE X b tb) (hm : behindInMarks op b = false) : PE X (.Compare a [op] [b] pos) (tOp r ta tb) := by
  intro pins s σ H Q I h
  exact wpAny_Compare1 (binT ha hb I h fun v u s2 x y H2 I2 rx ry q => ho pins s2 σ H2 x y v u Q I2 rx ry q) hm
/-- a reading of a value as a test -/
def tTest (t : TE) : TT := fun σ H Q => t σ H fun x H' => ∃ k, x = .bl k ∧ Q k H'
theorem pt_cmpR {op : CmpOp} {r : R2} (ho : OpR X (compareOp op) r) (ha : PE X a ta) (hb : PE X b tb) (hm : behindInMarks op b = false) : PT X (.Compare a [op] [b] pos) (tTest (tOp r ta tb)) := by
  intro pins s σ H Q I h
  refine wpAny_isTrue_Compare1 (thn (ha pins s σ H _ I h) fun v s1 ⟨x, H1, I1, r1, q1⟩ => thn (hb pins s1 σ H1 _ I1 q1) fun u s2 ⟨y, H2, I2, r2, q2⟩ =>
    thn (ho pins s2 σ H2 x y v u _ I2 r1 r2 q2) fun c s3 ⟨z, H3, I3, r3, k, e, q3⟩ => ?_) hm
  subst e
  cases r3
  exact wpAny_truthy_bool ⟨H3, I3, q3⟩
/-! ### truth -/
/-- a value's truth by the abstract heap -/
def TruV (K : PySem.W.Frag) (x : V) (H : Hp) (k : Bool) : Prop :=
  match x with
  | .non => k = false
  | .bl b => k = b
  | .int i => k = (i != 0)
  | .str y => y.length ≤ sizeLine ∧ k = ((y.length : Int) != 0)
  | .byt y => y.size ≤ sizeLine ∧ k = ((y.size : Int) != 0)
  | .ref p => (∃ xs, SqL K H p xs ∧ k = !xs.isEmpty) ∨ (∃ xs, SqT K H p xs ∧ k = !xs.isEmpty) ∨ ∃ kvs, H p = some (.dK kvs) ∧ k = !kvs.isEmpty
  | _ => False
theorem isEmpty_kv {κ : Type} {kvs : List (κ × V)} {vs : List (κ × Value)} (r : KV kvs vs) : (!vs.isEmpty) = !kvs.isEmpty := by
  cases r <;> rfl
theorem isEmpty_of {xs : List V} {its : List Value} (r : Vals xs its) : (!its.toArray.isEmpty) = !xs.isEmpty := by
  cases r <;> simp
theorem line63 : (sizeLine : Nat) < 2 ^ 63 := by rw [sizeLine_eq]; decide
theorem tru_ok : TruR X (fun x H Q => ∃ k, TruV X.K x H k ∧ Q k H) := by
  intro pins s σ H x v Q I rx h
  obtain ⟨k, e, q⟩ := h
  have hl := line63
  have hs : sizeLine = 16777216 := sizeLine_eq
  cases x with
  | non =>
    cases rx
    have e' : k = false := e
    subst e'
    exact truthy_none ⟨H, I, q⟩
  | bl b =>
    cases rx
    have e' : k = b := e
    subst e'
    exact wpAny_truthy_bool ⟨H, I, q⟩
  | int i =>
    obtain ⟨t, rfl⟩ := rx
    have e' : k = (i != 0) := e
    subst e'
    exact PySem.P.truthy_int ⟨H, I, q⟩
  | str y =>
    obtain ⟨t, rfl⟩ := rx
    obtain ⟨hy, e'⟩ : y.length ≤ sizeLine ∧ k = ((y.length : Int) != 0) := e
    subst e'
    exact PySem.P.truthy_str (by omega) ⟨H, I.tok _, q⟩
  | byt y =>
    obtain ⟨t, rfl⟩ := rx
    obtain ⟨hy, e'⟩ : y.size ≤ sizeLine ∧ k = ((y.size : Int) != 0) := e
    subst e'
    exact PySem.W.truthy_bytes (by omega) ⟨H, I.tok _, q⟩
  | ref p =>
    cases rx
    have e' : (∃ xs, SqL X.K H p xs ∧ k = !xs.isEmpty) ∨ (∃ xs, SqT X.K H p xs ∧ k = !xs.isEmpty) ∨ ∃ kvs, H p = some (.dK kvs) ∧ k = !kvs.isEmpty := e
    rcases e' with ⟨xs, hx, e'⟩ | ⟨xs, hx, e'⟩ | ⟨kvs, hx, e'⟩
    · subst e'
      obtain ⟨its, r, pl, hz⟩ := I.list hx
      have hlen := r.length
      exact wpAny_truthy_list pl.isList (by simp only [List.size_toArray]; omega) ⟨H, I.tok _, by rw [isEmpty_of r]; exact q⟩
    · subst e'
      obtain ⟨its, r, pl, hz⟩ := I.tuple hx
      have hlen := r.length
      exact truthy_tuple pl (by simp only [List.size_toArray]; omega) ⟨H, I.tok _, by rw [isEmpty_of r]; exact q⟩
    · subst e'
      obtain ⟨hz, hS, vs, r, m⟩ : kvs.length ≤ sizeLine ∧ (p == sysModules) = false ∧ ∃ vs, KV kvs vs ∧ s.heap.DictOf (mixKind X.prog X.w) p vs := I.hok p _ hx
      have hlen : kvs.length = vs.length := Paired.length r
      exact wpAny_truthy_dict hS m (by omega) ⟨H, I.tok _, by rw [isEmpty_kv r]; exact q⟩
  | _ => exact (show False from e).elim
/-- any expression whose test is its value's truth (a name, a call, a subscript, a field ..: he by fun _ => rfl) -/
theorem pt_truth (ha : PE X a ta) (he : ∀ whole, isTrue a X.env whole = (do let v ← whole; standAt a.pos; holding [v] (truthy v))) :
    PT X a (fun σ H Q => ta σ H fun x H' => ∃ k, TruV X.K x H' k ∧ Q k H') := by
  intro pins s σ H Q I h
  exact isTrue_plain (thn (ha pins s σ H _ I h) fun v s1 ⟨x, H1, I1, r1, q1⟩ => tru_ok pins s1 σ H1 x v Q I1 r1 q1) (he _)

/-! ### strs and bytes -/
/-! ### scalar builtins, by CallR -/
theorem vals1 {x : V} {us : List Value} (r : Vals [x] us) : ∃ u, us = [u] ∧ RelV x u := by
  cases r with
  | cons r1 r2 => cases r2; exact ⟨_, rfl, r1⟩
theorem call_int1 : CallR X (.type "int") (fun xs H Q => (∃ i, xs = [.int i] ∧ Q (.int i) H) ∨ ∃ k, xs = [.bl k] ∧ Q (.int (if k then 1 else 0)) H) := by
  intro pins s σ H xs us Q I r h
  rcases h with ⟨i, rfl, q⟩ | ⟨k, rfl, q⟩
  · obtain ⟨u, rfl, t, rfl⟩ := vals1 r
    exact call_int_int ⟨.int i, H, I, ⟨_, rfl⟩, q⟩
  · obtain ⟨u, rfl, r1⟩ := vals1 r
    cases r1
    exact call_int_bool ⟨.int (if k then 1 else 0), H, I.tok _, ⟨_, rfl⟩, q⟩
end
end L2

namespace L2
open PySem PySem.Spec PyProof.Rows

/-! ### an instance, its attributes a map -/
structure ObjM (h : Heap) (x dx C : Addr) (mA : Str → Option Value) : Prop where
  obj : h.get? x = some (PySem.W.instObj C dx)
  ns : h.Ns1 dx mA
  ne : dx ≠ x

theorem lookIn_ns {h : Heap} {dx : Addr} {mA : Str → Option Value} (n : h.Ns1 dx mA) : ∃ od, h.get? dx = some od ∧ ∀ name, PySem.W.lookIn name od = some (mA name) := by
  obtain ⟨o, es, ep, ho, hd, hk, _, hm⟩ := n
  refine ⟨o, ho, fun name => ?_⟩
  have e := hm name
  unfold nsFind findBy at e
  rw [← Array.find?_toList] at e
  unfold PySem.W.lookIn
  rw [hd]
  dsimp only
  split
  · rename_i y q
    rw [q] at e
    exact congrArg some e
  · rename_i q
    rw [q] at e
    have a : es.toList.any (·.refKey) = false := by
      rw [List.any_eq_false]
      intro y hy
      obtain ⟨z, t, hkey⟩ := hk y (Array.mem_toList_iff.mp hy)
      simp [DictEntry.refKey, hkey]
    have a' : ¬ es.toList.any (·.refKey) = true := by rw [a]; exact Bool.false_ne_true
    rw [if_neg a']
    exact congrArg some e

theorem ObjM.look {h : Heap} {x dx C : Addr} {mA : Str → Option Value} (I : ObjM h x dx C mA) : ∃ od, PySem.W.InstAt h x (PySem.W.instObj C dx) C (some od) ∧ ∀ name, PySem.W.lookIn name od = some (mA name) :=
  let ⟨od, ho, hl⟩ := lookIn_ns I.ns
  ⟨od, ⟨I.obj, rfl, rfl, ho⟩, hl⟩

section
variable {prog : Program} {w : World} {A : Around} {E : Value → Shared → Prop} {s : Shared} {K : PySem.W.Frag} {x dx C f : Addr} {mA : Str → Option Value} {name : Str} {v : Value}

theorem get_map {expr : Bool} {Q : Value → Shared → Prop} (X : K.In s.heap) (I : ObjM s.heap x dx C mA) (hg : PySem.W.plainGet K C name = true) (hh : PySem.W.hasDictIn K C = true)
    (ha : PySem.W.findIn K (.ref C) name = some none) (hv : mA name = some v) (hv' : PySem.W.handedIn v = true) (h : Q v { s with toks := s.toks + 1 }) :
    wpAny (model prog w) A (getAttr (.ref x) name expr) Q E s := by
  obtain ⟨od, J, hl⟩ := I.look
  exact PySem.W.get_value X J (PySem.W.plainGet_of hg).1 (PySem.W.findObj_own hh ha rfl (by rw [hl, hv])) hv' h

theorem get_meth {pl : Sem Bool} {Q : Value × List Value → Shared → Prop} (X : K.In s.heap) (I : ObjM s.heap x dx C mA) (hg : PySem.W.plainGet K C name = true)
    (hf : PySem.W.findIn K (.ref C) name = some (some (.ref f))) (ht : PySem.W.isFn K (.ref f) = true) (hv : mA name = none) (h : Q (.ref f, [.ref x]) s) :
    wpAny (model prog w) A (getMethod (.ref x) name pl) Q E s := by
  obtain ⟨od, J, hl⟩ := I.look
  exact PySem.W.method_fn X J (PySem.W.plainGet_of hg).1 (PySem.W.plainGet_of hg).2 hf (beq_iff_eq.mp ht) (by show (PySem.W.lookIn name od).map (·.isSome) = some false; rw [hl, hv]; rfl) h

theorem set_map {ns : List Str} {Q : Unit → Shared → Prop} (X : K.In s.heap) (I : ObjM s.heap x dx C mA)
    (hs : PySem.W.findIn K (.ref C) "__setattr__" = some (some (.builtin "object.__setattr__"))) (hp : PySem.W.plainOver K C = true) (ht : PySem.W.takerIn K C name = some none) (hh : PySem.W.hasDictIn K C = true)
    (hw : PySem.Within mA ns) (hsz : ns.length ≤ sizeLine)
    (h : ∀ h', ObjM h' x dx C (fun y => if y = name then some v else mA y) → Heap.SameBut dx s.heap h' → Q () { s with heap := h', toks := s.toks + 2 }) :
    wpAny (model prog w) A (setAttr (.ref x) name v) Q E s := by
  obtain ⟨od, J, hl⟩ := I.look
  refine PySem.W.set_plain X J hs (PySem.W.osa_open (s := { s with toks := s.toks + 1 }) (r := none) X J hp ht fun b => ?_)
  obtain ⟨cd, hc, hd'⟩ := PySem.W.any_some hh
  have hx : s.heap.get? x = some ⟨.ref C, some dx, .plain, #[]⟩ := I.obj
  refine wpAny_bind (wpAny_pure (wpAny_bind (wpAny_bind (wpAny_loadPart hx (wpAny_bind (PySem.W.Looks.here (s := { s with toks := s.toks + 1 }) (PySem.W.looks_clsIn X hc) ?_))))))
  rw [hd']
  refine wpAny_pure (a := some dx) (wpAny_bind (wpAny_pure (wpAny_bind ?_)))
  refine wpAny_nsSet1 (s := { s with toks := s.toks + 1 }) I.ns fun h' hn2 hs2 => ?_
  obtain ⟨oD, esD, epD, hoD, hdD, hcD⟩ := hn2.count (PySem.Within.cons name v hw)
  refine wpAny_bind (wpAny_lookBehind hoD (by rw [hdD]; exact pastItsLine_dict (Nat.le_trans hcD (by rw [List.length_cons]; omega))) ?_)
  exact wpAny_pure (h _ ⟨(hs2.2 _ (Ne.symm I.ne)).trans I.obj, hn2, I.ne⟩ hs2)

/-- C(..): the dict at the heap's end, the instance behind it; then its __init__ -/
theorem make_map {R : Result → Shared → Prop} {vs : List Value} {kw : List (Str × Value)} (X : K.In s.heap) (hm : PySem.W.makesIn K C = true)
    (hi : PySem.W.findIn K (.ref C) "__init__" = some (some (.ref f))) (hf : PySem.W.typeIn K (.ref f) = some (.type "function"))
    (h : codeAny (model prog w) (A.under (.builtin "type.__call__" ⟨.ref C :: vs, kw⟩)) (.call (.ref f) ⟨.ref (s.heap.objs.size + 1) :: vs, kw⟩) (PySem.W.InitBack (s.heap.objs.size + 1) R)
      { s with heap := (s.heap.push PySem.W.emptyDict).push (PySem.W.instObj C s.heap.objs.size) }) :
    codeAny (model prog w) A (.call (.ref C) ⟨vs, kw⟩) R s := by
  obtain ⟨hh, g, d, t, os⟩ := s
  exact PySem.W.make_core (PySem.W.makes_of X hm) (PySem.W.looks_findIn X hi) (fun self => PySem.W.bind_fn X self hf) (.inl rfl) h
end

/-! ### the attributes as a list of pairs -/
def putF (f : Str) (v : V) : List (Str × V) → List (Str × V)
  | [] => [(f, v)]
  | (g, x) :: r => if g = f then (g, v) :: r else (g, x) :: putF f v r
theorem lookup_putF (f g : Str) (v : V) : ∀ fs : List (Str × V), (putF f v fs).lookup g = if g = f then some v else fs.lookup g
  | [] => by
    show List.lookup g [(f, v)] = _
    by_cases h : g = f
    · have hb : (g == f) = true := beq_iff_eq.mpr h
      simp only [List.lookup, hb, if_pos h]
    · have hb : (g == f) = false := beq_eq_false_iff_ne.mpr h
      simp only [List.lookup, hb, if_neg h]
  | (k, x) :: r => by
    have ih := lookup_putF f g v r
    rw [show putF f v ((k, x) :: r) = (if k = f then (k, v) :: r else (k, x) :: putF f v r) from rfl]
    by_cases hk : k = f
    · rw [if_pos hk]
      by_cases h : g = k
      · have hb : (g == k) = true := beq_iff_eq.mpr h
        simp only [List.lookup, hb, if_pos (h.trans hk)]
      · have hb : (g == k) = false := beq_eq_false_iff_ne.mpr h
        simp only [List.lookup, hb, if_neg (fun e : g = f => h (e.trans hk.symm))]
    · rw [if_neg hk]
      by_cases h : g = k
      · have hb : (g == k) = true := beq_iff_eq.mpr h
        simp only [List.lookup, hb, if_neg (fun e : g = f => hk (h.symm.trans e))]
      · have hb : (g == k) = false := beq_eq_false_iff_ne.mpr h
        simp only [List.lookup, hb]
        exact ih
theorem keys_putF (f : Str) (v : V) : ∀ fs : List (Str × V), f ∈ (putF f v fs).map (·.1) ∧ ∀ g, g ∈ fs.map (·.1) → g ∈ (putF f v fs).map (·.1)
  | [] => ⟨by simp [putF], fun g h => by simp at h⟩
  | (k, x) :: r => by
    obtain ⟨i1, i2⟩ := keys_putF f v r
    rw [show putF f v ((k, x) :: r) = (if k = f then (k, v) :: r else (k, x) :: putF f v r) from rfl]
    by_cases hk : k = f
    · rw [if_pos hk]
      subst hk
      exact ⟨by simp, fun g h => by simpa using h⟩
    · rw [if_neg hk]
      refine ⟨?_, fun g h => ?_⟩
      · rw [List.map_cons]
        exact List.mem_cons_of_mem _ i1
      · rw [List.map_cons] at h ⊢
        rcases List.mem_cons.mp h with e | e
        · exact List.mem_cons.mpr (.inl e)
        · exact List.mem_cons_of_mem _ (i2 g e)
theorem length_putF (f : Str) (v : V) : ∀ fs : List (Str × V), (putF f v fs).length ≤ fs.length + 1
  | [] => by simp [putF]
  | (k, x) :: r => by
    have ih := length_putF f v r
    rw [show putF f v ((k, x) :: r) = (if k = f then (k, v) :: r else (k, x) :: putF f v r) from rfl]
    by_cases hk : k = f
    · rw [if_pos hk, List.length_cons, List.length_cons]; omega
    · rw [if_neg hk, List.length_cons, List.length_cons]; omega

theorem RelO.some_of {v : V} {o : Option Value} (r : RelO (some v) o) : ∃ u, o = some u ∧ RelV v u := by
  cases o with
  | none => exact (show False from r).elim
  | some u => exact ⟨u, rfl, r⟩
theorem RelO.none_of {o : Option Value} (r : RelO none o) : o = none := by
  cases o with
  | none => rfl
  | some u => exact (show False from r).elim
theorem handed_of {v : V} {u : Value} (r : RelV v u) : PySem.W.handedIn u = true := by
  cases v with
  | non => cases (show u = Value.none from r); rfl
  | bl b => cases (show u = Value.bool b from r); rfl
  | int i => obtain ⟨t, e⟩ := (show ∃ t, u = Value.int i t from r); cases e; rfl
  | str x => obtain ⟨t, e⟩ := (show ∃ t, u = Value.str x t from r); cases e; rfl
  | byt b => obtain ⟨t, e⟩ := (show ∃ t, u = Value.bytes b t from r); cases e; rfl
  | flt b => obtain ⟨t, e⟩ := (show ∃ t, u = Value.float b t from r); cases e; rfl
  | ref a => cases (show u = Value.ref a from r); rfl
  | ty n => cases (show u = Value.type n from r); rfl

section
variable {P : Program} {w : World} {H H' : Hp} {h h' : Heap} {a C dx : Addr} {fs fs' : List (Str × V)}
theorem ins_get (hok : HOk P w H h) (e : H a = some (.ins C dx fs)) : ∃ mA, ObjM h a dx C mA ∧ (∀ f, RelO (fs.lookup f) (mA f)) ∧ PySem.Within mA (fs.map (·.1)) ∧ fs.length ≤ 1000 ∧ H dx = some (.own a) := by
  obtain ⟨d, z, ne, ob, mA, n, r, q⟩ := (show ObjOk P w H h a (.ins C dx fs) from hok a _ e)
  exact ⟨mA, ⟨ob, n, ne⟩, r, q, z, d⟩
end

/-! ### what of the text a class must have -/
structure Cls (K : PySem.W.Frag) (C : Addr) : Prop where
  pg : PySem.W.plainGet K C Str.empty = true
  hd : PySem.W.hasDictIn K C = true
  po : PySem.W.plainOver K C = true
  sa : PySem.W.findIn K (.ref C) "__setattr__" = some (some (.builtin "object.__setattr__"))
theorem Cls.get {K : PySem.W.Frag} {C : Addr} (c : Cls K C) (f : Str) : PySem.W.plainGet K C f = true := c.pg
/-- no class of it has the name -/
def NoAttr (K : PySem.W.Frag) (C : Addr) (f : Str) : Prop := PySem.W.findIn K (.ref C) f = some none
theorem NoAttr.taker {K : PySem.W.Frag} {C : Addr} {f : Str} (n : NoAttr K C f) : PySem.W.takerIn K C f = some none := by
  unfold PySem.W.takerIn
  rw [show PySem.W.findIn K (.ref C) f = some none from n]
  rfl
/-- a method: a plain def of the class or of one above it -/
structure Meth (K : PySem.W.Frag) (C : Addr) (m : Str) (f : Addr) : Prop where
  at_ : PySem.W.findIn K (.ref C) m = some (some (.ref f))
  fn : PySem.W.isFn K (.ref f) = true
  kp : PySem.W.keepIn K (.ref f) = true

section
variable {X : Cx} {pins : List (Addr × Obj)} {σ : St} {H : Hp} {s : Shared} {a C dx : Addr} {fs : List (Str × V)} {f : Str} {v : V} {A : Around} {E : Value → Shared → Prop}

theorem getattr_ok {b : Bool} {Q : Value → Shared → Prop} (I : Inv X pins σ H s) (e : H a = some (.ins C dx fs)) (c : Cls X.K C) (n : NoAttr X.K C f) (l : fs.lookup f = some v)
    (h : ∀ u s', Inv X pins σ H s' → RelV v u → Q u s') : wpAny (model X.prog X.w) A (getAttr (.ref a) f b) Q E s := by
  obtain ⟨mA, O, r, _, _, _⟩ := ins_get I.hok e
  obtain ⟨u, hu, ru⟩ := RelO.some_of (v := v) (o := mA f) (by rw [← l]; exact r f)
  exact get_map I.kIn O (c.get f) c.hd n hu (handed_of ru) (h u _ (I.tok _) ru)

theorem getmeth_ok {m : Str} {g : Addr} {pl : Sem Bool} {Q : Value × List Value → Shared → Prop} (I : Inv X pins σ H s) (e : H a = some (.ins C dx fs)) (c : Cls X.K C) (k : Meth X.K C m g) (l : fs.lookup m = none)
    (h : Q (.ref g, [.ref a]) s) : wpAny (model X.prog X.w) A (getMethod (.ref a) m pl) Q E s := by
  obtain ⟨mA, O, r, _, _, _⟩ := ins_get I.hok e
  have hn : mA m = none := RelO.none_of (by rw [← l]; exact r m)
  exact get_meth I.kIn O (c.get m) k.at_ k.fn hn h

theorem setattr_ok {y : V} {u : Value} {Q : Unit → Shared → Prop} (I : Inv X pins σ H s) (e : H a = some (.ins C dx fs)) (c : Cls X.K C) (n : NoAttr X.K C f) (hl : fs.length < 1000) (ry : RelV y u)
    (h : ∀ s', Inv X pins σ (upd H a (.ins C dx (putF f y fs))) s' → Q () s') : wpAny (model X.prog X.w) A (setAttr (.ref a) f u) Q E s := by
  obtain ⟨mA, O, r, wi, _, ho⟩ := ins_get I.hok e
  have hz : (fs.map (·.1)).length ≤ sizeLine := by rw [List.length_map, sizeLine_eq]; omega
  refine set_map I.kIn O c.sa c.po n.taker c.hd wi hz fun h' O' sb => h _ ?_
  have hd : ∃ o, h'.get? dx = some o := let ⟨o, _, _, e', _⟩ := O'.ns; ⟨o, e'⟩
  refine I.write (x := a) (e := dx) (by rw [e]; exact True.intro) (.inr ho) (fun b q hb z => (sb.2 b hb).trans z) hd ?_
  refine ⟨by rw [upd_ne O.ne]; exact ho, ?_, O.ne, O'.obj, _, O'.ns, fun g => ?_, fun g hg => ?_⟩
  · have := length_putF f y fs; omega
  · show RelO ((putF f y fs).lookup g) (if g = f then some u else mA g)
    rw [lookup_putF]
    by_cases q : g = f
    · rw [if_pos q, if_pos q]; exact ry
    · rw [if_neg q, if_neg q]; exact r g
  · by_cases q : g = f
    · rw [q]; exact (keys_putF f y fs).1
    · refine (keys_putF f y fs).2 g (wi g fun z => hg ?_)
      show (if g = f then some u else mA g) = none
      rw [if_neg q]; exact z

/-- a new instance, tracked, without attributes -/
theorem Inv.made (I : Inv X pins σ H s) : Inv X pins σ (upd (upd H s.heap.objs.size (.own (s.heap.objs.size + 1))) (s.heap.objs.size + 1) (.ins C s.heap.objs.size []))
    { s with heap := (s.heap.push PySem.W.emptyDict).push (PySem.W.instObj C s.heap.objs.size) } := by
  have e1 : (s.heap.push PySem.W.emptyDict).get? s.heap.objs.size = some PySem.W.emptyDict := Heap.get?_push_size s.heap rfl
  have e2 : ((s.heap.push PySem.W.emptyDict).push (PySem.W.instObj C s.heap.objs.size)).get? (s.heap.objs.size + 1) = some (PySem.W.instObj C s.heap.objs.size) := by
    have := Heap.get?_push_size (s.heap.push PySem.W.emptyDict) (o := PySem.W.instObj C s.heap.objs.size) rfl
    rwa [Heap.size_push] at this
  have e3 : (s.heap.push PySem.W.emptyDict).Ns s.heap.objs.size (fun _ => none) := ⟨PySem.W.emptyDict, #[], _, e1, rfl, (fun e he => absurd he (by simp)), fun _ => rfl⟩
  have I1 := I.laid (a := s.heap.objs.size) (o := .own (s.heap.objs.size + 1)) (h' := s.heap.push PySem.W.emptyDict) (t' := s.toks) (fun b u q => Heap.get?_push_of_some _ q) (Nat.le_refl _) ⟨_, e1⟩
  refine I1.laid (a := s.heap.objs.size + 1) (o := .ins C s.heap.objs.size []) (t' := s.toks) (fun b u q => Heap.get?_push_of_some _ q) (Nat.le_of_eq (Heap.size_push _ _)) ?_
  have ne : s.heap.objs.size ≠ s.heap.objs.size + 1 := Nat.ne_of_lt (Nat.lt_succ_self _)
  refine ⟨by rw [upd_ne ne, upd_same], Nat.zero_le _, ne, e2, fun _ => none, (Heap.Ns1.of_empty e3).at fun o q => Heap.get?_push_of_some _ q, fun _ => True.intro, fun y hy => absurd rfl hy⟩

/-- e.f where nothing but the object is asked: through attributeBase (super) and the last hold -/
theorem attr_of {prog : Program} {w : World} {env : Env} {e : Expr} {f : Str} {pos : Pos} {s : Shared} {Q : Value → Shared → Prop} (hb : attributeBase e f env (eval e env) = eval e env)
    (h : wpAny (model prog w) A (eval e env) (fun o s₁ => wpAny (model prog w) A (getAttr o f true) Q E s₁) E s) : wpAny (model prog w) A (eval (.Attribute e f pos) env) Q E s :=
  Attribute_any_ h (by rw [arm_eval_Attribute, hb])
end

/-! ### readings and rules -/
/-- e.f, an attribute of the instance -/
def tFld (K : PySem.W.Frag) (ta : TE) (f : Str) : TE := fun σ H Q => ta σ H fun x H1 => ∃ a C dx fs v, x = .ref a ∧ H1 a = some (.ins C dx fs) ∧ Cls K C ∧ NoAttr K C f ∧ fs.lookup f = some v ∧ Q v H1
/-- e.f = value -/
def sFld (K : PySem.W.Frag) (ta tv : TE) (f : Str) : TS := fun D σ H => tv σ H fun y H1 => ta σ H1 fun x H2 => ∃ a C dx fs, x = .ref a ∧ H2 a = some (.ins C dx fs) ∧ Cls K C ∧ NoAttr K C f ∧ fs.length < 1000 ∧
  D.nx σ (upd H2 a (.ins C dx (putF f y fs)))
/-- an augmented operator on two values -/
def InOp (X : Cx) (op : Operator) (rd : V → V → Hp → VK → Prop) : Prop :=
  ∀ (pins : List (Addr × Obj)) (s : Shared) (σ : St) (H : Hp) (x y : V) (u v : Value) (Q : VK), Inv X pins σ H s → RelV x u → RelV y v → rd x y H Q → wpAny (model X.prog X.w) X.A (inplaceOp op u v) (EP X pins σ Q) X.xe s
/-- e.f op= value -/
def sFldAug (K : PySem.W.Frag) (ta tv : TE) (rd : V → V → Hp → VK → Prop) (f : Str) : TS := fun D σ H => ta σ H fun x H1 => ∃ a C dx fs v, x = .ref a ∧ H1 a = some (.ins C dx fs) ∧ Cls K C ∧ NoAttr K C f ∧ fs.lookup f = some v ∧
  tv σ H1 fun y H2 => rd v y H2 fun z H3 => ∃ dx' fs', H3 a = some (.ins C dx' fs') ∧ fs'.length < 1000 ∧ D.nx σ (upd H3 a (.ins C dx' (putF f z fs')))

section
variable {X : Cx} {o e value : Expr} {f : Str} {pos pos' tpos : Pos} {ta tv : TE}
theorem pe_fld (he : PE X e ta) (hb : attributeBase e f X.env (eval e X.env) = eval e X.env) : PE X (.Attribute e f pos) (tFld X.K ta f) := by
  intro pins s σ H Q I h
  refine attr_of hb (thn (he pins s σ H _ I h) fun u s1 ⟨x, H1, I1, rx, a, C, dx, fs, v, ex, ea, c, n, l, q⟩ => ?_)
  subst ex
  obtain rfl : u = Value.ref a := rx
  exact getattr_ok I1 ea c n l fun u' s2 I2 ru => ⟨v, H1, I2, ru, q⟩
theorem ps_fld (ha : PE X o ta) (hv : PE X value tv) (hs : swapsWith value (some (.Attribute o f pos')) pos.line X.env = pure false) : PS X (.Assign [.Attribute o f pos'] value pos) (sFld X.K ta tv f) := by
  intro pins s σ H D I h
  refine plainObj_wpAny_Assign_Attribute (thn (hv pins s σ H _ I h) fun u s1 ⟨y, H1, I1, ry, q⟩ => thn (ha pins s1 σ H1 _ I1 q) fun ov s2 ⟨x, H2, I2, rx, a, C, dx, fs, ex, ea, c, n, l, q2⟩ => ?_) hs
  subst ex
  obtain rfl : ov = Value.ref a := rx
  exact setattr_ok I2 ea c n l ry fun s3 I3 => ⟨σ, _, I3, q2⟩
theorem ps_fldaug {op : Operator} {rd : V → V → Hp → VK → Prop} (ha : PE X o ta) (hv : PE X value tv) (hop : InOp X op rd) : PS X (.AugAssign (.Attribute o f tpos) op value pos) (sFldAug X.K ta tv rd f) := by
  intro pins s σ H D I h
  refine wpAny_AugAssign_AttributeAny (thn (ha pins s σ H _ I h) fun ov s1 ⟨x, H1, I1, rx, a, C, dx, fs, v, ex, ea, c, n, l, q⟩ => ?_)
  subst ex
  obtain rfl : ov = Value.ref a := rx
  refine getattr_ok I1 ea c n l fun u s2 I2 ru => thn (hv pins s2 σ H1 _ I2 q) fun w3 s3 ⟨y, H2, I3, ry, q3⟩ => thn (hop pins s3 σ H2 v y u w3 _ I3 ru ry q3) fun w4 s4 ⟨z, H3, I4, rz, dx', fs', ea', l', q4⟩ => ?_
  exact setattr_ok I4 ea' c n l' rz fun s5 I5 => ⟨σ, _, I5, q4⟩
def rSub : V → V → Hp → VK → Prop := fun x y H Q => ∃ i j, x = .int i ∧ y = .int j ∧ Q (.int (i - j)) H
theorem in_sub : InOp X .Sub rSub := by
  rintro pins s σ H x y u v Q I rx ry ⟨i, j, rfl, rfl, q⟩
  obtain ⟨t, rfl⟩ := (show ∃ t, u = Value.int i t from rx)
  obtain ⟨t', rfl⟩ := (show ∃ t', v = Value.int j t' from ry)
  exact PyProof.Rows.isub_int ⟨.int (i - j), H, I.tok _, ⟨_, rfl⟩, q⟩

end

/-! ### isinstance -/
section
variable {X : Cx} {pins : List (Addr × Obj)} {σ : St} {H : Hp} {s : Shared} {A : Around} {E : Value → Shared → Prop} {Q : Value → Shared → Prop} {c : Value} {b : Bool}
/-- the type of a value, as the fragment's deciders take it; for an instance its class -/
inductive TyOf (K : PySem.W.Frag) (H : Hp) : V → Value → Prop where
  | non : TyOf K H .non (.type "NoneType")
  | bl (x : Bool) : TyOf K H (.bl x) (.type "bool")
  | int (i : Int) : TyOf K H (.int i) (.type "int")
  | str (x : Str) : TyOf K H (.str x) (.type "str")
  | flt (x : UInt64) : TyOf K H (.flt x) (.type "float")
  | lst {a : Addr} {xs : List V} (e : H a = some (.lst xs)) : TyOf K H (.ref a) (.type "list")
  | frz {a : Addr} {o : Obj} {xs : List V} (e : H a = some (.frz o (.lst xs))) : TyOf K H (.ref a) (.type "list")
  | tup {a : Addr} {xs : List V} (e : H a = some (.tup xs)) : TyOf K H (.ref a) (.type "tuple")
  | dK {a : Addr} {kvs : List (Key × V)} (e : H a = some (.dK kvs)) : TyOf K H (.ref a) (.type "dict")
  | dT {a : Addr} {kvs : List (List Key × V)} (e : H a = some (.dT kvs)) : TyOf K H (.ref a) (.type "dict")
  | ins {a C dx : Addr} {fs : List (Str × V)} (e : H a = some (.ins C dx fs)) (cl : Cls K C) (ha : PySem.W.findIn K (.ref C) "__class__" = some (some (.builtin "object.__class__")))
      (hn : PySem.W.specialIn K (.builtin "object.__class__") "__get__" = some (some (.builtin "getset_descriptor.__get__"))) (htk : PySem.W.takesIn K (.builtin "object.__class__") = some true)
      (hm : PySem.W.mroIn K C (.type "object") = some true) : TyOf K H (.ref a) (.ref C)
/-- isinstance(x, c) for one class c, a built-in or an own one: kitOne's answer -/
theorem isinst_ok {x : V} {u t : Value} (I : Inv X pins σ H s) (rx : RelV x u) (ty : TyOf X.K H x t) (e : PySem.W.kitOne X.K t c = some b) (h : ∀ tk, Q (.bool b) { s with toks := tk }) :
    wpAny (model X.prog X.w) A (call (.builtin "isinstance") [u, c]) Q E s := by
  cases ty with
  | non => cases (show u = Value.none from rx); exact PySem.W.kia_one PySem.W.kitx_none I.kIn True.intro e (fun z => nomatch z) h
  | bl y => cases (show u = Value.bool y from rx); exact PySem.W.kia_one PySem.W.kitx_bool I.kIn True.intro e (fun z => nomatch z) h
  | int i => obtain ⟨t, q⟩ := (show ∃ t, u = Value.int i t from rx); cases q; exact PySem.W.kia_one PySem.W.kitx_int I.kIn True.intro e (fun z => nomatch z) h
  | str y => obtain ⟨t, q⟩ := (show ∃ t, u = Value.str y t from rx); cases q; exact PySem.W.kia_one PySem.W.kitx_str I.kIn True.intro e (fun z => nomatch z) h
  | flt y => obtain ⟨t, q⟩ := (show ∃ t, u = Value.float y t from rx); cases q; exact PySem.W.kia_one PySem.W.kitx_float I.kIn True.intro e (fun z => nomatch z) h
  | @lst a xs ea =>
    cases (show u = Value.ref a from rx)
    obtain ⟨_, _, n, _, h1⟩ := (show ObjOk X.prog X.w H s.heap a (.lst xs) from I.hok a _ ea)
    exact PySem.W.kia_one PySem.W.kitx_list I.kIn ⟨_, h1, rfl⟩ e (fun z => nomatch z) h
  | @frz a ob xs ea =>
    cases (show u = Value.ref a from rx)
    obtain ⟨_, _, _, n, _, h1⟩ := (show ObjOk X.prog X.w H s.heap a (.frz ob (.lst xs)) from I.hok a _ ea)
    exact PySem.W.kia_one PySem.W.kitx_list I.kIn ⟨_, h1, rfl⟩ e (fun z => nomatch z) h
  | @tup a xs ea =>
    cases (show u = Value.ref a from rx)
    obtain ⟨_, _, _, p⟩ := (show ObjOk X.prog X.w H s.heap a (.tup xs) from I.hok a _ ea)
    obtain ⟨o, h1, h2, _⟩ := p
    exact PySem.W.kia_one PySem.W.kitx_tuple I.kIn ⟨o, h1, h2⟩ e (fun z => nomatch z) h
  | @dK a kvs ea =>
    cases (show u = Value.ref a from rx)
    obtain ⟨_, _, vs, _, p⟩ := (show ObjOk X.prog X.w H s.heap a (.dK kvs) from I.hok a _ ea)
    obtain ⟨o, es, ep, h1, h2, _⟩ := p
    exact PySem.W.kia_one PySem.W.kitx_dict I.kIn ⟨o, h1, h2.1⟩ e (fun z => nomatch z) h
  | @dT a kvs ea =>
    cases (show u = Value.ref a from rx)
    obtain ⟨_, _, xs, _, o, es, ep, h1, h2, _⟩ := (show ObjOk X.prog X.w H s.heap a (.dT kvs) from I.hok a _ ea)
    exact PySem.W.kia_one PySem.W.kitx_dict I.kIn ⟨o, h1, h2.1⟩ e (fun z => nomatch z) h
  | @ins a C dx fs ea cl ha hn htk hm =>
    cases (show u = Value.ref a from rx)
    obtain ⟨mA, O, _⟩ := ins_get I.hok ea
    obtain ⟨od, J, _⟩ := O.look
    exact PySem.W.kia_one (PySem.W.kitx_own (cl.get _) cl.hd ha hn htk hm) I.kIn J e (fun z => nomatch z) h
end
end L2

namespace L2
open PySem PySem.Spec PyProof.Rows

/-! ### room -/
structure Room (k : Nat) (A : Around) : Prop where
  hd : A.handled = none
  dp : A.depth + 3 * k + 5 < recursionLimit
  un : A.units + 16 * k + 200 < cLine
theorem Room.mono {j k : Nat} {A : Around} (r : Room k A) (h : j ≤ k) : Room j A := ⟨r.hd, by have := r.dp; omega, by have := r.un; omega⟩
theorem Room.deeper {k : Nat} {A : Around} (r : Room (k + 1) A) (env : Env) : Room k (A.deeper env) :=
  ⟨r.hd, by have := r.dp; show A.depth + 1 + 3 * k + 5 < _; omega, by have := r.un; show A.units + 3 + 16 * k + 200 < _; omega⟩
theorem make_depth {A : Around} {C : Addr} {us : List Value} {kw : List (Str × Value)} : (A.under (.builtin "type.__call__" ⟨.ref C :: us, kw⟩)).depth = A.depth + 1 := by
  first | rfl | simp [Around.under, Code.weight, Code.isCreation, Code.isGuard, Code.isCaller, Code.frames, Code.isFrame, guardIds]
theorem make_units {A : Around} {C : Addr} {us : List Value} {kw : List (Str × Value)} : (A.under (.builtin "type.__call__" ⟨.ref C :: us, kw⟩)).units = A.units + 1 := by
  first | rfl | simp [Around.under, Code.cUnits, Code.frames, Code.isFrame]
theorem Room.make {k : Nat} {A : Around} (r : Room (k + 1) A) (C : Addr) (us : List Value) (kw : List (Str × Value)) : Room k (A.under (.builtin "type.__call__" ⟨.ref C :: us, kw⟩)) :=
  ⟨r.hd, by have := r.dp; rw [make_depth]; omega, by have := r.un; rw [make_units]; omega⟩
theorem Room.depth {k : Nat} {A : Around} (r : Room k A) : A.depth < recursionLimit := by have := r.dp; omega
theorem Room.units {k : Nat} {A : Around} (r : Room k A) : A.units + 64 < cLine := by have := r.un; omega
theorem Room.units0 {k : Nat} {A : Around} (r : Room k A) : A.units < cLine := by have := r.un; omega

/-! ### argument lists and displays -/
def tNil : TA := fun _ H Q => Q [] H
def tCons (ta : TE) (tr : TA) : TA := fun σ H Q => ta σ H fun x H1 => tr σ H1 fun xs H2 => Q (x :: xs) H2
section
variable {X : Cx} {e : Expr} {es : List Expr} {te : TE} {t : TA} {pos : Pos}
theorem pa_nil : PA X [] tNil := fun _ _ _ _ H Q I h => Calls.spliced_nil ⟨[], H, I, .nil, h⟩
theorem pa_cons (ha : PE X e te) (hr : PA X es t) (hs : starEach (e :: es) X.env = (false, eval e X.env) :: starEach es X.env := by rfl) : PA X (e :: es) (tCons te t) := by
  intro pos pins s σ H Q I h
  rw [hs]
  show wpAny _ _ (spliced ((false, eval e X.env) :: backTo pos (starEach es X.env))) _ _ s
  refine Calls.spliced_cons (thn (ha pins s σ H _ I h) fun u s1 ⟨x, H1, I1, r1, q1⟩ => ?_)
  exact thn (hr pos pins s1 σ H1 _ I1 q1) fun us s2 ⟨xs, H2, I2, r2, q2⟩ => ⟨x :: xs, H2, I2, .cons r1 r2, q2⟩

/-- a tuple, a list of written items -/
def tTup (t : TA) : TE := fun σ H Q => t σ H fun xs H1 => xs.length ≤ sizeLine ∧ ∀ p, H1 p = none → Q (.ref p) (upd H1 p (.tup xs))
def tLst (t : TA) : TE := fun σ H Q => t σ H fun xs H1 => xs.length ≤ sizeLine ∧ ∀ p, H1 p = none → Q (.ref p) (upd H1 p (.lst xs))
theorem pe_tup {x1} (h : PA X es t) : PE X (.Tuple es x1 pos) (tTup t) := by
  intro pins s σ H Q I hq
  refine wpAny_Tuple_spliced (thn (h pos pins s σ H _ I hq) fun us s1 ⟨xs, H1, I1, r, z, q⟩ => ⟨by rw [← r.length]; exact z, ?_⟩)
  have hf : H1 s1.heap.objs.size = none := I1.hok.fresh (Nat.le_refl _)
  refine ⟨.ref s1.heap.objs.size, upd H1 s1.heap.objs.size (.tup xs), I1.laid (t' := s1.toks) (fun b u e => Heap.get?_push_of_some _ e) (Nat.le_refl _) ?_, rfl, q _ hf⟩
  exact ⟨z, us, r, ⟨_, Heap.get?_push_size _ rfl, rfl, _, rfl⟩⟩
theorem pe_lst (h : PA X es t) : PE X (.List es pos) (tLst t) := by
  intro pins s σ H Q I hq
  refine wpAny_List_spliced (thn (h pos pins s σ H _ I hq) fun us s1 ⟨xs, H1, I1, r, z, q⟩ => ⟨by rw [← r.length]; exact z, ?_⟩)
  have hf : H1 s1.heap.objs.size = none := I1.hok.fresh (Nat.le_refl _)
  refine ⟨.ref s1.heap.objs.size, upd H1 s1.heap.objs.size (.lst xs), I1.laid (t' := s1.toks) (fun b u e => Heap.get?_push_of_some _ e) (Nat.le_refl _) ?_, rfl, q _ hf⟩
  exact ⟨z, us, 0, r, Heap.get?_push_size _ rfl⟩
end

/-! ### what a def promises -/
/-- a def's promise: the bound arguments in the parameters' order, the heap, the wanted end, the wanted exception -/
abbrev Sp := List V → Hp → VK → XK → Prop
/-- how an exception lies behind a call (file 08 gives it): the callers' frames, abstract heap and state ahead of the call, the wish, the exception, the state -/
abbrev CXT := List Env → Hp → Shared → XK → Value → Shared → Prop

/-- the state at a call -/
structure Env0 (P : Program) (w : World) (K : PySem.W.Frag) (mg : Str → Option Value) (base : Heap) (A : Around) (outer : List Env) (s : Shared) (H : Hp) : Prop where
  frames : A.frames = some outer
  mod : Mod K mg base
  bs : ∀ b o, base.get? b = some o → s.heap.get? b = some o ∧ H b = none
  bsz : base.objs.size ≤ s.heap.objs.size
  funs : s.heap.FunFrames base outer
  frf : ∀ b ∈ frs outer, H b = none
  hok : HOk P w H s.heap
  bare : AllBare s.gens
/-- a call's end -/
def CE (outer : List Env) (P : Program) (w : World) (H : Hp) (s : Shared) (Q : VK) (u : Value) (s' : Shared) : Prop :=
  ∃ v H', s'.os = s.os ∧ AllBare s'.gens ∧ Un (frs outer) [] H H' s.heap s'.heap ∧ HOk P w H' s'.heap ∧ RelV v u ∧ Q v H'
def CR (CX : CXT) (outer : List Env) (P : Program) (w : World) (H : Hp) (s : Shared) (Q : VK) (E : XK) (r : Result) (s' : Shared) : Prop :=
  match r with
  | .ok (.ret u) => CE outer P w H s Q u s'
  | .ok _ => False
  | .error e => CX outer H s E e s'
structure FnOk (P : Program) (w : World) (K : PySem.W.Frag) (mg : Str → Option Value) (base : Heap) (CX : CXT) (k : Nat) (f : Addr) (fd : FuncData) (ps : List Str) (sp : Sp) : Prop where
  len : ∀ vs H Q E, sp vs H Q E → vs.length = ps.length
  run : ∀ (A : Around) (outer : List Env) (s : Shared) (H : Hp) (args : Args) (us : List Value) (vs : List V) (Q : VK) (E : XK), Room k A → Env0 P w K mg base A outer s H → BindsTo s fd args (ps.zip us) → Vals vs us → sp vs H Q E →
    codeAny (model P w) A (.call (.ref f) args) (CR CX outer P w H s Q E) s
theorem Env0.make {P : Program} {w : World} {K : PySem.W.Frag} {mg : Str → Option Value} {base : Heap} {A : Around} {outer : List Env} {s : Shared} {H : Hp} (e : Env0 P w K mg base A outer s H) (C : Addr) (us : List Value) (kw : List (Str × Value)) :
    Env0 P w K mg base (A.under (.builtin "type.__call__" ⟨.ref C :: us, kw⟩)) outer s H := ⟨by first | exact e.frames | (simpa [Around.under, Code.envs, Code.isFrame, pushEnvs] using e.frames), e.mod, e.bs, e.bsz, e.funs, e.frf, e.hok, e.bare⟩
section
variable {X : Cx} {pins : List (Addr × Obj)} {σ : St} {H : Hp} {s s' : Shared}
/-- from a body: what a callee wants -/
theorem Inv.env0 (I : Inv X pins σ H s) : Env0 X.prog X.w X.K X.mg X.base X.A X.stack s H :=
  ⟨I.ok.frames, I.ok.mod, I.bs, Nat.le_trans I.ok.bsz I.sz, I.stack, I.stkFree, I.hok, I.bare⟩
/-- behind a call -/
theorem Inv.after {Q : VK} {u : Value} (I : Inv X pins σ H s) (h : CE X.stack X.prog X.w H s Q u s') : EP X pins σ Q u s' := by
  obtain ⟨v, H', os, bare, un, hok, r, q⟩ := h
  obtain ⟨hh, g, d, t, os'⟩ := s'
  obtain rfl : os' = s.os := os
  exact ⟨v, H', I.call (h' := hh) (g' := g) (d' := d) (t' := t) (ch := []) un hok bare (fun b z => absurd z (by simp)), r, q⟩
end

/-! ### calls -/
/-- f(..): the written arguments, then the defaults dvs; E: what is wanted of an exception -/
def tCall (sp : Sp) (dvs : List V) (E : XK) (t : TA) : TE := fun σ H Q => t σ H fun vs H1 => sp (vs ++ dvs) H1 Q E
/-- o.m(..) of an instance of the class at C -/
def tMeth (C : Addr) (m : Str) (sp : Sp) (dvs : List V) (E : XK) (ta : TE) (t : TA) : TE := fun σ H Q => ta σ H fun x H1 => ∃ a dx fs, x = .ref a ∧ H1 a = some (.ins C dx fs) ∧ fs.lookup m = none ∧
  t σ H1 fun vs H2 => sp (x :: (vs ++ dvs)) H2 Q E
/-- C(..): a new instance and its dict, then __init__ -/
def tMake (C : Addr) (sp : Sp) (dvs : List V) (E : XK) (t : TA) : TE := fun σ H Q => t σ H fun vs H1 => ∀ x dx, H1 x = none → H1 dx = none → dx ≠ x →
  sp (.ref x :: (vs ++ dvs)) (upd (upd H1 dx (.own x)) x (.ins C dx [])) (fun v H2 => v = .non ∧ Q (.ref x) H2) E

/-- how the parameters are bound: us the positional arguments, kw the keywords' values by name, ds the defaults that fill up -/
def Binds (K : PySem.W.Frag) (fd : FuncData) (ps : List Str) (ds : List Value) : Prop :=
  ∀ (s : Shared) (us : List Value), K.In s.heap → (us ++ ds).length = ps.length → BindsTo s fd ⟨us, []⟩ (ps.zip (us ++ ds))
/-- every parameter is given -/
theorem Binds.all {K : PySem.W.Frag} {fd : FuncData} {ps : List Str} (h : ∀ us : List Value, us.length = ps.length → bindArgs fd ⟨us, []⟩ = pure (ps.zip us)) : Binds K fd ps [] := fun s us _ hl => by
  rw [List.append_nil] at hl ⊢
  exact .of_eq (h us hl)

/-- an exception of a callee reaches what this body wants of exceptions -/
def Passes (CX : CXT) (X : Cx) (E : XK) : Prop := ∀ (pins : List (Addr × Obj)) (σ : St) (H : Hp) (s : Shared) (e : Value) (s' : Shared), Inv X pins σ H s → CX X.stack H s E e s' → X.xe e s'

section
variable {X : Cx} {CX : CXT} {k : Nat} {f C : Addr} {fd : FuncData} {ps : List Str} {sp : Sp} {dvs : List V} {ds : List Value} {E : XK} {x m : Str} {p pos apos : Pos} {e o : Expr} {es : List Expr} {ta : TE} {t : TA}

/-- the callee runs -/
theorem run_fn {pins : List (Addr × Obj)} {σ : St} {H : Hp} {s : Shared} {Q : VK} {us : List Value} {vs : List V} (F : FnOk X.prog X.w X.K X.mg X.base CX k f fd ps sp) (hr : Room k X.A) (hb : Binds X.K fd ps ds) (hd : Vals dvs ds) (hx : Passes CX X E)
    (I : Inv X pins σ H s) (r : Vals vs us) (h : sp (vs ++ dvs) H Q E) : wpAny (model X.prog X.w) X.A (call (.ref f) us) (EP X pins σ Q) X.xe s := by
  have r2 : Vals (vs ++ dvs) (us ++ ds) := r.append hd
  have hl : (us ++ ds).length = ps.length := by rw [← r2.length]; exact F.len _ _ _ _ h
  refine wpAny_call (codeAny_mono (F.run X.A X.stack s H ⟨us, []⟩ (us ++ ds) (vs ++ dvs) Q E hr I.env0 (hb s us I.kIn hl) r2 h) fun r s' hq => ?_)
  cases r with
  | error e => exact hx pins σ H s e s' I hq
  | ok fl =>
    cases fl with
    | ret u => exact I.after hq
    | next => exact False.elim hq
    | brk => exact False.elim hq
    | cont => exact False.elim hq

theorem pe_call (F : FnOk X.prog X.w X.K X.mg X.base CX k f fd ps sp) (hr : Room k X.A) (hg : Gl X x) (hm : X.mg x = some (.ref f)) (hk : PySem.W.keepIn X.K (.ref f) = true) (hb : Binds X.K fd ps ds) (hd : Vals dvs ds) (hx : Passes CX X E)
    (ha : PA X (e :: es) t) (hdb : (x == ("__debug__" : Str)) = false := by decide) (he : starEach (e :: es) X.env = (false, eval e X.env) :: starEach es X.env := by rfl) (hpl : (backTo pos (starEach es X.env)).any (·.1) = false := by rfl) :
    PE X (.Call (.Name x p) (e :: es) [] pos) (tCall sp dvs E t) := by
  intro pins s σ H Q I h
  refine wpAny_Call_Name_kw (ld_glob I hg hm ?_ hdb)
  refine PySem.W.callWith_K (h₀ := X.base) I.ok.mod.kin hk (thn (ha pos pins s σ H _ I h) fun us s1 ⟨vs, H1, I1, r, q⟩ => ⟨I1.kIn, ?_⟩) he hpl
  exact run_fn F hr hb hd hx I1 r q
/-- o.m(e, ..) -/
theorem pe_meth {pl : Sem Bool} (he : PE X o ta) (c : Cls X.K C) (hm : Meth X.K C m f) (F : FnOk X.prog X.w X.K X.mg X.base CX k f fd ps sp) (hr : Room k X.A) (hb : Binds X.K fd ps ds) (hd : Vals dvs ds) (hx : Passes CX X E) (ha : PA X (e :: es) t)
    (hst : starEach (e :: es) X.env = (false, eval e X.env) :: starEach es X.env := by rfl) (hpl : (backTo pos (starEach es X.env)).any (·.1) = false := by rfl)
    (ht : eval (.Call (.Attribute o m apos) (e :: es) [] pos) X.env = (do
      let ov ← eval o X.env
      standAt apos.atName
      let (f, first) ← holding [ov] (getMethod ov m pl)
      callWith pos f first (backTo pos (starEach (e :: es) X.env)) (backToKw pos (keywordEach [] X.env))) := by rfl) :
    PE X (.Call (.Attribute o m apos) (e :: es) [] pos) (tMeth C m sp dvs E ta t) := by
  intro pins s σ H Q I h
  refine PySem.W.methodCall_KW (pl := pl) (thn (he pins s σ H _ I h) fun u s1 ⟨x, H1, I1, rx, a, dx, fs, ex, ea, l, q⟩ => ?_) ht
  subst ex
  obtain rfl : u = Value.ref a := rx
  refine getmeth_ok I1 ea c hm l ?_
  refine PySem.W.callWith_K (first := [.ref a]) (h₀ := X.base) I.ok.mod.kin hm.kp (thn (ha pos pins s1 σ H1 _ I1 q) fun us s2 ⟨vs, H2, I2, r, q2⟩ => ⟨I2.kIn, ?_⟩) hst hpl
  exact run_fn (us := .ref a :: us) (vs := .ref a :: vs) F hr hb hd hx I2 (.cons rfl r) q2
/-- o.m() -/
theorem pe_meth0 {pl : Sem Bool} (he : PE X o ta) (c : Cls X.K C) (hm : Meth X.K C m f) (F : FnOk X.prog X.w X.K X.mg X.base CX k f fd ps sp) (hr : Room k X.A) (hb : Binds X.K fd ps ds) (hd : Vals dvs ds) (hx : Passes CX X E)
    (ht : eval (.Call (.Attribute o m apos) [] [] pos) X.env = (do
      let ov ← eval o X.env
      standAt apos.atName
      let (f, first) ← holding [ov] (getMethod ov m pl)
      callWith pos f first (backTo pos (starEach [] X.env)) (backToKw pos (keywordEach [] X.env))) := by rfl) :
    PE X (.Call (.Attribute o m apos) [] [] pos) (tMeth C m sp dvs E ta tNil) := by
  intro pins s σ H Q I h
  refine PySem.W.methodCall_KW (pl := pl) (thn (he pins s σ H _ I h) fun u s1 ⟨x, H1, I1, rx, a, dx, fs, ex, ea, l, q⟩ => ?_) ht
  subst ex
  obtain rfl : u = Value.ref a := rx
  refine getmeth_ok I1 ea c hm l ?_
  exact PySem.W.callWith_K0 (first := [.ref a]) I1.kIn hm.kp (run_fn (us := [.ref a]) (vs := [.ref a]) F hr hb hd hx I1 (.cons rfl .nil) q)

/-- what a class must have to be made -/
structure Mk (K : PySem.W.Frag) (C f : Addr) : Prop where
  makes : PySem.W.makesIn K C = true
  init : PySem.W.findIn K (.ref C) "__init__" = some (some (.ref f))
  fn : PySem.W.isFn K (.ref f) = true
  kp : PySem.W.keepIn K (.ref C) = true

theorem run_make {pins : List (Addr × Obj)} {σ : St} {H : Hp} {s : Shared} {Q : VK} {us : List Value} {vs : List V} (M : Mk X.K C f) (F : FnOk X.prog X.w X.K X.mg X.base CX k f fd ps sp) (hr : Room (k + 1) X.A) (hb : Binds X.K fd ps ds) (hd : Vals dvs ds)
    (hx : Passes CX X E) (I : Inv X pins σ H s) (r : Vals vs us)
    (h : ∀ x dx, H x = none → H dx = none → dx ≠ x → sp (.ref x :: (vs ++ dvs)) (upd (upd H dx (.own x)) x (.ins C dx [])) (fun v H2 => v = .non ∧ Q (.ref x) H2) E) :
    wpAny (model X.prog X.w) X.A (call (.ref C) us) (EP X pins σ Q) X.xe s := by
  have hq := h (s.heap.objs.size + 1) s.heap.objs.size (I.hok.fresh (Nat.le_succ _)) (I.hok.fresh (Nat.le_refl _)) (Nat.ne_of_lt (Nat.lt_succ_self _))
  have I2 := Inv.made (C := C) I
  have r2 : Vals (V.ref (s.heap.objs.size + 1) :: (vs ++ dvs)) (Value.ref (s.heap.objs.size + 1) :: (us ++ ds)) := .cons rfl (r.append hd)
  have hl : (Value.ref (s.heap.objs.size + 1) :: us ++ ds).length = ps.length := by
    have e := r2.length
    rw [F.len _ _ _ _ hq] at e
    exact e.symm
  refine wpAny_call (make_map (f := f) I.kIn M.makes M.init (beq_iff_eq.mp M.fn) (codeAny_mono (F.run _ X.stack _ _ ⟨Value.ref (s.heap.objs.size + 1) :: us, []⟩ (Value.ref (s.heap.objs.size + 1) :: (us ++ ds)) _ _ E (hr.make C us [])
    (I2.env0.make C us []) (hb _ (Value.ref (s.heap.objs.size + 1) :: us) I2.kIn hl) r2 hq) fun r s' hq' => ?_))
  cases r with
  | error e => exact hx pins σ _ _ e s' I2 hq'
  | ok fl =>
    cases fl with
    | ret u =>
      obtain ⟨v, H', I3, rv, ev, q3⟩ := I2.after hq'
      subst ev
      exact ⟨rv, ⟨V.ref (s.heap.objs.size + 1), H', I3, rfl, q3⟩⟩
    | next => exact False.elim hq'
    | brk => exact False.elim hq'
    | cont => exact False.elim hq'
theorem pe_make (M : Mk X.K C f) (F : FnOk X.prog X.w X.K X.mg X.base CX k f fd ps sp) (hr : Room (k + 1) X.A) (hg : Gl X x) (hm : X.mg x = some (.ref C)) (hb : Binds X.K fd ps ds) (hd : Vals dvs ds) (hx : Passes CX X E)
    (ha : PA X (e :: es) t) (hdb : (x == ("__debug__" : Str)) = false := by decide) (he : starEach (e :: es) X.env = (false, eval e X.env) :: starEach es X.env := by rfl) (hpl : (backTo pos (starEach es X.env)).any (·.1) = false := by rfl) :
    PE X (.Call (.Name x p) (e :: es) [] pos) (tMake C sp dvs E t) := by
  intro pins s σ H Q I h
  refine wpAny_Call_Name_kw (ld_glob I hg hm ?_ hdb)
  refine PySem.W.callWith_K (h₀ := X.base) I.ok.mod.kin M.kp (thn (ha pos pins s σ H _ I h) fun us s1 ⟨vs, H1, I1, r, q⟩ => ⟨I1.kIn, ?_⟩) he hpl
  exact run_make M F hr hb hd hx I1 r q
end

/-! ### keywords -/
section
variable {X : Cx} {CX : CXT} {k : Nat} {f C : Addr} {fd : FuncData} {ps ks : List Str} {sp : Sp} {E : XK} {x m : Str} {p pos apos kpos : Pos} {e o : Expr} {es : List Expr} {kws : List Keyword} {te ta : TE} {t tk : TA} {nm : Option Str}
variable {g : List Value → List Value → List Value} {gV : List V → List V → List V}
end

/-! ### a def's body keeps its promise -/
/-- names: the parameters first -/
structure FnScope (N P : List Str) (sc : Scope) : Prop where
  kind : sc.kind = .function
  co : sc.isCoroutine = false
  gen : sc.isGenerator = false
  nd : N.Nodup
  pre : N.take P.length = P
  par : ∀ x ∈ P, sc.names.lookup x = some .local ∨ sc.names.lookup x = some .cell
  nofree : ∀ y ∈ sc.names, y.2 ≠ .free

theorem bindL_out {kindOf : Str → Option NameKind} {x : Str} : ∀ {binds : List (Str × Value)} {m : Str → Option Value}, (∀ v, (x, v) ∉ binds) → bindL kindOf binds m x = m x
  | [], _, _ => rfl
  | (n, v) :: r, m, h => by
    unfold bindL
    rw [bindL_out fun w hw => h w (List.mem_cons_of_mem _ hw)]
    split
    · have : x ≠ n := by rintro rfl; exact h v List.mem_cons_self
      simp [this]
    · rfl
theorem bindC_out {kindOf : Str → Option NameKind} {x : Str} : ∀ {binds : List (Str × Value)} {m : Str → Option Value}, (∀ v, (x, v) ∉ binds) → bindC kindOf binds m x = m x
  | [], _, _ => rfl
  | (n, v) :: r, m, h => by
    unfold bindC
    rw [bindC_out fun w hw => h w (List.mem_cons_of_mem _ hw)]
    split
    · rfl
    · have : x ≠ n := by rintro rfl; exact h v List.mem_cons_self
      simp [this]
theorem bindL_get {kindOf : Str → Option NameKind} {x : Str} {v : Value} : ∀ {P : List Str} {vs : List Value} {i : Nat} {m : Str → Option Value}, P.Nodup → P[i]? = some x → vs[i]? = some v → kindOf x = some .local →
    bindL kindOf (P.zip vs) m x = some v
  | [], _, _, _, _, h, _, _ => by simp at h
  | _ :: _, [], _, _, _, _, h, _ => by simp at h
  | p :: P, w :: vs, 0, m, nd, h1, h2, hk => by
    simp at h1 h2; subst h1; subst h2
    show bindL kindOf ((p, w) :: P.zip vs) m p = _
    unfold bindL
    rw [bindL_out fun v hv => (List.nodup_cons.mp nd).1 (List.of_mem_zip hv).1, if_pos hk]
    simp
  | p :: P, w :: vs, i + 1, m, nd, h1, h2, hk => by
    show bindL kindOf ((p, w) :: P.zip vs) m x = _
    unfold bindL
    exact bindL_get (i := i) (List.nodup_cons.mp nd).2 (by simpa using h1) (by simpa using h2) hk
theorem bindC_get {kindOf : Str → Option NameKind} {x : Str} {v : Value} : ∀ {P : List Str} {vs : List Value} {i : Nat} {m : Str → Option Value}, P.Nodup → P[i]? = some x → vs[i]? = some v → kindOf x ≠ some .local →
    bindC kindOf (P.zip vs) m x = some v
  | [], _, _, _, _, h, _, _ => by simp at h
  | _ :: _, [], _, _, _, _, h, _ => by simp at h
  | p :: P, w :: vs, 0, m, nd, h1, h2, hk => by
    simp at h1 h2; subst h1; subst h2
    show bindC kindOf ((p, w) :: P.zip vs) m p = _
    unfold bindC
    rw [bindC_out fun v hv => (List.nodup_cons.mp nd).1 (List.of_mem_zip hv).1, if_neg hk]
    simp
  | p :: P, w :: vs, i + 1, m, nd, h1, h2, hk => by
    show bindC kindOf ((p, w) :: P.zip vs) m x = _
    unfold bindC
    exact bindC_get (i := i) (List.nodup_cons.mp nd).2 (by simpa using h1) (by simpa using h2) hk

/-- the names' values at the entry -/
def start (N : List Str) (vs : List V) : St := vs.map some ++ List.replicate (N.length - vs.length) none

/-- the context of a def's body, at its entry; an exception leaves the frame, then lies as CX says -/
def cxOf (CX : CXT) (P : Program) (w : World) (K : PySem.W.Frag) (mg : Str → Option Value) (base : Heap) (N : List Str) (qual : Str) (scope : Scope) (f : Addr) (cd : Value) (A : Around) (outer : List Env) (s : Shared) (H : Hp) (E : XK) : Cx where
  prog := P
  w := w
  K := K
  mg := mg
  base := base
  A := A.deeper (envOfC qual scope s.heap.objs.size f cd)
  N := N
  s₀ := s
  H₀ := H
  env := envOfC qual scope s.heap.objs.size f cd
  outer := outer
  stack := envOfC qual scope s.heap.objs.size f cd :: outer
  ex := []
  calm := true
  fn := fun _ => true
  pn := []
  xe := fun e s' => wpAny (model P w) (A.deeper (envOfC qual scope s.heap.objs.size f cd)) (leaving (envOfC qual scope s.heap.objs.size f cd) e) (fun _ s'' => CX outer H s E e s'') (fun e' s'' => CX outer H s E e' s'') s'

theorem cell_has {sc : Scope} {n : Nat} {x : Str} (h : sc.names.lookup x = some .cell) : ∃ c, (cellsFrom n sc.names []).lookup x = some c := by
  have q := PySem.W.cellsFrom_some sc.names n [] (.inl h)
  exact Option.isSome_iff_exists.mp q

theorem inv_start {CX : CXT} {P : Program} {w : World} {K : PySem.W.Frag} {mg : Str → Option Value} {base : Heap} {N ps : List Str} {qual : Str} {scope : Scope} {f : Addr} {cd : Value} {A : Around} {outer : List Env} {s s1 : Shared} {H : Hp} {E : XK} {us : List Value} {vs : List V}
    (S : FnScope N ps scope) (hd : A.handled = none) (e0 : Env0 P w K mg base A outer s H) (hl : vs.length = ps.length) (r : Vals vs us)
    (x : InCallC s s.heap.objs.size (bindL (envOfC qual scope s.heap.objs.size f cd).kindOf (ps.zip us) fun _ => none) (cellsFrom (s.heap.objs.size + 1) scope.names []) (bindC (envOfC qual scope s.heap.objs.size f cd).kindOf (ps.zip us) fun _ => none) s1) :
    Inv (cxOf CX P w K mg base N qual scope f cd A outer s H E) [] (start N vs) H s1 := by
  have hpl : ps.length ≤ N.length := by have := congrArg List.length S.pre; rw [List.length_take] at this; omega
  obtain ⟨h1, tk, rfl, hk⟩ := x.done
  have noA : ∀ b : Addr, b ∉ (cxOf CX P w K mg base N qual scope f cd A outer s H E).ex := fun b z => absurd (show b ∈ ([] : List Addr) from z) (by simp)
  refine ⟨⟨e0.mod, S.kind, rfl, rfl, Nat.le_refl _, fun y z c h1 h2 => ?_, fun y hy => ?_, fun y c _ h => ?_, fun _ => hd, Around.frames_deeper e0.frames, .inr ⟨rfl, rfl⟩, fun b z => absurd z (noA b), e0.bs, e0.bsz, fun b _ _ => noA b, fun b z => absurd z (noA b), e0.funs, e0.frf⟩,
    rfl, e0.bare, Un.kept hk, ⟨_, x.toInCall.ns, fun i y v h1 h2 h3 => ?_⟩, fun y c h => ⟨_, x.cell y c h⟩, e0.hok.fresh (Nat.le_refl _), fun y c h => ?_, fun p hp => absurd (show p ∈ ([] : List (Addr × Obj)) from hp) (by simp), e0.hok.kept hk, ?_⟩
  · exact name_of_addr x.apart (PySem.mem_of_lookup h1) (PySem.mem_of_lookup h2)
  · have hy : scope.names.lookup y = some .cell ∨ scope.names.lookup y = some .free := hy
    rcases hy with hy | hy
    · exact cell_has hy
    · exact absurd rfl (S.nofree _ (PySem.mem_of_lookup hy))
  · exact Nat.le_of_lt (x.above y c (PySem.mem_of_lookup h))
  · have hi : i < vs.length := by
      unfold start at h2
      by_cases hi : i < vs.length
      · exact hi
      · rw [List.getElem?_append_right (by simpa using hi)] at h2
        rw [List.getElem?_replicate] at h2
        split at h2 <;> cases h2
    have ha : vs[i]? = some v := by
      unfold start at h2
      rw [List.getElem?_append_left (by simpa using hi), List.getElem?_map] at h2
      cases e : vs[i]? with
      | none => rw [e] at h2; cases h2
      | some a => rw [e] at h2; cases h2; rfl
    obtain ⟨u, hu, rv⟩ := r.get ha
    have hp : ps[i]? = some y := by
      rw [← S.pre, List.getElem?_take_of_lt (by omega)]; exact h1
    have ndP : ps.Nodup := by rw [← S.pre]; exact S.nd.sublist (List.take_sublist _ _)
    refine ⟨u, rv, ?_⟩
    rcases S.par y (List.mem_of_getElem? hp) with k | k
    · exact .inl ⟨k, bindL_get ndP hp hu k⟩
    · obtain ⟨c, e⟩ := cell_has (n := s.heap.objs.size + 1) k
      refine .inr ⟨.inl k, c, e, ?_⟩
      have q := x.cell y c e
      rw [bindC_get ndP hp hu (by show scope.names.lookup y ≠ _; rw [k]; decide)] at q
      exact q
  · exact e0.hok.fresh (Nat.le_of_lt (x.above y c (PySem.mem_of_lookup h)))
  · unfold start
    show _ = N.length
    rw [List.length_append, List.length_map, List.length_replicate]
    omega

/-- THE RULE: a def (or a method) of the text, by its body. The body's reading t is chosen for each entry; it is run at the parameters' values -/
theorem fn_of {CX : CXT} {P : Program} {w : World} {K : PySem.W.Frag} {mg : Str → Option Value} {base : Heap} {k : Nat} {f : Addr} {name qual : Str} {params : Arguments} {body : List Stmt} {scope : Scope} {dV kV doc pm cdv ct oc : Value} {an od : Option Addr}
    {osl : Array (Option Value)} {N ps : List Str} {sp : Sp} (lk : K.lookup f = some ⟨oc, od, .func (PySem.W.fnOf name qual params body scope dV kV doc pm an cdv ct), osl⟩) (hcd : PySem.W.codeIn K cdv qual = true) (S : FnScope N ps scope)
    (len : ∀ vs H Q E, sp vs H Q E → vs.length = ps.length)
    (hbody : ∀ (A : Around) (outer : List Env) (s : Shared) (H : Hp) (vs : List V) (Q : VK) (E : XK), Room k (A.deeper (envOfC qual scope s.heap.objs.size f cdv)) → sp vs H Q E →
      ∃ t, PSs (cxOf CX P w K mg base N qual scope f cdv A outer s H E) body t ∧ t { nx := fun _ H' => Q .non H', rt := Q } (start N vs) H) :
    FnOk P w K mg base CX (k + 1) f (PySem.W.fnOf name qual params body scope dV kV doc pm an cdv ct) ps sp := by
  refine ⟨len, fun A outer s H args us vs Q E hr e0 hb r hsp => ?_⟩
  have hl := len _ _ _ _ hsp
  have KX : K.In s.heap := e0.mod.kin.keeps fun b o e => (e0.bs b o e).1
  have lim : s.heap.NoLimit := e0.mod.nolimit.keeps fun b o e => (e0.bs b o e).1
  have hkind : ∀ y ∈ ps.zip us, scope.names.lookup y.1 = some .local ∨ (scope.names.lookup y.1 = some .cell ∧ ((cellsFrom (s.heap.objs.size + 1) scope.names []).lookup y.1).isSome = true) := fun ⟨n, v⟩ hy => by
    rcases S.par n (List.of_mem_zip hy).1 with q | q
    · exact .inl q
    · exact .inr ⟨q, PySem.W.cellsFrom_some _ _ _ (.inl q)⟩
  refine codeAny_call_function hr.depth (KX _ _ lk) rfl S.co S.gen rfl (PySem.W.codeRec_of KX hcd) (hb _ _ _ _ ?_)
  refine wpAny_newFunctionEnv_cells S.kind hkind fun env he s1 x => ?_
  subst he
  refine ⟨lim.keeps x.toInCall.keep, codeAny_func ?_⟩
  obtain ⟨t, ht, hq⟩ := hbody A outer s H vs Q E (hr.deeper _) hsp
  have I : Inv (cxOf CX P w K mg base N qual scope f cdv A outer s H E) [] (start N vs) H s1 := inv_start S hr.hd e0 hl r x
  refine wpAny_mono (ht [] s1 (start N vs) H _ I hq) (fun fl s' hs => ?_) fun e s' hs => hs
  have fin : ∀ {σ' : St} {H' : Hp} {v : V} {u : Value}, Inv (cxOf CX P w K mg base N qual scope f cdv A outer s H E) [] σ' H' s' → RelV v u → Q v H' → CE outer P w H s Q u s' :=
    fun {σ' H' v u} J rv q => ⟨v, H', J.os, J.bare, J.base, J.hok, rv, q⟩
  cases fl with
  | ret u =>
    obtain ⟨v, σ', H', J, rv, q⟩ := hs
    exact fin J rv q
  | next =>
    obtain ⟨σ', H', J, q⟩ := hs
    exact fin (v := V.non) (u := Value.none) J rfl q
  | brk =>
    obtain ⟨_, _, _, q⟩ := hs
    exact False.elim q
  | cont =>
    obtain ⟨_, _, _, q⟩ := hs
    exact False.elim q
end L2

namespace L2
open PySem PySem.Spec PyProof.Rows
section
variable {X : Cx} {x : Str} {p pos : Pos} {e : Expr} {es : List Expr} {t : TA} {id T : String} {r : List V → Hp → VK → Prop}

def tCB (r : List V → Hp → VK → Prop) (t : TA) : TE := fun σ H Q => t σ H fun vs H1 => r vs H1 Q
/-- f(e, ..), f a built-in function -/
theorem pe_callB (hc : CallR X (.builtin id) r) (hg : Gl X x) (hm : X.mg x = none) (hv : bootBuiltins x = some (.builtin id)) (ha : PA X (e :: es) t) (hn : x ≠ "__name__" := by decide) (hdb : (x == ("__debug__" : Str)) = false := by decide)
    (he : starEach (e :: es) X.env = (false, eval e X.env) :: starEach es X.env := by rfl) (hpl : (backTo pos (starEach es X.env)).any (·.1) = false := by rfl) : PE X (.Call (.Name x p) (e :: es) [] pos) (tCB r t) := by
  intro pins s σ H Q I h
  refine wpAny_Call_Name_kw (ld_blt I hg hm hv ?_ hn hdb)
  exact PyProof.Rows.callWith_builtin1 (thn (ha pos pins s σ H _ I h) fun us s1 ⟨vs, H1, I1, r1, q1⟩ => hc pins s1 σ H1 vs us Q I1 r1 q1) he hpl
/-- T(e, ..), T a built-in type -/
theorem pe_callTy (hc : CallR X (.type T) r) (hg : Gl X x) (hm : X.mg x = none) (hv : bootBuiltins x = some (.type T)) (ha : PA X (e :: es) t) (hn : x ≠ "__name__" := by decide) (hdb : (x == ("__debug__" : Str)) = false := by decide)
    (he : starEach (e :: es) X.env = (false, eval e X.env) :: starEach es X.env := by rfl) (hpl : (backTo pos (starEach es X.env)).any (·.1) = false := by rfl) : PE X (.Call (.Name x p) (e :: es) [] pos) (tCB r t) := by
  intro pins s σ H Q I h
  refine wpAny_Call_Name_kw (ld_blt I hg hm hv ?_ hn hdb)
  exact PyProof.Rows.callWith_type1 (thn (ha pos pins s σ H _ I h) fun us s1 ⟨vs, H1, I1, r1, q1⟩ => hc pins s1 σ H1 vs us Q I1 r1 q1) he hpl
end
end L2

namespace HT
open PySem PyProof.Rows

section
open PySem.SeqAt
open PySem.AutoSeq1 (wpAny_loadPart')
open PySem.MeetsSeq PySem.MeetsSeq2 PySem.MeetsSeq3

end

section
variable {prog : Program} {w : World} {A : Around} {E : Value → Shared → Prop} {s : Shared}

/-! ### t[a:b], not the whole -/
/-- a slice's bound as a place among n (d where it is left out) -/
def sIx (n d : Nat) : Option Int → Nat
  | none => d
  | some v => if v < 0 then (v + (n : Int)).toNat else min v.toNat n
end
end HT

namespace L2
open PySem PySem.Spec PyProof.Rows

/-! ### the parts of a slice -/
abbrev TO := St → Hp → (Option Int → Hp → Prop) → Prop
/-- a slice's part (left out, or an int) -/
def PO (X : Cx) (e : Option Expr) (t : TO) : Prop :=
  ∀ (pins : List (Addr × Obj)) (s : Shared) (σ : St) (H : Hp) (Q : Option Int → Hp → Prop), Inv X pins σ H s → t σ H Q →
    wpAny (model X.prog X.w) X.A (evalPart e X.env) (fun u s' => ∃ o H', Inv X pins σ H' s' ∧ IsPart u o ∧ Q o H') X.xe s
def tNoPart : TO := fun _ H Q => Q none H
def tPart (t : TE) : TO := fun σ H Q => t σ H fun x H1 => ∃ i, x = .int i ∧ Q (some i) H1

section
variable {X : Cx} {e : Expr} {te : TE} {lo hi : Option Expr} {tl th : TO} {pos p2 : Pos}

theorem po_none : PO X none tNoPart := by
  intro pins s σ H Q I h
  rw [evalPart_none]
  exact wpAny_pure ⟨none, H, I, .none, h⟩
theorem po_some (h : PE X e te) : PO X (some e) (tPart te) := by
  intro pins s σ H Q I hw
  rw [evalPart_some]
  refine thn (h pins s σ H _ I hw) fun u s1 ⟨x, H1, I1, r1, q1⟩ => ?_
  obtain ⟨i, rfl, q⟩ := q1
  obtain ⟨t, rfl⟩ := r1
  exact ⟨some i, H1, I1, .int i t, q⟩

/-- what a slice of a value is, by values: the slice object stands at sl -/
def SlR (X : Cx) (r : V → Option Int → Option Int → Hp → VK → Prop) : Prop :=
  ∀ (pins : List (Addr × Obj)) (s : Shared) (σ : St) (H : Hp) (x : V) (v vl vu : Value) (lo hi : Option Int) (sl : Addr) (Q : VK), Inv X pins σ H s → RelV x v → s.heap.IsSliceOf sl vl vu .none → IsPart vl lo → IsPart vu hi → r x lo hi H Q →
    ∃ T id, typeLookup (.type T) "__getitem__" = pure (some (.builtin id)) ∧ s.TypeIs v T ∧ wpAny (model X.prog X.w) X.A (getItem v (.ref sl)) (EP X pins σ Q) X.xe s
def tSl (r : V → Option Int → Option Int → Hp → VK → Prop) (te : TE) (tl th : TO) : TE := fun σ H Q => te σ H fun x H1 => tl σ H1 fun l H2 => th σ H2 fun u H3 => r x l u H3 Q
/-- a[lo:hi], any a -/
theorem pe_slice {r : V → Option Int → Option Int → Hp → VK → Prop} (hr : SlR X r) (he : PE X e te) (hl : PO X lo tl) (hu : PO X hi th) : PE X (.Subscript e (.Slice lo hi none p2) pos) (tSl r te tl th) := by
  intro pins s σ H Q I h
  refine Subscript_ (thn (he pins s σ H _ I h) fun v s1 ⟨x, H1, I1, r1, q1⟩ => ?_)
  refine wpAny_Slice (thn (hl pins s1 σ H1 _ I1 q1) fun vl s2 ⟨l, H2, I2, pl, q2⟩ => thn (hu pins s2 σ H2 _ I2 q2) fun vu s3 ⟨u, H3, I3, pu, q3⟩ => ?_)
  rw [evalPart_none]
  refine wpAny_pure ?_
  have I4 : Inv X pins σ H3 { s3 with heap := s3.heap.push { cls := .type "slice", data := .fields #[vl, vu, .none] } } := I3.kept (t' := s3.toks) fun b ob q => Heap.get?_push_of_some _ q
  obtain ⟨T, id, hT, ht, hg⟩ := hr pins { s3 with heap := s3.heap.push { cls := .type "slice", data := .fields #[vl, vu, .none] } } σ H3 x v vl vu l u s3.heap.objs.size Q I4 r1 (Heap.IsSliceOf.new ..) pl pu q3
  show wpAny (model X.prog X.w) X.A (subscriptTail e (.Slice lo hi none p2) v (.ref s3.heap.objs.size)) (EP X pins σ Q) X.xe { s3 with heap := s3.heap.push { cls := .type "slice", data := .fields #[vl, vu, .none] } }
  exact tail_any (ops := [.ref s3.heap.objs.size, v]) ht hT hg (by with_unfolding_all rfl)

/-- the items of xs[lo:hi] -/
def cutV (xs : List V) (lo hi : Option Int) : List V := (xs.drop (HT.sIx xs.length 0 lo)).take (HT.sIx xs.length xs.length hi - HT.sIx xs.length 0 lo)
theorem cutV_length (xs : List V) (lo hi : Option Int) : (cutV xs lo hi).length ≤ xs.length := by
  unfold cutV
  rw [List.length_take, List.length_drop]
  omega
/-! ### t < u, t + u -/
end
end L2

namespace L2
open PySem PySem.Spec PyProof.Rows

/-! ### places -/
/-- the place that an index of any sign means -/
def ixN (n : Nat) (i : Int) : Option Nat := if 0 ≤ i then (if i < n then some i.toNat else none) else if -(n : Int) ≤ i then some (i + n).toNat else none
def atI {α : Type} (xs : List α) (i : Int) : Option α := (ixN xs.length i).bind fun j => xs[j]?
theorem ixN_seq {n : Nat} {i : Int} {j : Nat} (h : ixN n i = some j) : seqIndex? i n = some j ∧ j < n ∧ -(n : Int) ≤ i ∧ i < n := by
  unfold ixN at h
  by_cases h0 : 0 ≤ i
  · rw [if_pos h0] at h
    by_cases h1 : i < n
    · rw [if_pos h1] at h
      have e : i.toNat = j := Option.some.inj h
      exact ⟨by rw [seqIndex_of h0 h1, e], by omega, by omega, h1⟩
    · rw [if_neg h1] at h; cases h
  · rw [if_neg h0] at h
    by_cases h1 : -(n : Int) ≤ i
    · rw [if_pos h1] at h
      have e : (i + n).toNat = j := Option.some.inj h
      exact ⟨by rw [seqIndex_neg (by omega) h1, e], by omega, h1, by omega⟩
    · rw [if_neg h1] at h; cases h
theorem atI_get {α : Type} {xs : List α} {i : Int} {v : α} (h : atI xs i = some v) : ∃ j, seqIndex? i xs.length = some j ∧ xs[j]? = some v ∧ j < xs.length ∧ -(xs.length : Int) ≤ i ∧ i < xs.length := by
  unfold atI at h
  cases e : ixN xs.length i with
  | none => rw [e] at h; cases h
  | some j =>
    rw [e] at h
    obtain ⟨h1, h2, h3, h4⟩ := ixN_seq e
    exact ⟨j, h1, h, h2, h3, h4⟩
theorem atI_nat {α : Type} {xs : List α} {j : Nat} {v : α} (h : xs[j]? = some v) : atI xs (j : Int) = some v := by
  have hj : j < xs.length := (List.getElem?_eq_some_iff.mp h).1
  have e : ixN xs.length (j : Int) = some j := by
    unfold ixN
    rw [if_pos (by omega), if_pos (by omega)]; simp
  unfold atI; rw [e]; exact h
/-! ### what may be subscripted -/
/-- what stands as an index of a plain subscript -/
def PlainIx (b : Expr) : Prop := ∀ o i, subscripted b false o i = operate [o, i] (getItem o i)
/-- a subscript by values -/
def IxR (X : Cx) (r : R2) : Prop :=
  ∀ (value slice : Expr) (pins : List (Addr × Obj)) (s : Shared) (σ : St) (H : Hp) (x y : V) (v u : Value) (Q : VK), Inv X pins σ H s → RelV x v → RelV y u → r x y H Q →
    subscripted slice false v u = operate [v, u] (getItem v u) → wpAny (model X.prog X.w) X.A (subscriptTail value slice v u) (EP X pins σ Q) X.xe s
/-- a call of a builtin's method by values: the receiver, the arguments -/
def MtR (X : Cx) (id : String) (r : V → List V → Hp → VK → Prop) : Prop :=
  ∀ (pins : List (Addr × Obj)) (s : Shared) (σ : St) (H : Hp) (x : V) (xs : List V) (v : Value) (us : List Value) (Q : VK), Inv X pins σ H s → RelV x v → Vals xs us → r x xs H Q →
    wpAny (model X.prog X.w) X.A (call (.builtin id) (v :: us)) (EP X pins σ Q) X.xe s
section
variable {X : Cx} {a b : Expr} {ta tb : TE} {pos : Pos}
/-- a[b] -/
theorem pe_ix {r : R2} (hr : IxR X r) (ha : PE X a ta) (hb : PE X b tb) (hs : PlainIx b) : PE X (.Subscript a b pos) (tOp r ta tb) := by
  intro pins s σ H Q I h
  exact Subscript_ (binT ha hb I h fun v u s2 x y H2 I2 rx ry q => hr a b pins s2 σ H2 x y v u Q I2 rx ry q (hs _ _))

def rIxL (K : PySem.W.Frag) : R2 := fun x y H Q => ∃ p xs i v, x = .ref p ∧ y = .int i ∧ SqL K H p xs ∧ atI xs i = some v ∧ Q v H
def rIxT (K : PySem.W.Frag) : R2 := fun x y H Q => ∃ p xs i v, x = .ref p ∧ y = .int i ∧ SqT K H p xs ∧ atI xs i = some v ∧ Q v H
theorem ix_list : IxR X (rIxL X.K) := by
  intro value slice pins s σ H x y v u Q I rx ry h hs
  obtain ⟨p, xs, i, z, rfl, rfl, hq, he, q⟩ := h
  cases rx
  obtain ⟨t, rfl⟩ := ry
  obtain ⟨its, r, pl, hz⟩ := I.list hq
  obtain ⟨j, h1, h2, h3, h4, h5⟩ := atI_get he
  obtain ⟨w, ew, rw'⟩ := r.get h2
  have hl := r.length
  have hn := line63
  have fin : EP X pins σ Q w s := ⟨z, H, I, rw', q⟩
  by_cases h0 : 0 ≤ i
  · have hj : i.toNat = j := by
      rw [seqIndex_of h0 h5] at h1
      exact Option.some.inj h1
    exact item_listR pl.isList h0 (by omega) (by rw [hj]; simpa using ew) fin hs
  · have hj : (i + (its.toArray.size : Int)).toNat = j := by
      rw [seqIndex_neg (by omega) h4] at h1
      rw [List.size_toArray, ← hl]
      exact Option.some.inj h1
    exact subscriptTail_builtinR (x := w) pl.isList.typeIs slot_list_getitem.lookup
      (wpAny_getItem_list_neg (Q := fun r s' => r = w ∧ EP X pins σ Q r s') pl.isList (by omega) (by rw [List.size_toArray] <;> omega) (by omega) (by rw [hj]; simpa using ew) ⟨rfl, fin⟩) hs
theorem ix_tup : IxR X (rIxT X.K) := by
  intro value slice pins s σ H x y v u Q I rx ry h hs
  obtain ⟨p, xs, i, z, rfl, rfl, hq, he, q⟩ := h
  cases rx
  obtain ⟨t, rfl⟩ := ry
  obtain ⟨its, r, pl, hz⟩ := I.tuple hq
  obtain ⟨j, h1, h2, h3, h4, h5⟩ := atI_get he
  obtain ⟨w, ew, rw'⟩ := r.get h2
  have hl := r.length
  have hn := line63
  have fin : EP X pins σ Q w s := ⟨z, H, I, rw', q⟩
  exact subscriptTail_builtinR (x := w) pl.typeIs slot_tuple_getitem.lookup
    (getItem_tuple (j := j) (Q := fun r s' => r = w ∧ EP X pins σ Q r s') pl (by omega) (by omega) (by rw [List.size_toArray, ← hl]; exact h1) (by simpa using ew) ⟨rfl, fin⟩) hs
/-! ### xs[i] = v, any sign -/
/-- the list's object behind a store -/
theorem mapSeq_set (its : List Value) (n j : Nat) (u : Value) : Obj.mapSeq (·.setIfInBounds j u) { cls := .type "list", data := .seq its.toArray n } = { cls := .type "list", data := .seq (its.set j u).toArray n } := by
  simp [Obj.mapSeq]
theorem Inv.lst {pins : List (Addr × Obj)} {σ : St} {H : Hp} {s : Shared} {p : Addr} {xs : List V} (I : Inv X pins σ H s) (h : H p = some (.lst xs)) :
    ∃ (its : List Value) (n : Nat), Vals xs its ∧ s.heap.get? p = some { cls := .type "list", data := .seq its.toArray n } ∧ xs.length ≤ sizeLine := by
  obtain ⟨z, its, n, r, e⟩ := I.hok p _ h
  exact ⟨its, n, r, e, z⟩
/-- the list at p is written by an update of its object -/
theorem Inv.lstUpd {pins : List (Addr × Obj)} {σ : St} {H : Hp} {s : Shared} {p : Addr} {xs ys : List V} {its its' : List Value} {n n' : Nat} {f : Obj → Obj} (I : Inv X pins σ H s) (h : H p = some (.lst xs))
    (ho : s.heap.get? p = some { cls := .type "list", data := .seq its.toArray n }) (hf : f { cls := .type "list", data := .seq its.toArray n } = { cls := .type "list", data := .seq its'.toArray n' }) (r : Vals ys its') (hz : ys.length ≤ sizeLine) (t : Nat) :
    Inv X pins σ (upd H p (.lst ys)) { s with heap := s.heap.update p f, toks := t } := by
  have e : (s.heap.update p f).get? p = some { cls := .type "list", data := .seq its'.toArray n' } := by
    rw [Heap.get?_update_self f ho (by rw [hf] <;> rfl), hf]
  refine I.write (x := p) (e := p) (by rw [h]; trivial) (.inl rfl) (fun b u hb q => (Heap.get?_update_other _ _ (Ne.symm hb)).trans q) ⟨_, e⟩ ?_
  exact ⟨hz, its', n', r, e⟩
def rSetL : V → V → V → Hp → (Hp → Prop) → Prop := fun o i v H Q => ∃ p xs k j, o = .ref p ∧ i = .int k ∧ H p = some (.lst xs) ∧ ixN xs.length k = some j ∧ Q (upd H p (.lst (xs.set j v)))
theorem set_list : PSet X rSetL := by
  intro pins s σ H o i v ov iv u Q I ro ri rv h
  obtain ⟨p, xs, k, j, rfl, rfl, hp, hj, q⟩ := h
  cases ro
  obtain ⟨t, rfl⟩ := ri
  obtain ⟨its, n, r, ho, hz⟩ := I.lst hp
  obtain ⟨h1, h2, h3, h4⟩ := ixN_seq hj
  have hl := r.length
  have hn := line63
  have I' : Inv X pins σ (upd H p (.lst (xs.set j v))) { s with heap := s.heap.update p (Obj.mapSeq (·.setIfInBounds j u)) } :=
    I.lstUpd hp ho (mapSeq_set its n j u) (r.set rv j) (by rw [List.length_set]; exact hz) s.toks
  by_cases h0 : 0 ≤ k
  · have hk : k.toNat = j := by
      rw [seqIndex_of h0 h4] at h1
      exact Option.some.inj h1
    exact PySem.W.ki_setAt ho h0 (by omega) (by rw [List.size_toArray, ← hl]; exact h4) (by rw [hk]; exact ⟨_, I', q⟩)
  · have hk : (k + (its.toArray.size : Int)).toNat = j := by
      rw [seqIndex_neg (by omega) h3] at h1
      rw [List.size_toArray, ← hl]
      exact Option.some.inj h1
    exact PySem.W.ki_setBack ho (by omega) (by rw [List.size_toArray, ← hl]; exact h3) (by omega) (by rw [hk]; exact ⟨_, I', q⟩)

/-! ### slices -/
theorem slice_bounds (lo hi : Option Int) (n : Nat) : (sliceBounds lo hi none n).1 = ((HT.sIx n 0 lo : Nat) : Int) ∧ (sliceBounds lo hi none n).2.1 = ((HT.sIx n n hi : Nat) : Int) ∧ (sliceBounds lo hi none n).2.2 = 1 := by
  refine ⟨?_, ?_, rfl⟩
  · cases lo with
    | none => simp [sliceBounds, HT.sIx]
    | some i =>
      simp only [sliceBounds, HT.sIx, Option.getD_none, show (1 : Int) > 0 by decide, if_true]
      by_cases h : i < 0
      · simp only [h, if_true] <;> omega
      · simp only [h, if_false] <;> omega
  · cases hi with
    | none => simp [sliceBounds, HT.sIx]
    | some i =>
      simp only [sliceBounds, HT.sIx, Option.getD_none, show (1 : Int) > 0 by decide, if_true]
      by_cases h : i < 0
      · simp only [h, if_true] <;> omega
      · simp only [h, if_false] <;> omega
theorem slicePick_cut (its : List Value) (lo hi : Option Int) : slicePick its.toArray lo hi none = ((its.drop (HT.sIx its.length 0 lo)).take (HT.sIx its.length its.length hi - HT.sIx its.length 0 lo)).toArray := by
  obtain ⟨h1, h2, h3⟩ := slice_bounds lo hi its.toArray.size
  unfold slicePick
  rw [h1, h2, h3]
  simp only [sliceRange_one, pick_run, List.size_toArray] <;> rfl
/-- xs[lo:hi] of a list: a new list -/
def rSlL (K : PySem.W.Frag) : V → Option Int → Option Int → Hp → VK → Prop := fun x lo hi H Q => ∃ a xs, x = .ref a ∧ SqL K H a xs ∧ ∀ p, H p = none → Q (.ref p) (upd H p (.lst (cutV xs lo hi)))
theorem sl_list : SlR X (rSlL X.K) := by
  intro pins s σ H x v vl vu lo hi sl Q I rx hs pl pu h
  obtain ⟨a, xs, rfl, hx, q⟩ := h
  cases rx
  obtain ⟨its, r, ht, hz⟩ := I.list hx
  have hlen := r.length
  refine ⟨"list", _, slot_list_getitem.lookup, ht.isList.typeIs, ?_⟩
  refine wpAny_getItem_list_slice ht.isList hs pl pu .none (by simp) ?_ (by rw [List.size_toArray] <;> omega)
  rw [slicePick_cut, ← hlen]
  refine ⟨.ref s.heap.objs.size, _, I.laid (t' := s.toks) (o := .lst (cutV xs lo hi)) (fun b ob q => Heap.get?_push_of_some _ q) (Nat.le_refl _) ?_, rfl, q _ (I.hok.fresh (Nat.le_refl _))⟩
  exact ⟨Nat.le_trans (cutV_length xs lo hi) hz, _, 0, (r.drop (HT.sIx xs.length 0 lo)).take (HT.sIx xs.length xs.length hi - HT.sIx xs.length 0 lo), Heap.get?_push_size _ rfl⟩

/-! ### in, not in: flat items -/
def flatV : V → Bool
  | .non => true
  | .bl _ => true
  | .int _ => true
  | .str _ => true
  | _ => false
/-- == of flat values -/
def eqV : V → V → Bool
  | .non, .non => true
  | .bl a, .bl b => a == b
  | .bl a, .int b => (if a then 1 else 0) == b
  | .int a, .bl b => a == (if b then 1 else 0)
  | .int a, .int b => a == b
  | .str a, .str b => a == b
  | _, _ => false
theorem eqAt_V {A : Around} {s : Shared} {y x : V} {u v : Value} (ry : RelV y u) (rx : RelV x v) (fy : flatV y = true) (fx : flatV x = true) : SeqAt.EqAt A s u v (eqV y x) := by
  cases y with
  | non =>
    cases ry
    cases x with
    | non => cases rx; exact SeqAt.EqAt.same _
    | bl b => cases rx; exact SeqAt.EqAt.none_bool b
    | int b => obtain ⟨t, rfl⟩ := rx; exact SeqAt.EqAt.none_int b t
    | str b => obtain ⟨t, rfl⟩ := rx; exact SeqAt.EqAt.none_str b t
    | _ => exact absurd (show false = true from fx) Bool.false_ne_true
  | bl a =>
    cases ry
    cases x with
    | non => cases rx; exact SeqAt.EqAt.bool_none a
    | bl b => cases rx; exact SeqAt.EqAt.bool_bool a b
    | int b => obtain ⟨t, rfl⟩ := rx; exact SeqAt.EqAt.bool_int a b t
    | str b => obtain ⟨t, rfl⟩ := rx; exact SeqAt.EqAt.bool_str a b t
    | _ => exact absurd (show false = true from fx) Bool.false_ne_true
  | int a =>
    obtain ⟨t', rfl⟩ := ry
    cases x with
    | non => cases rx; exact SeqAt.EqAt.int_none a t'
    | bl b => cases rx; exact SeqAt.EqAt.int_bool a t' b
    | int b => obtain ⟨t, rfl⟩ := rx; exact SeqAt.EqAt.int_int a t' b t
    | str b => obtain ⟨t, rfl⟩ := rx; exact SeqAt.EqAt.int_str a t' b t
    | _ => exact absurd (show false = true from fx) Bool.false_ne_true
  | str a =>
    obtain ⟨t', rfl⟩ := ry
    cases x with
    | non => cases rx; exact SeqAt.EqAt.str_none a t'
    | bl b => cases rx; exact SeqAt.EqAt.str_bool a t' b
    | int b => obtain ⟨t, rfl⟩ := rx; exact SeqAt.EqAt.str_int a t' b t
    | str b => obtain ⟨t, rfl⟩ := rx; exact SeqAt.EqAt.str_str a t' b t
    | _ => exact absurd (show false = true from fx) Bool.false_ne_true
  | _ => exact absurd (show false = true from fy) Bool.false_ne_true
/-- the items' answers, read off the values (a value's own answer does not lean on its token) -/
def eqU (x : V) (u : Value) : Bool := match u with
  | .none => eqV .non x
  | .bool b => eqV (.bl b) x
  | .int i _ => eqV (.int i) x
  | .str z _ => eqV (.str z) x
  | _ => false
theorem eqU_of {x y : V} {u : Value} (r : RelV y u) (f : flatV y = true) : eqU x u = eqV y x := by
  cases y with
  | non => cases r; rfl
  | bl b => cases r; rfl
  | int i => obtain ⟨t, rfl⟩ := r; rfl
  | str z => obtain ⟨t, rfl⟩ := r; rfl
  | _ => exact absurd (show false = true from f) Bool.false_ne_true
theorem any_eqU {x : V} : ∀ {xs : List V} {us : List Value}, Vals xs us → xs.all flatV = true → us.any (eqU x) = xs.any fun y => eqV y x
  | _, _, .nil, _ => rfl
  | y :: xs, u :: us, .cons r t, f => by
    rw [List.all_cons, Bool.and_eq_true] at f
    rw [List.any_cons, List.any_cons, eqU_of r f.1, any_eqU t f.2]
theorem mem_eqAt {A : Around} {s : Shared} {x : V} {v : Value} (rx : RelV x v) (fx : flatV x = true) : ∀ {xs : List V} {us : List Value}, Vals xs us → xs.all flatV = true → ∀ u ∈ us, SeqAt.EqAt A s u v (eqU x u)
  | _, _, .nil, _ => fun u hu => by cases hu
  | y :: xs, u :: us, .cons r t, f => fun u' hu => by
    rw [List.all_cons, Bool.and_eq_true] at f
    rcases List.mem_cons.mp hu with rfl | hu
    · rw [eqU_of r f.1]; exact eqAt_V r rx f.1 fx
    · exact mem_eqAt rx fx t f.2 u' hu
def inV (x : V) (xs : List V) : Bool := xs.any fun y => eqV y x
/-- x in a list or tuple of flat items -/
def rIn (K : PySem.W.Frag) (neg : Bool) : R2 := fun x y H Q => ∃ p xs, y = .ref p ∧ (SqL K H p xs ∨ SqT K H p xs) ∧ flatV x = true ∧ xs.all flatV = true ∧ Q (.bl (if neg then !inV x xs else inV x xs)) H
theorem op_in_seq : OpR X (compareOp .In) (rIn X.K false) := by
  intro pins s σ H x y v u Q I rx ry h
  obtain ⟨p, xs, rfl, hq, fx, fs, q⟩ := h
  cases ry
  rcases hq with hq | hq
  · obtain ⟨its, r, pl, hz⟩ := I.list hq
    refine SeqAt.in_listAt (eqU x) pl.isList (fun w hw => mem_eqAt rx fx r fs w (by simpa using hw)) ⟨.bl _, H, I, rfl, ?_⟩
    rw [show its.toArray.any (eqU x) = its.any (eqU x) by simp, any_eqU r fs]
    exact q
  · obtain ⟨its, r, pl, hz⟩ := I.tuple hq
    refine SeqAt.in_tupleAt (eqU x) pl (fun w hw => mem_eqAt rx fx r fs w (by simpa using hw)) ⟨.bl _, H, I, rfl, ?_⟩
    rw [show its.toArray.any (eqU x) = its.any (eqU x) by simp, any_eqU r fs]
    exact q
theorem op_notIn_seq : OpR X (compareOp .NotIn) (rIn X.K true) := by
  intro pins s σ H x y v u Q I rx ry h
  obtain ⟨p, xs, rfl, hq, fx, fs, q⟩ := h
  cases ry
  rcases hq with hq | hq
  · obtain ⟨its, r, pl, hz⟩ := I.list hq
    refine SeqAt.notIn_listAt (eqU x) pl.isList (fun w hw => mem_eqAt rx fx r fs w (by simpa using hw)) ⟨.bl _, H, I, rfl, ?_⟩
    rw [show its.toArray.any (eqU x) = its.any (eqU x) by simp, any_eqU r fs]
    exact q
  · obtain ⟨its, r, pl, hz⟩ := I.tuple hq
    refine SeqAt.notIn_tupleAt (eqU x) pl (fun w hw => mem_eqAt rx fx r fs w (by simpa using hw)) ⟨.bl _, H, I, rfl, ?_⟩
    rw [show its.toArray.any (eqU x) = its.any (eqU x) by simp, any_eqU r fs]
    exact q
/-! ### len, list(x), tuple(x) of any list or tuple that is read -/
theorem call_len_seq : CallR X (.builtin "len") (fun xs H Q => ∃ p ys, xs = [.ref p] ∧ (SqL X.K H p ys ∨ SqT X.K H p ys) ∧ Q (.int ys.length) H) := by
  intro pins s σ H xs us Q I r h
  obtain ⟨p, ys, rfl, hq, q⟩ := h
  obtain ⟨u, rfl, rx⟩ := vals1 r
  cases rx
  have hn := line63
  rcases hq with hq | hq
  · obtain ⟨its, r', pl, hz⟩ := I.list hq
    have hlen := r'.length
    exact Calls.call_len_list pl.isList (by simp only [List.size_toArray] <;> omega) ⟨.int ys.length, H, I.tok _, ⟨s.toks + 1, by rw [List.size_toArray, hlen]⟩, q⟩
  · obtain ⟨its, r', pl, hz⟩ := I.tuple hq
    have hlen := r'.length
    exact len_tuple pl (by simp only [List.size_toArray] <;> omega) ⟨.int ys.length, H, I.tok _, ⟨s.toks + 1, by rw [List.size_toArray, hlen]⟩, q⟩
theorem call_list_of : CallR X (.type "list") (fun xs H Q => ∃ p ys, xs = [.ref p] ∧ (SqL X.K H p ys ∨ SqT X.K H p ys) ∧ ∀ l, H l = none → Q (.ref l) (upd H l (.lst ys))) := by
  intro pins s σ H xs us Q I r h
  obtain ⟨p, ys, rfl, hq, q⟩ := h
  obtain ⟨u, rfl, rx⟩ := vals1 r
  cases rx
  have fin : ∀ (its : List Value), Vals ys its → ys.length ≤ sizeLine → ∀ (h' : Heap) (c' : Nat), (∀ b o', s.heap.get? b = some o' → h'.get? b = some o') →
      h'.get? s.heap.objs.size = some { cls := .type "list", dict := none, data := .seq its.toArray c', slots := #[] } → EP X pins σ Q (.ref s.heap.objs.size) { s with heap := h' } := fun its r' hz h' c' kp e =>
    ⟨.ref s.heap.objs.size, _, I.laid (t' := s.toks) kp (Nat.le_refl _) (show ObjOk X.prog X.w _ h' _ (.lst ys) from ⟨hz, its, c', r', e⟩), rfl, q _ (I.hok.fresh (Nat.le_refl _))⟩
  rcases hq with hq | hq
  · obtain ⟨its, r', pl, hz⟩ := I.list hq
    have hlen := r'.length
    obtain ⟨o, ho, hc, n, hd⟩ := pl.isList
    exact call_list_seq p (.inl rfl) ho hc hd (fun h' c' kp e => fin its r' hz h' c' kp e) (by simp only [List.size_toArray] <;> omega)
  · obtain ⟨its, r', pl, hz⟩ := I.tuple hq
    have hlen := r'.length
    obtain ⟨o, ho, hc, n, hd⟩ := pl
    exact call_list_seq p (.inr rfl) ho hc hd (fun h' c' kp e => fin its r' hz h' c' kp e) (by simp only [List.size_toArray] <;> omega)
/-! ### the call of a builtin's method: o.m(..) -/
/-- the value is of that builtin type -/
def tyV (K : PySem.W.Frag) (T : String) (x : V) (H : Hp) : Prop := match x with
  | .str _ => T = "str"
  | .int _ => T = "int"
  | .ref p => (T = "list" ∧ ∃ xs, SqL K H p xs) ∨ (T = "tuple" ∧ ∃ o, K.lookup p = some o ∧ o.cls = .type "tuple" ∧ o.dict = none) ∨
      (T = "dict" ∧ ((∃ kvs, H p = some (.dK kvs)) ∨ ∃ kvs, H p = some (.dT kvs))) ∨ (T = "set" ∧ ∃ S n, H p = some (.set S n))
  | _ => False
theorem tyV_is {pins : List (Addr × Obj)} {σ : St} {H : Hp} {s : Shared} {T : String} {x : V} {v : Value} (I : Inv X pins σ H s) (r : RelV x v) (ty : tyV X.K T x H) :
    s.TypeIs v T ∧ ∀ a, v = .ref a → ∃ ob, s.heap.get? a = some ob ∧ ob.dict = none := by
  cases x with
  | str z =>
    obtain ⟨t, rfl⟩ := r
    cases (show T = "str" from ty)
    exact ⟨typeIs_str s z t, fun _ e => nomatch e⟩
  | int i =>
    obtain ⟨t, rfl⟩ := r
    cases (show T = "int" from ty)
    exact ⟨typeIs_int s i t, fun _ e => nomatch e⟩
  | ref p =>
    cases r
    rcases ty with ⟨rfl, xs, hq⟩ | ⟨rfl, o, hk, hc, hd⟩ | ⟨rfl, hk⟩ | ⟨rfl, S, n, hk⟩
    · obtain ⟨its, _, pl, _⟩ := I.list hq
      refine ⟨pl.isList.typeIs, fun a e => ?_⟩
      cases e
      obtain ⟨o, n, e, c, hd, _⟩ := pl
      exact ⟨o, e, hd⟩
    · refine ⟨⟨o, I.kIn p o hk, hc⟩, fun a e => ?_⟩
      cases e
      exact ⟨o, I.kIn _ o hk, hd⟩
    · have z : ∃ o, s.heap.get? p = some o ∧ o.ExactDict := by
        rcases hk with ⟨kvs, hk⟩ | ⟨kvs, hk⟩
        · obtain ⟨_, _, _, _, o, _, _, e, ex, _⟩ := I.hok p _ hk
          exact ⟨o, e, ex⟩
        · obtain ⟨_, _, _, _, o, _, _, e, ex, _⟩ := I.hok p _ hk
          exact ⟨o, e, ex⟩
      obtain ⟨o, e, ex⟩ := z
      refine ⟨⟨o, e, ex.1⟩, fun a e2 => ?_⟩
      cases e2
      exact ⟨o, e, ex.2.1⟩
    · obtain ⟨o, _, _, _, e, ex, _⟩ := I.hok p _ hk
      refine ⟨⟨o, e, ex.1⟩, fun a e2 => ?_⟩
      cases e2
      exact ⟨o, e, ex.2.1⟩
  | _ => exact False.elim ty
def tBM (K : PySem.W.Frag) (T : String) (r : V → List V → Hp → VK → Prop) (to : TE) (t : TA) : TE := fun σ H Q => to σ H fun x H1 => tyV K T x H1 ∧ t σ H1 fun xs H2 => r x xs H2 Q
variable {o e : Expr} {es : List Expr} {to : TE} {t : TA} {name : Str} {apos cpos : Pos} {T id : String} {r : V → List V → Hp → VK → Prop}
theorem pe_bm (pa : PlainAttrs T) (slot : Slot T name id) (hty : typeOf (.builtin id) = pure (.type "method_descriptor")) (hm : MtR X id r) (ho : PE X o to) (ha : PA X (e :: es) t)
    (hbase : attributeBase o name X.env (eval o X.env) = eval o X.env := by rfl)
    (hfew : ((backTo cpos (starEach (e :: es) X.env)).all (fun x => !x.1) && (backToKw cpos (keywordEach [] X.env)).all (fun x => x.1.isSome)
      && decide ((e :: es).length + ([] : List Keyword).length + (if ([] : List Keyword).isEmpty then 0 else 1) < 30)) = true := by rfl)
    (hline : (apos.endLine == cpos.line) = true := by rfl) (hs : starEach (e :: es) X.env = (false, eval e X.env) :: starEach es X.env := by rfl) (hplain : (backTo cpos (starEach es X.env)).any (·.1) = false := by rfl) :
    PE X (.Call (.Attribute o name apos) (e :: es) [] cpos) (tBM X.K T r to t) := by
  intro pins s σ H Q I h
  refine wpAny_Call_method_late hbase hfew hline rfl (thn (ho pins s σ H _ I h) fun v s1 ⟨x, H1, I1, r1, ty, q1⟩ => ?_)
  obtain ⟨h1, h2⟩ := tyV_is I1 r1 ty
  refine ⟨T, id, pa, slot, hty, h1, h2, ?_⟩
  have hA := ha cpos pins s1 σ H1 _ I1 q1
  rw [hs] at hA ⊢
  refine Calls.callWith_builtin (by show (false || (backTo cpos (starEach es X.env)).any (·.1)) = false; rw [hplain] <;> rfl) (Calls.evalArgs_plain ?_)
  exact thn hA fun us s2 ⟨vs, H2, I2, r2, q2⟩ => hm pins s2 σ H2 x vs v us Q I2 r1 r2 q2
/- xs.append(e), list.index on a module's tuple .. are MtR facts of 06m -/
end
end L2

namespace L2
open PySem PySem.Spec PyProof.Rows

def MtM (X : Cx) (id : String) (r : V → List V → Hp → VK → Prop) : Prop :=
  ∀ (pins : List (Addr × Obj)) (s : Shared) (σ : St) (H : Hp) (x : V) (xs : List V) (v : Value) (us : List Value) (Q : VK), Inv X pins σ H s → RelV x v → Vals xs us → r x xs H Q →
    wpAny (model X.prog X.w) X.A (call (.builtin id) (v :: us)) (EP X pins σ Q) X.xe s

/-! ### lists of values -/
theorem Vals.one : ∀ {x : V} {us : List Value}, Vals [x] us → ∃ u, us = [u] ∧ RelV x u
  | _, _, .cons r .nil => ⟨_, rfl, r⟩
theorem Vals.two : ∀ {x y : V} {us : List Value}, Vals [x, y] us → ∃ u v, us = [u, v] ∧ RelV x u ∧ RelV y v
  | _, _, _, .cons r (.cons q .nil) => ⟨_, _, rfl, r, q⟩
theorem Vals.eraseIdx : ∀ {xs : List V} {us : List Value} (i : Nat), Vals xs us → Vals (xs.eraseIdx i) (us.eraseIdx i)
  | _, _, _, .nil => .nil
  | _, _, 0, .cons _ t => t
  | _, _, i + 1, .cons r t => .cons r (Vals.eraseIdx i t)
theorem Vals.rep {xs : List V} {us : List Value} (h : Vals xs us) : ∀ k : Nat, Vals (List.replicate k xs).flatten (List.replicate k us).flatten
  | 0 => .nil
  | k + 1 => by
    rw [List.replicate_succ, List.replicate_succ, List.flatten_cons, List.flatten_cons]
    exact Vals.append h (Vals.rep h k)
theorem len_erase {α : Type} : ∀ (l : List α) (i : Nat), (l.eraseIdx i).length ≤ l.length
  | [], _ => Nat.le_refl _
  | _ :: _, 0 => Nat.le_succ _
  | _ :: r, i + 1 => Nat.succ_le_succ (len_erase r i)
theorem foldl_rep (its : List Value) : ∀ (k : Nat) (acc : List Value),
    List.foldl (fun x1 x2 => x1 ++ x2) acc.toArray (List.replicate k its.toArray) = (acc ++ (List.replicate k its).flatten).toArray
  | 0, acc => by simp
  | k + 1, acc => by
    have e : acc.toArray ++ its.toArray = (acc ++ its).toArray := by simp
    have e2 : (acc ++ its) ++ (List.replicate k its).flatten = acc ++ (List.replicate (k + 1) its).flatten := by
      rw [List.replicate_succ, List.flatten_cons, List.append_assoc]
    rw [← e2, ← foldl_rep its k (acc ++ its), ← e, List.replicate_succ, List.foldl_cons]

section
variable {X : Cx} {pins : List (Addr × Obj)} {σ : St} {H : Hp} {s : Shared} {l b : Addr} {xs ys zs : List V}

/-! ### the two steps: a tracked list is rewritten, a new list is laid -/
theorem Inv.lset {its its' : List Value} {n : Nat} {f : Array Value → Array Value} {t' : Nat} (I : Inv X pins σ H s) (hH : H l = some (.lst xs))
    (e : s.heap.get? l = some { cls := .type "list", data := .seq its.toArray n }) (hf : f its.toArray = its'.toArray) (hv : Vals ys its') (hz : ys.length ≤ sizeLine) :
    Inv X pins σ (upd H l (.lst ys)) { s with heap := s.heap.update l (Obj.mapSeq f), toks := t' } := by
  have q := PySem.IsL.update e f
  rw [hf] at q
  refine I.write (x := l) (e := l) (by rw [hH]; exact trivial) (.inl rfl) (fun b' u hb hu => (Heap.get?_update_other s.heap (Obj.mapSeq f) (Ne.symm hb)).trans hu) ⟨_, q⟩ ?_
  exact ⟨hz, its', _, hv, q⟩
theorem Inv.lnew {its : List Value} {t' : Nat} (I : Inv X pins σ H s) (hv : Vals ys its) (hz : ys.length ≤ sizeLine) :
    Inv X pins σ (upd H s.heap.objs.size (.lst ys)) { s with heap := s.heap.push { cls := .type "list", data := .seq its.toArray }, toks := t' } :=
  I.laid (fun _ _ q => Heap.get?_push_of_some _ q) (Nat.le_refl _) ⟨hz, its, 0, hv, Heap.get?_push_size _ rfl⟩
theorem Inv.fresh (I : Inv X pins σ H s) : H s.heap.objs.size = none := I.hok.fresh (Nat.le_refl _)
theorem Inv.lstM (I : Inv X pins σ H s) (hH : H l = some (.lst xs)) : xs.length ≤ sizeLine ∧ ∃ (its : List Value) (n : Nat), Vals xs its ∧ xs.length = its.length ∧ s.heap.get? l = some { cls := .type "list", data := .seq its.toArray n } := by
  obtain ⟨z, its, n, r, e⟩ := I.hok l _ hH
  exact ⟨z, its, n, r, r.length, e⟩

theorem notLongL {n : Nat} (h : n ≤ sizeLine) : Builtin.List.listTooLong n = false := by
  unfold Builtin.List.listTooLong
  exact decide_eq_false (by omega)
end

section
variable {X : Cx}

/-! ### methods -/
def rAppend : V → List V → Hp → VK → Prop := fun x vs H Q => ∃ l xs y, x = .ref l ∧ vs = [y] ∧ H l = some (.lst xs) ∧ xs.length < sizeLine ∧ Q .non (upd H l (.lst (xs ++ [y])))
theorem mt_append : MtM X "list.append" rAppend := by
  intro pins s σ H x vs v us Q I rx rv h
  obtain ⟨l, xs, y, rfl, rfl, hH, hz, q⟩ := h
  cases rx
  obtain ⟨u, rfl, ru⟩ := rv.one
  obtain ⟨z, its, n, r, hl, e⟩ := I.lstM hH
  refine call_meets F.slot_list_append ⟨_, e, rfl⟩ F.entry_list_append (F.args_list_append_2 _ _) (PySem.list_append l its.toArray n u (by rw [List.size_toArray]; omega)) ⟨e, ?_⟩
  refine ⟨.non, _, I.lset (its' := its ++ [u]) hH e (by simp) (r.append (.cons ru .nil)) ?_, rfl, q⟩
  rw [List.length_append, List.length_singleton]
  omega

def rPopAt : V → List V → Hp → VK → Prop := fun x vs H Q => ∃ l xs i k y, x = .ref l ∧ vs = [.int i] ∧ H l = some (.lst xs) ∧ -(2 ^ 63) ≤ i ∧ i < 2 ^ 63 ∧ seqIndex? i xs.length = some k ∧ xs[k]? = some y ∧ Q y (upd H l (.lst (xs.eraseIdx k)))
theorem mt_popAt : MtM X "list.pop" rPopAt := by
  intro pins s σ H x vs v us Q I rx rv h
  obtain ⟨l, xs, i, k, y, rfl, rfl, hH, h1, h2, hk, hy, q⟩ := h
  cases rx
  obtain ⟨u, rfl, ru⟩ := rv.one
  obtain ⟨t, rfl⟩ := ru
  obtain ⟨z, its, n, r, hl, e⟩ := I.lstM hH
  obtain ⟨w, hw, rw'⟩ := r.get hy
  refine call_meets F.slot_list_pop ⟨_, e, rfl⟩ F.entry_list_pop (F.args_list_pop_2 _ _)
    (MeetsSeq.list_pop_at l its.toArray n i t k w (fitsIndex_both h1 h2) (by rw [List.size_toArray, ← hl]; exact hk) (by rw [← Array.getElem?_toList]; exact hw) (by rw [List.size_toArray]; omega)) ⟨e, ?_⟩
  refine ⟨y, _, I.lset (its' := its.eraseIdx k) hH e ?_ (r.eraseIdx k) ?_, rw', q⟩
  · show its.toArray.eraseIdxIfInBounds k = (its.eraseIdx k).toArray
    rw [List.eraseIdxIfInBounds_toArray]
  · have := len_erase xs k
    omega

/-! ### list + list, list += list, list * int -/
def rCat : R2 := fun x y H Q => ∃ l b xs zs, x = .ref l ∧ y = .ref b ∧ H l = some (.lst xs) ∧ H b = some (.lst zs) ∧ xs.length + zs.length ≤ sizeLine ∧ ∀ p, H p = none → Q (.ref p) (upd H p (.lst (xs ++ zs)))
theorem op_cat : OpR X (binaryOp .Add) rCat := by
  intro pins s σ H x y v u Q I rx ry h
  obtain ⟨l, b, xs, zs, rfl, rfl, hH, hB, hz, q⟩ := h
  cases rx
  cases ry
  obtain ⟨z, its, n, r, hl, e⟩ := I.lstM hH
  obtain ⟨z2, its2, n2, r2, hl2, e2⟩ := I.lstM hB
  refine PySem.P.add_list e e2 ?_ (by rw [List.size_toArray, List.size_toArray]; omega)
  have ea : its.toArray ++ its2.toArray = (its ++ its2).toArray := by simp
  rw [ea]
  exact ⟨.ref _, _, I.lnew (t' := s.toks) (r.append r2) (by rw [List.length_append]; omega), rfl, q _ I.fresh⟩
/-- a list times an int (a negative one is nothing) -/
def rRep : R2 := fun x y H Q => ∃ l k xs, x = .ref l ∧ y = .int k ∧ H l = some (.lst xs) ∧ -(2 ^ 63) ≤ k ∧ k < 2 ^ 63 ∧ xs.length * k.toNat ≤ sizeLine ∧
  ∀ p, H p = none → Q (.ref p) (upd H p (.lst (List.replicate k.toNat xs).flatten))
theorem len_rep {α : Type} (xs : List α) (k : Nat) : (List.replicate k xs).flatten.length = k * xs.length := by
  induction k with
  | zero => simp
  | succ k ih => rw [List.replicate_succ, List.flatten_cons, List.length_append, ih, Nat.succ_mul, Nat.add_comm]
theorem op_rep : OpR X (binaryOp .Mult) rRep := by
  intro pins s σ H x y v u Q I rx ry h
  obtain ⟨l, k, xs, rfl, rfl, hH, h1, h2, hz, q⟩ := h
  cases rx
  obtain ⟨t, rfl⟩ := ry
  obtain ⟨z, its, n, r, hl, e⟩ := I.lstM hH
  have hlen : its.toArray.size * k.toNat ≤ sizeLine := by rw [List.size_toArray, ← hl]; exact hz
  have hcap : ¬ its.toArray.size * k.toNat > (2 ^ 63 - 1) / 8 := by
    have : (sizeLine : Nat) ≤ (2 ^ 63 - 1) / 8 := by decide
    omega
  have hfit : ¬ (!Builtin.List.listFitsIndex k) = true := by
    rw [fitsIndex_both h1 h2]
    exact Bool.false_ne_true
  have hlong : ¬ Builtin.List.listTooLong (its.toArray.size * k.toNat) = true := by
    rw [notLongL hlen]
    exact Bool.false_ne_true
  have hnew : List.foldl (fun x1 x2 => x1 ++ x2) #[] (List.replicate (if its.toArray.isEmpty = true then 0 else k.toNat) its.toArray) = (List.replicate k.toNat its).flatten.toArray := by
    have f0 : ∀ m : Nat, List.foldl (fun x1 x2 => x1 ++ x2) #[] (List.replicate m its.toArray) = (List.replicate m its).flatten.toArray := fun m => by
      have := foldl_rep its m []
      rw [List.nil_append] at this
      exact this
    rw [f0]
    cases its with
    | nil => simp
    | cons a r' => rw [if_neg (by simp)]
  refine wpAny_binaryOp_repeat_ref (T := "list") (U := "int") (by decide) ⟨_, e, rfl⟩ (fun s' => typeIs_int s' k t) noFill_list_mul F.fills_int_mul F.slot_int_rmul repeat_list F.slot_int_index.lookup
    (call_meets F.slot_int_rmul (typeIs_int s k t) F.entry_int_rmul (F.args_int_rmul_2 _ _) (int___rmul___int_list k t l its.toArray n)
      ⟨e, rfl, ⟨_, e, rfl⟩, call_meets F.slot_list_mul ⟨_, e, rfl⟩ F.entry_list_mul (F.args_list_mul_2 _ _) (AutoListH.list___mul___list_int_3 l its.toArray n k t hfit hcap hlong) ⟨e, ?_⟩⟩)
  rw [hnew]
  exact ⟨.ref _, _, I.lnew (t' := s.toks) (r.rep k.toNat) (by rw [len_rep, Nat.mul_comm]; exact hz), rfl, q _ I.fresh⟩

/-! ### del xs[i] -/
end

/-! ### xs[a:b] = ys -/
section
variable {prog : Program} {w : World} {A : Around} {E : Value → Shared → Prop} {s : Shared}
end

section
variable {X : Cx}
end
end L2

namespace L2
open PySem PySem.Spec PyProof.Rows

/-! ### lists of pairs as tables -/
section
variable {κ : Type} [DecidableEq κ]
def valV (kvs : List (κ × V)) (k : κ) : Option V := (kvs.find? fun kv => decide (kv.1 = k)).map (·.2)
/-- in its place, or at the end -/
def putK (kvs : List (κ × V)) (k : κ) (v : V) : List (κ × V) :=
  if (kvs.any fun kv => decide (kv.1 = k)) = true then kvs.map (fun kv => if kv.1 = k then (kv.1, v) else kv) else kvs ++ [(k, v)]
theorem valV_pos {p : κ × V} {r : List (κ × V)} {k : κ} (e : p.1 = k) : valV (p :: r) k = some p.2 := by simp [valV, List.find?_cons, e]
theorem valV_neg {p : κ × V} {r : List (κ × V)} {k : κ} (e : ¬ p.1 = k) : valV (p :: r) k = valV r k := by simp [valV, List.find?_cons, e]
theorem valV_any (k : κ) : ∀ kvs : List (κ × V), (kvs.any fun kv => decide (kv.1 = k)) = (valV kvs k).isSome
  | [] => rfl
  | p :: r => by
    rw [List.any_cons]
    by_cases e : p.1 = k
    · simp only [valV_pos e, decide_eq_true e, Bool.true_or, Option.isSome_some]
    · rw [valV_neg e, decide_eq_false e, Bool.false_or]; exact valV_any k r
theorem length_putK (kvs : List (κ × V)) (k : κ) (v : V) : (putK kvs k v).length ≤ kvs.length + 1 := by
  unfold putK
  split
  · rw [List.length_map]; omega
  · rw [List.length_append, List.length_cons, List.length_nil]; omega
theorem RelO.isSome_eq {o : Option V} {u : Option Value} (r : RelO o u) : o.isSome = u.isSome := by
  cases o with
  | none => cases u with
    | none => rfl
    | some _ => exact (show False from r).elim
  | some _ => cases u with
    | none => exact (show False from r).elim
    | some _ => rfl
/-- raw tables of the same keys -/
theorem KV.val {kvs : List (κ × V)} {vs : List (κ × Value)} (r : KV kvs vs) (k : κ) : RelO (valV kvs k) (valueAt vs k) := by
  unfold KV at r
  induction r with
  | nil => exact True.intro
  | @cons p q ps qs h t ih =>
    obtain ⟨h1, h2⟩ := h
    by_cases e : p.1 = k
    · have e' : q.1 = k := h1.symm.trans e
      have b : valueAt (q :: qs) k = some q.2 := by simp [valueAt, List.find?_cons, e']
      rw [valV_pos e, b]; exact h2
    · have e' : ¬ q.1 = k := fun z => e (h1.trans z)
      have b : valueAt (q :: qs) k = valueAt qs k := by simp [valueAt, List.find?_cons, e']
      rw [valV_neg e, b]; exact ih
theorem KV.any {kvs : List (κ × V)} {vs : List (κ × Value)} (r : KV kvs vs) (k : κ) : (kvs.any fun kv => decide (kv.1 = k)) = vs.any fun kv => decide (kv.1 = k) := by
  unfold KV at r
  induction r with
  | nil => rfl
  | cons h t ih => rw [List.any_cons, List.any_cons, ih, h.1]
theorem KV.repl {kvs : List (κ × V)} {vs : List (κ × Value)} (r : KV kvs vs) (k : κ) {y : V} {u : Value} (ry : RelV y u) :
    KV (kvs.map fun kv => if kv.1 = k then (kv.1, y) else kv) (vs.map fun kv => if kv.1 = k then (kv.1, u) else kv) := by
  unfold KV at r ⊢
  induction r with
  | nil => exact .nil
  | @cons p q ps qs h t ih =>
    rw [List.map_cons, List.map_cons]
    refine .cons ?_ ih
    obtain ⟨h1, h2⟩ := h
    by_cases e : p.1 = k
    · rw [if_pos e, if_pos (h1.symm.trans e)]; exact ⟨h1, ry⟩
    · rw [if_neg e, if_neg (fun z => e (h1.trans z))]; exact ⟨h1, h2⟩
theorem KV.put {kvs : List (κ × V)} {vs : List (κ × Value)} (r : KV kvs vs) (k : κ) {y : V} {u : Value} (ry : RelV y u) : KV (putK kvs k y) (stored vs k u) := by
  unfold putK stored
  rw [r.any k]
  by_cases e : (vs.any fun kv => decide (kv.1 = k)) = true
  · rw [if_pos e, if_pos e]; exact r.repl k ry
  · rw [if_neg e, if_neg e]; exact Paired.snoc r ⟨rfl, ry⟩
theorem KV.length {kvs : List (κ × V)} {vs : List (κ × Value)} (r : KV kvs vs) : kvs.length = vs.length := Paired.length r
end


/-! ### a tracked dict, its keys ints and texts or tuples of these -/
theorem kV_is {P : Program} {w : World} {k : Key} {u : Value} (r : RelV (kV k) u) : (mixKind P w).is k u = true := by
  cases k with
  | inl i => obtain ⟨t, e⟩ := (show ∃ t, u = Value.int i t from r); subst e; exact mixKind_int P w i t
  | inr x => obtain ⟨t, e⟩ := (show ∃ t, u = Value.str x t from r); subst e; exact mixKind_str P w x t
theorem items_are {P : Program} {w : World} : ∀ {ks : List Key} {us : List Value}, Vals (ks.map kV) us → ItemsAre (mixKind P w) ks us
  | [], _, r => by rw [List.map_nil] at r; cases r; exact .nil
  | k :: ks, _, r => by
    rw [List.map_cons] at r
    cases r with
    | cons h t => exact .cons (kV_is h) (items_are t)

/-- raw entries of a dict with tuple keys -/
abbrev KT (H : Hp) : List (List Key × V) → List (List Key × Addr × Value) → Prop := Paired fun p q => p.1 = q.1 ∧ H q.2.1 = some (.tup (p.1.map kV)) ∧ RelV p.2 q.2.2
theorem KT.val {H : Hp} {kvs : List (List Key × V)} {xs : List (List Key × Addr × Value)} (r : KT H kvs xs) (k : List Key) : RelO (valV kvs k) ((atKey xs k).map (·.2)) := by
  induction r with
  | nil => exact True.intro
  | @cons p q ps qs h t ih =>
    obtain ⟨h1, _, h2⟩ := h
    by_cases e : p.1 = k
    · have e' : q.1 = k := h1.symm.trans e
      have b : atKey (q :: qs) k = some q.2 := by simp [atKey, List.find?_cons, e']
      rw [valV_pos e, b]; exact h2
    · have e' : ¬ q.1 = k := fun z => e (h1.trans z)
      have b : atKey (q :: qs) k = atKey qs k := by simp [atKey, List.find?_cons, e']
      rw [valV_neg e, b]; exact ih
theorem KT.repl {H : Hp} {kvs : List (List Key × V)} {xs : List (List Key × Addr × Value)} (r : KT H kvs xs) (k : List Key) {y : V} {u : Value} (ry : RelV y u) :
    KT H (kvs.map fun kv => if kv.1 = k then (kv.1, y) else kv) (xs.map (putAt k u)) := by
  induction r with
  | nil => exact .nil
  | @cons p q ps qs h t ih =>
    rw [List.map_cons, List.map_cons]
    refine .cons ?_ ih
    obtain ⟨h1, h2, h3⟩ := h
    unfold putAt
    by_cases e : p.1 = k
    · rw [if_pos e, if_pos (h1.symm.trans e)]; exact ⟨h1, h2, ry⟩
    · rw [if_neg e, if_neg (fun z => e (h1.trans z))]; exact ⟨h1, h2, h3⟩
theorem KT.put {H : Hp} {kvs : List (List Key × V)} {xs : List (List Key × Addr × Value)} (r : KT H kvs xs) (k : List Key) {b : Addr} {y : V} {u : Value} (hb : H b = some (.tup (k.map kV))) (ry : RelV y u) :
    KT H (putK kvs k y) (storedH xs k b u) := by
  have e : (kvs.any fun kv => decide (kv.1 = k)) = (atKey xs k).isSome := by
    rw [valV_any, (r.val k).isSome_eq, Option.isSome_map]
  unfold putK storedH
  rw [e]
  by_cases q : (atKey xs k).isSome = true
  · rw [if_pos q, if_pos q]; exact r.repl k ry
  · rw [if_neg q, if_neg q]; exact Paired.snoc r ⟨rfl, hb, ry⟩
theorem KT.keeps {H H' : Hp} {kvs : List (List Key × V)} {xs : List (List Key × Addr × Value)} (r : KT H kvs xs) (ht : ∀ b ys, H b = some (.tup ys) → H' b = some (.tup ys)) : KT H' kvs xs :=
  Paired.mapP r fun _ _ z => ⟨z.1, ht _ _ z.2.1, z.2.2⟩

section
variable {P : Program} {w : World} {H : Hp} {h : Heap} {a : Addr}
theorem rd_of {u : HO} (ok : HOk P w H h) (e : Rd H a u) : ObjOk P w H h a u := e.ok ok
theorem dk_rd {kvs : List (Key × V)} (ok : HOk P w H h) (e : Rd H a (.dK kvs)) : kvs.length ≤ sizeLine ∧ (a == sysModules) = false ∧ ∃ vs, KV kvs vs ∧ h.DictOf (mixKind P w) a vs :=
  show ObjOk P w H h a (.dK kvs) from rd_of ok e
theorem dk_of {kvs : List (Key × V)} (ok : HOk P w H h) (e : H a = some (.dK kvs)) : kvs.length ≤ sizeLine ∧ (a == sysModules) = false ∧ ∃ vs, KV kvs vs ∧ h.DictOf (mixKind P w) a vs := dk_rd ok (.inl e)
/-- a tracked tuple of ints and texts is a key -/
theorem key_of {ks : List Key} (ok : HOk P w H h) (e : H a = some (.tup (ks.map kV))) : (tupleKind (mixKind P w)).is h ks a := by
  obtain ⟨_, its, r, o, h1, h2, n, h3⟩ := (show ObjOk P w H h a (.tup (ks.map kV)) from ok a _ e)
  exact ⟨o, its.toArray, n, h1, h2, h3, by simpa using items_are r⟩
theorem dt_rd {kvs : List (List Key × V)} (ok : HOk P w H h) (e : Rd H a (.dT kvs)) : kvs.length ≤ sizeLine ∧ (a == sysModules) = false ∧
    ∃ xs, KT H kvs xs ∧ h.DictOfH (tupleKind (mixKind P w)) a xs := by
  obtain ⟨z, y, xs, r, o, es, ep, h1, h2, h3, h4, h5⟩ := (show ObjOk P w H h a (.dT kvs) from rd_of ok e)
  refine ⟨z, y, xs, r, o, es, ep, h1, h2, h3, h4, fun x hx => ?_, h5⟩
  have all : ∀ {l : List (List Key × V)} {m : List (List Key × Addr × Value)}, KT H l m → ∀ x ∈ m, (tupleKind (mixKind P w)).is h x.1 x.2.1 := by
    intro l m q
    induction q with
    | nil => intro x hx; exact nomatch hx
    | @cons p q ps qs hq t ih =>
      intro x hx
      rcases List.mem_cons.mp hx with e | hx
      · subst e
        exact key_of ok (by rw [← hq.1]; exact hq.2.1)
      · exact ih x hx
  exact all r x hx
theorem dt_of {kvs : List (List Key × V)} (ok : HOk P w H h) (e : H a = some (.dT kvs)) : kvs.length ≤ sizeLine ∧ (a == sysModules) = false ∧
    ∃ xs, KT H kvs xs ∧ h.DictOfH (tupleKind (mixKind P w)) a xs := dt_rd ok (.inl e)
end

/-- what the dict at a holds at the key y -/
def DGet (H : Hp) (a : Addr) (y : V) (r : Option V) : Prop :=
  (∃ kvs k, Rd H a (.dK kvs) ∧ y = kV k ∧ r = valV kvs k) ∨ ∃ kvs k b, Rd H a (.dT kvs) ∧ y = .ref b ∧ H b = some (.tup (k.map kV)) ∧ r = valV kvs k
/-- the heap behind a[y] = v -/
def DPut (H : Hp) (a : Addr) (y v : V) (H' : Hp) : Prop :=
  (∃ kvs k, H a = some (.dK kvs) ∧ y = kV k ∧ kvs.length < sizeLine ∧ H' = upd H a (.dK (putK kvs k v))) ∨
  ∃ kvs k b, H a = some (.dT kvs) ∧ y = .ref b ∧ H b = some (.tup (k.map kV)) ∧ kvs.length < sizeLine ∧ H' = upd H a (.dT (putK kvs k v))
theorem DGet.k {H : Hp} {a : Addr} {kvs : List (Key × V)} {k : Key} (e : H a = some (.dK kvs)) : DGet H a (kV k) (valV kvs k) := .inl ⟨kvs, k, .inl e, rfl, rfl⟩
theorem DPut.k {H : Hp} {a : Addr} {kvs : List (Key × V)} {k : Key} {v : V} (e : H a = some (.dK kvs)) (hl : kvs.length < sizeLine) : DPut H a (kV k) v (upd H a (.dK (putK kvs k v))) := .inl ⟨kvs, k, e, rfl, hl, rfl⟩
section
variable {X : Cx} {pins : List (Addr × Obj)} {σ : St} {H : Hp} {s : Shared} {a : Addr} {y v : V} {u r : Value} {o : Option V} {A : Around} {E : Value → Shared → Prop}

theorem Inv.big (I : Inv X pins σ H s) : sysModules < s.heap.objs.size := by
  have h : mainGlobals < s.heap.objs.size := (I.mod.glob.keeps I.bk).lt
  exact Nat.lt_trans (by decide) h

/-- d[y], there -/
theorem d_getItem {Q : Value → Shared → Prop} (hu : A.units + 1 < cLine) (I : Inv X pins σ H s) (g : DGet H a y (some v)) (ry : RelV y u) (h : ∀ w' s', Inv X pins σ H s' → RelV v w' → Q w' s') :
    wpAny (model X.prog X.w) A (getItem (.ref a) u) Q E s := by
  rcases g with ⟨kvs, k, e, ey, l⟩ | ⟨kvs, k, b, e, ey, eb, l⟩
  · subst ey
    obtain ⟨z, hd, vs, rel, dd⟩ := dk_rd I.hok e
    obtain ⟨w', hw, rw'⟩ := RelO.some_of (v := v) (o := valueAt vs k) (by rw [l]; exact rel.val k)
    exact wpAny_getItem_of (kV_is ry) dd.mapOf hw (h w' _ (I.tok _) rw')
  · subst ey
    cases (show u = Value.ref b from ry)
    obtain ⟨z, hd, xs, rel, dd⟩ := dt_rd I.hok e
    obtain ⟨w', hw, rw'⟩ := RelO.some_of (v := v) (o := (atKey xs k).map (·.2)) (by rw [l]; exact rel.val k)
    obtain ⟨p, hp, hp2⟩ := Option.map_eq_some_iff.mp hw
    refine wpAny_getItem_heap (tupleKind_room_in1 hu) (key_of I.hok eb) dd hp ?_
    rw [hp2]
    exact h w' _ (I.tok _) rw'
/-- a dict's object is replaced -/
theorem d_write {h' : Heap} {t' : Nat} {ob : HO} (I : Inv X pins σ H s) (mu : Mut (H a)) (hs : Heap.SameBut a s.heap h') (he : ∃ q, h'.get? a = some q) (new : ObjOk X.prog X.w (upd H a ob) h' a ob) :
    Inv X pins σ (upd H a ob) { s with heap := h', toks := t' } :=
  I.write (x := a) (e := a) mu (.inl rfl) (fun b q hb z => (hs.2 b hb).trans z) he new
theorem dk_new {P : Program} {w : World} {H' : Hp} {h' : Heap} {kvs : List (Key × V)} {vs : List (Key × Value)} (z : kvs.length ≤ sizeLine) (hd : (a == sysModules) = false) (rel : KV kvs vs) (dd : h'.DictOf (mixKind P w) a vs) :
    ObjOk P w H' h' a (.dK kvs) := ⟨z, hd, vs, rel, dd⟩
/-- d[y] = v -/
theorem d_setItem {H' : Hp} {Q : Unit → Shared → Prop} (hu : A.units + 1 < cLine) (I : Inv X pins σ H s) (g : DPut H a y v H') (ry : RelV y u) (rv : RelV v r) (h : ∀ s', Inv X pins σ H' s' → Q () s') :
    wpAny (model X.prog X.w) A (setItem (.ref a) u r) Q E s := by
  rcases g with ⟨kvs, k, e, ey, l, eH⟩ | ⟨kvs, k, b, e, ey, eb, l, eH⟩
  · subst ey eH
    obtain ⟨z, hd, vs, rel, dd⟩ := dk_of I.hok e
    have hz : vs.length ≤ sizeLine := by rw [← rel.length]; exact z
    have hl : (putK kvs k v).length ≤ sizeLine := by have := length_putK kvs k v; omega
    refine wpAny_setItem_pairs (hsz := hz) (kV_is ry) dd fun h' dd' hs => h _ ?_
    have he : ∃ q, h'.get? a = some q := let ⟨q, _, _, hq, _⟩ := dd'; ⟨q, hq⟩
    exact d_write I (by rw [e]; exact True.intro) hs he (dk_new hl hd (rel.put k rv) dd')
  · subst ey eH
    cases (show u = Value.ref b from ry)
    obtain ⟨z, hd, xs, rel, dd⟩ := dt_of I.hok e
    have hz : xs.length ≤ sizeLine := by rw [← Paired.length rel]; exact z
    have hl : (putK kvs k v).length ≤ sizeLine := by have := length_putK kvs k v; omega
    refine wpAny_setItem_heap (hsz := hz) (tupleKind_room_in1 hu) (key_of I.hok eb) dd fun h' dd' hs => h _ ?_
    obtain ⟨q, es, ep, hq, h2, h3, h4, _, h5⟩ := dd'
    refine d_write I (by rw [e]; exact True.intro) hs ⟨q, hq⟩ ⟨hl, hd, _, (rel.put k eb rv).keeps fun c ys ec => ?_, q, es, ep, hq, h2, h3, h4, h5⟩
    rw [upd_ne (ne_of ec e (fun z => nomatch z))]
    exact ec
end

section
variable {X : Cx} {pins : List (Addr × Obj)} {σ : St} {H : Hp} {s : Shared} {a : Addr} {kvs : List (Key × V)} {k : Key} {u : Value} {A : Around} {E : Value → Shared → Prop}
end


/-! ### readings and rules -/
/-- the element of a subscription, not a slice -/
def NoSl (i : Expr) : Prop := ∀ ov iv, subscripted i false ov iv = operate [ov, iv] (getItem ov iv)
theorem subD_of {prog : Program} {w : World} {A : Around} {E : Value → Shared → Prop} {s : Shared} {env : Env} {value slice : Expr} {pos : Pos} {T id : String} {Q : Value → Shared → Prop}
    (hl : typeLookup (.type T) "__getitem__" = pure (some (.builtin id))) (hs : NoSl slice)
    (h : wpAny (model prog w) A (eval value env) (fun o s₁ => wpAny (model prog w) A (eval slice env) (fun i s₂ => s₂.TypeIs o T ∧ wpAny (model prog w) A (getItem o i) Q E s₂) E s₁) E s) :
    wpAny (model prog w) A (eval (.Subscript value slice pos) env) Q E s := by
  refine Subscript_ (wpAny_mono h (fun o s₁ h₁ => wpAny_mono h₁ (fun i s₂ h₂ => ?_) fun _ _ x => x) fun _ _ x => x)
  obtain ⟨hT, h₂⟩ := h₂
  unfold subscriptTail
  refine wpAny_bind ?_
  rw [getitemInPython_of_ne hT.not_modules]
  refine wpAny_bind (wpAny_specialOf hT hl ?_)
  have fin : wpAny (model prog w) A (subscripted slice false o i) (fun r s₃ => wpAny (model prog w) A (letTemporaryGo value o r >>= fun _ => pure r) Q E s₃) E s₂ := by
    rw [hs o i]
    exact wpAny_operating (wpAny_mono h₂ (fun r s₃ h₃ => wpAny_bind (wpAny_letTemporaryGo (wpAny_pure h₃))) fun _ _ x => x)
  first
    | exact wpAny_pure (wpAny_bind fin)
    | exact wpAny_bind (wpAny_pure (wpAny_bind fin))
    | exact wpAny_bind fin

theorem dict_typeIs {X : Cx} {pins : List (Addr × Obj)} {σ : St} {H : Hp} {s : Shared} {a : Addr} {y : V} {o : Option V} (I : Inv X pins σ H s) (g : DGet H a y o) : s.TypeIs (.ref a) "dict" := by
  rcases g with ⟨kvs, k, e, _, _⟩ | ⟨kvs, k, b, e, _, _, _⟩
  · obtain ⟨_, _, vs, _, dd⟩ := dk_rd I.hok e
    exact dd.typeIs
  · obtain ⟨_, _, xs, _, dd⟩ := dt_rd I.hok e
    exact dd.typeIs
/-- d[y] -/
def tDGet (td ty : TE) : TE := fun σ H Q => td σ H fun x H1 => ty σ H1 fun y H2 => ∃ a v, x = .ref a ∧ DGet H2 a y (some v) ∧ Q v H2
/-- d[y] = v -/
def sDPut (td ty tv : TE) : TS := fun D σ H => tv σ H fun v H1 => td σ H1 fun x H2 => ty σ H2 fun y H3 => ∃ a H4, x = .ref a ∧ DPut H3 a y v H4 ∧ D.nx σ H4
section
variable {X : Cx} {o i e value : Expr} {pos pos' tpos : Pos} {td ty tv : TE}
theorem pe_dget (hu : X.A.units + 1 < cLine) (ho : PE X o td) (hi : PE X i ty) (hs : NoSl i) : PE X (.Subscript o i pos) (tDGet td ty) := by
  intro pins s σ H Q I h
  refine subD_of PySem.F.slot_dict_getitem.lookup hs (thn (ho pins s σ H _ I h) fun u s1 ⟨x, H1, I1, rx, q1⟩ => thn (hi pins s1 σ H1 _ I1 q1) fun iv s2 ⟨y, H2, I2, ry, a, v, ex, g, q2⟩ => ?_)
  subst ex
  obtain rfl : u = Value.ref a := rx
  exact ⟨dict_typeIs I2 g, d_getItem hu I2 g ry fun w' s3 I3 rw' => ⟨v, H2, I3, rw', q2⟩⟩
theorem ps_dput (hu : X.A.units + 1 < cLine) (ho : PE X o td) (hi : PE X i ty) (hv : PE X value tv) (hs : swapsWith value (some (.Subscript o i pos')) pos.line X.env = pure false) :
    PS X (.Assign [.Subscript o i pos'] value pos) (sDPut td ty tv) := by
  intro pins s σ H D I h
  refine wpAny_Assign_Subscript (thn (hv pins s σ H _ I h) fun r s1 ⟨v, H1, I1, rv, q1⟩ => thn (ho pins s1 σ H1 _ I1 q1) fun u s2 ⟨x, H2, I2, rx, q2⟩ => thn (hi pins s2 σ H2 _ I2 q2) fun iv s3 ⟨y, H3, I3, ry, a, H4, ex, g, q3⟩ => ?_) hs
  subst ex
  obtain rfl : u = Value.ref a := rx
  exact d_setItem hu I3 g ry rv fun s4 I4 => ⟨σ, H4, I4, q3⟩
end


/-! ### displays -/
theorem dk_empty {P : Program} {w : World} {H : Hp} (h : Heap) (hb : sysModules < h.objs.size) : ObjOk P w H (h.push { cls := .type "dict", data := .dict #[] }) h.objs.size (.dK []) :=
  ⟨Nat.zero_le _, beq_eq_false_iff_ne.mpr (Ne.symm (Nat.ne_of_lt hb)), [], .nil, Heap.DictOf.new h⟩
section
variable {X : Cx} {pos : Pos}
end

/-- the pairs of a display, from the left -/
def tPairs : List (TE × TE) → St → Hp → (List (V × V) → Hp → Prop) → Prop
  | [], _, H, Q => Q [] H
  | (tk, tv) :: r, σ, H, Q => tk σ H fun x H1 => tv σ H1 fun y H2 => tPairs r σ H2 fun ps H3 => Q ((x, y) :: ps) H3
abbrev VV : List (V × V) → List (Value × Value) → Prop := Paired fun p q => RelV p.1 q.1 ∧ RelV p.2 q.2
def PPs (X : Cx) (pos : Pos) (keys : List (Option Expr)) (values : List Expr) (trs : List (TE × TE)) : Prop :=
  ∀ (pins : List (Addr × Obj)) (s : Shared) (σ : St) (H : Hp) (Q : List (V × V) → Hp → Prop), Inv X pins σ H s → tPairs trs σ H Q →
    wpAny (model X.prog X.w) X.A (evalPairs (pairTrees keys values X.env pos)) (fun vs s' => ∃ ps H', Inv X pins σ H' s' ∧ VV ps vs ∧ Q ps H') X.xe s
theorem pps_nil {X : Cx} {pos : Pos} : PPs X pos [] [] [] := fun pins s σ H Q I h => pairTrees_nil_walk ⟨[], H, I, .nil, h⟩
theorem pps_cons {X : Cx} {pos : Pos} {k v : Expr} {ks : List (Option Expr)} {vs : List Expr} {tk tv : TE} {trs : List (TE × TE)} (hk : PE X k tk) (hv : PE X v tv) (hr : PPs X pos ks vs trs) :
    PPs X pos (some k :: ks) (v :: vs) ((tk, tv) :: trs) := fun pins s σ H Q I h =>
  pairTrees_cons_walk (thn (hk pins s σ H _ I h) fun u s1 ⟨x, H1, I1, rx, q1⟩ => thn (hv pins s1 σ H1 _ I1 q1) fun w2 s2 ⟨y, H2, I2, ry, q2⟩ =>
    thn (hr pins s2 σ H2 _ I2 q2) fun ws s3 ⟨ps, H3, I3, rel, q3⟩ => ⟨(x, y) :: ps, H3, I3, .cons ⟨rx, ry⟩ rel, q3⟩)

def mergeK (kvs more : List (Key × V)) : List (Key × V) := more.foldl (fun acc kv => putK acc kv.1 kv.2) kvs
theorem KV.merge : ∀ {more : List (Key × V)} {rs : List (Key × Value)} {kvs : List (Key × V)} {vs : List (Key × Value)}, KV more rs → KV kvs vs → KV (mergeK kvs more) (merged vs rs) := by
  intro more rs kvs vs r
  unfold KV at r
  induction r generalizing kvs vs with
  | nil => intro q; exact q
  | @cons p q ps qs h t ih =>
    intro r0
    have e : KV (putK kvs p.1 p.2) (stored vs q.1 q.2) := by
      have := r0.put p.1 h.2
      rw [← h.1]; exact this
    exact ih e
theorem length_mergeK : ∀ (more kvs : List (Key × V)), (mergeK kvs more).length ≤ kvs.length + more.length
  | [], kvs => by show kvs.length ≤ kvs.length + 0; omega
  | p :: r, kvs => by
    have h1 := length_mergeK r (putK kvs p.1 p.2)
    have h2 := length_putK kvs p.1 p.2
    show (mergeK (putK kvs p.1 p.2) r).length ≤ _
    rw [List.length_cons]; omega
theorem carries_of {P : Program} {w : World} : ∀ {kvs : List (Key × V)} {ws : List (Value × Value)}, VV (kvs.map fun kv => (kV kv.1, kv.2)) ws → ∃ rs, Carries (mixKind P w) ws rs ∧ KV kvs rs
  | [], _, r => by rw [List.map_nil] at r; cases r; exact ⟨[], True.intro, .nil⟩
  | p :: kvs, _, r => by
    rw [List.map_cons] at r
    cases r with
    | @cons a b as bs h t =>
      obtain ⟨rs, c, q⟩ := carries_of (P := P) (w := w) t
      obtain ⟨b1, b2⟩ := b
      exact ⟨(p.1, b2) :: rs, ⟨kV_is h.1, rfl, c⟩, .cons ⟨rfl, h.2⟩ q⟩
/-- {k: v, ..} with keys ints and texts; the new dict stands empty while the pairs are made -/
def tDisp (trs : List (TE × TE)) : TE := fun σ H Q => ∀ p, H p = none → tPairs trs σ (upd H p (.dK [])) fun ps H2 => H2 p = some (.dK []) ∧ ∃ kvs : List (Key × V), ps = kvs.map (fun kv => (kV kv.1, kv.2)) ∧ kvs.length ≤ 15 ∧ Q (.ref p) (upd H2 p (.dK (mergeK [] kvs)))
theorem pe_disp {X : Cx} {pos : Pos} {keys : List (Option Expr)} {values : List Expr} {trs : List (TE × TE)} (h : PPs X pos keys values trs) (hall : keys.all (·.isSome) = true) (hl : keys.length = values.length) (h0 : keys ≠ [])
    (h15 : keys.length ≤ 15) : PE X (.Dict keys values pos) (tDisp trs) := by
  intro pins s σ H Q I q
  have hn := I.hok.fresh (Nat.le_refl s.heap.objs.size)
  have I1 := I.laid (a := s.heap.objs.size) (o := .dK []) (h' := s.heap.push { cls := .type "dict", data := .dict #[] }) (t' := s.toks) (fun _ _ q => Heap.get?_push_of_some _ q) (Nat.le_refl _) (dk_empty s.heap I.big)
  refine wpAny_Dict_walk (knd := mixKind X.prog X.w) hall hl h0 h15 (thn (h pins _ σ _ _ I1 (q _ hn)) fun ws s2 ⟨ps, H2, I2, rel, e, kvs, ep, lk, q2⟩ => ?_)
  subst ep
  obtain ⟨rs, c, rk⟩ := carries_of (P := X.prog) (w := X.w) rel
  obtain ⟨z, hd, vs0, r0, dd⟩ := dk_of I2.hok e
  cases r0
  refine ⟨rs, c, dd, fun h' dd' hs => ⟨.ref s.heap.objs.size, _, ?_, rfl, q2⟩⟩
  have hz : (mergeK [] kvs).length ≤ sizeLine := by
    have h1 := length_mergeK kvs []
    rw [List.length_nil] at h1
    rw [sizeLine_eq]; omega
  have he : ∃ q, h'.get? s.heap.objs.size = some q := let ⟨q, _, _, hq, _⟩ := dd'; ⟨q, hq⟩
  exact d_write I2 (by rw [e]; exact True.intro) hs he (dk_new hz hd (rk.merge .nil) dd')


/-! ### methods -/
section
variable {X : Cx} {pins : List (Addr × Obj)} {σ : St} {H : Hp} {s : Shared} {a : Addr} {y d : V} {u r : Value} {o : Option V} {A : Around} {E : Value → Shared → Prop}
end

section
variable {X : Cx} {o e f : Expr} {apos cpos : Pos} {td ty tx : TE}
end

/-! ### dict(d): a copy -/
section
variable {X : Cx} {pins : List (Addr × Obj)} {σ : St} {H : Hp} {s : Shared} {a : Addr} {kvs : List (Key × V)} {A : Around} {E : Value → Shared → Prop}
end


section
variable {X : Cx} {pins : List (Addr × Obj)} {σ : St} {H : Hp} {s : Shared} {a : Addr} {y : V} {u : Value} {A : Around} {E : Value → Shared → Prop}
end
end L2

namespace Att
open PySem PySem.W PySem.Calls PyProof.Rows

/-! ### the script -/
theorem ints_of_wellAll {P : Params} {h : Heap} : ∀ (ns : List Int) (vs : List Value), WellAll P h vs (ns.map WData.int) → IntsAre vs ns := by
  intro ns
  induction ns with
  | nil =>
    intro vs w
    rw [List.map_nil] at w
    cases w
    exact .nil
  | cons n ns ih =>
    intro vs w
    rw [List.map_cons] at w
    cases w with
    | cons a b =>
      cases a
      exact .cons _ _ (ih _ b)

theorem script_of {l : OpenLaw} {n : Nat} (hn : l.most = some n) {P : Params} {h : Heap} {args : List WData} {vals : List Value}
    (hpre : l.row.toRowW.claim.pre args = true) (hwl : WellAll P h vals args) :
    ∃ a vs ns, vals = [Value.ref a] ∧ args = [WData.list (ns.map WData.int)] ∧ h.get? a = some { cls := .type "list", data := .seq vs.toArray } ∧ IntsAre vs ns ∧ ns.length ≤ n := by
  have hsh : WShape.hasAll [] args [.list .int] = true := (pre_splitW hpre).1
  have hc : l.pre.holds [] { args := args } = true := (pre_splitW hpre).2
  obtain ⟨d, r, rfl, h1, h2⟩ := hasAllW_cons hsh
  obtain rfl := hasAllW_nil h2
  obtain ⟨xs, rfl, h3⟩ := hasW_list h1
  obtain ⟨ns, rfl⟩ := items_int h3
  have hlen : ns.length ≤ n := by
    unfold OpenLaw.pre at hc
    have h4 : (WTm.not (.lt (.lit (.int (n : Int))) (.len (.arg 0)))).holds [] { args := [.list (ns.map .int)] } = true := by
      have h4 := (holds_andW hc).1
      rw [hn] at h4
      exact h4
    have h5 := condW_of h4 (w_not (w_lt w_lit (w_len_list (w_arg rfl))))
    rw [List.length_map] at h5
    refine Nat.le_of_not_lt fun q => ?_
    have q' : (n : Int) < ((ns.length : Nat) : Int) := by omega
    first
      | (rw [decide_eq_true q'] at h5; exact absurd h5 (by decide))
      | (simp at h5; omega)
  cases hwl with
  | cons w1 w2 =>
    cases w2
    cases w1 with
    | list ho hall => exact ⟨_, _, ns, rfl, rfl, ho, ints_of_wellAll ns _ hall, hlen⟩

theorem post_true (l : OpenLaw) (args : List WData) : l.row.toRowW.claim.post args (.bool true) args = true :=
  postW_of (r := l.row.toRowW) (X := (true == true))
    (show WShape.has [] (.bool true) .bool = true by first | rfl | decide | simp [WShape.has, WShape.arms, WShape.armsAll])
    (show (WTm.eq .res (.lit (.bool true))).value [] { args := args, res := some (.bool true), after := args } = some (.bool (true == true)) from w_eq_bool (w_res rfl) w_lit) rfl

/-! ### the attachment: holds_open's last premise (the goal 'hc' behind k_head) from a wpAny of the law's body -/
/-- the same from a codeAny of the CALL (for a layer whose function contracts speak of calls) -/
theorem attach_call {l : OpenLaw} {n : Nat} {q : Program} {loose : List Str} {XP : (Str → Option Value) → Heap → Prop} {YP : World → Heap → Prop} {d : DefRec}
    (hn : l.most = some n) (hdf : d.params.defaults = [])
    (call : ∀ (w : World) (s₀ s₁ : Shared) (mg mb : Str → Option Value) (fa : Addr) (o : Obj) (pm cd doc : Value) (a : Addr) (vs : List Value) (ns : List Int),
      Ground q loose [] XP w s₀ mg mb s₁.heap → YP w s₁.heap →
      s₁.heap.get? fa = some o → o.data = .func (docDef d.name d.params d.body d.scope pm cd doc) → s₁.heap.CodeRec cd d.name → mg d.name = some (.ref fa) →
      s₁.heap.get? a = some { cls := .type "list", data := .seq vs.toArray } → IntsAre vs ns → ns.length ≤ n → s₁.gens = #[] →
      codeAny (model l.prog w) callerA (.call (.ref fa) ⟨[.ref a], []⟩) (fun r s' => r = .ok (.ret (.bool true)) ∧ OldK s₁.heap s'.heap ∧ s'.os = s₁.os ∧ AllBare s'.gens) s₁) :
    WalkO q loose XP YP l.row.toRowW d [] (fun f vs => PySem.call f vs) := by
  intro w s₀ s₁ mg mb G Y fa o pm cd doc dV kV ho hd hcd hD hmg hg args vals as hpre hlay hrd hwl hlo
  obtain rfl : dV = .none := Dflts.none hD hdf
  obtain rfl : kV = .none := Dflts.noKw hD
  obtain ⟨a, vs, ns, rfl, rfl, hobj, hints, hlen⟩ := script_of hn hpre hwl
  refine enter_call (codeAny_mono (call w s₀ s₁ mg mb fa o pm cd doc a vs ns G Y ho (fd_plain hd) hcd hmg hobj hints hlen hg) fun r s' hq => ?_)
  obtain ⟨rfl, h2, h3, h4⟩ := hq
  exact ⟨.inl ⟨.bool true, .bool true, [], rfl, fun _ => rfl, .bool true, post_true l _, fun _ => ⟨List.Pairwise.nil, fun _ hm => (nomatch hm)⟩⟩, h2, h3, h4⟩

/-! ### rules over ANY heap (no ledger) from facts about the written part K: the library's own take a ledger (News) for what they write -/
section
variable {prog : Program} {w : World} {A : Around} {E : Value → Shared → Prop} {s : Shared} {K : Frag}

/-! the whole heap as the ledger: makes every rule that writes through a ledger a rule over any heap -/
end
end Att

namespace L2
open PySem PySem.Spec PyProof.Rows

theorem vals_ints : ∀ {vs : List Value} {ns : List Int}, IntsAre vs ns → Vals (ns.map V.int) vs
  | _, _, .nil => .nil
  | _, _, .cons n t h => .cons ⟨t, rfl⟩ (vals_ints h)

/-- nothing is tracked but the script, known to the object (or it is an object of the module) -/
def Only (H : Hp) : Prop := ∀ b, H b = none ∨ ∃ o xs, H b = some (.frz o (.lst xs))

/-- THE HEAD: the law's promise, at the heap behind the top. F, the promise of the law's def, may use that base is part of the heap (so K.In base, base.Ns mainGlobals mg stand in Mod) -/
theorem law_call {P : Program} {w : World} {K : PySem.W.Frag} {mg mb : Str → Option Value} {CX : CXT} {k : Nat} {fa a : Addr} {fd : FuncData} {x : Str} {sp : Sp} {s₁ : Shared} {vs : List Value} {ns : List Int}
    (KX : K.In s₁.heap) (hns : s₁.heap.Ns mainGlobals mg) (hb : s₁.heap.Ns builtinsNs mb) (hbb : ∀ x : Str, x ≠ "__name__" → mb x = bootBuiltins x) (hlim : s₁.heap.NoLimit) (hg : s₁.gens = #[])
    (ha : s₁.heap.get? a = some { cls := .type "list", data := .seq vs.toArray }) (hi : IntsAre vs ns) (hl : ns.length ≤ sizeLine) (hr : Room k callerA)
    (F : ∀ base : Heap, K.In base → base.Ns mainGlobals mg → FnOk P w K mg base CX k fa fd [x] sp) (hbind : ∀ (s : Shared) (u : Value), BindsTo s fd ⟨[u], []⟩ [(x, u)])
    (hsp : ∀ H : Hp, Only H → SqL K H a (ns.map V.int) → sp [.ref a] H (fun v _ => v = .bl true) fun _ _ _ => False)
    (hCX : ∀ H e s', CX [] H s₁ (fun _ _ _ => False) e s' → False) :
    codeAny (model P w) callerA (.call (.ref fa) ⟨[.ref a], []⟩) (fun r s' => r = .ok (.ret (.bool true)) ∧ OldK s₁.heap s'.heap ∧ s'.os = s₁.os ∧ AllBare s'.gens) s₁ := by
  have rv := vals_ints hi
  have lenV := hi.length
  -- from an abstract heap in which nothing but the script may be tracked
  have core : ∀ H : Hp, Only H → SqL K H a (ns.map V.int) → HOk P w H s₁.heap → (∀ b, H b ≠ none → b = a) → (H a ≠ none → K.lookup a = none) →
      codeAny (model P w) callerA (.call (.ref fa) ⟨[.ref a], []⟩) (fun r s' => r = .ok (.ret (.bool true)) ∧ OldK s₁.heap s'.heap ∧ s'.os = s₁.os ∧ AllBare s'.gens) s₁ := by
    intro H hO hS hok hA hK
    have base_of : ∀ {b : Addr} {o : Obj}, s₁.heap.get? b = some o → H b = none → (hidT s₁.heap H).get? b = some o := fun e n => hidT_get e n
    have noA : ∀ {b : Addr} {o : Obj} {es : Array DictEntry} {ep : Nat}, s₁.heap.get? b = some o → o.data = .dict es ep → H b = none := fun {b o es ep} e d => by
      cases q : H b with
      | none => rfl
      | some u =>
        have e' : b = a := hA b (by rw [q]; simp)
        subst e'
        rw [ha] at e; cases e
        have d' : Data.seq vs.toArray _ = Data.dict es ep := d
        cases d'
    have nsK : ∀ {b : Addr} {m : Str → Option Value}, s₁.heap.Ns b m → (hidT s₁.heap H).Ns b m := fun {b m} ⟨o, es, ep, e, d, r⟩ => ⟨o, es, ep, base_of e (noA e d), d, r⟩
    have hKb : K.In (hidT s₁.heap H) := fun b o e => base_of (KX b o e) (by
      cases q : H b with
      | none => rfl
      | some u =>
        have e' : b = a := hA b (by rw [q]; simp)
        subst e'
        rw [hK (by rw [q]; simp)] at e; cases e)
    have hM : Mod K mg (hidT s₁.heap H) := ⟨hKb, nsK hns, ⟨mb, nsK hb, hbb⟩, let ⟨mc, h1, h2⟩ := hlim; ⟨mc, nsK h1, h2⟩⟩
    have e0 : Env0 P w K mg (hidT s₁.heap H) callerA [] s₁ H := ⟨rfl, hM, fun b o e => of_hidT e, Nat.le_of_eq (hidT_size _ _), trivial, fun b hb => absurd (show b ∈ ([] : List Addr) from hb) (by simp), hok, .of_eq hg⟩
    refine codeAny_mono ((F _ hKb (nsK hns)).run callerA [] s₁ H ⟨[.ref a], []⟩ [.ref a] [.ref a] _ _ hr e0 (hbind s₁ (.ref a)) (.cons rfl .nil) (hsp H hO hS)) fun r s' h => ?_
    cases r with
    | error e => exact (hCX H e s' h).elim
    | ok fl =>
      cases fl with
      | next => exact False.elim h
      | brk => exact False.elim h
      | cont => exact False.elim h
      | ret u =>
        obtain ⟨v, H', os, bare, un, hok', r', q⟩ := h
        have q' : v = .bl true := q
        subst q'
        obtain rfl : u = Value.bool true := r'
        refine ⟨rfl, OldK.of_keep fun b o e => ?_, os, bare⟩
        cases q : H b with
        | none => exact un.keep b o e q (by intro z; exact absurd (show b ∈ ([] : List Addr) from z) (by simp)) (by simp)
        | some u =>
          rcases hO b with z | ⟨ob, xs, z⟩
          · rw [q] at z; cases z
          · have z2 := un.frzs b ob _ z
            obtain ⟨e1, _⟩ := hok b _ z
            obtain ⟨e2, _⟩ := hok' b _ z2
            rw [e] at e1; cases e1
            exact e2
  cases hk : K.lookup a with
  | some o =>
    -- the script is one of the module's own objects
    have e := KX a o hk
    rw [ha] at e
    cases e
    refine core (fun _ => none) (fun _ => .inl rfl) (.inr ⟨_, vs.toArray, _, hk, rfl, rfl, rfl, by rw [List.size_toArray, lenV]; exact hl, by simpa using rv⟩) (fun b u z => by have z' : (none : Option HO) = some u := z; cases z') (fun b z => absurd rfl z) fun z => absurd rfl z
  | none =>
    refine core (fun b => if b = a then some (.frz { cls := .type "list", data := .seq vs.toArray } (.lst (ns.map V.int))) else none) (fun b => ?_) (.inl (.inr ⟨{ cls := .type "list", data := .seq vs.toArray }, if_pos rfl⟩)) (fun b u z => ?_) (fun b z => ?_) fun _ => hk
    · by_cases hb : b = a
      · exact .inr ⟨_, _, if_pos hb⟩
      · exact .inl (if_neg hb)
    · by_cases hb : b = a
      · have z' := (if_pos hb).symm.trans z
        cases z'
        subst hb
        exact ⟨ha, by rw [List.length_map]; exact hl, vs, _, rv, ha⟩
      · have z' := (if_neg hb).symm.trans z
        cases z'
    · by_cases hb : b = a
      · exact hb
      · exact absurd (if_neg hb) z
end L2

namespace L2
open PySem PySem.Spec PyProof.Rows

/-- the goal that k_head leaves (case hc), from the law's promise. F gives the function object fd (K's own) once, then the promise over every base -/
theorem walk_of {l : PySem.W.OpenLaw} {n k : Nat} {q : Program} {loose : List Str} {XP : (Str → Option Value) → Heap → Prop} {YP : World → Heap → Prop} {d : DefRec} {K : Params → PySem.W.Frag} {CX : World → CXT} {sp : World → Sp} {x : Str}
    (hn : l.most = some n) (hn2 : n ≤ sizeLine) (hdf : d.params.defaults = []) (hr : Room k callerA)
    (hY : ∀ (w : World) (h : Heap), YP w h → (K w.params).In h)
    (F : ∀ (w : World) (mg : Str → Option Value) (fa : Addr) (h : Heap), (K w.params).In h → h.Ns mainGlobals mg → mg d.name = some (.ref fa) →
      ∃ fd : FuncData, (∀ (s : Shared) (u : Value), BindsTo s fd ⟨[u], []⟩ [(x, u)]) ∧
        ∀ base : Heap, (K w.params).In base → base.Ns mainGlobals mg → FnOk l.prog w (K w.params) mg base (CX w) k fa fd [x] (sp w))
    (hsp : ∀ (w : World) (H : Hp) (a : Addr) (ns : List Int), ns.length ≤ n → Only H → SqL (K w.params) H a (ns.map V.int) → sp w [.ref a] H (fun v _ => v = .bl true) fun _ _ _ => False)
    (hCX : ∀ (w : World) (H : Hp) (s : Shared) (e : Value) (s' : Shared), CX w [] H s (fun _ _ _ => False) e s' → False) :
    PySem.W.WalkO q loose XP YP l.row.toRowW d [] (fun f vs => PySem.call f vs) := by
  refine Att.attach_call hn hdf fun w s₀ s₁ mg mb fa o pm cd doc a vs ns G Y ho hd hcd hmg hobj hints hlen hg => ?_
  have KX := hY w _ Y
  obtain ⟨fd, hb, hF⟩ := F w mg fa _ KX G.T.g hmg
  exact law_call KX G.T.g G.T.b G.T.builtins G.T.nolimit hg hobj hints (Nat.le_trans hlen hn2) hr hF hb (fun H hO hS => hsp w H a ns hlen hO hS) fun H e s' => hCX w H s₁ e s'
end L2

/- THE LAST THEOREM (shape; LID, My.* are yours):
   My.Adr: a structure of the addresses that your layer names (classes, functions); My.Txt K t: a structure (Prop) of the equations over K;
   My.txt_mk : {K} {implicit addresses ..} (e1 : nsIn K mainGlobals "law" = some (some (.ref f))) (e2 : K.lookup f = some ⟨oc, od, .func (fnOf "law" "law" params body scope dV kV doc pm an cdv ct), sl⟩) (e3 : codeIn K cdv "law" = true) .. : ∃ t, My.Txt K t

set_option maxRecDepth 100000 in
set_option maxHeartbeats 0 in
theorem PySem.Challenge.cw_LID_holds : PySem.Challenge.rw_LID.Holds := by
  w_on; o_law; k_head; (case hw => w_witness2)
  k_fill
  refine L2.walk_of (l := PySem.Challenge.rw_LID) (n := 63) (k := 40) (x := "script") (CX := fun w => ..) (sp := fun _ => My.sp_law) rfl (by decide) rfl ⟨rfl, by decide, by decide⟩ (fun w h Y => PySem.W.kIn_of Y) ?F ?S ?C
  case F =>
    intro w mg fa h KX G hmg
    have T : ∃ t, My.Txt (L2.KOf KX) t := by
      dsimp only [L2.KOf]                          -- K must stand as «<heap const> w.params» for k_is
      refine' My.txt_mk ?e1 ?e2 ?e3 ..
      (case e1 => PySem.W.k_is)                    -- in the order: a name -> its address -> its object -> its parts
      (case e2 => PySem.W.k_is)
      ..
    obtain ⟨t, T⟩ := T
    have e0 := hmg.symm.trans (PySem.W.mg_of KX G T.law)
    cases e0                                       -- fa is the law's own address
    exact ⟨_, fun s u => .of_eq rfl, fun base kb nb => My.law_fn T kb nb⟩     -- if «.of_eq rfl» comes too early: refine' ⟨_, ?b, fun base kb nb => My.law_fn T kb nb⟩; exact fun s u => .of_eq rfl
  case S => exact fun w H a ns hl hO hS => ..
  case C => exact ..
(the tactic k_is has no namespace: write k_is) -/

/-! SHORT WORDS over the layer: a def of the text, its body, what a loop and a test want. -/
namespace L2
open PySem PySem.Spec PyProof.Rows

/-! ### the text by places -/
/-- the j-th statement of a class's body -/
def inClass (s : Stmt) (j : Nat) : Stmt := match s with
  | .ClassDef _ _ _ body _ _ _ _ _ _ _ => body.getD j (.Pass ⟨0, 0, 0, 0⟩)
  | _ => .Pass ⟨0, 0, 0, 0⟩
def defArgs (s : Stmt) : Arguments := match s with
  | .FunctionDef _ a _ _ _ _ _ _ _ _ => a
  | _ => { posonlyargs := [], args := [], vararg := none, kwonlyargs := [], kw_defaults := [], kwarg := none, defaults := [] }
def defBody (s : Stmt) : List Stmt := match s with
  | .FunctionDef _ _ b _ _ _ _ _ _ _ => b
  | _ => []
def defScope (s : Stmt) : Scope := match s with
  | .FunctionDef _ _ _ _ _ _ sc _ _ _ => sc
  | _ => { kind := .function, names := [], isGenerator := false, isCoroutine := false }

/-! ### no exception leaves a def -/
abbrev CX0 : CXT := fun _ _ _ _ _ _ => False
abbrev E0 : XK := fun _ _ _ => False
theorem pass0 {X : Cx} : Passes CX0 X E0 := fun _ _ _ _ _ _ _ h => h.elim

/-! ### a def (or method) of the text as it stands behind the top -/
structure Fun (K : PySem.W.Frag) (x qual : Str) (st : Stmt) (f : Addr) (fd : FuncData) : Prop where
  ex : ∃ (oc : Value) (od : Option Addr) (kV doc pm : Value) (an : Option Addr) (cdv ct : Value) (osl : Array (Option Value)),
    fd = PySem.W.fnOf x qual (defArgs st) (defBody st) (defScope st) .none kV doc pm an cdv ct ∧ K.lookup f = some ⟨oc, od, .func fd, osl⟩ ∧ PySem.W.codeIn K cdv qual = true
  kp : PySem.W.keepIn K (.ref f) = true
section
variable {P : Program} {w : World} {K : PySem.W.Frag} {mg : Str → Option Value} {base : Heap}
/-- THE RULE for a def: its body as a term of rules, and the reading of that term -/
theorem Fun.ok {x qual : Str} {st : Stmt} {f : Addr} {fd : FuncData} {N ps : List Str} {k : Nat} {sp : Sp} (F : Fun K x qual st f fd) (S : FnScope N ps (defScope st)) (len : ∀ vs H Q E, sp vs H Q E → vs.length = ps.length)
    (hbody : ∀ (cdv : Value) (A : Around) (outer : List Env) (s : Shared) (H : Hp) (vs : List V) (Q : VK) (E : XK), Room k (A.deeper (envOfC qual (defScope st) s.heap.objs.size f cdv)) → sp vs H Q E →
      ∃ t, PSs (cxOf CX0 P w K mg base N qual (defScope st) f cdv A outer s H E).nox (defBody st) t ∧ t { nx := fun _ H' => Q .non H', rt := Q } (start N vs) H) : FnOk P w K mg base CX0 (k + 1) f fd ps sp := by
  obtain ⟨oc, od, kV, doc, pm, an, cdv, ct, osl, rfl, lk, hcd⟩ := F.ex
  refine fn_of lk hcd S len fun A outer s H vs Q E hr hsp => ?_
  obtain ⟨t, h, q⟩ := hbody cdv A outer s H vs Q E hr hsp
  exact ⟨t, h.nox, q⟩
/-- how its arguments bind (no defaults): h is «fun _ _ _ _ _ _ us hl => match us, hl with | [_, _], _ => rfl», one _ a parameter -/
theorem Fun.binds {x qual : Str} {st : Stmt} {f : Addr} {fd : FuncData} {ps : List Str} (F : Fun K x qual st f fd)
    (h : ∀ (kV doc pm : Value) (an : Option Addr) (cdv ct : Value) (us : List Value), us.length = ps.length → bindArgs (PySem.W.fnOf x qual (defArgs st) (defBody st) (defScope st) .none kV doc pm an cdv ct) ⟨us, []⟩ = pure (ps.zip us)) : Binds K fd ps [] := by
  obtain ⟨oc, od, kV, doc, pm, an, cdv, ct, osl, rfl, lk, hcd⟩ := F.ex
  exact .all (h kV doc pm an cdv ct)
theorem fun_mk {x qual : Str} {st : Stmt} {f : Addr} {oc : Value} {od an : Option Addr} {osl : Array (Option Value)} {kV doc pm cdv ct : Value} (l : K.lookup f = some ⟨oc, od, .func (PySem.W.fnOf x qual (defArgs st) (defBody st) (defScope st) .none kV doc pm an cdv ct), osl⟩)
    (c : PySem.W.codeIn K cdv qual = true) (k : PySem.W.keepIn K (.ref f) = true) : Fun K x qual st f (PySem.W.fnOf x qual (defArgs st) (defBody st) (defScope st) .none kV doc pm an cdv ct) := ⟨⟨oc, od, kV, doc, pm, an, cdv, ct, osl, rfl, l, c⟩, k⟩
end
theorem hu_of {A : Around} {k : Nat} (hr : Room k A) : A.units + 1 < cLine := Nat.lt_of_le_of_lt (Nat.add_le_add_left (by decide : 1 ≤ 64) _) hr.units
/-! ### expressions in short: the name that stands in the i-th slot -/
section
variable {X : Cx}
theorem pv (i : Nat) {x : Str} {pos : Pos} (hN : X.N[i]? = some x := by rfl) (hv : Vis X.env.scope x := by first | exact Or.inl rfl | exact Or.inr (Or.inl rfl) | exact Or.inr (Or.inr rfl)) (hd : (x == ("__debug__" : Str)) = false := by decide)
    (hcd : (x == ("__classdict__" : Str)) = false := by decide) : PE X (.Name x pos) (tVar i) := pe_var hN hv hd hcd
end

/-! ### tests -/
theorem iteF {A B : Prop} (h : B) : if false = true then A else B := by
  rw [if_neg Bool.false_ne_true]
  exact h
theorem iteT {A B : Prop} (h : A) : if true = true then A else B := by
  rw [if_pos rfl]
  exact h
/-! ### heaps -/
/-- all that was tracked is as it was -/
def Same (H H' : Hp) : Prop := ∀ b o, H b = some o → H' b = some o
theorem Same.refl (H : Hp) : Same H H := fun _ _ h => h
theorem Same.trans {H H1 H2 : Hp} (a : Same H H1) (b : Same H1 H2) : Same H H2 := fun c o h => b c o (a c o h)
theorem Same.free {H H' : Hp} (e : Same H H') {l : Addr} (h : H' l = Option.none) : H l = Option.none := by
  cases q : H l with
  | none => rfl
  | some o =>
    rw [e l o q] at h
    cases h
section
variable {X : Cx}
end
/-! ### a dict's pairs: keys that differ -/
section
variable {κ : Type} [DecidableEq κ]
end
end L2
/-! Plain data in the heap: None, ints, texts, tuples and lists of these. -/
namespace L2
open PySem PySem.Spec PyProof.Rows

inductive D where
  | n | i (k : Int) | s (x : Str) | t (ds : List D) | l (ds : List D)
mutual
def Rep (H : Hp) : V → D → Prop
  | v, .n => v = .non
  | v, .i k => v = .int k
  | v, .s x => v = .str x
  | v, .t ds => ∃ a xs, v = .ref a ∧ H a = some (.tup xs) ∧ RepL H xs ds
  | v, .l ds => ∃ a xs, v = .ref a ∧ H a = some (.lst xs) ∧ RepL H xs ds
def RepL (H : Hp) : List V → List D → Prop
  | xs, [] => xs = []
  | xs, d :: ds => ∃ v r, xs = v :: r ∧ Rep H v d ∧ RepL H r ds
end
mutual
def D.size : D → Nat
  | .n => 1
  | .i _ => 1
  | .s _ => 1
  | .t ds => 1 + D.sizes ds
  | .l ds => 1 + D.sizes ds
def D.sizes : List D → Nat
  | [] => 0
  | d :: ds => D.size d + D.sizes ds
end
/- no lists within -/
mutual
def D.flat : D → Prop
  | .n => True
  | .i _ => True
  | .s _ => True
  | .t ds => D.flats ds
  | .l _ => False
def D.flats : List D → Prop
  | [] => True
  | d :: ds => D.flat d ∧ D.flats ds
end
/-- the tuples stay -/
def TupSame (H H' : Hp) : Prop := ∀ b xs, H b = some (.tup xs) → H' b = some (.tup xs)
/-- the tuples and lists stay -/
def SeqSame (H H' : Hp) : Prop := (∀ b xs, H b = some (.tup xs) → H' b = some (.tup xs)) ∧ ∀ b xs, H b = some (.lst xs) → H' b = some (.lst xs)
theorem TupSame.trans {H H1 H2 : Hp} (a : TupSame H H1) (b : TupSame H1 H2) : TupSame H H2 := fun c xs e => b c xs (a c xs e)
mutual
theorem Rep.mono {H H' : Hp} (h : SeqSame H H') : ∀ {d : D} {v : V}, Rep H v d → Rep H' v d
  | .n, _, r => by simpa only [Rep] using r
  | .i _, _, r => by simpa only [Rep] using r
  | .s _, _, r => by simpa only [Rep] using r
  | .t ds, _, r => by
    simp only [Rep] at r ⊢
    obtain ⟨a, xs, e, ha, rl⟩ := r
    exact ⟨a, xs, e, h.1 a xs ha, RepL.mono h rl⟩
  | .l ds, _, r => by
    simp only [Rep] at r ⊢
    obtain ⟨a, xs, e, ha, rl⟩ := r
    exact ⟨a, xs, e, h.2 a xs ha, RepL.mono h rl⟩
theorem RepL.mono {H H' : Hp} (h : SeqSame H H') : ∀ {ds : List D} {xs : List V}, RepL H xs ds → RepL H' xs ds
  | [], _, r => by simpa only [RepL] using r
  | d :: ds, _, r => by
    simp only [RepL] at r ⊢
    obtain ⟨v, q, e, rv, rl⟩ := r
    exact ⟨v, q, e, Rep.mono h rv, RepL.mono h rl⟩
end
mutual
theorem Rep.tmono {H H' : Hp} (h : TupSame H H') : ∀ {d : D} {v : V}, d.flat → Rep H v d → Rep H' v d
  | .n, _, _, r => by simpa only [Rep] using r
  | .i _, _, _, r => by simpa only [Rep] using r
  | .s _, _, _, r => by simpa only [Rep] using r
  | .t ds, _, f, r => by
    simp only [Rep] at r ⊢
    simp only [D.flat] at f
    obtain ⟨a, xs, e, ha, rl⟩ := r
    exact ⟨a, xs, e, h a xs ha, RepL.tmono h f rl⟩
  | .l ds, _, f, r => by simp only [D.flat] at f
theorem RepL.tmono {H H' : Hp} (h : TupSame H H') : ∀ {ds : List D} {xs : List V}, D.flats ds → RepL H xs ds → RepL H' xs ds
  | [], _, _, r => by simpa only [RepL] using r
  | d :: ds, _, f, r => by
    simp only [RepL] at r ⊢
    simp only [D.flats] at f
    obtain ⟨v, q, e, rv, rl⟩ := r
    exact ⟨v, q, e, Rep.tmono h f.1 rv, RepL.tmono h f.2 rl⟩
end
theorem RepL.length {H : Hp} : ∀ {ds : List D} {xs : List V}, RepL H xs ds → xs.length = ds.length
  | [], _, r => by simp only [RepL] at r; subst r; rfl
  | d :: ds, _, r => by
    simp only [RepL] at r
    obtain ⟨v, q, rfl, _, rl⟩ := r
    rw [List.length_cons, List.length_cons, RepL.length rl]
theorem RepL.append {H : Hp} : ∀ {ds es : List D} {xs ys : List V}, RepL H xs ds → RepL H ys es → RepL H (xs ++ ys) (ds ++ es)
  | [], _, _, _, r, q => by simp only [RepL] at r; subst r; exact q
  | d :: ds, es, _, ys, r, q => by
    simp only [RepL] at r
    obtain ⟨v, x, rfl, rv, rl⟩ := r
    show RepL H (v :: (x ++ ys)) (d :: (ds ++ es))
    simp only [RepL]
    exact ⟨v, _, rfl, rv, RepL.append rl q⟩
theorem RepL.snoc {H : Hp} {ds : List D} {xs : List V} {v : V} {d : D} (r : RepL H xs ds) (q : Rep H v d) : RepL H (xs ++ [v]) (ds ++ [d]) :=
  r.append (by simp only [RepL]; exact ⟨v, [], rfl, q, rfl⟩)
end L2
/-! EXCEPTIONS over the hand layer: raise of an own class, passing through defs, try with except. -/
namespace L2
open PySem PySem.Spec PyProof.Rows

section
variable {P : Program} {w : World} {B : Heap} {a0 : Value} {l : List Env} {H H' : Hp} {s s' : Shared} {C : Value} {e : Addr} {h' : Heap}
end
section
variable {X : Cx} {pins : List (Addr × Obj)} {σ : St} {H H' : Hp} {s s' : Shared} {B : Heap} {a0 C : Value} {e : Addr} {h' h1 : Heap}
end

section
variable {P : Program} {w : World} {K : PySem.W.Frag} {mg : Str → Option Value} {base : Heap} {N : List Str} {qual : Str} {scope : Scope} {f : Addr} {cd : Value} {A : Around} {outer : List Env} {s : Shared} {H : Hp} {E : XK}
end

/-! ### own exception classes -/
section
variable {X : Cx} {C : Addr} {bm : List Value} {x : Str} {np cpos pos : Pos} {e₀ : Expr} {rest : List Expr} {t : TA} {E : XK}
end
end L2
/-! TRY with except of own classes. -/
namespace L2
open PySem PySem.Spec PyProof.Rows

section
variable {M : Model} {A : Around} {E : Value → Shared → Prop}
end

section
variable {X : Cx} {pins pl : List (Addr × Obj)} {σ : St} {H H' : Hp} {s s' : Shared} {R : St → Value → Hp → Prop} {e : Addr} {D : Ends} {f : Flow}
end

section
variable {X : Cx} {body suite : List Stmt} {b₀ : Stmt} {h₀ : ExceptHandler} {hs rest : List ExceptHandler} {tb : (St → Value → Hp → Prop) → TS} {th tr : Value → TS} {ts : TS} {pos np : Pos} {x n : Str} {C' : Addr} {bm' : List Value}
end

/-! ### calls within a try: what is wanted of an exception may speak of the frame's values -/
section
variable {X : Cx} {pl : List (Addr × Obj)} {R : St → Value → Hp → Prop} {k : Nat} {f C : Addr} {fd : FuncData} {ps : List Str} {sp : Sp} {x m : Str} {p pos apos : Pos} {e o : Expr} {es : List Expr} {ta : TE} {t : TA}
end

/-! ### a def that may raise -/
section
variable {P : Program} {w : World} {K : PySem.W.Frag} {mg : Str → Option Value} {base : Heap}
end
end L2
/-! LIST COMPREHENSIONS over the hand layer: one clause, a name or a tuple as target, at most one test. -/
namespace L2
open PySem PySem.Spec PyProof.Rows

theorem compLoop_go {prog : Program} {w : World} {A : Around} {R : Result → Shared → Prop} {s : Shared} {elt target iter : Expr} {ifs : List Expr} {scope : Scope} {pos : Pos} {it acc : Value} {env : Env} (I : Nat → Shared → Prop)
    (turn : ∀ n s, I n s → wpAny (model prog w) A (pyNext it) (fun r s₁ => match r with
      | none => R (.ok .next) s₁
      | some v => wpAny (model prog w) A (letOwnedTupleGo target it v) (fun _ s₁' => wpAny (model prog w) A (assign target env v) (fun _ s₂ =>
          wpAny (model prog w) A (forIn ifs true fun c r => if r = true then do let ok ← isTrue c env (eval c env); pure (ForInStep.yield ok) else pure (ForInStep.yield r)) (fun ok s₃ =>
            if ok = true then wpAny (model prog w) A (eval elt env) (fun x s₄ =>
              wpAny (model prog w) A (call (.builtin "list.append") [acc, x]) (fun _ s₅ => ∃ m, m < n ∧ I m s₅) (fun _ _ => False) s₄) (fun _ _ => False) s₃
            else ∃ m, m < n ∧ I m s₃) (fun _ _ => False) s₂) (fun _ _ => False) s₁') (fun _ _ => False) s₁) (fun _ _ => False) s)
    (n : Nat) (h : I n s) : codeAny (model prog w) A (.compLoop (.ListComp elt [⟨target, iter, ifs, 0⟩] scope pos) 0 it acc env) R s := by
  refine codeAny_loop rfl I (fun n s hI => ?_) n h
  show wpAny _ A ((compTurn (.ListComp elt [⟨target, iter, ifs, 0⟩] scope pos) 0 it acc env).onRaise (fun x => do noteFrame x env; theTreesLotGoes x)) _ _ s
  refine wpAny_noted ?_
  rw [compTurn_list]
  refine wpAny_bind (wpAny_standAt (wpAny_bind (wpAny_mono (turn n s hI) (fun r s₁ h₁ => ?_) fun _ _ h' => h'.elim)))
  cases r with
  | none => exact wpAny_pure h₁
  | some v =>
    refine wpAny_bind (wpAny_mono h₁ (fun _ s₁' h₁' => ?_) fun _ _ h' => h'.elim)
    refine wpAny_bind (wpAny_mono h₁' (fun _ s₂ h₂ => wpAny_bind (wpAny_mono h₂ (fun ok s₃ h₃ => ?_) fun _ _ h' => h'.elim)) fun _ _ h' => h'.elim)
    cases ok with
    | false => exact wpAny_pure ⟨rfl, h₃⟩
    | true =>
      exact wpAny_bind (wpAny_bind (wpAny_mono h₃ (fun x s₄ h₄ => wpAny_bind (wpAny_mono h₄ (fun _ s₅ h₅ => wpAny_pure (wpAny_pure ⟨rfl, h₅⟩)) fun _ _ h' => h'.elim)) fun _ _ h' => h'.elim))

/-- the closure: the free names ys with their cells -/
def clOf (env : Env) (ys : List Str) : List (Str × Addr) := ys.filterMap fun y => (env.cells.lookup y).map fun c => (y, c)
theorem clOf_lookup {env : Env} : ∀ {ys : List Str} {x : Str} {c : Addr}, (clOf env ys).lookup x = some c → x ∈ ys ∧ env.cells.lookup x = some c
  | [], _, _, h => by simp [clOf] at h
  | y :: ys, x, c, h => by
    unfold clOf at h
    rw [List.filterMap_cons] at h
    cases e : env.cells.lookup y with
    | none =>
      rw [e] at h
      obtain ⟨h1, h2⟩ := clOf_lookup (ys := ys) (x := x) (c := c) h
      exact ⟨List.mem_cons_of_mem _ h1, h2⟩
    | some d =>
      rw [e] at h
      change List.lookup x ((y, d) :: clOf env ys) = some c at h
      rw [List.lookup_cons] at h
      cases hx : x == y with
      | true =>
        rw [hx] at h
        cases h
        have q : x = y := by simpa using hx
        subst q
        exact ⟨List.mem_cons_self, e⟩
      | false =>
        rw [hx] at h
        obtain ⟨h1, h2⟩ := clOf_lookup (ys := ys) (x := x) (c := c) h
        exact ⟨List.mem_cons_of_mem _ h1, h2⟩
theorem clOf_has {env : Env} : ∀ {ys : List Str} {x : Str} {c : Addr}, x ∈ ys → env.cells.lookup x = some c → (clOf env ys).lookup x = some c
  | [], _, _, h, _ => by simp at h
  | y :: ys, x, c, h, e => by
    unfold clOf
    rw [List.filterMap_cons]
    by_cases q : x = y
    · subst q
      rw [e]
      show List.lookup x ((x, c) :: _) = some c
      rw [List.lookup_cons]
      simp
    · have h' : x ∈ ys := (List.mem_cons.mp h).resolve_left q
      have ih := clOf_has (env := env) h' e
      cases e' : env.cells.lookup y with
      | none => exact ih
      | some d =>
        show List.lookup x ((y, d) :: clOf env ys) = some c
        rw [List.lookup_cons]
        have : (x == y) = false := by simpa using q
        rw [this]
        exact ih
/-- the free names: where they stand in the def's own slots -/
def FreeOk (X : Cx) : List Str → List Nat → Prop
  | [], [] => True
  | y :: ys, j :: js => (X.N[j]? = some y ∧ (X.env.kindOf y = some .cell ∨ X.env.kindOf y = some .free)) ∧ FreeOk X ys js
  | _, _ => False
def pick (σ : St) (js : List Nat) : St := js.map fun j => (σ[j]?).getD none
structure CompScope (X : Cx) (scope : Scope) (xs ys : List Str) (js : List Nat) : Prop where
  kind : scope.kind = .function
  names : ∀ p ∈ scope.names, (p.2 = .local ∧ scope.names.lookup p.1 = some .local) ∨ (p.2 = .free ∧ p.1 ∈ ys ∧ scope.names.lookup p.1 = some .free) ∨ (p.2 = .globalImplicit ∧ scope.names.lookup p.1 = some .globalImplicit)
  own : ∀ x ∈ xs, scope.names.lookup x = some .local
  frees : ∀ y ∈ ys, scope.names.lookup y = some .free
  clos : closureFor scope X.env = pure (clOf X.env ys)
  fr : FreeOk X ys js
/-- the block of a comprehension -/
def blk (X : Cx) (scope : Scope) (xs ys : List Str) (C : Addr) (s₀ : Shared) (H₀ : Hp) (fp : List Addr) (pl : List (Addr × Obj)) : Cx :=
  { X with N := xs ++ ys, s₀ := s₀, H₀ := H₀, env := compEnvC scope (clOf X.env ys) C X.env, outer := X.stack, ex := fp, fn := fun y => xs.contains y, pn := X.pn ++ pl, xe := fun _ _ => False }
/-- an object of no further use that may turn -/
def Junk (X : Cx) (pins : List (Addr × Obj)) (H : Hp) (C : Addr) : Prop :=
  H C = none ∧ C ≠ X.env.locals ∧ X.s₀.heap.objs.size ≤ C ∧ (∀ x c, X.env.cells.lookup x = some c → c ≠ C) ∧ ∀ p ∈ X.pn ++ pins, p.1 ≠ C
theorem Inv.let_go {X : Cx} {pins : List (Addr × Obj)} {σ : St} {H : Hp} {s : Shared} {C : Addr} {h' : Heap} (I : Inv X pins σ H s) (j : Junk X pins H C) (hs : Heap.SameBut C s.heap h') : Inv X pins σ H { s with heap := h' } :=
  I.turned (t' := s.toks) (fun b _ hb e => (hs.2 b hb).trans e) j.1 j.2.1 (.inr j.2.2.1) j.2.2.2.1 j.2.2.2.2

/-- what the walk of a comprehension comes to: te the test (if there is one), tg the target, te the element -/
def CompGo (J : It) (g : TG) (tc : TT) (te : TE) (σ : St) (acc : Addr) (H1 : Hp) (Q : VK) : Prop :=
  ∃ W : Nat → Nat → List V → St → Hp → Prop, (∃ m, W 0 m [] σ (upd H1 acc (.lst []))) ∧ ∀ i m zs σ H2, W i m zs σ H2 → H2 acc = some (.lst zs) ∧
    ((J.stop i H2 ∧ Q (.ref acc) H2) ∨ (J.go i H2 ∧ ∀ y H3, J.yld i H2 y H3 → g y σ H3 fun σ4 H4 => tc σ4 H4 fun b H5 => if b = true then te σ4 H5 fun z H6 => H6 acc = some (.lst zs) ∧ zs.length < sizeLine ∧ ∃ m', m' < m ∧ W (i + 1) m' (zs ++ [z]) σ4 (upd H6 acc (.lst (zs ++ [z])))
      else ∃ m', m' < m ∧ W (i + 1) m' zs σ4 H5))
def tComp (wi : TI) (n : Nat) (js : List Nat) (g : TG) (tc : TT) (te : TE) : TE := fun σ H Q => wi σ H fun J H1 => ∀ acc, H1 acc = none → CompGo J g tc te (List.replicate n none ++ pick σ js) acc H1 Q
/-- the tests of a clause -/
def PIfs (X : Cx) (ifs : List Expr) (tc : TT) : Prop :=
  ∀ (pins : List (Addr × Obj)) (s : Shared) (σ : St) (H : Hp) (Q : Bool → Hp → Prop), Inv X pins σ H s → tc σ H Q →
    wpAny (model X.prog X.w) X.A (forIn ifs true fun c r => if r = true then do let ok ← isTrue c X.env (eval c X.env); pure (ForInStep.yield ok) else pure (ForInStep.yield r)) (TP X pins σ Q) X.xe s
def tYes : TT := fun _ H Q => Q true H
theorem pif_nil {X : Cx} : PIfs X [] tYes := fun _ _ _ H _ I h => wpAny_tests_nil ⟨H, I, h⟩
theorem pif_one {X : Cx} {c : Expr} {tc : TT} (h : PT X c tc) : PIfs X [c] tc := fun pins s σ H Q I q => wpAny_tests_one (h pins s σ H Q I q)
section
variable {X : Cx} {scope : Scope} {xs ys : List Str} {js : List Nat} {elt target iter : Expr} {ifs : List Expr} {pos px : Pos} {wi : TI} {g : TG} {tc : TT} {te : TE}
theorem FreeOk.get : ∀ {ys : List Str} {js : List Nat} {i : Nat} {y : Str}, FreeOk X ys js → ys[i]? = some y → ∃ j, js[i]? = some j ∧ X.N[j]? = some y ∧ (X.env.kindOf y = some .cell ∨ X.env.kindOf y = some .free)
  | [], _, _, _, _, h => by simp at h
  | _ :: _, [], _, _, f, _ => f.elim
  | y' :: ys, j :: js, 0, y, f, h => by
    have e : y' = y := by simpa using h
    subst e
    exact ⟨j, rfl, f.1⟩
  | y' :: ys, j :: js, i + 1, y, f, h => by
    obtain ⟨j', h1, h2⟩ := FreeOk.get (i := i) (y := y) f.2 (by simpa using h)
    exact ⟨j', by simpa using h1, h2⟩
theorem FreeOk.len : ∀ {ys : List Str} {js : List Nat}, FreeOk X ys js → ys.length = js.length
  | [], [], _ => rfl
  | [], _ :: _, f => f.elim
  | _ :: _, [], f => f.elim
  | _ :: ys, _ :: js, f => by simp [FreeOk.len f.2]
theorem lookup_relabel_free {env : Env} : ∀ {names : List (Str × NameKind)} {x : Str}, names.lookup x = some .free →
    (names.map fun (n, k) => if (k == NameKind.free && env.scope.kind == .function && env.kindOf n == some .cell) then (n, NameKind.cell) else (n, k)).lookup x = some .cell ∨
    (names.map fun (n, k) => if (k == NameKind.free && env.scope.kind == .function && env.kindOf n == some .cell) then (n, NameKind.cell) else (n, k)).lookup x = some .free
  | [], _, h => by simp at h
  | (n, k) :: r, x, h => by
    have ih := @lookup_relabel_free env r x
    show List.lookup x ((if (k == NameKind.free && env.scope.kind == .function && env.kindOf n == some .cell) = true then (n, NameKind.cell) else (n, k)) :: _) = _ ∨ List.lookup x ((if (k == NameKind.free && env.scope.kind == .function && env.kindOf n == some .cell) = true then (n, NameKind.cell) else (n, k)) :: _) = _
    cases hx : x == n with
    | true =>
      simp only [List.lookup_cons, hx] at h
      cases h
      by_cases hc : (NameKind.free == NameKind.free && env.scope.kind == .function && env.kindOf n == some .cell) = true
      · rw [if_pos hc]; left; simp [List.lookup_cons, hx]
      · rw [if_neg hc]; right; simp [List.lookup_cons, hx]
    | false =>
      simp only [List.lookup_cons, hx] at h
      by_cases hc : (k == NameKind.free && env.scope.kind == .function && env.kindOf n == some .cell) = true
      · rw [if_pos hc]; simp only [List.lookup_cons, hx]; exact ih h
      · rw [if_neg hc]; simp only [List.lookup_cons, hx]; exact ih h
theorem relabel_mem {env : Env} : ∀ {names : List (Str × NameKind)} {x : Str} {k : NameKind}, (names.map fun (n, k) => if (k == NameKind.free && env.scope.kind == .function && env.kindOf n == some .cell) then (n, NameKind.cell) else (n, k)).lookup x = some k →
    ∃ p ∈ names, p.1 = x ∧ (p.2 = k ∨ (p.2 = .free ∧ k = .cell))
  | [], _, _, h => by simp at h
  | (n, k') :: r, x, k, h => by
    have h : List.lookup x ((if (k' == NameKind.free && env.scope.kind == .function && env.kindOf n == some .cell) = true then (n, NameKind.cell) else (n, k')) :: _) = some k := h
    have ih := @relabel_mem env r x k
    by_cases hc : (k' == NameKind.free && env.scope.kind == .function && env.kindOf n == some .cell) = true
    · rw [if_pos hc, List.lookup_cons] at h
      cases hx : x == n with
      | true =>
        rw [hx] at h
        cases h
        refine ⟨(n, k'), List.mem_cons_self, (by simpa using hx : x = n).symm, Or.inr ⟨?_, rfl⟩⟩
        rw [Bool.and_eq_true, Bool.and_eq_true] at hc
        simpa using hc.1.1
      | false =>
        rw [hx] at h
        obtain ⟨p, h1, h2⟩ := ih h
        exact ⟨p, List.mem_cons_of_mem _ h1, h2⟩
    · rw [if_neg hc, List.lookup_cons] at h
      cases hx : x == n with
      | true =>
        rw [hx] at h
        cases h
        exact ⟨(n, k'), List.mem_cons_self, (by simpa using hx : x = n).symm, Or.inl rfl⟩
      | false =>
        rw [hx] at h
        obtain ⟨p, h1, h2⟩ := ih h
        exact ⟨p, List.mem_cons_of_mem _ h1, h2⟩

/-- the block's start -/
theorem blk_start {pins : List (Addr × Obj)} {σ : St} {H : Hp} {s : Shared} {h' : Heap} {fp : List Addr} {tk : Nat} (S : CompScope X scope xs ys js) (I : Inv X pins σ H s) (hf : ∀ b ∈ fp, FpOk X pins H b) (hfl : ∀ b ∈ fp, b < s.heap.objs.size)
    (hn : h'.Ns s.heap.objs.size fun _ => none) (k : ∀ b o, s.heap.get? b = some o → h'.get? b = some o) :
    Inv (blk X scope xs ys s.heap.objs.size s H fp pins) [] (List.replicate xs.length none ++ pick σ js) H { s with heap := h', toks := tk } := by
  have hfr : ∀ a, s.heap.objs.size ≤ a → H a = none := fun a ha => I.hok.fresh ha
  have fpS : ∀ b ∈ fp, b ∉ L2.frs X.stack := fun b hb z => by
    rcases List.mem_cons.mp (I.stkSub b z) with e | e
    · exact (hf b hb).2.1 e
    · exact (hf b hb).2.2.1 e
  have inYs : ∀ x, ((relabel scope X.env).names.lookup x = some .cell ∨ (relabel scope X.env).names.lookup x = some .free) → x ∈ ys := fun x hx => by
    rcases hx with z | z
    · obtain ⟨p, hp, e, z⟩ := relabel_mem z
      rcases S.names p hp with ⟨h1, _⟩ | ⟨_, h2, _⟩ | ⟨h1, _⟩
      · rcases z with z | z
        · rw [h1] at z; cases z
        · rw [h1] at z; cases z.1
      · rw [← e]; exact h2
      · rcases z with z | z
        · rw [h1] at z; cases z
        · rw [h1] at z; cases z.1
    · obtain ⟨p, hp, e, z⟩ := relabel_mem z
      rcases S.names p hp with ⟨h1, _⟩ | ⟨_, h2, _⟩ | ⟨h1, _⟩
      · rcases z with z | z
        · rw [h1] at z; cases z
        · cases z.2
      · rw [← e]; exact h2
      · rcases z with z | z
        · rw [h1] at z; cases z
        · cases z.2
  refine ⟨⟨I.ok.mod, S.kind, I.ok.glob, I.ok.blt, Nat.le_refl _, fun x y c h1 h2 => I.ok.inj x y c (clOf_lookup h1).2 (clOf_lookup h2).2, fun x hx => ?_, fun x c h1 h2 => ?_, I.ok.hd, I.ok.frames, .inl rfl, fun b hb => ⟨?_, fun x c e => (hf b hb).2.2.2.2.1 x c (clOf_lookup e).2⟩,
    I.bs, Nat.le_trans I.ok.bsz I.sz, fun b o e z => ?_, fpS, I.stack, I.stkFree⟩, rfl, I.bare, Un.kept k, ⟨_, hn, fun i y v e1 e2 e3 => ?_⟩, fun x c e => ?_, hfr _ (Nat.le_refl _), fun x c e => ?_, fun p hp => ?_, I.hok.kept k, ?_⟩
  · have q : x ∈ ys := inYs x hx
    obtain ⟨i, hi⟩ := List.getElem?_of_mem q
    obtain ⟨j, _, _, hk⟩ := S.fr.get hi
    obtain ⟨c, hc⟩ := I.ok.has x hk
    exact ⟨c, clOf_has q hc⟩
  · have q := (clOf_lookup h2).1
    have h1' : x ∈ xs := by
      have : xs.contains x = true := h1
      simpa using this
    have a := S.own x h1'
    have b := S.frees x q
    rw [a] at b
    cases b
  · intro z
    have z' : b = s.heap.objs.size := z
    have := hfl b hb
    rw [z'] at this
    exact Nat.lt_irrefl _ this
  · rcases (hf b z).2.2.2.1 with q | q
    · exact I.ok.noex b o e q
    · exact absurd (Nat.lt_of_lt_of_le (Heap.lt_size (I.ok.bs b o e).1) q) (Nat.lt_irrefl _)
  · have e1' : (xs ++ ys)[i]? = some y := e1
    by_cases hi : i < xs.length
    · rw [List.getElem?_append_left (by rw [List.length_replicate]; exact hi), List.getElem?_replicate] at e2
      split at e2 <;> cases e2
    · rw [List.getElem?_append_right (by omega)] at e1'
      rw [List.getElem?_append_right (by rw [List.length_replicate]; omega), List.length_replicate] at e2
      obtain ⟨j, hj, hN, hk⟩ := S.fr.get e1'
      unfold pick at e2
      rw [List.getElem?_map, hj] at e2
      have e4 : σ[j]? = some (some v) := by
        have e5 : (σ[j]?).getD none = some v := by simpa using e2
        cases q : σ[j]? with
        | none => rw [q] at e5; cases e5
        | some o => rw [q] at e5; simpa using e5
      have hvis : Vis X.env.scope y := by
        rcases hk with z | z
        · exact .inr (.inl z)
        · exact .inr (.inr z)
      obtain ⟨m0, _, hl⟩ := I.loc
      obtain ⟨u, ru, lk⟩ := hl j y v hN e4 hvis
      refine ⟨u, ru, .inr ⟨?_, ?_⟩⟩
      · exact lookup_relabel_free (S.frees y (List.mem_of_getElem? e1'))
      · rcases lk with ⟨z, _⟩ | ⟨_, c, hc, hcell⟩
        · rcases hk with q | q
          · rw [q] at z; cases z
          · rw [q] at z; cases z
        · exact ⟨c, clOf_has (List.mem_of_getElem? e1') hc, hcell.keeps k⟩
  · obtain ⟨v, z⟩ := I.cell x c (clOf_lookup e).2
    exact ⟨v, z.keeps k⟩
  · exact I.freeC x c (clOf_lookup e).2
  · have hp' : p ∈ X.pn ++ pins := by
      have : p ∈ (X.pn ++ pins) ++ [] := hp
      rwa [List.append_nil] at this
    obtain ⟨e, n, ne, nf, d⟩ := I.pin p hp'
    refine ⟨k _ _ e, n, fun z => ?_, fun z => ?_, d⟩
    · have z' : p.1 = s.heap.objs.size := z
      exact absurd (Heap.lt_size e) (by rw [z']; exact Nat.lt_irrefl _)
    · have z' : p.1 ∈ L2.frs X.stack := z
      rcases List.mem_cons.mp (I.stkSub _ z') with q | q
      · exact ne q
      · exact nf q
  · show (List.replicate xs.length none ++ pick σ js).length = (xs ++ ys).length
    rw [List.length_append, List.length_append, List.length_replicate]
    unfold pick
    rw [List.length_map, S.fr.len]
theorem comp_run {pins : List (Addr × Obj)} {σ : St} {H2 : Hp} {s2 : Shared} {J : It} {fp : List Addr} {it : Addr} {tn : Nat → Heap → Prop} {Q : VK} (S : CompScope X scope xs ys js) (hc : X.calm = true) (I2 : Inv X pins σ H2 s2) (T : Turn X.prog X.w X.K target J fp it tn) (st2 : tn 0 s2.heap)
    (f2 : ∀ b ∈ fp, FpOk X pins H2 b) (hg : ∀ C s₀ H₀ fp pl, PG (blk X scope xs ys C s₀ H₀ fp pl) target g) (hi : ∀ C s₀ H₀ fp pl, PIfs (blk X scope xs ys C s₀ H₀ fp pl) ifs tc) (he : ∀ C s₀ H₀ fp pl, PE (blk X scope xs ys C s₀ H₀ fp pl) elt te)
    (rd : ∀ acc, H2 acc = none → CompGo J g tc te (List.replicate xs.length none ++ pick σ js) acc H2 Q) {RR : Value → Addr → Result → Shared → Prop}
    (hRR : ∀ acc C H' s' m, s'.heap.Ns C m → Inv X pins σ H' s' → Junk X pins H' C → Q (.ref acc) H' → RR (.ref acc) C (.ok .next) s') :
    wpAny (model X.prog X.w) X.A (newList []) (fun acc s₃ => wpAny (model X.prog X.w) X.A (newFunctionEnv scope X.env.globals (clOf X.env ys) [] X.env.qual none .none (some X.env)) (fun cenv s₄ =>
      codeAny (model X.prog X.w) X.A (.compStart (.ListComp elt [⟨target, iter, ifs, 0⟩] scope pos) 0 (.ref it) acc { cenv with scope := relabel scope X.env }) (RR acc cenv.locals) s₄) X.xe s₃) X.xe s2 := by
  have fresh2 : H2 s2.heap.objs.size = none := I2.hok.fresh (Nat.le_refl _)
  obtain ⟨W, ⟨m0, w0⟩, turn⟩ := rd _ fresh2
  have hcell : ∀ y ∈ scope.names, y.2 ≠ .cell := fun y hy z => by
    rcases S.names y hy with ⟨q, _⟩ | ⟨q, _⟩ | ⟨q, _⟩ <;> rw [q] at z <;> cases z
  refine wpAny_newObj_type (wpAny_newFunctionEnv hcell (by intro y hy; simp at hy) (fun h₁ hns₁ hsb₁ => ?_) S.kind)
  dsimp only at hns₁ hsb₁ ⊢
  have I3 : Inv X pins σ (upd H2 s2.heap.objs.size (.lst [])) { s2 with heap := s2.heap.push { cls := .type "list", dict := none, data := .seq ([] : List Value).toArray }, toks := s2.toks } := I2.lnew (its := []) .nil (Nat.zero_le _)
  generalize hs3 : ({ s2 with heap := s2.heap.push { cls := .type "list", dict := none, data := .seq ([] : List Value).toArray }, toks := s2.toks } : Shared) = s3 at I3
  have hh3 : s2.heap.push { cls := .type "list", dict := none, data := .seq ([] : List Value).toArray } = s3.heap := by rw [← hs3]
  rw [hh3] at hns₁ hsb₁ ⊢
  have ne2 : ∀ b ∈ fp, b < s2.heap.objs.size := fun b hb => by
    obtain ⟨o, e, _⟩ := T.obj 0 _ st2 b hb
    exact Heap.lt_size e
  have sz3 : s3.heap.objs.size = s2.heap.objs.size + 1 := by rw [← hh3, Heap.size_push]
  have f3 : ∀ b ∈ fp, FpOk X pins (upd H2 s2.heap.objs.size (.lst [])) b := fun b hb => by
    obtain ⟨a1, a2⟩ := f2 b hb
    exact ⟨by rw [upd_ne (Nat.ne_of_lt (ne2 b hb))]; exact a1, a2⟩
  have k3 : ∀ b o, s3.heap.get? b = some o → h₁.get? b = some o := fun b o e => hsb₁.extBut b o (Nat.ne_of_lt (Heap.lt_size e)) (Heap.get?_push_of_some _ e)
  have IB := blk_start (tk := s3.toks) S I3 f3 (fun b hb => by rw [sz3]; exact Nat.lt_succ_of_lt (ne2 b hb)) (by simpa using hns₁) k3
  have st3 : tn 0 h₁ := T.keep 0 _ _ st2 fun b hb o e => k3 b o (by rw [← hh3]; exact Heap.get?_push_of_some _ e)
  have stat : ∀ {H' : Hp}, (∀ b ∈ fp, H' b = none) → ∀ b ∈ fp, FpOk (blk X scope xs ys s3.heap.objs.size s3 (upd H2 s2.heap.objs.size (.lst [])) fp pins) [] H' b := fun {H'} hn b hb => by
    obtain ⟨a1, a2, a3, a4, a5, a6⟩ := f3 b hb
    refine ⟨hn b hb, fun z => ?_, fun z => ?_, .inl hb, fun x c e => a5 x c (clOf_lookup e).2, fun p hp => a6 p ?_⟩
    · have z' : b = s3.heap.objs.size := z
      have := ne2 b hb
      rw [z', sz3] at this
      exact absurd this (Nat.not_lt.mpr (Nat.le_succ _))
    · have z' : b ∈ L2.frs X.stack := z
      rcases List.mem_cons.mp (I3.stkSub _ z') with q | q
      · exact a2 q
      · exact a3 q
    · have : p ∈ (X.pn ++ pins) ++ [] := hp
      rwa [List.append_nil] at this
  have loop : ∀ s₄ : Shared, s₄ = { s3 with heap := h₁, toks := s3.toks } →
      codeAny (model X.prog X.w) X.A (.compLoop (.ListComp elt [⟨target, iter, ifs, 0⟩] scope pos) 0 (.ref it) (.ref s2.heap.objs.size) (compEnvC scope (clOf X.env ys) s3.heap.objs.size X.env)) (RR (.ref s2.heap.objs.size) s3.heap.objs.size) s₄ := by
    rintro s₄ rfl
    refine compLoop_go (fun n s' => ∃ i zs σ' H', Inv (blk X scope xs ys s3.heap.objs.size s3 (upd H2 s2.heap.objs.size (.lst [])) fp pins) [] σ' H' s' ∧ tn i s'.heap ∧ (∀ b ∈ fp, H' b = none) ∧ W i n zs σ' H') ?_ m0 ⟨0, [], _, _, IB, st3, fun b hb => (f3 b hb).1, w0⟩
    rintro n s5 ⟨i, zs, σ5, H5, I5, st5, fr5, w5⟩
    obtain ⟨hacc, tt⟩ := turn i n zs σ5 H5 w5
    rcases tt with ⟨stop, qn⟩ | ⟨go, step⟩
    · refine thn (T.done (blk X scope xs ys s3.heap.objs.size s3 (upd H2 s2.heap.objs.size (.lst [])) fp pins) rfl rfl rfl hc i [] s5 σ5 H5 _ I5 (stat fr5) st5 stop) fun r s6 ⟨hr, I6⟩ => ?_
      subst hr
      obtain ⟨m, hm, _⟩ := I6.loc
      have I6' : Inv X pins σ H5 s6 := I3.call' (ch := fp) I6.os I6.base I6.hok I6.bare fun b hb => ⟨(f3 b hb).2.2.2.1, (f3 b hb).2.1, (f3 b hb).2.2.2.2.1, (f3 b hb).2.2.2.2.2⟩
      refine hRR _ _ H5 s6 m hm I6' ⟨I6.free, Nat.ne_of_gt I3.lt, I3.sz, fun x c e z => ?_, fun p hp z => ?_⟩ qn
      · obtain ⟨v, q⟩ := I3.cell x c e
        have := q.lt
        rw [z] at this
        exact Nat.lt_irrefl _ this
      · have := Heap.lt_size (I3.pin p hp).1
        rw [z] at this
        exact Nat.lt_irrefl _ this
    · refine thn (T.item (blk X scope xs ys s3.heap.objs.size s3 (upd H2 s2.heap.objs.size (.lst [])) fp pins) rfl rfl rfl hc i [] s5 σ5 H5 _ I5 (stat fr5) st5 go) fun r s6 ⟨u, hr, h6⟩ => ?_
      subst hr
      refine thn h6 fun _ s7 ⟨x, H7, I7, r7, y7, st7, fr7⟩ => ?_
      have I7' := I7.pinned (stat fr7) (T.obj _ _ st7)
      refine thn (hg _ _ _ _ _ _ s7 σ5 H7 x u _ I7' r7 (step x H7 y7)) fun _ s8 ⟨σ8, H8, I8, q8⟩ => ?_
      have again : ∀ {zs' : List V} {σ9 : St} {H9 : Hp} {s9 : Shared}, Inv (blk X scope xs ys s3.heap.objs.size s3 (upd H2 s2.heap.objs.size (.lst [])) fp pins) ([] ++ pinsAt fp s7.heap) σ9 H9 s9 → (∃ m', m' < n ∧ W (i + 1) m' zs' σ9 H9) →
          ∃ m, m < n ∧ ∃ i zs σ' H', Inv (blk X scope xs ys s3.heap.objs.size s3 (upd H2 s2.heap.objs.size (.lst [])) fp pins) [] σ' H' s9 ∧ tn i s9.heap ∧ (∀ b ∈ fp, H' b = none) ∧ W i m zs σ' H' := fun {zs' σ9 H9 s9} I9 ⟨m', hm, w9⟩ => by
        refine ⟨m', hm, i + 1, zs', σ9, H9, I9.unpinned, T.keep _ _ _ st7 fun b hb o e => (I9.pin (b, o) (List.mem_append_right _ (List.mem_append_right _ (mem_pinsAt hb e)))).1, fun b hb => ?_, w9⟩
        obtain ⟨o, e, d⟩ := T.obj _ _ st7 b hb
        exact (I9.pin (b, o) (List.mem_append_right _ (List.mem_append_right _ (mem_pinsAt hb e)))).2.1
      refine thn (hi _ _ _ _ _ _ s8 σ8 H8 _ I8 q8) fun ok s9 ⟨H9, I9, q9⟩ => ?_
      cases ok with
      | false =>
        rw [if_neg Bool.false_ne_true] at q9 ⊢
        exact again I9 q9
      | true =>
        rw [if_pos rfl] at q9 ⊢
        refine thn (he _ _ _ _ _ _ s9 σ8 H9 _ I9 q9) fun z s10 ⟨zv, H10, I10, rz, ha10, hl10, q10⟩ => ?_
        refine thn (mt_append _ s10 σ8 H10 (.ref s2.heap.objs.size) [zv] (.ref s2.heap.objs.size) [z] (fun _ H11 => H11 = upd H10 s2.heap.objs.size (.lst (zs ++ [zv]))) I10 rfl (.cons rz .nil) ⟨_, zs, zv, rfl, rfl, ha10, hl10, rfl⟩) fun _ s11 ⟨_, H11, I11, _, e11⟩ => ?_
        subst e11
        exact again I11 q10
  have e4 : ({ s2 with heap := h₁, toks := s2.toks + ([] : List (Str × Value)).length } : Shared) = { s3 with heap := h₁, toks := s3.toks } := by
    rw [← hs3]
    rfl
  exact codeAny_compStart_list (loop _ e4) (T.self X.A 0 _ _ _ st3 (loop _ e4))
theorem pe_comp (S : CompScope X scope xs ys js) (hc : X.calm = true) (hw : PI X target iter wi) (hg : ∀ C s₀ H₀ fp pl, PG (blk X scope xs ys C s₀ H₀ fp pl) target g) (hi : ∀ C s₀ H₀ fp pl, PIfs (blk X scope xs ys C s₀ H₀ fp pl) ifs tc) (he : ∀ C s₀ H₀ fp pl, PE (blk X scope xs ys C s₀ H₀ fp pl) elt te)
    (hs : ∀ x, foldedSetIterable iter X.env x = pure x := by intro _; rfl) : PE X (.ListComp elt [⟨target, iter, ifs, 0⟩] scope pos) (tComp wi xs.length js g tc te) := by
  intro pins s σ H Q I h
  rw [eval_ListComp]
  refine wpAny_comprehension_free (use := none) rfl hs S.clos S.kind (fun x hx hl => ?_) (thn (hw pins s σ H _ I h) fun v s1 h1 => thn h1 fun itv s2 h2 => ?_)
  · rcases S.names x hx with ⟨_, q⟩ | ⟨q, _⟩ | ⟨q, _⟩
    · exact q
    · rw [q] at hl; cases hl
    · rw [q] at hl; cases hl
  obtain ⟨it, fp, tn, J, H2, e, I2, T, st2, f2, rd⟩ := h2
  subst e
  refine comp_run (RR := fun acc C => compPost (model X.prog X.w) X.A X.xe none (EP X pins σ Q) acc C) S hc I2 T st2 f2 hg hi he rd fun acc C H' s' m hm I' jk q => ?_
  exact ⟨m, hm, fun h' hsb => ⟨.ref acc, H', I'.let_go jk hsb, rfl, q⟩⟩
/-- x = [..] at a local name, on one row: the stores are exchanged -/
def sComp (i : Nat) (t : TE) : TS := fun D σ H => t σ H fun v H1 => D.nx (σ.set i (some v)) H1
theorem ps_setComp {i : Nat} {x : Str} {py : Pos} {spos : Pos} (hN : X.N.Nodup) (hix : X.N[i]? = some x) (hlo : X.env.scope.names.lookup x = some .local) (S : CompScope X scope xs ys js) (hc : X.calm = true) (hw : PI X target iter wi) (hg : ∀ C s₀ H₀ fp pl, PG (blk X scope xs ys C s₀ H₀ fp pl) target g) (hi : ∀ C s₀ H₀ fp pl, PIfs (blk X scope xs ys C s₀ H₀ fp pl) ifs tc) (he : ∀ C s₀ H₀ fp pl, PE (blk X scope xs ys C s₀ H₀ fp pl) elt te)
    (hsw : swapsWith (.ListComp elt [⟨target, iter, ifs, 0⟩] scope pos) (some (.Name x py)) spos.line X.env = pure true := by rfl) (hs : ∀ x, foldedSetIterable iter X.env x = pure x := by intro _; rfl) :
    PS X (.Assign [.Name x py] (.ListComp elt [⟨target, iter, ifs, 0⟩] scope pos) spos) (sComp i (tComp wi xs.length js g tc te)) := by
  intro pins s σ H D I h
  rw [exec_Assign_Name_used _ _ _ _ hsw]
  refine wpAny_bind (wpAny_standAt (wpAny_bind ?_))
  show wpAny _ X.A (do let _ ← comprehension (.ListComp elt [⟨target, iter, ifs, 0⟩] scope pos) scope X.env _ (newList []) false (eval iter X.env) (some (assign (.Name x py) X.env))) _ _ s
  refine wpAny_bind (wpAny_mono (wpAny_comprehension_free (Q := fun _ s' => SP X pins D .next s') rfl hs S.clos S.kind (fun x hx hl => ?_) (thn (hw pins s σ H _ I h) fun v s1 h1 => thn h1 fun itv s2 h2 => ?_)) (fun _ s' hq => wpAny_pure (wpAny_pure hq)) fun _ _ e => e)
  · rcases S.names x hx with ⟨_, q⟩ | ⟨q, _⟩ | ⟨q, _⟩
    · exact q
    · rw [q] at hl; cases hl
    · rw [q] at hl; cases hl
  obtain ⟨it, fp, tn, J, H2, e, I2, T, st2, f2, rd⟩ := h2
  subst e
  refine comp_run (RR := fun acc C => compPost (model X.prog X.w) X.A X.xe (some (assign (.Name x py) X.env)) (fun _ s' => SP X pins D .next s') acc C) S hc I2 T st2 f2 hg hi he rd fun acc C H' s' m hm I' jk q => ?_
  refine wpAny_assign_Name (store_ok2 I' hN hix (Or.inl hlo) (v := .ref acc) rfl (fun s'' I'' hsb => ?_) (Or.inr hlo))
  obtain ⟨a, hsb, ha⟩ := hsb
  have hCa : C ≠ a := by
    rcases ha with e | e
    · rw [e]; exact jk.2.1
    · exact (jk.2.2.2.1 _ _ e).symm
  exact ⟨m, hm.sameBut hsb hCa, fun h' hs' => ⟨_, _, I''.let_go jk hs', q⟩⟩
end
/-- short for the scopes -/
theorem compScope {X : Cx} {scope : Scope} {xs ys : List Str} {js : List Nat} (kind : scope.kind = .function)
    (names : ∀ p ∈ scope.names, (p.2 = .local ∧ scope.names.lookup p.1 = some .local) ∨ (p.2 = .free ∧ p.1 ∈ ys ∧ scope.names.lookup p.1 = some .free) ∨ (p.2 = .globalImplicit ∧ scope.names.lookup p.1 = some .globalImplicit)) (own : ∀ x ∈ xs, scope.names.lookup x = some .local) (frees : ∀ y ∈ ys, scope.names.lookup y = some .free)
    (clos : closureFor scope X.env = pure (clOf X.env ys)) (fr : FreeOk X ys js) : CompScope X scope xs ys js := ⟨kind, names, own, frees, clos, fr⟩
end L2
namespace L2
open PySem PySem.Spec PyProof.Rows
/-- an element is put behind the others; n: how many are walked -/
def CStep (n : Nat) (acc : Addr) (Pv : Nat → List V → St → Hp → Prop) (i : Nat) (zs : List V) (σ4 : St) : VK := fun z H6 =>
  H6 acc = some (.lst zs) ∧ zs.length < sizeLine ∧ ∃ m', m' < n - i ∧ (m' = n - (i + 1) ∧ i + 1 ≤ n ∧ Pv (i + 1) (zs ++ [z]) σ4 (upd H6 acc (.lst (zs ++ [z]))))
/-- none is -/
def CSkip (n : Nat) (Pv : Nat → List V → St → Hp → Prop) (i : Nat) (zs : List V) (σ4 : St) (H5 : Hp) : Prop := ∃ m', m' < n - i ∧ (m' = n - (i + 1) ∧ i + 1 ≤ n ∧ Pv (i + 1) zs σ4 H5)
theorem CStep.mk {n i : Nat} {acc : Addr} {Pv : Nat → List V → St → Hp → Prop} {zs : List V} {σ4 : St} {z : V} {H6 : Hp} (hi : i < n) (h1 : H6 acc = some (.lst zs)) (h2 : zs.length < sizeLine) (p : Pv (i + 1) (zs ++ [z]) σ4 (upd H6 acc (.lst (zs ++ [z])))) : CStep n acc Pv i zs σ4 z H6 :=
  ⟨h1, h2, _, by omega, rfl, hi, p⟩
theorem CSkip.mk {n i : Nat} {Pv : Nat → List V → St → Hp → Prop} {zs : List V} {σ4 : St} {H5 : Hp} (hi : i < n) (p : Pv (i + 1) zs σ4 H5) : CSkip n Pv i zs σ4 H5 := ⟨_, by omega, rfl, hi, p⟩
/-- over a list that stays as it is -/
theorem comp_list {K : PySem.W.Frag} {a acc : Addr} {xs : List V} {g : TG} {tc : TT} {te : TE} {σ : St} {H1 : Hp} {Q : VK} (Pv : Nat → List V → St → Hp → Prop) (h0 : Pv 0 [] σ (upd H1 acc (.lst [])))
    (hl : ∀ i zs σ H, i ≤ xs.length → Pv i zs σ H → SqL K H a xs ∧ H acc = some (.lst zs))
    (hs : ∀ i x zs σ H, xs[i]? = some x → i < xs.length → Pv i zs σ H → g x σ H fun σ4 H4 => tc σ4 H4 fun b H5 => if b = true then te σ4 H5 (CStep xs.length acc Pv i zs σ4) else CSkip xs.length Pv i zs σ4 H5)
    (hd : ∀ zs σ H, Pv xs.length zs σ H → Q (.ref acc) H) : CompGo (Itl K a) g tc te σ acc H1 Q := by
  refine ⟨fun i m zs σ H => m = xs.length - i ∧ i ≤ xs.length ∧ Pv i zs σ H, ⟨_, rfl, Nat.zero_le _, h0⟩, ?_⟩
  rintro i m zs σ H2 ⟨rfl, hi, p⟩
  obtain ⟨q, ha⟩ := hl i zs σ H2 hi p
  refine ⟨ha, ?_⟩
  by_cases hlt : i < xs.length
  · refine .inr ⟨⟨xs, xs[i], q, by simp [hlt]⟩, fun y H3 yl => ?_⟩
    obtain ⟨e, yl⟩ := yl
    subst e
    exact hs i y zs σ _ (yl xs q) hlt p
  · have e : i = xs.length := by omega
    subst e
    exact .inl ⟨⟨xs, q, Nat.le_refl _⟩, hd zs σ H2 p⟩
theorem comp_range {lo : Int} {n : Nat} {acc : Addr} {g : TG} {tc : TT} {te : TE} {σ : St} {H1 : Hp} {Q : VK} (Pv : Nat → List V → St → Hp → Prop) (h0 : Pv 0 [] σ (upd H1 acc (.lst [])))
    (hl : ∀ i zs σ H, i ≤ n → Pv i zs σ H → H acc = some (.lst zs))
    (hs : ∀ i zs σ H, i < n → Pv i zs σ H → g (.int (lo + i)) σ H fun σ4 H4 => tc σ4 H4 fun b H5 => if b = true then te σ4 H5 (CStep n acc Pv i zs σ4) else CSkip n Pv i zs σ4 H5)
    (hd : ∀ zs σ H, Pv n zs σ H → Q (.ref acc) H) : CompGo (Itr lo n) g tc te σ acc H1 Q := by
  refine ⟨fun i m zs σ H => m = n - i ∧ i ≤ n ∧ Pv i zs σ H, ⟨_, rfl, Nat.zero_le _, h0⟩, ?_⟩
  rintro i m zs σ H2 ⟨rfl, hi, p⟩
  have ha := hl i zs σ H2 hi p
  refine ⟨ha, ?_⟩
  by_cases hlt : i < n
  · refine .inr ⟨hlt, fun y H3 yl => ?_⟩
    obtain ⟨e, yl⟩ := yl
    subst e yl
    exact hs i zs σ _ hlt p
  · have e : i = n := by omega
    subst e
    exact .inl ⟨Nat.le_refl _, hd zs σ H2 p⟩
theorem tYes_if {σ : St} {H : Hp} {A B : Hp → Prop} (h : A H) : tYes σ H (fun b H5 => if b = true then A H5 else B H5) := by
  show if true = true then A H else B H
  rw [if_pos rfl]
  exact h
theorem gYes_if {i : Nat} {v : V} {σ : St} {H : Hp} {A B : St → Hp → Prop} (h : A (σ.set i (some v)) H) : gName i v σ H fun σ4 H4 => tYes σ4 H4 fun b H5 => if b = true then A σ4 H5 else B σ4 H5 := tYes_if (σ := σ.set i (some v)) (A := A (σ.set i (some v))) (B := B (σ.set i (some v))) h
end L2
/-! More rules: names of the top, isinstance, extend by any sequence, a list against [], a table of the top, f-strings. -/
namespace L2
open PySem PySem.Spec PyProof.Rows

section
variable {X : Cx} {x y : Str} {pos : Pos} {a : Addr} {T : String}
theorem pe_gstr (hg : Gl X x) (h : ∃ t, X.mg x = some (.str y t)) (hd : (x == ("__debug__" : Str)) = false := by decide) : PE X (.Name x pos) (tC (.str y)) := by
  obtain ⟨t, h⟩ := h
  exact pe_glob hg h ⟨t, rfl⟩ hd
theorem pe_bty (hg : Gl X x) (hm : X.mg x = none) (hv : bootBuiltins x = some (.type T)) (hn : x ≠ "__name__" := by decide) (hd : (x == ("__debug__" : Str)) = false := by decide) : PE X (.Name x pos) (tC (.ty T)) := pe_bltn hg hm hv rfl hn hd
end

/-! ### xs.extend(ys), ys a list or a tuple -/
theorem list_extend_tup (l : Addr) (items : Array Value) (n : Nat) (b : Addr) (items2 : Array Value) (n2 : Nat) (dd : Option Addr) (sl : Array (Option Value)) (hs0 : ¬(!items.isEmpty && Builtin.List.listTooLong (items.size + items2.size)) = true) (hs1 : items.size ≤ sizeLine) (hs2 : items.size + items2.size ≤ sizeLine + 1) :
    Meets (Builtin.«list.extend» ⟨[.ref l, .ref b], []⟩) (fun _ R s => s.heap.get? l = some { cls := .type "list", dict := none, data := .seq items n, slots := #[] } ∧ s.heap.get? b = some { cls := .type "tuple", dict := dd, data := .seq items2 n2, slots := sl } ∧ R (.ok (.ret Value.none)) { s with heap := s.heap.update l (Obj.mapSeq fun x => x ++ items2), toks := s.toks }) :=
  .of_wp fun prog w A R s h => by
    obtain ⟨hp, g, d, tk, os⟩ := s; obtain ⟨hl, hb, h⟩ := h; have f1 := PySem.AutoSeq1.idx_int; have f2 := PySem.AutoSeq1.sub_tuple_tuple; have f3 := PySem.AutoSeq1.sub_list_list; have f4 := PySem.AutoSeq1.sub_tuple_list; have f5 := PySem.AutoSeq1.sub_list_tuple;
    have hz' : (items ++ items2).size ≤ sizeLine + 1 := by rw [Array.size_append]; exact hs2
    wp_walk using (wpAny_updateSeq hl rfl (hz := hs1) (_hz' := hz')), PySem.AutoSeq1.wpAny_loadPart' hl, PySem.AutoSeq1.wpAny_loadPart' hb; exact ⟨_, rfl, h⟩
theorem list_extend_lst (l : Addr) (items : Array Value) (n : Nat) (b : Addr) (items2 : Array Value) (n2 : Nat) (dd : Option Addr) (sl : Array (Option Value)) (hs0 : ¬(!items.isEmpty && Builtin.List.listTooLong (items.size + items2.size)) = true) (hs1 : items.size ≤ sizeLine) (hs2 : items.size + items2.size ≤ sizeLine + 1) :
    Meets (Builtin.«list.extend» ⟨[.ref l, .ref b], []⟩) (fun _ R s => s.heap.get? l = some { cls := .type "list", dict := none, data := .seq items n, slots := #[] } ∧ s.heap.get? b = some { cls := .type "list", dict := dd, data := .seq items2 n2, slots := sl } ∧ R (.ok (.ret Value.none)) { s with heap := s.heap.update l (Obj.mapSeq fun x => x ++ items2), toks := s.toks }) :=
  .of_wp fun prog w A R s h => by
    obtain ⟨hp, g, d, tk, os⟩ := s; obtain ⟨hl, hb, h⟩ := h; have f1 := PySem.AutoSeq1.idx_int; have f2 := PySem.AutoSeq1.sub_tuple_tuple; have f3 := PySem.AutoSeq1.sub_list_list; have f4 := PySem.AutoSeq1.sub_tuple_list; have f5 := PySem.AutoSeq1.sub_list_tuple;
    have hz' : (items ++ items2).size ≤ sizeLine + 1 := by rw [Array.size_append]; exact hs2
    wp_walk using (wpAny_updateSeq hl rfl (hz := hs1) (_hz' := hz')), PySem.AutoSeq1.wpAny_loadPart' hl, PySem.AutoSeq1.wpAny_loadPart' hb; exact ⟨_, rfl, h⟩
def rExtendS (K : PySem.W.Frag) : V → List V → Hp → VK → Prop := fun x vs H Q => ∃ l b xs zs, x = .ref l ∧ vs = [.ref b] ∧ H l = some (.lst xs) ∧ (SqL K H b zs ∨ SqT K H b zs) ∧ xs.length + zs.length ≤ sizeLine ∧ Q .non (upd H l (.lst (xs ++ zs)))
section
variable {X : Cx}
theorem mt_extendS : MtM X "list.extend" (rExtendS X.K) := by
  intro pins s σ H x vs v us Q I rx rv h
  obtain ⟨l, b, xs, zs, rfl, rfl, hH, hB, hz, q⟩ := h
  cases rx
  obtain ⟨u, rfl, ru⟩ := rv.one
  cases ru
  obtain ⟨z, its, n, r, hl, e⟩ := I.lstM hH
  have nl : ∀ {m k : Nat}, m + k ≤ sizeLine → ¬ (!its.toArray.isEmpty && Builtin.List.listTooLong (m + k)) = true := fun hsz => by
    rw [notLongL hsz, Bool.and_false]
    exact Bool.false_ne_true
  rcases hB with hB | hB
  · obtain ⟨its2, r2, ⟨ob, n2, hob, hc, _, hd⟩, z2⟩ := I.list hB
    have l2 := r2.length
    obtain ⟨oc, odd, odt, osl⟩ := ob
    dsimp only at hc hd
    subst hc hd
    refine call_meets F.slot_list_extend ⟨_, e, rfl⟩ F.entry_list_extend (F.args_list_extend_2 _ _)
      (list_extend_lst l its.toArray n b its2.toArray n2 odd osl (nl (by rw [List.size_toArray, List.size_toArray]; omega)) (by rw [List.size_toArray]; omega) (by rw [List.size_toArray, List.size_toArray]; omega)) ⟨e, hob, ?_⟩
    refine ⟨.non, _, I.lset (its' := its ++ its2) hH e (by simp) (r.append r2) ?_, rfl, q⟩
    rw [List.length_append]
    omega
  · obtain ⟨its2, r2, ⟨ob, hob, hc, n2, hd⟩, z2⟩ := I.tuple hB
    have l2 := r2.length
    obtain ⟨oc, odd, odt, osl⟩ := ob
    dsimp only at hc hd
    subst hc hd
    refine call_meets F.slot_list_extend ⟨_, e, rfl⟩ F.entry_list_extend (F.args_list_extend_2 _ _)
      (list_extend_tup l its.toArray n b its2.toArray n2 odd osl (nl (by rw [List.size_toArray, List.size_toArray]; omega)) (by rw [List.size_toArray]; omega) (by rw [List.size_toArray, List.size_toArray]; omega)) ⟨e, hob, ?_⟩
    refine ⟨.non, _, I.lset (its' := its ++ its2) hH e (by simp) (r.append r2) ?_, rfl, q⟩
    rw [List.length_append]
    omega

/-! ### xs == [], xs != [] -/
def rEqNil (K : PySem.W.Frag) (neg : Bool) : R2 := fun x y H Q => ∃ a b xs, x = .ref a ∧ y = .ref b ∧ SqL K H a xs ∧ SqL K H b [] ∧ Q (.bl (if neg then !xs.isEmpty else xs.isEmpty)) H
theorem op_neNil (hu : X.A.units < cLine) : OpR X (compareOp .NotEq) (rEqNil X.K true) := by
  intro pins s σ H x y v u Q I rx ry h
  obtain ⟨a, b, xs, rfl, rfl, ha, hb, q⟩ := h
  cases rx
  cases ry
  obtain ⟨its, r, pl, z⟩ := I.list ha
  obtain ⟨its2, r2, pl2, z2⟩ := I.list hb
  have l1 := r.length
  have l2 := r2.length
  have e2 : its2 = [] := List.length_eq_zero_iff.mp (by rw [← l2]; rfl)
  subst e2
  cases xs with
  | nil =>
    have e1 : its = [] := List.length_eq_zero_iff.mp (by rw [← l1]; rfl)
    subst e1
    exact PySem.SeqAt.RcNeAt.lists (e := fun _ => true) pl.isList pl2.isList rfl hu (fun j h1 _ => absurd h1 (by simp)) X.prog X.w X.xe _ ⟨.bl false, H, I, rfl, q⟩
  | cons y ys =>
    refine PySem.SeqAt.RcNeAt.lists_lengths pl.isList pl2.isList ?_ hu X.prog X.w X.xe _ ⟨.bl true, H, I, rfl, q⟩
    rw [List.size_toArray, ← l1]
    rfl

/-! ### a dict of the top with text keys -/
/-! ### f"text{n}" of an int -/
end

/-! ### isinstance -/
def clsV : V → Option Value
  | .ty n => some (.type n)
  | .ref a => some (.ref a)
  | _ => none
def rIsi (K : PySem.W.Frag) : List V → Hp → VK → Prop := fun xs H Q => ∃ x c t b, xs = [x, c] ∧ TyOf K H x t ∧ ((∃ cv, clsV c = some cv ∧ PySem.W.kitOne K t cv = some b) ∨ (∃ a cs cvs, c = .ref a ∧ H a = some (.tup cs) ∧ cs.map clsV = cvs.map some ∧ PySem.W.kitAny K t cvs = some b)) ∧ Q (.bl b) H
theorem vals_cls : ∀ {cs : List V} {us : List Value} {cvs : List Value}, Vals cs us → cs.map clsV = cvs.map some → us = cvs
  | [], _, [], .nil, _ => rfl
  | [], _, _ :: _, .nil, h => by simp at h
  | c :: cs, _, [], .cons _ _, h => by simp at h
  | c :: cs, _, cv :: cvs, .cons r t, h => by
    simp only [List.map_cons, List.cons.injEq] at h
    rw [vals_cls t h.2]
    cases c with
    | ty n => cases (show _ = Value.type n from r); simp only [clsV, Option.some.injEq] at h; rw [h.1]
    | ref a => cases (show _ = Value.ref a from r); simp only [clsV, Option.some.injEq] at h; rw [h.1]
    | _ => simp [clsV] at h
section
variable {X : Cx}
theorem isinst_tup {pins : List (Addr × Obj)} {σ : St} {H : Hp} {s : Shared} {A : Around} {E : Value → Shared → Prop} {Q : Value → Shared → Prop} {b : Bool} {x : V} {u t : Value} {a : Addr} {cs : List V} {cvs : List Value} (I : Inv X pins σ H s) (rx : RelV x u) (ty : TyOf X.K H x t)
    (ha : H a = some (.tup cs)) (hcs : cs.map clsV = cvs.map some) (e : PySem.W.kitAny X.K t cvs = some b) (h : ∀ tk, Q (.bool b) { s with toks := tk }) : wpAny (model X.prog X.w) A (call (.builtin "isinstance") [u, .ref a]) Q E s := by
  obtain ⟨_, its, rv, p⟩ := (show ObjOk X.prog X.w H s.heap a (.tup cs) from I.hok a _ ha)
  obtain ⟨⟨oc, odd, odt, osl⟩, h1, h2, n, h3⟩ := p
  dsimp only at h2 h3
  subst h2 h3
  have ei : its = cvs := vals_cls rv hcs
  subst ei
  cases ty with
  | non => cases (show u = Value.none from rx); exact PySem.W.kia_tup PySem.W.kitx_none I.kIn True.intro h1 e (fun z => nomatch z) h
  | bl y => cases (show u = Value.bool y from rx); exact PySem.W.kia_tup PySem.W.kitx_bool I.kIn True.intro h1 e (fun z => nomatch z) h
  | int i => obtain ⟨t, q⟩ := (show ∃ t, u = Value.int i t from rx); cases q; exact PySem.W.kia_tup PySem.W.kitx_int I.kIn True.intro h1 e (fun z => nomatch z) h
  | str y => obtain ⟨t, q⟩ := (show ∃ t, u = Value.str y t from rx); cases q; exact PySem.W.kia_tup PySem.W.kitx_str I.kIn True.intro h1 e (fun z => nomatch z) h
  | flt y => obtain ⟨t, q⟩ := (show ∃ t, u = Value.float y t from rx); cases q; exact PySem.W.kia_tup PySem.W.kitx_float I.kIn True.intro h1 e (fun z => nomatch z) h
  | @lst a xs ea =>
    cases (show u = Value.ref a from rx)
    obtain ⟨_, _, n, _, h1'⟩ := (show ObjOk X.prog X.w H s.heap a (.lst xs) from I.hok a _ ea)
    exact PySem.W.kia_tup PySem.W.kitx_list I.kIn ⟨_, h1', rfl⟩ h1 e (fun z => nomatch z) h
  | @frz a ob xs ea =>
    cases (show u = Value.ref a from rx)
    obtain ⟨_, _, _, n, _, h1'⟩ := (show ObjOk X.prog X.w H s.heap a (.frz ob (.lst xs)) from I.hok a _ ea)
    exact PySem.W.kia_tup PySem.W.kitx_list I.kIn ⟨_, h1', rfl⟩ h1 e (fun z => nomatch z) h
  | @tup a xs ea =>
    cases (show u = Value.ref a from rx)
    obtain ⟨_, _, _, p⟩ := (show ObjOk X.prog X.w H s.heap a (.tup xs) from I.hok a _ ea)
    obtain ⟨o, h1', h2, _⟩ := p
    exact PySem.W.kia_tup PySem.W.kitx_tuple I.kIn ⟨o, h1', h2⟩ h1 e (fun z => nomatch z) h
  | @dK a kvs ea =>
    cases (show u = Value.ref a from rx)
    obtain ⟨_, _, vs, _, p⟩ := (show ObjOk X.prog X.w H s.heap a (.dK kvs) from I.hok a _ ea)
    obtain ⟨o, es, ep, h1', h2, _⟩ := p
    exact PySem.W.kia_tup PySem.W.kitx_dict I.kIn ⟨o, h1', h2.1⟩ h1 e (fun z => nomatch z) h
  | @dT a kvs ea =>
    cases (show u = Value.ref a from rx)
    obtain ⟨_, _, xs, _, o, es, ep, h1', h2, _⟩ := (show ObjOk X.prog X.w H s.heap a (.dT kvs) from I.hok a _ ea)
    exact PySem.W.kia_tup PySem.W.kitx_dict I.kIn ⟨o, h1', h2.1⟩ h1 e (fun z => nomatch z) h
  | @ins a C dx fs ea cl ha hn htk hm =>
    cases (show u = Value.ref a from rx)
    obtain ⟨mA, O, _⟩ := ins_get I.hok ea
    obtain ⟨od, J, _⟩ := O.look
    exact PySem.W.kia_tup (PySem.W.kitx_own (cl.get _) cl.hd ha hn htk hm) I.kIn J h1 e (fun z => nomatch z) h
theorem call_isi : CallR X (.builtin "isinstance") (rIsi X.K) := by
  intro pins s σ H xs us Q I r h
  obtain ⟨x, c, t, b, rfl, ty, hc, q⟩ := h
  obtain ⟨u, v, rfl, ru, rv⟩ := r.two
  have fin : ∀ tk, EP X pins σ Q (.bool b) { s with toks := tk } := fun tk => ⟨.bl b, H, I.tok _, rfl, q⟩
  rcases hc with ⟨cv, e1, e2⟩ | ⟨a, cs, cvs, rfl, e1, e2, e3⟩
  · have ev : v = cv := by
      cases c with
      | ty n => cases (show v = Value.type n from rv); exact Option.some.inj e1
      | ref a => cases (show v = Value.ref a from rv); exact Option.some.inj e1
      | _ => cases e1
    subst ev
    exact isinst_ok I ru ty e2 fin
  · cases (show v = Value.ref a from rv)
    exact isinst_tup I ru ty e1 e2 e3 fin
end
end L2
namespace L2
open PySem PySem.Spec PyProof.Rows
section
variable {X : Cx}
end
end L2
namespace L2
open PySem PySem.Spec PyProof.Rows
end L2
/-! isinstance of a caught exception -/
namespace L2
open PySem PySem.Spec PyProof.Rows
section
variable {prog : Program} {w : World} {A : Around} {E : Value → Shared → Prop} {h : Heap} {g : Array GenState} {d : Drawn} {t : Nat} {os : OsState} {a : Addr} {o : Obj}
  {nm q : Str} {C N : Addr} {bs bm bmB : List Value} {hdct : Bool} {sn : List Str} {sub : List Value} {ab : Bool} {col : Option Bool} {dd : Option Addr} {k0 k1 k2 k3 k5 : Option Value} {B newId : String} {mN : Str → Option Value}
end
end L2
/-! enumerate of a list, walked with a tuple as its target -/
namespace L2
open PySem PySem.Spec PyProof.Rows
section
variable {X : Cx} {pins : List (Addr × Obj)} {σ : List (Option V)} {H : Hp} {s : Shared} {h' : Heap}
/-- two records have turned, a tuple was laid -/
theorem Inv.turnedTup {t' : Nat} {e it p : Addr} {vs : List V} (I : Inv X pins σ H s) (k : ∀ b o, b ≠ e → b ≠ it → s.heap.get? b = some o → h'.get? b = some o) (fe : FpOk X pins H e) (fi : FpOk X pins H it) (hp : s.heap.objs.size ≤ p)
    (new : ObjOk X.prog X.w (upd H p (.tup vs)) h' p (.tup vs)) : Inv X pins σ (upd H p (.tup vs)) { s with heap := h', toks := t' } := by
  have ne : ∀ b u, H b = some u → b ≠ e := fun b u q z => by rw [z, fe.1] at q; cases q
  have ni : ∀ b u, H b = some u → b ≠ it := fun b u q z => by rw [z, fi.1] at q; cases q
  have hn : H p = none := I.hok.fresh hp
  have kc : ∀ b o, b ∉ [e, it] → s.heap.get? b = some o → h'.get? b = some o := fun b o hc q => k b o (fun z => hc (by simp [z])) (fun z => hc (by simp [z])) q
  have old : ∀ b u, H b = some u → upd H p (.tup vs) b = some u := fun b u q => by rw [upd_ne (ne_of_none q hn)]; exact q
  refine I.step (g' := s.gens) (d' := s.drawn) (ch := [e, it]) (fun b hb => ?_) (fun b o _ _ hc q _ => kc b o hc q) (fun b o _ _ hc q _ => ⟨o.slots, kc b o hc q⟩) (fun b o _ q n => ?_)
    (fun b o hc q => ⟨o, kc b o hc q⟩) (fun b xs q => old b _ q) (fun b o u q => old b _ q) (fun b ps q => ⟨#[], by rw [old b _ q]; simp⟩) (fun m hm => ?_) (fun b u q => ?_) I.bare
  · rcases List.mem_cons.mp hb with z | z
    · subst z; exact ⟨fe.2.2.2.1, fe.2.1, fe.2.2.2.2.1, fe.2.2.2.2.2⟩
    · have z' : b = it := by simpa using z
      subst z'; exact ⟨fi.2.2.2.1, fi.2.1, fi.2.2.2.2.1, fi.2.2.2.2.2⟩
  · rw [upd_ne (Nat.ne_of_lt (Nat.lt_of_lt_of_le (Heap.lt_size q) hp))]; exact n
  · obtain ⟨o, es, ep, ho, r⟩ := hm
    exact ⟨o, es, ep, k _ o (Ne.symm fe.2.1) (Ne.symm fi.2.1) ho, r⟩
  · by_cases hb : b = p
    · subst hb; rw [upd_same] at q; cases q; exact new
    · rw [upd_ne hb] at q
      refine (I.hok b u q).stay (fun c v hc r => ?_) (fun c r => old c _ r) fun c xs r => old c _ r
      rcases hc with z | z
      · rw [z] at r ⊢; exact k b v (ne b u q) (ni b u q) r
      · exact k c v (ne c _ z) (ni c _ z) r
theorem Inv.turned2 {t' : Nat} {e it : Addr} (I : Inv X pins σ H s) (k : ∀ b o, b ≠ e → b ≠ it → s.heap.get? b = some o → h'.get? b = some o) (fe : FpOk X pins H e) (fi : FpOk X pins H it) : Inv X pins σ H { s with heap := h', toks := t' } := by
  have ne : ∀ b u, H b = some u → b ≠ e := fun b u q z => by rw [z, fe.1] at q; cases q
  have ni : ∀ b u, H b = some u → b ≠ it := fun b u q z => by rw [z, fi.1] at q; cases q
  have kc : ∀ b o, b ∉ [e, it] → s.heap.get? b = some o → h'.get? b = some o := fun b o hc q => k b o (fun z => hc (by simp [z])) (fun z => hc (by simp [z])) q
  refine I.step (g' := s.gens) (d' := s.drawn) (ch := [e, it]) (fun b hb => ?_) (fun b o _ _ hc q _ => kc b o hc q) (fun b o _ _ hc q _ => ⟨o.slots, kc b o hc q⟩) (fun _ _ _ _ n => n)
    (fun b o hc q => ⟨o, kc b o hc q⟩) (fun _ _ q => q) (fun _ _ _ q => q) (fun b ps q => ⟨#[], by rw [q]; simp⟩) (fun m hm => ?_) (fun b u q => ?_) I.bare
  · rcases List.mem_cons.mp hb with z | z
    · subst z; exact ⟨fe.2.2.2.1, fe.2.1, fe.2.2.2.2.1, fe.2.2.2.2.2⟩
    · have z' : b = it := by simpa using z
      subst z'; exact ⟨fi.2.2.2.1, fi.2.1, fi.2.2.2.2.1, fi.2.2.2.2.2⟩
  · obtain ⟨o, es, ep, ho, r⟩ := hm
    exact ⟨o, es, ep, k _ o (Ne.symm fe.2.1) (Ne.symm fi.2.1) ho, r⟩
  · refine (I.hok b u q).stay (fun c v hc r => ?_) (fun _ q => q) fun _ _ q => q
    rcases hc with z | z
    · rw [z] at r ⊢; exact k b v (ne b u q) (ni b u q) r
    · exact k c v (ne c _ z) (ni c _ z) r
end
/-- a pair of the place and the item, at each turn a new tuple -/
def Ite (K : PySem.W.Frag) (a : Addr) : It :=
  ⟨fun i H => ∃ xs x, SqL K H a xs ∧ xs[i]? = some x, fun i H x H' => ∃ p, H p = none ∧ x = .ref p ∧ ∃ y, (∀ xs, SqL K H a xs → xs[i]? = some y) ∧ H' = upd H p (.tup [.int i, y]), fun i H => ∃ xs, SqL K H a xs ∧ xs.length ≤ i⟩
theorem turn_enum {P : Program} {w : World} {K : PySem.W.Frag} {elts : List Expr} {x1} {pos : Pos} (a e it : Addr) (hne : e ≠ it) : Turn P w K (.Tuple elts x1 pos) (Ite K a) [e, it] e (fun i h => (∃ old, IsEnum h e it (i : Nat) old) ∧ h.IsListIter it a i) where
  mem := by simp
  obj := fun i h st b hb => by
    obtain ⟨⟨old, he⟩, o, ho, c, d⟩ := st
    rcases List.mem_cons.mp hb with z | z
    · subst z; exact ⟨_, he, fun v z => by cases z⟩
    · have z' : b = it := by simpa using z
      subst z'; exact ⟨o, ho, fun v z => by rw [d] at z; cases z⟩
  keep := fun i h h' st k => ⟨st.1.elim fun old he => ⟨old, k e (by simp) _ he⟩, st.2.at fun o q => k it (by simp) o q⟩
  item := by
    intro X hP hw hK hc i pins s σ H E I hf st hg
    subst hP hw hK
    obtain ⟨xs, x, hq, hx⟩ := hg
    obtain ⟨⟨old, he⟩, hit⟩ := st
    obtain ⟨its, rv, p, hz⟩ := I.list hq
    obtain ⟨u, hu, ru⟩ := rv.get hx
    have fe := hf e (by simp)
    have fi := hf it (by simp)
    have hes : e < s.heap.objs.size := Heap.lt_size he
    have his : it < s.heap.objs.size := by obtain ⟨o, ho, _⟩ := hit; exact Heap.lt_size ho
    refine wpAny_pyNext_enum_item he hit p.isList (x := u) (by simpa using hu) hne fun h1 heo hit1 ht1 hz1 hk1 => ?_
    refine ⟨_, rfl, wpAny_letOwnedTupleGo_enum heo fun h2 he2 hs2 => ?_⟩
    have hs2' : Heap.SameBut e h1 h2 := hs2
    have ht2 : h2.get? s.heap.objs.size = some { cls := .type "tuple", data := .seq #[.int i s.toks, u] } := (hs2'.2 _ (Nat.ne_of_gt hes)).trans ht1
    have I2 : Inv X pins σ (upd H s.heap.objs.size (.tup [.int i, x])) { s with heap := h2, toks := s.toks + 1 } := by
      refine I.turnedTup (fun b o h3 h4 q => (hs2'.2 b h3).trans (hk1 b o h3 h4 q)) fe fi (Nat.le_refl _) ?_
      exact ⟨(by show 2 ≤ sizeLine; decide), [.int i s.toks, u], .cons ⟨_, rfl⟩ (.cons ru .nil), ⟨_, ht2, rfl, _, rfl⟩⟩
    have hn := I.fresh
    refine ⟨.ref s.heap.objs.size, _, I2, rfl, ⟨s.heap.objs.size, hn, rfl, x, fun ys hy => by rw [I.list_inj hy hq]; exact hx, rfl⟩, ⟨⟨u, ?_⟩, ?_⟩, fun b hb => ?_⟩
    · have z : ((i + 1 : Nat) : Int) = (i : Int) + 1 := by push_cast; rfl
      rw [z]; exact he2
    · exact hit1.extBut hs2'.extBut (Ne.symm hne)
    · rw [upd_ne]
      · exact (hf b hb).1
      · rcases List.mem_cons.mp hb with z | z
        · subst z; exact Nat.ne_of_lt hes
        · have z' : b = it := by simpa using z
          subst z'; exact Nat.ne_of_lt his
  done := by
    intro X hP hw hK hc i pins s σ H E I hf st hg
    subst hP hw hK
    obtain ⟨xs, hq, hx⟩ := hg
    obtain ⟨⟨old, he⟩, hit⟩ := st
    obtain ⟨its, rv, p, hz⟩ := I.list hq
    have hl := rv.length
    exact wpAny_pyNext_enum_end (I.ok.hd hc) he hit p.isList (by simp; omega) fun h' eb => ⟨rfl, I.turned2 (t' := s.toks) (fun b o _ h2 q => eb b o h2 q) (hf e (by simp)) (hf it (by simp))⟩
  self := fun _ _ _ _ _ st h => st.1.elim fun _ he => wpAny_pyIter_enum he h
section
variable {X : Cx}
def iEnum (K : PySem.W.Frag) (tl : TA) : TI := fun σ H R => tl σ H fun vs H1 => ∃ a, vs = [.ref a] ∧ (∃ xs, SqL K H1 a xs) ∧ R (Ite K a) H1
theorem pi_enum {elts : List Expr} {x1} {tpos : Pos} {a : Expr} {ta : TA} {p pos : Pos} (hg : Gl X "enumerate") (hm : X.mg "enumerate" = none) (ha : PA X [a] ta) (hs : starEach [a] X.env = [(false, eval a X.env)] := by rfl) :
    PI X (.Tuple elts x1 tpos) (.Call (.Name "enumerate" p) [a] [] pos) (iEnum X.K ta) := by
  intro pins s σ H R I h
  refine Call_ (ld_blt I hg hm PyProof.Rows.Boot.«enumerate» (PyProof.Rows.callWith_type1 (thn (ha pos pins s σ H _ I h) fun us s1 ⟨vs, H1, I1, r1, q1⟩ => ?_) hs rfl))
  obtain ⟨l, e, ⟨xs, hq⟩, q⟩ := q1
  subst e
  cases r1 with
  | cons r rr =>
    cases rr
    cases r
    obtain ⟨its, rv, pl, hz⟩ := I1.list hq
    refine call_enumerate_list pl.isList fun h2 he hit hsz hk => ?_
    refine wpAny_pyIter_enum he ?_
    have hne : s1.heap.objs.size + 1 ≠ s1.heap.objs.size := Nat.succ_ne_self _
    refine ⟨s1.heap.objs.size + 1, [s1.heap.objs.size + 1, s1.heap.objs.size], _, _, H1, rfl, I1.kept (t' := s1.toks) hk, turn_enum l _ _ hne, ⟨⟨_, he⟩, hit⟩, fun b hb => ?_, q⟩
    rcases List.mem_cons.mp hb with z | z
    · subst z; exact I1.fpOk (Nat.le_succ _) (I1.hok.fresh (Nat.le_succ _))
    · have z' : b = s1.heap.objs.size := by simpa using z
      subst z'; exact I1.fpOk (Nat.le_refl _) (I1.hok.fresh (Nat.le_refl _))
end
/-- a comprehension over enumerate of a list that stays -/
theorem comp_enum {K : PySem.W.Frag} {a acc : Addr} {xs : List V} {g : TG} {tc : TT} {te : TE} {σ : St} {H1 : Hp} {Q : VK} (Pv : Nat → List V → St → Hp → Prop) (h0 : Pv 0 [] σ (upd H1 acc (.lst [])))
    (hl : ∀ i zs σ H, i ≤ xs.length → Pv i zs σ H → SqL K H a xs ∧ H acc = some (.lst zs))
    (hs : ∀ i x zs σ H p, xs[i]? = some x → i < xs.length → Pv i zs σ H → H p = none → g (.ref p) σ (upd H p (.tup [.int i, x])) fun σ4 H4 => tc σ4 H4 fun b H5 => if b = true then te σ4 H5 (CStep xs.length acc Pv i zs σ4) else CSkip xs.length Pv i zs σ4 H5)
    (hd : ∀ zs σ H, Pv xs.length zs σ H → Q (.ref acc) H) : CompGo (Ite K a) g tc te σ acc H1 Q := by
  refine ⟨fun i m zs σ H => m = xs.length - i ∧ i ≤ xs.length ∧ Pv i zs σ H, ⟨_, rfl, Nat.zero_le _, h0⟩, ?_⟩
  rintro i m zs σ H2 ⟨rfl, hi, p⟩
  obtain ⟨q, ha⟩ := hl i zs σ H2 hi p
  refine ⟨ha, ?_⟩
  by_cases hlt : i < xs.length
  · refine .inr ⟨⟨xs, xs[i], q, by simp [hlt]⟩, fun y H3 yl => ?_⟩
    obtain ⟨b, hb, e, x, hx, e3⟩ := yl
    subst e e3
    exact hs i x zs σ _ b (hx xs q) hlt p hb
  · have e : i = xs.length := by omega
    subst e
    exact .inl ⟨⟨xs, q, Nat.le_refl _⟩, hd zs σ H2 p⟩
end L2
/-! The desk: what its methods come to. -/
namespace K07
open PySem L2
/-! ### the mirror -/
inductive Rt where
  | no | rd | wr
  deriving DecidableEq
def Rt.s : Rt → Str
  | .no => "none"
  | .rd => "read"
  | .wr => "write"
theorem Rt.s_inj : ∀ {a b : Rt}, a.s = b.s → a = b
  | .no, .no, _ => rfl
  | .no, .rd, h => absurd h (by decide +kernel)
  | .no, .wr, h => absurd h (by decide +kernel)
  | .rd, .no, h => absurd h (by decide +kernel)
  | .rd, .rd, _ => rfl
  | .rd, .wr, h => absurd h (by decide +kernel)
  | .wr, .no, h => absurd h (by decide +kernel)
  | .wr, .rd, h => absurd h (by decide +kernel)
  | .wr, .wr, _ => rfl
theorem rt_ne {r q : Rt} {x : Str} (e : x = q.s) (h : r ≠ q) : decide (V.str r.s = V.str x) = false := decide_eq_false fun z => h (Rt.s_inj ((V.str.inj z).trans e))
theorem iteFb {c : Bool} {A B : Prop} (h : c = false) (hb : B) : if c = true then A else B := by rw [h]; exact iteF hb
theorem iteTb {c : Bool} {A B : Prop} (h : c = true) (ha : A) : if c = true then A else B := by rw [h]; exact iteT ha
/-! ### in the heap -/
theorem same_new {H : Hp} {a : Addr} {o : HO} (h : H a = none) : Same H (upd H a o) := fun b u e => by rw [upd_ne (ne_of_none e h)]; exact e
/-- a letter that goes down -/
inductive Let where
  | lend (p : Int) (r : Rt) (n : Int) | back (p : Int) (r : Rt)
def Let.vs : Let → List V
  | .lend p r n => [.str "lend", .int p, .str r.s, .int n]
  | .back p r => [.str "back", .int p, .str r.s]
def Let.d : Let → D
  | .lend p r n => .t [.s "lend", .i p, .s r.s, .i n]
  | .back p r => .t [.s "back", .i p, .s r.s]
/-! ### the promises -/
def spTup (tag : Str) : Sp := fun vs H Q _ => ∃ x y, vs = [x, y] ∧ ∀ a, H a = none → Q (.ref a) (upd H a (.tup [.str tag, x, y]))
end K07
/-! The town, as a state: desks, pages, roads. -/
namespace K07
open PySem L2
def setf {α : Type} (f : Nat → α) (i : Nat) (v : α) : Nat → α := fun j => if j = i then v else f j
theorem setf_same {α : Type} (f : Nat → α) (i : Nat) (v : α) : setf f i v i = v := by simp [setf]
theorem setf_ne {α : Type} (f : Nat → α) {i j : Nat} (v : α) (h : j ≠ i) : setf f i v j = f j := by simp [setf, h]
theorem setf_eq {α : Type} (f : Nat → α) (i : Nat) : setf f i (f i) = f := by funext j; unfold setf; split <;> simp_all
theorem setf_setf {α : Type} (f : Nat → α) (i : Nat) (v w : α) : setf (setf f i v) i w = setf f i w := by funext j; unfold setf; split <;> rfl
/-- a letter that goes up -/
inductive UL where
  | ask (p : Nat) (r : Rt) | ans (p : Nat) (o : Option Int) | gave (p : Nat) (n : Int)
def oV : Option Int → V
  | none => .non
  | some k => .int k
def oD : Option Int → D
  | none => .n
  | some k => .i k
def UL.vs : UL → List V
  | .ask p r => [.str "ask", .int p, .str r.s]
  | .ans p o => [.str "answer", .int p, oV o]
  | .gave p n => [.str "gave", .int p, .int n]
def UL.d : UL → D
  | .ask p r => .t [.s "ask", .i p, .s r.s]
  | .ans p o => .t [.s "answer", .i p, oD o]
  | .gave p n => .t [.s "gave", .i p, .i n]
def UL.pg : UL → Nat
  | .ask p _ => p
  | .ans p _ => p
  | .gave p _ => p
/-- what the hall knows of a page -/
structure PG where
  num : Int
  wr : Option Nat
  rd : List Nat
  ask : List (Nat × Rt)
  miss : Int
def low (r : Rt) : Rt := if r = .rd then .rd else .no
def wBids (g : PG) (p a : Nat) (r : Rt) : List (Nat × Let) := match g.wr with
  | some w => if w = a then [] else [(w, .back p (low r))]
  | none => []
def rBids (g : PG) (p a : Nat) (r : Rt) : List (Nat × Let) := if r = .wr then (g.rd.filter fun d => decide (d ≠ a)).map fun d => (d, .back p .no) else []
def PG.bids (g : PG) (p : Nat) : List (Nat × Let) := match g.ask with
  | [] => []
  | (a, r) :: _ => wBids g p a r ++ rBids g p a r
def letRead (g : PG) (a : Nat) : PG := { g with wr := none, rd := if a ∈ g.rd ++ g.wr.toList then g.rd ++ g.wr.toList else g.rd ++ g.wr.toList ++ [a] }
def letWrite (g : PG) (a : Nat) : PG := { g with wr := some a, rd := [] }
def PG.lent (g : PG) : PG := match g.ask with
  | [] => g
  | (a, r) :: q => if r = .wr then letWrite { g with ask := q } a else letRead { g with ask := q } a
def PG.lend1 (g : PG) (p : Nat) : List (Nat × Let) := match g.ask with
  | [] => []
  | (a, r) :: _ => [(a, .lend p r g.num)]
theorem PG.lent_len (g : PG) : g.lent.ask.length = g.ask.length - 1 := by
  unfold PG.lent
  cases h : g.ask with
  | nil => simp [h]
  | cons x q => obtain ⟨a, r⟩ := x; dsimp only; split <;> simp [letWrite, letRead]
def serveN : Nat → PG → Nat → PG × List (Nat × Let)
  | 0, g, _ => (g, [])
  | k + 1, g, p => if (g.bids p).isEmpty then ((serveN k g.lent p).1, g.lend1 p ++ (serveN k g.lent p).2) else ({ g with miss := (g.bids p).length }, g.bids p)
def PG.serve (g : PG) (p : Nat) : PG × List (Nat × Let) := serveN g.ask.length g p
theorem serve_nil {g : PG} {p : Nat} (h : g.ask = []) : g.serve p = (g, []) := by unfold PG.serve; rw [h]; rfl
theorem serve_lend {g : PG} {p : Nat} (h : g.ask ≠ []) (hb : g.bids p = []) : g.serve p = ((g.lent.serve p).1, g.lend1 p ++ (g.lent.serve p).2) := by
  unfold PG.serve
  rw [PG.lent_len]
  cases h' : g.ask with
  | nil => exact absurd h' h
  | cons x q => rw [List.length_cons, serveN, hb, if_pos (by rfl)]; rfl
theorem serve_bid {g : PG} {p : Nat} (h : g.ask ≠ []) (hb : g.bids p ≠ []) : g.serve p = ({ g with miss := (g.bids p).length }, g.bids p) := by
  unfold PG.serve
  cases h' : g.ask with
  | nil => exact absurd h' h
  | cons x q => rw [List.length_cons, serveN, if_neg (by simpa using hb), h']
def PG.take (g : PG) (p d : Nat) : UL → PG × List (Nat × Let)
  | .ask _ r => if g.ask = [] then PG.serve { g with ask := [(d, r)] } p else ({ g with ask := g.ask ++ [(d, r)] }, [])
  | .ans _ o => if g.miss - 1 = 0 then
      ((PG.serve (PG.lent { g with num := o.getD g.num, miss := g.miss - 1 }) p).1, PG.lend1 { g with num := o.getD g.num, miss := g.miss - 1 } p ++ (PG.serve (PG.lent { g with num := o.getD g.num, miss := g.miss - 1 }) p).2)
    else ({ g with num := o.getD g.num, miss := g.miss - 1 }, [])
  | .gave _ n => ({ g with num := n, wr := if g.wr = some d then none else g.wr }, [])
end K07
/-! A page's loans in the heap. -/
namespace K07
open PySem L2
theorem seq_via {A B : L2.TS} {D : Ends} {σ : St} {H : Hp} (R : St → Hp → Prop) (ha : ∀ N : St → Hp → Prop, (∀ σ' H', R σ' H' → N σ' H') → A { D with nx := N } σ H) (hb : ∀ σ' H', R σ' H' → B D σ' H') : tSeq A B D σ H := ha _ hb
def nV (d : Nat) : V := .int d
theorem same_tup {H H' : Hp} (h : Same H H') : TupSame H H' := fun b xs e => h b _ e
theorem same_upd {H H1 : Hp} {l : Addr} {o : HO} (h : Same H H1) (hn : H l = none) : Same H (upd H1 l o) := fun b u e => by rw [upd_ne (ne_of_none e hn)]; exact h b u e
theorem tup_lst {H : Hp} {l : Addr} {us vs : List V} (h : H l = some (.lst us)) : TupSame H (upd H l (.lst vs)) := fun b xs e => by rw [upd_ne (ne_of e h (by intro z; cases z))]; exact e
theorem six0 {α : Type} (x : α) (xs : List α) : seqIndex? 0 (x :: xs).length = some 0 := by simp [seqIndex?]
theorem vs_ne {a b : Str} (h : a ≠ b) : decide (V.str a = V.str b) = false := decide_eq_false fun z => h (V.str.inj z)
theorem vs_eq {a : Str} : decide (V.str a = V.str a) = true := decide_eq_true rfl
def askD (x : Nat × Rt) : D := .t [.i x.1, .s x.2.s]
def pairD (x : Nat × Let) : D := .t [.i x.1, x.2.d]
def wrV : Option Nat → V
  | none => .non
  | some w => .int w
def pfl (p : Nat) (g : PG) (r q : Addr) : List (Str × V) := [("page", .int p), ("number", .int g.num), ("writer", wrV g.wr), ("readers", .ref r), ("asked", .ref q), ("awaited", .int g.miss)]
section
variable {p : Nat} {g : PG} {r q : Addr}
theorem pfl_init {n : Int} : putF "awaited" (.int 0) (putF "asked" (.ref q) (putF "readers" (.ref r) (putF "writer" .non (putF "number" (.int n) (putF "page" (.int p) []))))) = pfl p ⟨n, none, [], [], 0⟩ r q := by kernel_rfl
theorem pfl_num {n : Int} : putF "number" (.int n) (pfl p g r q) = pfl p { g with num := n } r q := by kernel_rfl
theorem pfl_wrN : putF "writer" .non (pfl p g r q) = pfl p { g with wr := none } r q := by kernel_rfl
theorem pfl_wrS {d : Nat} : putF "writer" (.int d) (pfl p g r q) = pfl p { g with wr := some d } r q := by kernel_rfl
theorem pfl_rd {r' : Addr} {l : List Nat} : putF "readers" (.ref r') (pfl p g r q) = pfl p { g with rd := l } r' q := by kernel_rfl
theorem pfl_miss {k : Int} : putF "awaited" (.int k) (pfl p g r q) = pfl p { g with miss := k } r q := by kernel_rfl
theorem pfl_page : (pfl p g r q).lookup ("page" : Str) = some (.int p) := by kernel_rfl
theorem pfl_number : (pfl p g r q).lookup ("number" : Str) = some (.int g.num) := by kernel_rfl
theorem pfl_writer : (pfl p g r q).lookup ("writer" : Str) = some (wrV g.wr) := by kernel_rfl
theorem pfl_readers : (pfl p g r q).lookup ("readers" : Str) = some (.ref r) := by kernel_rfl
theorem pfl_asked : (pfl p g r q).lookup ("asked" : Str) = some (.ref q) := by kernel_rfl
theorem pfl_awaited : (pfl p g r q).lookup ("awaited" : Str) = some (.int g.miss) := by kernel_rfl
theorem pfl_len : (pfl p g r q).length < 1000 := by show 6 < 1000; decide
theorem pfl_serve : (pfl p g r q).lookup ("serve" : Str) = none := by kernel_rfl
theorem pfl_lend : (pfl p g r q).lookup ("lend" : Str) = none := by kernel_rfl
theorem pfl_bids : (pfl p g r q).lookup ("bids_for_first" : Str) = none := by kernel_rfl
theorem pfl_lw : (pfl p g r q).lookup ("let_write" : Str) = none := by kernel_rfl
theorem pfl_lr : (pfl p g r q).lookup ("let_read" : Str) = none := by kernel_rfl
theorem pfl_ta : (pfl p g r q).lookup ("take_ask" : Str) = none := by kernel_rfl
theorem pfl_tw : (pfl p g r q).lookup ("take_answer" : Str) = none := by kernel_rfl
theorem pfl_tg : (pfl p g r q).lookup ("take_gave" : Str) = none := by kernel_rfl
end
/-- a PageLoans stands at a, its readers at r, those who asked at q -/
structure PgAt (C : Addr) (H : Hp) (a r q : Addr) (p : Nat) (g : PG) : Prop where
  ob : ∃ dx, H a = some (.ins C dx (pfl p g r q))
  rl : H r = some (.lst (g.rd.map nV))
  al : ∃ vs, H q = some (.lst vs) ∧ RepL H vs (g.ask.map askD)
  ne : r ≠ q
/-- nothing goes away -/
def Lv (H H' : Hp) : Prop := ∀ b, H' b = none → H b = none
theorem Lv.refl (H : Hp) : Lv H H := fun _ h => h
theorem Lv.trans {H H1 H2 : Hp} (x : Lv H H1) (y : Lv H1 H2) : Lv H H2 := fun b h => x b (y b h)
theorem Lv.upd {H : Hp} {a : Addr} {o : HO} : Lv H (upd H a o) := fun b h => by
  by_cases e : b = a
  · rw [e, upd_same] at h; cases h
  · rw [upd_ne e] at h; exact h
theorem Lv.same {H H' : Hp} (h : Same H H') : Lv H H' := fun b e => by
  cases q : H b with
  | none => rfl
  | some o => rw [h b o q] at e; cases e
structure PF (H H' : Hp) (a r q : Addr) : Prop where
  kp : ∀ b o, H b = some o → b ≠ a → b ≠ r → b ≠ q → H' b = some o
  lv : Lv H H'
theorem PF.refl (H : Hp) (a r q : Addr) : PF H H a r q := ⟨fun _ _ h _ _ _ => h, Lv.refl _⟩
theorem PF.trans {H H1 H2 : Hp} {a r q : Addr} (x : PF H H1 a r q) (y : PF H1 H2 a r q) : PF H H2 a r q := ⟨fun b o h h1 h2 h3 => y.kp b o (x.kp b o h h1 h2 h3) h1 h2 h3, x.lv.trans y.lv⟩
/-- where the list of readers is new in between -/
theorem PF.trans' {H H1 H2 : Hp} {a r r1 q : Addr} (x : PF H H1 a r q) (y : PF H1 H2 a r1 q) (h : r1 = r ∨ H r1 = none) : PF H H2 a r q := ⟨fun b o hb h1 h2 h3 => y.kp b o (x.kp b o hb h1 h2 h3) h1 (by
  rcases h with z | z
  · rw [z]; exact h2
  · exact ne_of_none hb z) h3, x.lv.trans y.lv⟩
theorem askD_flat (l : List (Nat × Rt)) : D.flats (l.map askD) := by
  induction l with
  | nil => simp [D.flats]
  | cons x l ih => simp only [List.map_cons, D.flats]; exact ⟨by simp [askD, D.flat, D.flats], ih⟩
theorem Let.flat (l : Let) : l.d.flat := by cases l <;> simp [Let.d, D.flat, D.flats]
theorem pairD_flat (l : List (Nat × Let)) : D.flats (l.map pairD) := by
  induction l with
  | nil => simp [D.flats]
  | cons x l ih => simp only [List.map_cons, D.flats]; exact ⟨by simp only [pairD, D.flat, D.flats]; exact ⟨trivial, Let.flat _, trivial⟩, ih⟩
section
variable {C : Addr} {H H' : Hp} {a r q : Addr} {p : Nat} {g : PG}
theorem PgAt.nar (P : PgAt C H a r q p g) : a ≠ r := by obtain ⟨⟨dx, h⟩, h2, _⟩ := P; exact ne_of h h2 (by intro z; cases z)
theorem PgAt.naq (P : PgAt C H a r q p g) : a ≠ q := by obtain ⟨⟨dx, h⟩, _, ⟨vs, h2, _⟩, _⟩ := P; exact ne_of h h2 (by intro z; cases z)
theorem PF.tups (P : PgAt C H a r q p g) (h : PF H H' a r q) : TupSame H H' := fun b xs e => by
  obtain ⟨⟨dx, h1⟩, h2, ⟨vs, h3, _⟩, _⟩ := P
  exact h.kp b _ e (ne_of e h1 (by intro z; cases z)) (ne_of e h2 (by intro z; cases z)) (ne_of e h3 (by intro z; cases z))
theorem PgAt.keep (P : PgAt C H a r q p g) (t : TupSame H H') (ha : ∀ o, H a = some o → H' a = some o) (hr : ∀ o, H r = some o → H' r = some o) (hq : ∀ o, H q = some o → H' q = some o) : PgAt C H' a r q p g := by
  obtain ⟨⟨dx, h1⟩, h2, ⟨vs, h3, h4⟩, h5⟩ := P
  exact ⟨⟨dx, ha _ h1⟩, hr _ h2, ⟨vs, hq _ h3, h4.tmono t (askD_flat _)⟩, h5⟩
theorem PgAt.same (P : PgAt C H a r q p g) (h : Same H H') : PgAt C H' a r q p g := P.keep (fun b xs e => h b _ e) (fun o e => h _ o e) (fun o e => h _ o e) fun o e => h _ o e
theorem PgAt.new {b : Addr} {o : HO} (P : PgAt C H a r q p g) (h : H b = none) : PgAt C (upd H b o) a r q p g := P.same (same_new h)
theorem PF.new {b : Addr} {o : HO} (h : H b = none) : PF H (upd H b o) a r q := ⟨fun c u e _ _ _ => same_new h c u e, Lv.upd⟩
/-- the object is written -/
theorem PgAt.wr {dx : Addr} {g' : PG} (P : PgAt C H a r q p g) (e1 : g'.rd = g.rd) (e2 : g'.ask = g.ask) : PgAt C (upd H a (.ins C dx (pfl p g' r q))) a r q p g' := by
  have n1 := P.nar
  have n2 := P.naq
  obtain ⟨⟨dx1, h1⟩, h2, ⟨vs, h3, h4⟩, h5⟩ := P
  have t : TupSame H (upd H a (.ins C dx (pfl p g' r q))) := fun b xs e => by rw [upd_ne (ne_of e h1 (by intro z; cases z))]; exact e
  exact ⟨⟨dx, upd_same⟩, by rw [upd_ne n1.symm, e1]; exact h2, ⟨vs, by rw [upd_ne n2.symm]; exact h3, by rw [e2]; exact h4.tmono t (askD_flat _)⟩, h5⟩
theorem PF.wr {o : HO} : PF H (upd H a o) a r q := ⟨fun b u e h1 _ _ => by rw [upd_ne h1]; exact e, Lv.upd⟩
theorem PF.wrR {o : HO} : PF H (upd H r o) a r q := ⟨fun b u e _ h2 _ => by rw [upd_ne h2]; exact e, Lv.upd⟩
theorem PF.wrQ {o : HO} : PF H (upd H q o) a r q := ⟨fun b u e _ _ h3 => by rw [upd_ne h3]; exact e, Lv.upd⟩
/-- the list of readers is written -/
theorem PgAt.wrR {l : List Nat} (P : PgAt C H a r q p g) : PgAt C (upd H r (.lst (l.map nV))) a r q p { g with rd := l } := by
  have n1 := P.nar
  obtain ⟨⟨dx1, h1⟩, h2, ⟨vs, h3, h4⟩, h5⟩ := P
  have t : TupSame H (upd H r (.lst (l.map nV))) := fun b xs e => by rw [upd_ne (ne_of e h2 (by intro z; cases z))]; exact e
  exact ⟨⟨dx1, by rw [upd_ne n1]; exact h1⟩, upd_same, ⟨vs, by rw [upd_ne h5.symm]; exact h3, h4.tmono t (askD_flat _)⟩, h5⟩
/-- the list of those who asked is written -/
theorem PgAt.wrQ {l : List (Nat × Rt)} {vs : List V} (P : PgAt C H a r q p g) (rp : RepL H vs (l.map askD)) : PgAt C (upd H q (.lst vs)) a r q p { g with ask := l } := by
  have n1 := P.naq
  obtain ⟨⟨dx1, h1⟩, h2, ⟨us, h3, h4⟩, h5⟩ := P
  have t : TupSame H (upd H q (.lst vs)) := fun b xs e => by rw [upd_ne (ne_of e h3 (by intro z; cases z))]; exact e
  exact ⟨⟨dx1, by rw [upd_ne n1]; exact h1⟩, by rw [upd_ne h5]; exact h2, ⟨vs, upd_same, rp.tmono t (askD_flat _)⟩, h5⟩
theorem askD_cons {H : Hp} {vs : List V} {x : Nat × Rt} {l : List (Nat × Rt)} (h : RepL H vs ((x :: l).map askD)) : ∃ t us, vs = .ref t :: us ∧ H t = some (.tup [.int x.1, .str x.2.s]) ∧ RepL H us (l.map askD) := by
  simp only [List.map_cons, RepL] at h
  obtain ⟨v, us, e, rv, rl⟩ := h
  simp only [askD, Rep, RepL] at rv
  obtain ⟨t, xs, e1, e2, _, _, e3, rfl, _, _, e4, rfl, e5⟩ := rv
  subst e1 e5 e4 e3
  exact ⟨t, us, e, e2, rl⟩
end
/-- what a page's loans come to: the letters in a list that is new -/
def PgOut (C : Addr) (H : Hp) (a r q : Addr) (p : Nat) (z : PG × List (Nat × Let)) (Q : VK) : Prop :=
  ∀ l r' vs H', H l = none → (r' = r ∨ H r' = none) → l ≠ r' → PgAt C H' a r' q p z.1 → PF H H' a r q → H' l = some (.lst vs) → RepL H' vs (z.2.map pairD) → Q (.ref l) H'
/-- how long the lists may be -/
def PG.mu (g : PG) : Nat := g.rd.length + 2 * g.ask.length
theorem PG.lent_mu (g : PG) : g.lent.mu ≤ g.mu := by
  unfold PG.lent PG.mu
  cases h : g.ask with
  | nil => simp [h]
  | cons x l =>
    obtain ⟨a, r⟩ := x
    dsimp only
    split
    · simp [letWrite]; omega
    · simp only [letRead]
      have hw : g.wr.toList.length ≤ 1 := by cases g.wr <;> simp
      split <;> simp [List.length_append] <;> omega
def spLend4 : Sp := fun vs H Q _ => ∃ x y z, vs = [x, y, z] ∧ ∀ a, H a = none → Q (.ref a) (upd H a (.tup [.str "lend", x, y, z]))
def spPgInit (C : Addr) : Sp := fun vs H Q _ => ∃ a dx, ∃ p : Nat, ∃ n : Int, vs = [.ref a, .int p, .int n] ∧ H a = some (.ins C dx []) ∧ ∀ r q H', H r = none → H q = none → PgAt C H' a r q p ⟨n, none, [], [], 0⟩ → (∀ b o, H b = some o → b ≠ a → H' b = some o) → Lv H H' → Q .non H'
def spLetR (C : Addr) : Sp := fun vs H Q _ => ∃ a r q p g, ∃ d : Nat, vs = [.ref a, .int d] ∧ PgAt C H a r q p g ∧ g.rd.length ≤ 1000000 ∧ ∀ H', PgAt C H' a r q p (letRead g d) → PF H H' a r q → Q .non H'
def spLetW (C : Addr) : Sp := fun vs H Q _ => ∃ a r q p g, ∃ d : Nat, vs = [.ref a, .int d] ∧ PgAt C H a r q p g ∧ ∀ r' H', H r' = none → PgAt C H' a r' q p (letWrite g d) → PF H H' a r q → Q .non H'
def spLendP (C : Addr) : Sp := fun vs H Q _ => ∃ a r q p g d x l, vs = [.ref a] ∧ PgAt C H a r q p g ∧ g.ask = (d, x) :: l ∧ (x = .rd ∨ x = .wr) ∧ g.rd.length ≤ 1000000 ∧
  ∀ v r' H', (r' = r ∨ H r' = none) → PgAt C H' a r' q p g.lent → PF H H' a r q → Rep H' v (pairD (d, .lend p x g.num)) → Q v H'
def spBids (C : Addr) : Sp := fun vs H Q _ => ∃ a r q p g d x l, vs = [.ref a] ∧ PgAt C H a r q p g ∧ g.ask = (d, x) :: l ∧ (x = .rd ∨ x = .wr) ∧ g.rd.length ≤ 1000000 ∧
  ∀ b us H', H b = none → Same H H' → H' b = some (.lst us) → RepL H' us ((g.bids p).map pairD) → Q (.ref b) H'
def Rw (l : List (Nat × Rt)) : Prop := ∀ x ∈ l, x.2 = .rd ∨ x.2 = .wr
def spServe (C : Addr) : Sp := fun vs H Q _ => ∃ a r q p g, vs = [.ref a] ∧ PgAt C H a r q p g ∧ Rw g.ask ∧ g.mu ≤ 1000000 ∧ PgOut C H a r q p (g.serve p) Q
def spAsk (C : Addr) : Sp := fun vs H Q _ => ∃ a r q p g x, ∃ d : Nat, vs = [.ref a, .int d, .str (Rt.s x)] ∧ PgAt C H a r q p g ∧ (x = .rd ∨ x = .wr) ∧ Rw g.ask ∧ g.mu ≤ 900000 ∧ PgOut C H a r q p (g.take p d (.ask p x)) Q
def spAns (C : Addr) : Sp := fun vs H Q _ => ∃ a r q p g o, ∃ d : Nat, vs = [.ref a, oV o] ∧ PgAt C H a r q p g ∧ (g.miss - 1 = 0 → g.ask ≠ []) ∧ Rw g.ask ∧ g.mu ≤ 900000 ∧ PgOut C H a r q p (g.take p d (.ans p o)) Q
def spGave (C : Addr) : Sp := fun vs H Q _ => ∃ a r q p g, ∃ d : Nat, ∃ n : Int, vs = [.ref a, .int d, .int n] ∧ PgAt C H a r q p g ∧ PgOut C H a r q p (g.take p d (.gave p n)) Q
end K07
/-! The hall in the heap. -/
namespace K07
open PySem L2
def setL {ι : Type} [DecidableEq ι] (A : ι → Addr) (z : ι) (a : Addr) : ι → Addr := fun x => if x = z then a else A x
theorem setL_same {ι : Type} [DecidableEq ι] (A : ι → Addr) (z : ι) (a : Addr) : setL A z a z = a := by simp [setL]
theorem setL_ne {ι : Type} [DecidableEq ι] (A : ι → Addr) {z x : ι} (a : Addr) (h : x ≠ z) : setL A z a x = A x := by simp [setL, h]
theorem inj_add {ι : Type} [DecidableEq ι] {A : ι → Addr} {ok ok' : ι → Prop} {z : ι} {a : Addr} (hi : ∀ x y, ok x → ok y → A x = A y → x = y) (hn : ∀ x, ok x → A x ≠ a) (ho : ∀ x, ok' x → x = z ∨ ok x) :
    ∀ x y, ok' x → ok' y → setL A z a x = setL A z a y → x = y := by
  intro x y hx hy e
  by_cases h1 : x = z
  · by_cases h2 : y = z
    · rw [h1, h2]
    · rw [h1, setL_same, setL_ne _ _ h2] at e
      exact absurd e.symm (hn y ((ho y hy).resolve_left h2))
  · by_cases h2 : y = z
    · rw [h2, setL_same, setL_ne _ _ h1] at e
      exact absurd e (hn x ((ho x hx).resolve_left h1))
    · rw [setL_ne _ _ h1, setL_ne _ _ h2] at e
      exact hi x y ((ho x hx).resolve_left h1) ((ho y hy).resolve_left h2) e
inductive Hb where
  | hall | pages | loan (p : Nat) | rdr (p : Nat) | asq (p : Nat)
  deriving DecidableEq
def Hb.ok (m : Nat) : Hb → Prop
  | .hall => True
  | .pages => True
  | .loan p => p < m
  | .rdr p => p < m
  | .asq p => p < m
def hfl (l : Addr) : List (Str × V) := [("pages", .ref l)]
theorem hfl_pages {l : Addr} : (hfl l).lookup ("pages" : Str) = some (.ref l) := by kernel_rfl
theorem hfl_take {l : Addr} : (hfl l).lookup ("take" : Str) = none := by kernel_rfl
theorem hfl_init {l : Addr} : putF "pages" (.ref l) [] = hfl l := by kernel_rfl
structure HallAt (CH CP : Addr) (H : Hp) (A : Hb → Addr) (m : Nat) (G : Nat → PG) : Prop where
  inj : ∀ x y, x.ok m → y.ok m → A x = A y → x = y
  ob : ∃ dx, H (A .hall) = some (.ins CH dx (hfl (A .pages)))
  pl : H (A .pages) = some (.lst ((List.range m).map fun p => V.ref (A (.loan p))))
  pg : ∀ p, p < m → PgAt CP H (A (.loan p)) (A (.rdr p)) (A (.asq p)) p (G p)
structure HF (H H' : Hp) (A : Hb → Addr) (m : Nat) : Prop where
  kp : ∀ b o, H b = some o → (∀ x : Hb, x.ok m → b ≠ A x) → H' b = some o
  lv : Lv H H'
section
variable {CH CP : Addr} {H H' : Hp} {A : Hb → Addr} {m : Nat} {G : Nat → PG}
theorem HallAt.live (h : HallAt CH CP H A m G) (x : Hb) (hx : x.ok m) : ∃ o, H (A x) = some o ∧ ∀ xs, o ≠ .tup xs := by
  cases x with
  | hall => obtain ⟨dx, e⟩ := h.ob; exact ⟨_, e, fun _ z => by cases z⟩
  | pages => exact ⟨_, h.pl, fun _ z => by cases z⟩
  | loan p => obtain ⟨⟨dx, e⟩, _⟩ := h.pg p hx; exact ⟨_, e, fun _ z => by cases z⟩
  | rdr p => exact ⟨_, (h.pg p hx).rl, fun _ z => by cases z⟩
  | asq p => obtain ⟨vs, e, _⟩ := (h.pg p hx).al; exact ⟨_, e, fun _ z => by cases z⟩
theorem HallAt.keep (h : HallAt CH CP H A m G) (t : TupSame H H') (k : ∀ x : Hb, x.ok m → ∀ o, H (A x) = some o → H' (A x) = some o) : HallAt CH CP H' A m G := by
  refine ⟨h.inj, ?_, k .pages trivial _ h.pl, fun p hp => (h.pg p hp).keep t (k (.loan p) hp) (k (.rdr p) hp) (k (.asq p) hp)⟩
  obtain ⟨dx, e⟩ := h.ob
  exact ⟨dx, k .hall trivial _ e⟩
theorem HallAt.same (h : HallAt CH CP H A m G) (s : Same H H') : HallAt CH CP H' A m G := h.keep (fun b xs e => s b _ e) fun x _ o e => s _ o e
theorem HF.tups (h : HallAt CH CP H A m G) (f : HF H H' A m) : TupSame H H' := fun b xs e => f.kp b _ e fun x hx z => by
  obtain ⟨o, e1, e2⟩ := h.live x hx
  rw [← z, e] at e1
  exact e2 xs (Option.some.inj e1).symm
theorem HF.of_same (s : Same H H') : HF H H' A m := ⟨fun b o e _ => s b o e, Lv.same s⟩
theorem HallAt.new {a : Addr} {o : HO} (h : HallAt CH CP H A m G) (hn : H a = none) : HallAt CH CP (upd H a o) A m G := h.same (same_new hn)
/-- a page's loans have changed -/
theorem HallAt.page {p : Nat} {g' : PG} {r' : Addr} (h : HallAt CH CP H A m G) (hp : p < m) (P : PgAt CP H' (A (.loan p)) r' (A (.asq p)) p g') (f : PF H H' (A (.loan p)) (A (.rdr p)) (A (.asq p))) (hr : r' = A (.rdr p) ∨ H r' = none) :
    HallAt CH CP H' (setL A (.rdr p) r') m (setf G p g') ∧ HF H H' A m := by
  have tp := f.tups (h.pg p hp)
  have kk : ∀ x : Hb, x.ok m → x ≠ .loan p → x ≠ .rdr p → x ≠ .asq p → ∀ o, H (A x) = some o → H' (A x) = some o := fun x hx n1 n2 n3 o e =>
    f.kp _ o e (fun z => n1 (h.inj _ _ hx hp z)) (fun z => n2 (h.inj _ _ hx hp z)) fun z => n3 (h.inj _ _ hx hp z)
  refine ⟨⟨?_, ?_, ?_, fun j hj => ?_⟩, ⟨fun b o e hn => f.kp b o e (hn _ hp) (hn (.rdr p) hp) (hn (.asq p) hp), f.lv⟩⟩
  · intro x y hx hy e
    by_cases h1 : x = .rdr p
    · by_cases h2 : y = .rdr p
      · rw [h1, h2]
      · rw [h1, setL_same, setL_ne _ _ h2] at e
        rcases hr with z | z
        · rw [z] at e; rw [h1]; exact h.inj _ _ hp hy e
        · obtain ⟨o, e1, _⟩ := h.live y hy; rw [← e, z] at e1; cases e1
    · by_cases h2 : y = .rdr p
      · rw [h2, setL_same, setL_ne _ _ h1] at e
        rcases hr with z | z
        · rw [z] at e; rw [h2]; exact h.inj _ _ hx hp e
        · obtain ⟨o, e1, _⟩ := h.live x hx; rw [e, z] at e1; cases e1
      · rw [setL_ne _ _ h1, setL_ne _ _ h2] at e
        exact h.inj _ _ hx hy e
  · obtain ⟨dx, e⟩ := h.ob
    refine ⟨dx, ?_⟩
    rw [setL_ne _ _ (by intro z; cases z), setL_ne _ _ (by intro z; cases z)]
    exact kk .hall trivial (by intro z; cases z) (by intro z; cases z) (by intro z; cases z) _ e
  · rw [setL_ne _ _ (by intro z; cases z)]
    have e := kk .pages trivial (by intro z; cases z) (by intro z; cases z) (by intro z; cases z) _ h.pl
    rw [e]
    congr 2
  · by_cases e : j = p
    · subst e
      rw [show setL A (.rdr j) r' (.loan j) = A (.loan j) by simp [setL], show setL A (.rdr j) r' (.asq j) = A (.asq j) by simp [setL], setL_same, setf_same]
      exact P
    · rw [show setL A (.rdr p) r' (.loan j) = A (.loan j) by simp [setL], show setL A (.rdr p) r' (.asq j) = A (.asq j) by simp [setL], show setL A (.rdr p) r' (.rdr j) = A (.rdr j) by simp [setL, e], setf_ne _ _ e]
      exact (h.pg j hj).keep tp (kk (.loan j) hj (by intro z; cases z; exact e rfl) (by intro z; cases z) (by intro z; cases z)) (kk (.rdr j) hj (by intro z; cases z) (by intro z; cases z; exact e rfl) (by intro z; cases z)) (kk (.asq j) hj (by intro z; cases z) (by intro z; cases z) (by intro z; cases z; exact e rfl))
end
/-- what the hall can take -/
def UL.good (g : PG) : UL → Prop
  | .ask _ r => r = .rd ∨ r = .wr
  | .ans _ _ => g.miss - 1 = 0 → g.ask ≠ []
  | .gave _ _ => True
def HOut (CH CP : Addr) (H : Hp) (A : Hb → Addr) (m : Nat) (G : Nat → PG) (p : Nat) (z : PG × List (Nat × Let)) (Q : VK) : Prop :=
  ∀ l A' vs H', H l = none → HallAt CH CP H' A' m (setf G p z.1) → HF H H' A m → (∀ x : Hb, x.ok m → A' x = A x ∨ H (A' x) = none) → (∀ x : Hb, x.ok m → l ≠ A' x) → A' .hall = A .hall → H' l = some (.lst vs) → RepL H' vs (z.2.map pairD) → Q (.ref l) H'
def spHallTake (CH CP : Addr) : Sp := fun vs H Q _ => ∃ A m G b l, ∃ d : Nat, vs = [.ref (A .hall), .int d, .ref b] ∧ HallAt CH CP H A m G ∧ H b = some (.tup (UL.vs l)) ∧ l.pg < m ∧ l.good (G l.pg) ∧ Rw (G l.pg).ask ∧ (G l.pg).mu ≤ 900000 ∧
  HOut CH CP H A m G l.pg ((G l.pg).take l.pg d l) Q
def pg0 (ns : List Int) (p : Nat) : PG := ⟨(ns[p]?).getD 0, none, [], [], 0⟩
def spHallInit (CH CP : Addr) : Sp := fun vs H Q _ => ∃ h dx l, ∃ ns : List Int, vs = [.ref h, .ref l] ∧ H h = some (.ins CH dx []) ∧ H l = some (.lst (ns.map V.int)) ∧ ns.length ≤ 1000 ∧
  ∀ A H', A .hall = h → (∀ x : Hb, x.ok ns.length → x ≠ .hall → H (A x) = none) → HallAt CH CP H' A ns.length (pg0 ns) → (∀ b o, H b = some o → b ≠ h → H' b = some o) → Lv H H' → Q .non H'
end K07
/-! What stays true of the town. -/
namespace K07
open PySem L2
/-! ### sums over the desks -/
/-! ### the whole -/
end K07
/-! Rules whose reading is over K itself (for a comprehension's block) -/
namespace K07
open PySem L2
theorem at0c (x : V) (xs : List V) : atI (x :: xs) 0 = some x := atI_nat (j := 0) rfl
theorem UL.at1 (l : UL) : atI l.vs 1 = some (.int l.pg) := by cases l <;> rfl
theorem range_at {m p : Nat} {f : Nat → V} (h : p < m) : atI ((List.range m).map f) (p : Int) = some (f p) := atI_nat (by rw [List.getElem?_map, List.getElem?_range h]; rfl)
theorem ixR_K {X : Cx} {K : PySem.W.Frag} {r : PySem.W.Frag → R2} (h : IxR X (r X.K)) (e : X.K = K) : IxR X (r K) := e ▸ h
theorem pe_fldK {X : Cx} {K : PySem.W.Frag} {e : Expr} {f : Str} {pos : Pos} {ta : TE} (hK : X.K = K) (he : PE X e ta) (hb : attributeBase e f X.env (eval e X.env) = eval e X.env) : PE X (.Attribute e f pos) (tFld K ta f) := by subst hK; exact pe_fld he hb
theorem pg_tupK {X : Cx} {K : PySem.W.Frag} {pos : Pos} {es : List Expr} {k : Nat} {t : TGs} {n : Nat} (hK : X.K = K) (hc : X.calm = true) (h : PGs X es t)
    (hn : (assignEach es X.env).length = n := by rfl) (hst : (assignEach es X.env).findIdx? (·.1) = none := by rfl) : L2.PG X (.Tuple es k pos) (gTup K n t) := by subst hK; exact pg_tup hc h hn hst
end K07
/-! law k08: the play of desks around the hall, as plain data. -/
namespace K07
open PySem L2
/-! The play of desks around the hall: what the law keeps, and what stays true of it. -/
def view (g : PG) (d : Nat) : Rt := if g.wr = some d then .wr else if d ∈ g.rd then .rd else .no
def dnR (r v : Rt) : Rt := if r = .wr then .no else if v = .wr then .rd else v
def Let.isL : Let → Bool
  | .lend _ _ _ => true
  | .back _ _ => false
def Let.bkp (p : Nat) : Let → Bool
  | .lend _ _ _ => false
  | .back q _ => decide (q = (p : Int))
def Let.form (m : Nat) : Let → Prop
  | .lend q r _ => ∃ p : Nat, q = p ∧ p < m ∧ (r = .rd ∨ r = .wr)
  | .back q r => ∃ p : Nat, q = p ∧ p < m ∧ (r = .rd ∨ r = .no)
def set2 (f : Nat → Nat → Rt) (d p : Nat) (r : Rt) : Nat → Nat → Rt := fun e q => if e = d ∧ q = p then r else f e q
structure PS where
  pg : Nat → PG
  kn : Nat → Nat → Rt
  la : Nat → Int
  aq : Nat → Option (Nat × Rt)
  ro : Nat → List Let
  rt : Nat → Nat → Rt
  wt : Nat → Bool
def PS.put1 (S : PS) (x : Nat × Let) : PS := match x.2 with
  | .lend q r _ => { S with kn := set2 S.kn x.1 q.toNat r, aq := setf S.aq x.1 none, ro := setf S.ro x.1 (S.ro x.1 ++ [x.2]) }
  | .back _ _ => { S with ro := setf S.ro x.1 (S.ro x.1 ++ [x.2]) }
def PS.puts (S : PS) (xs : List (Nat × Let)) : PS := xs.foldl PS.put1 S
def PS.fit (n : Nat) (S : PS) (x : Nat × Let) : Prop := match x.2 with
  | .lend q r k => (∀ d, d < n → d ≠ x.1 → S.kn d q.toNat ≠ .wr ∧ (r = .wr → S.kn d q.toNat ≠ .rd)) ∧ k = S.la q.toNat ∧ S.aq x.1 = some (q.toNat, r)
  | .back _ _ => True
def PS.fits (n m : Nat) : PS → List (Nat × Let) → Prop
  | _, [] => True
  | S, x :: xs => (x.1 < n ∧ x.2.form m) ∧ S.fit n x ∧ PS.fits n m (S.put1 x) xs
def okD (x y : Let) : Prop := ∀ p r r' k, x = .back p r → y ≠ .lend p r' k
structure Base (n m : Nat) (S : PS) : Prop where
  c : ∀ d, (S.ro d).countP Let.isL + (if (S.aq d).isSome then 1 else 0) = if S.wt d then 1 else 0
  a1 : ∀ p d r, (d, r) ∈ (S.pg p).ask → S.aq d = some (p, r)
  a2 : ∀ p d r, S.aq d = some (p, r) → (d, r) ∈ (S.pg p).ask
  a3 : ∀ p, ((S.pg p).ask.map (·.1)).Nodup
  a4 : ∀ d p r, S.aq d = some (p, r) → p < m ∧ d < n ∧ (r = .rd ∨ r = .wr)
  la : ∀ p, S.la p = (S.pg p).num
  k1 : ∀ d (p : Nat) r x, Let.lend p r x ∈ S.ro d → S.kn d p = r
  k2 : ∀ d (p : Nat), (∀ r x, Let.lend p r x ∉ S.ro d) → S.kn d p = S.rt d p
  pd : ∀ d, (S.ro d).Pairwise okD
  lf : ∀ d, ∀ l ∈ S.ro d, d < n ∧ l.form m
  g : ∀ d (p : Nat), S.rt d p = .wr → (∀ r, S.aq d ≠ some (p, r)) ∧ ∀ r x, Let.lend p r x ∉ S.ro d
  wn : ∀ p w, (S.pg p).wr = some w → w < n
  rn : ∀ p d, d ∈ (S.pg p).rd → d < n
  ex : ∀ p, (S.pg p).wr ≠ none → (S.pg p).rd = []
  nd : ∀ p, (S.pg p).rd.Nodup
structure Idle (S : PS) (p : Nat) : Prop where
  ms : (S.pg p).miss = 0
  nb : ∀ d, (S.ro d).countP (Let.bkp p) = 0
  kn : ∀ d, S.kn d p = view (S.pg p) d
structure BusyA (S : PS) (p a : Nat) (r : Rt) (q : List (Nat × Rt)) (b : List Nat) : Prop where
  ak : (S.pg p).ask = (a, r) :: q
  nd : b.Nodup
  ln : (S.pg p).miss = b.length
  ne : b ≠ []
  na : a ∉ b
  nb : ∀ d, (S.ro d).countP (Let.bkp p) = if d ∈ b then 1 else 0
  lo : ∀ d r', Let.back p r' ∈ S.ro d → r' = low r
  kb : ∀ d, d ∈ b ∨ d = a → S.kn d p = view (S.pg p) d
  ko : ∀ d, d ∉ b → d ≠ a → S.kn d p = dnR r (view (S.pg p) d)
def Busy (S : PS) (p : Nat) : Prop := ∃ a r q b, BusyA S p a r q b
def Page (S : PS) (p : Nat) : Prop := ((S.pg p).ask = [] ∧ Idle S p) ∨ Busy S p
structure PInv (n m : Nat) (S : PS) : Prop where
  b : Base n m S
  p : ∀ p, Page S p
theorem set2_same (f : Nat → Nat → Rt) (d p : Nat) (r : Rt) : set2 f d p r d p = r := by simp [set2]
theorem put1_pg (S : PS) (x : Nat × Let) : (S.put1 x).pg = S.pg := by unfold PS.put1; split <;> rfl
theorem put1_with (S : PS) (G : Nat → PG) (x : Nat × Let) : ({ S with pg := G } : PS).put1 x = { S.put1 x with pg := G } := by unfold PS.put1; split <;> rfl
theorem fits_with {n m : Nat} (xs : List (Nat × Let)) : ∀ (S : PS) (G : Nat → PG), PS.fits n m { S with pg := G } xs ↔ PS.fits n m S xs := by
  induction xs with
  | nil => intro S G; rfl
  | cons x xs ih =>
    intro S G
    unfold PS.fits
    rw [put1_with, ih]
    rfl
theorem fits_cons {n m : Nat} {S : PS} {x : Nat × Let} {xs : List (Nat × Let)} : PS.fits n m S (x :: xs) ↔ (x.1 < n ∧ x.2.form m) ∧ S.fit n x ∧ PS.fits n m (S.put1 x) xs := Iff.rfl
theorem puts_cons (S : PS) (x : Nat × Let) (xs : List (Nat × Let)) : S.puts (x :: xs) = (S.put1 x).puts xs := rfl
theorem puts_append (S : PS) (xs ys : List (Nat × Let)) : S.puts (xs ++ ys) = (S.puts xs).puts ys := by simp [PS.puts]
theorem Page.keep {S S' : PS} {q : Nat} (h : Page S q) (e : S'.pg q = S.pg q) (c : ∀ d, (S'.ro d).countP (Let.bkp q) = (S.ro d).countP (Let.bkp q)) (m : ∀ d r, Let.back q r ∈ S'.ro d → Let.back q r ∈ S.ro d) (k : ∀ d, S'.kn d q = S.kn d q) : Page S' q := by
  rcases h with ⟨h1, h2⟩ | ⟨a, r, l, b, h⟩
  · refine .inl ⟨by rw [e]; exact h1, by rw [e]; exact h2.ms, fun d => by rw [c]; exact h2.nb d, fun d => by rw [k, e]; exact h2.kn d⟩
  · exact .inr ⟨a, r, l, b, by rw [e]; exact h.ak, h.nd, by rw [e]; exact h.ln, h.ne, h.na, fun d => by rw [c]; exact h.nb d, fun d r' z => h.lo d r' (m d r' z), fun d z => by rw [k, e]; exact h.kb d z, fun d z z' => by rw [k, e]; exact h.ko d z z'⟩
theorem back_cnt {l : List Let} {p : Nat} (h : l.countP (Let.bkp p) = 0) (r : Rt) : Let.back p r ∉ l := fun z => by
  have := List.countP_eq_zero.mp h _ z
  simp [Let.bkp] at this
theorem lend_cnt {l : List Let} (h : l.countP Let.isL = 0) (p : Int) (r : Rt) (x : Int) : Let.lend p r x ∉ l := fun z => by
  have := List.countP_eq_zero.mp h _ z
  simp [Let.isL] at this
def PG.next (g : PG) (a : Nat) (r : Rt) (q : List (Nat × Rt)) : PG := if r = .wr then letWrite { g with ask := q } a else letRead { g with ask := q } a
theorem lent_next {g : PG} {a : Nat} {r : Rt} {q : List (Nat × Rt)} (h : g.ask = (a, r) :: q) : g.lent = g.next a r q := by unfold PG.lent PG.next; rw [h]
theorem next_ask (g : PG) (a : Nat) (r : Rt) (q : List (Nat × Rt)) : (g.next a r q).ask = q := by unfold PG.next; split <;> rfl
theorem next_num (g : PG) (a : Nat) (r : Rt) (q : List (Nat × Rt)) : (g.next a r q).num = g.num := by unfold PG.next; split <;> rfl
theorem next_miss (g : PG) (a : Nat) (r : Rt) (q : List (Nat × Rt)) : (g.next a r q).miss = g.miss := by unfold PG.next; split <;> rfl
theorem view_next {g : PG} {a : Nat} {r : Rt} {q : List (Nat × Rt)} (hr : r = .rd ∨ r = .wr) (d : Nat) : view (g.next a r q) d = if d = a then r else dnR r (view g d) := by
  obtain ⟨num, wr, rd, ask, miss⟩ := g
  rcases hr with rfl | rfl
  · simp only [PG.next, letRead, view, dnR, if_neg (show ¬ Rt.rd = Rt.wr by simp)]
    cases wr with
    | none => grind
    | some w => grind
  · simp only [PG.next, letWrite, view, dnR, if_true]
    grind
theorem next_ok {g : PG} {n a : Nat} {r : Rt} {q : List (Nat × Rt)} (ha : a < n) (wn : ∀ w, g.wr = some w → w < n) (rn : ∀ d, d ∈ g.rd → d < n) (ex : g.wr ≠ none → g.rd = []) (nd : g.rd.Nodup) :
    (∀ w, (g.next a r q).wr = some w → w < n) ∧ (∀ d, d ∈ (g.next a r q).rd → d < n) ∧ ((g.next a r q).wr ≠ none → (g.next a r q).rd = []) ∧ (g.next a r q).rd.Nodup := by
  by_cases e : r = .wr
  · subst e
    simp only [PG.next, letWrite, if_true]
    refine ⟨fun w h => ?_, fun d h => by simp at h, fun _ => trivial, List.nodup_nil⟩
    injection h with h; omega
  · simp only [PG.next, letRead, if_neg e]
    cases e : g.wr with
    | none => grind
    | some w => have := ex (by rw [e]; simp); grind
/-- a page is lent -/
theorem lend_core {n m p a : Nat} {r : Rt} {q : List (Nat × Rt)} {S : PS} (B : Base n m S) (ms : (S.pg p).miss = 0) (nb : ∀ d, (S.ro d).countP (Let.bkp p) = 0) (ak : (S.pg p).ask = (a, r) :: q)
    (ko : ∀ d, d ≠ a → S.kn d p = dnR r (view (S.pg p) d)) (ot : ∀ x, x ≠ p → Page S x) :
    ((a < n ∧ (Let.lend p r (S.pg p).num).form m) ∧ S.fit n (a, .lend p r (S.pg p).num)) ∧ Base n m { S.put1 (a, .lend p r (S.pg p).num) with pg := setf S.pg p ((S.pg p).next a r q) } ∧
    Idle { S.put1 (a, .lend p r (S.pg p).num) with pg := setf S.pg p ((S.pg p).next a r q) } p ∧ ∀ x, x ≠ p → Page { S.put1 (a, .lend p r (S.pg p).num) with pg := setf S.pg p ((S.pg p).next a r q) } x := by
  have haq : S.aq a = some (p, r) := B.a1 p a r (by rw [ak]; simp)
  obtain ⟨hpm, han, hr⟩ := B.a4 a p r haq
  have hwt : (S.ro a).countP Let.isL = 0 ∧ S.wt a = true := by have := B.c a; rw [haq] at this; grind
  have nl := lend_cnt hwt.1
  have nbk := fun d => back_cnt (nb d)
  have a3 := B.a3 p
  rw [ak, List.map_cons, List.nodup_cons] at a3
  have naq : ∀ d r', (d, r') ∈ q → d ≠ a := fun d r' h z => a3.1 (by rw [← z]; exact List.mem_map.mpr ⟨_, h, rfl⟩)
  have hnx := next_ok (g := S.pg p) (r := r) (q := q) han (B.wn p) (B.rn p) (B.ex p) (B.nd p)
  have e1 : S.put1 (a, .lend p r (S.pg p).num) = { S with kn := set2 S.kn a p r, aq := setf S.aq a none, ro := setf S.ro a (S.ro a ++ [.lend p r (S.pg p).num]) } := rfl
  rw [e1]
  refine ⟨⟨⟨han, p, rfl, hpm, hr⟩, fun d _ hd => ?_, (B.la p).symm, haq⟩, ?_, ?_, fun x hx => ?_⟩
  · have := ko d hd
    simp only [Int.toNat_natCast]
    rw [this]
    unfold dnR
    rcases hr with rfl | rfl
    · simp; split <;> simp_all
    · simp
  · refine ⟨fun d => ?_, fun x d r' => ?_, fun x d r' => ?_, fun x => ?_, fun d x r' => ?_, fun x => ?_, fun d x r' k h => ?_, fun d x h => ?_, fun d => ?_, fun d l h => ?_, fun d x h => ?_, fun x => ?_, fun x => ?_, fun x => ?_, fun x => ?_⟩
    · have := B.c d
      dsimp only [setf]
      by_cases e : d = a
      · subst e; simp [hwt.1, hwt.2, Let.isL]
      · simp only [if_neg e]; exact this
    · dsimp only [setf]
      by_cases e : x = p
      · subst e
        simp only [if_true, next_ask]
        intro h
        rw [if_neg (naq d r' h)]
        exact B.a1 x d r' (by rw [ak]; exact List.mem_cons_of_mem _ h)
      · simp only [if_neg e]
        intro h
        have h1 := B.a1 x d r' h
        rw [if_neg (fun z => by subst z; rw [haq] at h1; injection h1 with h1; injection h1 with h1; exact e h1.symm)]
        exact h1
    · dsimp only [setf]
      intro h
      have hda : d ≠ a := fun z => by rw [if_pos z] at h; cases h
      rw [if_neg hda] at h
      have h1 := B.a2 x d r' h
      by_cases e : x = p
      · subst e
        simp only [if_true, next_ask]
        rw [ak, List.mem_cons] at h1
        rcases h1 with z | z
        · injection z with z1 z2; exact absurd z1 hda
        · exact z
      · simp only [if_neg e]; exact h1
    · dsimp only [setf]
      by_cases e : x = p
      · simp only [if_pos e, next_ask]; exact a3.2
      · simp only [if_neg e]; exact B.a3 x
    · dsimp only [setf]
      intro h
      have hda : d ≠ a := fun z => by rw [if_pos z] at h; cases h
      rw [if_neg hda] at h
      exact B.a4 d x r' h
    · dsimp only [setf]
      by_cases e : x = p
      · simp only [if_pos e, next_num]; rw [e]; exact B.la p
      · simp only [if_neg e]; exact B.la x
    · dsimp only [setf, set2] at h ⊢
      by_cases e : d = a
      · subst e
        simp only [if_true, List.mem_append, List.mem_singleton] at h
        rcases h with h | h
        · exact absurd h (nl _ _ _)
        · injection h with h1 h2 h3
          have : x = p := by omega
          simp [this, h2]
      · rw [if_neg e] at h
        rw [if_neg (fun z => e z.1)]
        exact B.k1 d x r' k h
    · dsimp only [setf, set2] at h ⊢
      by_cases e : d = a
      · subst e
        simp only [if_true] at h
        by_cases e2 : x = p
        · exact absurd (by rw [e2]; simp) (h r (S.pg p).num)
        · rw [if_neg (fun z => e2 z.2)]
          exact B.k2 d x fun r' k z => h r' k (List.mem_append_left _ z)
      · simp only [if_neg e] at h
        rw [if_neg (fun z => e z.1)]
        exact B.k2 d x h
    · dsimp only [setf]
      by_cases e : d = a
      · subst e
        simp only [if_true, List.pairwise_append]
        refine ⟨B.pd d, by simp, fun u hu v hv => ?_⟩
        rw [List.mem_singleton] at hv
        subst hv
        intro p' r1 r2 k e3 e4
        injection e4 with e4 e5 e6
        subst e3
        rw [← e4] at hu
        exact nbk d r1 hu
      · simp only [if_neg e]; exact B.pd d
    · dsimp only [setf] at h
      by_cases e : d = a
      · subst e
        simp only [if_true, List.mem_append, List.mem_singleton] at h
        rcases h with h | h
        · exact B.lf d l h
        · subst h; exact ⟨han, p, rfl, hpm, hr⟩
      · simp only [if_neg e] at h; exact B.lf d l h
    · have := B.g d x h
      dsimp only [setf]
      by_cases e : d = a
      · subst e
        simp only [if_true]
        refine ⟨by simp, fun r' k => ?_⟩
        rw [List.mem_append, List.mem_singleton]
        rintro (z | z)
        · exact nl _ _ _ z
        · injection z with z1 z2 z3
          have : x = p := by omega
          subst this
          exact this.1 r haq
      · simp only [if_neg e]; exact this
    · dsimp only [setf]; by_cases e : x = p
      · simp only [if_pos e]; exact hnx.1
      · simp only [if_neg e]; exact B.wn x
    · dsimp only [setf]; by_cases e : x = p
      · simp only [if_pos e]; exact hnx.2.1
      · simp only [if_neg e]; exact B.rn x
    · dsimp only [setf]; by_cases e : x = p
      · simp only [if_pos e]; exact hnx.2.2.1
      · simp only [if_neg e]; exact B.ex x
    · dsimp only [setf]; by_cases e : x = p
      · simp only [if_pos e]; exact hnx.2.2.2
      · simp only [if_neg e]; exact B.nd x
  · refine ⟨?_, fun d => ?_, fun d => ?_⟩
    · dsimp only [setf]; simp only [if_true, next_miss]; exact ms
    · dsimp only [setf]
      by_cases e : d = a
      · subst e; simp [nb d, Let.bkp]
      · simp only [if_neg e]; exact nb d
    · dsimp only [setf, set2]
      simp only [if_true, view_next hr]
      by_cases e : d = a
      · simp [e]
      · simp [e, ko d e]
  · refine (ot x hx).keep ?_ (fun d => ?_) (fun d r' => ?_) (fun d => ?_)
    · dsimp only [setf]; rw [if_neg hx]
    · dsimp only [setf]
      by_cases e : d = a
      · subst e; simp [Let.bkp]
      · simp only [if_neg e]
    · dsimp only [setf]
      by_cases e : d = a
      · subst e; simp
      · simp only [if_neg e]; exact id
    · dsimp only [set2]; rw [if_neg (fun z => hx z.2)]
def blist (g : PG) (a : Nat) (r : Rt) : List Nat := (g.wr.toList.filter fun d => decide (d ≠ a)) ++ (if r = .wr then g.rd.filter fun d => decide (d ≠ a) else [])
theorem bids_map {g : PG} {p a : Nat} {r : Rt} {q : List (Nat × Rt)} (h : g.ask = (a, r) :: q) : g.bids p = (blist g a r).map fun d => (d, .back p (low r)) := by
  unfold PG.bids blist wBids rBids
  rw [h]
  cases e : g.wr with
  | none => by_cases hr : r = .wr <;> simp [hr, low]
  | some w => by_cases hw : w = a <;> by_cases hr : r = .wr <;> simp [hr, hw, low]
theorem mem_blist {g : PG} {a d : Nat} {r : Rt} : d ∈ blist g a r ↔ d ≠ a ∧ (g.wr = some d ∨ r = .wr ∧ d ∈ g.rd) := by
  unfold blist
  by_cases hr : r = .wr <;> simp [hr] <;> grind
theorem blist_nodup {g : PG} {a : Nat} {r : Rt} (ex : g.wr ≠ none → g.rd = []) (nd : g.rd.Nodup) : (blist g a r).Nodup := by
  unfold blist
  cases e : g.wr with
  | none => by_cases hr : r = .wr <;> simp [hr]; exact nd.filter _
  | some w =>
    rw [ex (by rw [e]; simp)]
    by_cases hr : r = .wr <;> by_cases hw : w = a <;> simp [hr, hw]
theorem puts_backs (p : Int) (l : Rt) : ∀ (b : List Nat) (S : PS), b.Nodup → S.puts (b.map fun d => (d, .back p l)) = { S with ro := fun d => if d ∈ b then S.ro d ++ [.back p l] else S.ro d }
  | [], S, _ => by simp [PS.puts]
  | x :: b, S, h => by
    rw [List.nodup_cons] at h
    rw [List.map_cons, puts_cons, puts_backs p l b _ h.2]
    have : ∀ T U : PS, T.pg = U.pg → T.kn = U.kn → T.la = U.la → T.aq = U.aq → T.ro = U.ro → T.rt = U.rt → T.wt = U.wt → T = U := fun T U a b c d e f g => by cases T; cases U; simp_all
    refine this _ _ rfl rfl rfl rfl ?_ rfl rfl
    funext d
    simp only [PS.put1, setf]
    by_cases e : d = x
    · subst e; simp [h.1]
    · simp [e]
theorem fits_backs {n m : Nat} (p : Nat) (l : Rt) (hp : p < m) (hl : l = .rd ∨ l = .no) : ∀ (b : List Nat) (S : PS), (∀ d ∈ b, d < n) → PS.fits n m S (b.map fun d => (d, .back p l))
  | [], S, _ => trivial
  | x :: b, S, h => ⟨⟨h x (by simp), p, rfl, hp, hl⟩, trivial, fits_backs p l hp hl b _ fun d hd => h d (by simp [hd])⟩
theorem low_rt (r : Rt) : low r = .rd ∨ low r = .no := by unfold low; split <;> simp
theorem bid_core {n m p a : Nat} {r : Rt} {q : List (Nat × Rt)} {S : PS} {b : List Nat} (B : Base n m S) (I : Idle S p) (ak : (S.pg p).ask = (a, r) :: q) (hb : b = blist (S.pg p) a r) (hb0 : b ≠ []) (ot : ∀ x, x ≠ p → Page S x) :
    PInv n m { S with ro := fun d => if d ∈ b then S.ro d ++ [.back p (low r)] else S.ro d, pg := setf S.pg p { S.pg p with miss := b.length } } := by
  have haq : S.aq a = some (p, r) := B.a1 p a r (by rw [ak]; simp)
  obtain ⟨hpm, han, hr⟩ := B.a4 a p r haq
  have mb : ∀ d, d ∈ b ↔ d ≠ a ∧ ((S.pg p).wr = some d ∨ r = .wr ∧ d ∈ (S.pg p).rd) := fun d => by rw [hb]; exact mem_blist
  have ndb : b.Nodup := by rw [hb]; exact blist_nodup (B.ex p) (B.nd p)
  have hbn : ∀ d ∈ b, d < n := fun d hd => by
    rcases ((mb d).mp hd).2 with z | z
    · exact B.wn p d z
    · exact B.rn p d z.2
  have hml : ∀ d x (r' : Rt) k, Let.lend x r' k ∈ (if d ∈ b then S.ro d ++ [.back p (low r)] else S.ro d) ↔ Let.lend x r' k ∈ S.ro d := fun d x r' k => by
    by_cases e : d ∈ b <;> simp [e]
  have hpg : ∀ x, (setf S.pg p { S.pg p with miss := b.length } x).ask = (S.pg x).ask ∧ (setf S.pg p { S.pg p with miss := b.length } x).num = (S.pg x).num ∧ (setf S.pg p { S.pg p with miss := b.length } x).wr = (S.pg x).wr ∧ (setf S.pg p { S.pg p with miss := b.length } x).rd = (S.pg x).rd := fun x => by
    unfold setf
    by_cases e : x = p
    · subst e; simp
    · simp [e]
  constructor
  · refine ⟨fun d => ?_, fun x d r' => ?_, fun x d r' => ?_, fun x => ?_, B.a4, fun x => ?_, fun d x r' k h => ?_, fun d x h => ?_, fun d => ?_, fun d l h => ?_, fun d x h => ?_, fun x => ?_, fun x => ?_, fun x => ?_, fun x => ?_⟩
    · have := B.c d
      dsimp only
      by_cases e : d ∈ b <;> simp [e, Let.isL] <;> simpa using this
    · dsimp only; rw [(hpg x).1]; exact B.a1 x d r'
    · dsimp only; rw [(hpg x).1]; exact B.a2 x d r'
    · dsimp only; rw [(hpg x).1]; exact B.a3 x
    · dsimp only; rw [(hpg x).2.1]; exact B.la x
    · exact B.k1 d x r' k ((hml d x r' k).mp h)
    · exact B.k2 d x fun r' k z => h r' k ((hml d x r' k).mpr z)
    · dsimp only
      by_cases e : d ∈ b
      · rw [if_pos e, List.pairwise_append]
        refine ⟨B.pd d, by simp, fun u hu v hv => ?_⟩
        rw [List.mem_singleton] at hv
        subst hv
        intro p' r1 r2 k e3 e4
        cases e4
      · rw [if_neg e]; exact B.pd d
    · dsimp only at h
      by_cases e : d ∈ b
      · rw [if_pos e, List.mem_append, List.mem_singleton] at h
        rcases h with h | h
        · exact B.lf d l h
        · subst h; exact ⟨hbn d e, p, rfl, hpm, low_rt r⟩
      · rw [if_neg e] at h; exact B.lf d l h
    · have := B.g d x h
      exact ⟨this.1, fun r' k z => this.2 r' k ((hml d x r' k).mp z)⟩
    · dsimp only; rw [(hpg x).2.2.1]; exact B.wn x
    · dsimp only; rw [(hpg x).2.2.2]; exact B.rn x
    · dsimp only; rw [(hpg x).2.2.1, (hpg x).2.2.2]; exact B.ex x
    · dsimp only; rw [(hpg x).2.2.2]; exact B.nd x
  · intro x
    by_cases e : x = p
    · subst e
      have hv : ∀ d, view (setf S.pg x { S.pg x with miss := b.length } x) d = view (S.pg x) d := fun d => by unfold view; rw [(hpg x).2.2.1, (hpg x).2.2.2]
      refine .inr ⟨a, r, q, b, ?_, ndb, ?_, hb0, ?_, fun d => ?_, fun d r' => ?_, fun d hd => ?_, fun d h1 h2 => ?_⟩
      · dsimp only; rw [(hpg x).1]; exact ak
      · dsimp only [setf]; simp
      · intro z; exact ((mb a).mp z).1 rfl
      · dsimp only
        by_cases e : d ∈ b <;> simp [e, I.nb d, Let.bkp]
      · dsimp only
        by_cases e : d ∈ b
        · rw [if_pos e, List.mem_append, List.mem_singleton]
          rintro (z | z)
          · exact absurd z (back_cnt (I.nb d) r')
          · injection z
        · rw [if_neg e]; exact fun z => absurd z (back_cnt (I.nb d) r')
      · dsimp only; rw [hv]; exact I.kn d
      · dsimp only
        rw [hv, I.kn d]
        have h3 : ¬ ((S.pg x).wr = some d ∨ r = .wr ∧ d ∈ (S.pg x).rd) := fun z => h1 ((mb d).mpr ⟨h2, z⟩)
        unfold dnR view
        rcases hr with rfl | rfl
        · grind
        · grind
    · refine (ot x e).keep ?_ (fun d => ?_) (fun d r' => ?_) (fun d => rfl)
      · dsimp only [setf]; rw [if_neg e]
      · dsimp only
        by_cases h : d ∈ b
        · have : ¬ (p : Int) = (x : Int) := by omega
          simp [h, Let.bkp, this]
        · simp [h]
      · dsimp only
        by_cases h : d ∈ b
        · rw [if_pos h, List.mem_append, List.mem_singleton]
          rintro (z | z)
          · exact z
          · injection z with z1 z2; omega
        · rw [if_neg h]; exact id
theorem bids_nil {g : PG} {p a d : Nat} {r : Rt} {q : List (Nat × Rt)} (h : g.ask = (a, r) :: q) (hb : g.bids p = []) (hr : r = .rd ∨ r = .wr) (hd : d ≠ a) : view g d = dnR r (view g d) := by
  have h3 : ¬ ((g.wr = some d) ∨ r = .wr ∧ d ∈ g.rd) := fun z => by
    have : d ∈ blist g a r := mem_blist.mpr ⟨hd, z⟩
    rw [bids_map h, List.map_eq_nil_iff] at hb
    rw [hb] at this; simp at this
  unfold dnR view
  rcases hr with rfl | rfl <;> grind
theorem serve_ok {n m p : Nat} : ∀ (k : Nat) (S : PS), (S.pg p).ask.length ≤ k → Base n m S → Idle S p → (∀ x, x ≠ p → Page S x) →
    PS.fits n m S ((S.pg p).serve p).2 ∧ PInv n m (({ S with pg := setf S.pg p ((S.pg p).serve p).1 } : PS).puts ((S.pg p).serve p).2)
  | k, S, hk, B, I, ot => by
    cases ha : (S.pg p).ask with
    | nil =>
      rw [serve_nil ha]
      refine ⟨trivial, ?_⟩
      have : ({ S with pg := setf S.pg p (S.pg p) } : PS).puts [] = S := by show ({ S with pg := setf S.pg p (S.pg p) } : PS) = S; rw [setf_eq]
      dsimp only
      rw [this]
      refine ⟨B, fun x => ?_⟩
      by_cases e : x = p
      · subst e; exact .inl ⟨ha, I⟩
      · exact ot x e
    | cons y q =>
      obtain ⟨a, r⟩ := y
      have haq : S.aq a = some (p, r) := B.a1 p a r (by rw [ha]; simp)
      obtain ⟨hpm, han, hr⟩ := B.a4 a p r haq
      by_cases hb : (S.pg p).bids p = []
      · rw [serve_lend (by rw [ha]; simp) hb, lent_next ha]
        obtain ⟨⟨f1, f2⟩, B', I', ot'⟩ := lend_core (q := q) B I.ms I.nb ha (fun d hd => by rw [I.kn d]; exact bids_nil ha hb hr hd) ot
        have l1 : (S.pg p).lend1 p = [(a, .lend p r (S.pg p).num)] := by unfold PG.lend1; rw [ha]
        rw [l1]
        cases k with
        | zero => rw [ha] at hk; simp at hk
        | succ k =>
          have := serve_ok k _ (by dsimp only; rw [setf_same, next_ask]; rw [ha] at hk; simpa using hk) B' I' ot'
          dsimp only at this ⊢
          rw [setf_same] at this
          rw [List.singleton_append, fits_cons, puts_cons]
          refine ⟨⟨f1, f2, (fits_with _ _ _).mp this.1⟩, ?_⟩
          rw [setf_setf] at this
          rw [put1_with]
          exact this.2
      · rw [serve_bid (by rw [ha]; simp) hb, bids_map ha]
        have hb0 : blist (S.pg p) a r ≠ [] := fun z => hb (by rw [bids_map ha, z]; rfl)
        have J := bid_core B I ha rfl hb0 ot
        refine ⟨fits_backs p _ hpm (low_rt r) _ _ fun d hd => ?_, ?_⟩
        · rcases (mem_blist.mp hd).2 with z | z
          · exact B.wn p d z
          · exact B.rn p d z.2
        · dsimp only
          rw [puts_backs _ _ _ _ (blist_nodup (B.ex p) (B.nd p)), List.length_map]
          exact J
theorem PInv.road {n m d : Nat} {S : PS} {l : Let} {rest : List Let} (h : PInv n m S) (e : S.ro d = l :: rest) : d < n ∧ l.form m := h.b.lf d l (by rw [e]; simp)
/-- a page lent is taken off the road -/
def PS.tLend (S : PS) (d p : Nat) (r : Rt) (rest : List Let) : PS := { S with ro := setf S.ro d rest, rt := set2 S.rt d p r, wt := setf S.wt d false }
theorem step_lend {n m d p : Nat} {S : PS} {r : Rt} {x : Int} {rest : List Let} (h : PInv n m S) (e : S.ro d = .lend p r x :: rest) : PInv n m (S.tLend d p r rest) := by
  obtain ⟨B, Pg⟩ := h
  have hc := B.c d
  rw [e, List.countP_cons] at hc
  simp only [Let.isL, if_true] at hc
  have hwt : S.wt d = true := by cases z : S.wt d with
    | true => rfl
    | false => rw [z] at hc; simp at hc
  have haq : S.aq d = none := by cases z : S.aq d with
    | none => rfl
    | some y => rw [z, hwt] at hc; simp at hc
  have hrest : rest.countP Let.isL = 0 := by rw [haq, hwt] at hc; simp at hc; exact List.countP_eq_zero.mpr (by simpa using hc)
  have nl := lend_cnt hrest
  have hk := B.k1 d p r x (by rw [e]; simp)
  unfold PS.tLend
  constructor
  · refine ⟨fun d' => ?_, B.a1, B.a2, B.a3, B.a4, B.la, fun d' x' r' k h => ?_, fun d' x' h => ?_, fun d' => ?_, fun d' l h => ?_, fun d' x' h => ?_, B.wn, B.rn, B.ex, B.nd⟩
    · dsimp only [setf]
      by_cases z : d' = d
      · subst z; simp [hrest, haq]
      · simp only [if_neg z]; exact B.c d'
    · dsimp only [setf] at h ⊢
      by_cases z : d' = d
      · subst z; rw [if_pos rfl] at h; exact absurd h (nl _ _ _)
      · rw [if_neg z] at h; exact B.k1 d' x' r' k h
    · dsimp only [setf, set2] at h ⊢
      by_cases z : d' = d
      · subst z
        by_cases z2 : x' = p
        · subst z2; simp [hk]
        · rw [if_neg (fun q => z2 q.2)]
          refine B.k2 d' x' fun r' k q => ?_
          rw [e, List.mem_cons] at q
          rcases q with q | q
          · injection q with q1 q2 q3; omega
          · exact nl _ _ _ q
      · simp only [if_neg z] at h
        rw [if_neg (fun q => z q.1)]
        exact B.k2 d' x' h
    · dsimp only [setf]
      by_cases z : d' = d
      · subst z; have := B.pd d'; rw [e, List.pairwise_cons] at this; simp only [if_true]; exact this.2
      · simp only [if_neg z]; exact B.pd d'
    · dsimp only [setf] at h
      by_cases z : d' = d
      · subst z; rw [if_pos rfl] at h; exact B.lf d' l (by rw [e]; exact List.mem_cons_of_mem _ h)
      · rw [if_neg z] at h; exact B.lf d' l h
    · dsimp only [setf, set2] at h ⊢
      by_cases z : d' = d
      · subst z; refine ⟨fun r' => by rw [haq]; simp, fun r' k => ?_⟩; rw [if_pos rfl]; exact nl _ _ _
      · rw [if_neg (fun q => z q.1)] at h
        rw [if_neg z]; exact B.g d' x' h
  · refine fun q => (Pg q).keep rfl (fun d' => ?_) (fun d' r' => ?_) (fun d' => rfl)
    · dsimp only [setf]
      by_cases z : d' = d
      · subst z; rw [if_pos rfl, e, List.countP_cons]; simp [Let.bkp]
      · rw [if_neg z]
    · dsimp only [setf]
      by_cases z : d' = d
      · subst z; rw [if_pos rfl, e]; exact fun q => List.mem_cons_of_mem _ q
      · rw [if_neg z]; exact id
/-- the hall takes a letter -/
def PS.hall (S : PS) (p d : Nat) (l : UL) : PS := ({ S with pg := setf S.pg p ((S.pg p).take p d l).1 } : PS).puts ((S.pg p).take p d l).2
def PS.tAsk (S : PS) (d p : Nat) (r : Rt) : PS := { S with wt := setf S.wt d true, aq := setf S.aq d (some (p, r)) }
theorem step_ask {n m d p : Nat} {S : PS} {r : Rt} (h : PInv n m S) (hd : d < n) (hp : p < m) (hw : S.wt d = false) (hrt : S.rt d p ≠ .wr) (hr : r = .rd ∨ r = .wr) :
    PS.fits n m (S.tAsk d p r) ((S.pg p).take p d (.ask p r)).2 ∧ PInv n m ((S.tAsk d p r).hall p d (.ask p r)) := by
  obtain ⟨B, Pg⟩ := h
  have hc := B.c d
  rw [hw] at hc
  have haq : S.aq d = none := by cases z : S.aq d with
    | none => rfl
    | some y => rw [z] at hc; simp at hc
  have hl0 : (S.ro d).countP Let.isL = 0 := by rw [haq] at hc; simpa using hc
  have nl := lend_cnt hl0
  have nq : ∀ x r', (d, r') ∉ (S.pg x).ask := fun x r' z => by have := B.a1 x d r' z; rw [haq] at this; cases this
  -- the state with the ask in the row
  have e0 : ∀ G : PG, ({ S.tAsk d p r with pg := setf S.pg p G } : PS).pg p = G := fun G => setf_same _ _ _
  have hpg : ∀ x, (setf S.pg p { S.pg p with ask := (S.pg p).ask ++ [(d, r)] } x).num = (S.pg x).num ∧ (setf S.pg p { S.pg p with ask := (S.pg p).ask ++ [(d, r)] } x).wr = (S.pg x).wr ∧ (setf S.pg p { S.pg p with ask := (S.pg p).ask ++ [(d, r)] } x).rd = (S.pg x).rd ∧ (setf S.pg p { S.pg p with ask := (S.pg p).ask ++ [(d, r)] } x).miss = (S.pg x).miss ∧ (setf S.pg p { S.pg p with ask := (S.pg p).ask ++ [(d, r)] } x).ask = if x = p then (S.pg p).ask ++ [(d, r)] else (S.pg x).ask := fun x => by
    unfold setf
    by_cases e : x = p
    · subst e; simp
    · simp [e]
  have B2 : Base n m { S.tAsk d p r with pg := setf S.pg p { S.pg p with ask := (S.pg p).ask ++ [(d, r)] } } := by
    refine ⟨fun d' => ?_, fun x d' r' => ?_, fun x d' r' => ?_, fun x => ?_, fun d' x r' => ?_, fun x => ?_, B.k1, B.k2, B.pd, B.lf, fun d' x h => ?_, fun x => ?_, fun x => ?_, fun x => ?_, fun x => ?_⟩
    · dsimp only [PS.tAsk, setf]
      by_cases z : d' = d
      · subst z; simp [hl0]
      · simp only [if_neg z]; exact B.c d'
    · dsimp only [PS.tAsk]
      rw [(hpg x).2.2.2.2]
      unfold setf
      by_cases e : x = p
      · subst e
        rw [if_pos rfl, List.mem_append, List.mem_singleton]
        rintro (z | z)
        · rw [if_neg (fun q : d' = d => nq x r' (by rw [← q]; exact z))]; exact B.a1 x d' r' z
        · injection z with z1 z2; subst z1; subst z2; simp
      · rw [if_neg e]
        intro z
        rw [if_neg (fun q : d' = d => nq x r' (by rw [← q]; exact z))]; exact B.a1 x d' r' z
    · dsimp only [PS.tAsk]
      rw [(hpg x).2.2.2.2]
      unfold setf
      by_cases z : d' = d
      · subst z
        simp only [if_true]
        intro q
        injection q with q
        injection q with q1 q2
        subst q1; subst q2
        simp
      · simp only [if_neg z]
        intro q
        have := B.a2 x d' r' q
        by_cases e : x = p
        · subst e; rw [if_pos rfl]; exact List.mem_append_left _ this
        · rw [if_neg e]; exact this
    · dsimp only [PS.tAsk]
      rw [(hpg x).2.2.2.2]
      by_cases e : x = p
      · subst e
        rw [if_pos rfl, List.map_append, List.nodup_append]
        refine ⟨B.a3 x, by simp, fun u hu v hv z => ?_⟩
        simp only [List.map_cons, List.map_nil, List.mem_singleton] at hv
        subst hv; subst z
        obtain ⟨⟨y, r'⟩, hy, e⟩ := List.mem_map.mp hu
        dsimp only at e
        subst e
        exact nq x r' hy
      · rw [if_neg e]; exact B.a3 x
    · dsimp only [PS.tAsk, setf]
      by_cases z : d' = d
      · subst z
        simp only [if_true]
        intro q
        injection q with q
        injection q with q1 q2
        subst q1; subst q2
        exact ⟨hp, hd, hr⟩
      · simp only [if_neg z]; exact B.a4 d' x r'
    · dsimp only [PS.tAsk]; rw [(hpg x).1]; exact B.la x
    · have := B.g d' x h
      dsimp only [PS.tAsk, setf] at h ⊢
      by_cases z : d' = d
      · subst z
        refine ⟨fun r' q => ?_, this.2⟩
        rw [if_pos rfl] at q
        injection q with q
        injection q with q1 q2
        subst q1
        exact hrt h
      · rw [if_neg z]; exact this
    · dsimp only [PS.tAsk]; rw [(hpg x).2.1]; exact B.wn x
    · dsimp only [PS.tAsk]; rw [(hpg x).2.2.1]; exact B.rn x
    · dsimp only [PS.tAsk]; rw [(hpg x).2.1, (hpg x).2.2.1]; exact B.ex x
    · dsimp only [PS.tAsk]; rw [(hpg x).2.2.1]; exact B.nd x
  have ot : ∀ x, x ≠ p → Page { S.tAsk d p r with pg := setf S.pg p { S.pg p with ask := (S.pg p).ask ++ [(d, r)] } } x := fun x hx =>
    (Pg x).keep (by dsimp only [PS.tAsk, setf]; rw [if_neg hx]) (fun _ => rfl) (fun _ _ z => z) (fun _ => rfl)
  have hv : ∀ d', view (setf S.pg p { S.pg p with ask := (S.pg p).ask ++ [(d, r)] } p) d' = view (S.pg p) d' := fun d' => by unfold view; rw [(hpg p).2.1, (hpg p).2.2.1]
  rcases Pg p with ⟨ha, I⟩ | ⟨a, r0, q, b, h⟩
  · have I2 : Idle { S.tAsk d p r with pg := setf S.pg p { S.pg p with ask := (S.pg p).ask ++ [(d, r)] } } p := by
      refine ⟨?_, I.nb, fun d' => ?_⟩
      · dsimp only; rw [(hpg p).2.2.2.1]; exact I.ms
      · dsimp only [PS.tAsk]; rw [hv]; exact I.kn d'
    have := serve_ok _ _ (Nat.le_refl _) B2 I2 ot
    dsimp only [PS.tAsk] at this
    rw [setf_same, setf_setf, ha, List.nil_append] at this
    unfold PS.hall
    dsimp only [PG.take, PS.tAsk]
    rw [if_pos ha]
    exact ⟨(fits_with _ _ _).mp this.1, this.2⟩
  · have hne : ¬ (S.pg p).ask = [] := by rw [h.ak]; simp
    unfold PS.hall
    dsimp only [PG.take, PS.tAsk]
    rw [if_neg hne]
    refine ⟨trivial, B2, fun x => ?_⟩
    by_cases e : x = p
    · subst e
      refine .inr ⟨a, r0, q ++ [(d, r)], b, ?_, h.nd, ?_, h.ne, h.na, h.nb, h.lo, fun d' z => ?_, fun d' z1 z2 => ?_⟩
      · show (setf S.pg x { S.pg x with ask := (S.pg x).ask ++ [(d, r)] } x).ask = _
        rw [(hpg x).2.2.2.2, if_pos rfl, h.ak, List.cons_append]
      · show (setf S.pg x { S.pg x with ask := (S.pg x).ask ++ [(d, r)] } x).miss = _
        rw [(hpg x).2.2.2.1]; exact h.ln
      · show S.kn d' x = view (setf S.pg x { S.pg x with ask := (S.pg x).ask ++ [(d, r)] } x) d'
        rw [hv]; exact h.kb d' z
      · show S.kn d' x = dnR r0 (view (setf S.pg x { S.pg x with ask := (S.pg x).ask ++ [(d, r)] } x) d')
        rw [hv]; exact h.ko d' z1 z2
    · exact ot x e
/-- a page is given up -/
def PS.tGave (S : PS) (d p : Nat) (x : Int) : PS := { S with rt := set2 S.rt d p .no, la := setf S.la p x, kn := set2 S.kn d p .no }
theorem step_gave {n m d p : Nat} {S : PS} (x : Int) (h : PInv n m S) (hrt : S.rt d p = .wr) :
    PInv n m ((S.tGave d p x).hall p d (.gave p x)) := by
  obtain ⟨B, Pg⟩ := h
  obtain ⟨g1, g2⟩ := B.g d p hrt
  have hk : S.kn d p = .wr := (B.k2 d p g2).trans hrt
  have hw : (S.pg p).wr = some d := by
    have : view (S.pg p) d = .wr := by
      rcases Pg p with ⟨ha, I⟩ | ⟨a, r0, q, b, h⟩
      · rw [← I.kn d]; exact hk
      · by_cases z : d ∈ b ∨ d = a
        · rw [← h.kb d z]; exact hk
        · have := h.ko d (fun q => z (.inl q)) (fun q => z (.inr q))
          rw [hk] at this
          unfold dnR at this
          split at this
          · cases this
          · split at this
            · cases this
            · rw [← this]
    unfold view at this
    split at this
    · assumption
    · split at this <;> cases this
  have hrd : (S.pg p).rd = [] := B.ex p (by rw [hw]; simp)
  have e1 : (S.tGave d p x).hall p d (.gave p x) = { S.tGave d p x with pg := setf S.pg p { S.pg p with num := x, wr := none } } := by
    unfold PS.hall
    dsimp only [PG.take, PS.tGave]
    rw [if_pos hw]
    rfl
  rw [e1]
  have hpg : ∀ y, (setf S.pg p { S.pg p with num := x, wr := none } y).ask = (S.pg y).ask ∧ (setf S.pg p { S.pg p with num := x, wr := none } y).miss = (S.pg y).miss ∧ (setf S.pg p { S.pg p with num := x, wr := none } y).rd = (S.pg y).rd := fun y => by
    unfold setf
    by_cases e : y = p
    · subst e; simp
    · simp [e]
  have hv : ∀ d', view (setf S.pg p { S.pg p with num := x, wr := none } p) d' = .no := fun d' => by unfold view; rw [setf_same]; dsimp only; rw [hrd]; simp
  have hv0 : ∀ d', d' ≠ d → view (S.pg p) d' = .no := fun d' z => by unfold view; rw [hw, hrd]; simp; exact fun q => z q.symm
  constructor
  · refine ⟨B.c, fun y d' r' => ?_, fun y d' r' => ?_, fun y => ?_, B.a4, fun y => ?_, fun d' y r' k hl => ?_, fun d' y hl => ?_, B.pd, B.lf, fun d' y z => ?_, fun y => ?_, fun y => ?_, fun y => ?_, fun y => ?_⟩
    · dsimp only [PS.tGave]; rw [(hpg y).1]; exact B.a1 y d' r'
    · dsimp only [PS.tGave]; rw [(hpg y).1]; exact B.a2 y d' r'
    · dsimp only [PS.tGave]; rw [(hpg y).1]; exact B.a3 y
    · dsimp only [PS.tGave, setf]
      by_cases e : y = p
      · subst e; simp
      · simp only [if_neg e]; exact B.la y
    · dsimp only [PS.tGave, set2] at hl ⊢
      rw [if_neg (fun z => by obtain ⟨z1, z2⟩ := z; subst z1; subst z2; exact g2 _ _ hl)]
      exact B.k1 d' y r' k hl
    · dsimp only [PS.tGave, set2] at hl ⊢
      by_cases z : d' = d ∧ y = p
      · rw [if_pos z, if_pos z]
      · rw [if_neg z, if_neg z]; exact B.k2 d' y hl
    · dsimp only [PS.tGave, set2] at z ⊢
      by_cases q : d' = d ∧ y = p
      · rw [if_pos q] at z; cases z
      · rw [if_neg q] at z; exact B.g d' y z
    · dsimp only [PS.tGave, setf]
      by_cases e : y = p
      · simp [e]
      · simp only [if_neg e]; exact B.wn y
    · dsimp only [PS.tGave]; rw [(hpg y).2.2]; exact B.rn y
    · dsimp only [PS.tGave, setf]
      by_cases e : y = p
      · simp [e]
      · simp only [if_neg e]; exact B.ex y
    · dsimp only [PS.tGave]; rw [(hpg y).2.2]; exact B.nd y
  · intro y
    by_cases e : y = p
    · subst e
      have hkn : ∀ d', (S.tGave d y x).kn d' y = if d' = d then .no else S.kn d' y := fun d' => by dsimp only [PS.tGave, set2]; by_cases z : d' = d <;> simp [z]
      rcases Pg y with ⟨ha, I⟩ | ⟨a, r0, q, b, h⟩
      · refine .inl ⟨?_, ?_, I.nb, fun d' => ?_⟩
        · dsimp only; rw [(hpg y).1]; exact ha
        · dsimp only; rw [(hpg y).2.1]; exact I.ms
        · dsimp only
          rw [hv, hkn]
          by_cases z : d' = d
          · rw [if_pos z]
          · rw [if_neg z, I.kn d']; exact hv0 d' z
      · refine .inr ⟨a, r0, q, b, ?_, h.nd, ?_, h.ne, h.na, h.nb, h.lo, fun d' z => ?_, fun d' z1 z2 => ?_⟩
        · dsimp only; rw [(hpg y).1]; exact h.ak
        · dsimp only; rw [(hpg y).2.1]; exact h.ln
        · dsimp only
          rw [hv, hkn]
          by_cases z' : d' = d
          · rw [if_pos z']
          · rw [if_neg z', h.kb d' z]; exact hv0 d' z'
        · dsimp only
          rw [hv, hkn]
          have e3 : dnR r0 .no = .no := by unfold dnR; split <;> simp
          rw [e3]
          by_cases z' : d' = d
          · rw [if_pos z']
          · rw [if_neg z', h.ko d' z1 z2, hv0 d' z', e3]
    · refine (Pg y).keep ?_ (fun _ => rfl) (fun _ _ z => z) (fun d' => ?_)
      · dsimp only [PS.tGave, setf]; rw [if_neg e]
      · dsimp only [PS.tGave, set2]; rw [if_neg (fun z => e z.2)]
/-- a bid is taken off the road and answered -/
def PS.tBack (S : PS) (d p : Nat) (l : Rt) (x : Int) (rest : List Let) : PS := { S with ro := setf S.ro d rest, rt := set2 S.rt d p (if S.rt d p = .wr ∨ l = .no then l else S.rt d p), la := if S.rt d p = .wr then setf S.la p x else S.la, kn := set2 S.kn d p (if l = .no ∨ S.kn d p = .wr then l else S.kn d p) }
def PS.told (S : PS) (d p : Nat) (x : Int) : Option Int := if S.rt d p = .wr then some x else none
theorem step_back {n m d p : Nat} {S : PS} {l : Rt} (x : Int) {rest : List Let} (h : PInv n m S) (e : S.ro d = .back p l :: rest) :
    PS.fits n m (S.tBack d p l x rest) ((S.pg p).take p d (.ans p (S.told d p x))).2 ∧ PInv n m ((S.tBack d p l x rest).hall p d (.ans p (S.told d p x))) ∧ ((S.pg p).miss - 1 = 0 → (S.pg p).ask ≠ []) ∧ S.kn d p = S.rt d p := by
  obtain ⟨B, Pg⟩ := h
  have hpd := B.pd d
  rw [e, List.pairwise_cons] at hpd
  have nlr : ∀ r k, Let.lend p r k ∉ rest := fun r k z => hpd.1 _ z p l r k rfl rfl
  have nl : ∀ r k, Let.lend p r k ∉ S.ro d := fun r k z => by
    rw [e, List.mem_cons] at z
    rcases z with z | z
    · cases z
    · exact nlr r k z
  have hkr := B.k2 d p nl
  obtain ⟨a, r, q, b, h⟩ : Busy S p := by
    rcases Pg p with ⟨ha, I⟩ | h
    · exact absurd (by rw [e]; simp) (back_cnt (I.nb d) l)
    · exact h
  have hlo : l = low r := h.lo d l (by rw [e]; simp)
  have haq : S.aq a = some (p, r) := B.a1 p a r (by rw [h.ak]; simp)
  obtain ⟨hpm, han, hr⟩ := B.a4 a p r haq
  have hnb := h.nb d
  rw [e, List.countP_cons] at hnb
  simp only [Let.bkp, decide_true, if_true] at hnb
  have hdb : d ∈ b := by
    by_cases z : d ∈ b
    · exact z
    · rw [if_neg z] at hnb; omega
  have hr0 : rest.countP (Let.bkp p) = 0 := by rw [if_pos hdb] at hnb; omega
  have hda : d ≠ a := fun z => h.na (z ▸ hdb)
  have hkd : S.kn d p = view (S.pg p) d := h.kb d (.inl hdb)
  have me : ∀ d', d' ∈ b.erase d ↔ d' ≠ d ∧ d' ∈ b := fun d' => h.nd.mem_erase_iff
  have lb : 0 < b.length := List.length_pos_iff.mpr h.ne
  have le : (b.erase d).length = b.length - 1 := List.length_erase_of_mem hdb
  have hml := h.ln
  -- what it comes to is the same formula on both sides
  have hkn : ∀ d', (S.tBack d p l x rest).kn d' p = if d' = d then dnR r (view (S.pg p) d) else S.kn d' p := fun d' => by
    dsimp only [PS.tBack, set2]
    by_cases z : d' = d
    · subst z
      simp only [true_and, if_true]
      rw [hkd, hlo]
      unfold dnR low
      rcases hr with rfl | rfl
      · by_cases v : view (S.pg p) d' = .wr <;> simp [v]
      · simp
    · simp [z]
  have G0 : ∀ ms : Int, Base n m { S.tBack d p l x rest with pg := setf S.pg p { S.pg p with num := (S.told d p x).getD (S.pg p).num, miss := ms } } := fun ms => by
    have hpg : ∀ y, (setf S.pg p { S.pg p with num := (S.told d p x).getD (S.pg p).num, miss := ms } y).ask = (S.pg y).ask ∧ (setf S.pg p { S.pg p with num := (S.told d p x).getD (S.pg p).num, miss := ms } y).wr = (S.pg y).wr ∧ (setf S.pg p { S.pg p with num := (S.told d p x).getD (S.pg p).num, miss := ms } y).rd = (S.pg y).rd := fun y => by
      unfold setf
      by_cases e : y = p
      · subst e; simp
      · simp [e]
    refine ⟨fun d' => ?_, fun y d' r' => ?_, fun y d' r' => ?_, fun y => ?_, B.a4, fun y => ?_, fun d' y r' k hl => ?_, fun d' y hl => ?_, fun d' => ?_, fun d' l' hl => ?_, fun d' y z => ?_, fun y => ?_, fun y => ?_, fun y => ?_, fun y => ?_⟩
    · dsimp only [PS.tBack, setf]
      by_cases z : d' = d
      · subst z
        have := B.c d'
        rw [e, List.countP_cons] at this
        simp only [Let.isL, Bool.false_eq_true, if_false, Nat.add_zero] at this
        simp only [if_true]
        exact this
      · simp only [if_neg z]; exact B.c d'
    · dsimp only [PS.tBack]; rw [(hpg y).1]; exact B.a1 y d' r'
    · dsimp only [PS.tBack]; rw [(hpg y).1]; exact B.a2 y d' r'
    · dsimp only [PS.tBack]; rw [(hpg y).1]; exact B.a3 y
    · dsimp only [PS.tBack, PS.told]
      have := B.la y
      by_cases z : S.rt d p = .wr
      · simp only [if_pos z, setf]
        by_cases e : y = p
        · simp [e]
        · simp only [if_neg e]; exact this
      · simp only [if_neg z, setf]
        by_cases e : y = p
        · subst e; simp [this]
        · simp only [if_neg e]; exact this
    · dsimp only [PS.tBack, set2, setf] at hl ⊢
      by_cases z : d' = d
      · subst z
        rw [if_pos rfl] at hl
        have hy : y ≠ p := fun q => nlr r' k (by rw [← q]; exact hl)
        rw [if_neg (fun q => hy q.2)]
        exact B.k1 d' y r' k (by rw [e]; exact List.mem_cons_of_mem _ hl)
      · rw [if_neg z] at hl
        rw [if_neg (fun q => z q.1)]
        exact B.k1 d' y r' k hl
    · dsimp only [PS.tBack, set2, setf] at hl ⊢
      by_cases z : d' = d
      · subst z
        simp only [if_true] at hl
        by_cases z2 : y = p
        · subst z2
          simp only [true_and, if_true]
          rw [hkr]
          by_cases u : l = .no <;> by_cases v : S.rt d' y = .wr <;> simp [u, v]
        · rw [if_neg (fun q => z2 q.2), if_neg (fun q => z2 q.2)]
          refine B.k2 d' y fun r' k q => hl r' k ?_
          rw [e, List.mem_cons] at q
          rcases q with q | q
          · cases q
          · exact q
      · simp only [if_neg z] at hl
        rw [if_neg (fun q => z q.1), if_neg (fun q => z q.1)]
        exact B.k2 d' y hl
    · dsimp only [PS.tBack, setf]
      by_cases z : d' = d
      · subst z; simp only [if_true]; exact hpd.2
      · simp only [if_neg z]; exact B.pd d'
    · dsimp only [PS.tBack, setf] at hl
      by_cases z : d' = d
      · subst z; rw [if_pos rfl] at hl; exact B.lf d' l' (by rw [e]; exact List.mem_cons_of_mem _ hl)
      · rw [if_neg z] at hl; exact B.lf d' l' hl
    · dsimp only [PS.tBack, set2, setf] at z ⊢
      have hz : S.rt d' y = .wr := by
        by_cases q : d' = d ∧ y = p
        · rw [if_pos q] at z
          obtain ⟨q1, q2⟩ := q
          subst q1; subst q2
          by_cases v : S.rt d' y = .wr
          · exact v
          · rcases low_rt r with u | u
            · rw [hlo, u] at z; simp [v] at z
            · rw [hlo, u] at z; simp at z
        · rw [if_neg q] at z; exact z
      have := B.g d' y hz
      refine ⟨this.1, fun r' k q => this.2 r' k ?_⟩
      by_cases z' : d' = d
      · subst z'; rw [if_pos rfl] at q; rw [e]; exact List.mem_cons_of_mem _ q
      · rw [if_neg z'] at q; exact q
    · dsimp only [PS.tBack]; rw [(hpg y).2.1]; exact B.wn y
    · dsimp only [PS.tBack]; rw [(hpg y).2.2]; exact B.rn y
    · dsimp only [PS.tBack]; rw [(hpg y).2.1, (hpg y).2.2]; exact B.ex y
    · dsimp only [PS.tBack]; rw [(hpg y).2.2]; exact B.nd y
  have ot : ∀ (G : PG) y, y ≠ p → Page { S.tBack d p l x rest with pg := setf S.pg p G } y := fun G y hy => by
    refine (Pg y).keep ?_ (fun d' => ?_) (fun d' r' => ?_) (fun d' => ?_)
    · dsimp only [PS.tBack, setf]; rw [if_neg hy]
    · dsimp only [PS.tBack, setf]
      by_cases z : d' = d
      · subst z
        have : ¬ (p : Int) = (y : Int) := by omega
        rw [if_pos rfl, e, List.countP_cons]; simp [Let.bkp, this]
      · rw [if_neg z]
    · dsimp only [PS.tBack, setf]
      by_cases z : d' = d
      · subst z; rw [if_pos rfl, e]; exact fun q => List.mem_cons_of_mem _ q
      · rw [if_neg z]; exact id
    · dsimp only [PS.tBack, set2]; rw [if_neg (fun q => hy q.2)]
  have hv : ∀ (ms : Int) d', view (setf S.pg p { S.pg p with num := (S.told d p x).getD (S.pg p).num, miss := ms } p) d' = view (S.pg p) d' := fun ms d' => by unfold view; rw [setf_same]
  have hnb' : ∀ d', ((S.tBack d p l x rest).ro d').countP (Let.bkp p) = if d' ∈ b.erase d then 1 else 0 := fun d' => by
    dsimp only [PS.tBack, setf]
    by_cases z : d' = d
    · subst z
      rw [if_pos rfl, hr0, if_neg (fun q => ((me d').mp q).1 rfl)]
    · rw [if_neg z, h.nb d']
      by_cases q : d' ∈ b
      · rw [if_pos q, if_pos ((me d').mpr ⟨z, q⟩)]
      · rw [if_neg q, if_neg (fun u => q ((me d').mp u).2)]
  have hko : ∀ d', d' ∉ b.erase d → d' ≠ a → (S.tBack d p l x rest).kn d' p = dnR r (view (S.pg p) d') := fun d' z1 z2 => by
    rw [hkn]
    by_cases z : d' = d
    · rw [if_pos z, z]
    · rw [if_neg z]; exact h.ko d' (fun u => z1 ((me d').mpr ⟨z, u⟩)) z2
  have hane : (S.pg p).ask ≠ [] := by rw [h.ak]; simp
  refine ⟨?_, ?_, fun _ => hane, hkr⟩
  all_goals
    by_cases hm : (S.pg p).miss - 1 = 0
    · have hbe : b.erase d = [] := List.length_eq_zero_iff.mp (by omega)
      have L := lend_core (p := p) (a := a) (r := r) (q := q) (G0 0) (by dsimp only; rw [setf_same]) (fun d' => by rw [hnb', hbe]; simp) (by dsimp only; rw [setf_same]; exact h.ak) (fun d' z => by dsimp only; rw [hv]; exact hko d' (by rw [hbe]; simp) z) (ot _)
      obtain ⟨⟨f1, f2⟩, B', I', ot'⟩ := L
      have W := serve_ok _ _ (Nat.le_refl _) B' I' ot'
      have e5 : (S.tBack d p l x rest).pg = S.pg := rfl
      have e6 : PG.lend1 { S.pg p with num := (S.told d p x).getD (S.pg p).num, miss := 0 } p = [(a, .lend p r ((S.told d p x).getD (S.pg p).num))] := by unfold PG.lend1; dsimp only; rw [h.ak]
      have e7 : PG.lent { S.pg p with num := (S.told d p x).getD (S.pg p).num, miss := 0 } = PG.next { S.pg p with num := (S.told d p x).getD (S.pg p).num, miss := 0 } a r q := lent_next (by exact h.ak)
      (try unfold PS.hall); unfold PG.take
      dsimp only at W f1 f2 ⊢
      simp only [setf_same, setf_setf, put1_with] at W f1 f2
      rw [e5] at *
      simp only [hm, if_true, e6, e7, List.singleton_append]
      first
        | (rw [fits_cons]; exact ⟨f1, f2, (fits_with _ _ _).mp W.1⟩)
        | (rw [puts_cons, put1_with]; exact W.2)
    · (try unfold PS.hall); unfold PG.take
      have e5 : (S.tBack d p l x rest).pg = S.pg := rfl
      rw [e5] at *
      simp only [if_neg hm]
      first
        | exact trivial
        | (refine ⟨G0 _, fun y => ?_⟩
           by_cases hy : y = p
           · subst hy
             refine .inr ⟨a, r, q, b.erase d, ?_, h.nd.sublist List.erase_sublist, ?_, fun z => ?_, fun z => h.na ((me a).mp z).2, hnb', fun d' r' z => ?_, fun d' z => ?_, fun d' z1 z2 => ?_⟩
             · show (setf S.pg y _ y).ask = _
               rw [setf_same]; exact h.ak
             · show (setf S.pg y _ y).miss = _
               rw [setf_same]; dsimp only; omega
             · rw [z] at le; simp at le; omega
             · refine h.lo d' r' ?_
               dsimp only [PS.puts, List.foldl_nil, PS.tBack, setf] at z
               by_cases u : d' = d
               · subst u; rw [if_pos rfl] at z; rw [e]; exact List.mem_cons_of_mem _ z
               · rw [if_neg u] at z; exact z
             · show (S.tBack d y l x rest).kn d' y = view (setf S.pg y _ y) d'
               rw [hv, hkn]
               have : d' ≠ d := by
                 rcases z with z | z
                 · exact ((me d').mp z).1
                 · rw [z]; exact fun u => hda u.symm
               rw [if_neg this]
               exact h.kb d' (z.imp (fun u => ((me d').mp u).2) id)
             · show (S.tBack d y l x rest).kn d' y = dnR r (view (setf S.pg y _ y) d')
               rw [hv]; exact hko d' z1 z2
           · exact ot _ y hy)
def sumK : Nat → (Nat → Nat) → Nat
  | 0, _ => 0
  | k + 1, f => sumK k f + f k
theorem sumK_congr {f g : Nat → Nat} : ∀ (k : Nat), (∀ i, i < k → f i = g i) → sumK k f = sumK k g
  | 0, _ => rfl
  | k + 1, h => by rw [sumK, sumK, sumK_congr k fun i hi => h i (by omega), h k (by omega)]
theorem sumK_le {f : Nat → Nat} {c : Nat} : ∀ (k : Nat), (∀ i, i < k → f i ≤ c) → sumK k f ≤ k * c
  | 0, _ => by simp [sumK]
  | k + 1, h => by have := sumK_le k fun i hi => h i (by omega); have := h k (by omega); rw [sumK, Nat.succ_mul]; omega
theorem sumK_set {f : Nat → Nat} {i v : Nat} : ∀ (k : Nat), i < k → sumK k (setf f i v) + f i = sumK k f + v
  | 0, h => by omega
  | k + 1, h => by
    rw [sumK, sumK]
    by_cases e : i = k
    · subst e
      rw [setf_same, sumK_congr (g := f) i fun j hj => setf_ne _ _ (by omega)]; omega
    · have := sumK_set (f := f) (v := v) k (show i < k by omega)
      rw [setf_ne _ _ (show k ≠ i by omega)]; omega
theorem setf_map {α β : Type} (f : Nat → α) (i : Nat) (v : α) (F : α → β) : (fun j => F (setf f i v j)) = setf (fun j => F (f j)) i (F v) := by funext j; unfold setf; split <;> rfl
def wq (n : Nat) (g : PG) : Nat := n * g.ask.length - (if g.miss = 0 then 0 else n - 1)
def PS.mu (n m : Nat) (S : PS) : Nat := sumK n (fun d => (S.ro d).length) + sumK m (fun p => wq n (S.pg p))
theorem mu_pg {n m p : Nat} {S : PS} {g : PG} (hp : p < m) : PS.mu n m { S with pg := setf S.pg p g } + wq n (S.pg p) = PS.mu n m S + wq n g := by
  unfold PS.mu
  dsimp only
  rw [setf_map S.pg p g (wq n)]
  have := sumK_set (f := fun p => wq n (S.pg p)) (v := wq n g) m hp
  try dsimp only at this
  omega
theorem put1_ro (S : PS) (x : Nat × Let) : (S.put1 x).ro = setf S.ro x.1 (S.ro x.1 ++ [x.2]) := by unfold PS.put1; split <;> rfl
theorem mu_put {n m : Nat} : ∀ (xs : List (Nat × Let)) (S : PS), (∀ x ∈ xs, x.1 < n) → PS.mu n m (S.puts xs) = PS.mu n m S + xs.length
  | [], S, _ => rfl
  | x :: xs, S, h => by
    rw [puts_cons, mu_put xs _ fun y hy => h y (by simp [hy])]
    have h1 := sumK_set (f := fun d => (S.ro d).length) (v := (S.ro x.1).length + 1) n (h x (by simp))
    unfold PS.mu
    rw [put1_ro, put1_pg, setf_map S.ro x.1 _ List.length, List.length_append, List.length_singleton, List.length_cons]
    try dsimp only at h1
    omega
theorem fits_lt {n m : Nat} : ∀ {xs : List (Nat × Let)} {S : PS}, PS.fits n m S xs → ∀ x ∈ xs, x.1 < n
  | [], _, _, x, hx => by simp at hx
  | y :: ys, S, h, x, hx => by
    rw [List.mem_cons] at hx
    rcases hx with e | e
    · rw [e]; exact h.1.1
    · exact fits_lt h.2.2 x e
theorem nodup_lt {n : Nat} {l : List Nat} (h : l.Nodup) (hl : ∀ x ∈ l, x < n) : l.length ≤ n := by
  have := List.Nodup.length_le_of_subset (l₁ := l) (l₂ := List.range n) h fun x hx => List.mem_range.mpr (hl x hx)
  simpa using this
structure GOk (n : Nat) (g : PG) : Prop where
  wn : ∀ w, g.wr = some w → w < n
  rn : ∀ d, d ∈ g.rd → d < n
  ex : g.wr ≠ none → g.rd = []
  nd : g.rd.Nodup
  an : ∀ x ∈ g.ask, x.1 < n
theorem GOk.next {n a : Nat} {g : PG} {r : Rt} {q : List (Nat × Rt)} (h : GOk n g) (e : g.ask = (a, r) :: q) : GOk n (g.next a r q) := by
  have := next_ok (r := r) (q := q) (h.an (a, r) (by rw [e]; simp)) h.wn h.rn h.ex h.nd
  exact ⟨this.1, this.2.1, this.2.2.1, this.2.2.2, fun x hx => h.an x (by rw [next_ask] at hx; rw [e]; exact List.mem_cons_of_mem _ hx)⟩
theorem serve_wq {n p : Nat} : ∀ (k : Nat) (g : PG), g.ask.length ≤ k → GOk n g → g.miss = 0 → (g.serve p).2.length + wq n (g.serve p).1 ≤ wq n g
  | k, g, hk, h, hm => by
    cases ha : g.ask with
    | nil => rw [serve_nil ha]; simp
    | cons y q =>
      obtain ⟨a, r⟩ := y
      have han : a < n := h.an (a, r) (by rw [ha]; simp)
      by_cases hb : g.bids p = []
      · have l1 : g.lend1 p = [(a, .lend p r g.num)] := by unfold PG.lend1; rw [ha]
        rw [serve_lend (by rw [ha]; simp) hb, lent_next ha, l1]
        cases k with
        | zero => rw [ha] at hk; simp at hk
        | succ k =>
          have := serve_wq (p := p) k _ (by rw [next_ask]; rw [ha] at hk; simpa using hk) (h.next ha) (by rw [next_miss]; exact hm)
          have e1 : wq n (g.next a r q) = n * q.length := by unfold wq; rw [next_ask, next_miss, hm]; simp
          have e2 : wq n g = n * q.length + n := by unfold wq; rw [ha, hm]; simp [Nat.mul_add]
          dsimp only
          rw [List.length_append, List.length_singleton]
          omega
      · rw [serve_bid (by rw [ha]; simp) hb]
        dsimp only
        have hl : (a :: blist g a r).length ≤ n := nodup_lt (List.nodup_cons.mpr ⟨fun z => (mem_blist.mp z).1 rfl, blist_nodup h.ex h.nd⟩) fun x hx => by
          rw [List.mem_cons] at hx
          rcases hx with e | e
          · rw [e]; exact han
          · rcases (mem_blist.mp e).2 with z | z
            · exact h.wn x z
            · exact h.rn x z.2
        have h0 : 0 < (g.bids p).length := List.length_pos_iff.mpr hb
        have e3 : (g.bids p).length = (blist g a r).length := by rw [bids_map ha, List.length_map]
        have e2 : wq n g = n * q.length + n := by unfold wq; rw [ha, hm]; simp [Nat.mul_add]
        have e4 : wq n { g with miss := ((g.bids p).length : Nat) } = n * q.length + n - (n - 1) := by
          unfold wq
          dsimp only
          rw [ha, if_neg (by omega)]
          simp [Nat.mul_add]
        rw [List.length_cons] at hl
        rw [e4, e2]
        omega
theorem Base.gok {n m : Nat} {S : PS} (B : Base n m S) (p : Nat) : GOk n (S.pg p) := ⟨B.wn p, B.rn p, B.ex p, B.nd p, fun x hx => (B.a4 x.1 p x.2 (B.a1 p x.1 x.2 hx)).2.1⟩
theorem ans_wq {n p d a : Nat} {g : PG} {r : Rt} {q : List (Nat × Rt)} (h : GOk n g) (ha : g.ask = (a, r) :: q) (hm : 0 < g.miss) (o : Option Int) : (g.take p d (.ans p o)).2.length + wq n (g.take p d (.ans p o)).1 ≤ wq n g := by
  have han : a < n := h.an (a, r) (by rw [ha]; simp)
  have e2 : wq n g = n * q.length + n - (n - 1) := by unfold wq; rw [ha, if_neg (by omega)]; simp [Nat.mul_add]
  unfold PG.take
  by_cases z : g.miss - 1 = 0
  · simp only [z, if_true]
    have e6 : PG.lend1 { g with num := o.getD g.num, miss := 0 } p = [(a, .lend p r (o.getD g.num))] := by unfold PG.lend1; dsimp only; rw [ha]
    have e7 : PG.lent { g with num := o.getD g.num, miss := 0 } = PG.next { g with num := o.getD g.num, miss := 0 } a r q := lent_next (by exact ha)
    have hg : GOk n { g with num := o.getD g.num, miss := 0 } := ⟨h.wn, h.rn, h.ex, h.nd, h.an⟩
    have := serve_wq (p := p) _ _ (Nat.le_refl _) (hg.next (q := q) (a := a) (r := r) ha) (by rw [next_miss])
    have e1 : wq n (PG.next { g with num := o.getD g.num, miss := 0 } a r q) = n * q.length := by unfold wq; rw [next_ask, next_miss]; simp
    rw [e6, e7, List.length_append, List.length_singleton]
    omega
  · simp only [z, if_false]
    have : wq n { g with num := o.getD g.num, miss := g.miss - 1 } = wq n g := by
      unfold wq
      dsimp only
      rw [if_neg z, if_neg (show ¬ g.miss = 0 by omega)]
    rw [this]; simp
theorem mu_lend {n m d p : Nat} {S : PS} {r : Rt} {x : Int} {rest : List Let} (h : PInv n m S) (e : S.ro d = .lend p r x :: rest) : PS.mu n m (S.tLend d p r rest) + 1 = PS.mu n m S := by
  have h1 := sumK_set (f := fun d => (S.ro d).length) (v := rest.length) n (h.road e).1
  unfold PS.mu PS.tLend
  dsimp only at h1 ⊢
  rw [setf_map S.ro d rest List.length]
  rw [e, List.length_cons] at h1
  omega
theorem mu_back {n m d p : Nat} {S : PS} {l : Rt} (x : Int) {rest : List Let} (h : PInv n m S) (e : S.ro d = .back p l :: rest) : PS.mu n m ((S.tBack d p l x rest).hall p d (.ans p (S.told d p x))) + 1 ≤ PS.mu n m S := by
  have hf := (step_back x h e).1
  obtain ⟨hd, p', hp', hp2, hp3⟩ := h.road e
  have hp : p < m := by omega
  have h1 := sumK_set (f := fun d => (S.ro d).length) (v := rest.length) n hd
  have h0 : PS.mu n m (S.tBack d p l x rest) + 1 = PS.mu n m S := by
    unfold PS.mu PS.tBack
    dsimp only at h1 ⊢
    rw [setf_map S.ro d rest List.length]
    rw [e, List.length_cons] at h1
    omega
  obtain ⟨a, r, q, b, hb⟩ : Busy S p := by
    rcases h.p p with ⟨ha, I⟩ | h
    · exact absurd (by rw [e]; simp) (back_cnt (I.nb d) l)
    · exact h
  have hm : 0 < (S.pg p).miss := by have := List.length_pos_iff.mpr hb.ne; have := hb.ln; omega
  have h2 := ans_wq (p := p) (d := d) (h.b.gok p) hb.ak hm (S.told d p x)
  unfold PS.hall
  rw [show (S.tBack d p l x rest).pg = S.pg from rfl]
  rw [mu_put _ _ (fits_lt hf)]
  have h3 := mu_pg (n := n) (S := S.tBack d p l x rest) (g := ((S.pg p).take p d (.ans p (S.told d p x))).1) hp
  have e5 : (S.tBack d p l x rest).pg = S.pg := rfl
  rw [e5] at h3
  omega
theorem road_len {m : Nat} : ∀ (L : List Let), (∀ l ∈ L, l.form m) → L.length ≤ L.countP Let.isL + sumK m (fun p => L.countP (Let.bkp p))
  | [], _ => by simp
  | l :: L, h => by
    have ih := road_len (m := m) L fun y hy => h y (by simp [hy])
    have hl := h l (by simp)
    rw [List.length_cons, List.countP_cons]
    cases l with
    | lend p r k =>
      have : sumK m (fun p' => (Let.lend p r k :: L).countP (Let.bkp p')) = sumK m (fun p => L.countP (Let.bkp p)) := sumK_congr m fun i hi => by rw [List.countP_cons]; simp [Let.bkp]
      rw [this]
      simp only [Let.isL, if_true]
      omega
    | back p r =>
      obtain ⟨p', rfl, hp', _⟩ := hl
      have : (fun p1 => (Let.back (p' : Int) r :: L).countP (Let.bkp p1)) = setf (fun p => L.countP (Let.bkp p)) p' (L.countP (Let.bkp p') + 1) := by
        funext j
        rw [List.countP_cons]
        unfold setf
        by_cases z : j = p'
        · subst z; simp [Let.bkp]
        · have : ¬ (p' : Int) = (j : Int) := by omega
          simp [Let.bkp, z, this]
      rw [this]
      have h1 := sumK_set (f := fun p => L.countP (Let.bkp p)) (v := L.countP (Let.bkp p') + 1) m hp'
      try dsimp only at h1
      omega
theorem Page.nb1 {S : PS} {p : Nat} (h : Page S p) (d : Nat) : (S.ro d).countP (Let.bkp p) ≤ 1 := by
  rcases h with ⟨_, I⟩ | ⟨a, r, q, b, hb⟩
  · rw [I.nb d]; omega
  · rw [hb.nb d]; split <;> omega
theorem PInv.ro_len {n m : Nat} {S : PS} (h : PInv n m S) (d : Nat) : (S.ro d).length ≤ m + 1 := by
  have h1 := road_len (m := m) (S.ro d) fun l hl => (h.b.lf d l hl).2
  have h2 := sumK_le (f := fun p => (S.ro d).countP (Let.bkp p)) (c := 1) m fun p _ => (h.p p).nb1 d
  have h3 := h.b.c d
  have h4 : (if S.wt d = true then 1 else 0) ≤ 1 := by split <;> omega
  omega
theorem PInv.ask_len {n m : Nat} {S : PS} (h : PInv n m S) (p : Nat) : (S.pg p).ask.length ≤ n := by
  have := nodup_lt (n := n) (h.b.a3 p) fun x hx => by
    obtain ⟨y, hy, e⟩ := List.mem_map.mp hx
    rw [← e]; exact (h.b.gok p).an y hy
  simpa using this
theorem PInv.rd_len {n m : Nat} {S : PS} (h : PInv n m S) (p : Nat) : (S.pg p).rd.length ≤ n := nodup_lt (h.b.nd p) (h.b.rn p)
theorem PInv.mu_le {n m : Nat} {S : PS} (h : PInv n m S) : PS.mu n m S ≤ n * (m + 1) + m * (n * n) := by
  have h1 := sumK_le (f := fun d => (S.ro d).length) (c := m + 1) n fun d _ => h.ro_len d
  have h2 := sumK_le (f := fun p => wq n (S.pg p)) (c := n * n) m fun p _ => by
    have := Nat.mul_le_mul (Nat.le_refl n) (h.ask_len p)
    unfold wq; omega
  unfold PS.mu; omega
theorem PInv.quiet {n m : Nat} {S : PS} (h : PInv n m S) (e : ∀ d, d < n → S.ro d = []) (d : Nat) : S.wt d = false := by
  have hro : ∀ d, S.ro d = [] := fun d => by
    cases z : S.ro d with
    | nil => rfl
    | cons l r => have := (h.road z).1; rw [e d this] at z; cases z
  cases hw : S.wt d with
  | false => rfl
  | true =>
    have := h.b.c d
    rw [hro d, hw] at this
    cases q : S.aq d with
    | none => rw [q] at this; simp at this
    | some y =>
      obtain ⟨p, r⟩ := y
      have h1 := h.b.a2 p d r q
      rcases h.p p with ⟨ha, _⟩ | ⟨a, r', q', b, hb⟩
      · rw [ha] at h1; simp at h1
      · obtain ⟨i, hi⟩ := List.exists_mem_of_ne_nil b hb.ne
        have := hb.nb i
        rw [hro i, if_pos hi] at this
        simp at this
theorem pinv0 (n m : Nat) (x : Nat → Int) : PInv n m ⟨fun p => ⟨x p, none, [], [], 0⟩, fun _ _ => .no, x, fun _ => none, fun _ => [], fun _ _ => .no, fun _ => false⟩ := by
  refine ⟨⟨?_, ?_, ?_, ?_, ?_, ?_, ?_, ?_, ?_, ?_, ?_, ?_, ?_, ?_, ?_⟩, fun p => .inl ⟨rfl, ⟨rfl, ?_, ?_⟩⟩⟩
  all_goals simp [view]
end K07
/-! law k08: the play in the heap -/
namespace K07
open PySem L2
inductive Yb where
  | play | last | asked | waits | roads | bids | known | rights | road (d : Nat) | bid (d : Nat) | kno (d : Nat) | rig (d : Nat)
  deriving DecidableEq
def Yb.ok (n : Nat) : Yb → Prop
  | .road d => d < n
  | .bid d => d < n
  | .kno d => d < n
  | .rig d => d < n
  | _ => True
def ks (x : Str) : Key := Sum.inr x
def pkv (A : Yb → Addr) (n m : Nat) : List (Key × V) := [(ks "count", .int n), (ks "pages", .int m), (ks "last", .ref (A .last)), (ks "asked", .ref (A .asked)), (ks "waits", .ref (A .waits)), (ks "roads", .ref (A .roads)), (ks "bids", .ref (A .bids)), (ks "known", .ref (A .known)), (ks "rights", .ref (A .rights))]
section
variable {A : Yb → Addr} {n m : Nat}
theorem pkv_count : valV (pkv A n m) (ks "count") = some (.int n) := by kernel_rfl
theorem pkv_pages : valV (pkv A n m) (ks "pages") = some (.int m) := by kernel_rfl
theorem pkv_last : valV (pkv A n m) (ks "last") = some (.ref (A .last)) := by kernel_rfl
theorem pkv_asked : valV (pkv A n m) (ks "asked") = some (.ref (A .asked)) := by kernel_rfl
theorem pkv_waits : valV (pkv A n m) (ks "waits") = some (.ref (A .waits)) := by kernel_rfl
theorem pkv_roads : valV (pkv A n m) (ks "roads") = some (.ref (A .roads)) := by kernel_rfl
theorem pkv_bids : valV (pkv A n m) (ks "bids") = some (.ref (A .bids)) := by kernel_rfl
theorem pkv_known : valV (pkv A n m) (ks "known") = some (.ref (A .known)) := by kernel_rfl
theorem pkv_rights : valV (pkv A n m) (ks "rights") = some (.ref (A .rights)) := by kernel_rfl
end
theorem flats_map {α : Type} {f : α → D} (h : ∀ x, (f x).flat) (l : List α) : D.flats (l.map f) := by
  induction l with
  | nil => simp [D.flats]
  | cons x l ih => simp only [List.map_cons, D.flats]; exact ⟨h x, ih⟩
theorem UL.flat (l : UL) : l.d.flat := by
  cases l with
  | ask p r => simp [UL.d, D.flat, D.flats]
  | ans p o => cases o <;> simp [UL.d, oD, D.flat, D.flats]
  | gave p n => simp [UL.d, D.flat, D.flats]
theorem dget {H : Hp} {a : Addr} {kvs : List (Key × V)} {k : Key} {v : V} (h : H a = some (.dK kvs)) (e : valV kvs k = some v) : DGet H a (kV k) (some v) := by rw [← e]; exact DGet.k h
theorem dput {H : Hp} {a : Addr} {kvs kvs' : List (Key × V)} {k : Key} {v : V} (h : H a = some (.dK kvs)) (hl : kvs.length < sizeLine) (e : putK kvs k v = kvs') : DPut H a (kV k) v (upd H a (.dK kvs')) := by rw [← e]; exact DPut.k h hl
theorem range_set {m p : Nat} {f g : Nat → V} {v : V} (hp : p < m) (hg : g p = v) (h : ∀ q, q ≠ p → g q = f q) : ((List.range m).map f).set p v = (List.range m).map g := by
  apply List.ext_getElem?
  intro i
  by_cases e : i = p
  · subst e; rw [List.getElem?_set_self (by simpa using hp), List.getElem?_map, List.getElem?_range hp, ← hg]; rfl
  · rw [List.getElem?_set_ne (Ne.symm e), List.getElem?_map, List.getElem?_map]
    cases h' : (List.range m)[i]? with
    | none => rfl
    | some j =>
      have : j = i := by
        obtain ⟨hi, hj⟩ := List.getElem?_eq_some_iff.mp h'
        rw [List.getElem_range] at hj; exact hj.symm
      subst this
      simp [h j e]
/-- what a desk asked for -/
def aqD : Option (Nat × Rt) → D
  | none => .n
  | some (p, r) => .t [.i p, .s r.s]
theorem aqD_flat (o : Option (Nat × Rt)) : (aqD o).flat := by cases o <;> simp [aqD, D.flat, D.flats]
/-- what stands at a place -/
def YG (A : Yb → Addr) (H : Hp) (n m : Nat) (S : PS) (bd : Nat → List Rt) : Yb → HO → Prop
  | .play, o => o = .dK (pkv A n m)
  | .last, o => o = .lst ((List.range m).map fun p => V.int (S.la p))
  | .asked, o => ∃ vs, o = .lst vs ∧ vs.length = n ∧ ∀ d, d < n → ∃ v, vs[d]? = some v ∧ Rep H v (aqD (S.aq d))
  | .waits, o => o = .lst ((List.range n).map fun d => V.bl (S.wt d))
  | .roads, o => o = .lst ((List.range n).map fun d => V.ref (A (.road d)))
  | .bids, o => o = .lst ((List.range n).map fun d => V.ref (A (.bid d)))
  | .known, o => o = .lst ((List.range n).map fun d => V.ref (A (.kno d)))
  | .rights, o => o = .lst ((List.range n).map fun d => V.ref (A (.rig d)))
  | .road d, o => ∃ vs, o = .lst vs ∧ RepL H vs ((S.ro d).map Let.d)
  | .bid d, o => o = .lst ((bd d).map fun r => V.str r.s)
  | .kno d, o => o = .lst ((List.range m).map fun p => V.str (S.kn d p).s)
  | .rig d, o => o = .lst ((List.range m).map fun p => V.str (S.rt d p).s)
theorem YG.mono {A : Yb → Addr} {H H' : Hp} {n m : Nat} {S : PS} {bd : Nat → List Rt} (t : TupSame H H') {x : Yb} {o : HO} (h : YG A H n m S bd x o) : YG A H' n m S bd x o := by
  cases x with
  | asked => obtain ⟨vs, e, l, k⟩ := h; exact ⟨vs, e, l, fun d hd => by obtain ⟨v, e1, e2⟩ := k d hd; exact ⟨v, e1, e2.tmono t (aqD_flat _)⟩⟩
  | road d => obtain ⟨vs, e, r⟩ := h; exact ⟨vs, e, r.tmono t (flats_map Let.flat _)⟩
  | _ => exact h
theorem YG.notup {A : Yb → Addr} {H : Hp} {n m : Nat} {S : PS} {bd : Nat → List Rt} {x : Yb} {o : HO} (h : YG A H n m S bd x o) : ∀ xs, o ≠ .tup xs := by
  intro xs z
  subst z
  cases x <;> first
    | (obtain ⟨vs, e, _⟩ := h; cases e)
    | cases h
/-- what is kept: all that lives apart from F -/
def Kp (F : Addr → Prop) (H H' : Hp) : Prop := ∀ b o, H b = some o → ¬ F b → H' b = some o
def Dj (F G : Addr → Prop) : Prop := ∀ b, F b → G b → False
structure KL (F : Addr → Prop) (H H' : Hp) : Prop where
  kp : Kp F H H'
  lv : Lv H H'
theorem KL.refl (F : Addr → Prop) (H : Hp) : KL F H H := ⟨fun _ _ e _ => e, Lv.refl _⟩
theorem KL.same {F : Addr → Prop} {H H' : Hp} (s : Same H H') : KL F H H' := ⟨fun b o e _ => s b o e, Lv.same s⟩
theorem KL.weak {F G : Addr → Prop} {H H' : Hp} (k : KL F H H') (h : ∀ b, F b → G b) : KL G H H' := ⟨fun b o e z => k.kp b o e fun q => z (h b q), k.lv⟩
def FY (A : Yb → Addr) (n : Nat) (b : Addr) : Prop := ∃ x : Yb, x.ok n ∧ b = A x
def FH (A : Hb → Addr) (m : Nat) (b : Addr) : Prop := ∃ x : Hb, x.ok m ∧ b = A x
def FB (A : Yb → Addr) (B : Hb → Addr) (n m : Nat) (b : Addr) : Prop := FY A n b ∨ FH B m b
structure PlayAt (H : Hp) (A : Yb → Addr) (n m : Nat) (S : PS) (bd : Nat → List Rt) : Prop where
  inj : ∀ x y : Yb, x.ok n → y.ok n → A x = A y → x = y
  at_ : ∀ x : Yb, x.ok n → ∃ o, H (A x) = some o ∧ YG A H n m S bd x o
section
variable {H H' : Hp} {A : Yb → Addr} {n m : Nat} {S S' : PS} {bd bd' : Nat → List Rt}
theorem PlayAt.keep (M : PlayAt H A n m S bd) (t : TupSame H H') (k : ∀ x : Yb, x.ok n → ∀ o, H (A x) = some o → H' (A x) = some o) : PlayAt H' A n m S bd :=
  ⟨M.inj, fun x hx => by obtain ⟨o, e, g⟩ := M.at_ x hx; exact ⟨o, k x hx o e, g.mono t⟩⟩
theorem PlayAt.same (M : PlayAt H A n m S bd) (s : Same H H') : PlayAt H' A n m S bd := M.keep (same_tup s) fun x _ o e => s _ o e
theorem PlayAt.ntup (M : PlayAt H A n m S bd) {b : Addr} {xs : List V} (e : H b = some (.tup xs)) : ¬ FY A n b := fun ⟨x, hx, z⟩ => by
  obtain ⟨o, e1, g⟩ := M.at_ x hx
  rw [← z, e] at e1
  exact g.notup xs (Option.some.inj e1).symm
theorem PlayAt.nnone (M : PlayAt H A n m S bd) {b : Addr} (e : H b = none) : ¬ FY A n b := fun ⟨x, hx, z⟩ => by
  obtain ⟨o, e1, g⟩ := M.at_ x hx
  rw [← z, e] at e1; cases e1
theorem PlayAt.tups (M : PlayAt H A n m S bd) (f : KL (FY A n) H H') : TupSame H H' := fun b xs e => f.kp b _ e (M.ntup e)
/-- one thing is written -/
theorem PlayAt.set (M : PlayAt H A n m S bd) {x : Yb} (hx : x.ok n) {o' : HO} (hg : TupSame H (upd H (A x) o') → YG A (upd H (A x) o') n m S' bd' x o')
    (ho : ∀ y : Yb, y.ok n → y ≠ x → ∀ o, YG A H n m S bd y o → YG A H n m S' bd' y o) : PlayAt (upd H (A x) o') A n m S' bd' ∧ KL (FY A n) H (upd H (A x) o') := by
  have t : TupSame H (upd H (A x) o') := fun b xs e => by rw [upd_ne fun z => M.ntup e ⟨x, hx, z⟩]; exact e
  refine ⟨⟨M.inj, fun y hy => ?_⟩, ⟨fun b o e hn => by rw [upd_ne fun z => hn ⟨x, hx, z⟩]; exact e, Lv.upd⟩⟩
  by_cases e : y = x
  · subst e; exact ⟨o', upd_same, hg t⟩
  · obtain ⟨o, e1, g⟩ := M.at_ y hy
    refine ⟨o, ?_, (ho y hy e o g).mono t⟩
    rw [upd_ne fun z => e (M.inj y x hy hx z)]
    exact e1
/-! ### what is read -/
theorem PlayAt.play (M : PlayAt H A n m S bd) : H (A .play) = some (.dK (pkv A n m)) := by obtain ⟨o, e, g⟩ := M.at_ .play trivial; rw [e, show o = _ from g]
theorem PlayAt.last (M : PlayAt H A n m S bd) : H (A .last) = some (.lst ((List.range m).map fun p => V.int (S.la p))) := by obtain ⟨o, e, g⟩ := M.at_ .last trivial; rw [e, show o = _ from g]
theorem PlayAt.waits (M : PlayAt H A n m S bd) : H (A .waits) = some (.lst ((List.range n).map fun p => V.bl (S.wt p))) := by obtain ⟨o, e, g⟩ := M.at_ .waits trivial; rw [e, show o = _ from g]
theorem PlayAt.roads (M : PlayAt H A n m S bd) : H (A .roads) = some (.lst ((List.range n).map fun p => V.ref (A (.road p)))) := by obtain ⟨o, e, g⟩ := M.at_ .roads trivial; rw [e, show o = _ from g]
theorem PlayAt.bids (M : PlayAt H A n m S bd) : H (A .bids) = some (.lst ((List.range n).map fun p => V.ref (A (.bid p)))) := by obtain ⟨o, e, g⟩ := M.at_ .bids trivial; rw [e, show o = _ from g]
theorem PlayAt.known (M : PlayAt H A n m S bd) : H (A .known) = some (.lst ((List.range n).map fun p => V.ref (A (.kno p)))) := by obtain ⟨o, e, g⟩ := M.at_ .known trivial; rw [e, show o = _ from g]
theorem PlayAt.rights (M : PlayAt H A n m S bd) : H (A .rights) = some (.lst ((List.range n).map fun p => V.ref (A (.rig p)))) := by obtain ⟨o, e, g⟩ := M.at_ .rights trivial; rw [e, show o = _ from g]
theorem PlayAt.asked (M : PlayAt H A n m S bd) : ∃ vs, H (A .asked) = some (.lst vs) ∧ vs.length = n ∧ ∀ d, d < n → ∃ v, vs[d]? = some v ∧ Rep H v (aqD (S.aq d)) := by obtain ⟨o, e, vs, g, r⟩ := M.at_ .asked trivial; exact ⟨vs, by rw [e, g], r⟩
theorem PlayAt.road (M : PlayAt H A n m S bd) {d : Nat} (h : d < n) : ∃ vs, H (A (.road d)) = some (.lst vs) ∧ RepL H vs ((S.ro d).map Let.d) := by obtain ⟨o, e, vs, g, r⟩ := M.at_ (.road d) h; exact ⟨vs, by rw [e, g], r⟩
theorem PlayAt.bid (M : PlayAt H A n m S bd) {d : Nat} (h : d < n) : H (A (.bid d)) = some (.lst ((bd d).map fun r => V.str r.s)) := by obtain ⟨o, e, g⟩ := M.at_ (.bid d) h; rw [e, show o = _ from g]
theorem PlayAt.kno (M : PlayAt H A n m S bd) {d : Nat} (h : d < n) : H (A (.kno d)) = some (.lst ((List.range m).map fun p => V.str (S.kn d p).s)) := by obtain ⟨o, e, g⟩ := M.at_ (.kno d) h; rw [e, show o = _ from g]
theorem PlayAt.rig (M : PlayAt H A n m S bd) {d : Nat} (h : d < n) : H (A (.rig d)) = some (.lst ((List.range m).map fun p => V.str (S.rt d p).s)) := by obtain ⟨o, e, g⟩ := M.at_ (.rig d) h; rw [e, show o = _ from g]
/-! ### what is written -/
theorem PlayAt.wrLast (M : PlayAt H A n m S bd) {p : Nat} (hp : p < m) (x : Int) : PlayAt (upd H (A .last) (.lst (((List.range m).map fun q => V.int (S.la q)).set p (.int x)))) A n m { S with la := setf S.la p x } bd ∧ KL (FY A n) H (upd H (A .last) (.lst (((List.range m).map fun q => V.int (S.la q)).set p (.int x)))) :=
  M.set (x := .last) trivial (fun t => by
    show HO.lst _ = _
    rw [range_set hp (g := fun q => V.int (setf S.la p x q)) (by rw [setf_same]) fun q hq => by rw [setf_ne _ _ hq]]) fun y _ hn o h => by cases y <;> first | exact h | exact absurd rfl hn
theorem PlayAt.wrWait (M : PlayAt H A n m S bd) {d : Nat} (hd : d < n) (x : Bool) : PlayAt (upd H (A .waits) (.lst (((List.range n).map fun q => V.bl (S.wt q)).set d (.bl x)))) A n m { S with wt := setf S.wt d x } bd ∧ KL (FY A n) H (upd H (A .waits) (.lst (((List.range n).map fun q => V.bl (S.wt q)).set d (.bl x)))) :=
  M.set (x := .waits) trivial (fun t => by
    show HO.lst _ = _
    rw [range_set hd (g := fun q => V.bl (setf S.wt d x q)) (by rw [setf_same]) fun q hq => by rw [setf_ne _ _ hq]]) fun y _ hn o h => by cases y <;> first | exact h | exact absurd rfl hn
theorem PlayAt.wrAsk (M : PlayAt H A n m S bd) {d : Nat} (hd : d < n) {vs : List V} {v : V} {o : Option (Nat × Rt)} (hv : H (A .asked) = some (.lst vs)) (hw : Rep H v (aqD o)) :
    PlayAt (upd H (A .asked) (.lst (vs.set d v))) A n m { S with aq := setf S.aq d o } bd ∧ KL (FY A n) H (upd H (A .asked) (.lst (vs.set d v))) := by
  obtain ⟨us, h1, h2, h3⟩ := M.asked
  rw [hv] at h1
  cases h1
  refine M.set (x := .asked) trivial (fun t => ⟨_, rfl, by rw [List.length_set]; exact h2, fun e he => ?_⟩) fun y hy hn o' h => ?_
  · show ∃ v', (vs.set d v)[e]? = some v' ∧ Rep _ v' (aqD (setf S.aq d o e))
    by_cases z : e = d
    · subst z
      exact ⟨v, by rw [List.getElem?_set_self (by omega)], by rw [setf_same]; exact hw.tmono t (aqD_flat _)⟩
    · obtain ⟨v', k1, k2⟩ := h3 e he
      exact ⟨v', by rw [List.getElem?_set_ne (Ne.symm z)]; exact k1, by rw [setf_ne _ _ z]; exact k2.tmono t (aqD_flat _)⟩
  · cases y <;> first | exact h | exact absurd rfl hn
theorem PlayAt.wrRoad (M : PlayAt H A n m S bd) {d : Nat} (hd : d < n) {vs : List V} {l : List Let} (r : RepL H vs (l.map Let.d)) : PlayAt (upd H (A (.road d)) (.lst vs)) A n m { S with ro := setf S.ro d l } bd ∧ KL (FY A n) H (upd H (A (.road d)) (.lst vs)) :=
  M.set (x := .road d) hd (fun t => ⟨vs, rfl, by dsimp only; rw [setf_same]; exact r.tmono t (flats_map Let.flat _)⟩) fun y _ hn o h => by
    cases y with
    | road e =>
      have hne : e ≠ d := fun z => hn (by rw [z])
      show ∃ vs, o = .lst vs ∧ RepL H vs ((setf S.ro d l e).map Let.d)
      rw [setf_ne _ _ hne]
      exact h
    | _ => exact h
theorem PlayAt.wrBid (M : PlayAt H A n m S bd) {d : Nat} (hd : d < n) (l : List Rt) : PlayAt (upd H (A (.bid d)) (.lst (l.map fun r => V.str r.s))) A n m S (setf bd d l) ∧ KL (FY A n) H (upd H (A (.bid d)) (.lst (l.map fun r => V.str r.s))) :=
  M.set (x := .bid d) hd (fun t => by show HO.lst _ = .lst ((setf bd d l d).map _); rw [setf_same]) fun y _ hn o h => by
    cases y with
    | bid e =>
      have hne : e ≠ d := fun z => hn (by rw [z])
      show o = .lst ((setf bd d l e).map fun r => V.str r.s)
      rw [setf_ne _ _ hne]
      exact h
    | _ => exact h
theorem PlayAt.wrKno (M : PlayAt H A n m S bd) {d p : Nat} (hd : d < n) (hp : p < m) (r : Rt) : PlayAt (upd H (A (.kno d)) (.lst (((List.range m).map fun q => V.str (S.kn d q).s).set p (.str r.s)))) A n m { S with kn := set2 S.kn d p r } bd ∧ KL (FY A n) H (upd H (A (.kno d)) (.lst (((List.range m).map fun q => V.str (S.kn d q).s).set p (.str r.s)))) :=
  M.set (x := .kno d) hd (fun t => by
    show HO.lst _ = .lst ((List.range m).map fun q => V.str (set2 S.kn d p r d q).s)
    rw [range_set hp (g := fun q => V.str (set2 S.kn d p r d q).s) (by rw [set2_same]) fun q hq => by unfold set2; rw [if_neg fun z => hq z.2]]) fun y _ hn o h => by
    cases y with
    | kno e =>
      have hne : e ≠ d := fun z => hn (by rw [z])
      have e1 : ∀ q, set2 S.kn d p r e q = S.kn e q := fun q => by unfold set2; rw [if_neg fun z => hne z.1]
      show o = .lst ((List.range m).map fun q => V.str (set2 S.kn d p r e q).s)
      simp only [e1]
      exact h
    | _ => exact h
theorem PlayAt.wrRig (M : PlayAt H A n m S bd) {d p : Nat} (hd : d < n) (hp : p < m) (r : Rt) : PlayAt (upd H (A (.rig d)) (.lst (((List.range m).map fun q => V.str (S.rt d q).s).set p (.str r.s)))) A n m { S with rt := set2 S.rt d p r } bd ∧ KL (FY A n) H (upd H (A (.rig d)) (.lst (((List.range m).map fun q => V.str (S.rt d q).s).set p (.str r.s)))) :=
  M.set (x := .rig d) hd (fun t => by
    show HO.lst _ = .lst ((List.range m).map fun q => V.str (set2 S.rt d p r d q).s)
    rw [range_set hp (g := fun q => V.str (set2 S.rt d p r d q).s) (by rw [set2_same]) fun q hq => by unfold set2; rw [if_neg fun z => hq z.2]]) fun y _ hn o h => by
    cases y with
    | rig e =>
      have hne : e ≠ d := fun z => hn (by rw [z])
      have e1 : ∀ q, set2 S.rt d p r e q = S.rt e q := fun q => by unfold set2; rw [if_neg fun z => hne z.1]
      show o = .lst ((List.range m).map fun q => V.str (set2 S.rt d p r e q).s)
      simp only [e1]
      exact h
    | _ => exact h
/-- the hall's part of the state is not in the play -/
theorem PlayAt.pg (M : PlayAt H A n m S bd) (G : Nat → PG) : PlayAt H A n m { S with pg := G } bd := ⟨M.inj, fun x hx => by
  obtain ⟨o, e, g⟩ := M.at_ x hx
  refine ⟨o, e, ?_⟩
  cases x <;> exact g⟩
end
/-- the play and the hall -/
structure Both (CH CP : Addr) (H : Hp) (A : Yb → Addr) (B : Hb → Addr) (n m : Nat) (S : PS) (bd : Nat → List Rt) : Prop where
  pl : PlayAt H A n m S bd
  hl : HallAt CH CP H B m S.pg
  dj : Dj (FY A n) (FH B m)
structure Mo (H H' : Hp) (A : Yb → Addr) (B B' : Hb → Addr) (n m : Nat) : Prop where
  kl : KL (FB A B n m) H H'
  hh : B' .hall = B .hall
  mv : ∀ x : Hb, x.ok m → B' x = B x ∨ H (B' x) = none
section
variable {CH CP : Addr} {H H1 H2 H' : Hp} {A : Yb → Addr} {B B1 B2 B' : Hb → Addr} {n m : Nat} {S S' : PS} {bd bd' : Nat → List Rt}
theorem Mo.of_same (s : Same H H') : Mo H H' A B B n m := ⟨.same s, rfl, fun _ _ => .inl rfl⟩
theorem Mo.refl (H : Hp) (A : Yb → Addr) (B : Hb → Addr) (n m : Nat) : Mo H H A B B n m := ⟨.refl _ _, rfl, fun _ _ => .inl rfl⟩
theorem Mo.trans (x : Mo H H1 A B B1 n m) (y : Mo H1 H2 A B1 B2 n m) : Mo H H2 A B B2 n m := by
  refine ⟨⟨fun b o e h => y.kl.kp b o (x.kl.kp b o e h) fun z => ?_, x.kl.lv.trans y.kl.lv⟩, y.hh.trans x.hh, fun z hz => ?_⟩
  · rcases z with z | ⟨u, hu, eu⟩
    · exact h (.inl z)
    · rcases x.mv u hu with q | q
      · exact h (.inr ⟨u, hu, by rw [eu, q]⟩)
      · rw [← eu, e] at q; cases q
  · rcases y.mv z hz with q | q
    · rw [q]; exact x.mv z hz
    · exact .inr (x.kl.lv _ q)
theorem Both.same (h : Both CH CP H A B n m S bd) (s : Same H H') : Both CH CP H' A B n m S bd := ⟨h.pl.same s, h.hl.same s, h.dj⟩
theorem Both.ntup (h : Both CH CP H A B n m S bd) {b : Addr} {xs : List V} (e : H b = some (.tup xs)) : ¬ FB A B n m b := fun z => by
  rcases z with z | ⟨x, hx, z⟩
  · exact h.pl.ntup e z
  · obtain ⟨o, e1, g⟩ := h.hl.live x hx
    rw [← z, e] at e1
    exact g xs (Option.some.inj e1).symm
theorem Both.nnone (h : Both CH CP H A B n m S bd) {b : Addr} (e : H b = none) : ¬ FB A B n m b := fun z => by
  rcases z with z | ⟨x, hx, z⟩
  · exact h.pl.nnone e z
  · obtain ⟨o, e1, g⟩ := h.hl.live x hx
    rw [← z, e] at e1; cases e1
theorem Both.tups (h : Both CH CP H A B n m S bd) (k : Mo H H' A B B' n m) : TupSame H H' := fun b xs e => k.kl.kp b _ e (h.ntup e)
/-- the play writes -/
theorem Both.wr (h : Both CH CP H A B n m S bd) (w : PlayAt H' A n m S' bd' ∧ KL (FY A n) H H') (e : S'.pg = S.pg) : Both CH CP H' A B n m S' bd' ∧ Mo H H' A B B n m := by
  obtain ⟨p, k⟩ := w
  refine ⟨⟨p, ?_, h.dj⟩, k.weak fun b z => .inl z, rfl, fun _ _ => .inl rfl⟩
  rw [e]
  exact h.hl.keep (h.pl.tups k) fun x hx o e => k.kp _ o e fun z => h.dj _ z ⟨x, hx, rfl⟩
/-- the hall writes -/
theorem Both.hall {G : Nat → PG} (h : Both CH CP H A B n m S bd) (HA : HallAt CH CP H' B' m G) (f : HF H H' B m) (mv : ∀ x : Hb, x.ok m → B' x = B x ∨ H (B' x) = none) (hh : B' .hall = B .hall) : Both CH CP H' A B' n m { S with pg := G } bd ∧ Mo H H' A B B' n m := by
  have k : Kp (FH B m) H H' := fun b o e z => f.kp b o e fun x hx q => z ⟨x, hx, q⟩
  refine ⟨⟨(h.pl.keep (HF.tups h.hl f) fun x hx o e => k _ o e fun z => h.dj _ ⟨x, hx, rfl⟩ z).pg G, HA, fun b y z => ?_⟩, ⟨fun b o e z => k b o e fun q => z (.inr q), f.lv⟩, hh, mv⟩
  obtain ⟨x, hx, e⟩ := z
  rcases mv x hx with q | q
  · exact h.dj b y ⟨x, hx, by rw [e, q]⟩
  · exact h.pl.nnone (by rw [e]; exact q) y
end
end K07
namespace L2
open PySem
variable {X : Cx}
theorem Vals.get2 : ∀ {xs : List V} {us : List Value} {i : Nat} (_ : Vals xs us) (h1 : i < xs.length) (h2 : i < us.length), RelV xs[i] us[i]
  | _, _, 0, .cons r _, _, _ => r
  | _, _, i + 1, .cons _ t, h1, h2 => Vals.get2 t (Nat.lt_of_succ_lt_succ h1) (Nat.lt_of_succ_lt_succ h2)
end L2
/-! sum of a list of ints; != of what is the same; == and != of a list of lists and one of empty lists -/
namespace L2
open PySem
variable {X : Cx}
theorem ints_items : ∀ {ns : List Int} {its : List Value}, Vals (ns.map V.int) its → ∃ xs : List (Int × Tok), its = xs.map fun p => Value.int p.1 p.2
  | [], _, .nil => ⟨[], rfl⟩
  | n :: ns, _, .cons r t => by
    obtain ⟨xs, e⟩ := ints_items t
    obtain ⟨k, rfl⟩ := r
    exact ⟨(n, k) :: xs, by rw [e]; rfl⟩
theorem call_sum (hc : X.calm = true) : CallR X (.builtin "sum") (fun xs H Q => ∃ p, ∃ ns : List Int, xs = [.ref p] ∧ SqL X.K H p (ns.map V.int) ∧ ∀ k, Q (.int k) H) := by
  intro pins s σ H xs us Q I r h
  obtain ⟨p, ns, rfl, hq, q⟩ := h
  obtain ⟨u, rfl, rx⟩ := vals1 r
  cases rx
  obtain ⟨its, r', pl, hz⟩ := I.list hq
  obtain ⟨xs, e⟩ := ints_items r'
  have e' : its.toArray = PySem.intItems xs.toArray := by rw [e]; simp [PySem.intItems]
  exact PySem.sum_intListG (I.ok.hd hc) (l := p) (xs := xs.toArray) (by rw [← e']; exact pl.isList) fun h' tk t' hk => ⟨.int _, H, I.kept hk, ⟨t', rfl⟩, q _⟩
theorem RelV.ref_ {a : Addr} {u : Value} (h : RelV (.ref a) u) : u = .ref a := by cases h; rfl
theorem vals_get {xs : List V} {us : List Value} {i : Nat} (r : Vals xs us) (h : i < us.length) : ∃ h1 : i < xs.length, RelV xs[i] us[i] := by
  have l := r.length
  exact ⟨by omega, Vals.get2 r (by omega) h⟩
/-- != of two lists, or of two tuples, of the same flat items -/
def rNeSame (K : PySem.W.Frag) : R2 := fun x y H Q => ∃ a b xs, x = .ref a ∧ y = .ref b ∧ (SqL K H a xs ∧ SqL K H b xs ∨ SqT K H a xs ∧ SqT K H b xs) ∧ xs.all flatV = true ∧ (∀ z ∈ xs, eqV z z = true) ∧ Q (.bl false) H
theorem op_neSame (hu : X.A.units < cLine) : OpR X (compareOp .NotEq) (rNeSame X.K) := by
  intro pins s σ H x y v u Q I rx ry h
  obtain ⟨a, b, xs, rfl, rfl, hab, fx, fe, q⟩ := h
  cases rx
  cases ry
  have at_ : ∀ (A : Around) {its its2 : List Value}, Vals xs its → Vals xs its2 → ∀ j (h1 : j < its.toArray.size) (h2 : j < its2.toArray.size), SeqAt.EqAt A s its.toArray[j] its2.toArray[j] true := fun A _ _ r r2 j h1 h2 => by
    obtain ⟨g1, k1⟩ := vals_get r (by simpa using h1)
    obtain ⟨g2, k2⟩ := vals_get r2 (by simpa using h2)
    have := eqAt_V (A := A) (s := s) k1 k2 (List.all_eq_true.mp fx _ (List.getElem_mem g1)) (List.all_eq_true.mp fx _ (List.getElem_mem g2))
    rw [fe _ (List.getElem_mem g1)] at this
    simpa using this
  rcases hab with ⟨ha, hb⟩ | ⟨ha, hb⟩
  · obtain ⟨its, r, pl, z⟩ := I.list ha
    obtain ⟨its2, r2, pl2, z2⟩ := I.list hb
    have l1 := r.length
    have l2 := r2.length
    exact SeqAt.RcNeAt.lists (e := fun _ => true) pl.isList pl2.isList (by rw [List.size_toArray, List.size_toArray]; omega) hu (at_ _ r r2) X.prog X.w X.xe _ ⟨.bl false, H, I, by simp [RelV], q⟩
  · obtain ⟨its, r, pl, z⟩ := I.tuple ha
    obtain ⟨its2, r2, pl2, z2⟩ := I.tuple hb
    have l1 := r.length
    have l2 := r2.length
    have l3 : its.length = its2.length := by omega
    exact SeqAt.RcNeAt.tuples (e := fun _ => true) pl pl2 hu (at_ _ r r2) X.prog X.w X.xe _ ⟨.bl false, H, I, by simp [RelV, l3], q⟩
/-- a list of lists, and a list of empty ones -/
def rNils (K : PySem.W.Frag) (neg : Bool) : R2 := fun x y H Q => ∃ a b, ∃ n : Nat, ∃ f g : Nat → Addr, ∃ xs : Nat → List V, x = .ref a ∧ y = .ref b ∧ SqL K H a ((List.range n).map fun i => V.ref (f i)) ∧ SqL K H b ((List.range n).map fun i => V.ref (g i)) ∧
  (∀ i, i < n → SqL K H (f i) (xs i) ∧ SqL K H (g i) [] ∧ f i ≠ g i) ∧ Q (.bl (if neg then !((List.range n).all fun i => (xs i).isEmpty) else (List.range n).all fun i => (xs i).isEmpty)) H
theorem nils_at {pins : List (Addr × Obj)} {σ : St} {H : Hp} {s : Shared} (I : Inv X pins σ H s) {A : Around} (hu : A.units < cLine) {l b : Addr} {xs : List V} (hl : SqL X.K H l xs) (hb : SqL X.K H b []) (hn : l ≠ b) : SeqAt.EqAt A s (.ref l) (.ref b) xs.isEmpty := by
  obtain ⟨its, r, pl, z⟩ := I.list hl
  obtain ⟨its2, r2, pl2, z2⟩ := I.list hb
  have l1 := r.length
  have l2 := r2.length
  have e2 : its2 = [] := List.length_eq_zero_iff.mp (by rw [← l2]; rfl)
  subst e2
  refine SeqAt.EqAt.of_refs hn ?_
  cases xs with
  | nil =>
    have e1 : its = [] := List.length_eq_zero_iff.mp (by rw [← l1]; rfl)
    subst e1
    exact SeqAt.RcAt.lists (e := fun _ => true) pl.isList pl2.isList rfl hu (fun j h1 _ => absurd h1 (by simp))
  | cons y ys =>
    refine SeqAt.RcAt.lists_lengths pl.isList pl2.isList ?_ hu
    rw [List.size_toArray, ← l1]
    rfl
theorem nils_all {n : Nat} {f g : Nat → Addr} {xs : Nat → List V} {pins : List (Addr × Obj)} {σ : St} {H : Hp} {s : Shared} (I : Inv X pins σ H s) (hu : X.A.units + 64 < cLine) {its its2 : List Value} (r : Vals ((List.range n).map fun i => V.ref (f i)) its) (r2 : Vals ((List.range n).map fun i => V.ref (g i)) its2)
    (hk : ∀ i, i < n → SqL X.K H (f i) (xs i) ∧ SqL X.K H (g i) [] ∧ f i ≠ g i) : ∀ j (h1 : j < its.toArray.size) (h2 : j < its2.toArray.size), SeqAt.EqAt X.A.in1 s its.toArray[j] its2.toArray[j] (xs j).isEmpty := fun j h1 h2 => by
  obtain ⟨g1, k1⟩ := vals_get r (by simpa using h1)
  obtain ⟨g2, k2⟩ := vals_get r2 (by simpa using h2)
  have hj : j < n := by simpa using g1
  simp only [List.getElem_map, List.getElem_range] at k1 k2
  have e1 : its[j]'(by simpa using h1) = .ref (f j) := k1.ref_
  have e2 : its2[j]'(by simpa using h2) = .ref (g j) := k2.ref_
  have := nils_at I (A := X.A.in1) (by show X.A.units + 1 < cLine; omega) (hk j hj).1 (hk j hj).2.1 (hk j hj).2.2
  simpa [e1, e2] using this
theorem op_eqNils (hu : X.A.units + 64 < cLine) : OpR X (compareOp .Eq) (rNils X.K false) := by
  intro pins s σ H x y v u Q I rx ry h
  obtain ⟨a, b, n, f, g, xs, rfl, rfl, ha, hb, hk, q⟩ := h
  cases rx
  cases ry
  obtain ⟨its, r, pl, z⟩ := I.list ha
  obtain ⟨its2, r2, pl2, z2⟩ := I.list hb
  have l1 := r.length
  have l2 := r2.length
  rw [List.length_map, List.length_range] at l1 l2
  refine SeqAt.eq_listAt pl.isList pl2.isList (by rw [List.size_toArray, List.size_toArray]; omega) (by omega) (nils_all I hu r r2 hk) ⟨.bl _, H, I, rfl, ?_⟩
  rw [List.size_toArray, ← l1]
  exact q
theorem op_neNils (hu : X.A.units + 64 < cLine) : OpR X (compareOp .NotEq) (rNils X.K true) := by
  intro pins s σ H x y v u Q I rx ry h
  obtain ⟨a, b, n, f, g, xs, rfl, rfl, ha, hb, hk, q⟩ := h
  cases rx
  cases ry
  obtain ⟨its, r, pl, z⟩ := I.list ha
  obtain ⟨its2, r2, pl2, z2⟩ := I.list hb
  have l1 := r.length
  have l2 := r2.length
  rw [List.length_map, List.length_range] at l1 l2
  refine SeqAt.RcNeAt.lists pl.isList pl2.isList (by rw [List.size_toArray, List.size_toArray]; omega) (by omega) (nils_all I hu r r2 hk) X.prog X.w X.xe _ ⟨.bl _, H, I, rfl, ?_⟩
  rw [List.size_toArray, ← l1]
  exact q
end L2
namespace K07
open PySem L2
theorem len1 {us : List Value} (h : us.length = 1) : ∃ a0, us = [a0] := by
  match us, h with
  | [_], _ => exact ⟨_, rfl⟩
theorem len2 {us : List Value} (h : us.length = 2) : ∃ a0 a1, us = [a0, a1] := by
  match us, h with
  | [_, _], _ => exact ⟨_, _, rfl⟩
theorem len3 {us : List Value} (h : us.length = 3) : ∃ a0 a1 a2, us = [a0, a1, a2] := by
  match us, h with
  | [_, _, _], _ => exact ⟨_, _, _, rfl⟩
theorem len4 {us : List Value} (h : us.length = 4) : ∃ a0 a1 a2 a3, us = [a0, a1, a2, a3] := by
  match us, h with
  | [_, _, _, _], _ => exact ⟨_, _, _, _, rfl⟩
theorem len5 {us : List Value} (h : us.length = 5) : ∃ a0 a1 a2 a3 a4, us = [a0, a1, a2, a3, a4] := by
  match us, h with
  | [_, _, _, _, _], _ => exact ⟨_, _, _, _, _, rfl⟩
end K07
namespace K07
open PySem L2
def top (i : Nat) : Stmt := PySem.Challenge.pw_copydesks_k08_the_hall.main.body.getD i (.Pass ⟨0, 0, 0, 0⟩)
abbrev s_lend_letter : Stmt := top 4
abbrev s_back_letter : Stmt := top 5
abbrev s_PageLoans_init : Stmt := inClass (top 7) 0
abbrev s_PageLoans_take_ask : Stmt := inClass (top 7) 1
abbrev s_PageLoans_take_answer : Stmt := inClass (top 7) 2
abbrev s_PageLoans_take_gave : Stmt := inClass (top 7) 3
abbrev s_PageLoans_serve : Stmt := inClass (top 7) 4
abbrev s_PageLoans_bids_for_first : Stmt := inClass (top 7) 5
abbrev s_PageLoans_lend : Stmt := inClass (top 7) 6
abbrev s_PageLoans_let_write : Stmt := inClass (top 7) 7
abbrev s_PageLoans_let_read : Stmt := inClass (top 7) 8
abbrev s_Hall_init : Stmt := inClass (top 8) 0
abbrev s_Hall_take : Stmt := inClass (top 8) 1
abbrev s_taken_by_hall : Stmt := top 9
abbrev s_l_whole : Stmt := top 11
abbrev s_l_at : Stmt := top 12
abbrev s_l_is_down : Stmt := top 13
abbrev s_l_sent_right : Stmt := top 14
abbrev s_l_told : Stmt := top 15
abbrev s_l_taken : Stmt := top 16
abbrev s_l_moved : Stmt := top 17
abbrev s_law : Stmt := top 18
theorem sc_lend_letter : FnScope ["page", "right", "number"] ["page", "right", "number"] (defScope s_lend_letter) := ⟨rfl, rfl, rfl, by decide +kernel, rfl, by decide +kernel, by decide +kernel⟩
theorem sc_back_letter : FnScope ["page", "right"] ["page", "right"] (defScope s_back_letter) := ⟨rfl, rfl, rfl, by decide +kernel, rfl, by decide +kernel, by decide +kernel⟩
theorem sc_PageLoans_init : FnScope ["self", "page", "number"] ["self", "page", "number"] (defScope s_PageLoans_init) := ⟨rfl, rfl, rfl, by decide +kernel, rfl, by decide +kernel, by decide +kernel⟩
theorem sc_PageLoans_take_ask : FnScope ["self", "desk", "right"] ["self", "desk", "right"] (defScope s_PageLoans_take_ask) := ⟨rfl, rfl, rfl, by decide +kernel, rfl, by decide +kernel, by decide +kernel⟩
theorem sc_PageLoans_take_answer : FnScope ["self", "number"] ["self", "number"] (defScope s_PageLoans_take_answer) := ⟨rfl, rfl, rfl, by decide +kernel, rfl, by decide +kernel, by decide +kernel⟩
theorem sc_PageLoans_take_gave : FnScope ["self", "desk", "number"] ["self", "desk", "number"] (defScope s_PageLoans_take_gave) := ⟨rfl, rfl, rfl, by decide +kernel, rfl, by decide +kernel, by decide +kernel⟩
theorem sc_PageLoans_serve : FnScope ["self", "sent", "bids"] ["self"] (defScope s_PageLoans_serve) := ⟨rfl, rfl, rfl, by decide +kernel, rfl, by decide +kernel, by decide +kernel⟩
theorem sc_PageLoans_bids_for_first : FnScope ["self", "asking", "right", "bids"] ["self"] (defScope s_PageLoans_bids_for_first) := ⟨rfl, rfl, rfl, by decide +kernel, rfl, by decide +kernel, by decide +kernel⟩
theorem sc_PageLoans_lend : FnScope ["self", "first"] ["self"] (defScope s_PageLoans_lend) := ⟨rfl, rfl, rfl, by decide +kernel, rfl, by decide +kernel, by decide +kernel⟩
theorem sc_PageLoans_let_write : FnScope ["self", "desk"] ["self", "desk"] (defScope s_PageLoans_let_write) := ⟨rfl, rfl, rfl, by decide +kernel, rfl, by decide +kernel, by decide +kernel⟩
theorem sc_PageLoans_let_read : FnScope ["self", "desk"] ["self", "desk"] (defScope s_PageLoans_let_read) := ⟨rfl, rfl, rfl, by decide +kernel, rfl, by decide +kernel, by decide +kernel⟩
theorem sc_Hall_init : FnScope ["self", "numbers"] ["self", "numbers"] (defScope s_Hall_init) := ⟨rfl, rfl, rfl, by decide +kernel, rfl, by decide +kernel, by decide +kernel⟩
theorem sc_Hall_take : FnScope ["self", "desk", "letter", "loans"] ["self", "desk", "letter"] (defScope s_Hall_take) := ⟨rfl, rfl, rfl, by decide +kernel, rfl, by decide +kernel, by decide +kernel⟩
theorem sc_taken_by_hall : FnScope ["hall", "letters"] ["hall", "letters"] (defScope s_taken_by_hall) := ⟨rfl, rfl, rfl, by decide +kernel, rfl, by decide +kernel, by decide +kernel⟩
theorem sc_l_whole : FnScope ["_law_found"] ["_law_found"] (defScope s_l_whole) := ⟨rfl, rfl, rfl, by decide +kernel, rfl, by decide +kernel, by decide +kernel⟩
theorem sc_l_at : FnScope ["_law_script", "_law_k"] ["_law_script", "_law_k"] (defScope s_l_at) := ⟨rfl, rfl, rfl, by decide +kernel, rfl, by decide +kernel, by decide +kernel⟩
theorem sc_l_is_down : FnScope ["_law_found", "_law_count", "_law_pages", "_law_letter"] ["_law_found", "_law_count", "_law_pages"] (defScope s_l_is_down) := ⟨rfl, rfl, rfl, by decide +kernel, rfl, by decide +kernel, by decide +kernel⟩
theorem sc_l_sent_right : FnScope ["_law_play", "_law_found", "_law_to", "_law_letter", "_law_page", "_law_others"] ["_law_play", "_law_found"] (defScope s_l_sent_right) := ⟨rfl, rfl, rfl, by decide +kernel, rfl, by decide +kernel, by decide +kernel⟩
theorem sc_l_told : FnScope ["_law_play", "_law_hall", "_law_desk", "_law_letter", "_law_page", "_law_low", "_law_found", "_law_one"] ["_law_play", "_law_hall", "_law_desk", "_law_letter"] (defScope s_l_told) := ⟨rfl, rfl, rfl, by decide +kernel, rfl, by decide +kernel, by decide +kernel⟩
theorem sc_l_taken : FnScope ["_law_play", "_law_hall", "_law_desk", "_law_number", "_law_letter", "_law_page", "_law_held"] ["_law_play", "_law_hall", "_law_desk", "_law_number"] (defScope s_l_taken) := ⟨rfl, rfl, rfl, by decide +kernel, rfl, by decide +kernel, by decide +kernel⟩
theorem sc_l_moved : FnScope ["_law_play", "_law_hall", "_law_cell", "_law_more", "_law_k", "_law_desk", "_law_page", "_law_right", "_law_number", "_law_held"] ["_law_play", "_law_hall", "_law_cell", "_law_more", "_law_k"] (defScope s_l_moved) := ⟨rfl, rfl, rfl, by decide +kernel, rfl, by decide +kernel, by decide +kernel⟩
theorem sc_law : FnScope ["_law_script", "_law_wide", "_law_count", "_law_pages", "_law_numbers", "_law_ones", "_law_hall", "_law_kept", "_law_play", "_law_word", "_law_k", "_law_more", "_law_turn", "_law_desk"] ["_law_script"] (defScope s_law) := ⟨rfl, rfl, rfl, by decide +kernel, rfl, by decide +kernel, by decide +kernel⟩
set_option genInjectivity false in
set_option genSizeOf false in
structure Adr where
  C_PageLoans : Addr
  C_Hall : Addr
  f_lend_letter : Addr
  fd_lend_letter : FuncData
  f_back_letter : Addr
  fd_back_letter : FuncData
  f_PageLoans_init : Addr
  fd_PageLoans_init : FuncData
  f_PageLoans_take_ask : Addr
  fd_PageLoans_take_ask : FuncData
  f_PageLoans_take_answer : Addr
  fd_PageLoans_take_answer : FuncData
  f_PageLoans_take_gave : Addr
  fd_PageLoans_take_gave : FuncData
  f_PageLoans_serve : Addr
  fd_PageLoans_serve : FuncData
  f_PageLoans_bids_for_first : Addr
  fd_PageLoans_bids_for_first : FuncData
  f_PageLoans_lend : Addr
  fd_PageLoans_lend : FuncData
  f_PageLoans_let_write : Addr
  fd_PageLoans_let_write : FuncData
  f_PageLoans_let_read : Addr
  fd_PageLoans_let_read : FuncData
  f_Hall_init : Addr
  fd_Hall_init : FuncData
  f_Hall_take : Addr
  fd_Hall_take : FuncData
  f_taken_by_hall : Addr
  fd_taken_by_hall : FuncData
  f_l_whole : Addr
  fd_l_whole : FuncData
  f_l_at : Addr
  fd_l_at : FuncData
  f_l_is_down : Addr
  fd_l_is_down : FuncData
  f_l_sent_right : Addr
  fd_l_sent_right : FuncData
  f_l_told : Addr
  fd_l_told : FuncData
  f_l_taken : Addr
  fd_l_taken : FuncData
  f_l_moved : Addr
  fd_l_moved : FuncData
  f_law : Addr
  fd_law : FuncData
structure Txt (K : PySem.W.Frag) (w : World) (mg : Str → Option Value) (t : Adr) : Prop where
  c_PageLoans : Cls K t.C_PageLoans
  mk_PageLoans : Mk K t.C_PageLoans t.f_PageLoans_init
  g_PageLoans : mg "PageLoans" = some (.ref t.C_PageLoans)
  na_PageLoans_page : NoAttr K t.C_PageLoans "page"
  na_PageLoans_number : NoAttr K t.C_PageLoans "number"
  na_PageLoans_writer : NoAttr K t.C_PageLoans "writer"
  na_PageLoans_readers : NoAttr K t.C_PageLoans "readers"
  na_PageLoans_asked : NoAttr K t.C_PageLoans "asked"
  na_PageLoans_awaited : NoAttr K t.C_PageLoans "awaited"
  c_Hall : Cls K t.C_Hall
  mk_Hall : Mk K t.C_Hall t.f_Hall_init
  g_Hall : mg "Hall" = some (.ref t.C_Hall)
  na_Hall_pages : NoAttr K t.C_Hall "pages"
  F_lend_letter : Fun K "lend_letter" "lend_letter" s_lend_letter t.f_lend_letter t.fd_lend_letter
  b_lend_letter : Binds K t.fd_lend_letter ["page", "right", "number"] []
  m_lend_letter : mg "lend_letter" = some (.ref t.f_lend_letter)
  F_back_letter : Fun K "back_letter" "back_letter" s_back_letter t.f_back_letter t.fd_back_letter
  b_back_letter : Binds K t.fd_back_letter ["page", "right"] []
  m_back_letter : mg "back_letter" = some (.ref t.f_back_letter)
  F_PageLoans_init : Fun K "__init__" "PageLoans.__init__" s_PageLoans_init t.f_PageLoans_init t.fd_PageLoans_init
  b_PageLoans_init : Binds K t.fd_PageLoans_init ["self", "page", "number"] []
  F_PageLoans_take_ask : Fun K "take_ask" "PageLoans.take_ask" s_PageLoans_take_ask t.f_PageLoans_take_ask t.fd_PageLoans_take_ask
  b_PageLoans_take_ask : Binds K t.fd_PageLoans_take_ask ["self", "desk", "right"] []
  mt_PageLoans_take_ask : Meth K t.C_PageLoans "take_ask" t.f_PageLoans_take_ask
  F_PageLoans_take_answer : Fun K "take_answer" "PageLoans.take_answer" s_PageLoans_take_answer t.f_PageLoans_take_answer t.fd_PageLoans_take_answer
  b_PageLoans_take_answer : Binds K t.fd_PageLoans_take_answer ["self", "number"] []
  mt_PageLoans_take_answer : Meth K t.C_PageLoans "take_answer" t.f_PageLoans_take_answer
  F_PageLoans_take_gave : Fun K "take_gave" "PageLoans.take_gave" s_PageLoans_take_gave t.f_PageLoans_take_gave t.fd_PageLoans_take_gave
  b_PageLoans_take_gave : Binds K t.fd_PageLoans_take_gave ["self", "desk", "number"] []
  mt_PageLoans_take_gave : Meth K t.C_PageLoans "take_gave" t.f_PageLoans_take_gave
  F_PageLoans_serve : Fun K "serve" "PageLoans.serve" s_PageLoans_serve t.f_PageLoans_serve t.fd_PageLoans_serve
  b_PageLoans_serve : Binds K t.fd_PageLoans_serve ["self"] []
  mt_PageLoans_serve : Meth K t.C_PageLoans "serve" t.f_PageLoans_serve
  F_PageLoans_bids_for_first : Fun K "bids_for_first" "PageLoans.bids_for_first" s_PageLoans_bids_for_first t.f_PageLoans_bids_for_first t.fd_PageLoans_bids_for_first
  b_PageLoans_bids_for_first : Binds K t.fd_PageLoans_bids_for_first ["self"] []
  mt_PageLoans_bids_for_first : Meth K t.C_PageLoans "bids_for_first" t.f_PageLoans_bids_for_first
  F_PageLoans_lend : Fun K "lend" "PageLoans.lend" s_PageLoans_lend t.f_PageLoans_lend t.fd_PageLoans_lend
  b_PageLoans_lend : Binds K t.fd_PageLoans_lend ["self"] []
  mt_PageLoans_lend : Meth K t.C_PageLoans "lend" t.f_PageLoans_lend
  F_PageLoans_let_write : Fun K "let_write" "PageLoans.let_write" s_PageLoans_let_write t.f_PageLoans_let_write t.fd_PageLoans_let_write
  b_PageLoans_let_write : Binds K t.fd_PageLoans_let_write ["self", "desk"] []
  mt_PageLoans_let_write : Meth K t.C_PageLoans "let_write" t.f_PageLoans_let_write
  F_PageLoans_let_read : Fun K "let_read" "PageLoans.let_read" s_PageLoans_let_read t.f_PageLoans_let_read t.fd_PageLoans_let_read
  b_PageLoans_let_read : Binds K t.fd_PageLoans_let_read ["self", "desk"] []
  mt_PageLoans_let_read : Meth K t.C_PageLoans "let_read" t.f_PageLoans_let_read
  F_Hall_init : Fun K "__init__" "Hall.__init__" s_Hall_init t.f_Hall_init t.fd_Hall_init
  b_Hall_init : Binds K t.fd_Hall_init ["self", "numbers"] []
  F_Hall_take : Fun K "take" "Hall.take" s_Hall_take t.f_Hall_take t.fd_Hall_take
  b_Hall_take : Binds K t.fd_Hall_take ["self", "desk", "letter"] []
  mt_Hall_take : Meth K t.C_Hall "take" t.f_Hall_take
  F_taken_by_hall : Fun K "taken_by_hall" "taken_by_hall" s_taken_by_hall t.f_taken_by_hall t.fd_taken_by_hall
  b_taken_by_hall : Binds K t.fd_taken_by_hall ["hall", "letters"] []
  m_taken_by_hall : mg "taken_by_hall" = some (.ref t.f_taken_by_hall)
  F_l_whole : Fun K "_law_whole" "_law_whole" s_l_whole t.f_l_whole t.fd_l_whole
  b_l_whole : Binds K t.fd_l_whole ["_law_found"] []
  m_l_whole : mg "_law_whole" = some (.ref t.f_l_whole)
  F_l_at : Fun K "_law_at" "_law_at" s_l_at t.f_l_at t.fd_l_at
  b_l_at : Binds K t.fd_l_at ["_law_script", "_law_k"] []
  m_l_at : mg "_law_at" = some (.ref t.f_l_at)
  F_l_is_down : Fun K "_law_is_down" "_law_is_down" s_l_is_down t.f_l_is_down t.fd_l_is_down
  b_l_is_down : Binds K t.fd_l_is_down ["_law_found", "_law_count", "_law_pages"] []
  m_l_is_down : mg "_law_is_down" = some (.ref t.f_l_is_down)
  F_l_sent_right : Fun K "_law_sent_right" "_law_sent_right" s_l_sent_right t.f_l_sent_right t.fd_l_sent_right
  b_l_sent_right : Binds K t.fd_l_sent_right ["_law_play", "_law_found"] []
  m_l_sent_right : mg "_law_sent_right" = some (.ref t.f_l_sent_right)
  F_l_told : Fun K "_law_told" "_law_told" s_l_told t.f_l_told t.fd_l_told
  b_l_told : Binds K t.fd_l_told ["_law_play", "_law_hall", "_law_desk", "_law_letter"] []
  m_l_told : mg "_law_told" = some (.ref t.f_l_told)
  F_l_taken : Fun K "_law_taken" "_law_taken" s_l_taken t.f_l_taken t.fd_l_taken
  b_l_taken : Binds K t.fd_l_taken ["_law_play", "_law_hall", "_law_desk", "_law_number"] []
  m_l_taken : mg "_law_taken" = some (.ref t.f_l_taken)
  F_l_moved : Fun K "_law_moved" "_law_moved" s_l_moved t.f_l_moved t.fd_l_moved
  b_l_moved : Binds K t.fd_l_moved ["_law_play", "_law_hall", "_law_cell", "_law_more", "_law_k"] []
  m_l_moved : mg "_law_moved" = some (.ref t.f_l_moved)
  F_law : Fun K "law" "law" s_law t.f_law t.fd_law
  b_law : Binds K t.fd_law ["_law_script"] []
  m_law : mg "law" = some (.ref t.f_law)
  g_NONE : ∃ u, mg "NONE" = some (.str "none" u)
  g_READ : ∃ u, mg "READ" = some (.str "read" u)
  g_WRITE : ∃ u, mg "WRITE" = some (.str "write" u)
  n_len : mg "len" = none
  n_enumerate : mg "enumerate" = none
  n_isinstance : mg "isinstance" = none
  n_int : mg "int" = none
  n_bool : mg "bool" = none
  n_str : mg "str" = none
  n_tuple : mg "tuple" = none
  n_list : mg "list" = none
  n_range : mg "range" = none
  n_sum : mg "sum" = none

end K07
namespace K07
open PySem L2
section
variable {P : Program} {w : World} {K : PySem.W.Frag} {mg : Str → Option Value} {base : Heap} {t : Adr}
theorem ok_back_letter (T : Txt K w mg t) : FnOk P w K mg base CX0 1 t.f_back_letter t.fd_back_letter ["page", "right"] (spTup "back") := by
  refine T.F_back_letter.ok sc_back_letter (fun vs H Q E h => ?_) (fun cdv A outer s H vs Q E hr h => ?_)
  · obtain ⟨x, y, rfl, _⟩ := h; rfl
  · obtain ⟨x, y, rfl, k⟩ := h
    refine ⟨_, (pss_one (ps_ret (pe_tup (pa_cons pe_str (pa_cons (pv 0) (pa_cons (pv 1) pa_nil)))))), ?_⟩
    try dsimp only [cxOf, Cx.nox]
    exact ⟨_, rfl, _, rfl, (by show 3 ≤ sizeLine; decide), fun a ha => k a ha⟩
theorem ok_lend_letter (T : Txt K w mg t) : FnOk P w K mg base CX0 1 t.f_lend_letter t.fd_lend_letter ["page", "right", "number"] spLend4 := by
  refine T.F_lend_letter.ok sc_lend_letter (fun vs H Q E h => ?_) (fun cdv A outer s H vs Q E hr h => ?_)
  · obtain ⟨x, y, z, rfl, _⟩ := h; rfl
  · obtain ⟨x, y, z, rfl, k⟩ := h
    refine ⟨_, (pss_one (ps_ret (pe_tup (pa_cons pe_str (pa_cons (pv 0) (pa_cons (pv 1) (pa_cons (pv 2) pa_nil))))))), ?_⟩
    try dsimp only [cxOf, Cx.nox]
    exact ⟨_, rfl, _, rfl, _, rfl, (by show 4 ≤ sizeLine; decide), fun a ha => k a ha⟩
theorem ok_PageLoans_init (T : Txt K w mg t) : FnOk P w K mg base CX0 1 t.f_PageLoans_init t.fd_PageLoans_init ["self", "page", "number"] (spPgInit t.C_PageLoans) := by
  refine T.F_PageLoans_init.ok sc_PageLoans_init (fun vs H Q E h => ?_) (fun cdv A outer s H vs Q E hr h => ?_)
  · obtain ⟨x, y, p, n, rfl, _⟩ := h; rfl
  · obtain ⟨a, dx, p, n, rfl, hp, k⟩ := h
    refine ⟨_, (pss_cons (ps_fld (pv 0) (pv 1) (by rfl))
      (pss_cons (ps_fld (pv 0) (pv 2) (by rfl))
      (pss_cons (ps_fld (pv 0) pe_non (by rfl))
      (pss_cons (ps_fld (pv 0) (pe_lst pa_nil) (by rfl))
      (pss_cons (ps_fld (pv 0) (pe_lst pa_nil) (by rfl))
      (pss_one (ps_fld (pv 0) pe_int (by rfl)))))))), ?_⟩
    try dsimp only [cxOf, Cx.nox]
    show let Z1 : L2.TS := _; let Z2 : L2.TS := _; let Z3 : L2.TS := _; let Z4 : L2.TS := _; let Z5 : L2.TS := _; let Z6 : L2.TS := _; let D0 : Ends := _; (tSeq Z1 (tSeq Z2 (tSeq Z3 (tSeq Z4 (tSeq Z5 (Z6)))))) D0 _ _
    intro Z1 Z2 Z3 Z4 Z5 Z6 D0
    refine ⟨_, rfl, _, rfl, a, t.C_PageLoans, dx, [], rfl, hp, T.c_PageLoans, T.na_PageLoans_page, (by show 0 < 1000; decide), ?_⟩
    refine ⟨_, rfl, _, rfl, a, t.C_PageLoans, dx, _, rfl, upd_same, T.c_PageLoans, T.na_PageLoans_number, (by show 1 < 1000; decide), ?_⟩
    refine ⟨_, rfl, a, t.C_PageLoans, dx, _, rfl, upd_same, T.c_PageLoans, T.na_PageLoans_writer, (by show 2 < 1000; decide), ?_⟩
    rw [upd_upd, upd_upd]
    refine ⟨(by show 0 ≤ sizeLine; decide), fun r hr1 => ?_⟩
    have nra : a ≠ r := fun z => by rw [z, upd_same] at hr1; cases hr1
    have hr0 : H r = none := by rw [← hr1, upd_ne nra.symm]
    refine ⟨_, rfl, a, t.C_PageLoans, dx, _, rfl, (by rw [upd_ne nra]; exact upd_same), T.c_PageLoans, T.na_PageLoans_readers, (by show 3 < 1000; decide), ?_⟩
    refine ⟨(by show 0 ≤ sizeLine; decide), fun q hq1 => ?_⟩
    have nqa : a ≠ q := fun z => by rw [z, upd_same] at hq1; cases hq1
    have nqr : r ≠ q := fun z => by rw [z, upd_ne nqa.symm, upd_same] at hq1; cases hq1
    have hq0 : H q = none := by rw [← hq1, upd_ne nqa.symm, upd_ne nqr.symm, upd_ne nqa.symm]
    refine ⟨_, rfl, a, t.C_PageLoans, dx, _, rfl, (by rw [upd_ne nqa]; exact upd_same), T.c_PageLoans, T.na_PageLoans_asked, (by show 4 < 1000; decide), ?_⟩
    refine ⟨_, rfl, a, t.C_PageLoans, dx, _, rfl, upd_same, T.c_PageLoans, T.na_PageLoans_awaited, (by show 5 < 1000; decide), ?_⟩
    rw [pfl_init]
    refine k r q _ hr0 hq0 ⟨⟨dx, upd_same⟩, ?_, ⟨[], ?_, by simp [RepL]⟩, nqr⟩ (fun b o e hb => ?_) ?_
    · rw [upd_ne nra.symm, upd_ne nra.symm, upd_ne nqr, upd_ne nra.symm, upd_same]; rfl
    · rw [upd_ne nqa.symm, upd_ne nqa.symm, upd_same]
    · rw [upd_ne hb, upd_ne hb, upd_ne (ne_of_none e hq0), upd_ne hb, upd_ne (ne_of_none e hr0), upd_ne hb]; exact e
    · exact Lv.upd.trans (Lv.upd.trans (Lv.upd.trans (Lv.upd.trans (Lv.upd.trans Lv.upd))))
theorem ok_PageLoans_let_write (T : Txt K w mg t) : FnOk P w K mg base CX0 1 t.f_PageLoans_let_write t.fd_PageLoans_let_write ["self", "desk"] (spLetW t.C_PageLoans) := by
  refine T.F_PageLoans_let_write.ok sc_PageLoans_let_write (fun vs H Q E h => ?_) (fun cdv A outer s H vs Q E hr h => ?_)
  · obtain ⟨a, r, q, p, g, d, rfl, _⟩ := h; rfl
  · obtain ⟨a, r, q, p, g, d, rfl, PA, k⟩ := h
    have nar := PA.nar
    have naq := PA.naq
    obtain ⟨⟨dx, h1⟩, h2, ⟨vs, h3, h4⟩, h5⟩ := id PA
    refine ⟨_, (pss_cons (ps_fld (pv 0) (pv 1) (by rfl))
      (pss_one (ps_fld (pv 0) (pe_lst pa_nil) (by rfl)))), ?_⟩
    try dsimp only [cxOf, Cx.nox]
    show let Z1 : L2.TS := _; let Z2 : L2.TS := _; let D0 : Ends := _; (tSeq Z1 (Z2)) D0 _ _
    intro Z1 Z2 D0
    refine ⟨_, rfl, _, rfl, a, _, dx, _, rfl, h1, T.c_PageLoans, T.na_PageLoans_writer, pfl_len, ?_⟩
    rw [pfl_wrS]
    refine ⟨(by show 0 ≤ sizeLine; decide), fun r' hr1 => ?_⟩
    have nra : a ≠ r' := fun z => by rw [z, upd_same] at hr1; cases hr1
    have hr0 : H r' = none := by rw [← hr1, upd_ne nra.symm]
    refine ⟨_, rfl, a, _, dx, _, rfl, (by rw [upd_ne nra]; exact upd_same), T.c_PageLoans, T.na_PageLoans_readers, pfl_len, ?_⟩
    rw [pfl_rd (l := [])]
    have nqr : q ≠ r' := ne_of_none h3 hr0
    refine k r' _ hr0 ⟨⟨dx, upd_same⟩, ?_, ⟨vs, ?_, ?_⟩, nqr.symm⟩ ⟨fun b o e ha hb hq => ?_, Lv.upd.trans (Lv.upd.trans Lv.upd)⟩
    · rw [upd_ne nra.symm, upd_same]; rfl
    · rw [upd_ne naq.symm, upd_ne nqr, upd_ne naq.symm]; exact h3
    · refine h4.tmono (fun b xs e => ?_) (askD_flat _)
      have hb : b ≠ a := ne_of e h1 (by intro z; cases z)
      rw [upd_ne hb, upd_ne (ne_of_none e hr0), upd_ne hb]; exact e
    · rw [upd_ne ha, upd_ne (ne_of_none e hr0), upd_ne ha]; exact e
theorem inV_nat (d : Nat) (l : List Nat) : inV (.int d) (l.map nV) = decide (d ∈ l) := by
  unfold inV
  induction l with
  | nil => rfl
  | cons x l ih =>
    rw [List.map_cons, List.any_cons, ih]
    show ((x : Int) == (d : Int) || _) = _
    by_cases e : d = x
    · subst e; simp
    · have : ((x : Int) == (d : Int)) = false := by simp; lia
      rw [this]; simp [e]
theorem flat_nat (l : List Nat) : (l.map nV).all flatV = true := by simp [flatV, nV]
theorem ok_PageLoans_let_read (T : Txt K w mg t) : FnOk P w K mg base CX0 1 t.f_PageLoans_let_read t.fd_PageLoans_let_read ["self", "desk"] (spLetR t.C_PageLoans) := by
  refine T.F_PageLoans_let_read.ok sc_PageLoans_let_read (fun vs H Q E h => ?_) (fun cdv A outer s H vs Q E hr h => ?_)
  · obtain ⟨a, r, q, p, g, d, rfl, _⟩ := h; rfl
  · obtain ⟨a, r, q, p, g, d, rfl, PA, hl, k⟩ := h
    have sl : sizeLine = 16777216 := by decide
    refine ⟨_, (pss_cons (ps_if (pt_cmp (pc_notN (pe_fld (pv 0) (by rfl)))) (pss_cons (ps_expr (pe_bm PySem.F.plainAttrs_list PySem.F.slot_list_append PySem.F.type_list_append mt_append (pe_fld (pv 0) (by rfl)) (pa_cons (pe_fld (pv 0) (by rfl)) pa_nil)))
      (pss_one (ps_fld (pv 0) pe_non (by rfl)))) pss_nil)
      (pss_one (ps_if (pt_cmpR op_notIn_seq (pv 1) (pe_fld (pv 0) (by rfl)) (by rfl)) (pss_one (ps_expr (pe_bm PySem.F.plainAttrs_list PySem.F.slot_list_append PySem.F.type_list_append mt_append (pe_fld (pv 0) (by rfl)) (pa_cons (pv 1) pa_nil)))) pss_nil))), ?_⟩
    try dsimp only [cxOf, Cx.nox]
    show let Z1 : L2.TS := _; let Z2 : L2.TS := _; let Z3 : L2.TS := tSeq Z1 (Z2); let Z4 : L2.TS := tIfS _ Z3 tNext; let Z5 : L2.TS := _; let Z6 : L2.TS := tIfS _ Z5 tNext; let D0 : Ends := _; (tSeq Z4 (Z6)) D0 _ _
    intro Z1 Z2 Z3 Z4 Z5 Z6 D0
    -- the second half
    have fin : ∀ H1, PgAt t.C_PageLoans H1 a r q p { g with wr := none, rd := g.rd ++ g.wr.toList } → PF H H1 a r q →
        (tIfS (tTest (tOp (rIn K true) (tVar 1) (tFld K (tVar 0) "readers"))) (tDrop (tBM K "list" rAppend (tFld K (tVar 0) "readers") (tCons (tVar 1) tNil))) tNext) { nx := fun _ H' => Q .non H', rt := Q } [some (.ref a), some (.int d)] H1 := fun H1 P1 f1 => by
      obtain ⟨⟨dx, h1⟩, h2, _, _⟩ := id P1
      refine ⟨_, rfl, _, rfl, a, _, dx, _, _, rfl, h1, T.c_PageLoans, T.na_PageLoans_readers, pfl_readers, r, _, rfl, .inl (SqL.of h2), rfl, flat_nat _, _, rfl, ?_⟩
      have e0 : (if true = true then !inV (.int d) ((g.rd ++ g.wr.toList).map nV) else inV (.int d) ((g.rd ++ g.wr.toList).map nV)) = !decide (d ∈ g.rd ++ g.wr.toList) := by rw [if_pos rfl, inV_nat]
      rw [e0]
      by_cases e : d ∈ g.rd ++ g.wr.toList
      · refine iteFb (by rw [decide_eq_true e]; rfl) ?_
        refine k H1 ?_ f1
        unfold letRead
        rw [if_pos e]
        exact P1
      · refine iteTb (by rw [decide_eq_false e]; rfl) ?_
        refine ⟨_, rfl, a, _, dx, _, _, rfl, h1, T.c_PageLoans, T.na_PageLoans_readers, pfl_readers, .inl ⟨rfl, _, SqL.of h2⟩, _, rfl, r, _, _, rfl, rfl, h2, ?_, ?_⟩
        · have hw : g.wr.toList.length ≤ 1 := by cases g.wr <;> simp
          rw [List.length_map, List.length_append]; lia
        · refine k _ ?_ (f1.trans PF.wrR)
          have := P1.wrR (l := g.rd ++ g.wr.toList ++ [d])
          unfold letRead
          rw [if_neg e]
          rw [List.map_append (l₂ := [d])] at this
          exact this
    obtain ⟨⟨dx, h1⟩, h2, ⟨vs, h3, h4⟩, h5⟩ := id PA
    refine ⟨_, rfl, a, _, dx, _, _, rfl, h1, T.c_PageLoans, T.na_PageLoans_writer, pfl_writer, _, rfl, ?_⟩
    cases hw : g.wr with
    | none =>
      refine iteFb rfl ?_
      refine fin H ?_ (PF.refl _ _ _ _)
      have e : ({ g with wr := none, rd := g.rd ++ g.wr.toList } : PG) = g := by rw [hw]; cases g; simp_all
      rw [e]; exact PA
    | some x =>
      refine iteTb rfl ?_
      have l1 : (pfl p g r q).lookup ("writer" : Str) = some (.int x) := by rw [pfl_writer, hw]; rfl
      refine ⟨_, rfl, a, _, dx, _, _, rfl, h1, T.c_PageLoans, T.na_PageLoans_readers, pfl_readers, .inl ⟨rfl, _, SqL.of h2⟩, _, rfl, a, _, dx, _, _, rfl, h1, T.c_PageLoans, T.na_PageLoans_writer, l1, r, _, _, rfl, rfl, h2, (by rw [List.length_map]; lia), ?_⟩
      have P1 := PA.wrR (l := g.rd ++ [x])
      rw [List.map_append] at P1
      obtain ⟨⟨dx1, g1⟩, _⟩ := id P1
      refine ⟨_, rfl, a, _, dx1, _, rfl, g1, T.c_PageLoans, T.na_PageLoans_writer, pfl_len, ?_⟩
      rw [pfl_wrN]
      refine fin _ ?_ (PF.trans PF.wrR PF.wr)
      rw [hw]
      exact P1.wr rfl rfl
theorem ok_PageLoans_lend (T : Txt K w mg t) : FnOk P w K mg base CX0 2 t.f_PageLoans_lend t.fd_PageLoans_lend ["self"] (spLendP t.C_PageLoans) := by
  refine T.F_PageLoans_lend.ok sc_PageLoans_lend (fun vs H Q E h => ?_) (fun cdv A outer s H vs Q E hr h => ?_)
  · obtain ⟨a, r, q, p, g, d, x, l, rfl, _⟩ := h; rfl
  · obtain ⟨a, r, q, p, g, d, x, l, rfl, PA, ha, hx, hl, k⟩ := h
    refine ⟨_, (pss_cons (ps_set (i := 1) sc_PageLoans_lend.nd rfl (Or.inl rfl) (pe_bm PySem.F.plainAttrs_list PySem.F.slot_list_pop PySem.F.type_list_pop mt_popAt (pe_fld (pv 0) (by rfl)) (pa_cons pe_int pa_nil)))
      (pss_cons (ps_if (pt_cmpR op_eq (pe_ix ix_tup (pv 1) pe_int (fun _ _ => rfl)) (pe_gstr (by rfl) T.g_WRITE) (nomark _)) (pss_one (ps_expr (pe_meth (pv 0) T.c_PageLoans T.mt_PageLoans_let_write (ok_PageLoans_let_write T) (hr.mono (by decide) : Room 1 _) T.b_PageLoans_let_write .nil pass0 (pa_cons (pe_ix ix_tup (pv 1) pe_int (fun _ _ => rfl)) pa_nil)))) (pss_one (ps_expr (pe_meth (pv 0) T.c_PageLoans T.mt_PageLoans_let_read (ok_PageLoans_let_read T) (hr.mono (by decide) : Room 1 _) T.b_PageLoans_let_read .nil pass0 (pa_cons (pe_ix ix_tup (pv 1) pe_int (fun _ _ => rfl)) pa_nil)))))
      (pss_one (ps_ret (pe_tup (pa_cons (pe_ix ix_tup (pv 1) pe_int (fun _ _ => rfl)) (pa_cons (pe_call (ok_lend_letter T) (hr.mono (by decide) : Room 1 _) (by rfl) T.m_lend_letter T.F_lend_letter.kp T.b_lend_letter .nil pass0 (pa_cons (pe_fld (pv 0) (by rfl)) (pa_cons (pe_ix ix_tup (pv 1) pe_int (fun _ _ => rfl)) (pa_cons (pe_fld (pv 0) (by rfl)) pa_nil)))) pa_nil))))))), ?_⟩
    try dsimp only [cxOf, Cx.nox]
    show let Z1 : L2.TS := _; let Z2 : L2.TS := _; let Z3 : L2.TS := _; let Z4 : L2.TS := tIfS _ Z2 Z3; let Z5 : L2.TS := _; let D0 : Ends := _; (tSeq Z1 (tSeq Z4 (Z5))) D0 _ _
    intro Z1 Z2 Z3 Z4 Z5 D0
    obtain ⟨⟨dx, h1⟩, h2, ⟨vs, h3, h4⟩, h5⟩ := id PA
    rw [ha] at h4
    obtain ⟨tt, us, rfl, h6, h7⟩ := askD_cons h4
    refine ⟨_, rfl, a, _, dx, _, _, rfl, h1, T.c_PageLoans, T.na_PageLoans_asked, pfl_asked, .inl ⟨rfl, _, SqL.of h3⟩, q, _, 0, 0, _, rfl, rfl, h3, (by decide), (by decide), six0 _ _, rfl, ?_⟩
    have P1 := PA.wrQ (l := l) (vs := us) h7
    have t1 : (upd H q (.lst us)) tt = some (.tup [.int d, .str x.s]) := by rw [upd_ne (ne_of h6 h3 (by intro z; cases z))]; exact h6
    -- the letter
    have fin : ∀ r' H1, (r' = r ∨ H r' = none) → PgAt t.C_PageLoans H1 a r' q p g.lent → PF H H1 a r q → g.lent.num = g.num →
        (tRet (tTup (tCons (tOp (rIxT K) (tVar 1) (tC (.int 0))) (tCons (tCall spLend4 [] E0 (tCons (tFld K (tVar 0) "page") (tCons (tOp (rIxT K) (tVar 1) (tC (.int 1))) (tCons (tFld K (tVar 0) "number") tNil)))) tNil)))) { nx := fun _ H' => Q .non H', rt := Q } [some (.ref a), some (.ref tt)] H1 := fun r' H1 hr' P2 f2 en => by
      have t2 := (f2.tups PA) tt _ h6
      obtain ⟨⟨dx2, g1⟩, _⟩ := id P2
      refine ⟨_, rfl, tt, _, 0, _, rfl, rfl, SqT.of t2, rfl, _, rfl, a, _, dx2, _, _, rfl, g1, T.c_PageLoans, T.na_PageLoans_page, pfl_page, _, rfl, tt, _, 1, _, rfl, rfl, SqT.of t2, rfl, _, rfl, a, _, dx2, _, _, rfl, g1, T.c_PageLoans, T.na_PageLoans_number, pfl_number, _, _, _, rfl, fun b hb => ?_⟩
      refine ⟨(by show 2 ≤ sizeLine; decide), fun c hc => ?_⟩
      refine k _ r' _ hr' ((P2.new hb).new hc) (f2.trans' ((PF.new hb).trans (PF.new hc)) hr') ?_
      simp only [pairD, Let.d, Rep, RepL]
      refine ⟨c, _, rfl, upd_same, _, _, rfl, rfl, _, _, rfl, ⟨b, [.str "lend", .int p, .str x.s, .int g.lent.num], rfl, ?_, _, _, rfl, rfl, _, _, rfl, rfl, _, _, rfl, rfl, _, _, rfl, ?_, rfl⟩, rfl⟩
      · rw [upd_ne, upd_same]; intro z; rw [z, upd_same] at hc; cases hc
      · rw [en]
    have hlent : g.lent = if x = .wr then letWrite { g with ask := l } d else letRead { g with ask := l } d := by unfold PG.lent; rw [ha]
    obtain ⟨⟨dx1, g1⟩, _⟩ := id P1
    refine ⟨_, rfl, tt, _, 1, _, rfl, rfl, SqT.of t1, rfl, rfl, _, rfl, ?_⟩
    rcases hx with hx | hx
    · subst hx
      refine iteFb (rt_ne (x := "write") (q := .wr) rfl (by intro z; cases z)) ?_
      refine ⟨_, rfl, a, dx1, _, rfl, g1, pfl_lr, _, rfl, tt, _, 0, _, rfl, rfl, SqT.of t1, rfl, a, r, q, p, _, d, rfl, P1, hl, fun H2 P2 f2 => ?_⟩
      refine fin r H2 (.inl rfl) ?_ (PF.wrQ.trans f2) (by rw [hlent]; rfl)
      rw [hlent, if_neg (by intro z; cases z)]
      exact P2
    · subst hx
      refine iteTb vs_eq ?_
      refine ⟨_, rfl, a, dx1, _, rfl, g1, pfl_lw, _, rfl, tt, _, 0, _, rfl, rfl, SqT.of t1, rfl, a, r, q, p, _, d, rfl, P1, fun r' H2 hr' P2 f2 => ?_⟩
      have nq : r' ≠ q := by intro z; rw [z, upd_same] at hr'; cases hr'
      refine fin r' H2 (.inr (by rw [← hr', upd_ne nq])) ?_ (PF.wrQ.trans f2) (by rw [hlent]; rfl)
      rw [hlent, if_pos rfl]
      exact P2
end
end K07
namespace K07
open PySem L2
section
variable {P : Program} {w : World} {K : PySem.W.Frag} {mg : Str → Option Value} {base : Heap} {t : Adr}
theorem pairD_back {H : Hp} {b c : Addr} {d p : Nat} {x : Rt} {vs : List V} (hc : H c = some (.tup [.int d, .ref b])) (hb : H b = some (.tup [.str "back", .int p, .str x.s])) : Rep H (.ref c) (pairD (d, .back p x)) := by
  simp only [pairD, Let.d, Rep, RepL]
  exact ⟨c, _, rfl, hc, _, _, rfl, rfl, _, _, rfl, ⟨b, _, rfl, hb, _, _, rfl, rfl, _, _, rfl, rfl, _, _, rfl, rfl, rfl⟩, rfl⟩
theorem wBids_none {g : PG} {p d : Nat} {x : Rt} (h : g.wr = none) : wBids g p d x = [] := by unfold wBids; rw [h]
theorem wBids_own {g : PG} {p d : Nat} {x : Rt} (h : g.wr = some d) : wBids g p d x = [] := by unfold wBids; rw [h]; simp
theorem wBids_other {g : PG} {p d wv : Nat} {x : Rt} (h : g.wr = some wv) (hn : wv ≠ d) : wBids g p d x = [(wv, .back p (low x))] := by unfold wBids; rw [h]; simp [hn]
theorem ok_PageLoans_bids_for_first (T : Txt K w mg t) : FnOk P w K mg base CX0 2 t.f_PageLoans_bids_for_first t.fd_PageLoans_bids_for_first ["self"] (spBids t.C_PageLoans) := by
  refine T.F_PageLoans_bids_for_first.ok sc_PageLoans_bids_for_first (fun vs H Q E h => ?_) (fun cdv A outer s H vs Q E hr h => ?_)
  · obtain ⟨a, r, q, p, g, d, x, l, rfl, _⟩ := h; rfl
  · obtain ⟨a, r, q, p, g, d, x, l, rfl, PA, ha, hx, hl, k⟩ := h
    refine ⟨_, (pss_cons (ps_set (i := 1) sc_PageLoans_bids_for_first.nd rfl (Or.inr rfl) (pe_ix ix_tup (pe_ix ix_list (pe_fld (pv 0) (by rfl)) pe_int (fun _ _ => rfl)) pe_int (fun _ _ => rfl)))
      (pss_cons (ps_set (i := 2) sc_PageLoans_bids_for_first.nd rfl (Or.inl rfl) (pe_ix ix_tup (pe_ix ix_list (pe_fld (pv 0) (by rfl)) pe_int (fun _ _ => rfl)) pe_int (fun _ _ => rfl)))
      (pss_cons (ps_set (i := 3) sc_PageLoans_bids_for_first.nd rfl (Or.inl rfl) (pe_lst pa_nil))
      (pss_cons (ps_if (PW.pt (pw_and (pt_cmp (pc_notN (pe_fld (pv 0) (by rfl)))) (pw_and1 (pt_cmpR op_ne (pe_fld (pv 0) (by rfl)) (pv 1) (nomark _))))) (pss_one (ps_expr (pe_bm PySem.F.plainAttrs_list PySem.F.slot_list_append PySem.F.type_list_append mt_append (pv 3) (pa_cons (pe_tup (pa_cons (pe_fld (pv 0) (by rfl)) (pa_cons (pe_call (ok_back_letter T) (hr.mono (by decide) : Room 1 _) (by rfl) T.m_back_letter T.F_back_letter.kp T.b_back_letter .nil pass0 (pa_cons (pe_fld (pv 0) (by rfl)) (pa_cons (pe_ifExp (pt_cmpR op_eq (pv 2) (pe_gstr (by rfl) T.g_READ) (nomark _)) (pe_gstr (by rfl) T.g_READ) (pe_gstr (by rfl) T.g_NONE)) pa_nil))) pa_nil))) pa_nil)))) pss_nil)
      (pss_cons (ps_if (pt_cmpR op_eq (pv 2) (pe_gstr (by rfl) T.g_WRITE) (nomark _)) (pss_one (ps_expr (pe_bm PySem.F.plainAttrs_list PySem.F.slot_list_extend PySem.F.type_list_extend mt_extendS (pv 3) (pa_cons (pe_comp (compScope (xs := ["desk"]) (ys := ["self", "asking"]) (js := [0, 1]) rfl (by decide +kernel) (by decide +kernel) (by decide +kernel) (by rfl) ⟨⟨rfl, Or.inl rfl⟩, ⟨⟨rfl, Or.inl rfl⟩, trivial⟩⟩) rfl (pi_list (pe_fld (pv 0) (by rfl))) (fun _ _ _ _ _ => (pg_name (i := 0) (show List.Nodup ((["desk"] : List Str) ++ (["self", "asking"] : List Str) : List Str) by decide +kernel) rfl (Or.inl rfl))) (fun _ _ _ _ _ => (pif_one (pt_cmpR op_ne (pv 0) (pv 2) (nomark _)))) (fun _ _ _ _ _ => (pe_tup (pa_cons (pv 0) (pa_cons (pe_call (ok_back_letter T) (hr.mono (by decide) : Room 1 _) (by rfl) T.m_back_letter T.F_back_letter.kp T.b_back_letter .nil pass0 (pa_cons (pe_fldK (K := K) rfl (pv 1) (by rfl)) (pa_cons (pe_gstr (by rfl) T.g_NONE) pa_nil))) pa_nil))))) pa_nil)))) pss_nil)
      (pss_one (ps_ret (pv 3)))))))), ?_⟩
    try dsimp only [cxOf, Cx.nox]
    show let Z1 : L2.TS := _; let Z2 : L2.TS := _; let Z3 : L2.TS := _; let Z4 : L2.TS := _; let Z5 : L2.TS := tIfS _ Z4 tNext; let Z6 : L2.TS := _; let Z7 : L2.TS := tIfS _ Z6 tNext; let Z8 : L2.TS := _; let D0 : Ends := _; (tSeq Z1 (tSeq Z2 (tSeq Z3 (tSeq Z5 (tSeq Z7 (Z8)))))) D0 _ _
    intro Z1 Z2 Z3 Z4 Z5 Z6 Z7 Z8 D0
    have sl : sizeLine = 16777216 := by decide
    obtain ⟨⟨dx, h1⟩, h2, ⟨vs, h3, h4⟩, h5⟩ := id PA
    rw [ha] at h4
    obtain ⟨tt, us, rfl, h6, h7⟩ := askD_cons h4
    refine ⟨_, rfl, a, _, dx, _, _, rfl, h1, T.c_PageLoans, T.na_PageLoans_asked, pfl_asked, q, _, 0, _, rfl, rfl, SqL.of h3, at0c _ _, tt, _, 0, _, rfl, rfl, SqT.of h6, rfl, ?_⟩
    refine ⟨_, rfl, a, _, dx, _, _, rfl, h1, T.c_PageLoans, T.na_PageLoans_asked, pfl_asked, q, _, 0, _, rfl, rfl, SqL.of h3, at0c _ _, tt, _, 1, _, rfl, rfl, SqT.of h6, rfl, ?_⟩
    refine ⟨(by show 0 ≤ sizeLine; decide), fun bl hb => ?_⟩
    have hbl : g.bids p = wBids g p d x ++ rBids g p d x := by unfold PG.bids; rw [ha]
    have s0 := same_new (o := .lst []) hb
    try dsimp only
    refine seq_via (fun σ' H' => σ' = [some (.ref a), some (.int d), some (.str x.s), some (.ref bl)] ∧ Same H H' ∧ ∃ us, H' bl = some (.lst us) ∧ us.length ≤ 1 ∧ RepL H' us ((wBids g p d x).map pairD)) (fun N hN => ?_) ?_
    · have l0 := s0 a _ h1
      refine ⟨_, rfl, a, _, dx, _, _, rfl, l0, T.c_PageLoans, T.na_PageLoans_writer, pfl_writer, _, rfl, ?_⟩
      cases hw : g.wr with
      | none =>
        refine iteFb rfl (iteF ?_)
        exact hN _ _ ⟨rfl, s0, [], upd_same, Nat.zero_le _, by rw [wBids_none hw]; simp [RepL]⟩
      | some wv =>
        have l1 : (pfl p g r q).lookup ("writer" : Str) = some (.int wv) := by rw [pfl_writer, hw]; rfl
        refine iteTb rfl ?_
        refine ⟨_, rfl, a, _, dx, _, _, rfl, l0, T.c_PageLoans, T.na_PageLoans_writer, l1, _, rfl, rfl, _, rfl, ?_⟩
        by_cases e : wv = d
        · subst e
          refine iteFb (by simp) ?_
          exact hN _ _ ⟨rfl, s0, [], upd_same, Nat.zero_le _, by rw [wBids_own hw]; simp [RepL]⟩
        · refine iteTb (by rw [decide_eq_false fun z => e (by have := V.int.inj z; lia)]; rfl) ?_
          have go : ∀ c, (∀ z : Rt, z = low x → c = V.str z.s) → (tBM K "list" rAppend (tVar 3) (tCons (tTup (tCons (tFld K (tVar 0) "writer") (tCons (tCall (spTup "back") [] E0 (tCons (tFld K (tVar 0) "page") (tCons (tC c) tNil))) tNil))) tNil)) [some (.ref a), some (.int d), some (.str x.s), some (.ref bl)] (upd H bl (.lst [])) fun _ H' => N [some (.ref a), some (.int d), some (.str x.s), some (.ref bl)] H' := fun c hcc => by
            obtain rfl := hcc _ rfl
            refine ⟨_, rfl, .inl ⟨rfl, _, SqL.of upd_same⟩, _, rfl, a, _, dx, _, _, rfl, l0, T.c_PageLoans, T.na_PageLoans_writer, l1, _, rfl, a, _, dx, _, _, rfl, l0, T.c_PageLoans, T.na_PageLoans_page, pfl_page, _, _, rfl, fun b hb1 => ?_⟩
            refine ⟨(by show 2 ≤ sizeLine; decide), fun cc hc1 => ?_⟩
            have nb : bl ≠ b := fun z => by rw [← z, upd_same] at hb1; cases hb1
            have nc : bl ≠ cc := fun z => by rw [← z, upd_ne nb, upd_same] at hc1; cases hc1
            have ncb : b ≠ cc := fun z => by rw [z, upd_same] at hc1; cases hc1
            refine ⟨bl, [], _, rfl, rfl, (by rw [upd_ne nc, upd_ne nb, upd_same]), (by show 0 < sizeLine; decide), ?_⟩
            refine hN _ _ ⟨rfl, ?_, _, upd_same, Nat.le_refl _, ?_⟩
            · exact same_upd ((s0.trans (same_new hb1)).trans (same_new hc1)) hb
            · rw [wBids_other hw e]
              simp only [List.map_cons, List.map_nil, RepL]
              refine ⟨_, _, rfl, pairD_back (b := b) (vs := []) (by rw [upd_ne nc.symm, upd_same]) (by rw [upd_ne nb.symm, upd_ne ncb, upd_same]), rfl⟩
          rcases hx with hx | hx
          · subst hx
            have := go (.str "read") (fun z hz => by rw [hz]; rfl)
            obtain ⟨v0, e0, ty, a1⟩ := this
            refine ⟨v0, e0, ty, ?_⟩
            obtain ⟨v1, e1, a', C', dx', fs', v', a2⟩ := a1
            obtain ⟨i1, i2, i3, i4, i5, v2, e2, a'', C'', dx'', fs'', v'', j1, j2, j3, j4, j5, a3⟩ := a2
            refine ⟨v1, e1, a', C', dx', fs', v', i1, i2, i3, i4, i5, v2, e2, a'', C'', dx'', fs'', v'', j1, j2, j3, j4, j5, ?_⟩
            refine ⟨_, rfl, rfl, _, rfl, ?_⟩
            exact iteTb vs_eq a3
          · subst hx
            have := go (.str "none") (fun z hz => by rw [hz]; rfl)
            obtain ⟨v0, e0, ty, a1⟩ := this
            refine ⟨v0, e0, ty, ?_⟩
            obtain ⟨v1, e1, a', C', dx', fs', v', a2⟩ := a1
            obtain ⟨i1, i2, i3, i4, i5, v2, e2, a'', C'', dx'', fs'', v'', j1, j2, j3, j4, j5, a3⟩ := a2
            refine ⟨v1, e1, a', C', dx', fs', v', i1, i2, i3, i4, i5, v2, e2, a'', C'', dx'', fs'', v'', j1, j2, j3, j4, j5, ?_⟩
            refine ⟨_, rfl, rfl, _, rfl, ?_⟩
            exact iteFb (rt_ne (r := .wr) (x := "read") (q := .rd) rfl (by intro z; cases z)) a3
    · rintro σ' H1 ⟨rfl, s1, us1, hb1, hl1, rp1⟩
      have l0 := s1 a _ h1
      try dsimp only
      refine seq_via (fun σ' H' => σ' = [some (.ref a), some (.int d), some (.str x.s), some (.ref bl)] ∧ Same H H' ∧ ∃ us, H' bl = some (.lst us) ∧ RepL H' us ((g.bids p).map pairD)) (fun N hN => ?_) ?_
      · refine ⟨_, rfl, rfl, _, rfl, ?_⟩
        rcases hx with hx | hx
        · subst hx
          refine iteFb (rt_ne (x := "write") (q := .wr) rfl (by intro z; cases z)) ?_
          refine hN _ _ ⟨rfl, s1, us1, hb1, ?_⟩
          rw [hbl]
          have : rBids g p d .rd = [] := by unfold rBids; rw [if_neg (by intro z; cases z)]
          rw [this, List.append_nil]
          exact rp1
        · subst hx
          refine iteTb vs_eq ?_
          refine ⟨_, rfl, .inl ⟨rfl, _, SqL.of hb1⟩, ?_⟩
          refine ⟨_, rfl, a, _, dx, _, _, rfl, l0, T.c_PageLoans, T.na_PageLoans_readers, pfl_readers, r, rfl, ⟨_, SqL.of (s1 _ _ h2)⟩, fun acc hacc => ?_⟩
          have nbl : bl ≠ acc := ne_of_none hb1 hacc
          have sacc : Same H1 (upd H1 acc (.lst [])) := same_new hacc
          let PV1 : Nat → List V → St → Hp → Prop := fun i zs σ' H' => (∃ o, σ' = [o, some (.ref a), some (.int d)]) ∧ Same H1 H' ∧ H' acc = some (.lst zs) ∧ zs.length ≤ i ∧ RepL H' zs ((((g.rd.take i).filter fun e => decide (e ≠ d)).map fun e => (e, Let.back p .no)).map pairD)
          refine comp_list (xs := g.rd.map nV) PV1 ?_ ?_ ?_ ?_
          · exact ⟨⟨_, rfl⟩, sacc, upd_same, Nat.le_refl _, by simp [RepL]⟩
          · rintro i zs σ' H' _ ⟨_, s', ha', _⟩
            exact ⟨SqL.of (s' _ _ (s1 _ _ h2)), ha'⟩
          · rintro i y zs σ' H' hy hi ⟨⟨o, rfl⟩, s', ha', hz, rp⟩
            rw [List.length_map] at hi
            have hy' : y = .int (g.rd[i] : Nat) := by
              rw [List.getElem?_map, List.getElem?_eq_getElem hi] at hy
              exact (Option.some.inj hy).symm
            subst hy'
            have htk : g.rd.take (i + 1) = g.rd.take i ++ [g.rd[i]] := by rw [List.take_add_one, List.getElem?_eq_getElem hi]; rfl
            refine ⟨_, rfl, _, rfl, rfl, _, rfl, ?_⟩
            by_cases e : g.rd[i] = d
            · refine iteFb (by rw [e]; simp) (CSkip.mk (by rw [List.length_map]; exact hi) ?_)
              refine ⟨⟨_, rfl⟩, s', ha', by lia, ?_⟩
              rw [htk, List.filter_append, List.filter_cons_of_neg (by simp [e])]
              simpa using rp
            · refine iteTb (by rw [decide_eq_false fun z => e (by have := V.int.inj z; lia)]; rfl) ?_
              refine ⟨_, rfl, _, rfl, a, _, dx, _, _, rfl, s' _ _ l0, T.c_PageLoans, T.na_PageLoans_page, pfl_page, _, _, rfl, fun b hb2 => ?_⟩
              refine ⟨(by show 2 ≤ sizeLine; decide), fun cc hc2 => ?_⟩
              have nb : acc ≠ b := ne_of_none ha' hb2
              have nc : acc ≠ cc := fun z => by rw [← z, upd_ne nb] at hc2; rw [hc2] at ha'; cases ha'
              have ncb : b ≠ cc := fun z => by rw [z, upd_same] at hc2; cases hc2
              have h6' : upd (upd H' b (.tup [.str "back", .int p, .str "none"])) cc (.tup [.int (g.rd[i] : Nat), .ref b]) acc = some (.lst zs) := by rw [upd_ne nc, upd_ne nb]; exact ha'
              have hz2 : zs.length < sizeLine := by lia
              refine CStep.mk (by rw [List.length_map]; exact hi) h6' hz2 ?_
              have sup : Same H' (upd (upd H' b (.tup [.str "back", .int p, .str "none"])) cc (.tup [.int (g.rd[i] : Nat), .ref b])) := (same_new hb2).trans (same_new hc2)
              refine ⟨⟨_, rfl⟩, ?_, upd_same, by rw [List.length_append]; simp; lia, ?_⟩
              · exact same_upd (s'.trans sup) hacc
              · rw [htk, List.filter_append, List.filter_cons_of_pos (by simp [e]), List.filter_nil, List.map_append, List.map_append]
                have tm := tup_lst (vs := zs ++ [.ref cc]) h6'
                refine RepL.snoc ((rp.tmono (same_tup sup) (pairD_flat _)).tmono tm (pairD_flat _)) ?_
                exact pairD_back (b := b) (x := .no) (vs := []) (by rw [upd_ne nc.symm, upd_same]) (by rw [upd_ne nb.symm, upd_ne ncb, upd_same]; rfl)
          · rintro zs σ' H' ⟨_, s', ha', hz, rp⟩
            rw [List.length_map] at hz rp
            rw [List.take_length] at rp
            have hb' := s' _ _ hb1
            refine ⟨bl, acc, us1, zs, rfl, rfl, hb', .inl (SqL.of ha'), by lia, ?_⟩
            have hbn : H bl = none := hb
            refine hN _ _ ⟨rfl, same_upd (s1.trans s') hbn, _, upd_same, ?_⟩
            have tm := tup_lst (vs := us1 ++ zs) hb'
            have hrb : rBids g p d .wr = (g.rd.filter fun e => decide (e ≠ d)).map fun e => (e, Let.back p .no) := by unfold rBids; rw [if_pos rfl]
            rw [hbl, List.map_append, hrb]
            exact RepL.append ((rp1.tmono (same_tup s') (pairD_flat _)).tmono tm (pairD_flat _)) (rp.tmono tm (pairD_flat _))
      · rintro σ' H2 ⟨rfl, s2, us2, hb2, rp2⟩
        exact ⟨_, rfl, k bl us2 H2 hb s2 hb2 rp2⟩
end
end K07
namespace K07
open PySem L2
section
variable {P : Program} {w : World} {K : PySem.W.Frag} {mg : Str → Option Value} {base : Heap} {t : Adr}
theorem RepL.cons_inv {H : Hp} {vs : List V} {d : D} {ds : List D} (h : RepL H vs (d :: ds)) : ∃ v r, vs = v :: r ∧ Rep H v d ∧ RepL H r ds := by simpa only [RepL] using h
theorem RepL.nil_inv {H : Hp} {vs : List V} (h : RepL H vs []) : vs = [] := by simpa only [RepL] using h
theorem RepL.isEmpty {H : Hp} {vs : List V} {ds : List D} (h : RepL H vs ds) : vs.isEmpty = ds.isEmpty := by
  have := h.length
  cases vs <;> cases ds <;> simp_all
theorem PgAt.lst_ne {C : Addr} {H : Hp} {a r q l : Addr} {p : Nat} {g : PG} {vs : List V} (PA : PgAt C H a r q p g) (h : H l = some (.lst vs)) : l ≠ a := by
  obtain ⟨⟨dx, h1⟩, _⟩ := PA
  exact ne_of h h1 (by intro z; cases z)
/-- a list beside the page's own is written -/
theorem PgAt.wrL {C : Addr} {H : Hp} {a r q l : Addr} {p : Nat} {g : PG} {us vs : List V} (PA : PgAt C H a r q p g) (h : H l = some (.lst us)) (nr : l ≠ r) (nq : l ≠ q) : PgAt C (upd H l (.lst vs)) a r q p g :=
  PA.keep (tup_lst h) (fun o e => by rw [upd_ne (PA.lst_ne h).symm]; exact e) (fun o e => by rw [upd_ne nr.symm]; exact e) fun o e => by rw [upd_ne nq.symm]; exact e
theorem wBids_len (g : PG) (p d : Nat) (x : Rt) : (wBids g p d x).length ≤ 1 := by
  unfold wBids
  split
  · split <;> simp
  · simp
theorem bids_len (g : PG) (p : Nat) : (g.bids p).length ≤ g.rd.length + 1 := by
  unfold PG.bids
  split
  · simp
  · rename_i a r l _
    rw [List.length_append]
    have h1 := wBids_len g p a r
    have h2 : (rBids g p a r).length ≤ g.rd.length := by
      unfold rBids
      split
      · rw [List.length_map]; exact List.length_filter_le _ _
      · simp
    lia
theorem serve_len : ∀ (k : Nat) (g : PG) (p : Nat), (serveN k g p).2.length ≤ k + g.mu + 1
  | 0, g, p => by simp [serveN]
  | k + 1, g, p => by
    rw [serveN]
    split
    · have := serve_len k g.lent p
      have h2 := g.lent_mu
      have h3 : (g.lend1 p).length ≤ 1 := by unfold PG.lend1; split <;> simp
      simp only [List.length_append]
      lia
    · have := bids_len g p
      simp only
      unfold PG.mu
      lia
theorem PG.serve_len (g : PG) (p : Nat) : (g.serve p).2.length ≤ 2 * g.mu + 1 := by
  have := K07.serve_len g.ask.length g p
  unfold PG.serve
  have h2 : g.ask.length ≤ g.mu := by unfold PG.mu; lia
  lia
theorem ok_PageLoans_serve (T : Txt K w mg t) : FnOk P w K mg base CX0 3 t.f_PageLoans_serve t.fd_PageLoans_serve ["self"] (spServe t.C_PageLoans) := by
  refine T.F_PageLoans_serve.ok sc_PageLoans_serve (fun vs H Q E h => ?_) (fun cdv A outer s H vs Q E hr h => ?_)
  · obtain ⟨a, r, q, p, g, rfl, _⟩ := h; rfl
  · obtain ⟨a, r, q, p, g0, rfl, PA, hrw, hmu, k⟩ := h
    have sl : sizeLine = 16777216 := by decide
    refine ⟨_, (pss_cons (ps_set (i := 1) sc_PageLoans_serve.nd rfl (Or.inl rfl) (pe_lst pa_nil))
      (pss_cons (ps_while PassesOwn.never (pt_truth (pe_fld (pv 0) (by rfl)) (fun _ => rfl)) (pss_cons (ps_set (i := 2) sc_PageLoans_serve.nd rfl (Or.inl rfl) (pe_meth0 (pv 0) T.c_PageLoans T.mt_PageLoans_bids_for_first (ok_PageLoans_bids_for_first T) (hr.mono (by decide) : Room 2 _) T.b_PageLoans_bids_for_first .nil pass0))
      (pss_cons (ps_if (pt_truth (pv 2) (fun _ => rfl)) (pss_cons (ps_fld (pv 0) (pe_callB call_len_seq (by rfl) T.n_len PySem.boot_len (pa_cons (pv 2) pa_nil)) (by rfl))
      (pss_one (ps_ret (pe_op op_cat (pv 1) (pv 2))))) pss_nil)
      (pss_one (ps_expr (pe_bm PySem.F.plainAttrs_list PySem.F.slot_list_append PySem.F.type_list_append mt_append (pv 1) (pa_cons (pe_meth0 (pv 0) T.c_PageLoans T.mt_PageLoans_lend (ok_PageLoans_lend T) (hr.mono (by decide) : Room 2 _) T.b_PageLoans_lend .nil pass0) pa_nil)))))))
      (pss_one (ps_ret (pv 1))))), ?_⟩
    try dsimp only [cxOf, Cx.nox]
    show let Z1 : L2.TS := _; let Z2 : L2.TS := _; let Z3 : L2.TS := _; let Z4 : L2.TS := _; let Z5 : L2.TS := tSeq Z3 (Z4); let Z6 : L2.TS := tIfS _ Z5 tNext; let Z7 : L2.TS := _; let Z8 : L2.TS := tSeq Z2 (tSeq Z6 (Z7)); let Z9 : L2.TS := tWhile _ Z8; let Z10 : L2.TS := _; let D0 : Ends := _; (tSeq Z1 (tSeq Z9 (Z10))) D0 _ _
    intro Z1 Z2 Z3 Z4 Z5 Z6 Z7 Z8 Z9 Z10 D0
    refine ⟨(by show 0 ≤ sizeLine; decide), fun l hl => ?_⟩
    have nlr : l ≠ r := (ne_of_none PA.rl hl).symm
    have nlq : l ≠ q := by obtain ⟨_, _, ⟨vs, h3, _⟩, _⟩ := PA; exact (ne_of_none h3 hl).symm
    refine ⟨fun m σ H1 => ∃ o g r1 vs acc, σ = [some (.ref a), some (.ref l), o] ∧ (r1 = r ∨ H r1 = none) ∧ l ≠ r1 ∧ PgAt t.C_PageLoans H1 a r1 q p g ∧ PF H H1 a r q ∧ H1 l = some (.lst vs) ∧ RepL H1 vs (acc.map pairD) ∧ Rw g.ask ∧ g.mu ≤ 1000000 ∧ acc.length + g.ask.length ≤ g0.ask.length ∧
      (g0.serve p).1 = (g.serve p).1 ∧ (g0.serve p).2 = acc ++ (g.serve p).2 ∧ m = g.ask.length, ⟨_, none, g0, r, [], [], rfl, .inl rfl, nlr, PA.new hl, PF.new hl, upd_same, by simp [RepL], hrw, hmu, by simp, rfl, by simp, rfl⟩, ?_⟩
    rintro m σ H1 ⟨o, g, r1, vs, acc, rfl, hr1, nl1, P1, f1, hl1, rp, rw1, mu1, len1, se1, se2, rfl⟩
    have hlen0 : g0.ask.length ≤ 1000000 := by unfold PG.mu at hmu; lia
    have hvl : vs.length = acc.length := by rw [rp.length, List.length_map]
    obtain ⟨⟨dx, h1⟩, h2, ⟨us, h3, h4⟩, h5⟩ := id P1
    refine ⟨_, rfl, a, _, dx, _, _, rfl, h1, T.c_PageLoans, T.na_PageLoans_asked, pfl_asked, _, .inl ⟨us, SqL.of h3, rfl⟩, ?_⟩
    cases hask : g.ask with
    | nil =>
      rw [hask] at h4
      have := RepL.nil_inv (by simpa using h4)
      subst this
      refine iteFb rfl ?_
      refine ⟨_, rfl, k l r1 vs H1 hl hr1 nl1 ?_ f1 hl1 ?_⟩
      · rw [se1, serve_nil hask]; exact P1
      · rw [se2, serve_nil hask, List.append_nil]; exact rp
    | cons x0 q0 =>
      obtain ⟨d, x⟩ := x0
      have hx : x = .rd ∨ x = .wr := rw1 (d, x) (by rw [hask]; simp)
      have hne : g.ask ≠ [] := by rw [hask]; simp
      have hlen : us.length = g.ask.length := by rw [h4.length, List.length_map]
      have hrdl : g.rd.length ≤ 1000000 := by unfold PG.mu at mu1; lia
      refine iteTb (by cases us with | nil => rw [hask] at hlen; simp at hlen | cons _ _ => rfl) ?_
      refine ⟨fun σ' H' => ∃ m', m' < q0.length + 1 ∧ ∃ o g r1 vs acc, σ' = [some (.ref a), some (.ref l), o] ∧ (r1 = r ∨ H r1 = none) ∧ l ≠ r1 ∧ PgAt t.C_PageLoans H' a r1 q p g ∧ PF H H' a r q ∧ H' l = some (.lst vs) ∧ RepL H' vs (acc.map pairD) ∧ Rw g.ask ∧ g.mu ≤ 1000000 ∧ acc.length + g.ask.length ≤ g0.ask.length ∧
        (g0.serve p).1 = (g.serve p).1 ∧ (g0.serve p).2 = acc ++ (g.serve p).2 ∧ m' = g.ask.length, fun σ' H' z => z, ?_⟩
      -- bids = self.bids_for_first()
      refine ⟨_, rfl, a, dx, _, rfl, h1, pfl_bids, a, r1, q, p, g, d, x, q0, rfl, P1, hask, hx, hrdl, fun b bs H2 hb s2 hb2 rpb => ?_⟩
      have P2 := P1.same s2
      have hl2 := s2 _ _ hl1
      have nbl : b ≠ l := (ne_of_none hl1 hb).symm
      obtain ⟨⟨dx2, g1⟩, _⟩ := id P2
      have hbl : bs.length = (g.bids p).length := by rw [rpb.length, List.length_map]
      refine ⟨_, rfl, _, .inl ⟨bs, SqL.of hb2, rfl⟩, ?_⟩
      by_cases he : g.bids p = []
      · have e0 : bs = [] := by rw [he] at hbl; exact List.length_eq_zero_iff.mp hbl
        subst e0
        refine iteFb rfl ?_
        -- sent.append(self.lend())
        refine ⟨_, rfl, .inl ⟨rfl, _, SqL.of hl2⟩, _, rfl, a, dx2, _, rfl, g1, pfl_lend, a, r1, q, p, g, d, x, q0, rfl, P2, hask, hx, hrdl, fun v r2 H3 hr2 P3 f3 rv => ?_⟩
        have nq : l ≠ q := nlq
        have hl3 : H3 l = some (.lst vs) := f3.kp l _ hl2 (P2.lst_ne hl2) nl1 nq
        have nl2 : l ≠ r2 := by
          rcases hr2 with z | z
          · rw [z]; exact nl1
          · exact ne_of_none hl2 z
        have t3 := f3.tups P2
        refine ⟨l, vs, v, rfl, rfl, hl3, by lia, ?_⟩
        refine ⟨_, ?_, _, g.lent, r2, vs ++ [v], acc ++ [(d, .lend p x g.num)], rfl, ?_, nl2, P3.wrL hl3 nl2 nq, ?_, upd_same, ?_, ?_, Nat.le_trans g.lent_mu mu1, ?_, ?_, ?_, rfl⟩
        · rw [PG.lent_len, hask]; simp
        · rcases hr2 with z | z
          · rw [z]; exact hr1
          · exact .inr (f1.lv _ (Lv.same s2 _ z))
        · refine ⟨fun b' o' e' h1' h2' h3' => ?_, f1.lv.trans ((Lv.same s2).trans (f3.lv.trans Lv.upd))⟩
          have e2' := s2 _ _ (f1.kp b' o' e' h1' h2' h3')
          have e3' := f3.kp b' o' e2' h1' (by
            rcases hr1 with z | z
            · rw [z]; exact h2'
            · exact ne_of_none e' z) h3'
          rw [upd_ne (ne_of_none e' hl)]
          exact e3'
        · rw [List.map_append]
          exact RepL.snoc (((rp.tmono (same_tup s2) (pairD_flat _)).tmono t3 (pairD_flat _)).tmono (tup_lst hl3) (pairD_flat _)) (rv.tmono (tup_lst hl3) (by simp [pairD, D.flat, D.flats]; exact Let.flat _))
        · have : g.lent.ask = q0 := by unfold PG.lent; rw [hask]; dsimp only; split <;> rfl
          rw [this]
          intro y hy
          exact rw1 y (by rw [hask]; exact List.mem_cons_of_mem _ hy)
        · rw [PG.lent_len, hask, List.length_append]
          rw [hask] at len1
          simp at len1 ⊢
          lia
        · rw [se1, serve_lend hne he]
        · rw [se2, serve_lend hne he]
          have : g.lend1 p = [(d, .lend p x g.num)] := by unfold PG.lend1; rw [hask]
          rw [this, List.append_assoc]
      · refine iteTb (by cases bs with | nil => exact absurd (List.length_eq_zero_iff.mp hbl.symm) he | cons _ _ => rfl) ?_
        -- self.awaited = len(bids); return sent + bids
        refine ⟨_, rfl, b, bs, rfl, .inl (SqL.of hb2), _, rfl, a, _, dx2, _, rfl, g1, T.c_PageLoans, T.na_PageLoans_awaited, pfl_len, ?_⟩
        rw [pfl_miss]
        have P3 := P2.wr (dx := dx2) (g' := { g with miss := (bs.length : Int) }) rfl rfl
        have hl3 : upd H2 a (.ins t.C_PageLoans dx2 (pfl p { g with miss := (bs.length : Int) } r1 q)) l = some (.lst vs) := by rw [upd_ne (P2.lst_ne hl2)]; exact hl2
        have hb3 : upd H2 a (.ins t.C_PageLoans dx2 (pfl p { g with miss := (bs.length : Int) } r1 q)) b = some (.lst bs) := by rw [upd_ne (P2.lst_ne hb2)]; exact hb2
        have t3 : TupSame H2 (upd H2 a (.ins t.C_PageLoans dx2 (pfl p { g with miss := (bs.length : Int) } r1 q))) := fun b' xs e => by rw [upd_ne (ne_of e g1 (by intro z; cases z))]; exact e
        have bl2 := bids_len g p
        refine ⟨_, rfl, _, rfl, l, b, vs, bs, rfl, rfl, hl3, hb3, by lia, fun c hc => ?_⟩
        have hcl : H c = none := f1.lv _ (Lv.same s2 _ (Lv.upd _ hc))
        refine k c r1 (vs ++ bs) _ hcl hr1 ?_ ?_ ?_ upd_same ?_
        · exact (ne_of_none P3.rl hc).symm
        · rw [se1, serve_bid hne he, ← hbl]; exact P3.new hc
        · refine ⟨fun b' o' e' h1' h2' h3' => ?_, f1.lv.trans ((Lv.same s2).trans (Lv.upd.trans Lv.upd))⟩
          have e2' := s2 _ _ (f1.kp b' o' e' h1' h2' h3')
          rw [upd_ne (ne_of_none e' hcl), upd_ne h1']
          exact e2'
        · rw [se2, serve_bid hne he, List.map_append]
          have tc := same_tup (same_new (o := .lst (vs ++ bs)) hc)
          exact RepL.append (((rp.tmono (same_tup s2) (pairD_flat _)).tmono t3 (pairD_flat _)).tmono tc (pairD_flat _)) ((rpb.tmono t3 (pairD_flat _)).tmono tc (pairD_flat _))
theorem ok_PageLoans_take_gave (T : Txt K w mg t) : FnOk P w K mg base CX0 1 t.f_PageLoans_take_gave t.fd_PageLoans_take_gave ["self", "desk", "number"] (spGave t.C_PageLoans) := by
  refine T.F_PageLoans_take_gave.ok sc_PageLoans_take_gave (fun vs H Q E h => ?_) (fun cdv A outer s H vs Q E hr h => ?_)
  · obtain ⟨a, r, q, p, g, d, n, rfl, _⟩ := h; rfl
  · obtain ⟨a, r, q, p, g, d, n, rfl, PA, k⟩ := h
    refine ⟨_, (pss_cons (ps_fld (pv 0) (pv 2) (by rfl))
      (pss_cons (ps_if (pt_cmpR op_eq (pe_fld (pv 0) (by rfl)) (pv 1) (nomark _)) (pss_one (ps_fld (pv 0) pe_non (by rfl))) pss_nil)
      (pss_one (ps_ret (pe_lst pa_nil))))), ?_⟩
    try dsimp only [cxOf, Cx.nox]
    show let Z1 : L2.TS := _; let Z2 : L2.TS := _; let Z3 : L2.TS := tIfS _ Z2 tNext; let Z4 : L2.TS := _; let D0 : Ends := _; (tSeq Z1 (tSeq Z3 (Z4))) D0 _ _
    intro Z1 Z2 Z3 Z4 D0
    obtain ⟨⟨dx, h1⟩, _⟩ := id PA
    refine ⟨_, rfl, _, rfl, a, _, dx, _, rfl, h1, T.c_PageLoans, T.na_PageLoans_number, pfl_len, ?_⟩
    rw [pfl_num]
    have P1 := PA.wr (dx := dx) (g' := { g with num := n }) rfl rfl
    have f1 : PF H (upd H a (.ins t.C_PageLoans dx (pfl p { g with num := n } r q))) a r q := PF.wr
    generalize upd H a (.ins t.C_PageLoans dx (pfl p { g with num := n } r q)) = H1 at P1 f1
    try dsimp only [tNext]
    refine seq_via (fun σ' H' => σ' = [some (.ref a), some (.int d), some (.int n)] ∧ PgAt t.C_PageLoans H' a r q p { g with num := n, wr := if g.wr = some d then none else g.wr } ∧ PF H H' a r q) (fun N hN => ?_) ?_
    · obtain ⟨⟨dx1, g1⟩, _⟩ := id P1
      have sc : scal (wrV g.wr) (.int d) = true := by cases g.wr <;> rfl
      refine ⟨_, rfl, a, _, dx1, _, _, rfl, g1, T.c_PageLoans, T.na_PageLoans_writer, pfl_writer, _, rfl, sc, _, rfl, ?_⟩
      by_cases e : g.wr = some d
      · refine iteTb (by show decide (wrV g.wr = V.int d) = true; rw [e]; exact decide_eq_true rfl) ?_
        refine ⟨_, rfl, a, _, dx1, _, rfl, g1, T.c_PageLoans, T.na_PageLoans_writer, pfl_len, ?_⟩
        rw [pfl_wrN]
        refine hN _ _ ⟨rfl, ?_, f1.trans PF.wr⟩
        rw [if_pos e]
        exact P1.wr rfl rfl
      · refine iteFb (decide_eq_false fun z => e ?_) ?_
        · cases hw : g.wr with
          | none => rw [hw] at z; cases z
          | some x => rw [hw] at z; have := V.int.inj z; exact congrArg some (by lia)
        · refine hN _ _ ⟨rfl, ?_, f1⟩
          rw [if_neg e]
          exact P1
    · rintro σ' H2 ⟨rfl, P2, f2⟩
      refine ⟨(by show 0 ≤ sizeLine; decide), fun l hl => ?_⟩
      exact k l r [] _ (f2.lv _ hl) (.inl rfl) (ne_of_none P2.rl hl).symm (P2.new hl) (f2.trans (PF.new hl)) upd_same (by simp [PG.take, RepL])
theorem ok_PageLoans_take_ask (T : Txt K w mg t) : FnOk P w K mg base CX0 4 t.f_PageLoans_take_ask t.fd_PageLoans_take_ask ["self", "desk", "right"] (spAsk t.C_PageLoans) := by
  refine T.F_PageLoans_take_ask.ok sc_PageLoans_take_ask (fun vs H Q E h => ?_) (fun cdv A outer s H vs Q E hr h => ?_)
  · obtain ⟨a, r, q, p, g, x, d, rfl, _⟩ := h; rfl
  · obtain ⟨a, r, q, p, g, x, d, rfl, PA, hx, hrw, hmu, k⟩ := h
    have sl : sizeLine = 16777216 := by decide
    refine ⟨_, (pss_cons (ps_expr (pe_bm PySem.F.plainAttrs_list PySem.F.slot_list_append PySem.F.type_list_append mt_append (pe_fld (pv 0) (by rfl)) (pa_cons (pe_tup (pa_cons (pv 1) (pa_cons (pv 2) pa_nil))) pa_nil)))
      (pss_one (ps_ret (pe_ifExp (pt_cmpR op_eq (pe_callB call_len_seq (by rfl) T.n_len PySem.boot_len (pa_cons (pe_fld (pv 0) (by rfl)) pa_nil)) pe_int (nomark _)) (pe_meth0 (pv 0) T.c_PageLoans T.mt_PageLoans_serve (ok_PageLoans_serve T) (hr.mono (by decide) : Room 3 _) T.b_PageLoans_serve .nil pass0) (pe_lst pa_nil))))), ?_⟩
    try dsimp only [cxOf, Cx.nox]
    show let Z1 : L2.TS := _; let Z2 : L2.TS := _; let D0 : Ends := _; (tSeq Z1 (Z2)) D0 _ _
    intro Z1 Z2 D0
    obtain ⟨⟨dx, h1⟩, h2, ⟨vs, h3, h4⟩, h5⟩ := id PA
    have hvl : vs.length = g.ask.length := by rw [h4.length, List.length_map]
    have hal : g.ask.length ≤ 900000 := by unfold PG.mu at hmu; lia
    refine ⟨_, rfl, a, _, dx, _, _, rfl, h1, T.c_PageLoans, T.na_PageLoans_asked, pfl_asked, .inl ⟨rfl, _, SqL.of h3⟩, _, rfl, _, rfl, (by show 2 ≤ sizeLine; decide), fun tt ht => ?_⟩
    have s1 := same_new (o := .tup [.int d, .str x.s]) ht
    refine ⟨q, vs, _, rfl, rfl, s1 _ _ h3, by lia, ?_⟩
    have rp : RepL (upd H tt (.tup [.int d, .str x.s])) (vs ++ [.ref tt]) ((g.ask ++ [(d, x)]).map askD) := by
      rw [List.map_append]
      refine RepL.snoc (h4.tmono (same_tup s1) (askD_flat _)) ?_
      simp only [askD, Rep, RepL]
      exact ⟨tt, _, rfl, upd_same, _, _, rfl, rfl, _, _, rfl, rfl, rfl⟩
    have P1 := (PA.same s1).wrQ (l := g.ask ++ [(d, x)]) rp
    have f1 : PF H (upd (upd H tt (.tup [.int d, .str x.s])) q (.lst (vs ++ [.ref tt]))) a r q := (PF.new ht).trans PF.wrQ
    generalize upd (upd H tt (.tup [.int d, .str x.s])) q (.lst (vs ++ [.ref tt])) = H1 at P1 f1
    obtain ⟨⟨dx1, g1⟩, _, ⟨us, g3, g4⟩, _⟩ := id P1
    have hul : us.length = g.ask.length + 1 := by rw [g4.length, List.length_map]; simp
    refine ⟨_, rfl, a, _, dx1, _, _, rfl, g1, T.c_PageLoans, T.na_PageLoans_asked, pfl_asked, q, us, rfl, .inl (SqL.of g3), rfl, _, rfl, ?_⟩
    by_cases e : g.ask = []
    · refine iteTb (decide_eq_true (by rw [hul, e]; rfl)) ?_
      refine ⟨_, rfl, a, dx1, _, rfl, g1, pfl_serve, a, r, q, p, _, rfl, P1, ?_, ?_, fun l r' ws H' hl hr' nl P' f' hl' rp' => ?_⟩
      · intro y hy
        rcases List.mem_append.mp hy with hy | hy
        · exact hrw y hy
        · have : y = (d, x) := by simpa using hy
          rw [this]; exact hx
      · unfold PG.mu at hmu ⊢; simp; lia
      · have ek : g.take p d (.ask p x) = PG.serve { g with ask := g.ask ++ [(d, x)] } p := by simp only [PG.take]; rw [if_pos e, e]; rfl
        refine k l r' ws H' (f1.lv _ hl) ?_ nl ?_ (f1.trans f') hl' ?_
        · rcases hr' with z | z
          · exact .inl z
          · exact .inr (f1.lv _ z)
        · rw [ek]; exact P'
        · rw [ek]; exact rp'
    · refine iteFb (decide_eq_false ?_) ?_
      · intro z
        have z1 := V.int.inj z
        have : g.ask.length ≠ 0 := fun y => e (List.length_eq_zero_iff.mp y)
        lia
      refine ⟨(by show 0 ≤ sizeLine; decide), fun l hl => ?_⟩
      have ek : g.take p d (.ask p x) = ({ g with ask := g.ask ++ [(d, x)] }, []) := by simp only [PG.take]; rw [if_neg e]
      exact k l r [] _ (f1.lv _ hl) (.inl rfl) (ne_of_none P1.rl hl).symm (by rw [ek]; exact P1.new hl) (f1.trans (PF.new hl)) upd_same (by rw [ek]; simp [RepL])
theorem ok_PageLoans_take_answer (T : Txt K w mg t) : FnOk P w K mg base CX0 4 t.f_PageLoans_take_answer t.fd_PageLoans_take_answer ["self", "number"] (spAns t.C_PageLoans) := by
  refine T.F_PageLoans_take_answer.ok sc_PageLoans_take_answer (fun vs H Q E h => ?_) (fun cdv A outer s H vs Q E hr h => ?_)
  · obtain ⟨a, r, q, p, g, o, d, rfl, _⟩ := h; rfl
  · obtain ⟨a, r, q, p, g, o, d, rfl, PA, hms, hrw, hmu, k⟩ := h
    have sl : sizeLine = 16777216 := by decide
    refine ⟨_, (pss_cons (ps_if (pt_cmp (pc_notN (pv 1))) (pss_one (ps_fld (pv 0) (pv 1) (by rfl))) pss_nil)
      (pss_cons (ps_fldaug (pv 0) pe_int in_sub)
      (pss_cons (ps_if (pt_cmpR op_ne (pe_fld (pv 0) (by rfl)) pe_int (nomark _)) (pss_one (ps_ret (pe_lst pa_nil))) pss_nil)
      (pss_one (ps_ret (pe_op op_cat (pe_lst (pa_cons (pe_meth0 (pv 0) T.c_PageLoans T.mt_PageLoans_lend (ok_PageLoans_lend T) (hr.mono (by decide) : Room 2 _) T.b_PageLoans_lend .nil pass0) pa_nil)) (pe_meth0 (pv 0) T.c_PageLoans T.mt_PageLoans_serve (ok_PageLoans_serve T) (hr.mono (by decide) : Room 3 _) T.b_PageLoans_serve .nil pass0))))))), ?_⟩
    try dsimp only [cxOf, Cx.nox]
    show let Z1 : L2.TS := _; let Z2 : L2.TS := tIfS _ Z1 tNext; let Z3 : L2.TS := _; let Z4 : L2.TS := _; let Z5 : L2.TS := tIfS _ Z4 tNext; let Z6 : L2.TS := _; let D0 : Ends := _; (tSeq Z2 (tSeq Z3 (tSeq Z5 (Z6)))) D0 _ _
    intro Z1 Z2 Z3 Z4 Z5 Z6 D0
    try dsimp only [tNext]
    refine seq_via (fun σ' H' => σ' = [some (.ref a), some (oV o)] ∧ PgAt t.C_PageLoans H' a r q p { g with num := o.getD g.num } ∧ PF H H' a r q) (fun N hN => ?_) ?_
    · obtain ⟨⟨dx, h1⟩, _⟩ := id PA
      refine ⟨_, rfl, _, rfl, ?_⟩
      cases o with
      | none =>
        refine iteFb rfl ?_
        exact hN _ _ ⟨rfl, PA, PF.refl _ _ _ _⟩
      | some n =>
        refine iteTb rfl ?_
        refine ⟨_, rfl, _, rfl, a, _, dx, _, rfl, h1, T.c_PageLoans, T.na_PageLoans_number, pfl_len, ?_⟩
        show N _ (upd H a (.ins _ dx (putF "number" (.int n) _)))
        rw [pfl_num]
        exact hN _ _ ⟨rfl, PA.wr rfl rfl, PF.wr⟩
    · rintro σ' H1 ⟨rfl, P1, f1⟩
      obtain ⟨⟨dx, h1⟩, _⟩ := id P1
      refine ⟨_, rfl, a, _, dx, _, _, rfl, h1, T.c_PageLoans, T.na_PageLoans_awaited, pfl_awaited, _, _, rfl, rfl, dx, _, h1, pfl_len, ?_⟩
      rw [pfl_miss]
      have P2 := P1.wr (dx := dx) (g' := { g with num := o.getD g.num, miss := g.miss - 1 }) rfl rfl
      have f2 : PF H (upd H1 a (.ins t.C_PageLoans dx (pfl p { g with num := o.getD g.num, miss := g.miss - 1 } r q))) a r q := f1.trans PF.wr
      generalize upd H1 a (.ins t.C_PageLoans dx (pfl p { g with num := o.getD g.num, miss := g.miss - 1 } r q)) = H2 at P2 f2
      generalize hg : ({ g with num := o.getD g.num, miss := g.miss - 1 } : PG) = g2 at P2
      have hga : g2.ask = g.ask := by rw [← hg]
      have hgr : g2.rd = g.rd := by rw [← hg]
      have hgm : g2.miss = g.miss - 1 := by rw [← hg]
      obtain ⟨⟨dx2, g1⟩, _⟩ := id P2
      refine ⟨_, rfl, a, _, dx2, _, _, rfl, g1, T.c_PageLoans, T.na_PageLoans_awaited, pfl_awaited, rfl, _, rfl, ?_⟩
      have ek : g.take p d (.ans p o) = if g.miss - 1 = 0 then ((g2.lent.serve p).1, g2.lend1 p ++ (g2.lent.serve p).2) else (g2, []) := by simp only [PG.take]; rw [hg]
      by_cases e : g.miss - 1 = 0
      · refine iteFb (by rw [hgm, e]; rfl) ?_
        rw [if_pos e] at ek
        cases hask : g2.ask with
        | nil => exact absurd (hga ▸ hask) (hms e)
        | cons x0 q0 =>
          obtain ⟨d0, x⟩ := x0
          have hx : x = .rd ∨ x = .wr := hrw (d0, x) (by rw [← hga, hask]; simp)
          have hrl : g2.rd.length ≤ 1000000 := by rw [hgr]; unfold PG.mu at hmu; lia
          refine ⟨_, rfl, a, dx2, _, rfl, g1, pfl_lend, a, r, q, p, g2, d0, x, q0, rfl, P2, hask, hx, hrl, fun v r1 H3 hr1 P3 f3 rv => ?_⟩
          refine ⟨(by show 1 ≤ sizeLine; decide), fun l1 hl1 => ?_⟩
          have P4 := P3.new (o := .lst [v]) hl1
          have f4 : PF H2 (upd H3 l1 (.lst [v])) a r q := f3.trans (PF.new hl1)
          have nl1 : l1 ≠ r1 := (ne_of_none P3.rl hl1).symm
          have nq1 : l1 ≠ q := by obtain ⟨_, _, ⟨us, g3, _⟩, _⟩ := P3; exact (ne_of_none g3 hl1).symm
          have hv1 : upd H3 l1 (.lst [v]) l1 = some (.lst [v]) := upd_same
          have rv1 := Rep.tmono (same_tup (same_new (o := .lst [v]) hl1)) (show (pairD (d0, .lend p x g2.num)).flat by simp only [pairD, D.flat, D.flats]; exact ⟨trivial, Let.flat _, trivial⟩) rv
          have hl1n := f3.lv _ hl1
          generalize upd H3 l1 (.lst [v]) = H4 at P4 f4 hv1 rv1
          obtain ⟨⟨dx4, k1⟩, _⟩ := id P4
          have hla : g2.lent.ask = q0 := by unfold PG.lent; rw [hask]; dsimp only; split <;> rfl
          refine ⟨_, rfl, a, dx4, _, rfl, k1, pfl_serve, a, r1, q, p, _, rfl, P4, ?_, ?_, fun l r' ws H5 hl hr' nl P5 f5 hl5 rp5 => ?_⟩
          · rw [hla]; intro y hy; exact hrw y (by rw [← hga, hask]; exact List.mem_cons_of_mem _ hy)
          · refine Nat.le_trans g2.lent_mu ?_
            unfold PG.mu at hmu ⊢; rw [hga, hgr]; lia
          · have hl15 : H5 l1 = some (.lst [v]) := f5.kp l1 _ hv1 (P4.lst_ne hv1) nl1 nq1
            have wl : ws.length ≤ 3000000 := by
              rw [rp5.length, List.length_map]
              have h8 := g2.lent.serve_len p
              have h9 := g2.lent_mu
              have h10 : g2.mu ≤ 900000 := by unfold PG.mu at hmu ⊢; rw [hga, hgr]; lia
              lia
            refine ⟨l1, l, [v], ws, rfl, rfl, hl15, hl5, (by simp only [List.length_singleton]; lia), fun c hc => ?_⟩
            have fr1 : r1 = r ∨ H r1 = none := by
              rcases hr1 with z | z
              · exact .inl z
              · exact .inr (f2.lv _ z)
            refine k c r' ([v] ++ ws) _ (f2.lv _ (f4.lv _ (f5.lv _ hc))) ?_ (ne_of_none P5.rl hc).symm (by rw [ek]; exact P5.new hc) ((f2.trans f4).trans' (f5.trans' (PF.new hc) hr') fr1) upd_same ?_
            · rcases hr' with z | z
              · rw [z]; exact fr1
              · exact .inr (f2.lv _ (f4.lv _ z))
            · rw [ek]
              have h11 : g2.lend1 p = [(d0, .lend p x g2.num)] := by unfold PG.lend1; rw [hask]
              rw [h11, List.map_append]
              have tc := same_tup (same_new (o := .lst ([v] ++ ws)) hc)
              refine RepL.append ?_ (rp5.tmono tc (pairD_flat _))
              simp only [List.map_cons, List.map_nil, RepL]
              have hfl : (pairD (d0, .lend p x g2.num)).flat := by simp only [pairD, D.flat, D.flats]; exact ⟨trivial, Let.flat _, trivial⟩
              exact ⟨v, [], rfl, Rep.tmono tc hfl (Rep.tmono (f5.tups P4) hfl rv1), rfl⟩
      · refine iteTb (by rw [hgm]; rw [decide_eq_false fun z => e (V.int.inj z)]; rfl) ?_
        rw [if_neg e] at ek
        refine ⟨(by show 0 ≤ sizeLine; decide), fun l hl => ?_⟩
        exact k l r [] _ (f2.lv _ hl) (.inl rfl) (ne_of_none P2.rl hl).symm (by rw [ek]; exact P2.new hl) (f2.trans (PF.new hl)) upd_same (by rw [ek]; simp [RepL])
end
end K07
namespace K07
open PySem L2
section
variable {P : Program} {w : World} {K : PySem.W.Frag} {mg : Str → Option Value} {base : Heap} {t : Adr}
theorem ok_Hall_take (T : Txt K w mg t) : FnOk P w K mg base CX0 5 t.f_Hall_take t.fd_Hall_take ["self", "desk", "letter"] (spHallTake t.C_Hall t.C_PageLoans) := by
  refine T.F_Hall_take.ok sc_Hall_take (fun vs H Q E h => ?_) (fun cdv A outer s H vs Q E hr h => ?_)
  · obtain ⟨A, m, G, b, l, d, rfl, _⟩ := h; rfl
  · obtain ⟨A0, m, G, b, l, d, rfl, HA, hb, hp, hg, hrw, hmu, k⟩ := h
    refine ⟨_, (pss_cons (ps_set (i := 3) sc_Hall_take.nd rfl (Or.inl rfl) (pe_ix ix_list (pe_fld (pv 0) (by rfl)) (pe_ix ix_tup (pv 2) pe_int (fun _ _ => rfl)) (fun _ _ => rfl)))
      (pss_cons (ps_if (pt_cmpR op_eq (pe_ix ix_tup (pv 2) pe_int (fun _ _ => rfl)) pe_str (nomark _)) (pss_one (ps_ret (pe_meth (pv 3) T.c_PageLoans T.mt_PageLoans_take_ask (ok_PageLoans_take_ask T) (hr.mono (by decide) : Room 4 _) T.b_PageLoans_take_ask .nil pass0 (pa_cons (pv 1) (pa_cons (pe_ix ix_tup (pv 2) pe_int (fun _ _ => rfl)) pa_nil))))) pss_nil)
      (pss_cons (ps_if (pt_cmpR op_eq (pe_ix ix_tup (pv 2) pe_int (fun _ _ => rfl)) pe_str (nomark _)) (pss_one (ps_ret (pe_meth (pv 3) T.c_PageLoans T.mt_PageLoans_take_answer (ok_PageLoans_take_answer T) (hr.mono (by decide) : Room 4 _) T.b_PageLoans_take_answer .nil pass0 (pa_cons (pe_ix ix_tup (pv 2) pe_int (fun _ _ => rfl)) pa_nil)))) pss_nil)
      (pss_one (ps_ret (pe_meth (pv 3) T.c_PageLoans T.mt_PageLoans_take_gave (ok_PageLoans_take_gave T) (hr.mono (by decide) : Room 1 _) T.b_PageLoans_take_gave .nil pass0 (pa_cons (pv 1) (pa_cons (pe_ix ix_tup (pv 2) pe_int (fun _ _ => rfl)) pa_nil)))))))), ?_⟩
    try dsimp only [cxOf, Cx.nox]
    show let Z1 : L2.TS := _; let Z2 : L2.TS := _; let Z3 : L2.TS := tIfS _ Z2 tNext; let Z4 : L2.TS := _; let Z5 : L2.TS := tIfS _ Z4 tNext; let Z6 : L2.TS := _; let D0 : Ends := _; (tSeq Z1 (tSeq Z3 (tSeq Z5 (Z6)))) D0 _ _
    intro Z1 Z2 Z3 Z4 Z5 Z6 D0
    obtain ⟨dx, h1⟩ := HA.ob
    have hpl := HA.pl
    have PA := HA.pg l.pg hp
    obtain ⟨⟨dx1, g1⟩, _⟩ := id PA
    refine ⟨_, rfl, A0 .hall, _, dx, _, _, rfl, h1, T.c_Hall, T.na_Hall_pages, hfl_pages, _, rfl, b, _, 1, _, rfl, rfl, SqT.of hb, UL.at1 l, A0 .pages, _, _, _, rfl, rfl, SqL.of hpl, range_at hp, ?_⟩
    have fin : ∀ lst r' vs H', H lst = none → (r' = A0 (.rdr l.pg) ∨ H r' = none) → lst ≠ r' → PgAt t.C_PageLoans H' (A0 (.loan l.pg)) r' (A0 (.asq l.pg)) l.pg ((G l.pg).take l.pg d l).1 → PF H H' (A0 (.loan l.pg)) (A0 (.rdr l.pg)) (A0 (.asq l.pg)) → H' lst = some (.lst vs) → RepL H' vs (((G l.pg).take l.pg d l).2.map pairD) → Q (.ref lst) H' := fun lst r' vs H' hl hr' nl P' f' hl' rp => by
      obtain ⟨HA', hf⟩ := HA.page hp P' f' hr'
      refine k lst _ vs H' hl HA' hf (fun x hx => ?_) (fun x hx => ?_) (setL_ne _ _ (by intro z; cases z)) hl' rp
      · by_cases e : x = .rdr l.pg
        · rw [e, setL_same]; exact hr'
        · rw [setL_ne _ _ e]; exact .inl rfl
      · by_cases e : x = .rdr l.pg
        · rw [e, setL_same]; exact nl
        · rw [setL_ne _ _ e]
          intro z
          obtain ⟨o, e1, _⟩ := HA.live x hx
          rw [← z, hl] at e1; cases e1
    cases l with
    | ask p x =>
      refine ⟨_, rfl, b, _, 0, _, rfl, rfl, SqT.of hb, rfl, rfl, _, rfl, ?_⟩
      refine iteTb vs_eq ?_
      refine ⟨_, rfl, _, dx1, _, rfl, g1, pfl_ta, _, rfl, _, rfl, b, _, 2, _, rfl, rfl, SqT.of hb, rfl, _, _, _, p, G p, x, d, rfl, PA, hg, hrw, hmu, fun lst r' vs H' hl hr' nl P' f' hl' rp => fin lst r' vs H' hl hr' nl P' f' hl' rp⟩
    | ans p o =>
      refine ⟨_, rfl, b, _, 0, _, rfl, rfl, SqT.of hb, rfl, rfl, _, rfl, ?_⟩
      refine iteFb (vs_ne (by decide +kernel)) ?_
      refine ⟨_, rfl, b, _, 0, _, rfl, rfl, SqT.of hb, rfl, rfl, _, rfl, ?_⟩
      refine iteTb vs_eq ?_
      refine ⟨_, rfl, _, dx1, _, rfl, g1, pfl_tw, _, rfl, b, _, 2, _, rfl, rfl, SqT.of hb, rfl, _, _, _, p, G p, o, d, rfl, PA, hg, hrw, hmu, fun lst r' vs H' hl hr' nl P' f' hl' rp => fin lst r' vs H' hl hr' nl P' f' hl' rp⟩
    | gave p n =>
      refine ⟨_, rfl, b, _, 0, _, rfl, rfl, SqT.of hb, rfl, rfl, _, rfl, ?_⟩
      refine iteFb (vs_ne (by decide +kernel)) ?_
      refine ⟨_, rfl, b, _, 0, _, rfl, rfl, SqT.of hb, rfl, rfl, _, rfl, ?_⟩
      refine iteFb (vs_ne (by decide +kernel)) ?_
      refine ⟨_, rfl, _, dx1, _, rfl, g1, pfl_tg, _, rfl, _, rfl, b, _, 2, _, rfl, rfl, SqT.of hb, rfl, _, _, _, p, G p, d, n, rfl, PA, fun lst r' vs H' hl hr' nl P' f' hl' rp => fin lst r' vs H' hl hr' nl P' f' hl' rp⟩
theorem ok_Hall_init (T : Txt K w mg t) : FnOk P w K mg base CX0 3 t.f_Hall_init t.fd_Hall_init ["self", "numbers"] (spHallInit t.C_Hall t.C_PageLoans) := by
  refine T.F_Hall_init.ok sc_Hall_init (fun vs H Q E h => ?_) (fun cdv A outer s H vs Q E hr h => ?_)
  · obtain ⟨h, dx, l, ns, rfl, _⟩ := h; rfl
  · obtain ⟨h, dx, l, ns, rfl, hh, hl, hns, k⟩ := h
    have sl : sizeLine = 16777216 := by decide
    refine ⟨_, (pss_one (ps_fld (pv 0) (pe_comp (compScope (xs := ["page", "number"]) (ys := []) (js := []) rfl (by decide +kernel) (by decide +kernel) (by decide +kernel) (by rfl) trivial) rfl (pi_enum (by rfl) T.n_enumerate (pa_cons (pv 1) pa_nil)) (fun _ _ _ _ _ => (pg_tupK (K := K) (n := 2) rfl rfl (pgs_cons (pg_name (i := 0) (show List.Nodup ((["page", "number"] : List Str) ++ ([] : List Str) : List Str) by decide +kernel) rfl (Or.inl rfl)) (pgs_cons (pg_name (i := 1) (show List.Nodup ((["page", "number"] : List Str) ++ ([] : List Str) : List Str) by decide +kernel) rfl (Or.inl rfl)) pgs_nil)))) (fun _ _ _ _ _ => pif_nil) (fun _ _ _ _ _ => (pe_make T.mk_PageLoans (ok_PageLoans_init T) (hr.mono (by decide) : Room 2 _) (by rfl) T.g_PageLoans T.b_PageLoans_init .nil pass0 (pa_cons (pv 0) (pa_cons (pv 1) pa_nil))))) (by rfl))), ?_⟩
    try dsimp only [cxOf, Cx.nox]
    refine ⟨_, rfl, l, rfl, ⟨_, SqL.of hl⟩, fun acc hacc => ?_⟩
    have nha : h ≠ acc := ne_of_none hh hacc
    refine comp_enum (xs := ns.map V.int) (fun i zs σ' H' => (∃ o1 o2, σ' = [o1, o2]) ∧ Same H H' ∧ H' acc = some (.lst zs) ∧ ∃ A : Hb → Addr, A .pages = acc ∧ A .hall = h ∧ (∀ x y : Hb, x.ok i → y.ok i → A x = A y → x = y) ∧ (∀ x : Hb, x.ok i → x ≠ .hall → H (A x) = none) ∧ zs = (List.range i).map (fun p => V.ref (A (.loan p))) ∧
      ∀ p, p < i → PgAt t.C_PageLoans H' (A (.loan p)) (A (.rdr p)) (A (.asq p)) p (pg0 ns p)) ?_ ?_ ?_ ?_
    · refine ⟨⟨_, _, rfl⟩, same_new hacc, upd_same, fun x => if x = .hall then h else acc, rfl, rfl, ?_, ?_, rfl, fun p hp => absurd hp (Nat.not_lt_zero _)⟩
      · intro x y hx hy e
        cases x <;> cases y <;> first
          | rfl
          | (exfalso; exact absurd hx (Nat.not_lt_zero _))
          | (exfalso; exact absurd hy (Nat.not_lt_zero _))
          | (exfalso; simp at e; exact nha e)
          | (exfalso; simp at e; exact nha e.symm)
      · intro x hx hn
        show H (if x = .hall then h else acc) = none
        rw [if_neg hn]; exact hacc
    · rintro i zs σ' H' _ ⟨_, s', ha', _⟩
      exact ⟨SqL.of (s' _ _ hl), ha'⟩
    · rintro i y zs σ' H' b hy hi ⟨⟨o1, o2, rfl⟩, s', ha', A, eA, eh, inj, fr, rfl, pgs⟩ hb
      rw [List.length_map] at hi
      have hy' : y = .int ns[i] := by
        rw [List.getElem?_map, List.getElem?_eq_getElem hi] at hy
        exact (Option.some.inj hy).symm
      subst hy'
      refine ⟨b, _, rfl, SqT.of upd_same, rfl, _, _, rfl, _, _, rfl, rfl, ?_⟩
      refine tYes_if ?_
      refine ⟨_, rfl, _, rfl, fun x dx' hx hdx nx => ?_⟩
      have hx0 : H' x = none := Lv.upd _ hx
      have hdx0 : H' dx' = none := Lv.upd _ hdx
      refine ⟨x, dx', i, ns[i], rfl, upd_same, fun r q H3 hr3 hq3 P3 f3 lv3 => ⟨rfl, ?_⟩⟩
      have fb : ∀ c o, H' c = some o → H3 c = some o := fun c o e => by
        refine f3 c o ?_ (ne_of_none e hx0)
        rw [upd_ne (ne_of_none e hx0), upd_ne (ne_of_none e hdx0), upd_ne (ne_of_none e hb)]
        exact e
      have hr0 : H' r = none := Lv.upd _ (Lv.upd _ (Lv.upd _ hr3))
      have hq0 : H' q = none := Lv.upd _ (Lv.upd _ (Lv.upd _ hq3))
      have ha3 := fb _ _ ha'
      have live : ∀ z : Hb, z.ok i → ∃ o, H' (A z) = some o := fun z hz => by
        cases z with
        | hall => rw [eh]; exact ⟨_, s' _ _ hh⟩
        | pages => rw [eA]; exact ⟨_, ha'⟩
        | loan p => obtain ⟨⟨dz, e⟩, _⟩ := pgs p hz; exact ⟨_, e⟩
        | rdr p => exact ⟨_, (pgs p hz).rl⟩
        | asq p => obtain ⟨vs, e, _⟩ := (pgs p hz).al; exact ⟨_, e⟩
      have nxr : x ≠ r := P3.nar
      have nxq : x ≠ q := P3.naq
      have nrq : r ≠ q := P3.ne
      have hzl : ((List.range i).map fun p => V.ref (A (.loan p))).length < sizeLine := by rw [List.length_map, List.length_range]; lia
      refine CStep.mk (by rw [List.length_map]; exact hi) ha3 hzl ?_
      have sn : Same H (upd H3 acc (.lst ((List.range i).map (fun p => V.ref (A (.loan p))) ++ [.ref x]))) := same_upd (fun c o e => fb c o (s' c o e)) hacc
      have tm : TupSame H' (upd H3 acc (.lst ((List.range i).map (fun p => V.ref (A (.loan p))) ++ [.ref x]))) := (fun c xs e => tup_lst ha3 c xs (fb c _ e))
      have nn : ∀ (z : Hb) (a : Addr), z.ok i → H' a = none → A z ≠ a := fun z a hz e e2 => by
        obtain ⟨o, e3⟩ := live z hz; rw [e2, e] at e3; cases e3
      refine ⟨⟨_, _, rfl⟩, sn, upd_same, setL (setL (setL A (.loan i) x) (.rdr i) r) (.asq i) q, ?_, ?_, ?_, ?_, ?_, ?_⟩
      · rw [setL_ne _ _ (by intro z; cases z), setL_ne _ _ (by intro z; cases z), setL_ne _ _ (by intro z; cases z)]; exact eA
      · rw [setL_ne _ _ (by intro z; cases z), setL_ne _ _ (by intro z; cases z), setL_ne _ _ (by intro z; cases z)]; exact eh
      · refine inj_add (ok := fun z => z = .rdr i ∨ z = .loan i ∨ z.ok i) (inj_add (ok := fun z => z = .loan i ∨ z.ok i) (inj_add inj (fun z hz => nn z x hz hx0) (fun z hz => hz)) ?_ (fun z hz => hz)) ?_ ?_
        · intro z hz
          by_cases e : z = .loan i
          · rw [e, setL_same]; exact nxr
          · rw [setL_ne _ _ e]; exact nn z r (hz.resolve_left e) hr0
        · intro z hz
          by_cases e : z = .rdr i
          · rw [e, setL_same]; exact nrq
          · rw [setL_ne _ _ e]
            by_cases e2 : z = .loan i
            · rw [e2, setL_same]; exact nxq
            · rw [setL_ne _ _ e2]; exact nn z q ((hz.resolve_left e).resolve_left e2) hq0
        · intro z hz
          cases z with
          | hall => exact .inr (.inr (.inr trivial))
          | pages => exact .inr (.inr (.inr trivial))
          | loan p =>
            have hz' : p < i + 1 := hz
            by_cases e : p = i
            · exact .inr (.inr (.inl (by rw [e])))
            · exact .inr (.inr (.inr (show p < i by lia)))
          | rdr p =>
            have hz' : p < i + 1 := hz
            by_cases e : p = i
            · exact .inr (.inl (by rw [e]))
            · exact .inr (.inr (.inr (show p < i by lia)))
          | asq p =>
            have hz' : p < i + 1 := hz
            by_cases e : p = i
            · exact .inl (by rw [e])
            · exact .inr (.inr (.inr (show p < i by lia)))
      · intro z hz hn
        by_cases e1 : z = .asq i
        · rw [e1, setL_same]; exact Same.free s' hq0
        · rw [setL_ne _ _ e1]
          by_cases e2 : z = .rdr i
          · rw [e2, setL_same]; exact Same.free s' hr0
          · rw [setL_ne _ _ e2]
            by_cases e3 : z = .loan i
            · rw [e3, setL_same]; exact Same.free s' hx0
            · rw [setL_ne _ _ e3]
              refine fr z ?_ hn
              cases z with
              | hall => trivial
              | pages => trivial
              | loan p => have hz' : p < i + 1 := hz; exact show p < i from Nat.lt_of_le_of_ne (Nat.le_of_lt_succ hz') fun y => e3 (by rw [y])
              | rdr p => have hz' : p < i + 1 := hz; exact show p < i from Nat.lt_of_le_of_ne (Nat.le_of_lt_succ hz') fun y => e2 (by rw [y])
              | asq p => have hz' : p < i + 1 := hz; exact show p < i from Nat.lt_of_le_of_ne (Nat.le_of_lt_succ hz') fun y => e1 (by rw [y])
      · rw [List.range_succ, List.map_append]
        congr 1
        · refine List.map_congr_left fun p hp => ?_
          have hp' : p < i := List.mem_range.mp hp
          rw [setL_ne _ _ (by intro z; cases z), setL_ne _ _ (by intro z; cases z), setL_ne _ _ (by intro z; cases z; exact Nat.lt_irrefl _ hp')]
        · show [V.ref x] = [V.ref _]
          rw [setL_ne _ _ (by intro z; cases z), setL_ne _ _ (by intro z; cases z), setL_same]
      · intro p hp
        have nacc : ∀ (c : Addr) (o : HO), H3 c = some o → c ≠ acc → upd H3 acc (.lst ((List.range i).map (fun p => V.ref (A (.loan p))) ++ [.ref x])) c = some o := fun c o e n => by rw [upd_ne n]; exact e
        by_cases e : p = i
        · subst e
          rw [setL_ne _ _ (by intro z; cases z), setL_ne _ _ (by intro z; cases z), setL_same, setL_ne _ _ (by intro z; cases z), setL_same, setL_same]
          have e0 : pg0 ns p = ⟨ns[p], none, [], [], 0⟩ := by unfold pg0; rw [List.getElem?_eq_getElem hi]; rfl
          rw [e0]
          exact P3.keep (tup_lst ha3) (fun o e => nacc _ o e (ne_of_none ha' hx0).symm) (fun o e => nacc _ o e (ne_of_none ha' hr0).symm) fun o e => nacc _ o e (ne_of_none ha' hq0).symm
        · have hp' : p < i := by lia
          rw [setL_ne _ _ (by intro z; cases z), setL_ne _ _ (by intro z; cases z), setL_ne _ _ (by intro z; cases z; exact e rfl), setL_ne _ _ (by intro z; cases z), setL_ne _ _ (by intro z; cases z; exact e rfl), setL_ne _ _ (by intro z; cases z), setL_ne _ _ (by intro z; cases z; exact e rfl), setL_ne _ _ (by intro z; cases z), setL_ne _ _ (by intro z; cases z)]
          have na : ∀ z : Hb, z.ok i → z ≠ .pages → A z ≠ acc := fun z hz hn e2 => hn (inj z .pages hz trivial (by rw [e2, eA]))
          exact (pgs p hp').keep tm (fun o e => nacc _ o (fb _ o e) (na (.loan p) hp' (by intro z; cases z))) (fun o e => nacc _ o (fb _ o e) (na (.rdr p) hp' (by intro z; cases z))) fun o e => nacc _ o (fb _ o e) (na (.asq p) hp' (by intro z; cases z))
    · rintro zs σ' H' ⟨_, s', ha', A, eA, eh, inj, fr, rfl, pgs⟩
      rw [List.length_map] at inj fr ha' pgs
      refine ⟨_, rfl, h, _, dx, [], rfl, s' _ _ hh, T.c_Hall, T.na_Hall_pages, (by show 0 < 1000; decide), ?_⟩
      rw [hfl_init]
      have live : ∀ z : Hb, z.ok ns.length → z ≠ .hall → A z ≠ h := fun z hz hn e => hn (inj z .hall hz trivial (by rw [e, eh]))
      have tm : TupSame H' (upd H' h (.ins t.C_Hall dx (hfl acc))) := fun c xs e => by rw [upd_ne (ne_of e (s' _ _ hh) (by intro z; cases z))]; exact e
      have kk : ∀ z : Hb, z.ok ns.length → z ≠ .hall → ∀ o, H' (A z) = some o → upd H' h (.ins t.C_Hall dx (hfl acc)) (A z) = some o := fun z hz hn o e => by rw [upd_ne (live z hz hn)]; exact e
      refine k A _ eh fr ⟨inj, ⟨dx, by rw [eh, eA, upd_same]⟩, ?_, fun p hp => ?_⟩ (fun b o e hb => by rw [upd_ne hb]; exact s' b o e) ((Lv.same s').trans Lv.upd)
      · rw [eA, upd_ne (by rw [← eA]; exact live .pages trivial (by intro z; cases z))]; exact ha'
      · exact (pgs p hp).keep tm (kk (.loan p) hp (by intro z; cases z)) (kk (.rdr p) hp (by intro z; cases z)) (kk (.asq p) hp (by intro z; cases z))
end
end K07
namespace K07
open PySem L2
theorem ul_cons {H : Hp} {vs : List V} {l : UL} {r : List UL} (h : RepL H vs ((l :: r).map UL.d)) : ∃ b us, vs = .ref b :: us ∧ H b = some (.tup l.vs) ∧ RepL H us (r.map UL.d) := by
  rw [List.map_cons] at h
  obtain ⟨v, us, e, rv, rl⟩ := RepL.cons_inv h
  cases l with
  | ask p x =>
    simp only [UL.d, Rep, RepL] at rv
    obtain ⟨b, xs, rfl, hb, _, _, rfl, rfl, _, _, rfl, rfl, _, _, rfl, rfl, rfl⟩ := rv
    exact ⟨b, us, e, hb, rl⟩
  | ans p o =>
    cases o <;> (simp only [UL.d, oD, Rep, RepL] at rv; obtain ⟨b, xs, rfl, hb, _, _, rfl, rfl, _, _, rfl, rfl, _, _, rfl, rfl, rfl⟩ := rv; exact ⟨b, us, e, hb, rl⟩)
  | gave p x =>
    simp only [UL.d, Rep, RepL] at rv
    obtain ⟨b, xs, rfl, hb, _, _, rfl, rfl, _, _, rfl, rfl, _, _, rfl, rfl, rfl⟩ := rv
    exact ⟨b, us, e, hb, rl⟩
/-- letters that come, one after the other: the pages, what is sent for each -/
def hallRun (G : Nat → PG) : List (Nat × UL) → (Nat → PG) × List (List (Nat × Let))
  | [] => (G, [])
  | (d, l) :: r => ((hallRun (setf G l.pg ((G l.pg).take l.pg d l).1) r).1, ((G l.pg).take l.pg d l).2 :: (hallRun (setf G l.pg ((G l.pg).take l.pg d l).1) r).2)
/-- the hall can take them all -/
def hallOk (m : Nat) (G : Nat → PG) : List (Nat × UL) → Prop
  | [] => True
  | (d, l) :: r => l.pg < m ∧ l.good (G l.pg) ∧ Rw (G l.pg).ask ∧ (G l.pg).mu ≤ 900000 ∧ hallOk m (setf G l.pg ((G l.pg).take l.pg d l).1) r
theorem hallRun_append (G : Nat → PG) (a b : List (Nat × UL)) : hallRun G (a ++ b) = ((hallRun (hallRun G a).1 b).1, (hallRun G a).2 ++ (hallRun (hallRun G a).1 b).2) := by
  induction a generalizing G with
  | nil => rfl
  | cons x a ih => obtain ⟨d, l⟩ := x; simp only [List.cons_append, hallRun, ih]
theorem hallOk_append {m : Nat} {G : Nat → PG} {a b : List (Nat × UL)} : hallOk m G (a ++ b) ↔ hallOk m G a ∧ hallOk m (hallRun G a).1 b := by
  induction a generalizing G with
  | nil => simp [hallOk, hallRun]
  | cons x a ih => obtain ⟨d, l⟩ := x; simp only [List.cons_append, hallOk, hallRun, ih]; exact ⟨fun h => ⟨⟨h.1, h.2.1, h.2.2.1, h.2.2.2.1, h.2.2.2.2.1⟩, h.2.2.2.2.2⟩, fun h => ⟨h.1.1, h.1.2.1, h.1.2.2.1, h.1.2.2.2.1, h.1.2.2.2.2, h.2⟩⟩
theorem hallRun_len (G : Nat → PG) (a : List (Nat × UL)) : (hallRun G a).2.length = a.length := by
  induction a generalizing G with
  | nil => rfl
  | cons x a ih => obtain ⟨d, l⟩ := x; simp [hallRun, ih]
def comeD (x : Nat × UL) : D := .t [.i x.1, x.2.d]
theorem come_tup {H : Hp} {v : V} {x : Nat × UL} (h : Rep H v (comeD x)) : ∃ c b, v = .ref c ∧ H c = some (.tup [.int x.1, .ref b]) ∧ H b = some (.tup x.2.vs) := by
  obtain ⟨d, l⟩ := x
  simp only [comeD, Rep, RepL] at h
  obtain ⟨c, xs, rfl, hc, _, _, rfl, rfl, u, _, rfl, hu, rfl⟩ := h
  obtain ⟨b, us, e, hb, _⟩ := ul_cons (l := l) (r := []) (vs := [u]) (by simp only [List.map_cons, List.map_nil, RepL]; exact ⟨u, [], rfl, hu, rfl⟩)
  cases e
  exact ⟨c, b, rfl, hc, hb⟩
theorem come_flat (l : List (Nat × UL)) : D.flats (l.map comeD) := flats_map (fun x => by simp only [comeD, D.flat, D.flats]; exact ⟨trivial, UL.flat _, trivial⟩) l
theorem RepL.get {H : Hp} : ∀ {ds : List D} {vs : List V} {i : Nat} {v : V}, RepL H vs ds → vs[i]? = some v → ∃ d, ds[i]? = some d ∧ Rep H v d
  | [], _, _, _, r, h => by have := RepL.nil_inv r; subst this; simp at h
  | d :: ds, _, 0, v, r, h => by obtain ⟨u, us, rfl, r1, r2⟩ := RepL.cons_inv r; simp at h; subst h; exact ⟨d, rfl, r1⟩
  | d :: ds, _, i + 1, v, r, h => by obtain ⟨u, us, rfl, r1, r2⟩ := RepL.cons_inv r; simp at h; obtain ⟨e, h1, h2⟩ := RepL.get r2 h; exact ⟨e, by simpa using h1, h2⟩
/-- the new lists: what stands in them, apart from the hall and from one another -/
def LL (H0 H : Hp) (acc : Addr) (A : Hb → Addr) (m : Nat) (zs : List V) (dss : List (List (Nat × Let))) : Prop :=
  zs.length = dss.length ∧ ∀ (i : Nat) v ds, zs[i]? = some v → dss[i]? = some ds → ∃ l vs, v = .ref l ∧ H l = some (.lst vs) ∧ l ≠ acc ∧ (∀ x : Hb, x.ok m → l ≠ A x) ∧ RepL H vs (ds.map pairD) ∧ H0 l = none
/-- the hall takes letters by a comprehension -/
theorem comp_hall {K : PySem.W.Frag} {CH CP b acc : Addr} {A : Hb → Addr} {m : Nat} {G : Nat → PG} {us : List V} {cs : List (Nat × UL)} {H1 : Hp} {Q : VK} (HA : HallAt CH CP H1 A m G) (hb : H1 b = some (.lst us)) (hbn : ∀ x : Hb, x.ok m → b ≠ A x) (rp : RepL H1 us (cs.map comeD)) (hcs : cs.length ≤ 1000) (hok : hallOk m G cs) (hacc : H1 acc = none)
    (k : ∀ A' H' zs, HallAt CH CP H' A' m (hallRun G cs).1 → HF H1 H' A m → (∀ x : Hb, x.ok m → A' x = A x ∨ H1 (A' x) = none) → A' .hall = A .hall → H' acc = some (.lst zs) → LL H1 H' acc A' m zs (hallRun G cs).2 → Q (.ref acc) H') :
    CompGo (Itl K b) (gTup K 2 (gCons (gName 0) (gCons (gName 1) gNil))) tYes (tMeth CH "take" (spHallTake CH CP) [] E0 (tVar 2) (tCons (tVar 0) (tCons (tVar 1) tNil))) [none, none, some (.ref (A .hall))] acc H1 Q := by
  have sl : sizeLine = 16777216 := by decide
  have hlen : us.length = cs.length := by rw [rp.length, List.length_map]
  have accn : ∀ x : Hb, x.ok m → acc ≠ A x := fun x hx z => by obtain ⟨o, e, _⟩ := HA.live x hx; rw [← z, hacc] at e; cases e
  refine comp_list (xs := us) (fun i zs σ' H' => (∃ o1 o2, σ' = [o1, o2, some (.ref (A .hall))]) ∧ ∃ A', HallAt CH CP H' A' m (hallRun G (cs.take i)).1 ∧ HF H1 H' A m ∧ (∀ x : Hb, x.ok m → A' x = A x ∨ H1 (A' x) = none) ∧ A' .hall = A .hall ∧ H' acc = some (.lst zs) ∧ (∀ x : Hb, x.ok m → acc ≠ A' x) ∧ H' b = some (.lst us) ∧ (∀ x : Hb, x.ok m → b ≠ A' x) ∧ RepL H' us (cs.map comeD) ∧ LL H1 H' acc A' m zs (hallRun G (cs.take i)).2) ?_ ?_ ?_ ?_
  · refine ⟨⟨_, _, rfl⟩, A, HA.new hacc, HF.of_same (same_new hacc), fun x _ => .inl rfl, rfl, upd_same, accn, same_new hacc _ _ hb, hbn, rp.tmono (same_tup (same_new hacc)) (come_flat _), ?_⟩
    exact ⟨rfl, fun i v ds h => by simp at h⟩
  · rintro i zs σ' H' _ ⟨_, A', _, _, _, _, h1, _, h2, _⟩
    exact ⟨SqL.of h2, h1⟩
  · rintro i y zs σ' H' hy hi ⟨⟨o1, o2, rfl⟩, A', HA', f', mv', eh', ha', an', hb', bn', rp', ll'⟩
    obtain ⟨dd, hdd, rd⟩ := RepL.get rp' hy
    rw [List.getElem?_map] at hdd
    have hic : i < cs.length := by lia
    rw [List.getElem?_eq_getElem hic] at hdd
    have hdd' : comeD cs[i] = dd := Option.some.inj hdd
    subst hdd'
    obtain ⟨c, lb, rfl, hc, hlb⟩ := come_tup rd
    have hsplit : cs = cs.take i ++ (cs[i] :: cs.drop (i + 1)) := by rw [List.getElem_cons_drop_succ_eq_drop hic, List.take_append_drop]
    have hok' := hok
    rw [hsplit] at hok'
    have hok2 := (hallOk_append.mp hok').2
    have htk : cs.take (i + 1) = cs.take i ++ [cs[i]] := by rw [List.take_add_one, List.getElem?_eq_getElem hic]; rfl
    generalize hci : cs[i] = ci at hc hlb hok2 htk
    obtain ⟨dn, l⟩ := ci
    obtain ⟨q1, q2, q3, q4, _⟩ := hok2
    refine ⟨c, _, rfl, SqT.of hc, rfl, _, _, rfl, _, _, rfl, rfl, ?_⟩
    refine tYes_if ?_
    obtain ⟨dx, hob⟩ := HA'.ob
    rw [eh'] at hob
    refine ⟨_, rfl, A .hall, dx, _, rfl, hob, hfl_take, _, rfl, _, rfl, A', m, _, lb, l, dn, by rw [eh']; rfl, HA', hlb, q1, q2, q3, q4, fun lst A2 vs H2 hl2 HA2 f2 mv2 ln2 eh2 hl2' rp2 => ?_⟩
    have kept : ∀ (a : Addr) (o : HO), H' a = some o → (∀ x : Hb, x.ok m → a ≠ A' x) → H2 a = some o := fun a o e n => f2.kp a o e n
    have ha2 := kept acc _ ha' an'
    have hb2 := kept b _ hb' bn'
    have nn : ∀ (a : Addr) (o : HO), H' a = some o → (∀ x : Hb, x.ok m → a ≠ A' x) → ∀ x : Hb, x.ok m → a ≠ A2 x := fun a o e n x hx z => by
      rcases mv2 x hx with e2 | e2
      · rw [e2] at z; exact n x hx z
      · rw [← z, e] at e2; cases e2
    have an2 := nn acc _ ha' an'
    have t2 := f2.tups HA'
    have nla : lst ≠ acc := fun z => by rw [z, ha'] at hl2; cases hl2
    have tl := tup_lst (vs := zs ++ [.ref lst]) ha2
    have hz : zs.length < sizeLine := by rw [ll'.1, hallRun_len, List.length_take]; lia
    refine CStep.mk hi ha2 hz ?_
    have ndA : ∀ x : Hb, x.ok m → A2 x ≠ acc := fun x hx z => an2 x hx z.symm
    have er : hallRun G (cs.take (i + 1)) = (setf (hallRun G (cs.take i)).1 l.pg (((hallRun G (cs.take i)).1 l.pg).take l.pg dn l).1, (hallRun G (cs.take i)).2 ++ [(((hallRun G (cs.take i)).1 l.pg).take l.pg dn l).2]) := by rw [htk, hallRun_append]; rfl
    rw [er]
    refine ⟨⟨_, _, rfl⟩, A2, HA2.keep tl (fun x hx o e => by rw [upd_ne (ndA x hx)]; exact e), ?_, ?_, by rw [eh2, eh'], upd_same, an2, ?_, nn b _ hb' bn', (rp'.tmono t2 (come_flat _)).tmono tl (come_flat _), ?_, ?_⟩
    · refine ⟨fun a o e n => ?_, f'.lv.trans (f2.lv.trans Lv.upd)⟩
      have e1 := f'.kp a o e n
      have n1 : ∀ x : Hb, x.ok m → a ≠ A' x := fun x hx z => by
        rcases mv' x hx with e2 | e2
        · rw [e2] at z; exact n x hx z
        · rw [← z, e] at e2; cases e2
      rw [upd_ne (ne_of_none e hacc)]
      exact kept a o e1 n1
    · intro x hx
      rcases mv2 x hx with e2 | e2
      · rw [e2]; exact mv' x hx
      · exact .inr (f'.lv _ e2)
    · rw [upd_ne fun z => by rw [z, hacc] at hb; cases hb]; exact hb2
    · rw [List.length_append, List.length_append, ll'.1]; rfl
    · intro j v ds h1 h2
      by_cases hj : j < zs.length
      · rw [List.getElem?_append_left hj] at h1
        rw [List.getElem?_append_left (by rw [← ll'.1]; exact hj)] at h2
        obtain ⟨l0, v0, rfl, e1, e2, e3, e4, e5⟩ := ll'.2 j v ds h1 h2
        exact ⟨l0, v0, rfl, by rw [upd_ne e2]; exact kept l0 _ e1 e3, e2, nn l0 _ e1 e3, (e4.tmono t2 (pairD_flat _)).tmono tl (pairD_flat _), e5⟩
      · have hj' : j = zs.length := by
          have := (List.getElem?_eq_some_iff.mp h1).1
          rw [List.length_append] at this; simp at this; lia
        subst hj'
        rw [List.getElem?_append_right (Nat.le_refl _), Nat.sub_self] at h1
        rw [ll'.1, List.getElem?_append_right (Nat.le_refl _), Nat.sub_self] at h2
        have h1' : V.ref lst = v := Option.some.inj h1
        have h2' : _ = ds := Option.some.inj h2
        subst h1' h2'
        exact ⟨lst, vs, rfl, by rw [upd_ne nla]; exact hl2', nla, ln2, rp2.tmono tl (pairD_flat _), f'.lv _ hl2⟩
  · rintro zs σ' H' ⟨_, A', HA', f', mv', eh', ha', an', hb', bn', rp', ll'⟩
    rw [hlen, List.take_length] at HA' ll'
    exact k A' H' zs HA' f' mv' eh' ha' ll'
def spTbh (CH CP : Addr) : Sp := fun vs H Q _ => ∃ A m G b us cs, vs = [.ref (A Hb.hall), .ref b] ∧ HallAt CH CP H A m G ∧ H b = some (.lst us) ∧ (∀ x : Hb, x.ok m → b ≠ A x) ∧ RepL H us (cs.map comeD) ∧ cs.length ≤ 1000 ∧ hallOk m G cs ∧
  ∀ l A' H' zs, H l = none → HallAt CH CP H' A' m (hallRun G cs).1 → HF H H' A m → (∀ x : Hb, x.ok m → A' x = A x ∨ H (A' x) = none) → A' .hall = A .hall → H' l = some (.lst zs) → LL H H' l A' m zs (hallRun G cs).2 → Q (.ref l) H'
section
variable {P : Program} {w : World} {K : PySem.W.Frag} {mg : Str → Option Value} {base : Heap} {t : Adr}
theorem ok_taken_by_hall (T : Txt K w mg t) : FnOk P w K mg base CX0 6 t.f_taken_by_hall t.fd_taken_by_hall ["hall", "letters"] (spTbh t.C_Hall t.C_PageLoans) := by
  refine T.F_taken_by_hall.ok sc_taken_by_hall (fun vs H Q E h => ?_) (fun cdv A outer s H vs Q E hr h => ?_)
  · obtain ⟨A, m, G, b, us, cs, rfl, _⟩ := h; rfl
  · obtain ⟨A, m, G, b, us, cs, rfl, HA, hb, hbn, rp, hcs, hok, k⟩ := h
    refine ⟨_, (pss_one (ps_ret (pe_comp (compScope (xs := ["desk", "letter"]) (ys := ["hall"]) (js := [0]) rfl (by decide +kernel) (by decide +kernel) (by decide +kernel) (by rfl) ⟨⟨rfl, Or.inl rfl⟩, trivial⟩) rfl (pi_list (pv 1)) (fun _ _ _ _ _ => (pg_tupK (K := K) (n := 2) rfl rfl (pgs_cons (pg_name (i := 0) (show List.Nodup ((["desk", "letter"] : List Str) ++ (["hall"] : List Str) : List Str) by decide +kernel) rfl (Or.inl rfl)) (pgs_cons (pg_name (i := 1) (show List.Nodup ((["desk", "letter"] : List Str) ++ (["hall"] : List Str) : List Str) by decide +kernel) rfl (Or.inl rfl)) pgs_nil)))) (fun _ _ _ _ _ => pif_nil) (fun _ _ _ _ _ => (pe_meth (pv 2) T.c_Hall T.mt_Hall_take (ok_Hall_take T) (hr.mono (by decide) : Room 5 _) T.b_Hall_take .nil pass0 (pa_cons (pv 0) (pa_cons (pv 1) pa_nil))))))), ?_⟩
    try dsimp only [cxOf, Cx.nox]
    refine ⟨_, rfl, b, rfl, ⟨_, SqL.of hb⟩, fun acc hacc => ?_⟩
    exact comp_hall HA hb hbn rp hcs hok hacc fun A' H' zs HA' f' mv' eh' ha' rz => k acc A' H' zs hacc HA' f' mv' eh' ha' rz
end
end K07
namespace K07
open PySem L2
theorem kit_ii {K : PySem.W.Frag} : PySem.W.kitOne K (.type "int") (.type "int") = some true := by kernel_rfl
theorem kit_ib {K : PySem.W.Frag} : PySem.W.kitOne K (.type "int") (.type "bool") = some false := by kernel_rfl
theorem kit_ss {K : PySem.W.Frag} : PySem.W.kitOne K (.type "str") (.type "str") = some true := by kernel_rfl
theorem kit_tt {K : PySem.W.Frag} : PySem.W.kitOne K (.type "tuple") (.type "tuple") = some true := by kernel_rfl
theorem kit_ll {K : PySem.W.Frag} : PySem.W.kitOne K (.type "list") (.type "list") = some true := by kernel_rfl
theorem ul_rep {H : Hp} {b : Addr} {l : UL} (h : H b = some (.tup l.vs)) : Rep H (.ref b) l.d := by
  cases l with
  | ask p r => simp only [UL.d, Rep, RepL]; exact ⟨b, _, rfl, h, _, _, rfl, rfl, _, _, rfl, rfl, _, _, rfl, rfl, rfl⟩
  | ans p o => cases o <;> (simp only [UL.d, oD, Rep, RepL]; exact ⟨b, _, rfl, h, _, _, rfl, rfl, _, _, rfl, rfl, _, _, rfl, rfl, rfl⟩)
  | gave p n => simp only [UL.d, Rep, RepL]; exact ⟨b, _, rfl, h, _, _, rfl, rfl, _, _, rfl, rfl, _, _, rfl, rfl, rfl⟩
theorem let_tup {H : Hp} {v : V} {l : Let} (h : Rep H v l.d) : ∃ b, v = .ref b ∧ H b = some (.tup l.vs) := by
  cases l with
  | lend p x y => simp only [Let.d, Rep, RepL] at h; obtain ⟨b, _, rfl, h, _, _, rfl, rfl, _, _, rfl, rfl, _, _, rfl, rfl, _, _, rfl, rfl, rfl⟩ := h; exact ⟨b, rfl, h⟩
  | back p x => simp only [Let.d, Rep, RepL] at h; obtain ⟨b, _, rfl, h, _, _, rfl, rfl, _, _, rfl, rfl, _, _, rfl, rfl, rfl⟩ := h; exact ⟨b, rfl, h⟩
theorem pair_tup {H : Hp} {v : V} {x : Nat × Let} (h : Rep H v (pairD x)) : ∃ c b, v = .ref c ∧ H c = some (.tup [.int x.1, .ref b]) ∧ H b = some (.tup x.2.vs) := by
  simp only [pairD, Rep, RepL] at h
  obtain ⟨c, _, rfl, hc, _, _, rfl, rfl, _, _, rfl, r, rfl⟩ := h
  obtain ⟨b, rfl, hb⟩ := let_tup r
  exact ⟨c, b, rfl, hc, hb⟩
theorem vi_eq {i j : Int} (h : i = j) : decide (V.int i = V.int j) = true := decide_eq_true (by rw [h])
theorem vi_ne {i j : Int} (h : i ≠ j) : decide (V.int i = V.int j) = false := decide_eq_false fun z => h (V.int.inj z)
theorem ni_eq {i j : Int} (h : i = j) : (!decide (V.int i = V.int j)) = false := by rw [vi_eq h]; rfl
theorem ns_eq {a : Str} : (!decide (V.str a = V.str a)) = false := by rw [vs_eq]; rfl
theorem atInt {ns : List Int} {k : Int} (h0 : 0 ≤ k) (h1 : k < (ns.length : Nat)) : ∃ z, atI (ns.map V.int) k = some (.int z) := by
  obtain ⟨j, rfl⟩ := Int.eq_ofNat_of_zero_le h0
  have hj : j < ns.length := by lia
  exact ⟨ns[j], atI_nat (by rw [List.getElem?_map, List.getElem?_eq_getElem hj]; rfl)⟩
def spWhole : Sp := fun vs H Q _ => ∃ k : Int, vs = [.int k] ∧ Q (.bl true) H
def spAt (K : PySem.W.Frag) : Sp := fun vs H Q _ => ∃ (a : Addr) (ns : List Int) (k : Int), vs = [.ref a, .int k] ∧ SqL K H a (ns.map V.int) ∧ 0 ≤ k ∧ ∀ z : Int, Q (.int z) H
def spIsDown : Sp := fun vs H Q _ => ∃ c b, ∃ n m d : Nat, ∃ l : Let, vs = [.ref c, .int n, .int m] ∧ H c = some (.tup [.int d, .ref b]) ∧ H b = some (.tup l.vs) ∧ d < n ∧ l.form m ∧ ∀ H', Same H H' → Q (.bl true) H'
section
variable {P : Program} {w : World} {K : PySem.W.Frag} {mg : Str → Option Value} {base : Heap} {t : Adr}
theorem ok_l_whole (T : Txt K w mg t) : FnOk P w K mg base CX0 1 t.f_l_whole t.fd_l_whole ["_law_found"] spWhole := by
  refine T.F_l_whole.ok sc_l_whole (fun vs H Q E h => ?_) (fun cdv A outer s H vs Q E hr h => ?_)
  · obtain ⟨k, rfl, _⟩ := h; rfl
  · obtain ⟨k, rfl, q⟩ := h
    refine ⟨_, (pss_one (ps_ret (pe_and (pe_callB call_isi (by rfl) T.n_isinstance PyProof.Rows.Boot.«isinstance» (pa_cons (pv 0) (pa_cons (pe_bty (by rfl) T.n_int PyProof.Rows.Boot.«int») pa_nil))) (pe_one (pe_not (pe_callB call_isi (by rfl) T.n_isinstance PyProof.Rows.Boot.«isinstance» (pa_cons (pv 0) (pa_cons (pe_bty (by rfl) T.n_bool PyProof.Rows.Boot.«bool») pa_nil)))))))), ?_⟩
    try dsimp only [cxOf, Cx.nox]
    refine ⟨_, rfl, _, _, _, true, rfl, .int k, .inl ⟨_, rfl, kit_ii⟩, _, rfl, iteT ?_⟩
    exact ⟨_, rfl, _, _, _, false, rfl, .int k, .inl ⟨_, rfl, kit_ib⟩, _, rfl, q⟩
theorem ok_l_at (T : Txt K w mg t) : FnOk P w K mg base CX0 1 t.f_l_at t.fd_l_at ["_law_script", "_law_k"] (spAt K) := by
  refine T.F_l_at.ok sc_l_at (fun vs H Q E h => ?_) (fun cdv A outer s H vs Q E hr h => ?_)
  · obtain ⟨a, ns, k, rfl, _⟩ := h; rfl
  · obtain ⟨a, ns, k, rfl, ha, hk, q⟩ := h
    refine ⟨_, (pss_cons (ps_if (pt_cmpR op_lt (pv 1) (pe_callB call_len_seq (by rfl) T.n_len PySem.boot_len (pa_cons (pv 0) pa_nil)) (nomark _)) (pss_one (ps_ret (pe_ix ix_list (pv 0) (pv 1) (fun _ _ => rfl)))) pss_nil)
      (pss_one (ps_ret pe_int))), ?_⟩
    try dsimp only [cxOf, Cx.nox]
    show let Z1 : L2.TS := _; let Z2 : L2.TS := tIfS _ Z1 tNext; let Z3 : L2.TS := _; let D0 : Ends := _; (tSeq Z2 (Z3)) D0 _ _
    intro Z1 Z2 Z3 D0
    refine ⟨_, rfl, _, rfl, a, _, rfl, .inl ha, _, _, rfl, rfl, _, rfl, ?_⟩
    by_cases h : k < ((ns.map V.int).length : Nat)
    · refine iteTb (decide_eq_true h) ?_
      obtain ⟨z, hz⟩ := atInt hk (by simpa using h)
      exact ⟨_, rfl, _, rfl, a, _, k, _, rfl, rfl, ha, hz, q z⟩
    · refine iteFb (decide_eq_false h) ?_
      exact q 0
theorem ok_l_is_down (T : Txt K w mg t) : FnOk P w K mg base CX0 2 t.f_l_is_down t.fd_l_is_down ["_law_found", "_law_count", "_law_pages"] spIsDown := by
  refine T.F_l_is_down.ok sc_l_is_down (fun vs H Q E h => ?_) (fun cdv A outer s H vs Q E hr h => ?_)
  · obtain ⟨c, b, n, m, d, l, rfl, _⟩ := h; rfl
  · obtain ⟨c, b, n, m, d, l, rfl, hc, hb, hd, hf, k⟩ := h
    refine' ⟨_, ?sr, ?_⟩
    case' sr => refine' pss_cons ?b1s0x ?b1sr0x
    case' b1sr0x => refine' pss_cons ?b1s1x ?b1sr1x
    case' b1sr1x => refine' pss_cons ?b1s2x ?b1sr2x
    case' b1sr2x => refine' pss_cons ?b1s3x ?b1sr3x
    case' b1sr3x => refine' pss_cons ?b1s4x ?b1sr4x
    case' b1sr4x => refine' pss_cons ?b1s5x ?b1sr5x
    case' b1sr5x => refine' pss_cons ?b1s6x ?b1sr6x
    case' b1sr6x => refine' pss_cons ?b1s7x ?b1sr7x
    case' b1sr7x => refine' pss_one ?b1s8x
    case' b1s0x => exact (ps_if (PW.pt (pw_or (pt_not (pt_val (pe_callB call_isi (by rfl) T.n_isinstance PyProof.Rows.Boot.«isinstance» (pa_cons (pv 0) (pa_cons (pe_bty (by rfl) T.n_tuple PyProof.Rows.Boot.«tuple») pa_nil))))) (pw_or (pt_cmpR op_ne (pe_callB call_len_seq (by rfl) T.n_len PySem.boot_len (pa_cons (pv 0) pa_nil)) pe_int (nomark _)) (pw_or1 (pt_not (pt_val (pe_call (ok_l_whole T) (hr.mono (by decide) : Room 1 _) (by rfl) T.m_l_whole T.F_l_whole.kp T.b_l_whole .nil pass0 (pa_cons (pe_ix ix_tup (pv 0) pe_int (fun _ _ => rfl)) pa_nil)))))))) (pss_one (ps_ret pe_bl)) pss_nil)
    case' b1s1x => exact (ps_set (i := 3) sc_l_is_down.nd rfl (Or.inl rfl) (pe_ix ix_tup (pv 0) pe_int (fun _ _ => rfl)))
    case' b1s2x => exact (ps_if (PW.pt (pw_or (pt_cmpR op_lt (pe_ix ix_tup (pv 0) pe_int (fun _ _ => rfl)) pe_int (nomark _)) (pw_or (pt_cmpR op_ge (pe_ix ix_tup (pv 0) pe_int (fun _ _ => rfl)) (pv 1) (nomark _)) (pw_or (pt_not (pt_val (pe_callB call_isi (by rfl) T.n_isinstance PyProof.Rows.Boot.«isinstance» (pa_cons (pv 3) (pa_cons (pe_bty (by rfl) T.n_tuple PyProof.Rows.Boot.«tuple») pa_nil))))) (pw_or1 (pt_cmpR op_lt (pe_callB call_len_seq (by rfl) T.n_len PySem.boot_len (pa_cons (pv 3) pa_nil)) pe_int (nomark _))))))) (pss_one (ps_ret pe_bl)) pss_nil)
    case' b1s3x => exact (ps_if (PW.pt (pw_or (pt_not (pt_val (pe_callB call_isi (by rfl) T.n_isinstance PyProof.Rows.Boot.«isinstance» (pa_cons (pe_ix ix_tup (pv 3) pe_int (fun _ _ => rfl)) (pa_cons (pe_bty (by rfl) T.n_str PyProof.Rows.Boot.«str») pa_nil))))) (pw_or1 (pt_not (pt_val (pe_call (ok_l_whole T) (hr.mono (by decide) : Room 1 _) (by rfl) T.m_l_whole T.F_l_whole.kp T.b_l_whole .nil pass0 (pa_cons (pe_ix ix_tup (pv 3) pe_int (fun _ _ => rfl)) pa_nil))))))) (pss_one (ps_ret pe_bl)) pss_nil)
    case' b1s4x => exact (ps_if (pt_not (pt_val (pe_callB call_isi (by rfl) T.n_isinstance PyProof.Rows.Boot.«isinstance» (pa_cons (pe_ix ix_tup (pv 3) pe_int (fun _ _ => rfl)) (pa_cons (pe_bty (by rfl) T.n_str PyProof.Rows.Boot.«str») pa_nil))))) (pss_one (ps_ret pe_bl)) pss_nil)
    case' b1s5x => exact (ps_if (PW.pt (pw_or (pt_cmpR op_lt (pe_ix ix_tup (pv 3) pe_int (fun _ _ => rfl)) pe_int (nomark _)) (pw_or1 (pt_cmpR op_ge (pe_ix ix_tup (pv 3) pe_int (fun _ _ => rfl)) (pv 2) (nomark _))))) (pss_one (ps_ret pe_bl)) pss_nil)
    case' b1s6x => exact (ps_if (pt_cmpR op_eq (pe_ix ix_tup (pv 3) pe_int (fun _ _ => rfl)) pe_str (nomark _)) (pss_one (ps_ret (pe_and (pe_cmpR op_eq (pe_callB call_len_seq (by rfl) T.n_len PySem.boot_len (pa_cons (pv 3) pa_nil)) pe_int (nomark _)) (pe_one (pe_cmpR op_in_seq (pe_ix ix_tup (pv 3) pe_int (fun _ _ => rfl)) (pe_lst (pa_cons pe_str (pa_cons pe_str pa_nil))) (by rfl)))))) pss_nil)
    case' b1s7x => exact (ps_if (PW.pt (pw_or (pt_cmpR op_ne (pe_ix ix_tup (pv 3) pe_int (fun _ _ => rfl)) pe_str (nomark _)) (pw_or (pt_cmpR op_ne (pe_callB call_len_seq (by rfl) T.n_len PySem.boot_len (pa_cons (pv 3) pa_nil)) pe_int (nomark _)) (pw_or1 (pt_not (pt_val (pe_call (ok_l_whole T) (hr.mono (by decide) : Room 1 _) (by rfl) T.m_l_whole T.F_l_whole.kp T.b_l_whole .nil pass0 (pa_cons (pe_ix ix_tup (pv 3) pe_int (fun _ _ => rfl)) pa_nil)))))))) (pss_one (ps_ret pe_bl)) pss_nil)
    case' b1s8x => exact (ps_ret (pe_cmpR op_in_seq (pe_ix ix_tup (pv 3) pe_int (fun _ _ => rfl)) (pe_lst (pa_cons pe_str (pa_cons pe_str pa_nil))) (by rfl)))
    try dsimp only [cxOf, Cx.nox]
    show let Z1 : L2.TS := _; let Z2 : L2.TS := tIfS _ Z1 tNext; let Z3 : L2.TS := _; let Z4 : L2.TS := _; let Z5 : L2.TS := tIfS _ Z4 tNext; let Z6 : L2.TS := _; let Z7 : L2.TS := tIfS _ Z6 tNext; let Z8 : L2.TS := _; let Z9 : L2.TS := tIfS _ Z8 tNext; let Z10 : L2.TS := _; let Z11 : L2.TS := tIfS _ Z10 tNext; let Z12 : L2.TS := _; let Z13 : L2.TS := tIfS _ Z12 tNext; let Z14 : L2.TS := _; let Z15 : L2.TS := tIfS _ Z14 tNext; let Z16 : L2.TS := _; let D0 : Ends := _; (tSeq Z2 (tSeq Z3 (tSeq Z5 (tSeq Z7 (tSeq Z9 (tSeq Z11 (tSeq Z13 (tSeq Z15 (Z16))))))))) D0 _ _
    intro Z1 Z2 Z3 Z4 Z5 Z6 Z7 Z8 Z9 Z10 Z11 Z12 Z13 Z14 Z15 Z16 D0
    refine ⟨_, rfl, _, _, _, true, rfl, .tup hc, .inl ⟨_, rfl, kit_tt⟩, _, rfl, iteFb rfl ?_⟩
    refine ⟨_, rfl, c, _, rfl, .inr (SqT.of hc), rfl, _, rfl, iteFb (ni_eq rfl) ?_⟩
    refine ⟨_, rfl, c, _, 0, _, rfl, rfl, SqT.of hc, rfl, d, rfl, _, rfl, iteFb rfl ?_⟩
    -- letter
    refine ⟨_, rfl, c, _, 1, _, rfl, rfl, SqT.of hc, rfl, ?_⟩
    refine ⟨_, rfl, c, _, 0, _, rfl, rfl, SqT.of hc, rfl, _, _, rfl, rfl, _, rfl, iteFb (decide_eq_false (by lia)) ?_⟩
    refine ⟨_, rfl, c, _, 0, _, rfl, rfl, SqT.of hc, rfl, _, rfl, _, _, rfl, rfl, _, rfl, iteFb (decide_eq_false (by lia)) ?_⟩
    refine ⟨_, rfl, _, _, _, true, rfl, .tup hb, .inl ⟨_, rfl, kit_tt⟩, _, rfl, iteFb rfl ?_⟩
    cases l with
    | lend q r x =>
      obtain ⟨p, rfl, hp, hr'⟩ := hf
      refine ⟨_, rfl, b, _, rfl, .inr (SqT.of hb), _, _, rfl, rfl, _, rfl, iteFb (decide_eq_false (by simp [Let.vs])) ?_⟩
      refine ⟨_, rfl, b, _, 0, _, rfl, rfl, SqT.of hb, rfl, _, _, _, true, rfl, .str _, .inl ⟨_, rfl, kit_ss⟩, _, rfl, iteFb rfl ?_⟩
      refine ⟨_, rfl, b, _, 1, _, rfl, rfl, SqT.of hb, rfl, p, rfl, _, rfl, iteFb rfl ?_⟩
      refine ⟨_, rfl, b, _, 2, _, rfl, rfl, SqT.of hb, rfl, _, _, _, true, rfl, .str _, .inl ⟨_, rfl, kit_ss⟩, _, rfl, iteFb rfl ?_⟩
      refine ⟨_, rfl, b, _, 1, _, rfl, rfl, SqT.of hb, rfl, _, _, rfl, rfl, _, rfl, iteFb (decide_eq_false (by lia)) ?_⟩
      refine ⟨_, rfl, b, _, 1, _, rfl, rfl, SqT.of hb, rfl, _, rfl, _, _, rfl, rfl, _, rfl, iteFb (decide_eq_false (by lia)) ?_⟩
      refine ⟨_, rfl, b, _, 0, _, rfl, rfl, SqT.of hb, rfl, rfl, _, rfl, iteFb (vs_ne (by decide +kernel)) ?_⟩
      refine ⟨_, rfl, b, _, 0, _, rfl, rfl, SqT.of hb, rfl, rfl, _, rfl, iteFb ns_eq ?_⟩
      refine ⟨_, rfl, b, _, rfl, .inr (SqT.of hb), rfl, _, rfl, iteFb (ni_eq rfl) ?_⟩
      refine ⟨_, rfl, b, _, 3, _, rfl, rfl, SqT.of hb, rfl, x, rfl, _, rfl, iteFb rfl ?_⟩
      refine ⟨_, rfl, b, _, 2, _, rfl, rfl, SqT.of hb, rfl, (by show 2 ≤ sizeLine; decide), fun z hz => ⟨z, _, rfl, .inl (SqL.of upd_same), rfl, rfl, ?_⟩⟩
      have e : inV (.str r.s) [.str "read", .str "write"] = true := by rcases hr' with rfl | rfl <;> kernel_rfl
      rw [e]
      exact k _ (same_new hz)
    | back q r =>
      obtain ⟨p, rfl, hp, hr'⟩ := hf
      refine ⟨_, rfl, b, _, rfl, .inr (SqT.of hb), _, _, rfl, rfl, _, rfl, iteFb (decide_eq_false (by simp [Let.vs])) ?_⟩
      refine ⟨_, rfl, b, _, 0, _, rfl, rfl, SqT.of hb, rfl, _, _, _, true, rfl, .str _, .inl ⟨_, rfl, kit_ss⟩, _, rfl, iteFb rfl ?_⟩
      refine ⟨_, rfl, b, _, 1, _, rfl, rfl, SqT.of hb, rfl, p, rfl, _, rfl, iteFb rfl ?_⟩
      refine ⟨_, rfl, b, _, 2, _, rfl, rfl, SqT.of hb, rfl, _, _, _, true, rfl, .str _, .inl ⟨_, rfl, kit_ss⟩, _, rfl, iteFb rfl ?_⟩
      refine ⟨_, rfl, b, _, 1, _, rfl, rfl, SqT.of hb, rfl, _, _, rfl, rfl, _, rfl, iteFb (decide_eq_false (by lia)) ?_⟩
      refine ⟨_, rfl, b, _, 1, _, rfl, rfl, SqT.of hb, rfl, _, rfl, _, _, rfl, rfl, _, rfl, iteFb (decide_eq_false (by lia)) ?_⟩
      refine ⟨_, rfl, b, _, 0, _, rfl, rfl, SqT.of hb, rfl, rfl, _, rfl, iteTb vs_eq ?_⟩
      refine ⟨_, rfl, b, _, rfl, .inr (SqT.of hb), rfl, _, rfl, iteTb (vi_eq rfl) ?_⟩
      refine ⟨_, rfl, b, _, 2, _, rfl, rfl, SqT.of hb, rfl, (by show 2 ≤ sizeLine; decide), fun z hz => ⟨z, _, rfl, .inl (SqL.of upd_same), rfl, rfl, ?_⟩⟩
      have e : inV (.str r.s) [.str "read", .str "none"] = true := by rcases hr' with rfl | rfl <;> kernel_rfl
      rw [e]
      exact k _ (same_new hz)
end
end K07
namespace K07
open PySem L2
theorem ixN_nat {n p : Nat} (h : p < n) : ixN n (p : Int) = some p := by unfold ixN; rw [if_pos (Int.natCast_nonneg _), if_pos (by lia)]; simp
theorem let_rep {H : Hp} {b : Addr} {l : Let} (h : H b = some (.tup l.vs)) : Rep H (.ref b) l.d := by
  cases l with
  | lend p x y => simp only [Let.d, Rep, RepL]; exact ⟨b, _, rfl, h, _, _, rfl, rfl, _, _, rfl, rfl, _, _, rfl, rfl, _, _, rfl, rfl, rfl⟩
  | back p x => simp only [Let.d, Rep, RepL]; exact ⟨b, _, rfl, h, _, _, rfl, rfl, _, _, rfl, rfl, _, _, rfl, rfl, rfl⟩
/-- what is left of the known rights of the others -/
theorem inV_others {n d : Nat} {f : Nat → Rt} {r : Rt} (h : ∀ e, e < n → e ≠ d → f e ≠ r) : inV (.str r.s) (((List.range n).map fun e => V.str (f e).s).eraseIdx d) = false := by
  unfold inV
  rw [List.any_eq_false]
  intro x hx
  rw [List.mem_eraseIdx_iff_getElem?] at hx
  obtain ⟨i, hi, e⟩ := hx
  rw [List.getElem?_map] at e
  cases q : (List.range n)[i]? with
  | none => rw [q] at e; cases e
  | some j =>
    obtain ⟨h1, h2⟩ := List.getElem?_eq_some_iff.mp q
    rw [List.getElem_range] at h2
    rw [List.length_range] at h1
    subst h2
    rw [q] at e
    have e' := Option.some.inj e
    subst e'
    have : (f i).s ≠ r.s := fun z => h i h1 hi (Rt.s_inj z)
    simp [eqV, this]
def PS.put0 (S : PS) (x : Nat × Let) : PS := match x.2 with
  | .lend q r _ => { S with kn := set2 S.kn x.1 q.toNat r, aq := setf S.aq x.1 none }
  | .back _ _ => S
theorem put1_put0 (S : PS) (x : Nat × Let) : S.put1 x = { S.put0 x with ro := setf S.ro x.1 (S.ro x.1 ++ [x.2]) } := by obtain ⟨d, l⟩ := x; cases l <;> rfl
theorem put0_ro (S : PS) (x : Nat × Let) : (S.put0 x).ro = S.ro := by unfold PS.put0; split <;> rfl
theorem puts_ro : ∀ (xs : List (Nat × Let)) (S : PS) (d : Nat), ((S.puts xs).ro d).length ≤ (S.ro d).length + xs.length
  | [], _, _ => Nat.le_refl _
  | x :: xs, S, d => by
    have := puts_ro xs (S.put1 x) d
    rw [puts_cons, List.length_cons]
    have h2 : ((S.put1 x).ro d).length ≤ (S.ro d).length + 1 := by
      rw [put1_ro]
      unfold setf
      by_cases e : d = x.1
      · subst e; rw [if_pos rfl, List.length_append]; simp
      · rw [if_neg e]; lia
    lia
theorem fits_drop {n m : Nat} : ∀ (xs : List (Nat × Let)) (S : PS) (i : Nat), PS.fits n m S xs → PS.fits n m (S.puts (xs.take i)) (xs.drop i)
  | [], S, i, _ => by simp [PS.fits]
  | x :: xs, S, 0, h => h
  | x :: xs, S, i + 1, h => by rw [List.take_succ_cons, List.drop_succ_cons, puts_cons]; exact fits_drop xs _ i h.2.2
def spSent (CH CP : Addr) : Sp := fun vs H Q _ => ∃ A B, ∃ n m : Nat, ∃ S bd l us xs, vs = [.ref (A Yb.play), .ref l] ∧ Both CH CP H A B n m S bd ∧ n ≤ 1000 ∧ m ≤ 1000 ∧ H l = some (.lst us) ∧ ¬ FB A B n m l ∧ RepL H us (xs.map pairD) ∧ PS.fits n m S xs ∧ (∀ d, (S.ro d).length + xs.length ≤ 1000000) ∧
  ∀ H', Both CH CP H' A B n m (S.puts xs) bd → Mo H H' A B B n m → Q (.bl true) H'
section
variable {P : Program} {w : World} {K : PySem.W.Frag} {mg : Str → Option Value} {base : Heap} {t : Adr}
theorem ok_l_sent_right (T : Txt K w mg t) : FnOk P w K mg base CX0 1 t.f_l_sent_right t.fd_l_sent_right ["_law_play", "_law_found"] (spSent t.C_Hall t.C_PageLoans) := by
  refine T.F_l_sent_right.ok sc_l_sent_right (fun vs H Q E h => ?_) (fun cdv A outer s H vs Q E hr h => ?_)
  · obtain ⟨A, B, n, m, S, bd, l, us, xs, rfl, _⟩ := h; rfl
  · obtain ⟨A, B, n, m, S, bd, l, us, xs, rfl, M, hn, hm, hl, hlf, rp, hf, hro, k⟩ := h
    have hu := hu_of hr
    have sl : sizeLine = 16777216 := by decide
    refine' ⟨_, ?sr, ?_⟩
    case' sr => refine' pss_cons ?b2s0x ?b2sr0x
    case' b2sr0x => refine' pss_one ?b2s1x
    case' b2s0x => refine' ps_for PassesOwn.never rfl (pi_list (pv 1)) (pg_tup rfl (pgs_cons (pg_name (i := 2) sc_l_sent_right.nd rfl (Or.inl rfl)) (pgs_cons (pg_name (i := 3) sc_l_sent_right.nd rfl (Or.inl rfl)) pgs_nil))) ?b2s0b
    case' b2s0b => refine' pss_cons ?b3s0x ?b3sr0x
    case' b3sr0x => refine' pss_cons ?b3s1x ?b3sr1x
    case' b3sr1x => refine' pss_one ?b3s2x
    case' b3s0x => exact (ps_set (i := 4) sc_l_sent_right.nd rfl (Or.inr rfl) (pe_ix ix_tup (pv 3) pe_int (fun _ _ => rfl)))
    case' b3s1x => refine' ps_if (pt_cmpR op_eq (pe_ix ix_tup (pv 3) pe_int (fun _ _ => rfl)) pe_str (nomark _)) ?b3s1t ?b3s1f
    case' b3s1t => refine' pss_cons ?b4s0x ?b4sr0x
    case' b4sr0x => refine' pss_cons ?b4s1x ?b4sr1x
    case' b4sr1x => refine' pss_cons ?b4s2x ?b4sr2x
    case' b4sr2x => refine' pss_cons ?b4s3x ?b4sr3x
    case' b4sr3x => refine' pss_cons ?b4s4x ?b4sr4x
    case' b4sr4x => refine' pss_cons ?b4s5x ?b4sr5x
    case' b4sr5x => refine' pss_one ?b4s6x
    case' b4s0x => exact (ps_setComp (i := 5) sc_l_sent_right.nd rfl rfl (compScope (xs := ["_law_one"]) (ys := ["_law_page"]) (js := [4]) rfl (by decide +kernel) (by decide +kernel) (by decide +kernel) (by rfl) ⟨⟨rfl, Or.inl rfl⟩, trivial⟩) rfl (pi_list (pe_dget hu (pv 0) pe_str (fun _ _ => rfl))) (fun _ _ _ _ _ => (pg_name (i := 0) (show List.Nodup ((["_law_one"] : List Str) ++ (["_law_page"] : List Str) : List Str) by decide +kernel) rfl (Or.inl rfl))) (fun _ _ _ _ _ => pif_nil) (fun _ _ _ _ _ => (pe_ix (ixR_K (K := K) (r := rIxL) ix_list rfl) (pv 0) (pv 1) (fun _ _ => rfl))))
    case' b4s1x => exact (ps_expr (pe_bm PySem.F.plainAttrs_list PySem.F.slot_list_pop PySem.F.type_list_pop mt_popAt (pv 5) (pa_cons (pv 2) pa_nil)))
    case' b4s2x => exact (ps_if (PW.pt (pw_or (pt_cmpR op_in_seq pe_str (pv 5) (by rfl)) (pw_or1 (PW.pt (pw_and (pt_cmpR op_eq (pe_ix ix_tup (pv 3) pe_int (fun _ _ => rfl)) pe_str (nomark _)) (pw_and1 (pt_cmpR op_in_seq pe_str (pv 5) (by rfl)))))))) (pss_one (ps_ret pe_bl)) pss_nil)
    case' b4s3x => exact (ps_if (pt_cmpR op_ne (pe_ix ix_tup (pv 3) pe_int (fun _ _ => rfl)) (pe_ix ix_list (pe_dget hu (pv 0) pe_str (fun _ _ => rfl)) (pv 4) (fun _ _ => rfl)) (nomark _)) (pss_one (ps_ret pe_bl)) pss_nil)
    case' b4s4x => exact (ps_if (pt_cmpR (op_neSame hr.units0) (pe_ix ix_list (pe_dget hu (pv 0) pe_str (fun _ _ => rfl)) (pv 2) (fun _ _ => rfl)) (pe_tup (pa_cons (pv 4) (pa_cons (pe_ix ix_tup (pv 3) pe_int (fun _ _ => rfl)) pa_nil))) (nomark _)) (pss_one (ps_ret pe_bl)) pss_nil)
    case' b4s5x => exact (ps_asg (pe_ix ix_tup (pv 3) pe_int (fun _ _ => rfl)) (pg_sub (pe_ix ix_list (pe_dget hu (pv 0) pe_str (fun _ _ => rfl)) (pv 2) (fun _ _ => rfl)) (pv 4) set_list))
    case' b4s6x => exact (ps_asg pe_non (pg_sub (pe_dget hu (pv 0) pe_str (fun _ _ => rfl)) (pv 2) set_list))
    case' b3s1f => exact pss_nil
    case' b3s2x => exact (ps_expr (pe_bm PySem.F.plainAttrs_list PySem.F.slot_list_append PySem.F.type_list_append mt_append (pe_ix ix_list (pe_dget hu (pv 0) pe_str (fun _ _ => rfl)) (pv 2) (fun _ _ => rfl)) (pa_cons (pv 3) pa_nil)))
    case' b2s1x => exact (ps_ret pe_bl)
    try dsimp only [cxOf, Cx.nox]
    show let Z1 : L2.TS := _; let Z2 : L2.TS := _; let Z3 : L2.TS := _; let Z4 : L2.TS := _; let Z5 : L2.TS := tIfS _ Z4 tNext; let Z6 : L2.TS := _; let Z7 : L2.TS := tIfS _ Z6 tNext; let Z8 : L2.TS := _; let Z9 : L2.TS := tIfS _ Z8 tNext; let Z10 : L2.TS := _; let Z11 : L2.TS := _; let Z12 : L2.TS := tSeq Z2 (tSeq Z3 (tSeq Z5 (tSeq Z7 (tSeq Z9 (tSeq Z10 (Z11)))))); let Z13 : L2.TS := tIfS _ Z12 tNext; let Z14 : L2.TS := _; let Z15 : L2.TS := tSeq Z1 (tSeq Z13 (Z14)); let Z16 : L2.TS := tFor _ _ Z15; let Z17 : L2.TS := _; let D0 : Ends := _; (tSeq Z16 (Z17)) D0 _ _
    intro Z1 Z2 Z3 Z4 Z5 Z6 Z7 Z8 Z9 Z10 Z11 Z12 Z13 Z14 Z15 Z16 Z17 D0
    have hlen : us.length = xs.length := by rw [rp.length, List.length_map]
    refine ⟨_, rfl, l, rfl, ⟨_, SqL.of hl⟩, ?_⟩
    let PV1 : Nat → St → Hp → Prop := fun i σ' H' => (∃ o2 o3 o4 o5, σ' = [some (.ref (A .play)), some (.ref l), o2, o3, o4, o5]) ∧ i ≤ us.length ∧ Both t.C_Hall t.C_PageLoans H' A B n m (S.puts (xs.take i)) bd ∧ Mo H H' A B B n m ∧ H' l = some (.lst us) ∧ RepL H' us (xs.map pairD)
    refine for_list (xs := us) PV1 ?_ ?_ ?_ ?_
    · exact ⟨⟨_, _, _, _, rfl⟩, Nat.zero_le _, M, Mo.refl _ _ _ _ _, hl, rp⟩
    · rintro i σ' H' _ ⟨_, _, _, _, hl', _⟩
      exact SqL.of hl'
    · rintro i y σ' H' hy ⟨⟨o2, o3, o4, o5, rfl⟩, hi, M', mo', hl', rp'⟩
      have hi' : i < us.length := (List.getElem?_eq_some_iff.mp hy).1
      have hix : i < xs.length := by lia
      obtain ⟨dd, hdd, ry⟩ := RepL.get rp' hy
      rw [List.getElem?_map, List.getElem?_eq_getElem hix] at hdd
      have hdd' := Option.some.inj hdd
      subst hdd'
      have hdrop : xs.drop i = xs[i] :: xs.drop (i + 1) := List.drop_eq_getElem_cons hix
      have hfi := fits_drop xs S i hf
      rw [hdrop, fits_cons] at hfi
      have htk : xs.take (i + 1) = xs.take i ++ [xs[i]] := by rw [List.take_add_one, List.getElem?_eq_getElem hix]; rfl
      have hrl := puts_ro (xs.take i) S xs[i].1
      rw [List.length_take] at hrl
      generalize hS1 : S.puts (xs.take i) = S1 at *
      generalize hx : xs[i] = x at *
      obtain ⟨d, lt⟩ := x
      obtain ⟨c, b, rfl, hc, hb⟩ := pair_tup ry
      obtain ⟨⟨hd, hform⟩, hfit, _⟩ := hfi
      dsimp only at hd hform hc hb hrl
      refine ⟨c, _, rfl, SqT.of hc, rfl, _, _, rfl, _, _, rfl, rfl, ?_⟩
      obtain ⟨p, hp, hat1⟩ : ∃ p : Nat, p < m ∧ atI lt.vs 1 = some (.int p) := by
        cases lt with
        | lend q r x => obtain ⟨p, rfl, hp, _⟩ := hform; exact ⟨p, hp, rfl⟩
        | back q r => obtain ⟨p, rfl, hp, _⟩ := hform; exact ⟨p, hp, rfl⟩
      refine ⟨_, rfl, b, _, 1, _, rfl, rfl, SqT.of hb, hat1, ?_⟩
      try dsimp only [tNext]
      refine seq_via (fun σ' H'' => (∃ o5, σ' = [some (.ref (A .play)), some (.ref l), some (.int d), some (.ref b), some (.int p), o5]) ∧ Both t.C_Hall t.C_PageLoans H'' A B n m (S1.put0 (d, lt)) bd ∧ Mo H' H'' A B B n m) (fun N hN => ?_) ?_
      · cases lt with
        | back q r =>
          refine ⟨_, rfl, b, _, 0, _, rfl, rfl, SqT.of hb, rfl, rfl, _, rfl, iteFb (vs_ne (by decide +kernel)) ?_⟩
          exact hN _ _ ⟨⟨_, rfl⟩, M', Mo.refl _ _ _ _ _⟩
        | lend q r kk =>
          obtain ⟨p', rfl, hp', hr'⟩ := hform
          have epp : p' = p := by have := V.int.inj (Option.some.inj hat1); lia
          subst epp
          obtain ⟨f1, f2, f3⟩ := hfit
          simp only [Int.toNat_natCast] at f1 f2 f3
          subst f2
          refine ⟨_, rfl, b, _, 0, _, rfl, rfl, SqT.of hb, rfl, rfl, _, rfl, iteTb vs_eq ?_⟩
          -- the others' rights
          refine ⟨_, rfl, A .play, _, rfl, dget M'.pl.play pkv_known, A .known, rfl, ⟨_, SqL.of M'.pl.known⟩, fun acc hacc => ?_⟩
          let PV2 : Nat → List V → St → Hp → Prop := fun i zs σ' H2 => (∃ o, σ' = [o, some (.int p')]) ∧ Same H' H2 ∧ H2 acc = some (.lst zs) ∧ zs = (List.range i).map fun e => V.str (S1.kn e p').s
          refine comp_list (xs := (List.range n).map fun e => V.ref (A (.kno e))) PV2 ?_ ?_ ?_ ?_
          · exact ⟨⟨_, rfl⟩, same_new hacc, upd_same, rfl⟩
          · rintro i zs σ' H2 _ ⟨_, s', ha', _⟩
            exact ⟨SqL.of (s' _ _ M'.pl.known), ha'⟩
          · rintro i y zs σ' H2 hy hi2 ⟨⟨o, rfl⟩, s', ha', rfl⟩
            rw [List.length_map, List.length_range] at hi2
            have hy' : y = .ref (A (.kno i)) := by
              rw [List.getElem?_map, List.getElem?_range hi2] at hy
              exact (Option.some.inj hy).symm
            subst hy'
            refine gYes_if ⟨_, rfl, _, rfl, A (.kno i), _, p', _, rfl, rfl, SqL.of (s' _ _ (M'.pl.kno hi2)), range_at hp', ?_⟩
            refine CStep.mk (by simpa using hi2) ha' (by rw [List.length_map, List.length_range]; lia) ⟨⟨_, rfl⟩, same_upd s' hacc, upd_same, ?_⟩
            rw [List.range_succ, List.map_append]; rfl
          · rintro zs σ' H2 ⟨_, s2, ha2, hz⟩
            rw [List.length_map, List.length_range] at hz
            subst hz
            have M2 := M'.same s2
            have hb2 := s2 _ _ hb
            -- others.pop(to)
            refine ⟨_, rfl, .inl ⟨rfl, _, SqL.of ha2⟩, _, rfl, acc, _, (d : Int), d, .str (S1.kn d p').s, rfl, rfl, ha2, by lia, by lia, ?_, ?_, ?_⟩
            · rw [List.length_map, List.length_range]; unfold seqIndex?; simp; lia
            · rw [List.getElem?_map, List.getElem?_range hd]; rfl
            have s3 : Same H' (upd H2 acc (.lst (((List.range n).map fun e => V.str (S1.kn e p').s).eraseIdx d))) := same_upd s2 hacc
            have ha3 : upd H2 acc (.lst (((List.range n).map fun e => V.str (S1.kn e p').s).eraseIdx d)) acc = some (.lst (((List.range n).map fun e => V.str (S1.kn e p').s).eraseIdx d)) := upd_same
            generalize upd H2 acc (.lst (((List.range n).map fun e => V.str (S1.kn e p').s).eraseIdx d)) = H3 at s3 ha3
            clear s2 ha2
            have hflat : (((List.range n).map fun e => V.str (S1.kn e p').s).eraseIdx d).all flatV = true := by
              rw [List.all_eq_true]
              intro z hz
              obtain ⟨e, _, rfl⟩ := List.mem_map.mp (List.mem_of_mem_eraseIdx hz)
              rfl
            have no1 : inV (.str Rt.wr.s) (((List.range n).map fun e => V.str (S1.kn e p').s).eraseIdx d) = false := inV_others fun e h1 h2 => (f1 e h1 h2).1
            have M3 := M'.same s3
            have hb3 := s3 _ _ hb
            refine ⟨_, rfl, acc, _, rfl, .inl (SqL.of ha3), rfl, hflat, _, rfl, iteFb no1 ?_⟩
            have tst : ∀ {X Y : Prop}, Y → (tAnd (tTest (tOp rEq (tOp (rIxT K) (tVar 3) (tC (.int 2))) (tC (.str "write")))) (tTest (tOp (rIn K false) (tC (.str "read")) (tVar 5)))) [some (.ref (A .play)), some (.ref l), some (.int d), some (.ref b), some (.int p'), some (.ref acc)] H3 (fun c H' => if c = true then X else Y) := fun hY => by
              refine ⟨_, rfl, b, _, 2, _, rfl, rfl, SqT.of hb3, rfl, rfl, _, rfl, ?_⟩
              rcases hr' with rfl | rfl
              · exact iteFb (rt_ne (x := "write") (q := .wr) rfl (by intro z; cases z)) (iteFb rfl hY)
              · refine iteTb vs_eq ?_
                have no2 : inV (.str Rt.rd.s) (((List.range n).map fun e => V.str (S1.kn e p').s).eraseIdx d) = false := inV_others fun e h1 h2 => (f1 e h1 h2).2 rfl
                exact ⟨_, rfl, acc, _, rfl, .inl (SqL.of ha3), rfl, hflat, _, rfl, iteFb no2 hY⟩
            refine tst ?_
            -- the number
            refine ⟨_, rfl, b, _, 3, _, rfl, rfl, SqT.of hb3, rfl, _, rfl, A .play, _, rfl, dget M3.pl.play pkv_last, _, rfl, A .last, _, _, _, rfl, rfl, SqL.of M3.pl.last, range_at hp', rfl, _, rfl, iteFb (ni_eq rfl) ?_⟩
            -- what was asked
            obtain ⟨av, a1, a2, a3⟩ := M3.pl.asked
            obtain ⟨v, v1, v2⟩ := a3 d hd
            rw [f3] at v2
            simp only [aqD, Rep, RepL] at v2
            obtain ⟨ta, _, rfl, hta, _, _, rfl, rfl, _, _, rfl, rfl, rfl⟩ := v2
            refine ⟨_, rfl, A .play, _, rfl, dget M3.pl.play pkv_asked, _, rfl, A .asked, _, _, _, rfl, rfl, SqL.of a1, atI_nat v1, _, rfl, _, rfl, b, _, 2, _, rfl, rfl, SqT.of hb3, rfl, (by show 2 ≤ sizeLine; decide), fun z hz => ?_⟩
            have s4 := same_new (o := .tup [.int p', .str r.s]) hz
            refine ⟨ta, z, [.int p', .str r.s], rfl, rfl, .inr ⟨SqT.of (s4 _ _ hta), SqT.of upd_same⟩, rfl, ?_, _, rfl, iteFb rfl ?_⟩
            · intro y hy
              rcases List.mem_cons.mp hy with rfl | hy
              · simp [eqV]
              · rw [List.mem_singleton] at hy; subst hy; simp [eqV]
            have M4 := M3.same s4
            have hb4 := s4 _ _ hb3
            have s04 := s3.trans s4
            generalize upd H3 z (.tup [.int p', .str r.s]) = H4 at M4 hb4 s04
            clear M3 hb3 s3 s4 a1 a2 a3 v1 hta hz ha3
            -- known[to][page] = letter[2]
            refine ⟨_, rfl, b, _, 2, _, rfl, rfl, SqT.of hb4, rfl, _, rfl, A .play, _, rfl, dget M4.pl.play pkv_known, _, rfl, A .known, _, _, _, rfl, rfl, SqL.of M4.pl.known, range_at hd, _, rfl, A (.kno d), _, _, p', rfl, rfl, M4.pl.kno hd, ixN_nat (by simpa using hp'), ?_⟩
            obtain ⟨M5, mo5⟩ := M4.wr (M4.pl.wrKno hd hp' r) rfl
            generalize upd H4 (A (.kno d)) _ = H5 at M5 mo5
            -- asked[to] = None
            obtain ⟨av, a1, a2, a3⟩ := M5.pl.asked
            refine ⟨_, rfl, A .play, _, rfl, dget M5.pl.play pkv_asked, _, rfl, A .asked, _, _, d, rfl, rfl, a1, ixN_nat (by lia), ?_⟩
            obtain ⟨M6, mo6⟩ := M5.wr (M5.pl.wrAsk hd (v := .non) (o := none) a1 rfl) rfl
            refine hN _ _ ⟨⟨_, rfl⟩, ?_, ((Mo.of_same s04).trans mo5).trans mo6⟩
            have e : S1.put0 (d, .lend p' r (S1.la p')) = { S1 with kn := set2 S1.kn d p' r, aq := setf S1.aq d none } := rfl
            rw [e]
            exact M6
      · rintro σ' H'' ⟨⟨o5', rfl⟩, M2, mo2⟩
        have hb2 := (M'.tups mo2) _ _ hb
        obtain ⟨rv, r1, r2⟩ := M2.pl.road hd
        have hrl2 : rv.length < sizeLine := by
          rw [r2.length, List.length_map, put0_ro]
          have := hro d
          lia
        refine ⟨_, rfl, A .play, _, rfl, dget M2.pl.play pkv_roads, _, rfl, A .roads, _, _, _, rfl, rfl, SqL.of M2.pl.roads, range_at hd, .inl ⟨rfl, _, SqL.of r1⟩, _, rfl, A (.road d), rv, _, rfl, rfl, r1, hrl2, ?_⟩
        rw [put0_ro] at r2
        obtain ⟨M3, mo3⟩ := M2.wr (M2.pl.wrRoad hd (l := S1.ro d ++ [lt]) (by rw [List.map_append]; exact RepL.snoc r2 (let_rep hb2))) rfl
        have mo03 := mo2.trans mo3
        have hlf' : ¬ FB A B n m l := hlf
        have hl3 := mo03.kl.kp l _ hl' hlf'
        refine ⟨⟨_, _, _, _, rfl⟩, hi', ?_, mo'.trans mo03, hl3, rp'.tmono (M'.tups mo03) (pairD_flat _)⟩
        rw [htk, puts_append, hS1, puts_cons]
        show Both t.C_Hall t.C_PageLoans _ A B n m (S1.put1 (d, lt)) bd
        rw [put1_put0]
        rw [put0_ro] at M3
        exact M3
    · rintro σ' H' ⟨⟨o2, o3, o4, o5, rfl⟩, _, M', mo', _, _⟩
      rw [hlen, List.take_length] at M'
      exact k H' M' mo'
end
end K07
namespace K07
open PySem L2
def UL.num : UL → Option Int
  | .ask _ _ => none
  | .ans _ o => o
  | .gave _ x => some x
def laN (f : Nat → Int) (p : Nat) : Option Int → Nat → Int
  | none => f
  | some x => setf f p x
/-- what the law notes of a letter that comes up -/
def PS.hear (S : PS) (d : Nat) (low : Rt) : UL → PS
  | .ask p r => { S with aq := setf S.aq d (some (p, r)) }
  | .ans p o => { S with la := laN S.la p o, kn := set2 S.kn d p (if low = .no ∨ S.kn d p = .wr then low else S.kn d p) }
  | .gave p x => { S with la := laN S.la p (some x), kn := set2 S.kn d p (if low = .no ∨ S.kn d p = .wr then low else S.kn d p) }
def HearOk (bd bd' : Nat → List Rt) (d : Nat) (low : Rt) : UL → Prop
  | .ask _ _ => bd' = bd
  | .ans _ _ => ∃ rest, bd d = low :: rest ∧ bd' = setf bd d rest
  | .gave _ _ => low = .no ∧ bd' = bd
theorem hear_pg (S : PS) (d : Nat) (low : Rt) (l : UL) : (S.hear d low l).pg = S.pg := by cases l <;> rfl
theorem hear_ro (S : PS) (d : Nat) (low : Rt) (l : UL) : (S.hear d low l).ro = S.ro := by cases l <;> rfl
theorem set2_id (f : Nat → Nat → Rt) (d p : Nat) : set2 f d p (f d p) = f := by
  funext e q
  unfold set2
  by_cases h : e = d ∧ q = p
  · rw [if_pos h, h.1, h.2]
  · rw [if_neg h]
theorem come_rep {H : Hp} {c b : Addr} {x : Nat × UL} (hc : H c = some (.tup [.int x.1, .ref b])) (hb : H b = some (.tup x.2.vs)) : Rep H (.ref c) (comeD x) := by
  simp only [comeD, Rep, RepL]
  exact ⟨c, _, rfl, hc, _, _, rfl, rfl, _, _, rfl, ul_rep hb, rfl⟩
def spTold (CH CP : Addr) : Sp := fun vs H Q _ => ∃ A B, ∃ n m : Nat, ∃ S bd bd' b, ∃ d : Nat, ∃ l low, vs = [.ref (A Yb.play), .ref (B Hb.hall), .int d, .ref b] ∧ Both CH CP H A B n m S bd ∧ n ≤ 1000 ∧ m ≤ 1000 ∧ H b = some (.tup (UL.vs l)) ∧ d < n ∧ HearOk bd bd' d low l ∧ hallOk m S.pg [(d, l)] ∧
  PS.fits n m (S.hear d low l) ((S.pg l.pg).take l.pg d l).2 ∧ (∀ e, (S.ro e).length + ((S.pg l.pg).take l.pg d l).2.length ≤ 1000000) ∧
  ∀ B' H', Both CH CP H' A B' n m ((S.hear d low l).hall l.pg d l) bd' → Mo H H' A B B' n m → Q (.bl true) H'
section
variable {P : Program} {w : World} {K : PySem.W.Frag} {mg : Str → Option Value} {base : Heap} {t : Adr}
theorem ok_l_told (T : Txt K w mg t) : FnOk P w K mg base CX0 7 t.f_l_told t.fd_l_told ["_law_play", "_law_hall", "_law_desk", "_law_letter"] (spTold t.C_Hall t.C_PageLoans) := by
  refine T.F_l_told.ok sc_l_told (fun vs H Q E h => ?_) (fun cdv A outer s H vs Q E hr h => ?_)
  · obtain ⟨A, B, n, m, S, bd, bd', b, d, l, low, rfl, _⟩ := h; rfl
  · obtain ⟨A, B, n, m, S, bd, bd', b, d, l, low, rfl, M, hn, hm, hb, hd, hh, hok, hf, hro, k⟩ := h
    have hu := hu_of hr
    have sl : sizeLine = 16777216 := by decide
    have hp : l.pg < m := hok.1
    refine' ⟨_, ?sr, ?_⟩
    case' sr => refine' pss_cons ?b5s0x ?b5sr0x
    case' b5sr0x => refine' pss_cons ?b5s1x ?b5sr1x
    case' b5sr1x => refine' pss_cons ?b5s2x ?b5sr2x
    case' b5sr2x => refine' pss_cons ?b5s3x ?b5sr3x
    case' b5sr3x => refine' pss_cons ?b5s4x ?b5sr4x
    case' b5sr4x => refine' pss_cons ?b5s5x ?b5sr5x
    case' b5sr5x => refine' pss_one ?b5s6x
    case' b5s0x => exact (ps_set (i := 4) sc_l_told.nd rfl (Or.inl rfl) (pe_ix ix_tup (pv 3) pe_int (fun _ _ => rfl)))
    case' b5s1x => refine' ps_if (pt_cmpR op_ne (pe_ix ix_tup (pv 3) pe_int (fun _ _ => rfl)) pe_str (nomark _)) ?b5s1t ?b5s1f
    case' b5s1t => refine' pss_cons ?b6s0x ?b6sr0x
    case' b6sr0x => refine' pss_cons ?b6s1x ?b6sr1x
    case' b6sr1x => refine' pss_cons ?b6s2x ?b6sr2x
    case' b6sr2x => refine' pss_one ?b6s3x
    case' b6s0x => exact (ps_if (pt_cmp (pc_notN (pe_ix ix_tup (pv 3) pe_int (fun _ _ => rfl)))) (pss_one (ps_asg (pe_ix ix_tup (pv 3) pe_int (fun _ _ => rfl)) (pg_sub (pe_dget hu (pv 0) pe_str (fun _ _ => rfl)) (pv 4) set_list))) pss_nil)
    case' b6s1x => exact (ps_set (i := 5) sc_l_told.nd rfl (Or.inl rfl) pe_str)
    case' b6s2x => exact (ps_if (pt_cmpR op_eq (pe_ix ix_tup (pv 3) pe_int (fun _ _ => rfl)) pe_str (nomark _)) (pss_one (ps_set (i := 5) sc_l_told.nd rfl (Or.inl rfl) (pe_bm PySem.F.plainAttrs_list PySem.F.slot_list_pop PySem.F.type_list_pop mt_popAt (pe_ix ix_list (pe_dget hu (pv 0) pe_str (fun _ _ => rfl)) (pv 2) (fun _ _ => rfl)) (pa_cons pe_int pa_nil)))) pss_nil)
    case' b6s3x => exact (ps_if (PW.pt (pw_or (pt_cmpR op_eq (pv 5) pe_str (nomark _)) (pw_or1 (pt_cmpR op_eq (pe_ix ix_list (pe_ix ix_list (pe_dget hu (pv 0) pe_str (fun _ _ => rfl)) (pv 2) (fun _ _ => rfl)) (pv 4) (fun _ _ => rfl)) pe_str (nomark _))))) (pss_one (ps_asg (pv 5) (pg_sub (pe_ix ix_list (pe_dget hu (pv 0) pe_str (fun _ _ => rfl)) (pv 2) (fun _ _ => rfl)) (pv 4) set_list))) pss_nil)
    case' b5s1f => refine' pss_one ?b7s0x
    case' b7s0x => exact (ps_asg (pe_tup (pa_cons (pv 4) (pa_cons (pe_ix ix_tup (pv 3) pe_int (fun _ _ => rfl)) pa_nil))) (pg_sub (pe_dget hu (pv 0) pe_str (fun _ _ => rfl)) (pv 2) set_list))
    case' b5s2x => exact (ps_set (i := 6) sc_l_told.nd rfl (Or.inl rfl) (pe_call (ok_taken_by_hall T) (hr.mono (by decide) : Room 6 _) (by rfl) T.m_taken_by_hall T.F_taken_by_hall.kp T.b_taken_by_hall .nil pass0 (pa_cons (pv 1) (pa_cons (pe_lst (pa_cons (pe_tup (pa_cons (pv 2) (pa_cons (pv 3) pa_nil))) pa_nil)) pa_nil))))
    case' b5s3x => exact (ps_if (PW.pt (pw_or (pt_not (pt_val (pe_callB call_isi (by rfl) T.n_isinstance PyProof.Rows.Boot.«isinstance» (pa_cons (pv 6) (pa_cons (pe_bty (by rfl) T.n_list PyProof.Rows.Boot.«list») pa_nil))))) (pw_or (pt_cmpR op_ne (pe_callB call_len_seq (by rfl) T.n_len PySem.boot_len (pa_cons (pv 6) pa_nil)) pe_int (nomark _)) (pw_or1 (pt_not (pt_val (pe_callB call_isi (by rfl) T.n_isinstance PyProof.Rows.Boot.«isinstance» (pa_cons (pe_ix ix_list (pv 6) pe_int (fun _ _ => rfl)) (pa_cons (pe_bty (by rfl) T.n_list PyProof.Rows.Boot.«list») pa_nil))))))))) (pss_one (ps_ret pe_bl)) pss_nil)
    case' b5s4x => exact (ps_set (i := 6) sc_l_told.nd rfl (Or.inl rfl) (pe_ix ix_list (pv 6) pe_int (fun _ _ => rfl)))
    case' b5s5x => refine' ps_for PassesOwn.never rfl (pi_list (pv 6)) (pg_name (i := 7) sc_l_told.nd rfl (Or.inl rfl)) ?b5s5b
    case' b5s5b => refine' pss_one ?b8s0x
    case' b8s0x => exact (ps_if (pt_not (pt_val (pe_call (ok_l_is_down T) (hr.mono (by decide) : Room 2 _) (by rfl) T.m_l_is_down T.F_l_is_down.kp T.b_l_is_down .nil pass0 (pa_cons (pv 7) (pa_cons (pe_dget hu (pv 0) pe_str (fun _ _ => rfl)) (pa_cons (pe_dget hu (pv 0) pe_str (fun _ _ => rfl)) pa_nil)))))) (pss_one (ps_ret pe_bl)) pss_nil)
    case' b5s6x => exact (ps_ret (pe_call (ok_l_sent_right T) (hr.mono (by decide) : Room 1 _) (by rfl) T.m_l_sent_right T.F_l_sent_right.kp T.b_l_sent_right .nil pass0 (pa_cons (pv 0) (pa_cons (pv 6) pa_nil))))
    try dsimp only [cxOf, Cx.nox]
    show let Z1 : L2.TS := _; let Z2 : L2.TS := _; let Z3 : L2.TS := tIfS _ Z2 tNext; let Z4 : L2.TS := _; let Z5 : L2.TS := _; let Z6 : L2.TS := tIfS _ Z5 tNext; let Z7 : L2.TS := _; let Z8 : L2.TS := tIfS _ Z7 tNext; let Z9 : L2.TS := tSeq Z3 (tSeq Z4 (tSeq Z6 (Z8))); let Z10 : L2.TS := _; let Z11 : L2.TS := tIfS _ Z9 Z10; let Z12 : L2.TS := _; let Z13 : L2.TS := _; let Z14 : L2.TS := tIfS _ Z13 tNext; let Z15 : L2.TS := _; let Z16 : L2.TS := _; let Z17 : L2.TS := tIfS _ Z16 tNext; let Z18 : L2.TS := tFor _ _ Z17; let Z19 : L2.TS := _; let D0 : Ends := _; (tSeq Z1 (tSeq Z11 (tSeq Z12 (tSeq Z14 (tSeq Z15 (tSeq Z18 (Z19))))))) D0 _ _
    intro Z1 Z2 Z3 Z4 Z5 Z6 Z7 Z8 Z9 Z10 Z11 Z12 Z13 Z14 Z15 Z16 Z17 Z18 Z19 D0
    refine ⟨_, rfl, b, _, 1, _, rfl, rfl, SqT.of hb, UL.at1 l, ?_⟩
    try dsimp only [tNext]
    refine seq_via (fun σ' H1 => (∃ o5, σ' = [some (.ref (A .play)), some (.ref (B .hall)), some (.int d), some (.ref b), some (.int l.pg), o5, none, none]) ∧ Both t.C_Hall t.C_PageLoans H1 A B n m (S.hear d low l) bd' ∧ Mo H H1 A B B n m) (fun N hN => ?_) ?_
    · by_cases hask : ∃ p r, l = .ask p r
      · obtain ⟨p, r, rfl⟩ := hask
        refine ⟨_, rfl, b, _, 0, _, rfl, rfl, SqT.of hb, rfl, rfl, _, rfl, iteFb ns_eq ?_⟩
        refine ⟨_, rfl, _, rfl, b, _, 2, _, rfl, rfl, SqT.of hb, rfl, (by show 2 ≤ sizeLine; decide), fun z hz => ?_⟩
        have s1 := same_new (o := .tup [.int p, .str r.s]) hz
        have M1 := M.same s1
        obtain ⟨av, a1, a2, a3⟩ := M1.pl.asked
        refine ⟨_, rfl, A .play, _, rfl, dget M1.pl.play pkv_asked, _, rfl, A .asked, _, _, d, rfl, rfl, a1, ixN_nat (by lia), ?_⟩
        obtain ⟨M2, mo2⟩ := M1.wr (M1.pl.wrAsk hd (v := .ref z) (o := some (p, r)) a1 (by simp only [aqD, Rep, RepL]; exact ⟨z, _, rfl, upd_same, _, _, rfl, rfl, _, _, rfl, rfl, rfl⟩)) rfl
        refine hN _ _ ⟨⟨_, rfl⟩, ?_, (Mo.of_same s1).trans mo2⟩
        rw [show bd' = bd from hh]
        exact M2
      · have hat0 : ∃ tg : Str, atI l.vs 0 = some (.str tg) ∧ tg ≠ "ask" ∧ (tg = "answer" ∧ (∃ p o, l = .ans p o) ∨ tg = "gave" ∧ (∃ p x, l = .gave p x)) := by
          cases l with
          | ask p r => exact absurd ⟨p, r, rfl⟩ hask
          | ans p o => exact ⟨_, rfl, by decide +kernel, .inl ⟨rfl, p, o, rfl⟩⟩
          | gave p x => exact ⟨_, rfl, by decide +kernel, .inr ⟨rfl, p, x, rfl⟩⟩
        have hat2 : atI l.vs 2 = some (oV l.num) := by
          cases l with
          | ask p r => exact absurd ⟨p, r, rfl⟩ hask
          | ans p o => rfl
          | gave p x => rfl
        obtain ⟨tg, htg, hna, htg2⟩ := hat0
        refine ⟨_, rfl, b, _, 0, _, rfl, rfl, SqT.of hb, htg, rfl, _, rfl, iteTb (by rw [vs_ne hna]; rfl) ?_⟩
        try dsimp only [tNext]
        refine seq_via (fun σ' H1 => σ' = [some (.ref (A .play)), some (.ref (B .hall)), some (.int d), some (.ref b), some (.int l.pg), none, none, none] ∧ Both t.C_Hall t.C_PageLoans H1 A B n m { S with la := laN S.la l.pg l.num } bd ∧ Mo H H1 A B B n m) (fun N' hN' => ?_) ?_
        · refine ⟨_, rfl, b, _, 2, _, rfl, rfl, SqT.of hb, hat2, _, rfl, ?_⟩
          cases hnum : l.num with
          | none =>
            simp only [hnum] at hN'
            refine iteFb rfl ?_
            exact hN' _ _ ⟨rfl, M, Mo.refl _ _ _ _ _⟩
          | some x =>
            simp only [hnum] at hN'
            rw [hnum] at hat2
            refine iteTb rfl ?_
            refine ⟨_, rfl, b, _, 2, _, rfl, rfl, SqT.of hb, hat2, _, rfl, A .play, _, rfl, dget M.pl.play pkv_last, _, rfl, A .last, _, _, l.pg, rfl, rfl, M.pl.last, ixN_nat (by simpa using hp), ?_⟩
            obtain ⟨M2, mo2⟩ := M.wr (M.pl.wrLast hp x) rfl
            exact hN' _ _ ⟨rfl, M2, mo2⟩
        rintro σ' H1 ⟨rfl, M1, mo1⟩
        have hb1 := (M.tups mo1) _ _ hb
        -- low
        try dsimp only [tNext]
        refine seq_via (fun σ' H2 => σ' = [some (.ref (A .play)), some (.ref (B .hall)), some (.int d), some (.ref b), some (.int l.pg), some (.str "none"), none, none] ∧ H2 = H1) (fun N' hN' => hN' _ _ ⟨rfl, rfl⟩) ?_
        rintro σ' H1' ⟨rfl, rfl⟩
        try dsimp only [tNext]
        refine seq_via (fun σ' H2 => σ' = [some (.ref (A .play)), some (.ref (B .hall)), some (.int d), some (.ref b), some (.int l.pg), some (.str low.s), none, none] ∧ Both t.C_Hall t.C_PageLoans H2 A B n m { S with la := laN S.la l.pg l.num } bd' ∧ Mo H H2 A B B n m) (fun N' hN' => ?_) ?_
        · refine ⟨_, rfl, b, _, 0, _, rfl, rfl, SqT.of hb1, htg, rfl, _, rfl, ?_⟩
          rcases htg2 with ⟨rfl, p, o, rfl⟩ | ⟨rfl, p, x, rfl⟩
          · refine iteTb vs_eq ?_
            obtain ⟨rest, hbd, hbd'⟩ := hh
            have hbl := M1.pl.bid hd
            rw [hbd, List.map_cons] at hbl
            refine ⟨_, rfl, A .play, _, rfl, dget M1.pl.play pkv_bids, _, rfl, A .bids, _, _, _, rfl, rfl, SqL.of M1.pl.bids, range_at hd, .inl ⟨rfl, _, SqL.of hbl⟩, A (.bid d), _, 0, 0, _, rfl, rfl, hbl, (by decide), (by decide), six0 _ _, rfl, ?_⟩
            rw [List.eraseIdx_cons_zero]
            obtain ⟨M2, mo2⟩ := M1.wr (M1.pl.wrBid hd rest) rfl
            refine hN' _ _ ⟨rfl, ?_, mo1.trans mo2⟩
            rw [hbd']; exact M2
          · refine iteFb (vs_ne (by decide +kernel)) ?_
            obtain ⟨rfl, hbd'⟩ := hh
            refine hN' _ _ ⟨rfl, ?_, mo1⟩
            rw [hbd']; exact M1
        rintro σ' H2 ⟨rfl, M2, mo2⟩
        have hS : S.hear d low l = { S with la := laN S.la l.pg l.num, kn := set2 S.kn d l.pg (if low = .no ∨ S.kn d l.pg = .wr then low else S.kn d l.pg) } := by
          cases l with
          | ask p r => exact absurd ⟨p, r, rfl⟩ hask
          | ans p o => rfl
          | gave p x => rfl
        rw [hS] at hN
        have set : low = .no ∨ S.kn d l.pg = .wr → N [some (.ref (A .play)), some (.ref (B .hall)), some (.int d), some (.ref b), some (.int l.pg), some (.str low.s), none, none] (upd H2 (A (.kno d)) (.lst (((List.range m).map fun q => V.str (S.kn d q).s).set l.pg (.str low.s)))) := fun h => by
          obtain ⟨M3, mo3⟩ := M2.wr (M2.pl.wrKno hd hp low) rfl
          refine hN _ _ ⟨⟨_, rfl⟩, ?_, mo2.trans mo3⟩
          rw [if_pos h]
          exact M3
        refine ⟨_, rfl, rfl, _, rfl, ?_⟩
        by_cases hlow : low = .no
        · refine iteTb (by rw [hlow]; exact vs_eq) (iteT ?_)
          exact ⟨_, rfl, _, rfl, A .play, _, rfl, dget M2.pl.play pkv_known, _, rfl, A .known, _, _, _, rfl, rfl, SqL.of M2.pl.known, range_at hd, _, rfl, A (.kno d), _, _, l.pg, rfl, rfl, M2.pl.kno hd, ixN_nat (by simpa using hp), set (.inl hlow)⟩
        · refine iteFb (rt_ne (x := "none") (q := .no) rfl hlow) ?_
          refine ⟨_, rfl, A .play, _, rfl, dget M2.pl.play pkv_known, _, rfl, A .known, _, _, _, rfl, rfl, SqL.of M2.pl.known, range_at hd, _, rfl, A (.kno d), _, _, _, rfl, rfl, SqL.of (M2.pl.kno hd), range_at hp, rfl, _, rfl, ?_⟩
          by_cases hkw : S.kn d l.pg = .wr
          · refine iteTb (by dsimp only; rw [hkw]; exact vs_eq) ?_
            exact ⟨_, rfl, _, rfl, A .play, _, rfl, dget M2.pl.play pkv_known, _, rfl, A .known, _, _, _, rfl, rfl, SqL.of M2.pl.known, range_at hd, _, rfl, A (.kno d), _, _, l.pg, rfl, rfl, M2.pl.kno hd, ixN_nat (by simpa using hp), set (.inr hkw)⟩
          · refine iteFb (rt_ne (x := "write") (q := .wr) rfl hkw) ?_
            refine hN _ _ ⟨⟨_, rfl⟩, ?_, mo2⟩
            rw [if_neg (fun z => z.elim hlow hkw), set2_id]
            exact M2
    · rintro σ' H1 ⟨⟨o5, rfl⟩, M1, mo1⟩
      have hb1 := (M.tups mo1) _ _ hb
      -- the hall takes it
      refine ⟨_, rfl, _, rfl, _, rfl, (by show 2 ≤ sizeLine; decide), fun c hc => ⟨(by show 1 ≤ sizeLine; decide), fun z hz => ?_⟩⟩
      have sc := same_new (o := .tup [.int d, .ref b]) hc
      have sz := same_new (o := .lst [.ref c]) hz
      have s2 := sc.trans sz
      have M2 := M1.same s2
      have hzn : H1 z = none := Lv.upd _ hz
      have hzf : ¬ FB A B n m z := M1.nnone hzn
      have c1 := sz _ _ (show upd H1 c (.tup [.int d, .ref b]) c = some (.tup [.int d, .ref b]) from upd_same)
      have rc := come_rep (x := (d, l)) c1 (s2 _ _ hb1)
      have hz2 : upd (upd H1 c (.tup [.int d, .ref b])) z (.lst [.ref c]) z = some (.lst [.ref c]) := upd_same
      generalize upd (upd H1 c (.tup [.int d, .ref b])) z (.lst [.ref c]) = H2 at M2 rc hz2 s2
      refine ⟨B, m, _, z, [.ref c], [(d, l)], rfl, M2.hl, hz2, fun x hx q => hzf (.inr ⟨x, hx, q⟩), ?_, by simp, by rw [hear_pg]; exact hok, fun lf B' H3 zs hlf HB' f' mv' eh' hl3 ll => ?_⟩
      · simp only [List.map_cons, List.map_nil, RepL]; exact ⟨_, _, rfl, rc, rfl⟩
      have erun : hallRun (S.hear d low l).pg [(d, l)] = (setf S.pg l.pg ((S.pg l.pg).take l.pg d l).1, [((S.pg l.pg).take l.pg d l).2]) := by rw [hear_pg]; rfl
      rw [erun] at HB' ll
      obtain ⟨M3, mo3⟩ := M2.hall HB' f' mv' eh'
      have ll1 : zs.length = 1 := ll.1
      obtain ⟨v, rfl⟩ := List.length_eq_one_iff.mp ll1
      obtain ⟨fl, us, rfl, hfl, _, nfl, rfl', hfln⟩ := ll.2 0 v _ rfl rfl
      refine ⟨_, rfl, _, _, _, true, rfl, .lst hl3, .inl ⟨_, rfl, kit_ll⟩, _, rfl, iteFb rfl ?_⟩
      refine ⟨_, rfl, lf, _, rfl, .inl (SqL.of hl3), rfl, _, rfl, iteFb (ni_eq rfl) ?_⟩
      refine ⟨_, rfl, lf, _, 0, _, rfl, rfl, SqL.of hl3, at0c _ _, _, _, _, true, rfl, .lst hfl, .inl ⟨_, rfl, kit_ll⟩, _, rfl, iteFb rfl ?_⟩
      refine ⟨_, rfl, lf, _, 0, _, rfl, rfl, SqL.of hl3, at0c _ _, ?_⟩
      -- each of its letters is of the form
      have hff : ¬ FB A B' n m fl := fun q => by
        rcases q with q | ⟨x, hx, q⟩
        · exact M2.pl.nnone hfln q
        · exact nfl x hx q
      have hlen : us.length = ((S.pg l.pg).take l.pg d l).2.length := by rw [rfl'.length, List.length_map]
      generalize hxs : ((S.pg l.pg).take l.pg d l).2 = xs at *
      refine ⟨_, rfl, fl, rfl, ⟨_, SqL.of hfl⟩, ?_⟩
      let PV1 : Nat → St → Hp → Prop := fun i σ' H' => (∃ o7, σ' = [some (.ref (A .play)), some (.ref (B .hall)), some (.int d), some (.ref b), some (.int l.pg), o5, some (.ref fl), o7]) ∧ Same H3 H'
      refine for_list (xs := us) PV1 ?_ ?_ ?_ ?_
      · exact ⟨⟨_, rfl⟩, Same.refl _⟩
      · rintro i σ' H' _ ⟨_, s'⟩
        exact SqL.of (s' _ _ hfl)
      · rintro i y σ' H' hy ⟨⟨o7, rfl⟩, s'⟩
        have M' := M3.same s'
        have hi' : i < us.length := (List.getElem?_eq_some_iff.mp hy).1
        have hix : i < xs.length := by lia
        obtain ⟨dd, hdd, ry⟩ := RepL.get (rfl'.tmono (same_tup s') (pairD_flat _)) hy
        rw [List.getElem?_map, List.getElem?_eq_getElem hix] at hdd
        have hdd' := Option.some.inj hdd
        subst hdd'
        have hfi := fits_drop xs _ i hf
        rw [List.drop_eq_getElem_cons hix, fits_cons] at hfi
        obtain ⟨c', b', rfl, hc', hb'⟩ := pair_tup ry
        refine ⟨_, rfl, _, rfl, A .play, _, rfl, dget M'.pl.play pkv_count, _, rfl, A .play, _, rfl, dget M'.pl.play pkv_pages, c', b', n, m, xs[i].1, xs[i].2, rfl, hc', hb', hfi.1.1, hfi.1.2, fun H4 s4 => ?_⟩
        refine ⟨_, rfl, iteFb rfl ?_⟩
        exact ⟨⟨_, rfl⟩, s'.trans s4⟩
      · rintro σ' H4 ⟨⟨o7, rfl⟩, s4⟩
        have M4 := M3.same s4
        refine ⟨_, rfl, _, rfl, A, B', n, m, _, bd', fl, us, xs, rfl, M4, hn, hm, s4 _ _ hfl, hff, rfl'.tmono (same_tup s4) (pairD_flat _), (fits_with _ _ _).mpr hf, fun e => ?_, fun H5 M5 mo5 => ?_⟩
        · show ((S.hear d low l).ro e).length + _ ≤ _
          rw [hear_ro]; exact hro e
        · refine k B' H5 ?_ ((((mo1.trans (Mo.of_same s2)).trans mo3).trans (Mo.of_same s4)).trans mo5)
          have e : (S.hear d low l).hall l.pg d l = ({ S.hear d low l with pg := setf S.pg l.pg ((S.pg l.pg).take l.pg d l).1 } : PS).puts xs := by
            unfold PS.hall
            rw [hear_pg, hxs]
          rw [e]
          exact M5
end
end K07
namespace K07
open PySem L2
def nobid : Nat → List Rt := fun _ => []
/-- the first letter on a road is taken -/
def PS.takeR (S : PS) (d : Nat) (x : Int) : PS := match S.ro d with
  | [] => S
  | .lend p r _ :: rest => S.tLend d p.toNat r rest
  | .back p l :: rest => (S.tBack d p.toNat l x rest).hall p.toNat d (.ans p.toNat (S.told d p.toNat x))
theorem takeR_inv {n m d : Nat} {S : PS} (x : Int) (h : PInv n m S) (hne : S.ro d ≠ []) : PInv n m (S.takeR d x) ∧ PS.mu n m (S.takeR d x) + 1 ≤ PS.mu n m S := by
  cases e : S.ro d with
  | nil => exact absurd e hne
  | cons l rest =>
    obtain ⟨hd, hf⟩ := h.road e
    cases l with
    | lend q r k =>
      obtain ⟨p, rfl, hp, hr⟩ := hf
      unfold PS.takeR
      rw [e]
      dsimp only
      rw [Int.toNat_natCast]
      exact ⟨step_lend h e, Nat.le_of_eq (mu_lend h e)⟩
    | back q l =>
      obtain ⟨p, rfl, hp, hr⟩ := hf
      unfold PS.takeR
      rw [e]
      dsimp only
      rw [Int.toNat_natCast]
      exact ⟨(step_back x h e).2.1, mu_back x h e⟩
theorem takeR_lend {S : PS} {d p : Nat} {x : Int} {r : Rt} {k : Int} {rest : List Let} (e : S.ro d = .lend (p : Int) r k :: rest) : S.takeR d x = S.tLend d p r rest := by unfold PS.takeR; rw [e]; dsimp only; rw [Int.toNat_natCast]
theorem takeR_back {S : PS} {d p : Nat} {x : Int} {l : Rt} {rest : List Let} (e : S.ro d = .back (p : Int) l :: rest) : S.takeR d x = (S.tBack d p l x rest).hall p d (.ans p (S.told d p x)) := by unfold PS.takeR; rw [e]; dsimp only; rw [Int.toNat_natCast]
theorem PInv.rw_ {n m : Nat} {S : PS} (h : PInv n m S) (p : Nat) : Rw (S.pg p).ask := fun x hx => (h.b.a4 x.1 p x.2 (h.b.a1 p x.1 x.2 hx)).2.2
theorem PInv.mu_pg {n m : Nat} {S : PS} (h : PInv n m S) (p : Nat) : (S.pg p).mu ≤ 3 * n := by
  have := h.ask_len p
  have := h.rd_len p
  unfold PG.mu; lia
theorem wq_le {n m : Nat} {S : PS} (h : PInv n m S) (hn : n ≤ 100) (p : Nat) : wq n (S.pg p) ≤ 10000 := by
  have h1 := Nat.mul_le_mul hn (Nat.le_trans (h.ask_len p) hn)
  unfold wq; lia
theorem hear_back {S : PS} {d p : Nat} {l : Rt} {x : Int} {rest : List Let} : PS.hear { S with ro := setf S.ro d rest, rt := set2 S.rt d p (if S.rt d p = .wr ∨ l = .no then l else S.rt d p) } d l (.ans p (S.told d p x)) = S.tBack d p l x rest := by
  unfold PS.hear PS.tBack PS.told
  dsimp only
  by_cases h : S.rt d p = .wr
  · simp only [if_pos h, laN]
  · simp only [if_neg h, laN]
def spTaken (CH CP : Addr) : Sp := fun vs H Q _ => ∃ A B, ∃ n m : Nat, ∃ S, ∃ d : Nat, ∃ x : Int, vs = [.ref (A Yb.play), .ref (B Hb.hall), .int d, .int x] ∧ Both CH CP H A B n m S nobid ∧ n ≤ 100 ∧ m ≤ 100 ∧ d < n ∧ PInv n m S ∧ S.ro d ≠ [] ∧
  ∀ B' H', Both CH CP H' A B' n m (S.takeR d x) nobid → Mo H H' A B B' n m → Q (.bl true) H'
section
variable {P : Program} {w : World} {K : PySem.W.Frag} {mg : Str → Option Value} {base : Heap} {t : Adr}
theorem ok_l_taken (T : Txt K w mg t) : FnOk P w K mg base CX0 8 t.f_l_taken t.fd_l_taken ["_law_play", "_law_hall", "_law_desk", "_law_number"] (spTaken t.C_Hall t.C_PageLoans) := by
  refine T.F_l_taken.ok sc_l_taken (fun vs H Q E h => ?_) (fun cdv A outer s H vs Q E hr h => ?_)
  · obtain ⟨A, B, n, m, S, d, x, rfl, _⟩ := h; rfl
  · obtain ⟨A, B, n, m, S, d, x, rfl, M, hn, hm, hd, I, hne, k⟩ := h
    have hu := hu_of hr
    have sl : sizeLine = 16777216 := by decide
    refine' ⟨_, ?sr, ?_⟩
    case' sr => refine' pss_cons ?b9s0x ?b9sr0x
    case' b9sr0x => refine' pss_cons ?b9s1x ?b9sr1x
    case' b9sr1x => refine' pss_cons ?b9s2x ?b9sr2x
    case' b9sr2x => refine' pss_cons ?b9s3x ?b9sr3x
    case' b9sr3x => refine' pss_cons ?b9s4x ?b9sr4x
    case' b9sr4x => refine' pss_cons ?b9s5x ?b9sr5x
    case' b9sr5x => refine' pss_cons ?b9s6x ?b9sr6x
    case' b9sr6x => refine' pss_one ?b9s7x
    case' b9s0x => exact (ps_set (i := 4) sc_l_taken.nd rfl (Or.inl rfl) (pe_bm PySem.F.plainAttrs_list PySem.F.slot_list_pop PySem.F.type_list_pop mt_popAt (pe_ix ix_list (pe_dget hu (pv 0) pe_str (fun _ _ => rfl)) (pv 2) (fun _ _ => rfl)) (pa_cons pe_int pa_nil)))
    case' b9s1x => exact (ps_set (i := 5) sc_l_taken.nd rfl (Or.inl rfl) (pe_ix ix_tup (pv 4) pe_int (fun _ _ => rfl)))
    case' b9s2x => refine' ps_if (pt_cmpR op_eq (pe_ix ix_tup (pv 4) pe_int (fun _ _ => rfl)) pe_str (nomark _)) ?b9s2t ?b9s2f
    case' b9s2t => refine' pss_cons ?b10s0x ?b10sr0x
    case' b10sr0x => refine' pss_cons ?b10s1x ?b10sr1x
    case' b10sr1x => refine' pss_one ?b10s2x
    case' b10s0x => exact (ps_asg (pe_ix ix_tup (pv 4) pe_int (fun _ _ => rfl)) (pg_sub (pe_ix ix_list (pe_dget hu (pv 0) pe_str (fun _ _ => rfl)) (pv 2) (fun _ _ => rfl)) (pv 5) set_list))
    case' b10s1x => exact (ps_asg pe_bl (pg_sub (pe_dget hu (pv 0) pe_str (fun _ _ => rfl)) (pv 2) set_list))
    case' b10s2x => exact (ps_ret pe_bl)
    case' b9s2f => exact pss_nil
    case' b9s3x => exact (ps_set (i := 6) sc_l_taken.nd rfl (Or.inl rfl) (pe_ix ix_list (pe_ix ix_list (pe_dget hu (pv 0) pe_str (fun _ _ => rfl)) (pv 2) (fun _ _ => rfl)) (pv 5) (fun _ _ => rfl)))
    case' b9s4x => exact (ps_if (PW.pt (pw_or (pt_cmpR op_eq (pv 6) pe_str (nomark _)) (pw_or1 (pt_cmpR op_eq (pe_ix ix_tup (pv 4) pe_int (fun _ _ => rfl)) pe_str (nomark _))))) (pss_one (ps_asg (pe_ix ix_tup (pv 4) pe_int (fun _ _ => rfl)) (pg_sub (pe_ix ix_list (pe_dget hu (pv 0) pe_str (fun _ _ => rfl)) (pv 2) (fun _ _ => rfl)) (pv 5) set_list))) pss_nil)
    case' b9s5x => exact (ps_expr (pe_bm PySem.F.plainAttrs_list PySem.F.slot_list_append PySem.F.type_list_append mt_append (pe_ix ix_list (pe_dget hu (pv 0) pe_str (fun _ _ => rfl)) (pv 2) (fun _ _ => rfl)) (pa_cons (pe_ix ix_tup (pv 4) pe_int (fun _ _ => rfl)) pa_nil)))
    case' b9s6x => exact (ps_if (pt_cmpR op_ne (pv 6) pe_str (nomark _)) (pss_one (ps_set (i := 3) sc_l_taken.nd rfl (Or.inl rfl) pe_non)) pss_nil)
    case' b9s7x => exact (ps_ret (pe_call (ok_l_told T) (hr.mono (by decide) : Room 7 _) (by rfl) T.m_l_told T.F_l_told.kp T.b_l_told .nil pass0 (pa_cons (pv 0) (pa_cons (pv 1) (pa_cons (pv 2) (pa_cons (pe_tup (pa_cons pe_str (pa_cons (pv 5) (pa_cons (pv 3) pa_nil)))) pa_nil))))))
    try dsimp only [cxOf, Cx.nox]
    show let Z1 : L2.TS := _; let Z2 : L2.TS := _; let Z3 : L2.TS := _; let Z4 : L2.TS := _; let Z5 : L2.TS := _; let Z6 : L2.TS := tSeq Z3 (tSeq Z4 (Z5)); let Z7 : L2.TS := tIfS _ Z6 tNext; let Z8 : L2.TS := _; let Z9 : L2.TS := _; let Z10 : L2.TS := tIfS _ Z9 tNext; let Z11 : L2.TS := _; let Z12 : L2.TS := _; let Z13 : L2.TS := tIfS _ Z12 tNext; let Z14 : L2.TS := _; let D0 : Ends := _; (tSeq Z1 (tSeq Z2 (tSeq Z7 (tSeq Z8 (tSeq Z10 (tSeq Z11 (tSeq Z13 (Z14)))))))) D0 _ _
    intro Z1 Z2 Z3 Z4 Z5 Z6 Z7 Z8 Z9 Z10 Z11 Z12 Z13 Z14 D0
    cases er : S.ro d with
    | nil => exact absurd er hne
    | cons lt rest =>
    obtain ⟨_, hf⟩ := I.road er
    obtain ⟨rv, r1, r2⟩ := M.pl.road hd
    rw [er, List.map_cons] at r2
    obtain ⟨v, rv', rfl, rv1, rv2⟩ := RepL.cons_inv r2
    obtain ⟨b, rfl, hb⟩ := let_tup rv1
    refine ⟨_, rfl, A .play, _, rfl, dget M.pl.play pkv_roads, _, rfl, A .roads, _, _, _, rfl, rfl, SqL.of M.pl.roads, range_at hd, .inl ⟨rfl, _, SqL.of r1⟩, A (.road d), _, 0, 0, _, rfl, rfl, r1, (by decide), (by decide), six0 _ _, rfl, ?_⟩
    rw [List.eraseIdx_cons_zero]
    obtain ⟨M1, mo1⟩ := M.wr (M.pl.wrRoad hd (l := rest) rv2) rfl
    have hb1 := (M.tups mo1) _ _ hb
    generalize upd H (A (.road d)) (.lst rv') = H1 at M1 mo1 hb1
    cases lt with
    | lend q r y =>
      obtain ⟨p, rfl, hp, hr'⟩ := hf
      rw [takeR_lend er] at k
      refine ⟨_, rfl, b, _, 1, _, rfl, rfl, SqT.of hb1, rfl, ?_⟩
      refine ⟨_, rfl, b, _, 0, _, rfl, rfl, SqT.of hb1, rfl, rfl, _, rfl, iteTb vs_eq ?_⟩
      refine ⟨_, rfl, b, _, 2, _, rfl, rfl, SqT.of hb1, rfl, _, rfl, A .play, _, rfl, dget M1.pl.play pkv_rights, _, rfl, A .rights, _, _, _, rfl, rfl, SqL.of M1.pl.rights, range_at hd, _, rfl, A (.rig d), _, _, p, rfl, rfl, M1.pl.rig hd, ixN_nat (by simpa using hp), ?_⟩
      obtain ⟨M2, mo2⟩ := M1.wr (M1.pl.wrRig hd hp r) rfl
      refine ⟨_, rfl, A .play, _, rfl, dget M2.pl.play pkv_waits, _, rfl, A .waits, _, _, d, rfl, rfl, M2.pl.waits, ixN_nat (by simpa using hd), ?_⟩
      obtain ⟨M3, mo3⟩ := M2.wr (M2.pl.wrWait hd false) rfl
      exact k B _ M3 ((mo1.trans mo2).trans mo3)
    | back q l =>
      obtain ⟨p, rfl, hp, hr'⟩ := hf
      rw [takeR_back er] at k
      obtain ⟨b1, b2, b3, b4⟩ := step_back x I er
      refine ⟨_, rfl, b, _, 1, _, rfl, rfl, SqT.of hb1, rfl, ?_⟩
      refine ⟨_, rfl, b, _, 0, _, rfl, rfl, SqT.of hb1, rfl, rfl, _, rfl, iteFb (vs_ne (by decide +kernel)) ?_⟩
      refine ⟨_, rfl, A .play, _, rfl, dget M1.pl.play pkv_rights, _, rfl, A .rights, _, _, _, rfl, rfl, SqL.of M1.pl.rights, range_at hd, _, rfl, A (.rig d), _, _, _, rfl, rfl, SqL.of (M1.pl.rig hd), range_at hp, ?_⟩
      try dsimp only [tNext]
      refine seq_via (fun σ' H2 => σ' = [some (.ref (A .play)), some (.ref (B .hall)), some (.int d), some (.int x), some (.ref b), some (.int p), some (.str (S.rt d p).s)] ∧ Both t.C_Hall t.C_PageLoans H2 A B n m { S with ro := setf S.ro d rest, rt := set2 S.rt d p (if S.rt d p = .wr ∨ l = .no then l else S.rt d p) } nobid ∧ Mo H H2 A B B n m) (fun N hN => ?_) ?_
      · have set : S.rt d p = .wr ∨ l = .no → N [some (.ref (A .play)), some (.ref (B .hall)), some (.int d), some (.int x), some (.ref b), some (.int p), some (.str (S.rt d p).s)] (upd H1 (A (.rig d)) (.lst (((List.range m).map fun q => V.str (S.rt d q).s).set p (.str l.s)))) := fun h => by
          obtain ⟨M2, mo2⟩ := M1.wr (M1.pl.wrRig hd hp l) rfl
          refine hN _ _ ⟨rfl, ?_, mo1.trans mo2⟩
          rw [if_pos h]
          exact M2
        refine ⟨_, rfl, rfl, _, rfl, ?_⟩
        by_cases hw : S.rt d p = .wr
        · refine iteTb (by first | (rw [hw]; exact vs_eq) | (dsimp only; rw [hw]; exact vs_eq)) (iteT ?_)
          exact ⟨_, rfl, b, _, 2, _, rfl, rfl, SqT.of hb1, rfl, _, rfl, A .play, _, rfl, dget M1.pl.play pkv_rights, _, rfl, A .rights, _, _, _, rfl, rfl, SqL.of M1.pl.rights, range_at hd, _, rfl, A (.rig d), _, _, p, rfl, rfl, M1.pl.rig hd, ixN_nat (by simpa using hp), set (.inl hw)⟩
        · refine iteFb (rt_ne (x := "write") (q := .wr) rfl hw) ?_
          refine ⟨_, rfl, b, _, 2, _, rfl, rfl, SqT.of hb1, rfl, rfl, _, rfl, ?_⟩
          by_cases hl : l = .no
          · refine iteTb (by rw [hl]; exact vs_eq) ?_
            exact ⟨_, rfl, b, _, 2, _, rfl, rfl, SqT.of hb1, rfl, _, rfl, A .play, _, rfl, dget M1.pl.play pkv_rights, _, rfl, A .rights, _, _, _, rfl, rfl, SqL.of M1.pl.rights, range_at hd, _, rfl, A (.rig d), _, _, p, rfl, rfl, M1.pl.rig hd, ixN_nat (by simpa using hp), set (.inr hl)⟩
          · refine iteFb (rt_ne (x := "none") (q := .no) rfl hl) ?_
            refine hN _ _ ⟨rfl, ?_, mo1⟩
            rw [if_neg (fun z => z.elim hw hl), set2_id]
            exact M1
      rintro σ' H2 ⟨rfl, M2, mo2⟩
      have hb2 := (M.tups mo2) _ _ hb
      -- bids[desk].append(letter[2])
      have hbl := M2.pl.bid hd
      refine ⟨_, rfl, A .play, _, rfl, dget M2.pl.play pkv_bids, _, rfl, A .bids, _, _, _, rfl, rfl, SqL.of M2.pl.bids, range_at hd, .inl ⟨rfl, _, SqL.of hbl⟩, _, rfl, b, _, 2, _, rfl, rfl, SqT.of hb2, rfl, A (.bid d), _, _, rfl, rfl, hbl, (by show 0 < sizeLine; decide), ?_⟩
      obtain ⟨M3, mo3⟩ := M2.wr (M2.pl.wrBid hd [l]) rfl
      have hb3 := (M2.tups mo3) _ _ hb2
      have e3 : (nobid d).map (fun r => V.str r.s) ++ [V.str l.s] = [l].map fun r => V.str r.s := rfl
      rw [e3]
      generalize upd H2 (A (.bid d)) (.lst ([l].map fun r => V.str r.s)) = H3 at M3 mo3 hb3
      try dsimp only [tNext]
      refine seq_via (fun σ' H4 => σ' = [some (.ref (A .play)), some (.ref (B .hall)), some (.int d), some (oV (S.told d p x)), some (.ref b), some (.int p), some (.str (S.rt d p).s)] ∧ H4 = H3) (fun N hN => ?_) ?_
      · refine ⟨_, rfl, rfl, _, rfl, ?_⟩
        by_cases hw : S.rt d p = .wr
        · refine iteFb (by rw [hw]; exact ns_eq) ?_
          refine hN _ _ ⟨?_, rfl⟩
          unfold PS.told; rw [if_pos hw]; rfl
        · refine iteTb (by rw [rt_ne (x := "write") (q := .wr) rfl hw]; rfl) ?_
          refine hN _ _ ⟨?_, rfl⟩
          unfold PS.told; rw [if_neg hw]; rfl
      rintro σ' H4 ⟨rfl, rfl⟩
      refine ⟨_, rfl, _, rfl, _, rfl, _, rfl, _, rfl, (by show 3 ≤ sizeLine; decide), fun z hz => ?_⟩
      have s4 := same_new (o := .tup (UL.ans p (S.told d p x)).vs) hz
      have M4 := M3.same s4
      have hw4 := wq_le I (by lia) p
      have hbusy : ∃ a r q b, BusyA S p a r q b := by
        rcases I.p p with ⟨ha, J⟩ | h
        · exact absurd (by rw [er]; simp) (back_cnt (J.nb d) l)
        · exact h
      obtain ⟨a0, r0, q0, bb, hbb⟩ := hbusy
      have hms : 0 < (S.pg p).miss := by have := List.length_pos_iff.mpr hbb.ne; have := hbb.ln; lia
      have hlen := ans_wq (p := p) (d := d) (I.b.gok p) hbb.ak hms (S.told d p x)
      have hmu := I.mu_pg p
      refine ⟨A, B, n, m, _, setf nobid d [l], nobid, z, d, .ans p (S.told d p x), l, rfl, M4, by lia, by lia, upd_same, hd, ⟨[], setf_same _ _ _, by rw [setf_setf]; exact (setf_eq nobid d).symm⟩, ⟨hp, b3, I.rw_ p, by show (S.pg p).mu ≤ _; lia, trivial⟩, by rw [hear_back]; exact b1, fun e => ?_, fun B' H5 M5 mo5 => ?_⟩
      · have h1 := I.ro_len e
        have h2 : (setf S.ro d rest e).length ≤ m + 1 := by
          by_cases z' : e = d
          · subst z'; rw [setf_same]; rw [er, List.length_cons] at h1; lia
          · rw [setf_ne _ _ z']; exact h1
        show (setf S.ro d rest e).length + ((S.pg p).take p d (.ans p (S.told d p x))).2.length ≤ _
        lia
      · rw [hear_back] at M5
        exact k B' H5 M5 (((mo2.trans mo3).trans (Mo.of_same s4)).trans mo5)
end
end K07
namespace K07
open PySem L2
theorem cut_ints (ns : List Int) (lo hi : Option Int) : ∃ cs : List Int, cutV (ns.map V.int) lo hi = cs.map V.int ∧ cs.length ≤ ns.length := by
  refine ⟨((ns.drop (HT.sIx (ns.map V.int).length 0 lo)).take (HT.sIx (ns.map V.int).length (ns.map V.int).length hi - HT.sIx (ns.map V.int).length 0 lo)), ?_, ?_⟩
  · unfold cutV; rw [← List.map_drop, ← List.map_take]
  · rw [List.length_take, List.length_drop]; lia
theorem hall_new {CH : Addr} {H H2 : Hp} {p dx : Addr} {A : Hb → Addr} {m : Nat} (hp : H p = none) (hdx : H dx = none) (hne : dx ≠ p) (e : A .hall = p) (hn : ∀ x : Hb, x.ok m → x ≠ .hall → (upd (upd H dx (.own p)) p (.ins CH dx [])) (A x) = none)
    (f : ∀ b o, (upd (upd H dx (.own p)) p (.ins CH dx [])) b = some o → b ≠ p → H2 b = some o) : Same H H2 ∧ ∀ b, FH A m b → H b = none := by
  have k : Same H (upd (upd H dx (.own p)) p (.ins CH dx [])) := (same_new hdx).trans (same_new (by rw [upd_ne hne.symm]; exact hp))
  refine ⟨fun b o e => f b o (k b o e) (ne_of_none e hp), fun b ⟨x, hx, q⟩ => ?_⟩
  by_cases z : x = .hall
  · rw [q, z, e]; exact hp
  · rw [q]; exact Same.free k (hn x hx z)
theorem rep_range (n : Nat) (v : V) : List.replicate n v = (List.range n).map fun _ => v := by
  rw [List.map_const', List.length_range]
/-- a comprehension that makes n new lists -/
theorem comp_new {n : Nat} {acc : Addr} {te : TE} {σ : St} {H1 : Hp} {Q : VK} {c : List V} (Pσ : St → Prop) (h0 : Pσ σ) (hacc : H1 acc = none) (hn : n ≤ 1000)
    (hg : ∀ i σ', Pσ σ' → Pσ (σ'.set 0 (some (.int i))))
    (hel : ∀ σ' H' (R : VK), Pσ σ' → Same H1 H' → (∀ l H'', H' l = none → Same H' H'' → H'' l = some (.lst c) → R (.ref l) H'') → te σ' H' R)
    (hd : ∀ (f : Nat → Addr) H', Same H1 H' → H' acc = some (.lst ((List.range n).map fun d => V.ref (f d))) → (∀ d, d < n → H1 (f d) = none ∧ f d ≠ acc ∧ H' (f d) = some (.lst c)) → (∀ d e, d < n → e < n → f d = f e → d = e) → Q (.ref acc) H') :
    CompGo (Itr 0 n) (gName 0) tYes te σ acc H1 Q := by
  have sl : sizeLine = 16777216 := by decide
  let PV1 : Nat → List V → St → Hp → Prop := fun i zs σ' H' => Pσ σ' ∧ Same H1 H' ∧ H' acc = some (.lst zs) ∧ ∃ f : Nat → Addr, zs = (List.range i).map (fun d => V.ref (f d)) ∧ (∀ d, d < i → H1 (f d) = none ∧ f d ≠ acc ∧ H' (f d) = some (.lst c)) ∧ ∀ d e, d < i → e < i → f d = f e → d = e
  refine comp_range PV1 ?_ ?_ ?_ ?_
  · exact ⟨h0, same_new hacc, upd_same, fun _ => 0, rfl, fun d hd => absurd hd (Nat.not_lt_zero _), fun d e hd => absurd hd (Nat.not_lt_zero _)⟩
  · rintro i zs σ' H' _ ⟨_, _, h, _⟩
    exact h
  · rintro i zs σ' H' hi ⟨hp, s', ha', f, rfl, hf, inj⟩
    refine gYes_if (hel _ H' _ (hg _ _ hp) s' fun l H'' hl s'' hl'' => ?_)
    have ha'' := s'' _ _ ha'
    have nal : acc ≠ l := ne_of_none ha' hl
    have hz : ((List.range i).map fun d => V.ref (f d)).length < sizeLine := by rw [List.length_map, List.length_range]; lia
    refine CStep.mk hi ha'' hz ⟨hg _ _ hp, same_upd (s'.trans s'') hacc, upd_same, setf f i l, ?_, fun d hd => ?_, fun d e hd he h => ?_⟩
    · rw [List.range_succ, List.map_append]
      congr 1
      · refine List.map_congr_left fun d hd => ?_
        rw [setf_ne _ _ (Nat.ne_of_lt (List.mem_range.mp hd))]
      · show [V.ref l] = [V.ref _]; rw [setf_same]
    · by_cases e : d = i
      · subst e
        rw [setf_same]
        exact ⟨Same.free s' hl, nal.symm, by rw [upd_ne nal.symm]; exact hl''⟩
      · rw [setf_ne _ _ e]
        obtain ⟨h1, h2, h3⟩ := hf d (by lia)
        exact ⟨h1, h2, by rw [upd_ne h2]; exact s'' _ _ h3⟩
    · have nl : ∀ d, d < i → f d ≠ l := fun d hd => ne_of_none (hf d hd).2.2 hl
      by_cases h1 : d = i
      · by_cases h2 : e = i
        · rw [h1, h2]
        · rw [h1, setf_same, setf_ne _ _ h2] at h; exact absurd h.symm (nl e (by lia))
      · by_cases h2 : e = i
        · rw [h2, setf_same, setf_ne _ _ h1] at h; exact absurd h (nl d (by lia))
        · rw [setf_ne _ _ h1, setf_ne _ _ h2] at h; exact inj d e (by lia) (by lia) h
  · rintro zs σ' H' ⟨_, s', ha', f, rfl, hf, inj⟩
    exact hd f H' s' ha' hf inj
theorem one_rep (n : Nat) (v : V) : (List.replicate n [v]).flatten = List.replicate n v := by
  induction n with
  | zero => rfl
  | succ n ih => rw [List.replicate_succ, List.flatten_cons, ih, List.replicate_succ]; rfl

theorem Same.kp {F : Addr → Prop} {H0 H H' : Hp} (s : Same H0 H) (k : Kp F H H') (n : ∀ b, F b → H0 b = none) : Same H0 H' := fun b o e => k b o (s b o e) fun z => by rw [n b z] at e; cases e
theorem SqL.same {K : PySem.W.Frag} {H H' : Hp} {a : Addr} {xs : List V} (h : SqL K H a xs) (s : Same H H') : SqL K H' a xs := by
  rcases h with (h | ⟨o, h⟩) | h
  · exact .inl (.inl (s _ _ h))
  · exact .inl (.inr ⟨o, s _ _ h⟩)
  · exact .inr h
/-- what stands where, at the beginning -/
def oc8 (n m : Nat) (ns : List Int) (A : Yb → Addr) : Yb → HO
  | .last => .lst (ns.map V.int)
  | .asked => .lst (List.replicate n .non)
  | .waits => .lst (List.replicate n (.bl false))
  | .roads => .lst ((List.range n).map fun d => V.ref (A (.road d)))
  | .bids => .lst ((List.range n).map fun d => V.ref (A (.bid d)))
  | .known => .lst ((List.range n).map fun d => V.ref (A (.kno d)))
  | .rights => .lst ((List.range n).map fun d => V.ref (A (.rig d)))
  | .kno _ => .lst (List.replicate m (.str "none"))
  | .rig _ => .lst (List.replicate m (.str "none"))
  | _ => .lst []
structure Stg8 (n m : Nat) (ns : List Int) (H Hs : Hp) (A : Yb → Addr) (ok : Yb → Prop) (kv : List (Key × V)) : Prop where
  sm : Same H Hs
  inj : ∀ x y, ok x → ok y → A x = A y → x = y
  fr : ∀ x, ok x → H (A x) = none
  ct : ∀ x, ok x → x ≠ .play → Hs (A x) = some (oc8 n m ns A x)
  ot : ok .play
  tw : Hs (A .play) = some (.dK kv)
section
variable {n m : Nat} {ns : List Int} {H Hs H2 : Hp} {A A' : Yb → Addr} {ok new : Yb → Prop} {kv kv' : List (Key × V)}
theorem Stg8.live (S : Stg8 n m ns H Hs A ok kv) (x : Yb) (hx : ok x) : ∃ o, Hs (A x) = some o := by
  by_cases h1 : x = .play
  · rw [h1]; exact ⟨_, S.tw⟩
  · exact ⟨_, S.ct x hx h1⟩
theorem Stg8.same (S : Stg8 n m ns H Hs A ok kv) (s : Same Hs H2) : Stg8 n m ns H H2 A ok kv :=
  ⟨S.sm.trans s, S.inj, S.fr, fun x hx h1 => s _ _ (S.ct x hx h1), S.ot, s _ _ S.tw⟩
/-- new things, and the play's dict with one key more -/
theorem Stg8.more (S : Stg8 n m ns H Hs A ok kv) (s2 : Same Hs H2) (hA : ∀ x, ok x → A' x = A x) (hoc : ∀ x, ok x → oc8 n m ns A' x = oc8 n m ns A x)
    (hn : ∀ x, new x → Hs (A' x) = none ∧ H2 (A' x) = some (oc8 n m ns A' x)) (hi : ∀ x y, new x → new y → A' x = A' y → x = y) : Stg8 n m ns H (upd H2 (A .play) (.dK kv')) A' (fun x => ok x ∨ new x) kv' := by
  have ntw : ∀ x, ok x → x ≠ .play → A x ≠ A .play := fun x hx h e => h (S.inj _ _ hx S.ot e)
  have nnew : ∀ x y, ok x → new y → A x ≠ A' y := fun x y hx hy e => by
    obtain ⟨o, h1⟩ := S.live x hx
    rw [e, (hn y hy).1] at h1; cases h1
  have S2 := S.same s2
  refine ⟨?_, fun x y hx hy e => ?_, fun x hx => ?_, fun x hx h1 => ?_, .inl S.ot, ?_⟩
  · exact same_upd (S.sm.trans s2) (S.fr _ S.ot)
  · rcases hx with hx | hx
    · rcases hy with hy | hy
      · rw [hA x hx, hA y hy] at e; exact S.inj x y hx hy e
      · rw [hA x hx] at e; exact absurd e (nnew x y hx hy)
    · rcases hy with hy | hy
      · rw [hA y hy] at e; exact absurd e.symm (nnew y x hy hx)
      · exact hi x y hx hy e
  · rcases hx with hx | hx
    · rw [hA x hx]; exact S.fr x hx
    · exact Same.free S.sm (hn x hx).1
  · rcases hx with hx | hx
    · rw [hA x hx, hoc x hx, upd_ne (ntw x hx h1)]; exact S2.ct x hx h1
    · rw [upd_ne (nnew _ _ S.ot hx).symm]; exact (hn x hx).2
  · rw [hA _ S.ot, upd_same]
end
/-- where things are -/
def B0 (pl la : Addr) : Yb → Addr
  | .play => pl
  | _ => la
def B1 (A : Yb → Addr) (a : Addr) : Yb → Addr
  | .asked => a
  | x => A x
def B2 (A : Yb → Addr) (a : Addr) : Yb → Addr
  | .waits => a
  | x => A x
def B3 (A : Yb → Addr) (a : Addr) (f : Nat → Addr) : Yb → Addr
  | .roads => a
  | .road d => f d
  | x => A x
def B4 (A : Yb → Addr) (a : Addr) (f : Nat → Addr) : Yb → Addr
  | .bids => a
  | .bid d => f d
  | x => A x
def B5 (A : Yb → Addr) (a : Addr) (f : Nat → Addr) : Yb → Addr
  | .known => a
  | .kno d => f d
  | x => A x
def B6 (A : Yb → Addr) (a : Addr) (f : Nat → Addr) : Yb → Addr
  | .rights => a
  | .rig d => f d
  | x => A x
def k0 (x : Yb) : Prop := x = .play ∨ x = .last
def k1 (x : Yb) : Prop := k0 x ∨ x = .asked
def k2 (x : Yb) : Prop := k1 x ∨ x = .waits
def k3 (n : Nat) (x : Yb) : Prop := k2 x ∨ (x = .roads ∨ ∃ d, d < n ∧ x = .road d)
def k4 (n : Nat) (x : Yb) : Prop := k3 n x ∨ (x = .bids ∨ ∃ d, d < n ∧ x = .bid d)
def k5 (n : Nat) (x : Yb) : Prop := k4 n x ∨ (x = .known ∨ ∃ d, d < n ∧ x = .kno d)
def k6 (n : Nat) (x : Yb) : Prop := k5 n x ∨ (x = .rights ∨ ∃ d, d < n ∧ x = .rig d)
def v3 (n m : Nat) (la : Addr) : List (Key × V) := [(ks "count", .int n), (ks "pages", .int m), (ks "last", .ref la)]
theorem v3_merge {n m : Nat} {la : Addr} : mergeK [] (v3 n m la) = v3 n m la := by kernel_rfl
theorem v4_put {n m : Nat} {la a : Addr} : putK (v3 n m la) (ks "asked") (.ref a) = v3 n m la ++ [(ks "asked", .ref a)] := by kernel_rfl
theorem v5_put {n m : Nat} {la a b : Addr} : putK (v3 n m la ++ [(ks "asked", .ref a)]) (ks "waits") (.ref b) = v3 n m la ++ [(ks "asked", .ref a), (ks "waits", .ref b)] := by kernel_rfl
theorem v6_put {n m : Nat} {la a b c : Addr} : putK (v3 n m la ++ [(ks "asked", .ref a), (ks "waits", .ref b)]) (ks "roads") (.ref c) = v3 n m la ++ [(ks "asked", .ref a), (ks "waits", .ref b), (ks "roads", .ref c)] := by kernel_rfl
theorem v7_put {n m : Nat} {la a b c d : Addr} : putK (v3 n m la ++ [(ks "asked", .ref a), (ks "waits", .ref b), (ks "roads", .ref c)]) (ks "bids") (.ref d) = v3 n m la ++ [(ks "asked", .ref a), (ks "waits", .ref b), (ks "roads", .ref c), (ks "bids", .ref d)] := by kernel_rfl
theorem v8_put {n m : Nat} {la a b c d e : Addr} : putK (v3 n m la ++ [(ks "asked", .ref a), (ks "waits", .ref b), (ks "roads", .ref c), (ks "bids", .ref d)]) (ks "known") (.ref e) = v3 n m la ++ [(ks "asked", .ref a), (ks "waits", .ref b), (ks "roads", .ref c), (ks "bids", .ref d), (ks "known", .ref e)] := by kernel_rfl
theorem v9_put {n m : Nat} {la a b c d e f : Addr} : putK (v3 n m la ++ [(ks "asked", .ref a), (ks "waits", .ref b), (ks "roads", .ref c), (ks "bids", .ref d), (ks "known", .ref e)]) (ks "rights") (.ref f) = v3 n m la ++ [(ks "asked", .ref a), (ks "waits", .ref b), (ks "roads", .ref c), (ks "bids", .ref d), (ks "known", .ref e), (ks "rights", .ref f)] := by kernel_rfl
def x0 (ns : List Int) (p : Nat) : Int := (ns[p]?).getD 0
def PS0 (ns : List Int) : PS := ⟨fun p => ⟨x0 ns p, none, [], [], 0⟩, fun _ _ => .no, x0 ns, fun _ => none, fun _ => [], fun _ _ => .no, fun _ => false⟩
theorem x0_map (ns : List Int) : ns.map V.int = (List.range ns.length).map fun p => V.int (x0 ns p) := by
  refine List.ext_getElem? fun i => ?_
  rw [List.getElem?_map, List.getElem?_map]
  by_cases h : i < ns.length
  · rw [List.getElem?_range h, List.getElem?_eq_getElem h]
    simp [x0, h]
  · rw [List.getElem?_eq_none (by lia), List.getElem?_eq_none (by simpa using h)]
    rfl
theorem Stg8.play {n m : Nat} {ns : List Int} {H Hs : Hp} {A : Yb → Addr} (hm : ns.length = m) (S : Stg8 n m ns H Hs A (k6 n) (pkv A n m)) : PlayAt Hs A n m (PS0 ns) nobid ∧ ∀ b, FY A n b → H b = none := by
  have okk : ∀ x : Yb, x.ok n → k6 n x := fun x hx => by
    cases x with
    | play => exact .inl (.inl (.inl (.inl (.inl (.inl (.inl rfl))))))
    | last => exact .inl (.inl (.inl (.inl (.inl (.inl (.inr rfl))))))
    | asked => exact .inl (.inl (.inl (.inl (.inl (.inr rfl)))))
    | waits => exact .inl (.inl (.inl (.inl (.inr rfl))))
    | roads => exact .inl (.inl (.inl (.inr (.inl rfl))))
    | road d => exact .inl (.inl (.inl (.inr (.inr ⟨d, hx, rfl⟩))))
    | bids => exact .inl (.inl (.inr (.inl rfl)))
    | bid d => exact .inl (.inl (.inr (.inr ⟨d, hx, rfl⟩)))
    | known => exact .inl (.inr (.inl rfl))
    | kno d => exact .inl (.inr (.inr ⟨d, hx, rfl⟩))
    | rights => exact .inr (.inl rfl)
    | rig d => exact .inr (.inr ⟨d, hx, rfl⟩)
  refine ⟨⟨fun x y hx hy e => S.inj x y (okk x hx) (okk y hy) e, fun x hx => ?_⟩, fun b ⟨x, hx, e⟩ => by rw [e]; exact S.fr x (okk x hx)⟩
  have hk := okk x hx
  cases x with
  | play => exact ⟨_, S.tw, rfl⟩
  | last => exact ⟨_, S.ct .last hk (by intro z; cases z), by show HO.lst _ = HO.lst _; rw [x0_map, hm]; rfl⟩
  | asked =>
    refine ⟨_, S.ct .asked hk (by intro z; cases z), _, rfl, List.length_replicate, fun d hd => ⟨.non, ?_, rfl⟩⟩
    rw [List.getElem?_replicate, if_pos hd]
  | waits => exact ⟨_, S.ct .waits hk (by intro z; cases z), by show HO.lst _ = HO.lst _; rw [rep_range]; rfl⟩
  | roads => exact ⟨_, S.ct .roads hk (by intro z; cases z), rfl⟩
  | road d => exact ⟨_, S.ct (.road d) hk (by intro z; cases z), [], rfl, by simp [PS0, RepL]⟩
  | bids => exact ⟨_, S.ct .bids hk (by intro z; cases z), rfl⟩
  | bid d => exact ⟨_, S.ct (.bid d) hk (by intro z; cases z), rfl⟩
  | known => exact ⟨_, S.ct .known hk (by intro z; cases z), rfl⟩
  | kno d => exact ⟨_, S.ct (.kno d) hk (by intro z; cases z), by show HO.lst _ = HO.lst _; rw [rep_range]; rfl⟩
  | rights => exact ⟨_, S.ct .rights hk (by intro z; cases z), rfl⟩
  | rig d => exact ⟨_, S.ct (.rig d) hk (by intro z; cases z), by show HO.lst _ = HO.lst _; rw [rep_range]; rfl⟩
/-- between the turns -/
structure LQ (CH CP : Addr) (H0 H : Hp) (A : Yb → Addr) (B : Hb → Addr) (n m : Nat) (S : PS) (ol kl : Addr) (os : List Int) : Prop where
  bo : Both CH CP H A B n m S nobid
  iv : PInv n m S
  sm : Same H0 H
  fr : ∀ b, FB A B n m b → H0 b = none
  ho : H ol = some (.lst (os.map V.int))
  hk : H kl = some (.lst (os.map V.int))
  no : ¬ FB A B n m ol
  nk : ¬ FB A B n m kl
theorem LQ.same {CH CP : Addr} {H0 H H' : Hp} {A : Yb → Addr} {B : Hb → Addr} {n m : Nat} {S : PS} {ol kl : Addr} {os : List Int} (h : LQ CH CP H0 H A B n m S ol kl os) (s : Same H H') : LQ CH CP H0 H' A B n m S ol kl os :=
  ⟨h.bo.same s, h.iv, h.sm.trans s, h.fr, s _ _ h.ho, s _ _ h.hk, h.no, h.nk⟩
theorem LQ.go {CH CP : Addr} {H0 H H' : Hp} {A : Yb → Addr} {B B' : Hb → Addr} {n m : Nat} {S S' : PS} {ol kl : Addr} {os : List Int} (h : LQ CH CP H0 H A B n m S ol kl os) (iv : PInv n m S') (bo : Both CH CP H' A B' n m S' nobid) (mo : Mo H H' A B B' n m) : LQ CH CP H0 H' A B' n m S' ol kl os := by
  have mv : ∀ b, FB A B' n m b → FB A B n m b ∨ H b = none := fun b z => by
    rcases z with z | ⟨x, hx, z⟩
    · exact .inl (.inl z)
    · rcases mo.mv x hx with q | q
      · exact .inl (.inr ⟨x, hx, by rw [z, q]⟩)
      · exact .inr (by rw [z]; exact q)
  refine ⟨bo, iv, Same.kp h.sm mo.kl.kp h.fr, fun b z => (mv b z).elim (h.fr b) fun q => Same.free h.sm q, mo.kl.kp _ _ h.ho h.no, mo.kl.kp _ _ h.hk h.nk, fun z => (mv _ z).elim h.no fun q => ?_, fun z => (mv _ z).elim h.nk fun q => ?_⟩
  · rw [h.ho] at q; cases q
  · rw [h.hk] at q; cases q
theorem cover {n j t : Nat} {P : Nat → Prop} (hn : 0 < n) (hj : n ≤ j) (ht : j ≤ t) (h : ∀ i, t - j ≤ i → i < t → P (i % n)) (d : Nat) (hd : d < n) : P d := by
  have h1 : d + n * ((t - 1 - d) / n) ≤ t - 1 := by have := Nat.mul_div_le (t - 1 - d) n; lia
  have h2 : t - 1 - d < n * ((t - 1 - d) / n) + n := by have := Nat.lt_mul_div_succ (t - 1 - d) hn; rw [Nat.mul_succ] at this; exact this
  have := h (d + n * ((t - 1 - d) / n)) (by lia) (by lia)
  rwa [Nat.add_mul_mod_self_left, Nat.mod_eq_of_lt hd] at this
theorem roads_of {CH CP : Addr} {H : Hp} {A : Yb → Addr} {B : Hb → Addr} {n m : Nat} {S : PS} {bd : Nat → List Rt} (M : Both CH CP H A B n m S bd) : ∃ f : Nat → List V, ∀ d, d < n → H (A (.road d)) = some (.lst (f d)) ∧ RepL H (f d) ((S.ro d).map Let.d) :=
  ⟨fun d => if h : d < n then (M.pl.road h).choose else [], fun d hd => by dsimp only; rw [dif_pos hd]; exact (M.pl.road hd).choose_spec⟩
theorem empty_of {H : Hp} {vs : List V} {l : List Let} (r : RepL H vs (l.map Let.d)) : vs.isEmpty = l.isEmpty := by
  have := RepL.isEmpty r
  rw [this]; cases l <;> rfl
theorem quiet_waits {n : Nat} {wt : Nat → Bool} (h : ∀ d, wt d = false) : inV (.bl true) ((List.range n).map fun d => V.bl (wt d)) = false := by
  unfold inV
  rw [List.any_eq_false]
  intro x hx
  obtain ⟨d, _, rfl⟩ := List.mem_map.mp hx
  rw [h d]
  simp [eqV]
theorem ints_refl (ns : List Int) : (ns.map V.int).all flatV = true ∧ ∀ z ∈ ns.map V.int, eqV z z = true := by
  refine ⟨?_, fun z hz => ?_⟩
  · rw [List.all_eq_true]; intro z hz; obtain ⟨i, _, rfl⟩ := List.mem_map.mp hz; rfl
  · obtain ⟨i, _, rfl⟩ := List.mem_map.mp hz; simp [eqV]
end K07
namespace K07
open PySem L2
theorem test_via {tt : TT} {σ : St} {H : Hp} {Q : Bool → Hp → Prop} (R : Bool → Hp → Prop) (ha : ∀ N : Bool → Hp → Prop, (∀ b H', R b H' → N b H') → tt σ H N) (hb : ∀ b H', R b H' → Q b H') : tt σ H Q := ha _ hb
theorem mod_nat (i : Int) {n : Nat} (h : 0 < n) : ∃ d : Nat, d < n ∧ i % (n : Int) = d := by
  have h1 := Int.emod_nonneg i (show (n : Int) ≠ 0 by lia)
  have h2 := Int.emod_lt_of_pos i (show (0 : Int) < n by lia)
  exact ⟨(i % (n : Int)).toNat, by lia, by lia⟩
theorem pick_right (i : Int) : ∃ r : Rt, (r = .rd ∨ r = .wr) ∧ atI [V.str "read", V.str "write"] (i % 2) = some (.str r.s) := by
  have : i % 2 = 0 ∨ i % 2 = 1 := by lia
  rcases this with e | e <;> rw [e]
  · exact ⟨.rd, .inl rfl, rfl⟩
  · exact ⟨.wr, .inr rfl, rfl⟩
theorem ask_sent {n m d p : Nat} {S : PS} {r : Rt} (h : PInv n m S) (hn : n ≤ 100) (hd : d < n) : ((S.pg p).take p d (.ask p r)).2.length ≤ 10000 := by
  unfold PG.take
  dsimp only
  by_cases e : (S.pg p).ask = []
  · rw [if_pos e]
    have g := h.b.gok p
    have hm : (S.pg p).miss = 0 := by
      rcases h.p p with ⟨_, I⟩ | ⟨a, r', q, b, hb⟩
      · exact I.ms
      · rw [hb.ak] at e; cases e
    have := serve_wq (n := n) (p := p) _ { S.pg p with ask := [(d, r)] } (Nat.le_refl _) ⟨g.wn, g.rn, g.ex, g.nd, fun x hx => by rw [List.mem_singleton] at hx; rw [hx]; exact hd⟩ hm
    have h2 : wq n { S.pg p with ask := [(d, r)] } ≤ n := by unfold wq; simp
    lia
  · rw [if_neg e]; simp
def spMoved (CH CP : Addr) : Sp := fun vs H Q _ => ∃ A B, ∃ n m : Nat, ∃ S, ∃ c mo k : Int, vs = [.ref (A Yb.play), .ref (B Hb.hall), .int c, .int mo, .int k] ∧ Both CH CP H A B n m S nobid ∧ 0 < n ∧ 0 < m ∧ n ≤ 100 ∧ m ≤ 100 ∧ PInv n m S ∧
  ∀ S' B' H', PInv n m S' → Both CH CP H' A B' n m S' nobid → Mo H H' A B B' n m → Q (.bl true) H'
section
variable {P : Program} {w : World} {K : PySem.W.Frag} {mg : Str → Option Value} {base : Heap} {t : Adr}
theorem ok_l_moved (T : Txt K w mg t) : FnOk P w K mg base CX0 9 t.f_l_moved t.fd_l_moved ["_law_play", "_law_hall", "_law_cell", "_law_more", "_law_k"] (spMoved t.C_Hall t.C_PageLoans) := by
  refine T.F_l_moved.ok sc_l_moved (fun vs H Q E h => ?_) (fun cdv A outer s H vs Q E hr h => ?_)
  · obtain ⟨A, B, n, m, S, c, mo, kk, rfl, _⟩ := h; rfl
  · obtain ⟨A, B, n, m, S, c, mo, kk, rfl, M, hn0, hm0, hn, hm, I, k⟩ := h
    have hu := hu_of hr
    have sl : sizeLine = 16777216 := by decide
    obtain ⟨d, hd, ed⟩ := mod_nat (c + kk) hn0
    obtain ⟨p, hp, ep⟩ := mod_nat (c / 3) hm0
    obtain ⟨r, hr', er⟩ := pick_right (c / 6)
    refine' ⟨_, ?sr, ?_⟩
    case' sr => refine' pss_cons ?b11s0x ?b11sr0x
    case' b11sr0x => refine' pss_cons ?b11s1x ?b11sr1x
    case' b11sr1x => refine' pss_cons ?b11s2x ?b11sr2x
    case' b11sr2x => refine' pss_cons ?b11s3x ?b11sr3x
    case' b11sr3x => refine' pss_cons ?b11s4x ?b11sr4x
    case' b11sr4x => refine' pss_cons ?b11s5x ?b11sr5x
    case' b11sr5x => refine' pss_cons ?b11s6x ?b11sr6x
    case' b11sr6x => refine' pss_cons ?b11s7x ?b11sr7x
    case' b11sr7x => refine' pss_cons ?b11s8x ?b11sr8x
    case' b11sr8x => refine' pss_cons ?b11s9x ?b11sr9x
    case' b11sr9x => refine' pss_one ?b11s10x
    case' b11s0x => exact (ps_set (i := 5) sc_l_moved.nd rfl (Or.inl rfl) (pe_op op_mod (pe_op op_add (pv 2) (pv 4)) (pe_dget hu (pv 0) pe_str (fun _ _ => rfl))))
    case' b11s1x => exact (ps_set (i := 6) sc_l_moved.nd rfl (Or.inl rfl) (pe_op op_mod (pe_op op_fdiv (pv 2) pe_int) (pe_dget hu (pv 0) pe_str (fun _ _ => rfl))))
    case' b11s2x => exact (ps_set (i := 7) sc_l_moved.nd rfl (Or.inl rfl) (pe_ix ix_list (pe_lst (pa_cons pe_str (pa_cons pe_str pa_nil))) (pe_op op_mod (pe_op op_fdiv (pv 2) pe_int) pe_int) (fun _ _ => rfl)))
    case' b11s3x => exact (ps_set (i := 8) sc_l_moved.nd rfl (Or.inl rfl) (pe_op op_sub (pe_op op_mod (pe_op op_add (pe_op op_fdiv (pv 3) pe_int) (pe_op op_mul pe_int (pv 4))) pe_int) pe_int))
    case' b11s4x => exact (ps_if (pt_cmpR op_eq (pv 8) pe_int (nomark _)) (pss_one (ps_set (i := 8) sc_l_moved.nd rfl (Or.inl rfl) pe_int)) pss_nil)
    case' b11s5x => exact (ps_set (i := 9) sc_l_moved.nd rfl (Or.inl rfl) (pe_ix ix_list (pe_ix ix_list (pe_dget hu (pv 0) pe_str (fun _ _ => rfl)) (pv 5) (fun _ _ => rfl)) (pv 6) (fun _ _ => rfl)))
    case' b11s6x => exact (ps_if (PW.pt (pw_and (pt_cmpR (op_neNil hr.units0) (pe_ix ix_list (pe_dget hu (pv 0) pe_str (fun _ _ => rfl)) (pv 5) (fun _ _ => rfl)) (pe_lst pa_nil) (nomark _)) (pw_and1 (pt_cmpR op_gt (pe_op op_mod (pv 3) pe_int) pe_int (nomark _))))) (pss_one (ps_ret (pe_call (ok_l_taken T) (hr.mono (by decide) : Room 8 _) (by rfl) T.m_l_taken T.F_l_taken.kp T.b_l_taken .nil pass0 (pa_cons (pv 0) (pa_cons (pv 1) (pa_cons (pv 5) (pa_cons (pv 8) pa_nil))))))) pss_nil)
    case' b11s7x => refine' ps_if (PW.pt (pw_and (pt_cmpR op_eq (pv 9) pe_str (nomark _)) (pw_and1 (pt_cmpR op_eq (pe_op op_mod (pe_op op_fdiv (pv 3) pe_int) pe_int) pe_int (nomark _))))) ?b11s7t ?b11s7f
    case' b11s7t => refine' pss_cons ?b12s0x ?b12sr0x
    case' b12sr0x => refine' pss_one ?b12s1x
    case' b12s0x => exact (ps_asg pe_str (pg_sub (pe_ix ix_list (pe_dget hu (pv 0) pe_str (fun _ _ => rfl)) (pv 5) (fun _ _ => rfl)) (pv 6) set_list))
    case' b12s1x => exact (ps_ret (pe_call (ok_l_told T) (hr.mono (by decide) : Room 7 _) (by rfl) T.m_l_told T.F_l_told.kp T.b_l_told .nil pass0 (pa_cons (pv 0) (pa_cons (pv 1) (pa_cons (pv 5) (pa_cons (pe_tup (pa_cons pe_str (pa_cons (pv 6) (pa_cons (pv 8) pa_nil)))) pa_nil))))))
    case' b11s7f => exact pss_nil
    case' b11s8x => exact (ps_if (PW.pt (pw_or (pt_val (pe_ix ix_list (pe_dget hu (pv 0) pe_str (fun _ _ => rfl)) (pv 5) (fun _ _ => rfl))) (pw_or (pt_cmpR op_eq (pv 9) pe_str (nomark _)) (pw_or1 (pt_cmpR op_eq (pv 9) (pv 7) (nomark _)))))) (pss_one (ps_ret pe_bl)) pss_nil)
    case' b11s9x => exact (ps_asg pe_bl (pg_sub (pe_dget hu (pv 0) pe_str (fun _ _ => rfl)) (pv 5) set_list))
    case' b11s10x => exact (ps_ret (pe_call (ok_l_told T) (hr.mono (by decide) : Room 7 _) (by rfl) T.m_l_told T.F_l_told.kp T.b_l_told .nil pass0 (pa_cons (pv 0) (pa_cons (pv 1) (pa_cons (pv 5) (pa_cons (pe_tup (pa_cons pe_str (pa_cons (pv 6) (pa_cons (pv 7) pa_nil)))) pa_nil))))))
    try dsimp only [cxOf, Cx.nox]
    show let Z1 : L2.TS := _; let Z2 : L2.TS := _; let Z3 : L2.TS := _; let Z4 : L2.TS := _; let Z5 : L2.TS := _; let Z6 : L2.TS := tIfS _ Z5 tNext; let Z7 : L2.TS := _; let Z8 : L2.TS := _; let Z9 : L2.TS := tIfS _ Z8 tNext; let Z10 : L2.TS := _; let Z11 : L2.TS := _; let Z12 : L2.TS := tSeq Z10 (Z11); let Z13 : L2.TS := tIfS _ Z12 tNext; let Z14 : L2.TS := _; let Z15 : L2.TS := tIfS _ Z14 tNext; let Z16 : L2.TS := _; let Z17 : L2.TS := _; let D0 : Ends := _; (tSeq Z1 (tSeq Z2 (tSeq Z3 (tSeq Z4 (tSeq Z6 (tSeq Z7 (tSeq Z9 (tSeq Z13 (tSeq Z15 (tSeq Z16 (Z17))))))))))) D0 _ _
    intro Z1 Z2 Z3 Z4 Z5 Z6 Z7 Z8 Z9 Z10 Z11 Z12 Z13 Z14 Z15 Z16 Z17 D0
    refine ⟨_, rfl, _, rfl, _, _, rfl, rfl, _, rfl, A .play, _, rfl, dget M.pl.play pkv_count, _, _, rfl, rfl, (show (0 : Int) < n by lia), ?_⟩
    refine ⟨_, rfl, _, _, rfl, rfl, ⟨by decide, by decide⟩, _, rfl, A .play, _, rfl, dget M.pl.play pkv_pages, _, _, rfl, rfl, (show (0 : Int) < m by lia), ?_⟩
    dsimp only
    rw [ed, ep]
    refine ⟨(by show 2 ≤ sizeLine; decide), fun z hz => ⟨_, rfl, _, _, rfl, rfl, ⟨by decide, by decide⟩, _, _, rfl, rfl, (show (0 : Int) < 2 by decide), z, _, _, _, rfl, rfl, SqL.of upd_same, er, ?_⟩⟩
    have s1 := same_new (o := .lst [.str "read", .str "write"]) hz
    have M1 := M.same s1
    generalize upd H z (.lst [.str "read", .str "write"]) = H1 at s1 M1
    refine ⟨_, rfl, _, _, rfl, rfl, ⟨by decide, by decide⟩, _, rfl, _, _, rfl, rfl, .inl ⟨by decide, by decide⟩, _, _, rfl, rfl, _, _, rfl, rfl, (show (0 : Int) < 50 by decide), _, _, rfl, rfl, ?_⟩
    try dsimp only [tNext]
    refine seq_via (fun σ' H2 => ∃ x, σ' = [some (.ref (A .play)), some (.ref (B .hall)), some (.int c), some (.int mo), some (.int kk), some (.int d), some (.int p), some (.str r.s), some (.int x), none] ∧ H2 = H1) (fun N hN => ?_) ?_
    · refine ⟨_, rfl, rfl, _, rfl, ?_⟩
      by_cases e : (mo / 6 + 7 * kk) % 50 - 9 = 40
      · exact iteTb (vi_eq e) (hN _ _ ⟨_, rfl, rfl⟩)
      · exact iteFb (vi_ne e) (hN _ _ ⟨_, rfl, rfl⟩)
    rintro σ' H2 ⟨x, rfl, rfl⟩
    try dsimp only [tNext]
    refine seq_via (fun σ' H3 => σ' = [some (.ref (A .play)), some (.ref (B .hall)), some (.int c), some (.int mo), some (.int kk), some (.int d), some (.int p), some (.str r.s), some (.int x), some (.str (S.rt d p).s)] ∧ H3 = H2) (fun N hN => ?_) ?_
    · exact ⟨_, rfl, A .play, _, rfl, dget M1.pl.play pkv_rights, _, rfl, A .rights, _, _, _, rfl, rfl, SqL.of M1.pl.rights, range_at hd, _, rfl, A (.rig d), _, _, _, rfl, rfl, SqL.of (M1.pl.rig hd), range_at hp, hN _ _ ⟨rfl, rfl⟩⟩
    rintro σ' H2 ⟨rfl, rfl⟩
    -- a letter is taken
    try dsimp only [tNext]
    show (tIfS (tAnd _ _) _ _) _ _ _
    refine test_via (tt := tAnd _ _) (fun b H' => Same H2 H' ∧ (b = true → S.ro d ≠ [])) (fun N hN => ?_) ?_
    · obtain ⟨rv, r1, r2⟩ := M1.pl.road hd
      refine ⟨_, rfl, A .play, _, rfl, dget M1.pl.play pkv_roads, _, rfl, A .roads, _, _, _, rfl, rfl, SqL.of M1.pl.roads, range_at hd, (by show 0 ≤ sizeLine; decide), fun z2 hz2 => ⟨A (.road d), z2, rv, rfl, rfl, SqL.of (same_new hz2 _ _ r1), SqL.of upd_same, _, rfl, ?_⟩⟩
      have s2 := same_new (o := .lst []) hz2
      cases rv with
      | nil => exact iteFb rfl (hN _ _ ⟨s2, fun z => by cases z⟩)
      | cons v rv =>
        refine iteTb rfl ?_
        refine ⟨_, rfl, _, _, rfl, rfl, (show (0 : Int) < 3 by decide), _, _, rfl, rfl, _, rfl, hN _ _ ⟨s2, fun _ q => ?_⟩⟩
        rw [q] at r2
        have := RepL.nil_inv r2
        cases this
    rintro b H3 ⟨s3, hb3⟩
    have M3 := M1.same s3
    have mo3 : Mo H H3 A B B n m := Mo.of_same (s1.trans s3)
    cases b with
    | true =>
      refine iteT ?_
      refine ⟨_, rfl, _, rfl, _, rfl, _, rfl, A, B, n, m, S, d, x, rfl, M3, hn, hm, hd, I, hb3 rfl, fun B' H' M' mo' => ?_⟩
      exact k _ B' H' (takeR_inv x I (hb3 rfl)).1 M' (mo3.trans mo')
    | false =>
    refine iteF ?_
    -- a page is given up
    try dsimp only [tNext]
    show (tIfS (tAnd _ _) _ _) _ _ _
    refine test_via (tt := tAnd _ _) (fun b H' => H' = H3 ∧ (b = true → S.rt d p = .wr)) (fun N hN => ?_) ?_
    · refine ⟨_, rfl, rfl, _, rfl, ?_⟩
      by_cases hw : S.rt d p = .wr
      · refine iteTb (by first | (rw [hw]; exact vs_eq) | (dsimp only; rw [hw]; exact vs_eq)) ?_
        exact ⟨_, rfl, _, _, rfl, rfl, ⟨by decide, by decide⟩, _, _, rfl, rfl, (show (0 : Int) < 2 by decide), rfl, _, rfl, hN _ _ ⟨rfl, fun _ => hw⟩⟩
      · exact iteFb (rt_ne (x := "write") (q := .wr) rfl hw) (hN _ _ ⟨rfl, fun z => by cases z⟩)
    rintro b H4 ⟨rfl, hb4⟩
    cases b with
    | true =>
      have hw := hb4 rfl
      refine iteT ?_
      refine ⟨_, rfl, A .play, _, rfl, dget M3.pl.play pkv_rights, _, rfl, A .rights, _, _, _, rfl, rfl, SqL.of M3.pl.rights, range_at hd, _, rfl, A (.rig d), _, _, p, rfl, rfl, M3.pl.rig hd, ixN_nat (by simpa using hp), ?_⟩
      obtain ⟨M4, mo4⟩ := M3.wr (M3.pl.wrRig hd hp .no) rfl
      refine ⟨_, rfl, _, rfl, _, rfl, _, rfl, _, rfl, (by show 3 ≤ sizeLine; decide), fun z5 hz5 => ?_⟩
      have s5 := same_new (o := .tup (UL.gave p x).vs) hz5
      have hmu := I.mu_pg p
      have eh : PS.hear { S with rt := set2 S.rt d p .no } d .no (.gave p x) = S.tGave d p x := by
        unfold PS.hear PS.tGave
        simp [laN]
      refine ⟨A, B, n, m, _, nobid, nobid, z5, d, .gave p x, .no, rfl, M4.same s5, by lia, by lia, upd_same, hd, ⟨rfl, rfl⟩, ⟨hp, trivial, I.rw_ p, by show (S.pg p).mu ≤ _; lia, trivial⟩, trivial, fun e => ?_, fun B' H6 M6 mo6 => ?_⟩
      · have h1 := I.ro_len e
        show (S.ro e).length + 0 ≤ _
        lia
      · rw [eh] at M6
        exact k _ B' H6 (step_gave x I hw) M6 (((mo3.trans mo4).trans (Mo.of_same s5)).trans mo6)
    | false =>
    refine iteF ?_
    try dsimp only [tNext]
    show (tIfS (tOr _ _) _ _) _ _ _
    refine test_via (tt := tOr _ _) (fun b H' => H' = H4 ∧ (b = false → S.wt d = false ∧ S.rt d p ≠ .wr)) (fun N hN => ?_) ?_
    · refine ⟨_, rfl, A .play, _, rfl, dget M3.pl.play pkv_waits, _, rfl, A .waits, _, _, _, rfl, rfl, SqL.of M3.pl.waits, range_at hd, _, rfl, ?_⟩
      cases hwt : S.wt d with
      | true => exact iteT (hN _ _ ⟨rfl, fun z => by cases z⟩)
      | false =>
        refine iteF ?_
        refine ⟨_, rfl, rfl, _, rfl, ?_⟩
        by_cases hw : S.rt d p = .wr
        · exact iteTb (by first | (rw [hw]; exact vs_eq) | (dsimp only; rw [hw]; exact vs_eq)) (hN _ _ ⟨rfl, fun z => by cases z⟩)
        · refine iteFb (rt_ne (x := "write") (q := .wr) rfl hw) ?_
          exact ⟨_, rfl, _, rfl, rfl, _, rfl, hN _ _ ⟨rfl, fun _ => ⟨hwt, hw⟩⟩⟩
    rintro b H5 ⟨rfl, hb5⟩
    cases b with
    | true => exact iteT (k _ B _ I M3 mo3)
    | false =>
    obtain ⟨hwt, hw⟩ := hb5 rfl
    refine iteF ?_
    refine ⟨_, rfl, A .play, _, rfl, dget M3.pl.play pkv_waits, _, rfl, A .waits, _, _, d, rfl, rfl, M3.pl.waits, ixN_nat (by simpa using hd), ?_⟩
    obtain ⟨M4, mo4⟩ := M3.wr (M3.pl.wrWait hd true) rfl
    generalize upd H5 (A .waits) _ = H6 at M4 mo4
    refine ⟨_, rfl, _, rfl, _, rfl, _, rfl, _, rfl, (by show 3 ≤ sizeLine; decide), fun z5 hz5 => ?_⟩
    have s5 := same_new (o := .tup (UL.ask p r).vs) hz5
    have hmu := I.mu_pg p
    have hsent := ask_sent (p := p) (r := r) I hn hd
    obtain ⟨a1, a2⟩ := step_ask I hd hp hwt hw hr'
    refine ⟨A, B, n, m, _, nobid, nobid, z5, d, .ask p r, .no, rfl, M4.same s5, by lia, by lia, upd_same, hd, rfl, ⟨hp, hr', I.rw_ p, by show (S.pg p).mu ≤ _; lia, trivial⟩, a1, fun e => ?_, fun B' H7 M7 mo7 => ?_⟩
    · have h1 := I.ro_len e
      show (S.ro e).length + ((S.pg p).take p d (.ask p r)).2.length ≤ _
      lia
    · exact k _ B' H7 a2 M7 (((mo3.trans mo4).trans (Mo.of_same s5)).trans mo7)
end
end K07
namespace K07
open PySem L2
def spLaw (K : PySem.W.Frag) : Sp := fun vs H Q _ => ∃ (a : Addr) (ns : List Int), vs = [.ref a] ∧ SqL K H a (ns.map V.int) ∧ ns.length ≤ 63 ∧ ∀ H', Q (.bl true) H'
section
variable {P : Program} {w : World} {K : PySem.W.Frag} {mg : Str → Option Value} {base : Heap} {t : Adr}
set_option maxHeartbeats 8000000 in
theorem ok_law (T : Txt K w mg t) : FnOk P w K mg base CX0 10 t.f_law t.fd_law ["_law_script"] (spLaw K) := by
  refine T.F_law.ok sc_law (fun vs H Q E h => ?_) (fun cdv A outer s H vs Q E hr h => ?_)
  · obtain ⟨a, ns, rfl, _⟩ := h; rfl
  · obtain ⟨a, ns, rfl, ha, hl, q⟩ := h
    have hu := hu_of hr
    have sl : sizeLine = 16777216 := by decide
    refine' ⟨_, ?sr, ?_⟩
    case' sr => refine' pss_cons ?b13s0x ?b13sr0x
    case' b13sr0x => refine' pss_cons ?b13s1x ?b13sr1x
    case' b13sr1x => refine' pss_cons ?b13s2x ?b13sr2x
    case' b13sr2x => refine' pss_cons ?b13s3x ?b13sr3x
    case' b13sr3x => refine' pss_cons ?b13s4x ?b13sr4x
    case' b13sr4x => refine' pss_cons ?b13s5x ?b13sr5x
    case' b13sr5x => refine' pss_cons ?b13s6x ?b13sr6x
    case' b13sr6x => refine' pss_cons ?b13s7x ?b13sr7x
    case' b13sr7x => refine' pss_cons ?b13s8x ?b13sr8x
    case' b13sr8x => refine' pss_cons ?b13s9x ?b13sr9x
    case' b13sr9x => refine' pss_cons ?b13s10x ?b13sr10x
    case' b13sr10x => refine' pss_cons ?b13s11x ?b13sr11x
    case' b13sr11x => refine' pss_cons ?b13s12x ?b13sr12x
    case' b13sr12x => refine' pss_cons ?b13s13x ?b13sr13x
    case' b13sr13x => refine' pss_cons ?b13s14x ?b13sr14x
    case' b13sr14x => refine' pss_cons ?b13s15x ?b13sr15x
    case' b13sr15x => refine' pss_cons ?b13s16x ?b13sr16x
    case' b13sr16x => refine' pss_cons ?b13s17x ?b13sr17x
    case' b13sr17x => refine' pss_cons ?b13s18x ?b13sr18x
    case' b13sr18x => refine' pss_cons ?b13s19x ?b13sr19x
    case' b13sr19x => refine' pss_one ?b13s20x
    case' b13s0x => exact (ps_set (i := 1) sc_law.nd rfl (Or.inl rfl) (pe_callTy call_int1 (by rfl) T.n_int PyProof.Rows.Boot.«int» (pa_cons (pe_or (pe_cmpR op_gt (pe_callB call_len_seq (by rfl) T.n_len PySem.boot_len (pa_cons (pv 0) pa_nil)) pe_int (nomark _)) (pe_one (pe_cmpR op_eq (pe_op op_mod (pe_callB (call_sum rfl) (by rfl) T.n_sum PyProof.Rows.Boot.«sum» (pa_cons (pe_slice sl_list (pv 0) po_none (po_some pe_int)) pa_nil)) pe_int) pe_int (nomark _)))) pa_nil)))
    case' b13s1x => exact (ps_set (i := 2) sc_law.nd rfl (Or.inl rfl) (pe_op op_add (pe_op op_add pe_int (pe_op op_mod (pe_call (ok_l_at T) (hr.mono (by decide) : Room 1 _) (by rfl) T.m_l_at T.F_l_at.kp T.b_l_at .nil pass0 (pa_cons (pv 0) (pa_cons pe_int pa_nil))) pe_int)) (pe_op op_mul pe_int (pv 1))))
    case' b13s2x => exact (ps_set (i := 3) sc_law.nd rfl (Or.inr rfl) (pe_op op_add (pe_op op_add pe_int (pe_op op_mod (pe_op op_fdiv (pe_call (ok_l_at T) (hr.mono (by decide) : Room 1 _) (by rfl) T.m_l_at T.F_l_at.kp T.b_l_at .nil pass0 (pa_cons (pv 0) (pa_cons pe_int pa_nil))) pe_int) pe_int)) (pe_op op_mul pe_int (pv 1))))
    case' b13s3x => exact (ps_setComp (i := 4) sc_law.nd rfl rfl (compScope (xs := ["_law_k"]) (ys := ["_law_script"]) (js := [0]) rfl (by decide +kernel) (by decide +kernel) (by decide +kernel) (by rfl) ⟨⟨rfl, Or.inl rfl⟩, trivial⟩) rfl (pi_range1 (by rfl) T.n_range (pa_cons (pv 3) pa_nil)) (fun _ _ _ _ _ => (pg_name (i := 0) (show List.Nodup ((["_law_k"] : List Str) ++ (["_law_script"] : List Str) : List Str) by decide +kernel) rfl (Or.inl rfl))) (fun _ _ _ _ _ => pif_nil) (fun _ _ _ _ _ => (pe_op op_add (pe_op op_sub (pe_op op_mod (pe_call (ok_l_at T) (hr.mono (by decide) : Room 1 _) (by rfl) T.m_l_at T.F_l_at.kp T.b_l_at .nil pass0 (pa_cons (pv 1) (pa_cons pe_int pa_nil))) pe_int) pe_int) (pe_op op_mul pe_int (pv 0)))))
    case' b13s4x => exact (ps_set (i := 5) sc_law.nd rfl (Or.inl rfl) (pe_callTy call_list_of (by rfl) T.n_list PyProof.Rows.Boot.«list» (pa_cons (pv 4) pa_nil)))
    case' b13s5x => exact (ps_set (i := 6) sc_law.nd rfl (Or.inl rfl) (pe_make T.mk_Hall (ok_Hall_init T) (hr.mono (by decide) : Room 4 _) (by rfl) T.g_Hall T.b_Hall_init .nil pass0 (pa_cons (pv 5) pa_nil)))
    case' b13s6x => exact (ps_if (pt_cmpR (op_neSame hr.units0) (pv 5) (pv 4) (nomark _)) (pss_one (ps_ret pe_bl)) pss_nil)
    case' b13s7x => exact (ps_asg (pe_op op_add (pe_ix ix_list (pv 5) pe_int (fun _ _ => rfl)) pe_int) (pg_sub (pv 5) pe_int set_list))
    case' b13s8x => exact (ps_expr (pe_bm PySem.F.plainAttrs_list PySem.F.slot_list_append PySem.F.type_list_append mt_append (pv 5) (pa_cons pe_int pa_nil)))
    case' b13s9x => exact (ps_set (i := 7) sc_law.nd rfl (Or.inl rfl) (pe_callTy call_list_of (by rfl) T.n_list PyProof.Rows.Boot.«list» (pa_cons (pv 5) pa_nil)))
    case' b13s10x => refine' ps_set (X := _) (x := "_law_play") (e := _) (te := _) (i := 8) ?b13s10dhN ?b13s10dhi ?b13s10dhx ?b13s10de ?b13s10dhs ?b13s10dhf
    case' b13s10dhN => exact sc_law.nd
    case' b13s10dhi => rfl
    case' b13s10dhx => exact (Or.inl rfl)
    case' b13s10dhs => rfl
    case' b13s10dhf => exact .inl rfl
    case' b13s10de => refine' pe_disp (X := _) (trs := _) ?b13s10dp ?b13s10dn2 ?b13s10dn3 ?b13s10dn0 ?b13s10dn1
    case' b13s10dn2 => rfl
    case' b13s10dn3 => rfl
    case' b13s10dn0 => exact List.cons_ne_nil _ _
    case' b13s10dn1 => decide
    case' b13s10dp => refine' pps_cons (X := _) (tk := _) (tv := _) (trs := _) ?b13s10dk0 ?b13s10dv0 ?b13s10dp0x
    case' b13s10dk0 => exact pe_str
    case' b13s10dv0 => refine' (pv 2)
    case' b13s10dp0x => refine' pps_cons (X := _) (tk := _) (tv := _) (trs := _) ?b13s10dk1 ?b13s10dv1 ?b13s10dp1x
    case' b13s10dk1 => exact pe_str
    case' b13s10dv1 => refine' (pv 3)
    case' b13s10dp1x => refine' pps_cons (X := _) (tk := _) (tv := _) (trs := _) ?b13s10dk2 ?b13s10dv2 ?b13s10dp2x
    case' b13s10dk2 => exact pe_str
    case' b13s10dv2 => refine' (pe_callTy call_list_of (by rfl) T.n_list PyProof.Rows.Boot.«list» (pa_cons (pv 4) pa_nil))
    case' b13s10dp2x => exact pps_nil
    case' b13s11x => exact (ps_dput hu (pv 8) pe_str (pe_op op_rep (pe_lst (pa_cons pe_non pa_nil)) (pv 2)) (by rfl))
    case' b13s12x => exact (ps_dput hu (pv 8) pe_str (pe_op op_rep (pe_lst (pa_cons pe_bl pa_nil)) (pv 2)) (by rfl))
    case' b13s13x => exact (ps_dput hu (pv 8) pe_str (pe_comp (compScope (xs := ["_law_k"]) (ys := []) (js := []) rfl (by decide +kernel) (by decide +kernel) (by decide +kernel) (by rfl) trivial) rfl (pi_range1 (by rfl) T.n_range (pa_cons (pv 2) pa_nil)) (fun _ _ _ _ _ => (pg_name (i := 0) (show List.Nodup ((["_law_k"] : List Str) ++ ([] : List Str) : List Str) by decide +kernel) rfl (Or.inl rfl))) (fun _ _ _ _ _ => pif_nil) (fun _ _ _ _ _ => (pe_lst pa_nil))) (by rfl))
    case' b13s14x => exact (ps_dput hu (pv 8) pe_str (pe_comp (compScope (xs := ["_law_k"]) (ys := []) (js := []) rfl (by decide +kernel) (by decide +kernel) (by decide +kernel) (by rfl) trivial) rfl (pi_range1 (by rfl) T.n_range (pa_cons (pv 2) pa_nil)) (fun _ _ _ _ _ => (pg_name (i := 0) (show List.Nodup ((["_law_k"] : List Str) ++ ([] : List Str) : List Str) by decide +kernel) rfl (Or.inl rfl))) (fun _ _ _ _ _ => pif_nil) (fun _ _ _ _ _ => (pe_lst pa_nil))) (by rfl))
    case' b13s15x => refine' ps_for PassesOwn.never rfl (pi_list (pe_lst (pa_cons pe_str (pa_cons pe_str pa_nil)))) (pg_name (i := 9) sc_law.nd rfl (Or.inl rfl)) ?b13s15b
    case' b13s15b => refine' pss_one ?b14s0x
    case' b14s0x => exact (ps_dput hu (pv 8) (pv 9) (pe_comp (compScope (xs := ["_law_k"]) (ys := ["_law_pages"]) (js := [3]) rfl (by decide +kernel) (by decide +kernel) (by decide +kernel) (by rfl) ⟨⟨rfl, Or.inl rfl⟩, trivial⟩) rfl (pi_range1 (by rfl) T.n_range (pa_cons (pv 2) pa_nil)) (fun _ _ _ _ _ => (pg_name (i := 0) (show List.Nodup ((["_law_k"] : List Str) ++ (["_law_pages"] : List Str) : List Str) by decide +kernel) rfl (Or.inl rfl))) (fun _ _ _ _ _ => pif_nil) (fun _ _ _ _ _ => (pe_op op_rep (pe_lst (pa_cons pe_str pa_nil)) (pv 1)))) (by rfl))
    case' b13s16x => refine' ps_for PassesOwn.never rfl (pi_range2 (by rfl) T.n_range (pa_cons pe_int (pa_cons (pe_callB call_len_seq (by rfl) T.n_len PySem.boot_len (pa_cons (pv 0) pa_nil)) pa_nil))) (pg_name (i := 10) sc_law.nd rfl (Or.inl rfl)) ?b13s16b
    case' b13s16b => refine' pss_cons ?b15s0x ?b15sr0x
    case' b15sr0x => refine' pss_one ?b15s1x
    case' b15s0x => exact (ps_set (i := 11) sc_law.nd rfl (Or.inl rfl) (pe_ix ix_list (pv 0) (pe_op op_sub (pe_op op_add (pe_callB call_len_seq (by rfl) T.n_len PySem.boot_len (pa_cons (pv 0) pa_nil)) pe_int) (pv 10)) (fun _ _ => rfl)))
    case' b15s1x => exact (ps_if (pt_not (pt_val (pe_call (ok_l_moved T) (hr.mono (by decide) : Room 9 _) (by rfl) T.m_l_moved T.F_l_moved.kp T.b_l_moved .nil pass0 (pa_cons (pv 8) (pa_cons (pv 6) (pa_cons (pe_ix ix_list (pv 0) (pv 10) (fun _ _ => rfl)) (pa_cons (pv 11) (pa_cons (pv 10) pa_nil)))))))) (pss_one (ps_ret pe_bl)) pss_nil)
    case' b13s17x => exact (ps_set (i := 12) sc_law.nd rfl (Or.inl rfl) pe_int)
    case' b13s18x => refine' ps_while PassesOwn.never (PW.pt (pw_and (pt_cmpR (op_neNils hr.units) (pe_dget hu (pv 8) pe_str (fun _ _ => rfl)) (pe_comp (compScope (xs := ["_law_k"]) (ys := []) (js := []) rfl (by decide +kernel) (by decide +kernel) (by decide +kernel) (by rfl) trivial) rfl (pi_range1 (by rfl) T.n_range (pa_cons (pv 2) pa_nil)) (fun _ _ _ _ _ => (pg_name (i := 0) (show List.Nodup ((["_law_k"] : List Str) ++ ([] : List Str) : List Str) by decide +kernel) rfl (Or.inl rfl))) (fun _ _ _ _ _ => pif_nil) (fun _ _ _ _ _ => (pe_lst pa_nil))) (nomark _)) (pw_and1 (pt_cmpR op_lt (pv 12) (pe_op op_mul pe_int (pv 2)) (nomark _))))) ?b13s18b
    case' b13s18b => refine' pss_cons ?b16s0x ?b16sr0x
    case' b16sr0x => refine' pss_cons ?b16s1x ?b16sr1x
    case' b16sr1x => refine' pss_one ?b16s2x
    case' b16s0x => exact (ps_set (i := 13) sc_law.nd rfl (Or.inl rfl) (pe_op op_mod (pv 12) (pv 2)))
    case' b16s1x => exact (ps_if (PW.pt (pw_and (pt_cmpR (op_neNil hr.units0) (pe_ix ix_list (pe_dget hu (pv 8) pe_str (fun _ _ => rfl)) (pv 13) (fun _ _ => rfl)) (pe_lst pa_nil) (nomark _)) (pw_and1 (pt_not (pt_val (pe_call (ok_l_taken T) (hr.mono (by decide) : Room 8 _) (by rfl) T.m_l_taken T.F_l_taken.kp T.b_l_taken .nil pass0 (pa_cons (pv 8) (pa_cons (pv 6) (pa_cons (pv 13) (pa_cons (pe_op op_add pe_int (pv 12)) pa_nil)))))))))) (pss_one (ps_ret pe_bl)) pss_nil)
    case' b16s2x => exact (ps_set (i := 12) sc_law.nd rfl (Or.inl rfl) (pe_op op_add (pv 12) pe_int))
    case' b13s19x => exact (ps_if (pt_cmpR (op_neSame hr.units0) (pv 5) (pv 7) (nomark _)) (pss_one (ps_ret pe_bl)) pss_nil)
    case' b13s20x => exact (ps_ret (pe_and (pe_cmpR (op_eqNils hr.units) (pe_dget hu (pv 8) pe_str (fun _ _ => rfl)) (pe_comp (compScope (xs := ["_law_k"]) (ys := []) (js := []) rfl (by decide +kernel) (by decide +kernel) (by decide +kernel) (by rfl) trivial) rfl (pi_range1 (by rfl) T.n_range (pa_cons (pv 2) pa_nil)) (fun _ _ _ _ _ => (pg_name (i := 0) (show List.Nodup ((["_law_k"] : List Str) ++ ([] : List Str) : List Str) by decide +kernel) rfl (Or.inl rfl))) (fun _ _ _ _ _ => pif_nil) (fun _ _ _ _ _ => (pe_lst pa_nil))) (nomark _)) (pe_one (pe_cmpR op_notIn_seq pe_bl (pe_dget hu (pv 8) pe_str (fun _ _ => rfl)) (by rfl)))))
    try dsimp only [cxOf, Cx.nox]
    show let Z1 : L2.TS := _; let Z2 : L2.TS := _; let Z3 : L2.TS := _; let Z4 : L2.TS := _; let Z5 : L2.TS := _; let Z6 : L2.TS := _; let Z7 : L2.TS := _; let Z8 : L2.TS := tIfS _ Z7 tNext; let Z9 : L2.TS := _; let Z10 : L2.TS := _; let Z11 : L2.TS := _; let Z12 : L2.TS := _; let Z13 : L2.TS := _; let Z14 : L2.TS := _; let Z15 : L2.TS := _; let Z16 : L2.TS := _; let Z17 : L2.TS := _; let Z18 : L2.TS := tFor _ _ Z17; let Z19 : L2.TS := _; let Z20 : L2.TS := _; let Z21 : L2.TS := tIfS _ Z20 tNext; let Z22 : L2.TS := tSeq Z19 (Z21); let Z23 : L2.TS := tFor _ _ Z22; let Z24 : L2.TS := _; let Z25 : L2.TS := _; let Z26 : L2.TS := _; let Z27 : L2.TS := tIfS _ Z26 tNext; let Z28 : L2.TS := _; let Z29 : L2.TS := tSeq Z25 (tSeq Z27 (Z28)); let Z30 : L2.TS := tWhile _ Z29; let Z31 : L2.TS := _; let Z32 : L2.TS := tIfS _ Z31 tNext; let Z33 : L2.TS := _; let D0 : Ends := _; (tSeq Z1 (tSeq Z2 (tSeq Z3 (tSeq Z4 (tSeq Z5 (tSeq Z6 (tSeq Z8 (tSeq Z9 (tSeq Z10 (tSeq Z11 (tSeq Z12 (tSeq Z13 (tSeq Z14 (tSeq Z15 (tSeq Z16 (tSeq Z18 (tSeq Z23 (tSeq Z24 (tSeq Z30 (tSeq Z32 (Z33))))))))))))))))))))) D0 _ _
    intro Z1 Z2 Z3 Z4 Z5 Z6 Z7 Z8 Z9 Z10 Z11 Z12 Z13 Z14 Z15 Z16 Z17 Z18 Z19 Z20 Z21 Z22 Z23 Z24 Z25 Z26 Z27 Z28 Z29 Z30 Z31 Z32 Z33 D0
    -- wide
    refine ⟨_, rfl, a, _, rfl, .inl ha, _, _, rfl, rfl, _, rfl, iteFb (decide_eq_false (by rw [List.length_map]; lia)) ?_⟩
    obtain ⟨cells, hcut, _⟩ := cut_ints ns none (some 1)
    refine ⟨_, rfl, _, rfl, a, _, rfl, ha, fun l0 hl0 => ?_⟩
    have s0 := same_new (o := .lst (cutV (ns.map V.int) none (some 1))) hl0
    have hl01 : upd H l0 (.lst (cutV (ns.map V.int) none (some 1))) l0 = some (.lst (cells.map V.int)) := by rw [upd_same, hcut]
    generalize upd H l0 (.lst (cutV (ns.map V.int) none (some 1))) = H1 at s0 hl01
    have ha1 := SqL.same ha s0
    refine ⟨l0, cells, rfl, SqL.of hl01, fun kz => ⟨_, _, rfl, rfl, (show (0 : Int) < 32 by decide), rfl, .inr ⟨_, rfl, ?_⟩⟩⟩
    obtain ⟨wv, hwv, ewv⟩ : ∃ wv : Nat, wv ≤ 1 ∧ (if decide (V.int (kz % 32) = V.int 9) = true then (1 : Int) else 0) = (wv : Int) := by
      by_cases e : decide (V.int (kz % 32) = V.int 9) = true
      · exact ⟨1, by lia, by rw [if_pos e]; rfl⟩
      · exact ⟨0, by lia, by rw [if_neg e]; rfl⟩
    dsimp only
    rw [ewv]
    -- count, pages
    refine ⟨_, rfl, a, ns, 0, rfl, ha1, by decide, fun z1 => ⟨_, _, rfl, rfl, (show (0 : Int) < 3 by decide), _, _, rfl, rfl, _, rfl, _, _, rfl, rfl, .inl ⟨by decide, by decide⟩, _, _, rfl, rfl, ?_⟩⟩
    obtain ⟨n, hn0, hn8, en⟩ : ∃ n : Nat, 0 < n ∧ n ≤ 8 ∧ 1 + z1 % 3 + 5 * (wv : Int) = n := ⟨(1 + z1 % 3 + 5 * (wv : Int)).toNat, by lia, by lia, by lia⟩
    dsimp only
    rw [en]
    refine ⟨_, rfl, a, ns, 0, rfl, ha1, by decide, fun z2 => ⟨_, _, rfl, rfl, ⟨by decide, by decide⟩, _, _, rfl, rfl, (show (0 : Int) < 2 by decide), _, _, rfl, rfl, _, rfl, _, _, rfl, rfl, .inl ⟨by decide, by decide⟩, _, _, rfl, rfl, ?_⟩⟩
    obtain ⟨m, hm0, hm5, em⟩ : ∃ m : Nat, 0 < m ∧ m ≤ 5 ∧ 1 + z2 / 3 % 2 + 3 * (wv : Int) = m := ⟨(1 + z2 / 3 % 2 + 3 * (wv : Int)).toNat, by lia, by lia, by lia⟩
    dsimp only
    rw [em]
    -- numbers
    refine ⟨_, rfl, (m : Int), rfl, (by lia), (by lia), fun nl hnl => ?_⟩
    rw [Int.toNat_natCast]
    let PV1 : Nat → List V → St → Hp → Prop := fun i zs σ' H' => (∃ o, σ' = [o, some (.ref a)]) ∧ Same H1 H' ∧ H' nl = some (.lst zs) ∧ ∃ ks : List Int, ks.length = i ∧ zs = ks.map V.int
    refine comp_range PV1 ?_ ?_ ?_ ?_
    · exact ⟨⟨_, rfl⟩, same_new hnl, upd_same, [], rfl, rfl⟩
    · rintro i zs σ' H' _ ⟨_, _, h, _⟩; exact h
    · rintro i zs σ' H' hi ⟨⟨o, rfl⟩, s', ha', ks, hk, rfl⟩
      refine gYes_if ⟨_, rfl, a, ns, 1, rfl, SqL.same ha1 s', by decide, fun y => ⟨_, _, rfl, rfl, (show (0 : Int) < 30 by decide), _, _, rfl, rfl, _, rfl, _, _, rfl, rfl, .inl ⟨by decide, by decide⟩, _, _, rfl, rfl, ?_⟩⟩
      refine CStep.mk hi ha' (by rw [List.length_map]; lia) ⟨⟨_, rfl⟩, same_upd s' hnl, upd_same, ks ++ [y % 30 - 9 + 100 * (0 + (i : Int))], by rw [List.length_append, hk]; rfl, by rw [List.map_append]; rfl⟩
    rintro zs σ' H2 ⟨_, s2, hnl2, nums, hnum, rfl⟩
    have s02 := s0.trans s2
    -- ones
    refine ⟨_, rfl, nl, _, rfl, .inl (SqL.of hnl2), fun ol hol => ?_⟩
    have s3 := same_new (o := .lst (nums.map V.int)) hol
    have hol3 : upd H2 ol (.lst (nums.map V.int)) ol = some (.lst (nums.map V.int)) := upd_same
    generalize upd H2 ol (.lst (nums.map V.int)) = H3 at s3 hol3
    have hnl3 := s3 _ _ hnl2
    have hol0 : H ol = none := Same.free s02 hol
    have nno : nl ≠ ol := ne_of_none hnl2 hol
    -- the hall
    refine ⟨_, rfl, fun p dx hp hdx hne => ⟨p, dx, ol, nums, rfl, upd_same, ?_, by lia, fun B H4 eh nh HB fr4 lv4 => ⟨rfl, ?_⟩⟩⟩
    · rw [upd_ne (ne_of_none hol3 hp), upd_ne (ne_of_none hol3 hdx)]; exact hol3
    obtain ⟨s4, n4⟩ := hall_new hp hdx hne eh nh fr4
    subst eh
    rw [hnum] at HB n4
    have hol4 := s4 _ _ hol3
    have hnl4 := s4 _ _ hnl3
    have s04 := (s02.trans s3).trans s4
    have nB0 : ∀ b, FH B m b → H b = none := fun b z => Same.free (s02.trans s3) (n4 b z)
    have oB : ¬ FH B m ol := fun z => by rw [n4 ol z] at hol3; cases hol3
    have alvB : ∀ b, FH B m b → ∃ o, H4 b = some o := fun b ⟨x, hx, e⟩ => by obtain ⟨o, h, _⟩ := HB.live x hx; exact ⟨o, by rw [e]; exact h⟩
    clear hp hdx hne nh fr4 lv4 n4 s3 s4 hol3 hnl3 hnl2 s2 hnl hol
    refine ⟨_, rfl, _, rfl, ol, nl, _, rfl, rfl, .inl ⟨SqL.of hol4, SqL.of hnl4⟩, (ints_refl nums).1, (ints_refl nums).2, _, rfl, iteFb rfl ?_⟩
    obtain ⟨y0, hy0⟩ := atInt (ns := nums) (k := 0) (by decide) (by lia)
    have hlm : (nums.map V.int).length = m := by rw [List.length_map, hnum]
    refine ⟨_, rfl, ol, _, _, _, rfl, rfl, SqL.of hol4, hy0, _, _, rfl, rfl, _, rfl, ol, _, _, 0, rfl, rfl, hol4, ?_, ?_⟩
    · unfold ixN; rw [if_pos (by decide), if_pos (by lia)]; rfl
    have k5 : Kp (fun b => b = ol) H4 (upd H4 ol (.lst ((nums.map V.int).set 0 (.int (y0 + 7))))) := fun b o e z => by rw [upd_ne z]; exact e
    have t5 : TupSame H4 (upd H4 ol (.lst ((nums.map V.int).set 0 (.int (y0 + 7))))) := tup_lst hol4
    have hol5 : upd H4 ol (.lst ((nums.map V.int).set 0 (.int (y0 + 7)))) ol = some (.lst ((nums.set 0 (y0 + 7)).map V.int)) := by rw [upd_same, List.map_set]
    have hlo : (nums.set 0 (y0 + 7)).length = m := by rw [List.length_set, hnum]
    generalize upd H4 ol (.lst ((nums.map V.int).set 0 (.int (y0 + 7)))) = H5 at k5 t5 hol5
    generalize nums.set 0 (y0 + 7) = on at hol5 hlo
    refine ⟨_, rfl, .inl ⟨rfl, _, SqL.of hol5⟩, ol, _, .int 5, rfl, rfl, hol5, by rw [List.length_map]; lia, ?_⟩
    have k6' : Kp (fun b => b = ol) H4 (upd H5 ol (.lst (on.map V.int ++ [.int 5]))) := fun b o e z => by rw [upd_ne z]; exact k5 b o e z
    have t6 : TupSame H4 (upd H5 ol (.lst (on.map V.int ++ [.int 5]))) := t5.trans (tup_lst hol5)
    have hol6 : upd H5 ol (.lst (on.map V.int ++ [.int 5])) ol = some (.lst ((on ++ [5]).map V.int)) := by rw [upd_same, List.map_append]; rfl
    generalize upd H5 ol (.lst (on.map V.int ++ [.int 5])) = H6 at k6' t6 hol6
    generalize on ++ [5] = os at hol6
    have HB6 : HallAt t.C_Hall t.C_PageLoans H6 B m (pg0 nums) := HB.keep t6 fun x hx o e => k6' _ o e fun z => oB ⟨x, hx, z.symm⟩
    have hnl6 := k6' _ _ hnl4 nno
    have s06 : Same H H6 := Same.kp s04 k6' fun b z => by rw [z]; exact hol0
    clear k5 t5 hol5 k6' t6 hol4 hnl4 s04 HB hy0 alvB
    -- kept
    refine ⟨_, rfl, ol, _, rfl, .inl (SqL.of hol6), fun kl hkl => ?_⟩
    have s7 := same_new (o := .lst (os.map V.int)) hkl
    have hkl7 : upd H6 kl (.lst (os.map V.int)) kl = some (.lst (os.map V.int)) := upd_same
    have kB : ¬ FH B m kl := fun ⟨x, hx, e⟩ => by obtain ⟨o, h, _⟩ := HB6.live x hx; rw [← e, hkl] at h; cases h
    generalize upd H6 kl (.lst (os.map V.int)) = H7 at s7 hkl7
    have HB7 := HB6.same s7
    have hol7 := s7 _ _ hol6
    have hnl7 := s7 _ _ hnl6
    have s07 := s06.trans s7
    clear s7 HB6 hol6 hnl6 s06 hkl
    -- the play's dict
    refine fun pl hpl => ⟨_, rfl, _, rfl, _, rfl, nl, _, rfl, .inl (SqL.of (same_new hpl _ _ hnl7)), fun la hla => ?_⟩
    have npl : pl ≠ la := fun z => by rw [← z, upd_same] at hla; cases hla
    refine ⟨by rw [upd_ne npl, upd_same], v3 n m la, rfl, (by show 3 ≤ 15; decide), ?_⟩
    rw [v3_merge]
    have G0 : Stg8 n m nums H7 (upd (upd (upd H7 pl (.dK [])) la (.lst (nums.map V.int))) pl (.dK (v3 n m la))) (B0 pl la) k0 (v3 n m la) := by
      refine ⟨same_upd ((same_new hpl).trans (same_new hla)) hpl, fun x y hx hy e => ?_, fun x hx => ?_, fun x hx h1 => ?_, .inl rfl, upd_same⟩
      · rcases hx with rfl | rfl <;> rcases hy with rfl | rfl
        · rfl
        · exact absurd e npl
        · exact absurd e.symm npl
        · rfl
      · rcases hx with rfl | rfl
        · exact hpl
        · exact Lv.upd _ hla
      · rcases hx with rfl | rfl
        · exact absurd rfl h1
        · show upd _ pl _ la = _; rw [upd_ne npl.symm, upd_same]; rfl
    generalize upd (upd (upd H7 pl (.dK [])) la (.lst (nums.map V.int))) pl (.dK (v3 n m la)) = P0 at G0
    clear hla npl
    have nb : -(2 ^ 62) ≤ ((n : Nat) : Int) ∧ ((n : Nat) : Int) < 2 ^ 62 := ⟨by lia, by lia⟩
    -- asked
    refine ⟨(by show 1 ≤ sizeLine; decide), fun q0 hq0 => ⟨_, rfl, q0, (n : Int), [.non], rfl, rfl, upd_same, (by lia), (by lia), ?_, fun aa haa => ?_⟩⟩
    · rw [Int.toNat_natCast]; simp only [List.length_singleton]; lia
    rw [Int.toNat_natCast, one_rep]
    have s8 := (same_new (o := .lst [.non]) hq0).trans (same_new (o := .lst (List.replicate n .non)) haa)
    refine ⟨_, rfl, pl, _, rfl, dput (a := pl) (show _ = some (.dK _) from s8 _ _ G0.tw) (by show 3 < sizeLine; decide) v4_put, ?_⟩
    have G1 := G0.more (A' := B1 (B0 pl la) aa) (new := fun x => x = .asked) (kv' := v3 n m la ++ [(ks "asked", .ref aa)]) s8 (fun x hx => by rcases hx with rfl | rfl <;> rfl) (fun x hx => by rcases hx with rfl | rfl <;> rfl)
      (fun x hx => by subst hx; exact ⟨Lv.upd _ haa, upd_same⟩) (fun x y hx hy _ => by rw [hx, hy])
    have G1' : Stg8 n m nums H7 (upd (upd (upd P0 q0 (.lst [.non])) aa (.lst (List.replicate n .non))) pl (.dK (v3 n m la ++ [(ks "asked", .ref aa)]))) (B1 (B0 pl la) aa) k1 _ := G1
    generalize upd (upd (upd P0 q0 (.lst [.non])) aa (.lst (List.replicate n .non))) pl (.dK (v3 n m la ++ [(ks "asked", .ref aa)])) = P1 at G1'
    clear G0 G1 s8 hq0 haa
    -- waits
    refine ⟨(by show 1 ≤ sizeLine; decide), fun q0 hq0 => ⟨_, rfl, q0, (n : Int), [.bl false], rfl, rfl, upd_same, (by lia), (by lia), ?_, fun wa hwa => ?_⟩⟩
    · rw [Int.toNat_natCast]; simp only [List.length_singleton]; lia
    rw [Int.toNat_natCast, one_rep]
    have s8 := (same_new (o := .lst [.bl false]) hq0).trans (same_new (o := .lst (List.replicate n (.bl false))) hwa)
    refine ⟨_, rfl, pl, _, rfl, dput (a := pl) (show _ = some (.dK _) from s8 _ _ G1'.tw) (by show 4 < sizeLine; decide) v5_put, ?_⟩
    have G2 := G1'.more (A' := B2 (B1 (B0 pl la) aa) wa) (new := fun x => x = .waits) (kv' := v3 n m la ++ [(ks "asked", .ref aa), (ks "waits", .ref wa)]) s8 (fun x hx => by rcases hx with (rfl | rfl) | rfl <;> rfl) (fun x hx => by rcases hx with (rfl | rfl) | rfl <;> rfl)
      (fun x hx => by subst hx; exact ⟨Lv.upd _ hwa, upd_same⟩) (fun x y hx hy _ => by rw [hx, hy])
    have G2' : Stg8 n m nums H7 (upd (upd (upd P1 q0 (.lst [.bl false])) wa (.lst (List.replicate n (.bl false)))) pl (.dK (v3 n m la ++ [(ks "asked", .ref aa), (ks "waits", .ref wa)]))) (B2 (B1 (B0 pl la) aa) wa) k2 _ := G2
    generalize upd (upd (upd P1 q0 (.lst [.bl false])) wa (.lst (List.replicate n (.bl false)))) pl (.dK (v3 n m la ++ [(ks "asked", .ref aa), (ks "waits", .ref wa)])) = P2 at G2'
    clear G1' G2 s8 hq0 hwa
    -- roads
    refine ⟨_, rfl, (n : Int), rfl, nb.1, nb.2, fun ra hra => ?_⟩
    rw [Int.toNat_natCast]
    refine comp_new (c := []) (fun σ' => ∃ o, σ' = [o]) ⟨_, rfl⟩ hra (by lia) (fun i σ' h => by obtain ⟨o, rfl⟩ := h; exact ⟨_, rfl⟩) (fun σ' H' R ⟨o, e⟩ s' hR => ?_) (fun f3 P3 s8 ha3 hf3 inj3 => ?_)
    · exact ⟨(by show 0 ≤ sizeLine; decide), fun z hz => hR z _ hz (same_new hz) upd_same⟩
    refine ⟨_, rfl, pl, _, rfl, dput (a := pl) (show _ = some (.dK _) from s8 _ _ G2'.tw) (by show 5 < sizeLine; decide) v6_put, ?_⟩
    have G3 := G2'.more (A' := B3 (B2 (B1 (B0 pl la) aa) wa) ra f3) (new := fun x => x = .roads ∨ ∃ d, d < n ∧ x = .road d) (kv' := v3 n m la ++ [(ks "asked", .ref aa), (ks "waits", .ref wa), (ks "roads", .ref ra)]) s8 (fun x hx => by rcases hx with ((rfl | rfl) | rfl) | rfl <;> rfl) (fun x hx => by rcases hx with ((rfl | rfl) | rfl) | rfl <;> rfl)
      (fun x hx => by
        rcases hx with rfl | ⟨d, hd, rfl⟩
        · exact ⟨hra, ha3⟩
        · exact ⟨(hf3 d hd).1, (hf3 d hd).2.2⟩)
      (fun x y hx hy e => by
        rcases hx with rfl | ⟨d, hd, rfl⟩ <;> rcases hy with rfl | ⟨d', hd', rfl⟩
        · rfl
        · exact absurd e.symm (hf3 d' hd').2.1
        · exact absurd e (hf3 d hd).2.1
        · rw [inj3 d d' hd hd' e])
    have G3' : Stg8 n m nums H7 (upd P3 pl (.dK (v3 n m la ++ [(ks "asked", .ref aa), (ks "waits", .ref wa), (ks "roads", .ref ra)]))) (B3 (B2 (B1 (B0 pl la) aa) wa) ra f3) (k3 n) _ := G3
    generalize upd P3 pl (.dK (v3 n m la ++ [(ks "asked", .ref aa), (ks "waits", .ref wa), (ks "roads", .ref ra)])) = P3' at G3'
    clear G2' G3 s8 hra ha3 hf3 inj3
    -- bids
    refine ⟨_, rfl, (n : Int), rfl, nb.1, nb.2, fun ba hba => ?_⟩
    rw [Int.toNat_natCast]
    refine comp_new (c := []) (fun σ' => ∃ o, σ' = [o]) ⟨_, rfl⟩ hba (by lia) (fun i σ' h => by obtain ⟨o, rfl⟩ := h; exact ⟨_, rfl⟩) (fun σ' H' R ⟨o, e⟩ s' hR => ?_) (fun f4 P4 s8 ha4 hf4 inj4 => ?_)
    · exact ⟨(by show 0 ≤ sizeLine; decide), fun z hz => hR z _ hz (same_new hz) upd_same⟩
    refine ⟨_, rfl, pl, _, rfl, dput (a := pl) (show _ = some (.dK _) from s8 _ _ G3'.tw) (by show 6 < sizeLine; decide) v7_put, ?_⟩
    have G4 := G3'.more (A' := B4 (B3 (B2 (B1 (B0 pl la) aa) wa) ra f3) ba f4) (new := fun x => x = .bids ∨ ∃ d, d < n ∧ x = .bid d) (kv' := v3 n m la ++ [(ks "asked", .ref aa), (ks "waits", .ref wa), (ks "roads", .ref ra), (ks "bids", .ref ba)]) s8 (fun x hx => by rcases hx with (((rfl | rfl) | rfl) | rfl) | rfl | ⟨d, _, rfl⟩ <;> rfl) (fun x hx => by rcases hx with (((rfl | rfl) | rfl) | rfl) | rfl | ⟨d, _, rfl⟩ <;> rfl)
      (fun x hx => by
        rcases hx with rfl | ⟨d, hd, rfl⟩
        · exact ⟨hba, ha4⟩
        · exact ⟨(hf4 d hd).1, (hf4 d hd).2.2⟩)
      (fun x y hx hy e => by
        rcases hx with rfl | ⟨d, hd, rfl⟩ <;> rcases hy with rfl | ⟨d', hd', rfl⟩
        · rfl
        · exact absurd e.symm (hf4 d' hd').2.1
        · exact absurd e (hf4 d hd).2.1
        · rw [inj4 d d' hd hd' e])
    have G4' : Stg8 n m nums H7 (upd P4 pl (.dK (v3 n m la ++ [(ks "asked", .ref aa), (ks "waits", .ref wa), (ks "roads", .ref ra), (ks "bids", .ref ba)]))) (B4 (B3 (B2 (B1 (B0 pl la) aa) wa) ra f3) ba f4) (k4 n) _ := G4
    generalize upd P4 pl (.dK (v3 n m la ++ [(ks "asked", .ref aa), (ks "waits", .ref wa), (ks "roads", .ref ra), (ks "bids", .ref ba)])) = P4' at G4'
    clear G3' G4 s8 hba ha4 hf4 inj4
    -- known, rights
    refine ⟨(by show 2 ≤ sizeLine; decide), fun wl hwl => ⟨wl, rfl, ⟨_, SqL.of upd_same⟩, ?_⟩⟩
    have G4w := G4'.same (same_new (o := .lst [.str "known", .str "rights"]) hwl)
    have hwl4 : upd P4' wl (.lst [.str "known", .str "rights"]) wl = some (.lst [.str "known", .str "rights"]) := upd_same
    have nwp : wl ≠ pl := fun z => by rw [z] at hwl; rw [show P4' pl = _ from G4'.tw] at hwl; cases hwl
    generalize upd P4' wl (.lst [.str "known", .str "rights"]) = P5 at G4w hwl4
    clear G4' hwl
    have row : ∀ (σ : St) (H' : Hp) (R : VK), (∃ o, σ = [o, some (.int m)]) → (∀ l H'', H' l = none → Same H' H'' → H'' l = some (.lst (List.replicate m (.str "none"))) → R (.ref l) H'') → (tOp rRep (tLst (tCons (tC (.str "none")) tNil)) (tVar 1)) σ H' R := fun σ H' R ho hR => by
      obtain ⟨o, rfl⟩ := ho
      refine ⟨(by show 1 ≤ sizeLine; decide), fun q hq => ⟨_, rfl, q, (m : Int), [.str "none"], rfl, rfl, upd_same, (by lia), (by lia), ?_, fun z hz => ?_⟩⟩
      · rw [Int.toNat_natCast]; simp only [List.length_singleton]; lia
      · rw [Int.toNat_natCast, one_rep]
        exact hR z _ (Lv.upd _ hz) ((same_new hq).trans (same_new hz)) upd_same
    refine for_list (xs := [.str "known", .str "rights"]) (fun i σ' H' => H' wl = some (.lst [.str "known", .str "rights"]) ∧ ∃ o9, σ' = [some (.ref a), some (.int wv), some (.int n), some (.int m), some (.ref nl), some (.ref ol), some (.ref (B .hall)), some (.ref kl), some (.ref pl), o9, none, none, none, none] ∧ match i with
      | 0 => Stg8 n m nums H7 H' (B4 (B3 (B2 (B1 (B0 pl la) aa) wa) ra f3) ba f4) (k4 n) (v3 n m la ++ [(ks "asked", .ref aa), (ks "waits", .ref wa), (ks "roads", .ref ra), (ks "bids", .ref ba)])
      | 1 => ∃ ka f5, Stg8 n m nums H7 H' (B5 (B4 (B3 (B2 (B1 (B0 pl la) aa) wa) ra f3) ba f4) ka f5) (k5 n) (v3 n m la ++ [(ks "asked", .ref aa), (ks "waits", .ref wa), (ks "roads", .ref ra), (ks "bids", .ref ba), (ks "known", .ref ka)])
      | _ => ∃ ka f5 ia f6, Stg8 n m nums H7 H' (B6 (B5 (B4 (B3 (B2 (B1 (B0 pl la) aa) wa) ra f3) ba f4) ka f5) ia f6) (k6 n) (v3 n m la ++ [(ks "asked", .ref aa), (ks "waits", .ref wa), (ks "roads", .ref ra), (ks "bids", .ref ba), (ks "known", .ref ka), (ks "rights", .ref ia)])) ?_ ?_ ?_ ?_
    · exact ⟨hwl4, _, rfl, G4w⟩
    · rintro i σ' H' _ ⟨h, _⟩
      exact SqL.of h
    · rintro i y σ' H' hy ⟨hw', o9, rfl, G⟩
      cases i with
      | zero =>
        have hy' := Option.some.inj hy
        subst hy'
        refine ⟨_, rfl, (n : Int), rfl, nb.1, nb.2, fun ka hka => ?_⟩
        rw [Int.toNat_natCast]
        refine comp_new (c := List.replicate m (.str "none")) (fun σ' => ∃ o, σ' = [o, some (.int m)]) ⟨_, rfl⟩ hka (by lia) (fun i σ' h => by obtain ⟨o, rfl⟩ := h; exact ⟨_, rfl⟩) (fun σ' H' R ho s' hR => row σ' H' R ho hR) (fun f5 Q5 s8 ha5 hf5 inj5 => ?_)
        refine ⟨_, rfl, _, rfl, pl, _, rfl, dput (a := pl) (show _ = some (.dK _) from s8 _ _ G.tw) (by show 7 < sizeLine; decide) v8_put, ?_⟩
        refine ⟨by rw [upd_ne nwp]; exact s8 _ _ hw', _, rfl, ka, f5, ?_⟩
        exact G.more (A' := B5 (B4 (B3 (B2 (B1 (B0 pl la) aa) wa) ra f3) ba f4) ka f5) (new := fun x => x = .known ∨ ∃ d, d < n ∧ x = .kno d) s8 (fun x hx => by rcases hx with ((((rfl | rfl) | rfl) | rfl) | rfl | ⟨d, _, rfl⟩) | rfl | ⟨d, _, rfl⟩ <;> rfl) (fun x hx => by rcases hx with ((((rfl | rfl) | rfl) | rfl) | rfl | ⟨d, _, rfl⟩) | rfl | ⟨d, _, rfl⟩ <;> rfl)
          (fun x hx => by
            rcases hx with rfl | ⟨d, hd, rfl⟩
            · exact ⟨hka, ha5⟩
            · exact ⟨(hf5 d hd).1, (hf5 d hd).2.2⟩)
          (fun x y hx hy e => by
            rcases hx with rfl | ⟨d, hd, rfl⟩ <;> rcases hy with rfl | ⟨d', hd', rfl⟩
            · rfl
            · exact absurd e.symm (hf5 d' hd').2.1
            · exact absurd e (hf5 d hd).2.1
            · rw [inj5 d d' hd hd' e])
      | succ i =>
        cases i with
        | zero =>
          have hy' := Option.some.inj hy
          subst hy'
          obtain ⟨ka, f5, G⟩ := G
          refine ⟨_, rfl, (n : Int), rfl, nb.1, nb.2, fun ia hia => ?_⟩
          rw [Int.toNat_natCast]
          refine comp_new (c := List.replicate m (.str "none")) (fun σ' => ∃ o, σ' = [o, some (.int m)]) ⟨_, rfl⟩ hia (by lia) (fun i σ' h => by obtain ⟨o, rfl⟩ := h; exact ⟨_, rfl⟩) (fun σ' H' R ho s' hR => row σ' H' R ho hR) (fun f6 Q6 s8 ha6 hf6 inj6 => ?_)
          refine ⟨_, rfl, _, rfl, pl, _, rfl, dput (a := pl) (show _ = some (.dK _) from s8 _ _ G.tw) (by show 8 < sizeLine; decide) v9_put, ?_⟩
          refine ⟨by rw [upd_ne nwp]; exact s8 _ _ hw', _, rfl, ka, f5, ia, f6, ?_⟩
          exact G.more (A' := B6 (B5 (B4 (B3 (B2 (B1 (B0 pl la) aa) wa) ra f3) ba f4) ka f5) ia f6) (new := fun x => x = .rights ∨ ∃ d, d < n ∧ x = .rig d) s8 (fun x hx => by rcases hx with (((((rfl | rfl) | rfl) | rfl) | rfl | ⟨d, _, rfl⟩) | rfl | ⟨d, _, rfl⟩) | rfl | ⟨d, _, rfl⟩ <;> rfl) (fun x hx => by rcases hx with (((((rfl | rfl) | rfl) | rfl) | rfl | ⟨d, _, rfl⟩) | rfl | ⟨d, _, rfl⟩) | rfl | ⟨d, _, rfl⟩ <;> rfl)
            (fun x hx => by
              rcases hx with rfl | ⟨d, hd, rfl⟩
              · exact ⟨hia, ha6⟩
              · exact ⟨(hf6 d hd).1, (hf6 d hd).2.2⟩)
            (fun x y hx hy e => by
              rcases hx with rfl | ⟨d, hd, rfl⟩ <;> rcases hy with rfl | ⟨d', hd', rfl⟩
              · rfl
              · exact absurd e.symm (hf6 d' hd').2.1
              · exact absurd e (hf6 d hd).2.1
              · rw [inj6 d d' hd hd' e])
        | succ i => simp at hy
    rintro σ' H8 ⟨_, o9, rfl, ka, f5, ia, f6, G⟩
    obtain ⟨PA, nY⟩ := Stg8.play (A := B6 (B5 (B4 (B3 (B2 (B1 (B0 pl la) aa) wa) ra f3) ba f4) ka f5) ia f6) hnum G
    have s78 := G.sm
    have epl : pl = B6 (B5 (B4 (B3 (B2 (B1 (B0 pl la) aa) wa) ra f3) ba f4) ka f5) ia f6 .play := rfl
    rw [epl]
    generalize B6 (B5 (B4 (B3 (B2 (B1 (B0 pl la) aa) wa) ra f3) ba f4) ka f5) ia f6 = A at PA nY
    clear G G4w hwl4 nwp row epl hpl
    have L0 : LQ t.C_Hall t.C_PageLoans H H8 A B n m (PS0 nums) ol kl os := by
      refine ⟨⟨PA, HB7.same s78, fun b x y => ?_⟩, pinv0 n m (x0 nums), s07.trans s78, fun b z => z.elim (fun z => Same.free s07 (nY b z)) (nB0 b), s78 _ _ hol7, s78 _ _ hkl7, fun z => z.elim (fun z => ?_) oB, fun z => z.elim (fun z => ?_) kB⟩
      · obtain ⟨z, hz, e⟩ := y
        obtain ⟨o, h, _⟩ := HB7.live z hz
        rw [← e, nY b x] at h; cases h
      · rw [nY _ z] at hol7; cases hol7
      · rw [nY _ z] at hkl7; cases hkl7
    clear PA nY HB7 hol7 hkl7 hnl7 s78 s07 nB0 oB kB s02 s0 ha1 hl01
    generalize hhb : B .hall = hb at *
    generalize hap : A .play = ap at *
    -- the moves
    have hLm : (ns.map V.int).length = ns.length := List.length_map _
    refine ⟨_, rfl, a, _, rfl, .inl (SqL.same ha L0.sm), 2, _, rfl, ⟨by decide, by decide, by lia, by lia⟩, ?_⟩
    let PV2 : Nat → St → Hp → Prop := fun i σ' H' => (∃ o10 o11, σ' = [some (.ref a), some (.int wv), some (.int n), some (.int m), some (.ref nl), some (.ref ol), some (.ref hb), some (.ref kl), some (.ref ap), o9, o10, o11, none, none]) ∧ ∃ B S, B .hall = hb ∧ LQ t.C_Hall t.C_PageLoans H H' A B n m S ol kl os
    refine for_range PV2 ?_ ?_ ?_
    · exact ⟨⟨_, _, rfl⟩, B, _, hhb, L0⟩
    · rintro i σ' H' hi ⟨⟨o10, o11, rfl⟩, B', S, hB', L⟩
      have ha' := SqL.same ha L.sm
      obtain ⟨u1, hu1⟩ := atInt (ns := ns) (k := ((ns.map V.int).length : Int) + 1 - (2 + (i : Int))) (by lia) (by lia)
      obtain ⟨u2, hu2⟩ := atInt (ns := ns) (k := 2 + (i : Int)) (by lia) (by lia)
      refine ⟨_, rfl, _, rfl, a, _, rfl, .inl ha', _, _, rfl, rfl, _, rfl, _, _, rfl, rfl, a, _, _, _, rfl, rfl, ha', hu1, ?_⟩
      refine ⟨_, rfl, _, rfl, _, rfl, _, rfl, a, _, _, _, rfl, rfl, ha', hu2, _, rfl, _, rfl, A, B', n, m, S, u2, u1, 2 + (i : Int), by rw [hB', hap]; rfl, L.bo, hn0, hm0, by lia, by lia, L.iv, fun S' B'' H'' I' M' mo' => ⟨_, rfl, iteFb rfl ?_⟩⟩
      exact ⟨⟨_, _, rfl⟩, B'', S', mo'.hh.trans hB', L.go I' M' mo'⟩
    rintro σ' H9 ⟨⟨o10, o11, rfl⟩, B9, S9, hB9, L9⟩
    -- all letters are taken
    have hmu := L9.iv.mu_le
    have hmu' : PS.mu n m S9 ≤ 399 := by
      have h1 : n * (m + 1) ≤ 8 * 6 := Nat.mul_le_mul hn8 (by lia)
      have h2 : n * n ≤ 8 * 8 := Nat.mul_le_mul hn8 hn8
      have h3 : m * (n * n) ≤ 5 * (8 * 8) := Nat.mul_le_mul hm5 h2
      lia
    have nilsC : ∀ {te : TE} (H' : Hp) (acc : Addr) (R : VK), (∀ σ' H'' (R' : VK), (∀ l, H'' l = none → R' (.ref l) (upd H'' l (.lst []))) → te σ' H'' R') → H' acc = none → (∀ (f : Nat → Addr) H'', Same H' H'' → H'' acc = some (.lst ((List.range n).map fun d => V.ref (f d))) → (∀ d, d < n → H' (f d) = none ∧ f d ≠ acc ∧ H'' (f d) = some (.lst [])) → R (.ref acc) H'') → CompGo (Itr 0 n) (gName 0) tYes te [none] acc H' R := fun H' acc R hte hacc k =>
      comp_new (c := []) (fun σ' => ∃ o, σ' = [o]) ⟨_, rfl⟩ hacc (by lia) (fun i σ' h => by obtain ⟨o, rfl⟩ := h; exact ⟨_, rfl⟩) (fun σ' H' R ⟨o, e⟩ s' hR => hte _ _ _ fun z hz => hR z _ hz (same_new hz) upd_same) (fun f H'' s'' h1 h2 _ => k f H'' s'' h1 h2)
    try dsimp only [tNext]
    refine seq_via (fun σ' H' => σ' = [some (.ref a), some (.int wv), some (.int n), some (.int m), some (.ref nl), some (.ref ol), some (.ref hb), some (.ref kl), some (.ref ap), o9, o10, o11, some (.int ((0 : Nat) : Int)), none] ∧ H' = H9) (fun N hN => hN _ _ ⟨rfl, rfl⟩) ?_
    rintro σ' H9 ⟨rfl, rfl⟩
    try dsimp only [tNext]
    refine seq_via (fun σ' H' => (∃ o12 o13, σ' = [some (.ref a), some (.int wv), some (.int n), some (.int m), some (.ref nl), some (.ref ol), some (.ref hb), some (.ref kl), some (.ref ap), o9, o10, o11, o12, o13]) ∧ ∃ B S, LQ t.C_Hall t.C_PageLoans H H' A B n m S ol kl os ∧ ∀ d, d < n → S.ro d = []) (fun N hN => ?_) ?_
    · refine ⟨fun k σ' H' => ∃ B S, ∃ tt j : Nat, ∃ o13, σ' = [some (.ref a), some (.int wv), some (.int n), some (.int m), some (.ref nl), some (.ref ol), some (.ref hb), some (.ref kl), some (.ref ap), o9, o10, o11, some (.int tt), o13] ∧ B .hall = hb ∧ LQ t.C_Hall t.C_PageLoans H H' A B n m S ol kl os ∧ k = 400 * n - tt ∧ j ≤ tt ∧ (∀ i, tt - j ≤ i → i < tt → S.ro (i % n) = []) ∧ tt + n * PS.mu n m S ≤ n * 399 + j, ⟨_, B9, S9, 0, 0, none, rfl, hB9, L9, rfl, Nat.le_refl _, fun i h1 h2 => absurd h2 (by lia), ?_⟩, ?_⟩
      · have := Nat.mul_le_mul (Nat.le_refl n) hmu'; lia
      rintro k σ' H' ⟨B', S, tt, j, o13, rfl, hB', L, rfl, hj, hem, hpr⟩
      obtain ⟨rv, hrv⟩ := roads_of L.bo
      have ep := L.bo.pl.play
      rw [hap] at ep
      refine ⟨_, rfl, ap, _, rfl, dget ep pkv_roads, _, rfl, (n : Int), rfl, nb.1, nb.2, fun acc hacc => ?_⟩
      rw [Int.toNat_natCast]
      refine nilsC H' acc _ (fun σ' H'' R' hR => ⟨(by show 0 ≤ sizeLine; decide), fun z hz => hR z hz⟩) hacc fun f H1 s1 h1 h2 => ?_
      have L1 := L.same s1
      refine ⟨A .roads, acc, n, fun d => A (.road d), f, rv, rfl, rfl, SqL.of (s1 _ _ L.bo.pl.roads), SqL.of h1, fun i hi => ⟨SqL.of (s1 _ _ (hrv i hi).1), SqL.of (h2 i hi).2.2, ne_of_none (hrv i hi).1 (h2 i hi).1⟩, _, rfl, ?_⟩
      cases hE : (List.range n).all fun i => (rv i).isEmpty with
      | true =>
        refine iteFb rfl (iteF ?_)
        refine hN _ _ ⟨⟨_, _, rfl⟩, B', S, L1, fun d hd => ?_⟩
        have := List.all_eq_true.mp hE d (List.mem_range.mpr hd)
        rw [empty_of (hrv d hd).2] at this
        simpa using this
      | false =>
        have hjn : j < n := by
          rcases Nat.lt_or_ge j n with h | h
          · exact h
          · exfalso
            have hall := cover (P := fun d => S.ro d = []) hn0 h hj hem
            have : ((List.range n).all fun i => (rv i).isEmpty) = true := List.all_eq_true.mpr fun d hd => by
              have hd' := List.mem_range.mp hd
              rw [empty_of (hrv d hd').2, hall d hd']; rfl
            rw [hE] at this; cases this
        have htt : tt < 400 * n := by have : n * 399 + n = 400 * n := by lia
                                      lia
        refine iteTb rfl ?_
        refine ⟨_, rfl, _, rfl, _, _, rfl, rfl, .inl ⟨by decide, by decide⟩, _, _, rfl, rfl, _, rfl, iteTb (decide_eq_true (by lia)) ?_⟩
        refine ⟨fun σ' H' => ∃ B S, ∃ j : Nat, ∃ o13, σ' = [some (.ref a), some (.int wv), some (.int n), some (.int m), some (.ref nl), some (.ref ol), some (.ref hb), some (.ref kl), some (.ref ap), o9, o10, o11, some (.int ((tt + 1 : Nat) : Int)), o13] ∧ B .hall = hb ∧ LQ t.C_Hall t.C_PageLoans H H' A B n m S ol kl os ∧ j ≤ tt + 1 ∧ (∀ i, tt + 1 - j ≤ i → i < tt + 1 → S.ro (i % n) = []) ∧ (tt + 1) + n * PS.mu n m S ≤ n * 399 + j, ?_, ?_⟩
        · rintro σ' H' ⟨B2, S2, j2, o13', rfl, q1, q2, q3, q4, q5⟩
          exact ⟨400 * n - (tt + 1), by lia, B2, S2, tt + 1, j2, o13', rfl, q1, q2, rfl, q3, q4, q5⟩
        have ed : (tt : Int) % (n : Int) = ((tt % n : Nat) : Int) := by simp
        have hd : tt % n < n := Nat.mod_lt _ hn0
        refine ⟨_, rfl, _, rfl, _, _, rfl, rfl, (show (0 : Int) < n by lia), ?_⟩
        dsimp only
        rw [ed]
        generalize hdd : tt % n = d at *
        try dsimp only [tNext]
        refine seq_via (fun σ' H' => ∃ B S, ∃ j : Nat, σ' = [some (.ref a), some (.int wv), some (.int n), some (.int m), some (.ref nl), some (.ref ol), some (.ref hb), some (.ref kl), some (.ref ap), o9, o10, o11, some (.int tt), some (.int d)] ∧ B .hall = hb ∧ LQ t.C_Hall t.C_PageLoans H H' A B n m S ol kl os ∧ j ≤ tt + 1 ∧ (∀ i, tt + 1 - j ≤ i → i < tt + 1 → S.ro (i % n) = []) ∧ (tt + 1) + n * PS.mu n m S ≤ n * 399 + j) (fun N' hN' => ?_) ?_
        · have ep1 := L1.bo.pl.play
          rw [hap] at ep1
          refine ⟨_, rfl, ap, _, rfl, dget ep1 pkv_roads, _, rfl, A .roads, _, _, _, rfl, rfl, SqL.of L1.bo.pl.roads, range_at hd, (by show 0 ≤ sizeLine; decide), fun z2 hz2 => ⟨A (.road d), z2, rv d, rfl, rfl, SqL.of (same_new hz2 _ _ (s1 _ _ (hrv d hd).1)), SqL.of upd_same, _, rfl, ?_⟩⟩
          have L2 := L1.same (same_new (o := .lst []) hz2)
          have hre := empty_of (hrv d hd).2
          by_cases hro : S.ro d = []
          · rw [hro] at hre
            refine iteFb (by rw [if_pos rfl, hre]; rfl) (iteFb rfl ?_)
            refine hN' _ _ ⟨B', S, j + 1, rfl, hB', L2, by lia, fun i h1 h2 => ?_, by lia⟩
            by_cases e : i = tt
            · rw [e, hdd]; exact hro
            · exact hem i (by lia) (by lia)
          · have hne : (S.ro d).isEmpty = false := by cases e : S.ro d with
              | nil => exact absurd e hro
              | cons x y => rfl
            refine iteTb (by rw [if_pos rfl, hre, hne]; rfl) ?_
            obtain ⟨I', hm'⟩ := takeR_inv (50 + (tt : Int)) L.iv hro
            refine ⟨_, rfl, _, rfl, _, rfl, _, rfl, _, _, rfl, rfl, A, B', n, m, S, d, 50 + (tt : Int), by rw [hB', hap]; rfl, L2.bo, by lia, by lia, hd, L.iv, hro, fun B2 H2 M2 mo2 => ⟨_, rfl, iteFb rfl ?_⟩⟩
            refine hN' _ _ ⟨B2, S.takeR d (50 + (tt : Int)), 0, rfl, mo2.hh.trans hB', L2.go I' M2 mo2, Nat.zero_le _, fun i h1 h2 => absurd h2 (by lia), ?_⟩
            have := Nat.mul_le_mul (Nat.le_refl n) hm'
            rw [Nat.mul_add, Nat.mul_one] at this
            lia
        · rintro σ' H2 ⟨B2, S2, j2, rfl, q1, q2, q3, q4, q5⟩
          exact ⟨_, rfl, _, _, rfl, rfl, B2, S2, j2, _, rfl, q1, q2, q3, q4, q5⟩
    rintro σ' H10 ⟨⟨o12, o13, rfl⟩, B', S, L, hem⟩
    -- the end
    refine ⟨_, rfl, _, rfl, ol, kl, _, rfl, rfl, .inl ⟨SqL.of L.ho, SqL.of L.hk⟩, (ints_refl os).1, (ints_refl os).2, _, rfl, iteFb rfl ?_⟩
    obtain ⟨rv, hrv⟩ := roads_of L.bo
    have ep := L.bo.pl.play
    rw [hap] at ep
    refine ⟨_, rfl, ap, _, rfl, dget ep pkv_roads, _, rfl, (n : Int), rfl, nb.1, nb.2, fun acc hacc => ?_⟩
    rw [Int.toNat_natCast]
    refine nilsC H10 acc _ (fun σ' H'' R' hR => ⟨(by show 0 ≤ sizeLine; decide), fun z hz => hR z hz⟩) hacc fun f H1 s1 h1 h2 => ?_
    have L1 := L.same s1
    refine ⟨A .roads, acc, n, fun d => A (.road d), f, rv, rfl, rfl, SqL.of (s1 _ _ L.bo.pl.roads), SqL.of h1, fun i hi => ⟨SqL.of (s1 _ _ (hrv i hi).1), SqL.of (h2 i hi).2.2, ne_of_none (hrv i hi).1 (h2 i hi).1⟩, _, rfl, ?_⟩
    have hE : ((List.range n).all fun i => (rv i).isEmpty) = true := List.all_eq_true.mpr fun d hd => by
      have hd' := List.mem_range.mp hd
      rw [empty_of (hrv d hd').2, hem d hd']; rfl
    refine iteTb hE ?_
    have ep1 := L1.bo.pl.play
    rw [hap] at ep1
    refine ⟨_, rfl, ap, _, rfl, dget ep1 pkv_waits, A .waits, _, rfl, .inl (SqL.of L1.bo.pl.waits), rfl, ?_, ?_⟩
    · rw [List.all_eq_true]; intro z hz; obtain ⟨d, _, rfl⟩ := List.mem_map.mp hz; rfl
    · rw [if_pos rfl, quiet_waits (L.iv.quiet hem)]
      exact q _
end
end K07
namespace K07
open PySem L2
theorem all_mk {l : PySem.W.OpenLaw} {w : World} {K : PySem.W.Frag} {h : Heap} {mg : Str → Option Value} {fa : Addr} (X : K.In h) (G : h.Ns mainGlobals mg) (hfa : mg "law" = some (.ref fa))
    {C_PageLoans : Addr}
    {C_Hall : Addr}
    {f_lend_letter : Addr} {od_lend_letter an_lend_letter : Option Addr} {sl_lend_letter : Array (Option Value)} {oc_lend_letter kV_lend_letter dc_lend_letter pm_lend_letter cd_lend_letter ct_lend_letter : Value}
    {f_back_letter : Addr} {od_back_letter an_back_letter : Option Addr} {sl_back_letter : Array (Option Value)} {oc_back_letter kV_back_letter dc_back_letter pm_back_letter cd_back_letter ct_back_letter : Value}
    {f_PageLoans_init : Addr} {od_PageLoans_init an_PageLoans_init : Option Addr} {sl_PageLoans_init : Array (Option Value)} {oc_PageLoans_init kV_PageLoans_init dc_PageLoans_init pm_PageLoans_init cd_PageLoans_init ct_PageLoans_init : Value}
    {f_PageLoans_take_ask : Addr} {od_PageLoans_take_ask an_PageLoans_take_ask : Option Addr} {sl_PageLoans_take_ask : Array (Option Value)} {oc_PageLoans_take_ask kV_PageLoans_take_ask dc_PageLoans_take_ask pm_PageLoans_take_ask cd_PageLoans_take_ask ct_PageLoans_take_ask : Value}
    {f_PageLoans_take_answer : Addr} {od_PageLoans_take_answer an_PageLoans_take_answer : Option Addr} {sl_PageLoans_take_answer : Array (Option Value)} {oc_PageLoans_take_answer kV_PageLoans_take_answer dc_PageLoans_take_answer pm_PageLoans_take_answer cd_PageLoans_take_answer ct_PageLoans_take_answer : Value}
    {f_PageLoans_take_gave : Addr} {od_PageLoans_take_gave an_PageLoans_take_gave : Option Addr} {sl_PageLoans_take_gave : Array (Option Value)} {oc_PageLoans_take_gave kV_PageLoans_take_gave dc_PageLoans_take_gave pm_PageLoans_take_gave cd_PageLoans_take_gave ct_PageLoans_take_gave : Value}
    {f_PageLoans_serve : Addr} {od_PageLoans_serve an_PageLoans_serve : Option Addr} {sl_PageLoans_serve : Array (Option Value)} {oc_PageLoans_serve kV_PageLoans_serve dc_PageLoans_serve pm_PageLoans_serve cd_PageLoans_serve ct_PageLoans_serve : Value}
    {f_PageLoans_bids_for_first : Addr} {od_PageLoans_bids_for_first an_PageLoans_bids_for_first : Option Addr} {sl_PageLoans_bids_for_first : Array (Option Value)} {oc_PageLoans_bids_for_first kV_PageLoans_bids_for_first dc_PageLoans_bids_for_first pm_PageLoans_bids_for_first cd_PageLoans_bids_for_first ct_PageLoans_bids_for_first : Value}
    {f_PageLoans_lend : Addr} {od_PageLoans_lend an_PageLoans_lend : Option Addr} {sl_PageLoans_lend : Array (Option Value)} {oc_PageLoans_lend kV_PageLoans_lend dc_PageLoans_lend pm_PageLoans_lend cd_PageLoans_lend ct_PageLoans_lend : Value}
    {f_PageLoans_let_write : Addr} {od_PageLoans_let_write an_PageLoans_let_write : Option Addr} {sl_PageLoans_let_write : Array (Option Value)} {oc_PageLoans_let_write kV_PageLoans_let_write dc_PageLoans_let_write pm_PageLoans_let_write cd_PageLoans_let_write ct_PageLoans_let_write : Value}
    {f_PageLoans_let_read : Addr} {od_PageLoans_let_read an_PageLoans_let_read : Option Addr} {sl_PageLoans_let_read : Array (Option Value)} {oc_PageLoans_let_read kV_PageLoans_let_read dc_PageLoans_let_read pm_PageLoans_let_read cd_PageLoans_let_read ct_PageLoans_let_read : Value}
    {f_Hall_init : Addr} {od_Hall_init an_Hall_init : Option Addr} {sl_Hall_init : Array (Option Value)} {oc_Hall_init kV_Hall_init dc_Hall_init pm_Hall_init cd_Hall_init ct_Hall_init : Value}
    {f_Hall_take : Addr} {od_Hall_take an_Hall_take : Option Addr} {sl_Hall_take : Array (Option Value)} {oc_Hall_take kV_Hall_take dc_Hall_take pm_Hall_take cd_Hall_take ct_Hall_take : Value}
    {f_taken_by_hall : Addr} {od_taken_by_hall an_taken_by_hall : Option Addr} {sl_taken_by_hall : Array (Option Value)} {oc_taken_by_hall kV_taken_by_hall dc_taken_by_hall pm_taken_by_hall cd_taken_by_hall ct_taken_by_hall : Value}
    {f_l_whole : Addr} {od_l_whole an_l_whole : Option Addr} {sl_l_whole : Array (Option Value)} {oc_l_whole kV_l_whole dc_l_whole pm_l_whole cd_l_whole ct_l_whole : Value}
    {f_l_at : Addr} {od_l_at an_l_at : Option Addr} {sl_l_at : Array (Option Value)} {oc_l_at kV_l_at dc_l_at pm_l_at cd_l_at ct_l_at : Value}
    {f_l_is_down : Addr} {od_l_is_down an_l_is_down : Option Addr} {sl_l_is_down : Array (Option Value)} {oc_l_is_down kV_l_is_down dc_l_is_down pm_l_is_down cd_l_is_down ct_l_is_down : Value}
    {f_l_sent_right : Addr} {od_l_sent_right an_l_sent_right : Option Addr} {sl_l_sent_right : Array (Option Value)} {oc_l_sent_right kV_l_sent_right dc_l_sent_right pm_l_sent_right cd_l_sent_right ct_l_sent_right : Value}
    {f_l_told : Addr} {od_l_told an_l_told : Option Addr} {sl_l_told : Array (Option Value)} {oc_l_told kV_l_told dc_l_told pm_l_told cd_l_told ct_l_told : Value}
    {f_l_taken : Addr} {od_l_taken an_l_taken : Option Addr} {sl_l_taken : Array (Option Value)} {oc_l_taken kV_l_taken dc_l_taken pm_l_taken cd_l_taken ct_l_taken : Value}
    {f_l_moved : Addr} {od_l_moved an_l_moved : Option Addr} {sl_l_moved : Array (Option Value)} {oc_l_moved kV_l_moved dc_l_moved pm_l_moved cd_l_moved ct_l_moved : Value}
    {f_law : Addr} {od_law an_law : Option Addr} {sl_law : Array (Option Value)} {oc_law kV_law dc_law pm_law cd_law ct_law : Value}
    {u_NONE : Tok}
    {u_READ : Tok}
    {u_WRITE : Tok}
    (aC_PageLoans : PySem.W.nsIn K mainGlobals "PageLoans" = some (some (.ref C_PageLoans)))
    (aC_Hall : PySem.W.nsIn K mainGlobals "Hall" = some (some (.ref C_Hall)))
    (pg_PageLoans : PySem.W.plainGet K C_PageLoans Str.empty = true)
    (hd_PageLoans : PySem.W.hasDictIn K C_PageLoans = true)
    (po_PageLoans : PySem.W.plainOver K C_PageLoans = true)
    (sa_PageLoans : PySem.W.findIn K (.ref C_PageLoans) "__setattr__" = some (some (.builtin "object.__setattr__")))
    (mk_PageLoans : PySem.W.makesIn K C_PageLoans = true)
    (kc_PageLoans : PySem.W.keepIn K (.ref C_PageLoans) = true)
    (na_PageLoans_page : PySem.W.findIn K (.ref C_PageLoans) "page" = some none)
    (na_PageLoans_number : PySem.W.findIn K (.ref C_PageLoans) "number" = some none)
    (na_PageLoans_writer : PySem.W.findIn K (.ref C_PageLoans) "writer" = some none)
    (na_PageLoans_readers : PySem.W.findIn K (.ref C_PageLoans) "readers" = some none)
    (na_PageLoans_asked : PySem.W.findIn K (.ref C_PageLoans) "asked" = some none)
    (na_PageLoans_awaited : PySem.W.findIn K (.ref C_PageLoans) "awaited" = some none)
    (pg_Hall : PySem.W.plainGet K C_Hall Str.empty = true)
    (hd_Hall : PySem.W.hasDictIn K C_Hall = true)
    (po_Hall : PySem.W.plainOver K C_Hall = true)
    (sa_Hall : PySem.W.findIn K (.ref C_Hall) "__setattr__" = some (some (.builtin "object.__setattr__")))
    (mk_Hall : PySem.W.makesIn K C_Hall = true)
    (kc_Hall : PySem.W.keepIn K (.ref C_Hall) = true)
    (na_Hall_pages : PySem.W.findIn K (.ref C_Hall) "pages" = some none)
    (a_lend_letter : PySem.W.nsIn K mainGlobals "lend_letter" = some (some (.ref f_lend_letter)))
    (l_lend_letter : K.lookup f_lend_letter = some ⟨oc_lend_letter, od_lend_letter, .func (PySem.W.fnOf "lend_letter" "lend_letter" (defArgs s_lend_letter) (defBody s_lend_letter) (defScope s_lend_letter) .none kV_lend_letter dc_lend_letter pm_lend_letter an_lend_letter cd_lend_letter ct_lend_letter), sl_lend_letter⟩)
    (c_lend_letter : PySem.W.codeIn K cd_lend_letter "lend_letter" = true)
    (k_lend_letter : PySem.W.keepIn K (.ref f_lend_letter) = true)
    (a_back_letter : PySem.W.nsIn K mainGlobals "back_letter" = some (some (.ref f_back_letter)))
    (l_back_letter : K.lookup f_back_letter = some ⟨oc_back_letter, od_back_letter, .func (PySem.W.fnOf "back_letter" "back_letter" (defArgs s_back_letter) (defBody s_back_letter) (defScope s_back_letter) .none kV_back_letter dc_back_letter pm_back_letter an_back_letter cd_back_letter ct_back_letter), sl_back_letter⟩)
    (c_back_letter : PySem.W.codeIn K cd_back_letter "back_letter" = true)
    (k_back_letter : PySem.W.keepIn K (.ref f_back_letter) = true)
    (a_PageLoans_init : PySem.W.findIn K (.ref C_PageLoans) "__init__" = some (some (.ref f_PageLoans_init)))
    (i_PageLoans_init : PySem.W.isFn K (.ref f_PageLoans_init) = true)
    (l_PageLoans_init : K.lookup f_PageLoans_init = some ⟨oc_PageLoans_init, od_PageLoans_init, .func (PySem.W.fnOf "__init__" "PageLoans.__init__" (defArgs s_PageLoans_init) (defBody s_PageLoans_init) (defScope s_PageLoans_init) .none kV_PageLoans_init dc_PageLoans_init pm_PageLoans_init an_PageLoans_init cd_PageLoans_init ct_PageLoans_init), sl_PageLoans_init⟩)
    (c_PageLoans_init : PySem.W.codeIn K cd_PageLoans_init "PageLoans.__init__" = true)
    (k_PageLoans_init : PySem.W.keepIn K (.ref f_PageLoans_init) = true)
    (a_PageLoans_take_ask : PySem.W.findIn K (.ref C_PageLoans) "take_ask" = some (some (.ref f_PageLoans_take_ask)))
    (i_PageLoans_take_ask : PySem.W.isFn K (.ref f_PageLoans_take_ask) = true)
    (l_PageLoans_take_ask : K.lookup f_PageLoans_take_ask = some ⟨oc_PageLoans_take_ask, od_PageLoans_take_ask, .func (PySem.W.fnOf "take_ask" "PageLoans.take_ask" (defArgs s_PageLoans_take_ask) (defBody s_PageLoans_take_ask) (defScope s_PageLoans_take_ask) .none kV_PageLoans_take_ask dc_PageLoans_take_ask pm_PageLoans_take_ask an_PageLoans_take_ask cd_PageLoans_take_ask ct_PageLoans_take_ask), sl_PageLoans_take_ask⟩)
    (c_PageLoans_take_ask : PySem.W.codeIn K cd_PageLoans_take_ask "PageLoans.take_ask" = true)
    (k_PageLoans_take_ask : PySem.W.keepIn K (.ref f_PageLoans_take_ask) = true)
    (a_PageLoans_take_answer : PySem.W.findIn K (.ref C_PageLoans) "take_answer" = some (some (.ref f_PageLoans_take_answer)))
    (i_PageLoans_take_answer : PySem.W.isFn K (.ref f_PageLoans_take_answer) = true)
    (l_PageLoans_take_answer : K.lookup f_PageLoans_take_answer = some ⟨oc_PageLoans_take_answer, od_PageLoans_take_answer, .func (PySem.W.fnOf "take_answer" "PageLoans.take_answer" (defArgs s_PageLoans_take_answer) (defBody s_PageLoans_take_answer) (defScope s_PageLoans_take_answer) .none kV_PageLoans_take_answer dc_PageLoans_take_answer pm_PageLoans_take_answer an_PageLoans_take_answer cd_PageLoans_take_answer ct_PageLoans_take_answer), sl_PageLoans_take_answer⟩)
    (c_PageLoans_take_answer : PySem.W.codeIn K cd_PageLoans_take_answer "PageLoans.take_answer" = true)
    (k_PageLoans_take_answer : PySem.W.keepIn K (.ref f_PageLoans_take_answer) = true)
    (a_PageLoans_take_gave : PySem.W.findIn K (.ref C_PageLoans) "take_gave" = some (some (.ref f_PageLoans_take_gave)))
    (i_PageLoans_take_gave : PySem.W.isFn K (.ref f_PageLoans_take_gave) = true)
    (l_PageLoans_take_gave : K.lookup f_PageLoans_take_gave = some ⟨oc_PageLoans_take_gave, od_PageLoans_take_gave, .func (PySem.W.fnOf "take_gave" "PageLoans.take_gave" (defArgs s_PageLoans_take_gave) (defBody s_PageLoans_take_gave) (defScope s_PageLoans_take_gave) .none kV_PageLoans_take_gave dc_PageLoans_take_gave pm_PageLoans_take_gave an_PageLoans_take_gave cd_PageLoans_take_gave ct_PageLoans_take_gave), sl_PageLoans_take_gave⟩)
    (c_PageLoans_take_gave : PySem.W.codeIn K cd_PageLoans_take_gave "PageLoans.take_gave" = true)
    (k_PageLoans_take_gave : PySem.W.keepIn K (.ref f_PageLoans_take_gave) = true)
    (a_PageLoans_serve : PySem.W.findIn K (.ref C_PageLoans) "serve" = some (some (.ref f_PageLoans_serve)))
    (i_PageLoans_serve : PySem.W.isFn K (.ref f_PageLoans_serve) = true)
    (l_PageLoans_serve : K.lookup f_PageLoans_serve = some ⟨oc_PageLoans_serve, od_PageLoans_serve, .func (PySem.W.fnOf "serve" "PageLoans.serve" (defArgs s_PageLoans_serve) (defBody s_PageLoans_serve) (defScope s_PageLoans_serve) .none kV_PageLoans_serve dc_PageLoans_serve pm_PageLoans_serve an_PageLoans_serve cd_PageLoans_serve ct_PageLoans_serve), sl_PageLoans_serve⟩)
    (c_PageLoans_serve : PySem.W.codeIn K cd_PageLoans_serve "PageLoans.serve" = true)
    (k_PageLoans_serve : PySem.W.keepIn K (.ref f_PageLoans_serve) = true)
    (a_PageLoans_bids_for_first : PySem.W.findIn K (.ref C_PageLoans) "bids_for_first" = some (some (.ref f_PageLoans_bids_for_first)))
    (i_PageLoans_bids_for_first : PySem.W.isFn K (.ref f_PageLoans_bids_for_first) = true)
    (l_PageLoans_bids_for_first : K.lookup f_PageLoans_bids_for_first = some ⟨oc_PageLoans_bids_for_first, od_PageLoans_bids_for_first, .func (PySem.W.fnOf "bids_for_first" "PageLoans.bids_for_first" (defArgs s_PageLoans_bids_for_first) (defBody s_PageLoans_bids_for_first) (defScope s_PageLoans_bids_for_first) .none kV_PageLoans_bids_for_first dc_PageLoans_bids_for_first pm_PageLoans_bids_for_first an_PageLoans_bids_for_first cd_PageLoans_bids_for_first ct_PageLoans_bids_for_first), sl_PageLoans_bids_for_first⟩)
    (c_PageLoans_bids_for_first : PySem.W.codeIn K cd_PageLoans_bids_for_first "PageLoans.bids_for_first" = true)
    (k_PageLoans_bids_for_first : PySem.W.keepIn K (.ref f_PageLoans_bids_for_first) = true)
    (a_PageLoans_lend : PySem.W.findIn K (.ref C_PageLoans) "lend" = some (some (.ref f_PageLoans_lend)))
    (i_PageLoans_lend : PySem.W.isFn K (.ref f_PageLoans_lend) = true)
    (l_PageLoans_lend : K.lookup f_PageLoans_lend = some ⟨oc_PageLoans_lend, od_PageLoans_lend, .func (PySem.W.fnOf "lend" "PageLoans.lend" (defArgs s_PageLoans_lend) (defBody s_PageLoans_lend) (defScope s_PageLoans_lend) .none kV_PageLoans_lend dc_PageLoans_lend pm_PageLoans_lend an_PageLoans_lend cd_PageLoans_lend ct_PageLoans_lend), sl_PageLoans_lend⟩)
    (c_PageLoans_lend : PySem.W.codeIn K cd_PageLoans_lend "PageLoans.lend" = true)
    (k_PageLoans_lend : PySem.W.keepIn K (.ref f_PageLoans_lend) = true)
    (a_PageLoans_let_write : PySem.W.findIn K (.ref C_PageLoans) "let_write" = some (some (.ref f_PageLoans_let_write)))
    (i_PageLoans_let_write : PySem.W.isFn K (.ref f_PageLoans_let_write) = true)
    (l_PageLoans_let_write : K.lookup f_PageLoans_let_write = some ⟨oc_PageLoans_let_write, od_PageLoans_let_write, .func (PySem.W.fnOf "let_write" "PageLoans.let_write" (defArgs s_PageLoans_let_write) (defBody s_PageLoans_let_write) (defScope s_PageLoans_let_write) .none kV_PageLoans_let_write dc_PageLoans_let_write pm_PageLoans_let_write an_PageLoans_let_write cd_PageLoans_let_write ct_PageLoans_let_write), sl_PageLoans_let_write⟩)
    (c_PageLoans_let_write : PySem.W.codeIn K cd_PageLoans_let_write "PageLoans.let_write" = true)
    (k_PageLoans_let_write : PySem.W.keepIn K (.ref f_PageLoans_let_write) = true)
    (a_PageLoans_let_read : PySem.W.findIn K (.ref C_PageLoans) "let_read" = some (some (.ref f_PageLoans_let_read)))
    (i_PageLoans_let_read : PySem.W.isFn K (.ref f_PageLoans_let_read) = true)
    (l_PageLoans_let_read : K.lookup f_PageLoans_let_read = some ⟨oc_PageLoans_let_read, od_PageLoans_let_read, .func (PySem.W.fnOf "let_read" "PageLoans.let_read" (defArgs s_PageLoans_let_read) (defBody s_PageLoans_let_read) (defScope s_PageLoans_let_read) .none kV_PageLoans_let_read dc_PageLoans_let_read pm_PageLoans_let_read an_PageLoans_let_read cd_PageLoans_let_read ct_PageLoans_let_read), sl_PageLoans_let_read⟩)
    (c_PageLoans_let_read : PySem.W.codeIn K cd_PageLoans_let_read "PageLoans.let_read" = true)
    (k_PageLoans_let_read : PySem.W.keepIn K (.ref f_PageLoans_let_read) = true)
    (a_Hall_init : PySem.W.findIn K (.ref C_Hall) "__init__" = some (some (.ref f_Hall_init)))
    (i_Hall_init : PySem.W.isFn K (.ref f_Hall_init) = true)
    (l_Hall_init : K.lookup f_Hall_init = some ⟨oc_Hall_init, od_Hall_init, .func (PySem.W.fnOf "__init__" "Hall.__init__" (defArgs s_Hall_init) (defBody s_Hall_init) (defScope s_Hall_init) .none kV_Hall_init dc_Hall_init pm_Hall_init an_Hall_init cd_Hall_init ct_Hall_init), sl_Hall_init⟩)
    (c_Hall_init : PySem.W.codeIn K cd_Hall_init "Hall.__init__" = true)
    (k_Hall_init : PySem.W.keepIn K (.ref f_Hall_init) = true)
    (a_Hall_take : PySem.W.findIn K (.ref C_Hall) "take" = some (some (.ref f_Hall_take)))
    (i_Hall_take : PySem.W.isFn K (.ref f_Hall_take) = true)
    (l_Hall_take : K.lookup f_Hall_take = some ⟨oc_Hall_take, od_Hall_take, .func (PySem.W.fnOf "take" "Hall.take" (defArgs s_Hall_take) (defBody s_Hall_take) (defScope s_Hall_take) .none kV_Hall_take dc_Hall_take pm_Hall_take an_Hall_take cd_Hall_take ct_Hall_take), sl_Hall_take⟩)
    (c_Hall_take : PySem.W.codeIn K cd_Hall_take "Hall.take" = true)
    (k_Hall_take : PySem.W.keepIn K (.ref f_Hall_take) = true)
    (a_taken_by_hall : PySem.W.nsIn K mainGlobals "taken_by_hall" = some (some (.ref f_taken_by_hall)))
    (l_taken_by_hall : K.lookup f_taken_by_hall = some ⟨oc_taken_by_hall, od_taken_by_hall, .func (PySem.W.fnOf "taken_by_hall" "taken_by_hall" (defArgs s_taken_by_hall) (defBody s_taken_by_hall) (defScope s_taken_by_hall) .none kV_taken_by_hall dc_taken_by_hall pm_taken_by_hall an_taken_by_hall cd_taken_by_hall ct_taken_by_hall), sl_taken_by_hall⟩)
    (c_taken_by_hall : PySem.W.codeIn K cd_taken_by_hall "taken_by_hall" = true)
    (k_taken_by_hall : PySem.W.keepIn K (.ref f_taken_by_hall) = true)
    (a_l_whole : PySem.W.nsIn K mainGlobals "_law_whole" = some (some (.ref f_l_whole)))
    (l_l_whole : K.lookup f_l_whole = some ⟨oc_l_whole, od_l_whole, .func (PySem.W.fnOf "_law_whole" "_law_whole" (defArgs s_l_whole) (defBody s_l_whole) (defScope s_l_whole) .none kV_l_whole dc_l_whole pm_l_whole an_l_whole cd_l_whole ct_l_whole), sl_l_whole⟩)
    (c_l_whole : PySem.W.codeIn K cd_l_whole "_law_whole" = true)
    (k_l_whole : PySem.W.keepIn K (.ref f_l_whole) = true)
    (a_l_at : PySem.W.nsIn K mainGlobals "_law_at" = some (some (.ref f_l_at)))
    (l_l_at : K.lookup f_l_at = some ⟨oc_l_at, od_l_at, .func (PySem.W.fnOf "_law_at" "_law_at" (defArgs s_l_at) (defBody s_l_at) (defScope s_l_at) .none kV_l_at dc_l_at pm_l_at an_l_at cd_l_at ct_l_at), sl_l_at⟩)
    (c_l_at : PySem.W.codeIn K cd_l_at "_law_at" = true)
    (k_l_at : PySem.W.keepIn K (.ref f_l_at) = true)
    (a_l_is_down : PySem.W.nsIn K mainGlobals "_law_is_down" = some (some (.ref f_l_is_down)))
    (l_l_is_down : K.lookup f_l_is_down = some ⟨oc_l_is_down, od_l_is_down, .func (PySem.W.fnOf "_law_is_down" "_law_is_down" (defArgs s_l_is_down) (defBody s_l_is_down) (defScope s_l_is_down) .none kV_l_is_down dc_l_is_down pm_l_is_down an_l_is_down cd_l_is_down ct_l_is_down), sl_l_is_down⟩)
    (c_l_is_down : PySem.W.codeIn K cd_l_is_down "_law_is_down" = true)
    (k_l_is_down : PySem.W.keepIn K (.ref f_l_is_down) = true)
    (a_l_sent_right : PySem.W.nsIn K mainGlobals "_law_sent_right" = some (some (.ref f_l_sent_right)))
    (l_l_sent_right : K.lookup f_l_sent_right = some ⟨oc_l_sent_right, od_l_sent_right, .func (PySem.W.fnOf "_law_sent_right" "_law_sent_right" (defArgs s_l_sent_right) (defBody s_l_sent_right) (defScope s_l_sent_right) .none kV_l_sent_right dc_l_sent_right pm_l_sent_right an_l_sent_right cd_l_sent_right ct_l_sent_right), sl_l_sent_right⟩)
    (c_l_sent_right : PySem.W.codeIn K cd_l_sent_right "_law_sent_right" = true)
    (k_l_sent_right : PySem.W.keepIn K (.ref f_l_sent_right) = true)
    (a_l_told : PySem.W.nsIn K mainGlobals "_law_told" = some (some (.ref f_l_told)))
    (l_l_told : K.lookup f_l_told = some ⟨oc_l_told, od_l_told, .func (PySem.W.fnOf "_law_told" "_law_told" (defArgs s_l_told) (defBody s_l_told) (defScope s_l_told) .none kV_l_told dc_l_told pm_l_told an_l_told cd_l_told ct_l_told), sl_l_told⟩)
    (c_l_told : PySem.W.codeIn K cd_l_told "_law_told" = true)
    (k_l_told : PySem.W.keepIn K (.ref f_l_told) = true)
    (a_l_taken : PySem.W.nsIn K mainGlobals "_law_taken" = some (some (.ref f_l_taken)))
    (l_l_taken : K.lookup f_l_taken = some ⟨oc_l_taken, od_l_taken, .func (PySem.W.fnOf "_law_taken" "_law_taken" (defArgs s_l_taken) (defBody s_l_taken) (defScope s_l_taken) .none kV_l_taken dc_l_taken pm_l_taken an_l_taken cd_l_taken ct_l_taken), sl_l_taken⟩)
    (c_l_taken : PySem.W.codeIn K cd_l_taken "_law_taken" = true)
    (k_l_taken : PySem.W.keepIn K (.ref f_l_taken) = true)
    (a_l_moved : PySem.W.nsIn K mainGlobals "_law_moved" = some (some (.ref f_l_moved)))
    (l_l_moved : K.lookup f_l_moved = some ⟨oc_l_moved, od_l_moved, .func (PySem.W.fnOf "_law_moved" "_law_moved" (defArgs s_l_moved) (defBody s_l_moved) (defScope s_l_moved) .none kV_l_moved dc_l_moved pm_l_moved an_l_moved cd_l_moved ct_l_moved), sl_l_moved⟩)
    (c_l_moved : PySem.W.codeIn K cd_l_moved "_law_moved" = true)
    (k_l_moved : PySem.W.keepIn K (.ref f_l_moved) = true)
    (a_law : PySem.W.nsIn K mainGlobals "law" = some (some (.ref f_law)))
    (l_law : K.lookup f_law = some ⟨oc_law, od_law, .func (PySem.W.fnOf "law" "law" (defArgs s_law) (defBody s_law) (defScope s_law) .none kV_law dc_law pm_law an_law cd_law ct_law), sl_law⟩)
    (c_law : PySem.W.codeIn K cd_law "law" = true)
    (k_law : PySem.W.keepIn K (.ref f_law) = true)
    (v_NONE : PySem.W.nsIn K mainGlobals "NONE" = some (some (.str "none" u_NONE)))
    (v_READ : PySem.W.nsIn K mainGlobals "READ" = some (some (.str "read" u_READ)))
    (v_WRITE : PySem.W.nsIn K mainGlobals "WRITE" = some (some (.str "write" u_WRITE)))
    (z_len : PySem.W.nsIn K mainGlobals "len" = some none)
    (z_enumerate : PySem.W.nsIn K mainGlobals "enumerate" = some none)
    (z_isinstance : PySem.W.nsIn K mainGlobals "isinstance" = some none)
    (z_int : PySem.W.nsIn K mainGlobals "int" = some none)
    (z_bool : PySem.W.nsIn K mainGlobals "bool" = some none)
    (z_str : PySem.W.nsIn K mainGlobals "str" = some none)
    (z_tuple : PySem.W.nsIn K mainGlobals "tuple" = some none)
    (z_list : PySem.W.nsIn K mainGlobals "list" = some none)
    (z_range : PySem.W.nsIn K mainGlobals "range" = some none)
    (z_sum : PySem.W.nsIn K mainGlobals "sum" = some none)
    : ∃ fd : FuncData, (∀ (s : Shared) (v : Value), BindsTo s fd ⟨[v], []⟩ [("_law_script", v)]) ∧ ∀ base : Heap, K.In base → base.Ns mainGlobals mg → FnOk l.prog w K mg base CX0 10 fa fd ["_law_script"] (spLaw K) := by
  have e := (PySem.W.mg_of X G a_law).symm.trans hfa
  cases e
  have F_lend_letter := fun_mk (st := s_lend_letter) l_lend_letter c_lend_letter k_lend_letter
  have b_lend_letter := F_lend_letter.binds (ps := ["page", "right", "number"]) fun _ _ _ _ _ _ us hl => by obtain ⟨_, _, _, rfl⟩ := len3 hl; rfl
  have F_back_letter := fun_mk (st := s_back_letter) l_back_letter c_back_letter k_back_letter
  have b_back_letter := F_back_letter.binds (ps := ["page", "right"]) fun _ _ _ _ _ _ us hl => by obtain ⟨_, _, rfl⟩ := len2 hl; rfl
  have F_PageLoans_init := fun_mk (st := s_PageLoans_init) l_PageLoans_init c_PageLoans_init k_PageLoans_init
  have b_PageLoans_init := F_PageLoans_init.binds (ps := ["self", "page", "number"]) fun _ _ _ _ _ _ us hl => by obtain ⟨_, _, _, rfl⟩ := len3 hl; rfl
  have F_PageLoans_take_ask := fun_mk (st := s_PageLoans_take_ask) l_PageLoans_take_ask c_PageLoans_take_ask k_PageLoans_take_ask
  have b_PageLoans_take_ask := F_PageLoans_take_ask.binds (ps := ["self", "desk", "right"]) fun _ _ _ _ _ _ us hl => by obtain ⟨_, _, _, rfl⟩ := len3 hl; rfl
  have F_PageLoans_take_answer := fun_mk (st := s_PageLoans_take_answer) l_PageLoans_take_answer c_PageLoans_take_answer k_PageLoans_take_answer
  have b_PageLoans_take_answer := F_PageLoans_take_answer.binds (ps := ["self", "number"]) fun _ _ _ _ _ _ us hl => by obtain ⟨_, _, rfl⟩ := len2 hl; rfl
  have F_PageLoans_take_gave := fun_mk (st := s_PageLoans_take_gave) l_PageLoans_take_gave c_PageLoans_take_gave k_PageLoans_take_gave
  have b_PageLoans_take_gave := F_PageLoans_take_gave.binds (ps := ["self", "desk", "number"]) fun _ _ _ _ _ _ us hl => by obtain ⟨_, _, _, rfl⟩ := len3 hl; rfl
  have F_PageLoans_serve := fun_mk (st := s_PageLoans_serve) l_PageLoans_serve c_PageLoans_serve k_PageLoans_serve
  have b_PageLoans_serve := F_PageLoans_serve.binds (ps := ["self"]) fun _ _ _ _ _ _ us hl => by obtain ⟨_, rfl⟩ := len1 hl; rfl
  have F_PageLoans_bids_for_first := fun_mk (st := s_PageLoans_bids_for_first) l_PageLoans_bids_for_first c_PageLoans_bids_for_first k_PageLoans_bids_for_first
  have b_PageLoans_bids_for_first := F_PageLoans_bids_for_first.binds (ps := ["self"]) fun _ _ _ _ _ _ us hl => by obtain ⟨_, rfl⟩ := len1 hl; rfl
  have F_PageLoans_lend := fun_mk (st := s_PageLoans_lend) l_PageLoans_lend c_PageLoans_lend k_PageLoans_lend
  have b_PageLoans_lend := F_PageLoans_lend.binds (ps := ["self"]) fun _ _ _ _ _ _ us hl => by obtain ⟨_, rfl⟩ := len1 hl; rfl
  have F_PageLoans_let_write := fun_mk (st := s_PageLoans_let_write) l_PageLoans_let_write c_PageLoans_let_write k_PageLoans_let_write
  have b_PageLoans_let_write := F_PageLoans_let_write.binds (ps := ["self", "desk"]) fun _ _ _ _ _ _ us hl => by obtain ⟨_, _, rfl⟩ := len2 hl; rfl
  have F_PageLoans_let_read := fun_mk (st := s_PageLoans_let_read) l_PageLoans_let_read c_PageLoans_let_read k_PageLoans_let_read
  have b_PageLoans_let_read := F_PageLoans_let_read.binds (ps := ["self", "desk"]) fun _ _ _ _ _ _ us hl => by obtain ⟨_, _, rfl⟩ := len2 hl; rfl
  have F_Hall_init := fun_mk (st := s_Hall_init) l_Hall_init c_Hall_init k_Hall_init
  have b_Hall_init := F_Hall_init.binds (ps := ["self", "numbers"]) fun _ _ _ _ _ _ us hl => by obtain ⟨_, _, rfl⟩ := len2 hl; rfl
  have F_Hall_take := fun_mk (st := s_Hall_take) l_Hall_take c_Hall_take k_Hall_take
  have b_Hall_take := F_Hall_take.binds (ps := ["self", "desk", "letter"]) fun _ _ _ _ _ _ us hl => by obtain ⟨_, _, _, rfl⟩ := len3 hl; rfl
  have F_taken_by_hall := fun_mk (st := s_taken_by_hall) l_taken_by_hall c_taken_by_hall k_taken_by_hall
  have b_taken_by_hall := F_taken_by_hall.binds (ps := ["hall", "letters"]) fun _ _ _ _ _ _ us hl => by obtain ⟨_, _, rfl⟩ := len2 hl; rfl
  have F_l_whole := fun_mk (st := s_l_whole) l_l_whole c_l_whole k_l_whole
  have b_l_whole := F_l_whole.binds (ps := ["_law_found"]) fun _ _ _ _ _ _ us hl => by obtain ⟨_, rfl⟩ := len1 hl; rfl
  have F_l_at := fun_mk (st := s_l_at) l_l_at c_l_at k_l_at
  have b_l_at := F_l_at.binds (ps := ["_law_script", "_law_k"]) fun _ _ _ _ _ _ us hl => by obtain ⟨_, _, rfl⟩ := len2 hl; rfl
  have F_l_is_down := fun_mk (st := s_l_is_down) l_l_is_down c_l_is_down k_l_is_down
  have b_l_is_down := F_l_is_down.binds (ps := ["_law_found", "_law_count", "_law_pages"]) fun _ _ _ _ _ _ us hl => by obtain ⟨_, _, _, rfl⟩ := len3 hl; rfl
  have F_l_sent_right := fun_mk (st := s_l_sent_right) l_l_sent_right c_l_sent_right k_l_sent_right
  have b_l_sent_right := F_l_sent_right.binds (ps := ["_law_play", "_law_found"]) fun _ _ _ _ _ _ us hl => by obtain ⟨_, _, rfl⟩ := len2 hl; rfl
  have F_l_told := fun_mk (st := s_l_told) l_l_told c_l_told k_l_told
  have b_l_told := F_l_told.binds (ps := ["_law_play", "_law_hall", "_law_desk", "_law_letter"]) fun _ _ _ _ _ _ us hl => by obtain ⟨_, _, _, _, rfl⟩ := len4 hl; rfl
  have F_l_taken := fun_mk (st := s_l_taken) l_l_taken c_l_taken k_l_taken
  have b_l_taken := F_l_taken.binds (ps := ["_law_play", "_law_hall", "_law_desk", "_law_number"]) fun _ _ _ _ _ _ us hl => by obtain ⟨_, _, _, _, rfl⟩ := len4 hl; rfl
  have F_l_moved := fun_mk (st := s_l_moved) l_l_moved c_l_moved k_l_moved
  have b_l_moved := F_l_moved.binds (ps := ["_law_play", "_law_hall", "_law_cell", "_law_more", "_law_k"]) fun _ _ _ _ _ _ us hl => by obtain ⟨_, _, _, _, _, rfl⟩ := len5 hl; rfl
  have F_law := fun_mk (st := s_law) l_law c_law k_law
  have b_law := F_law.binds (ps := ["_law_script"]) fun _ _ _ _ _ _ us hl => by obtain ⟨_, rfl⟩ := len1 hl; rfl
  have T : Txt K w mg ⟨C_PageLoans, C_Hall, f_lend_letter, PySem.W.fnOf "lend_letter" "lend_letter" (defArgs s_lend_letter) (defBody s_lend_letter) (defScope s_lend_letter) .none kV_lend_letter dc_lend_letter pm_lend_letter an_lend_letter cd_lend_letter ct_lend_letter, f_back_letter, PySem.W.fnOf "back_letter" "back_letter" (defArgs s_back_letter) (defBody s_back_letter) (defScope s_back_letter) .none kV_back_letter dc_back_letter pm_back_letter an_back_letter cd_back_letter ct_back_letter, f_PageLoans_init, PySem.W.fnOf "__init__" "PageLoans.__init__" (defArgs s_PageLoans_init) (defBody s_PageLoans_init) (defScope s_PageLoans_init) .none kV_PageLoans_init dc_PageLoans_init pm_PageLoans_init an_PageLoans_init cd_PageLoans_init ct_PageLoans_init, f_PageLoans_take_ask, PySem.W.fnOf "take_ask" "PageLoans.take_ask" (defArgs s_PageLoans_take_ask) (defBody s_PageLoans_take_ask) (defScope s_PageLoans_take_ask) .none kV_PageLoans_take_ask dc_PageLoans_take_ask pm_PageLoans_take_ask an_PageLoans_take_ask cd_PageLoans_take_ask ct_PageLoans_take_ask, f_PageLoans_take_answer, PySem.W.fnOf "take_answer" "PageLoans.take_answer" (defArgs s_PageLoans_take_answer) (defBody s_PageLoans_take_answer) (defScope s_PageLoans_take_answer) .none kV_PageLoans_take_answer dc_PageLoans_take_answer pm_PageLoans_take_answer an_PageLoans_take_answer cd_PageLoans_take_answer ct_PageLoans_take_answer, f_PageLoans_take_gave, PySem.W.fnOf "take_gave" "PageLoans.take_gave" (defArgs s_PageLoans_take_gave) (defBody s_PageLoans_take_gave) (defScope s_PageLoans_take_gave) .none kV_PageLoans_take_gave dc_PageLoans_take_gave pm_PageLoans_take_gave an_PageLoans_take_gave cd_PageLoans_take_gave ct_PageLoans_take_gave, f_PageLoans_serve, PySem.W.fnOf "serve" "PageLoans.serve" (defArgs s_PageLoans_serve) (defBody s_PageLoans_serve) (defScope s_PageLoans_serve) .none kV_PageLoans_serve dc_PageLoans_serve pm_PageLoans_serve an_PageLoans_serve cd_PageLoans_serve ct_PageLoans_serve, f_PageLoans_bids_for_first, PySem.W.fnOf "bids_for_first" "PageLoans.bids_for_first" (defArgs s_PageLoans_bids_for_first) (defBody s_PageLoans_bids_for_first) (defScope s_PageLoans_bids_for_first) .none kV_PageLoans_bids_for_first dc_PageLoans_bids_for_first pm_PageLoans_bids_for_first an_PageLoans_bids_for_first cd_PageLoans_bids_for_first ct_PageLoans_bids_for_first, f_PageLoans_lend, PySem.W.fnOf "lend" "PageLoans.lend" (defArgs s_PageLoans_lend) (defBody s_PageLoans_lend) (defScope s_PageLoans_lend) .none kV_PageLoans_lend dc_PageLoans_lend pm_PageLoans_lend an_PageLoans_lend cd_PageLoans_lend ct_PageLoans_lend, f_PageLoans_let_write, PySem.W.fnOf "let_write" "PageLoans.let_write" (defArgs s_PageLoans_let_write) (defBody s_PageLoans_let_write) (defScope s_PageLoans_let_write) .none kV_PageLoans_let_write dc_PageLoans_let_write pm_PageLoans_let_write an_PageLoans_let_write cd_PageLoans_let_write ct_PageLoans_let_write, f_PageLoans_let_read, PySem.W.fnOf "let_read" "PageLoans.let_read" (defArgs s_PageLoans_let_read) (defBody s_PageLoans_let_read) (defScope s_PageLoans_let_read) .none kV_PageLoans_let_read dc_PageLoans_let_read pm_PageLoans_let_read an_PageLoans_let_read cd_PageLoans_let_read ct_PageLoans_let_read, f_Hall_init, PySem.W.fnOf "__init__" "Hall.__init__" (defArgs s_Hall_init) (defBody s_Hall_init) (defScope s_Hall_init) .none kV_Hall_init dc_Hall_init pm_Hall_init an_Hall_init cd_Hall_init ct_Hall_init, f_Hall_take, PySem.W.fnOf "take" "Hall.take" (defArgs s_Hall_take) (defBody s_Hall_take) (defScope s_Hall_take) .none kV_Hall_take dc_Hall_take pm_Hall_take an_Hall_take cd_Hall_take ct_Hall_take, f_taken_by_hall, PySem.W.fnOf "taken_by_hall" "taken_by_hall" (defArgs s_taken_by_hall) (defBody s_taken_by_hall) (defScope s_taken_by_hall) .none kV_taken_by_hall dc_taken_by_hall pm_taken_by_hall an_taken_by_hall cd_taken_by_hall ct_taken_by_hall, f_l_whole, PySem.W.fnOf "_law_whole" "_law_whole" (defArgs s_l_whole) (defBody s_l_whole) (defScope s_l_whole) .none kV_l_whole dc_l_whole pm_l_whole an_l_whole cd_l_whole ct_l_whole, f_l_at, PySem.W.fnOf "_law_at" "_law_at" (defArgs s_l_at) (defBody s_l_at) (defScope s_l_at) .none kV_l_at dc_l_at pm_l_at an_l_at cd_l_at ct_l_at, f_l_is_down, PySem.W.fnOf "_law_is_down" "_law_is_down" (defArgs s_l_is_down) (defBody s_l_is_down) (defScope s_l_is_down) .none kV_l_is_down dc_l_is_down pm_l_is_down an_l_is_down cd_l_is_down ct_l_is_down, f_l_sent_right, PySem.W.fnOf "_law_sent_right" "_law_sent_right" (defArgs s_l_sent_right) (defBody s_l_sent_right) (defScope s_l_sent_right) .none kV_l_sent_right dc_l_sent_right pm_l_sent_right an_l_sent_right cd_l_sent_right ct_l_sent_right, f_l_told, PySem.W.fnOf "_law_told" "_law_told" (defArgs s_l_told) (defBody s_l_told) (defScope s_l_told) .none kV_l_told dc_l_told pm_l_told an_l_told cd_l_told ct_l_told, f_l_taken, PySem.W.fnOf "_law_taken" "_law_taken" (defArgs s_l_taken) (defBody s_l_taken) (defScope s_l_taken) .none kV_l_taken dc_l_taken pm_l_taken an_l_taken cd_l_taken ct_l_taken, f_l_moved, PySem.W.fnOf "_law_moved" "_law_moved" (defArgs s_l_moved) (defBody s_l_moved) (defScope s_l_moved) .none kV_l_moved dc_l_moved pm_l_moved an_l_moved cd_l_moved ct_l_moved, fa, PySem.W.fnOf "law" "law" (defArgs s_law) (defBody s_law) (defScope s_law) .none kV_law dc_law pm_law an_law cd_law ct_law⟩ := ⟨⟨pg_PageLoans, hd_PageLoans, po_PageLoans, sa_PageLoans⟩,
    ⟨mk_PageLoans, a_PageLoans_init, i_PageLoans_init, kc_PageLoans⟩,
    PySem.W.mg_of X G aC_PageLoans,
    na_PageLoans_page,
    na_PageLoans_number,
    na_PageLoans_writer,
    na_PageLoans_readers,
    na_PageLoans_asked,
    na_PageLoans_awaited,
    ⟨pg_Hall, hd_Hall, po_Hall, sa_Hall⟩,
    ⟨mk_Hall, a_Hall_init, i_Hall_init, kc_Hall⟩,
    PySem.W.mg_of X G aC_Hall,
    na_Hall_pages,
    F_lend_letter,
    b_lend_letter,
    PySem.W.mg_of X G a_lend_letter,
    F_back_letter,
    b_back_letter,
    PySem.W.mg_of X G a_back_letter,
    F_PageLoans_init,
    b_PageLoans_init,
    F_PageLoans_take_ask,
    b_PageLoans_take_ask,
    ⟨a_PageLoans_take_ask, i_PageLoans_take_ask, k_PageLoans_take_ask⟩,
    F_PageLoans_take_answer,
    b_PageLoans_take_answer,
    ⟨a_PageLoans_take_answer, i_PageLoans_take_answer, k_PageLoans_take_answer⟩,
    F_PageLoans_take_gave,
    b_PageLoans_take_gave,
    ⟨a_PageLoans_take_gave, i_PageLoans_take_gave, k_PageLoans_take_gave⟩,
    F_PageLoans_serve,
    b_PageLoans_serve,
    ⟨a_PageLoans_serve, i_PageLoans_serve, k_PageLoans_serve⟩,
    F_PageLoans_bids_for_first,
    b_PageLoans_bids_for_first,
    ⟨a_PageLoans_bids_for_first, i_PageLoans_bids_for_first, k_PageLoans_bids_for_first⟩,
    F_PageLoans_lend,
    b_PageLoans_lend,
    ⟨a_PageLoans_lend, i_PageLoans_lend, k_PageLoans_lend⟩,
    F_PageLoans_let_write,
    b_PageLoans_let_write,
    ⟨a_PageLoans_let_write, i_PageLoans_let_write, k_PageLoans_let_write⟩,
    F_PageLoans_let_read,
    b_PageLoans_let_read,
    ⟨a_PageLoans_let_read, i_PageLoans_let_read, k_PageLoans_let_read⟩,
    F_Hall_init,
    b_Hall_init,
    F_Hall_take,
    b_Hall_take,
    ⟨a_Hall_take, i_Hall_take, k_Hall_take⟩,
    F_taken_by_hall,
    b_taken_by_hall,
    PySem.W.mg_of X G a_taken_by_hall,
    F_l_whole,
    b_l_whole,
    PySem.W.mg_of X G a_l_whole,
    F_l_at,
    b_l_at,
    PySem.W.mg_of X G a_l_at,
    F_l_is_down,
    b_l_is_down,
    PySem.W.mg_of X G a_l_is_down,
    F_l_sent_right,
    b_l_sent_right,
    PySem.W.mg_of X G a_l_sent_right,
    F_l_told,
    b_l_told,
    PySem.W.mg_of X G a_l_told,
    F_l_taken,
    b_l_taken,
    PySem.W.mg_of X G a_l_taken,
    F_l_moved,
    b_l_moved,
    PySem.W.mg_of X G a_l_moved,
    F_law,
    b_law,
    PySem.W.mg_of X G a_law,
    ⟨u_NONE, PySem.W.mg_of X G v_NONE⟩,
    ⟨u_READ, PySem.W.mg_of X G v_READ⟩,
    ⟨u_WRITE, PySem.W.mg_of X G v_WRITE⟩,
    PySem.W.mg_none_of X G z_len,
    PySem.W.mg_none_of X G z_enumerate,
    PySem.W.mg_none_of X G z_isinstance,
    PySem.W.mg_none_of X G z_int,
    PySem.W.mg_none_of X G z_bool,
    PySem.W.mg_none_of X G z_str,
    PySem.W.mg_none_of X G z_tuple,
    PySem.W.mg_none_of X G z_list,
    PySem.W.mg_none_of X G z_range,
    PySem.W.mg_none_of X G z_sum⟩
  exact ⟨_, fun s v => .of_eq rfl, fun base _ _ => ok_law T⟩
theorem walk {l : PySem.W.OpenLaw} {q : Program} {loose : List Str} {XP : (Str → Option Value) → Heap → Prop} {YP : World → Heap → Prop} {d : DefRec} {K : Params → PySem.W.Frag} (hn : l.most = some 63) (hdf : d.params.defaults = [])
    (hY : ∀ (w : World) (h : Heap), YP w h → (K w.params).In h)
    (F : ∀ (w : World) (mg : Str → Option Value) (fa : Addr) (h : Heap), (K w.params).In h → h.Ns mainGlobals mg → mg d.name = some (.ref fa) →
      ∃ fd : FuncData, (∀ (s : Shared) (u : Value), BindsTo s fd ⟨[u], []⟩ [("_law_script", u)]) ∧ ∀ base : Heap, (K w.params).In base → base.Ns mainGlobals mg → FnOk l.prog w (K w.params) mg base CX0 10 fa fd ["_law_script"] (spLaw (K w.params))) :
    PySem.W.WalkO q loose XP YP l.row.toRowW d [] (fun f vs => PySem.call f vs) :=
  L2.walk_of (n := 63) (k := 10) (x := "_law_script") (CX := fun _ => CX0) (sp := fun w => spLaw (K w.params)) hn (by decide) hdf ⟨rfl, by decide, by decide⟩ hY F (fun _ _ a ns hl _ hS => ⟨a, ns, rfl, hS, hl, fun _ => rfl⟩) fun _ _ _ _ _ z => z
end K07
open PySem PySem.W PyProof.Rows
set_option maxRecDepth 100000 in
set_option maxHeartbeats 0 in
theorem PySem.Challenge.cw_copydesks_k08_the_hall_holds : PySem.Challenge.rw_copydesks_k08_the_hall.Holds := by
  w_on; o_law; k_head; (case hw => w_witness2)
  k_fill
  refine K07.walk (l := PySem.Challenge.rw_copydesks_k08_the_hall) rfl rfl (fun w h Y => PySem.W.kIn_of Y) ?F
  case F =>
    intro w mg fa h KX G hmg
    refine' K07.all_mk KX G hmg ?aC_PageLoans ?aC_Hall ?pg_PageLoans ?hd_PageLoans ?po_PageLoans ?sa_PageLoans ?mk_PageLoans ?kc_PageLoans ?na_PageLoans_page ?na_PageLoans_number ?na_PageLoans_writer ?na_PageLoans_readers ?na_PageLoans_asked ?na_PageLoans_awaited ?pg_Hall ?hd_Hall ?po_Hall ?sa_Hall ?mk_Hall ?kc_Hall ?na_Hall_pages ?a_lend_letter ?l_lend_letter ?c_lend_letter ?k_lend_letter ?a_back_letter ?l_back_letter ?c_back_letter ?k_back_letter ?a_PageLoans_init ?i_PageLoans_init ?l_PageLoans_init ?c_PageLoans_init ?k_PageLoans_init ?a_PageLoans_take_ask ?i_PageLoans_take_ask ?l_PageLoans_take_ask ?c_PageLoans_take_ask ?k_PageLoans_take_ask ?a_PageLoans_take_answer ?i_PageLoans_take_answer ?l_PageLoans_take_answer ?c_PageLoans_take_answer ?k_PageLoans_take_answer ?a_PageLoans_take_gave ?i_PageLoans_take_gave ?l_PageLoans_take_gave ?c_PageLoans_take_gave ?k_PageLoans_take_gave ?a_PageLoans_serve ?i_PageLoans_serve ?l_PageLoans_serve ?c_PageLoans_serve ?k_PageLoans_serve ?a_PageLoans_bids_for_first ?i_PageLoans_bids_for_first ?l_PageLoans_bids_for_first ?c_PageLoans_bids_for_first ?k_PageLoans_bids_for_first ?a_PageLoans_lend ?i_PageLoans_lend ?l_PageLoans_lend ?c_PageLoans_lend ?k_PageLoans_lend ?a_PageLoans_let_write ?i_PageLoans_let_write ?l_PageLoans_let_write ?c_PageLoans_let_write ?k_PageLoans_let_write ?a_PageLoans_let_read ?i_PageLoans_let_read ?l_PageLoans_let_read ?c_PageLoans_let_read ?k_PageLoans_let_read ?a_Hall_init ?i_Hall_init ?l_Hall_init ?c_Hall_init ?k_Hall_init ?a_Hall_take ?i_Hall_take ?l_Hall_take ?c_Hall_take ?k_Hall_take ?a_taken_by_hall ?l_taken_by_hall ?c_taken_by_hall ?k_taken_by_hall ?a_l_whole ?l_l_whole ?c_l_whole ?k_l_whole ?a_l_at ?l_l_at ?c_l_at ?k_l_at ?a_l_is_down ?l_l_is_down ?c_l_is_down ?k_l_is_down ?a_l_sent_right ?l_l_sent_right ?c_l_sent_right ?k_l_sent_right ?a_l_told ?l_l_told ?c_l_told ?k_l_told ?a_l_taken ?l_l_taken ?c_l_taken ?k_l_taken ?a_l_moved ?l_l_moved ?c_l_moved ?k_l_moved ?a_law ?l_law ?c_law ?k_law ?v_NONE ?v_READ ?v_WRITE ?z_len ?z_enumerate ?z_isinstance ?z_int ?z_bool ?z_str ?z_tuple ?z_list ?z_range ?z_sum
    (case aC_PageLoans => k_is)
    (case aC_Hall => k_is)
    (case pg_PageLoans => k_is)
    (case hd_PageLoans => k_is)
    (case po_PageLoans => k_is)
    (case sa_PageLoans => k_is)
    (case mk_PageLoans => k_is)
    (case kc_PageLoans => k_is)
    (case na_PageLoans_page => k_is)
    (case na_PageLoans_number => k_is)
    (case na_PageLoans_writer => k_is)
    (case na_PageLoans_readers => k_is)
    (case na_PageLoans_asked => k_is)
    (case na_PageLoans_awaited => k_is)
    (case pg_Hall => k_is)
    (case hd_Hall => k_is)
    (case po_Hall => k_is)
    (case sa_Hall => k_is)
    (case mk_Hall => k_is)
    (case kc_Hall => k_is)
    (case na_Hall_pages => k_is)
    (case a_lend_letter => k_is)
    (case l_lend_letter => k_is)
    (case c_lend_letter => k_is)
    (case k_lend_letter => k_is)
    (case a_back_letter => k_is)
    (case l_back_letter => k_is)
    (case c_back_letter => k_is)
    (case k_back_letter => k_is)
    (case a_PageLoans_init => k_is)
    (case i_PageLoans_init => k_is)
    (case l_PageLoans_init => k_is)
    (case c_PageLoans_init => k_is)
    (case k_PageLoans_init => k_is)
    (case a_PageLoans_take_ask => k_is)
    (case i_PageLoans_take_ask => k_is)
    (case l_PageLoans_take_ask => k_is)
    (case c_PageLoans_take_ask => k_is)
    (case k_PageLoans_take_ask => k_is)
    (case a_PageLoans_take_answer => k_is)
    (case i_PageLoans_take_answer => k_is)
    (case l_PageLoans_take_answer => k_is)
    (case c_PageLoans_take_answer => k_is)
    (case k_PageLoans_take_answer => k_is)
    (case a_PageLoans_take_gave => k_is)
    (case i_PageLoans_take_gave => k_is)
    (case l_PageLoans_take_gave => k_is)
    (case c_PageLoans_take_gave => k_is)
    (case k_PageLoans_take_gave => k_is)
    (case a_PageLoans_serve => k_is)
    (case i_PageLoans_serve => k_is)
    (case l_PageLoans_serve => k_is)
    (case c_PageLoans_serve => k_is)
    (case k_PageLoans_serve => k_is)
    (case a_PageLoans_bids_for_first => k_is)
    (case i_PageLoans_bids_for_first => k_is)
    (case l_PageLoans_bids_for_first => k_is)
    (case c_PageLoans_bids_for_first => k_is)
    (case k_PageLoans_bids_for_first => k_is)
    (case a_PageLoans_lend => k_is)
    (case i_PageLoans_lend => k_is)
    (case l_PageLoans_lend => k_is)
    (case c_PageLoans_lend => k_is)
    (case k_PageLoans_lend => k_is)
    (case a_PageLoans_let_write => k_is)
    (case i_PageLoans_let_write => k_is)
    (case l_PageLoans_let_write => k_is)
    (case c_PageLoans_let_write => k_is)
    (case k_PageLoans_let_write => k_is)
    (case a_PageLoans_let_read => k_is)
    (case i_PageLoans_let_read => k_is)
    (case l_PageLoans_let_read => k_is)
    (case c_PageLoans_let_read => k_is)
    (case k_PageLoans_let_read => k_is)
    (case a_Hall_init => k_is)
    (case i_Hall_init => k_is)
    (case l_Hall_init => k_is)
    (case c_Hall_init => k_is)
    (case k_Hall_init => k_is)
    (case a_Hall_take => k_is)
    (case i_Hall_take => k_is)
    (case l_Hall_take => k_is)
    (case c_Hall_take => k_is)
    (case k_Hall_take => k_is)
    (case a_taken_by_hall => k_is)
    (case l_taken_by_hall => k_is)
    (case c_taken_by_hall => k_is)
    (case k_taken_by_hall => k_is)
    (case a_l_whole => k_is)
    (case l_l_whole => k_is)
    (case c_l_whole => k_is)
    (case k_l_whole => k_is)
    (case a_l_at => k_is)
    (case l_l_at => k_is)
    (case c_l_at => k_is)
    (case k_l_at => k_is)
    (case a_l_is_down => k_is)
    (case l_l_is_down => k_is)
    (case c_l_is_down => k_is)
    (case k_l_is_down => k_is)
    (case a_l_sent_right => k_is)
    (case l_l_sent_right => k_is)
    (case c_l_sent_right => k_is)
    (case k_l_sent_right => k_is)
    (case a_l_told => k_is)
    (case l_l_told => k_is)
    (case c_l_told => k_is)
    (case k_l_told => k_is)
    (case a_l_taken => k_is)
    (case l_l_taken => k_is)
    (case c_l_taken => k_is)
    (case k_l_taken => k_is)
    (case a_l_moved => k_is)
    (case l_l_moved => k_is)
    (case c_l_moved => k_is)
    (case k_l_moved => k_is)
    (case a_law => k_is)
    (case l_law => k_is)
    (case c_law => k_is)
    (case k_law => k_is)
    (case v_NONE => k_is)
    (case v_READ => k_is)
    (case v_WRITE => k_is)
    (case z_len => k_is)
    (case z_enumerate => k_is)
    (case z_isinstance => k_is)
    (case z_int => k_is)
    (case z_bool => k_is)
    (case z_str => k_is)
    (case z_tuple => k_is)
    (case z_list => k_is)
    (case z_range => k_is)
    (case z_sum => k_is)
