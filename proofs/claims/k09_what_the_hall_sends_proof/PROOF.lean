import PyProof.Rows.All
import Wide.All
import OpenK.AllK
import Wide.FinOn
import Lean
import PyProof.EqAt
import PyProof.EqKinds
import PyProof.NeKinds
import PyProof.TupleCall
import PySem.Challenge.RW_copydesks_k09_what_the_hall_sends
set_option Elab.async false
set_option maxRecDepth 100000
set_option maxHeartbeats 4000000
namespace H1
open PySem PySem.W PySem.Calls PyProof.Rows
noncomputable def fN {α : Type} (n : Nat) (k : Nat → α) : α := @Nat.rec (fun _ => α) (k 0) (fun m _ => k (Nat.succ m)) n
theorem fN_eq {α : Type} (n : Nat) (k : Nat → α) : fN n k = k n := by cases n <;> rfl
noncomputable def run (tb : String → Option Builtin) (p : Program) (w : World) (n₀ : Nat) (ann : Option Value) : Nat → SharedT → Thread → Option SharedT
  | 0, _, _ => none
  | n + 1, s, t => match through t with
    | true => some s
    | false => match stepOk n₀ ann t with
      | false => none
      | true => match stepT (denote tb) p w s t with
        | some (⟨T, k, l, g, d, tk, os⟩, t') => fN tk fun tk => fN k fun k => run tb p w n₀ ann n ⟨T, k, l, g, d, tk, os⟩ t'
        | none => none
section
variable {tb : String → Option Builtin} {p : Program} {w : World} {n₀ : Nat} {ann : Option Value}
theorem run_of : ∀ {n : Nat} {s s' : SharedT} {t : Thread}, run tb p w n₀ ann n s t = some s' → topRun tb p w n₀ ann n s.abs t = some s'.abs
  | 0, _, _, _, h => by cases h
  | n + 1, s, s', t, h => by
    unfold run at h
    unfold topRun
    cases he : through t with
    | true => rw [he] at h; cases h; rfl
    | false =>
      rw [he] at h
      cases hk : stepOk n₀ ann t with
      | false => rw [hk] at h; cases h
      | true =>
        rw [hk] at h
        cases hs : stepT (denote tb) p w s t with
        | none => rw [hs] at h; cases h
        | some r =>
          obtain ⟨⟨T, k, l, g, d, tk, os⟩, t₂⟩ := r
          rw [hs] at h
          rw [stepT_spec hs]
          dsimp only at h
          rw [fN_eq, fN_eq] at h
          exact run_of h
end
noncomputable def looks (p q : Program) (loose : List Str) (Xt : Shared → Bool) {α : Type} (Yf : Shared → α) (g0 : Bool) (H₀ : Heap) (s : Shared) :=
  (staticsOk (importedModules p.main.body) H₀ s.heap && namesBound p s.heap && gensDone s && laidKept H₀ s.heap, openSeen q loose (importedModules p.main.body) Xt g0 s, Yf s)
theorem left {p q : Program} {loose : List Str} {Xt : Shared → Bool} {α : Type} {Yf : Shared → α} {Ya : World → α} {N M : Nat} {g0 : Bool} {T₀ : Params → BT} {n₀ : Nat} {life : Life} {gs₀ : Array GenState} {d₀ : Drawn} {k₀ : Nat} {ann : Option Value}
    (open_ : ∀ w : World, (fencedOpening treeTable p w N).map (fun s => (s.heap, s.gens, s.drawn, s.toks)) = some (absHeap (T₀ w.params) n₀ life, gs₀, d₀, k₀))
    (size : ∀ w : World, ((absHeap (T₀ w.params) n₀ life).isNs mainGlobals && gs₀.size == 0, (absHeap (T₀ w.params) n₀ life).nsMap mainGlobals "__annotations__") = (true, ann))
    (h : ∀ w : World, (fun os => (run treeTable p w n₀ ann M ⟨T₀ w.params, n₀, life, gs₀, d₀, k₀, os⟩ (topStub p)).map fun s => looks p q loose Xt Yf g0 (absHeap (T₀ w.params) n₀ life) s.abs) = fun _ => some (true, openGood q loose, Ya w))
    (le : Nat.ble M N = true) : LeftO p q loose Xt Yf Ya N g0 := fun w => by
  obtain ⟨⟨h0, gs, d, k, os⟩, e, e'⟩ := Option.map_eq_some_iff.mp (open_ w)
  obtain ⟨rfl, rfl, rfl, rfl⟩ : h0 = absHeap (T₀ w.params) n₀ life ∧ gs = gs₀ ∧ d = d₀ ∧ k = k₀ := by simpa using e'
  obtain ⟨z1, z3⟩ : _ ∧ _ := by simpa only [Prod.mk.injEq] using size w
  obtain ⟨sT, r0, l0⟩ := Option.map_eq_some_iff.mp (congrFun (h w) os)
  obtain ⟨l1, l2, l3⟩ : _ ∧ _ ∧ _ := by simpa only [looks, Prod.mk.injEq] using l0
  have r := topRun_mono (N - M) _ _ _ _ (run_of r0)
  rw [show M + (N - M) = N by have := Nat.le_of_ble_eq_true le; lia] at r
  have t : topFrom treeTable p w N ⟨absHeap (T₀ w.params) n₀ life, gs, d, k, os⟩ = some sT.abs := by
    unfold topFrom
    dsimp only
    rw [z1, absHeap_size, z3]
    have r' : topRun treeTable p w n₀ ann N ⟨absHeap (T₀ w.params) n₀ life, gs, d, k, os⟩ (topStub p) = some sT.abs := r
    rw [r']
    show (match staticsOk (importedModules p.main.body) (absHeap (T₀ w.params) n₀ life) sT.abs.heap && namesBound p sT.abs.heap && gensDone sT.abs && laidKept (absHeap (T₀ w.params) n₀ life) sT.abs.heap with | true => _ | false => _) = _
    rw [l1]
  unfold openEnds
  rw [e]
  show (topFrom treeTable p w N _).map _ = _
  rw [t]
  exact congrArg some (Prod.ext l2 l3)
end H1
namespace H1
open PySem PySem.W PySem.Calls PyProof.Rows
theorem left1 {p q : Program} {loose : List Str} {Xt : Shared → Bool} {α : Type} {Yf : Shared → α} {Ya : World → α} {N M : Nat} {g0 : Bool} {T₀ : Params → BT} {n₀ : Nat} {life : Life} {gs₀ : Array GenState} {d₀ : Drawn} {k₀ : Nat} {ann : Option Value} (row : String)
    (open_ : ∀ w : World, (fencedOpening treeTable p w N).map (fun s => (s.heap, s.gens, s.drawn, s.toks)) = some (absHeap (T₀ w.params) n₀ life, gs₀, d₀, k₀))
    (size : ∀ w : World, ((absHeap (T₀ w.params) n₀ life).isNs mainGlobals && gs₀.size == 0, (absHeap (T₀ w.params) n₀ life).nsMap mainGlobals "__annotations__") = (true, ann))
    (h0 : ∀ w : World, (fun os => (run treeTable p (w.withFollow row false) n₀ ann M ⟨T₀ (w.withFollow row false).params, n₀, life, gs₀, d₀, k₀, os⟩ (topStub p)).map fun s => looks p q loose Xt Yf g0 (absHeap (T₀ (w.withFollow row false).params) n₀ life) s.abs) = fun _ => some (true, openGood q loose, Ya (w.withFollow row false)))
    (h1 : ∀ w : World, (fun os => (run treeTable p (w.withFollow row true) n₀ ann M ⟨T₀ (w.withFollow row true).params, n₀, life, gs₀, d₀, k₀, os⟩ (topStub p)).map fun s => looks p q loose Xt Yf g0 (absHeap (T₀ (w.withFollow row true).params) n₀ life) s.abs) = fun _ => some (true, openGood q loose, Ya (w.withFollow row true)))
    (le : Nat.ble M N = true) : LeftO p q loose Xt Yf Ya N g0 :=
  left open_ size (fun w => by
    have e := World.withFollow_self w row
    cases hb : w.params.followText row with
    | false => rw [hb] at e; have := h0 w; rw [e] at this; exact this
    | true => rw [hb] at e; have := h1 w; rw [e] at this; exact this) le
noncomputable def mkT (l : List Obj) : Nat → Nat → Nat → BT
  | 0, _, _ => .nil
  | f + 1, a, b => match l[b]? with
    | some o => .node o (mkT l f (2 * a) (a + b)) (mkT l f (2 * a) (2 * a + b))
    | none => .nil
noncomputable def T0 (P : Params) : BT := mkT (boot_heap P).objs.toList 12 1 0
theorem t0 (P : Params) : absHeap (T0 P) 11 {} = boot_heap P := by kernel_rfl
theorem opens {p : Program} {N : Nat} (e : opening p = plainProg p.main.scope.names) (hN : Nat.ble 600 N = true) (f : ∀ s, fenceModules? p s = some s) (w : World) : (fencedOpening treeTable p w N).map (fun s => (s.heap, s.gens, s.drawn, s.toks)) = some (absHeap (T0 w.params) 11 {}, #[], boot_drawn, boot_toks) := by
  rw [t0]; exact boot_open e hN f w
theorem sizes (w : World) : ((absHeap (T0 w.params) 11 {}).isNs mainGlobals && (#[] : Array GenState).size == 0, (absHeap (T0 w.params) 11 {}).nsMap mainGlobals "__annotations__") = (true, some (.ref 6)) := by
  rw [t0]; kernel_rfl
end H1
lay_quick H1.run H1.looks
set_option Elab.async false
set_option linter.all false
set_option maxRecDepth 100000
namespace L2
theorem ex5 {α β : Type} {p r q : α → β → Prop} {C : Prop} (h : ∃ x y, p x y ∧ r x y ∧ q x y) (k : ∀ x y, p x y → r x y → q x y → C) : C := Exists.elim h fun x h => Exists.elim h fun y h => k x y h.1 h.2.1 h.2.2
theorem ex3 {β : Type} {p q : β → Prop} {C : Prop} (h : ∃ y, p y ∧ q y) (k : ∀ y, p y → q y → C) : C := Exists.elim h fun y h => k y h.1 h.2
theorem ex4 {α β : Type} {p q : α → β → Prop} {C : Prop} (h : ∃ x y, p x y ∧ q x y) (k : ∀ x y, p x y → q x y → C) : C := Exists.elim h fun x h => Exists.elim h fun y h => k x y h.1 h.2
open PySem PySem.Spec PyProof.Rows
noncomputable abbrev Key := Sum Int Str
noncomputable def keyIs : Key → Value → Bool
  | .inl k, v => Value.isInt k v
  | .inr x, v => Value.isStrOf x v
noncomputable def keyH (w : World) : Key → Int
  | .inl k => hashInt k
  | .inr x => hashStr w x
theorem keyIs_shape : ∀ {k : Key} {v : Value}, keyIs k v = true → (∃ i t, k = Sum.inl i ∧ v = Value.int i t) ∨ (∃ x t, k = Sum.inr x ∧ v = Value.str x t)
  | .inl i, v, h => by
    obtain ⟨t, e⟩ := Value.isInt_shape (k := i) (v := v) h
    exact .inl ⟨i, t, rfl, e⟩
  | .inr x, v, h => by
    obtain ⟨t, e⟩ := Value.isStrOf_shape (x := x) (v := v) h
    exact .inr ⟨x, t, rfl, e⟩
theorem keyIs_int (i : Int) (t : Tok) : keyIs (.inl i) (.int i t) = true := by simp [keyIs, Value.isInt]
theorem keyIs_str (x : Str) (t : Tok) : keyIs (.inr x) (.str x t) = true := by simp [keyIs, Value.isStrOf]
theorem key_ll (a b : Int) : decide ((Sum.inl a : Key) = Sum.inl b) = (a == b) := by
  by_cases e : a = b
  · subst e; simp
  · have h : ¬ (Sum.inl a : Key) = Sum.inl b := fun q => e (Sum.inl.inj q)
    rw [decide_eq_false h]
    exact (beq_eq_false_iff_ne.mpr e).symm
theorem key_rr (a b : Str) : decide ((Sum.inr a : Key) = Sum.inr b) = decide (a = b) := by
  by_cases e : a = b
  · subst e; simp
  · have h : ¬ (Sum.inr a : Key) = Sum.inr b := fun q => e (Sum.inr.inj q)
    rw [decide_eq_false h, decide_eq_false e]
theorem key_lr (a : Int) (b : Str) : decide ((Sum.inl a : Key) = Sum.inr b) = false := decide_eq_false (fun q => nomatch q)
theorem key_rl (a : Str) (b : Int) : decide ((Sum.inr a : Key) = Sum.inl b) = false := decide_eq_false (fun q => nomatch q)
noncomputable def mixKind (prog : Program) (w : World) : PySem.KeyKind prog w Key where
  is := keyIs
  hash := keyH w
  inj := fun v a b ha hb => by
    rcases keyIs_shape ha with ⟨i, t, rfl, rfl⟩ | ⟨x, t, rfl, rfl⟩
    · rcases keyIs_shape hb with ⟨j, u, rfl, e⟩ | ⟨y, u, rfl, e⟩
      · injection e with e1 _; rw [e1]
      · exact nomatch e
    · rcases keyIs_shape hb with ⟨j, u, rfl, e⟩ | ⟨y, u, rfl, e⟩
      · exact nomatch e
      · injection e with e1 _; rw [e1]
  byValue := fun k v h => by
    rcases keyIs_shape h with ⟨i, t, rfl, rfl⟩ | ⟨x, t, rfl, rfl⟩ <;> rfl
  pyHash := fun hv h => by
    rcases keyIs_shape hv with ⟨i, t, rfl, rfl⟩ | ⟨x, t, rfl, rfl⟩
    · exact wpAny_pyHash_int h
    · exact wpAny_pyHash_str h
  eqBool := fun hu hv h => by
    rcases keyIs_shape hu with ⟨i, t, rfl, rfl⟩ | ⟨x, t, rfl, rfl⟩
    · rcases keyIs_shape hv with ⟨j, u, rfl, rfl⟩ | ⟨y, u, rfl, rfl⟩
      · rw [key_ll] at h; exact wpAny_eqBool_int h
      · rw [key_lr] at h; exact SeqAt.EqAt.int_str i t y u _ _ _ _ h
    · rcases keyIs_shape hv with ⟨j, u, rfl, rfl⟩ | ⟨y, u, rfl, rfl⟩
      · rw [key_rl] at h; exact SeqAt.EqAt.str_int x t j u _ _ _ _ h
      · rw [key_rr] at h; exact wpAny_eqBool_str h
  «strs» := fun k x t v h => by
    rcases keyIs_shape h with ⟨i, u, rfl, e⟩ | ⟨y, u, rfl, e⟩
    · exact nomatch e
    · injection e with e1 _
      subst e1
      cases v <;> rfl
theorem mixKind_int (prog : Program) (w : World) (i : Int) (t : Tok) : (mixKind prog w).is (.inl i) (.int i t) = true := keyIs_int i t
theorem mixKind_str (prog : Program) (w : World) (x : Str) (t : Tok) : (mixKind prog w).is (.inr x) (.str x t) = true := keyIs_str x t
end L2
namespace L2
open PySem PySem.Spec PyProof.Rows
inductive V where
  | non | bl (b : Bool) | int (i : Int) | str (x : Str) | byt (b : Array UInt8) | flt (b : UInt64) | ref (a : Addr) | ty (n : String)
  deriving DecidableEq
noncomputable def RelV : V → Value → Prop
  | .non, u => u = Value.none
  | .bl b, u => u = Value.bool b
  | .int i, u => ∃ t, u = Value.int i t
  | .str x, u => ∃ t, u = Value.str x t
  | .byt b, u => ∃ t, u = Value.bytes b t
  | .flt b, u => ∃ t, u = Value.float b t
  | .ref a, u => u = Value.ref a
  | .ty n, u => u = Value.type n
noncomputable abbrev Vals : List V → List Value → Prop := Paired RelV
theorem Vals.length {xs : List V} {us : List Value} (r : Vals xs us) : xs.length = us.length := Paired.length r
theorem Vals.get : ∀ {xs : List V} {us : List Value} {i : Nat} {x : V}, Vals xs us → xs[i]? = some x → ∃ u, us[i]? = some u ∧ RelV x u
  | _, _, _, _, .nil, e => by simp at e
  | _, _, 0, _, .cons r _, e => by simp at e; subst e; exact ⟨_, rfl, r⟩
  | _, _, i + 1, x, .cons _ t, e => by
    obtain ⟨u, h1, h2⟩ := Vals.get (i := i) (x := x) t (by simpa using e)
    exact ⟨u, by simpa using h1, h2⟩
theorem Vals.set {x : V} {u : Value} (r : RelV x u) : ∀ {xs : List V} {us : List Value} (i : Nat), Vals xs us → Vals (xs.set i x) (us.set i u)
  | _, _, _, .nil => .nil
  | _, _, 0, .cons _ t => .cons r t
  | _, _, i + 1, .cons q t => .cons q (Vals.set r i t)
theorem Vals.append : ∀ {xs ys : List V} {us ws : List Value}, Vals xs us → Vals ys ws → Vals (xs ++ ys) (us ++ ws)
  | _, _, _, _, .nil, s => s
  | _, _, _, _, .cons r t, s => .cons r (Vals.append t s)
theorem Vals.take : ∀ {xs : List V} {us : List Value} (n : Nat), Vals xs us → Vals (xs.take n) (us.take n)
  | _, _, 0, _ => .nil
  | _, _, _ + 1, .nil => .nil
  | _, _, n + 1, .cons r t => .cons r (Vals.take n t)
theorem Vals.drop : ∀ {xs : List V} {us : List Value} (n : Nat), Vals xs us → Vals (xs.drop n) (us.drop n)
  | _, _, 0, r => r
  | _, _, _ + 1, .nil => .nil
  | _, _, n + 1, .cons _ t => Vals.drop n t
noncomputable def RelO : Option V → Option Value → Prop
  | some v, some u => RelV v u
  | none, none => True
  | _, _ => False
noncomputable def KV {κ : Type} : List (κ × V) → List (κ × Value) → Prop := Paired fun (p : κ × V) (q : κ × Value) => p.1 = q.1 ∧ RelV p.2 q.2
noncomputable def kV : Key → V
  | .inl i => .int i
  | .inr x => .str x
inductive HO where
  /-- a list -/
  | lst (xs : List V)
  /-- a tuple (never changes) -/
  | tup (xs : List V)
  /-- a dict whose keys are ints and texts; one whose keys are tuples of ints and texts (the empty one is both) -/
  | dK (kvs : List (Key × V)) | dT (kvs : List (List Key × V))
  /-- a set of ints: its members, its size -/
  | set (S : Int → Bool) (n : Nat)
  /-- an instance of the class at C, its dict at dx, its attributes -/
  | ins (C dx : Addr) (fs : List (Str × V))
  /-- the dict of the instance at x -/
  | own (x : Addr)
  /-- the dict of an exception -/
  | xd (fs : List (Str × V))
  /-- a bound method, f of x -/
  | met (f x : Addr)
  /-- a range object lo, lo + 1, .. below hi -/
  | rng (lo hi : Int)
  /-- a thing that is known to the object (the script; a dict while a loop walks it): read, never written while it is so -/
  | frz (o : Obj) (u : HO)
  /-- a code object's table -/
  | tbl (ps : Array Value)
  /-- any other thing, by what is true of its one object (a def of one's own: SetO a S n := HO.ext fun h => ..) -/
  | ext (φ : Heap → Prop)
noncomputable abbrev Hp := Addr → Option HO
noncomputable def upd (H : Hp) (a : Addr) (o : HO) : Hp := fun b => if b = a then some o else H b
theorem upd_same {H : Hp} {a : Addr} {o : HO} : upd H a o a = some o := by unfold upd; rw [if_pos rfl]
theorem upd_ne {H : Hp} {a b : Addr} {o : HO} (h : b ≠ a) : upd H a o b = H b := by unfold upd; rw [if_neg h]
theorem upd_upd {H : Hp} {a : Addr} {o u : HO} : upd (upd H a o) a u = upd H a u := by
  funext b; unfold upd; split <;> rfl
theorem ne_of {H : Hp} {a b : Addr} {o u : HO} (h : H a = some o) (h' : H b = some u) (d : o ≠ u) : a ≠ b := by
  intro e; subst e; rw [h] at h'; exact d (Option.some.inj h')
theorem ne_of_none {H : Hp} {a b : Addr} {o : HO} (h : H a = some o) (h' : H b = none) : a ≠ b := by
  intro e; subst e; rw [h] at h'; cases h'
section
variable (P : Program) (w : World)
noncomputable def ObjOk (H : Hp) (h : Heap) (a : Addr) : HO → Prop
  | .lst xs => xs.length ≤ sizeLine ∧ ∃ (its : List Value) (n : Nat), Vals xs its ∧ h.get? a = some { cls := .type "list", data := .seq its.toArray n }
  | .tup xs => xs.length ≤ sizeLine ∧ ∃ its : List Value, Vals xs its ∧ IsTup h a its.toArray
  | .dK kvs => kvs.length ≤ sizeLine ∧ (a == sysModules) = false ∧ ∃ vs, KV kvs vs ∧ h.DictOf (mixKind P w) a vs
  | .dT kvs => kvs.length ≤ sizeLine ∧ (a == sysModules) = false ∧ ∃ xs : List (List Key × Addr × Value),
      Paired (fun (p : List Key × V) (q : List Key × Addr × Value) => p.1 = q.1 ∧ H q.2.1 = some (.tup (p.1.map kV)) ∧ RelV p.2 q.2.2) kvs xs ∧
      ∃ o es ep, h.get? a = some o ∧ o.ExactDict ∧ o.data = .dict es ep ∧ es.toList = xs.map (entryOfKey (tupleKind (mixKind P w))) ∧ (xs.map (·.1)).Nodup
  | .set S n => h.SetOf (intKind P w) a S n
  | .ins C dx fs => H dx = some (.own a) ∧ fs.length ≤ 1000 ∧ dx ≠ a ∧ h.get? a = some (PySem.W.instObj C dx) ∧
      ∃ mA, h.Ns1 dx mA ∧ (∀ f, RelO (fs.lookup f) (mA f)) ∧ PySem.Within mA (fs.map (·.1))
  | .own _ => ∃ o, h.get? a = some o
  | .xd fs => ∃ mA, h.Ns1 a mA ∧ ∀ f, RelO (fs.lookup f) (mA f)
  | .rng lo hi => ∃ t u v, h.get? a = some { cls := .type "range", data := .fields #[.int lo t, .int hi u, .int 1 v] }
  | .frz o u => h.get? a = some o ∧ ObjOk H h a u
  | .tbl ps => h.get? a = some { cls := .none, data := .fields ps }
  | .met f x => h.get? a = some (PySem.W.methodObj (.ref f) (.ref x))
  | .ext φ => φ h ∧ (∃ o, h.get? a = some o) ∧ ∀ h1 h2 : Heap, φ h1 → (∀ o, h1.get? a = some o → h2.get? a = some o) → φ h2
noncomputable def HOk (H : Hp) (h : Heap) : Prop := ∀ a o, H a = some o → ObjOk P w H h a o
end
section
variable {P : Program} {w : World} {H H' : Hp} {h h' : Heap} {a : Addr} {o : HO}
theorem ObjOk.lt (x : ObjOk P w H h a o) : a < h.objs.size := by
  cases o with
  | lst xs => obtain ⟨_, _, _, _, e⟩ := x; exact Heap.lt_size e
  | tup xs => obtain ⟨_, _, _, p⟩ := x; exact p.lt
  | dK kvs => obtain ⟨_, _, _, _, o, _, _, e, _⟩ := x; exact Heap.lt_size e
  | dT kvs => obtain ⟨_, _, _, _, o, _, _, e, _⟩ := x; exact Heap.lt_size e
  | set S n => obtain ⟨o, _, _, _, e, _⟩ := x; exact Heap.lt_size e
  | ins C dx fs => obtain ⟨_, _, _, e, _⟩ := x; exact Heap.lt_size e
  | own y => obtain ⟨_, e⟩ := x; exact Heap.lt_size e
  | xd fs => obtain ⟨_, ⟨_, _, _, e, _⟩, _⟩ := x; exact Heap.lt_size e
  | rng lo hi => obtain ⟨_, _, _, e⟩ := x; exact Heap.lt_size e
  | frz ob u => obtain ⟨e, _⟩ := x; exact Heap.lt_size e
  | tbl ps => exact Heap.lt_size (show h.get? a = some _ from x)
  | met f y => exact Heap.lt_size (show h.get? a = some _ from x)
  | ext φ => obtain ⟨_, ⟨_, e⟩, _⟩ := x; exact Heap.lt_size e
theorem Paired.mapP {α β : Type} {F G : α → β → Prop} : ∀ {l₁ : List α} {l₂ : List β}, Paired F l₁ l₂ → (∀ a b, F a b → G a b) → Paired G l₁ l₂
  | _, _, .nil, _ => .nil
  | _, _, .cons r t, f => .cons (f _ _ r) (Paired.mapP t f)
theorem ObjOk.stay (x : ObjOk P w H h a o) (k : ∀ b u, (b = a ∨ H b = some (.own a)) → h.get? b = some u → h'.get? b = some u)
    (ho : ∀ b, H b = some (.own a) → H' b = some (.own a)) (ht : ∀ b xs, H b = some (.tup xs) → H' b = some (.tup xs)) : ObjOk P w H' h' a o := by
  induction o with
  | lst xs => obtain ⟨z, its, n, r, e⟩ := x; exact ⟨z, its, n, r, k _ _ (.inl rfl) e⟩
  | tup xs => obtain ⟨z, its, r, ob, e, c⟩ := x; exact ⟨z, its, r, ob, k _ _ (.inl rfl) e, c⟩
  | dK kvs => obtain ⟨z, y, vs, r, ob, es, ep, e, c⟩ := x; exact ⟨z, y, vs, r, ob, es, ep, k _ _ (.inl rfl) e, c⟩
  | dT kvs =>
    obtain ⟨z, y, xs, r, ob, es, ep, e, c⟩ := x
    exact ⟨z, y, xs, Paired.mapP r fun p q z => ⟨z.1, ht _ _ z.2.1, z.2.2⟩, ob, es, ep, k _ _ (.inl rfl) e, c⟩
  | set S n => obtain ⟨ob, es, ep, t, e, c⟩ := x; exact ⟨ob, es, ep, t, k _ _ (.inl rfl) e, c⟩
  | ins C dx fs =>
    obtain ⟨d, z, ne, e, mA, ⟨od, es, ep, e2, c⟩, r⟩ := x
    exact ⟨ho _ d, z, ne, k _ _ (.inl rfl) e, mA, ⟨od, es, ep, k _ _ (.inr d) e2, c⟩, r⟩
  | own y => obtain ⟨ob, e⟩ := x; exact ⟨ob, k _ _ (.inl rfl) e⟩
  | xd fs => obtain ⟨mA, ⟨od, es, ep, e, c⟩, r⟩ := x; exact ⟨mA, ⟨od, es, ep, k _ _ (.inl rfl) e, c⟩, r⟩
  | rng lo hi => obtain ⟨t, u, v, e⟩ := x; exact ⟨t, u, v, k _ _ (.inl rfl) e⟩
  | frz ob u ih => obtain ⟨e, q⟩ := x; exact ⟨k _ _ (.inl rfl) e, ih q⟩
  | tbl ps =>
    have e : h.get? a = some { cls := .none, data := .fields ps } := x
    show h'.get? a = some { cls := .none, data := .fields ps }
    exact k a _ (.inl rfl) e
  | met f y =>
    have e : h.get? a = some (PySem.W.methodObj (.ref f) (.ref y)) := x
    show h'.get? a = some (PySem.W.methodObj (.ref f) (.ref y))
    exact k a _ (.inl rfl) e
  | ext φ => obtain ⟨p, ⟨o, e⟩, st⟩ := x; exact ⟨st _ _ p fun o q => k _ _ (.inl rfl) q, ⟨o, k _ _ (.inl rfl) e⟩, st⟩
theorem HOk.lt (x : HOk P w H h) (e : H a = some o) : a < h.objs.size := (x a o e).lt
theorem HOk.fresh (x : HOk P w H h) (e : h.objs.size ≤ a) : H a = none := by
  cases q : H a with
  | none => rfl
  | some u => exact absurd (Nat.lt_of_lt_of_le (x.lt q) e) (Nat.lt_irrefl _)
theorem HOk.kept (x : HOk P w H h) (k : ∀ b u, h.get? b = some u → h'.get? b = some u) : HOk P w H h' := fun a o e =>
  (x a o e).stay (fun b u _ q => k b u q) (fun _ q => q) fun _ _ q => q
theorem HOk.laid (x : HOk P w H h) (k : ∀ b u, h.get? b = some u → h'.get? b = some u) (hp : h.objs.size ≤ a) (new : ObjOk P w (upd H a o) h' a o) : HOk P w (upd H a o) h' := fun b u e => by
  have hn := x.fresh hp
  by_cases hb : b = a
  · subst hb; rw [upd_same] at e; cases e; exact new
  · rw [upd_ne hb] at e
    exact (x b u e).stay (fun c v _ q => k c v q) (fun c q => by rw [upd_ne (ne_of_none q hn)]; exact q) fun c xs q => by rw [upd_ne (ne_of_none q hn)]; exact q
end
noncomputable def Rd (H : Hp) (a : Addr) (u : HO) : Prop := H a = some u ∨ ∃ o, H a = some (.frz o u)
theorem Rd.ok {P : Program} {w : World} {H : Hp} {h : Heap} {a : Addr} {u : HO} (r : Rd H a u) (x : HOk P w H h) : ObjOk P w H h a u := by
  rcases r with r | ⟨o, r⟩
  · exact x a u r
  · obtain ⟨_, q⟩ := x a _ r
    exact q
noncomputable def Mut : Option HO → Prop
  | some (.lst _) => True
  | some (.dK _) => True
  | some (.dT _) => True
  | some (.set _ _) => True
  | some (.ins _ _ _) => True
  | some (.ext _) => True
  | _ => False
section
variable {P : Program} {w : World} {H : Hp} {h h' : Heap} {x e : Addr} {o' : HO}
theorem HOk.write (ok : HOk P w H h) (mu : Mut (H x)) (he : e = x ∨ H e = some (.own x)) (k : ∀ b u, b ≠ e → h.get? b = some u → h'.get? b = some u) (heo : ∃ u, h'.get? e = some u)
    (new : ObjOk P w (upd H x o') h' x o') : HOk P w (upd H x o') h' := fun b u q => by
  have nown : ∀ c y, H c = some (.own y) → c ≠ x := fun c y r z => by subst z; rw [r] at mu; exact mu
  have ntup : ∀ c xs, H c = some (.tup xs) → c ≠ x := fun c xs r z => by subst z; rw [r] at mu; exact mu
  by_cases hb : b = x
  · subst hb; rw [upd_same] at q; cases q; exact new
  · rw [upd_ne hb] at q
    by_cases hbe : b = e
    · have q' : H b = some (.own x) := by
        rcases he with z | z
        · exact absurd (hbe.trans z) hb
        · rw [hbe]; exact z
      rw [q] at q'; cases q'
      obtain ⟨v, hv⟩ := heo
      exact ⟨v, by rw [hbe]; exact hv⟩
    · refine (ok b u q).stay (fun c v hc r => k c v ?_ r) (fun c r => by rw [upd_ne (nown c b r)]; exact r) fun c xs r => by rw [upd_ne (ntup c xs r)]; exact r
      rcases hc with rfl | hc
      · exact hbe
      · rintro rfl
        rcases he with z | z
        · exact nown c b hc z
        · rw [hc] at z; cases z; exact hb rfl
end
structure Un (fs ex : List Addr) (H H' : Hp) (h h' : Heap) : Prop where
  keep : ∀ b o, h.get? b = some o → H b = none → b ∉ fs → b ∉ ex → h'.get? b = some o
  slot : ∀ b o, h.get? b = some o → H b = none → b ∈ fs → b ∉ ex → ∃ sl, h'.get? b = some { o with slots := sl }
  free : ∀ b o, h.get? b = some o → H b = none → b ∉ ex → H' b = none
  there : ∀ b o, h.get? b = some o → b ∉ ex → ∃ o', h'.get? b = some o'
  tups : ∀ b xs, H b = some (.tup xs) → H' b = some (.tup xs)
  frzs : ∀ b o u, H b = some (.frz o u) → H' b = some (.frz o u)
  tbls : ∀ b ps, H b = some (.tbl ps) → ∃ more, H' b = some (.tbl (ps ++ more))
section
variable {fs fs' ex ex' : List Addr} {H H1 H2 : Hp} {h h1 h2 h' : Heap} {a x e : Addr} {o : HO}
theorem Un.any (u : Un fs ex H H1 h h1) {b : Addr} {ob : Obj} (q : h.get? b = some ob) (n : H b = none) (hx : b ∉ ex) : ∃ sl, h1.get? b = some { ob with slots := sl } := by
  by_cases hb : b ∈ fs
  · exact u.slot b ob q n hb hx
  · exact ⟨ob.slots, u.keep b ob q n hb hx⟩
theorem Un.kept (k : ∀ b u, h.get? b = some u → h'.get? b = some u) : Un fs ex H H h h' :=
  ⟨fun b ob q _ _ _ => k b ob q, fun b ob q _ _ _ => ⟨ob.slots, k b ob q⟩, fun _ _ _ n _ => n, fun b ob q _ => ⟨ob, k b ob q⟩, fun _ _ q => q, fun _ _ _ q => q, fun _ ps q => ⟨#[], by rw [q]; simp⟩⟩
theorem Un.refl : Un fs ex H H h h := Un.kept fun _ _ q => q
theorem Un.laid (k : ∀ b u, h.get? b = some u → h'.get? b = some u) (hp : h.objs.size ≤ a) (hn : H a = none) : Un fs ex H (upd H a o) h h' where
  keep := fun b u q _ _ _ => k b u q
  slot := fun b u q _ _ _ => ⟨u.slots, k b u q⟩
  free := fun b u q n _ => by rw [upd_ne (Nat.ne_of_lt (Nat.lt_of_lt_of_le (Heap.lt_size q) hp))]; exact n
  there := fun b u q _ => ⟨u, k b u q⟩
  tups := fun b xs q => by rw [upd_ne (ne_of_none q hn)]; exact q
  frzs := fun b u xs q => by rw [upd_ne (ne_of_none q hn)]; exact q
  tbls := fun b ps q => ⟨#[], by rw [upd_ne (ne_of_none q hn), q]; simp⟩
theorem Un.write (mu : Mut (H x)) (he : e = x ∨ H e = some (.own x)) (k : ∀ b u, b ≠ e → h.get? b = some u → h'.get? b = some u) (heo : ∃ u, h'.get? e = some u) : Un fs ex H (upd H x o) h h' := by
  have hx : ∀ b, H b = none → b ≠ x := fun b n z => by subst z; rw [n] at mu; exact mu
  have hb : ∀ b, H b = none → b ≠ e := fun b n z => by
    subst z
    rcases he with r | r
    · exact hx b n r
    · rw [n] at r; cases r
  have hm : ∀ b u, H b = some u → ¬ Mut (some u) → b ≠ x := fun b u q nm z => by subst z; rw [q] at mu; exact nm mu
  refine ⟨fun b u q n _ _ => k b u (hb b n) q, fun b u q n _ _ => ⟨u.slots, k b u (hb b n) q⟩, fun b u q n _ => by rw [upd_ne (hx b n)]; exact n, fun b u q _ => ?_,
    fun b xs q => by rw [upd_ne (hm b _ q fun z => z)]; exact q, fun b u xs q => by rw [upd_ne (hm b _ q fun z => z)]; exact q, fun b ps q => ⟨#[], by rw [upd_ne (hm b _ q fun z => z), q]; simp⟩⟩
  by_cases hbe : b = e
  · subst hbe; exact heo
  · exact ⟨u, k b u hbe q⟩
end
noncomputable def trk (h : Heap) (H : Hp) : List Addr := (List.range h.objs.size).filter fun a => (H a).isSome
noncomputable def hidT (h : Heap) (H : Hp) : Heap := PySem.W.hideAll h (trk h H)
theorem hidT_size (h : Heap) (H : Hp) : (hidT h H).objs.size = h.objs.size := PySem.W.hideAll_size _ _
theorem hidT_get {h : Heap} {H : Hp} {b : Addr} {o : Obj} (e : h.get? b = some o) (n : H b = none) : (hidT h H).get? b = some o :=
  PySem.W.hideAll_get _ e fun hm => by
    have q : (H b).isSome = true := (List.mem_filter.mp hm).2
    rw [n] at q; simp at q
theorem of_hidT {h : Heap} {H : Hp} {b : Addr} {o : Obj} (e : (hidT h H).get? b = some o) : h.get? b = some o ∧ H b = none := by
  have e' : h.get? b = some o := PySem.W.of_hideAll (trk h H) e
  refine ⟨e', ?_⟩
  cases q : H b with
  | none => rfl
  | some x =>
    have hm : b ∈ trk h H := List.mem_filter.mpr ⟨List.mem_range.mpr (Heap.lt_size e'), by simp [q]⟩
    have z : (hidT h H).get? b = none := PySem.W.hideAll_none (trk h H) hm
    rw [z] at e; cases e
end L2
namespace L2
open PySem PySem.Spec PyProof.Rows
structure Mod (K : PySem.W.Frag) (mg : Str → Option Value) (base : Heap) : Prop where
  kin : K.In base
  glob : base.Ns mainGlobals mg
  blt : ∃ mb, base.Ns builtinsNs mb ∧ ∀ x : Str, x ≠ "__name__" → mb x = bootBuiltins x
  nolimit : base.NoLimit
structure Cx where
  prog : Program
  w : World
  K : PySem.W.Frag
  mg : Str → Option Value
  base : Heap
  A : Around
  N : List Str
  s₀ : Shared
  H₀ : Hp
  env : Env
  outer : List Env
  stack : List Env
  ex : List Addr
  fn : Str → Bool
  calm : Bool
  pn : List (Addr × Obj)
  xe : Value → Shared → Prop
noncomputable def frs (l : List Env) : List Addr := l.filterMap (·.frame)
noncomputable abbrev Cx.fs (X : Cx) : List Addr := frs X.outer
noncomputable def Vis (sc : Scope) (x : Str) : Prop := sc.names.lookup x = some .local ∨ sc.names.lookup x = some .cell ∨ sc.names.lookup x = some .free
noncomputable def Loc (sc : Scope) (x : Str) : Prop := sc.names.lookup x = some .local ∨ sc.names.lookup x = some .cell
noncomputable def Look (env : Env) (h : Heap) (m : Str → Option Value) (x : Str) (u : Value) : Prop :=
  (env.kindOf x = some .local ∧ m x = some u) ∨ ((env.kindOf x = some .cell ∨ env.kindOf x = some .free) ∧ ∃ c, env.cells.lookup x = some c ∧ h.IsCell c (some u))
structure Cx.Ok (X : Cx) : Prop where
  mod : Mod X.K X.mg X.base
  kind : X.env.scope.kind = .function
  glob : X.env.globals = mainGlobals
  blt : X.env.builtins = builtinsNs
  above : X.s₀.heap.objs.size ≤ X.env.locals
  inj : ∀ x y c, X.env.cells.lookup x = some c → X.env.cells.lookup y = some c → x = y
  has : ∀ x, (X.env.kindOf x = some .cell ∨ X.env.kindOf x = some .free) → ∃ c, X.env.cells.lookup x = some c
  cab : ∀ x c, X.fn x = true → X.env.cells.lookup x = some c → X.s₀.heap.objs.size ≤ c
  hd : X.calm = true → X.A.handled = none
  frames : X.A.frames = some X.stack
  stk : X.stack = X.outer ∨ (X.stack = X.env :: X.outer ∧ X.env.frame = some X.env.locals)
  exf : ∀ b ∈ X.ex, b ≠ X.env.locals ∧ ∀ x c, X.env.cells.lookup x = some c → c ≠ b
  bs : ∀ b o, X.base.get? b = some o → X.s₀.heap.get? b = some o ∧ X.H₀ b = none
  bsz : X.base.objs.size ≤ X.s₀.heap.objs.size
  noex : ∀ b o, X.base.get? b = some o → b ∉ X.ex
  exfs : ∀ b ∈ X.ex, b ∉ X.fs
  funs : X.s₀.heap.FunFrames X.base X.outer
  frf : ∀ b ∈ X.fs, X.H₀ b = none
structure Inv (X : Cx) (pins : List (Addr × Obj)) (σ : List (Option V)) (H : Hp) (s : Shared) : Prop where
  ok : X.Ok
  os : s.os = X.s₀.os
  bare : AllBare s.gens
  base : Un X.fs X.ex X.H₀ H X.s₀.heap s.heap
  loc : ∃ m, s.heap.Ns X.env.locals m ∧ ∀ (i : Nat) (x : Str) (v : V), X.N[i]? = some x → σ[i]? = some (some v) → Vis X.env.scope x → ∃ u, RelV v u ∧ Look X.env s.heap m x u
  cell : ∀ x c, X.env.cells.lookup x = some c → ∃ v, s.heap.IsCell c v
  free : H X.env.locals = none
  freeC : ∀ x c, X.env.cells.lookup x = some c → H c = none
  pin : ∀ p ∈ X.pn ++ pins, s.heap.get? p.1 = some p.2 ∧ H p.1 = none ∧ p.1 ≠ X.env.locals ∧ p.1 ∉ X.fs ∧ ∀ v, p.2.data ≠ .cell v
  hok : HOk X.prog X.w H s.heap
  len : σ.length = X.N.length
section
variable {X : Cx} {pins : List (Addr × Obj)} {σ : List (Option V)} {H H' : Hp} {s : Shared} {h' : Heap}
theorem Cx.Ok.nofr (ok : X.Ok) {b : Addr} {o : Obj} (e : X.base.get? b = some o) : b ∉ X.fs := fun hb => by
  have := (ok.funs.mem hb).1
  rw [e] at this; cases this
theorem Inv.bs (I : Inv X pins σ H s) : ∀ b o, X.base.get? b = some o → s.heap.get? b = some o ∧ H b = none := fun b o e =>
  ⟨I.base.keep b o (I.ok.bs b o e).1 (I.ok.bs b o e).2 (I.ok.nofr e) (I.ok.noex b o e), I.base.free b o (I.ok.bs b o e).1 (I.ok.bs b o e).2 (I.ok.noex b o e)⟩
theorem Inv.bk (I : Inv X pins σ H s) : ∀ b o, X.base.get? b = some o → s.heap.get? b = some o := fun b o e => (I.bs b o e).1
theorem Inv.mod (I : Inv X pins σ H s) : Mod X.K X.mg X.base := I.ok.mod
theorem Inv.kIn (I : Inv X pins σ H s) : X.K.In s.heap := I.ok.mod.kin.keeps I.bk
theorem Inv.lt (I : Inv X pins σ H s) : X.env.locals < s.heap.objs.size := let ⟨_, hn, _⟩ := I.loc; hn.lt
theorem Inv.sz (I : Inv X pins σ H s) : X.s₀.heap.objs.size ≤ s.heap.objs.size := Nat.le_trans I.ok.above (Nat.le_of_lt I.lt)
theorem Inv.nofs (I : Inv X pins σ H s) {a : Addr} (h : s.heap.objs.size ≤ a) : a ∉ X.fs := fun hb => by
  obtain ⟨_, o, ho, _⟩ := I.ok.funs.mem hb
  exact absurd (Nat.lt_of_lt_of_le (Heap.lt_size ho) (Nat.le_trans I.sz h)) (Nat.lt_irrefl _)
theorem Inv.cne (I : Inv X pins σ H s) : ∀ x c, X.env.cells.lookup x = some c → c ≠ X.env.locals := fun x c e z => by
  obtain ⟨v, o, ho, hd⟩ := I.cell x c e
  obtain ⟨m, ⟨o', es, ep, ho', hd', _⟩, _⟩ := I.loc
  rw [z, ho'] at ho; cases ho; rw [hd'] at hd; cases hd
theorem Inv.funs (I : Inv X pins σ H s) : s.heap.FunFrames X.base X.outer := by
  have all : ∀ (l : List Env), (∀ b ∈ frs l, b ∈ X.fs) → X.s₀.heap.FunFrames X.base l → s.heap.FunFrames X.base l := by
    intro l
    induction l with
    | nil => intro _ _; trivial
    | cons env r ih =>
      intro hs hl
      obtain ⟨hk, ⟨L, o, hf, hn, ho, hd⟩, hr⟩ := hl
      have hL : L ∈ X.fs := hs L (by unfold frs; rw [List.filterMap_cons, hf]; exact List.mem_cons_self)
      obtain ⟨sl, e⟩ := I.base.slot L o ho (I.ok.frf L hL) hL fun z => I.ok.exfs L z hL
      exact ⟨hk, ⟨L, _, hf, hn, e, hd⟩, ih (fun b hb => hs b (by unfold frs; rw [List.filterMap_cons, hf]; exact List.mem_cons_of_mem _ hb)) hr⟩
  exact all X.outer (fun _ hb => hb) I.ok.funs
theorem Inv.stack (I : Inv X pins σ H s) : s.heap.FunFrames X.base X.stack := by
  rcases I.ok.stk with e | ⟨e, hf⟩
  · rw [e]; exact I.funs
  · rw [e]
    obtain ⟨m, hn, _⟩ := I.loc
    refine .cons (by rw [I.ok.kind]; decide) hf hn ?_ I.funs
    exact Heap.get?_none_of_le (Nat.le_trans I.ok.bsz I.ok.above)
theorem Inv.stkSub (I : Inv X pins σ H s) : ∀ b ∈ frs X.stack, b ∈ X.env.locals :: X.fs := fun b hb => by
  rcases I.ok.stk with e | ⟨e, hf⟩
  · rw [e] at hb; exact List.mem_cons_of_mem _ hb
  · rw [e] at hb
    unfold frs at hb
    rw [List.filterMap_cons, hf] at hb
    exact hb
theorem Inv.stkFree (I : Inv X pins σ H s) : ∀ b ∈ frs X.stack, H b = none := fun b hb => by
  rcases List.mem_cons.mp (I.stkSub b hb) with e | hb
  · rw [e]; exact I.free
  · obtain ⟨_, o, ho, _⟩ := I.ok.funs.mem hb
    exact I.base.free b o ho (I.ok.frf b hb) fun z => I.ok.exfs b z hb
theorem Inv.step {g' : Array GenState} {t' : Nat} {d' : Drawn} {ch : List Addr} (I : Inv X pins σ H s)
    (hch : ∀ b ∈ ch, (b ∈ X.ex ∨ X.s₀.heap.objs.size ≤ b) ∧ b ≠ X.env.locals ∧ (∀ x c, X.env.cells.lookup x = some c → c ≠ b) ∧ ∀ p ∈ X.pn ++ pins, p.1 ≠ b)
    (keep : ∀ b o, b ≠ X.env.locals → b ∉ X.fs → b ∉ ch → s.heap.get? b = some o → H b = none → h'.get? b = some o)
    (slot : ∀ b o, b ≠ X.env.locals → b ∈ X.fs → b ∉ ch → s.heap.get? b = some o → H b = none → ∃ sl, h'.get? b = some { o with slots := sl }) (free : ∀ b o, b ∉ ch → s.heap.get? b = some o → H b = none → H' b = none)
    (there : ∀ b o, b ∉ ch → s.heap.get? b = some o → ∃ o', h'.get? b = some o')
    (tups : ∀ b xs, H b = some (.tup xs) → H' b = some (.tup xs)) (frzs : ∀ b o u, H b = some (.frz o u) → H' b = some (.frz o u)) (tbls : ∀ b ps, H b = some (.tbl ps) → ∃ more, H' b = some (.tbl (ps ++ more)))
    (ns : ∀ m, s.heap.Ns X.env.locals m → h'.Ns X.env.locals m) (hok : HOk X.prog X.w H' h') (hg : AllBare g') :
    Inv X pins σ H' { s with heap := h', gens := g', drawn := d', toks := t' } := by
  have neL : ∀ b o, X.s₀.heap.get? b = some o → b ≠ X.env.locals := fun b o e => Nat.ne_of_lt (Nat.lt_of_lt_of_le (Heap.lt_size e) I.ok.above)
  have neC : ∀ b o, X.s₀.heap.get? b = some o → b ∉ X.ex → b ∉ ch := fun b o e hx hb => by
    rcases (hch b hb).1 with z | z
    · exact hx z
    · exact absurd (Nat.lt_of_lt_of_le (Heap.lt_size e) z) (Nat.lt_irrefl _)
  have cellK : ∀ x c, X.env.cells.lookup x = some c → ∀ v, s.heap.IsCell c v → h'.IsCell c v := fun x c e v ⟨o, ho, hd⟩ => by
    have nch : c ∉ ch := fun z => (hch c z).2.2.1 x c e rfl
    by_cases hc : c ∈ X.fs
    · obtain ⟨sl, q⟩ := slot c o (I.cne x c e) hc nch ho (I.freeC x c e)
      exact ⟨_, q, hd⟩
    · exact ⟨o, keep c o (I.cne x c e) hc nch ho (I.freeC x c e), hd⟩
  refine ⟨I.ok, I.os, hg, ⟨fun b o e n hb hx => ?_, fun b o e n hb hx => ?_, fun b o e n hx => ?_, fun b o e hx => ?_, fun b xs e => tups b xs (I.base.tups b xs e), fun b o xs e => frzs b o xs (I.base.frzs b o xs e), fun b ps e => ?_⟩, ?_, fun x c e => ?_, ?_, fun x c e => ?_, fun p hp => ?_, hok, I.len⟩
  · exact keep b o (neL b o e) hb (neC b o e hx) (I.base.keep b o e n hb hx) (I.base.free b o e n hx)
  · obtain ⟨sl, e1⟩ := I.base.slot b o e n hb hx
    obtain ⟨sl', e2⟩ := slot b _ (neL b o e) hb (neC b o e hx) e1 (I.base.free b o e n hx)
    exact ⟨sl', e2⟩
  · obtain ⟨o', e1⟩ := I.base.there b o e hx
    exact free b o' (neC b o e hx) e1 (I.base.free b o e n hx)
  · obtain ⟨o', e1⟩ := I.base.there b o e hx
    exact there b o' (neC b o e hx) e1
  · obtain ⟨m1, e1⟩ := I.base.tbls b ps e
    obtain ⟨m2, e2⟩ := tbls b _ e1
    exact ⟨m1 ++ m2, by rw [e2, Array.append_assoc]⟩
  · obtain ⟨m, hn, hl⟩ := I.loc
    refine ⟨m, ns m hn, fun i x v e1 e2 e3 => ?_⟩
    obtain ⟨u, r, l⟩ := hl i x v e1 e2 e3
    refine ⟨u, r, ?_⟩
    rcases l with l | ⟨k, c, e, z⟩
    · exact .inl l
    · exact .inr ⟨k, c, e, cellK x c e _ z⟩
  · obtain ⟨v, z⟩ := I.cell x c e
    exact ⟨v, cellK x c e v z⟩
  · obtain ⟨m, ⟨o, _, _, ho, _⟩, _⟩ := I.loc
    exact free _ o (fun z => (hch _ z).2.1 rfl) ho I.free
  · obtain ⟨v, o, ho, hd⟩ := I.cell x c e
    exact free c o (fun z => (hch c z).2.2.1 x c e rfl) ho (I.freeC x c e)
  · obtain ⟨e, n, ne, nf, d⟩ := I.pin p hp
    have nch : p.1 ∉ ch := fun z => (hch p.1 z).2.2.2 p hp rfl
    exact ⟨keep p.1 p.2 ne nf nch e n, free p.1 p.2 nch e n, ne, nf, d⟩
theorem Inv.un {t' : Nat} (I : Inv X pins σ H s) (u : Un X.fs [] H H' s.heap h') (hok : HOk X.prog X.w H' h') : Inv X pins σ H' { s with heap := h', toks := t' } := by
  obtain ⟨m, ⟨o, es, ep, ho, r⟩, _⟩ := id I.loc
  obtain ⟨sl, hL⟩ := u.any ho I.free (by simp)
  exact I.step (g' := s.gens) (d' := s.drawn) (ch := []) (fun _ z => nomatch z) (fun b o _ hb _ e n => u.keep b o e n hb (by simp)) (fun b o _ hb _ e n => u.slot b o e n hb (by simp)) (fun b o _ e n => u.free b o e n (by simp)) (fun b o _ e => u.there b o e (by simp)) u.tups u.frzs u.tbls (fun m' hm => by
    obtain ⟨o', es', ep', ho', r'⟩ := hm
    rw [ho] at ho'; cases ho'
    exact ⟨_, es', ep', hL, r'⟩) hok I.bare
theorem Inv.call {g' : Array GenState} {t' : Nat} {d' : Drawn} {ch : List Addr} (I : Inv X pins σ H s) (u : Un (frs X.stack) ch H H' s.heap h') (hok : HOk X.prog X.w H' h') (hg : AllBare g')
    (hch : ∀ b ∈ ch, (b ∈ X.ex ∨ X.s₀.heap.objs.size ≤ b) ∧ b ≠ X.env.locals ∧ (∀ x c, X.env.cells.lookup x = some c → c ≠ b) ∧ ∀ p ∈ X.pn ++ pins, p.1 ≠ b) :
    Inv X pins σ H' { s with heap := h', gens := g', drawn := d', toks := t' } := by
  obtain ⟨m, ⟨o, es, ep, ho, r⟩, _⟩ := id I.loc
  obtain ⟨sl, hL⟩ := u.any ho I.free fun z => (hch _ z).2.1 rfl
  exact I.step (ch := ch) hch (fun b o hL hb hc e n => u.keep b o e n (fun z => (List.mem_cons.mp (I.stkSub b z)).elim hL hb) hc) (fun b o _ _ hc e n => u.any e n hc) (fun b o hc e n => u.free b o e n hc) (fun b o hc e => u.there b o e hc) u.tups u.frzs u.tbls (fun m' hm => by
    obtain ⟨o', es', ep', ho', r'⟩ := hm
    rw [ho] at ho'; cases ho'
    exact ⟨_, es', ep', hL, r'⟩) hok hg
theorem Inv.turned {t' : Nat} {it : Addr} (I : Inv X pins σ H s) (k : ∀ b o, b ≠ it → s.heap.get? b = some o → h'.get? b = some o) (hn : H it = none) (hL : it ≠ X.env.locals)
    (h1 : it ∈ X.ex ∨ X.s₀.heap.objs.size ≤ it) (h2 : ∀ x c, X.env.cells.lookup x = some c → c ≠ it) (h3 : ∀ p ∈ X.pn ++ pins, p.1 ≠ it) : Inv X pins σ H { s with heap := h', toks := t' } := by
  have nit : ∀ b u, H b = some u → b ≠ it := fun b u e z => by rw [z, hn] at e; cases e
  refine I.step (g' := s.gens) (d' := s.drawn) (ch := [it]) (fun b hb => ?_) (fun b o _ _ hc e _ => k b o (fun z => hc (by simp [z])) e) (fun b o _ _ hc e _ => ⟨o.slots, k b o (fun z => hc (by simp [z])) e⟩) (fun _ _ _ _ n => n)
    (fun b o hc e => ⟨o, k b o (fun z => hc (by simp [z])) e⟩) (fun _ _ e => e) (fun _ _ _ e => e) (fun b ps e => ⟨#[], by rw [e]; simp⟩) (fun m hm => ?_) (fun b u e => ?_) I.bare
  · have e : b = it := by simpa using hb
    subst e
    exact ⟨h1, hL, h2, h3⟩
  · obtain ⟨o, es, ep, ho, r⟩ := hm
    exact ⟨o, es, ep, k _ o (Ne.symm hL) ho, r⟩
  · refine (I.hok b u e).stay (fun c v hc q => k c v ?_ q) (fun _ q => q) fun _ _ q => q
    rcases hc with z | z
    · rw [z]; exact nit b u e
    · exact nit c _ z
theorem Inv.tok (I : Inv X pins σ H s) (t : Nat) : Inv X pins σ H { s with toks := t } := I.un (h' := s.heap) (t' := t) Un.refl I.hok
theorem Inv.kept {t' : Nat} (I : Inv X pins σ H s) (k : ∀ b u, s.heap.get? b = some u → h'.get? b = some u) : Inv X pins σ H { s with heap := h', toks := t' } := I.un (Un.kept k) (I.hok.kept k)
theorem Inv.laid {a : Addr} {o : HO} {t' : Nat} (I : Inv X pins σ H s) (k : ∀ b u, s.heap.get? b = some u → h'.get? b = some u) (hp : s.heap.objs.size ≤ a) (new : ObjOk X.prog X.w (upd H a o) h' a o) :
    Inv X pins σ (upd H a o) { s with heap := h', toks := t' } := I.un (Un.laid k hp (I.hok.fresh hp)) (I.hok.laid k hp new)
theorem Inv.write {x e : Addr} {o : HO} {t' : Nat} (I : Inv X pins σ H s) (mu : Mut (H x)) (he : e = x ∨ H e = some (.own x)) (k : ∀ b u, b ≠ e → s.heap.get? b = some u → h'.get? b = some u) (heo : ∃ u, h'.get? e = some u)
    (new : ObjOk X.prog X.w (upd H x o) h' x o) : Inv X pins σ (upd H x o) { s with heap := h', toks := t' } := I.un (Un.write mu he k heo) (I.hok.write mu he k heo new)
theorem Inv.pins_of {pins' : List (Addr × Obj)} (I : Inv X pins σ H s) (h : ∀ p ∈ pins', s.heap.get? p.1 = some p.2 ∧ H p.1 = none ∧ p.1 ≠ X.env.locals ∧ p.1 ∉ X.fs ∧ ∀ v, p.2.data ≠ .cell v) : Inv X pins' σ H s :=
  ⟨I.ok, I.os, I.bare, I.base, I.loc, I.cell, I.free, I.freeC, fun p hp => (List.mem_append.mp hp).elim (fun z => I.pin p (List.mem_append_left _ z)) (h p), I.hok, I.len⟩
theorem nodup_ix {N : List Str} (hN : N.Nodup) {i j : Nat} {x : Str} (a : N[i]? = some x) (b : N[j]? = some x) : i = j := by
  obtain ⟨h1, e1⟩ := List.getElem?_eq_some_iff.mp a
  obtain ⟨h2, e2⟩ := List.getElem?_eq_some_iff.mp b
  exact (List.getElem_inj hN).mp (e1.trans e2.symm)
theorem store_ok2 {M : Model} {A : Around} {E : Value → Shared → Prop} {i : Nat} {x : Str} {v : V} {u : Value} {Q : Unit → Shared → Prop} (I : Inv X pins σ H s) (hN : X.N.Nodup) (hi : X.N[i]? = some x) (hx : Loc X.env.scope x) (r : RelV v u)
    (h : ∀ s', Inv X pins (σ.set i (some v)) H s' → (∃ a, Heap.SameBut a s.heap s'.heap ∧ (a = X.env.locals ∨ X.env.cells.lookup x = some a)) → Q () s') (hf : X.fn x = true ∨ X.env.scope.names.lookup x = some .local := by first | exact .inl rfl | exact .inr rfl | assumption) : wpAny M A (storeName X.env x u) Q E s := by
  obtain ⟨m, hn, hl⟩ := id I.loc
  have hcls : (X.env.scope.kind == .class || (X.env.scope.kind == .module && X.env.locals != X.env.globals)) = false := by rw [I.ok.kind]; rfl
  have hiσ : i < σ.length := by rw [I.len]; exact (List.getElem?_eq_some_iff.mp hi).1
  have cne := I.cne
  have tracked : ∀ {a : Addr} {h' : Heap}, (∃ o, s.heap.get? a = some o ∧ H a = none) → Heap.SameBut a s.heap h' → HOk X.prog X.w H h' := fun {a h'} ha hs b ob e => by
    obtain ⟨_, _, hfree⟩ := ha
    refine (I.hok b ob e).stay (fun c w' hc q => (hs.2 c ?_).trans q) (fun _ q => q) fun _ _ q => q
    rintro rfl
    rcases hc with rfl | hc
    · rw [hfree] at e; cases e
    · rw [hfree] at hc; cases hc
  rcases hx with hk | hk
  · refine wpAny_storeName_local hk hn (fun h' hn' hs => ?_) hcls
    obtain ⟨oL, _, _, hoL, _⟩ := id hn
    refine h _ ⟨I.ok, I.os, I.bare, ⟨fun b o e n hb hx => ?_, fun b o e n hb hx => ?_, I.base.free, fun b o e hx => ?_, I.base.tups, I.base.frzs, I.base.tbls⟩, ⟨_, hn', fun j y v' e1 e2 e3 => ?_⟩, fun y c e => ?_, I.free, I.freeC, fun p hp => ?_, tracked ⟨oL, hoL, I.free⟩ hs, by simpa using I.len⟩ ⟨_, hs, .inl rfl⟩
    · exact (hs.2 b (Nat.ne_of_lt (Nat.lt_of_lt_of_le (Heap.lt_size e) I.ok.above))).trans (I.base.keep b o e n hb hx)
    · obtain ⟨sl, e1⟩ := I.base.slot b o e n hb hx
      exact ⟨sl, (hs.2 b (Nat.ne_of_lt (Nat.lt_of_lt_of_le (Heap.lt_size e) I.ok.above))).trans e1⟩
    · obtain ⟨o', e1⟩ := I.base.there b o e hx
      exact ⟨o', (hs.2 b (Nat.ne_of_lt (Nat.lt_of_lt_of_le (Heap.lt_size e) I.ok.above))).trans e1⟩
    · by_cases hj : j = i
      · subst hj
        rw [hi] at e1; cases e1
        rw [List.getElem?_set_self hiσ] at e2
        cases e2
        exact ⟨u, r, .inl ⟨hk, by simp⟩⟩
      · rw [List.getElem?_set_ne (Ne.symm hj)] at e2
        obtain ⟨u', r', q⟩ := hl j y v' e1 e2 e3
        refine ⟨u', r', ?_⟩
        rcases q with ⟨k, e⟩ | ⟨k, c, e, z⟩
        · refine .inl ⟨k, ?_⟩
          have : y ≠ x := fun e => hj (nodup_ix hN e1 (e ▸ hi))
          simp [this, e]
        · exact .inr ⟨k, c, e, z.sameBut hs (cne y c e)⟩
    · obtain ⟨w', z⟩ := I.cell y c e
      exact ⟨w', z.sameBut hs (cne y c e)⟩
    · obtain ⟨e, n, ne, nf, d⟩ := I.pin p hp
      exact ⟨(hs.2 p.1 ne).trans e, n, ne, nf, d⟩
  · have hfn : X.fn x = true := by
      rcases hf with z | z
      · exact z
      · rw [z] at hk; cases hk
    obtain ⟨c, hc⟩ := I.ok.has x (.inl hk)
    obtain ⟨w', z⟩ := I.cell x c hc
    refine wpAny_storeName_cell I.ok.kind hk hc z (fun h' hc' hs => ?_)
    obtain ⟨oc, hoc, hocd⟩ := id z
    refine h { s with heap := h' } ⟨I.ok, I.os, I.bare, ⟨fun b o e n hb hx => ?_, fun b o e n hb hx => ?_, I.base.free, fun b o e hx => ?_, I.base.tups, I.base.frzs, I.base.tbls⟩, ⟨m, hn.sameBut hs (Ne.symm (cne x c hc)), fun j y v' e1 e2 e3 => ?_⟩, fun y c' e => ?_, I.free, I.freeC, fun p hp => ?_, tracked ⟨oc, hoc, I.freeC x c hc⟩ hs, by simpa using I.len⟩ ⟨c, hs, .inr hc⟩
    · exact (hs.2 b (Nat.ne_of_lt (Nat.lt_of_lt_of_le (Heap.lt_size e) (I.ok.cab x c hfn hc)))).trans (I.base.keep b o e n hb hx)
    · obtain ⟨sl, e1⟩ := I.base.slot b o e n hb hx
      exact ⟨sl, (hs.2 b (Nat.ne_of_lt (Nat.lt_of_lt_of_le (Heap.lt_size e) (I.ok.cab x c hfn hc)))).trans e1⟩
    · obtain ⟨o', e1⟩ := I.base.there b o e hx
      exact ⟨o', (hs.2 b (Nat.ne_of_lt (Nat.lt_of_lt_of_le (Heap.lt_size e) (I.ok.cab x c hfn hc)))).trans e1⟩
    · by_cases hj : j = i
      · subst hj
        rw [hi] at e1; cases e1
        rw [List.getElem?_set_self hiσ] at e2
        cases e2
        exact ⟨u, r, .inr ⟨.inl hk, c, hc, hc'⟩⟩
      · rw [List.getElem?_set_ne (Ne.symm hj)] at e2
        obtain ⟨u', r', q⟩ := hl j y v' e1 e2 e3
        refine ⟨u', r', ?_⟩
        rcases q with q | ⟨k, c', e, z'⟩
        · exact .inl q
        · refine .inr ⟨k, c', e, z'.sameBut hs ?_⟩
          rintro rfl
          exact hj (nodup_ix hN e1 (I.ok.inj _ _ _ e hc ▸ hi))
    · by_cases hcc : c' = c
      · subst hcc; exact ⟨_, hc'⟩
      · obtain ⟨w2, z2⟩ := I.cell y c' e
        exact ⟨w2, z2.sameBut hs hcc⟩
    · obtain ⟨e, n, ne, nf, d⟩ := I.pin p hp
      refine ⟨(hs.2 p.1 ?_).trans e, n, ne, nf, d⟩
      intro q
      rw [q, hoc] at e
      have q' : oc = p.2 := Option.some.inj e
      exact d w' (by rw [← q']; exact hocd)
theorem store_ok {M : Model} {A : Around} {E : Value → Shared → Prop} {i : Nat} {x : Str} {v : V} {u : Value} {Q : Unit → Shared → Prop} (I : Inv X pins σ H s) (hN : X.N.Nodup) (hi : X.N[i]? = some x) (hx : Loc X.env.scope x) (r : RelV v u)
    (h : ∀ s', Inv X pins (σ.set i (some v)) H s' → Q () s') (hf : X.fn x = true ∨ X.env.scope.names.lookup x = some .local := by first | exact .inl rfl | exact .inr rfl | assumption) : wpAny M A (storeName X.env x u) Q E s :=
  store_ok2 I hN hi hx r (fun s' I' _ => h s' I') hf
theorem Inv.call' {s' : Shared} {ch : List Addr} (I : Inv X pins σ H s) (ho : s'.os = s.os) (u : Un (frs X.stack) ch H H' s.heap s'.heap) (hok : HOk X.prog X.w H' s'.heap) (hg : AllBare s'.gens)
    (hch : ∀ b ∈ ch, (b ∈ X.ex ∨ X.s₀.heap.objs.size ≤ b) ∧ b ≠ X.env.locals ∧ (∀ x c, X.env.cells.lookup x = some c → c ≠ b) ∧ ∀ p ∈ X.pn ++ pins, p.1 ≠ b) : Inv X pins σ H' s' := by
  obtain ⟨h', g', d', t', o'⟩ := s'
  have e : o' = s.os := ho
  subst e
  exact I.call (g' := g') (t' := t') (d' := d') u hok hg hch
end
noncomputable abbrev XK := Value → Option Addr → Hp → Prop
noncomputable abbrev St := List (Option V)
noncomputable abbrev VK := V → Hp → Prop
noncomputable abbrev TE := St → Hp → VK → Prop
noncomputable abbrev TT := St → Hp → (Bool → Hp → Prop) → Prop
noncomputable abbrev TA := St → Hp → (List V → Hp → Prop) → Prop
structure Ends where
  nx : St → Hp → Prop
  rt : VK
  bk : St → Hp → Prop := fun _ _ => False
  ct : St → Hp → Prop := fun _ _ => False
noncomputable abbrev TS := Ends → St → Hp → Prop
noncomputable def EP (X : Cx) (pins : List (Addr × Obj)) (σ : St) (Q : VK) (u : Value) (s' : Shared) : Prop := ∃ v H', Inv X pins σ H' s' ∧ RelV v u ∧ Q v H'
noncomputable def TP (X : Cx) (pins : List (Addr × Obj)) (σ : St) (Q : Bool → Hp → Prop) (b : Bool) (s' : Shared) : Prop := ∃ H', Inv X pins σ H' s' ∧ Q b H'
noncomputable def AP (X : Cx) (pins : List (Addr × Obj)) (σ : St) (Q : List V → Hp → Prop) (us : List Value) (s' : Shared) : Prop := ∃ vs H', Inv X pins σ H' s' ∧ Vals vs us ∧ Q vs H'
noncomputable def SP (X : Cx) (pins : List (Addr × Obj)) (D : Ends) (f : Flow) (s' : Shared) : Prop :=
  match f with
  | .next => ∃ σ' H', Inv X pins σ' H' s' ∧ D.nx σ' H'
  | .brk => ∃ σ' H', Inv X pins σ' H' s' ∧ D.bk σ' H'
  | .cont => ∃ σ' H', Inv X pins σ' H' s' ∧ D.ct σ' H'
  | .ret u => ∃ v σ' H', Inv X pins σ' H' s' ∧ RelV v u ∧ D.rt v H'
noncomputable def PE (X : Cx) (e : Expr) (t : TE) : Prop :=
  ∀ (pins : List (Addr × Obj)) (s : Shared) (σ : St) (H : Hp) (Q : VK), Inv X pins σ H s → t σ H Q → wpAny (model X.prog X.w) X.A (eval e X.env) (EP X pins σ Q) X.xe s
noncomputable def PT (X : Cx) (e : Expr) (t : TT) : Prop :=
  ∀ (pins : List (Addr × Obj)) (s : Shared) (σ : St) (H : Hp) (Q : Bool → Hp → Prop), Inv X pins σ H s → t σ H Q → wpAny (model X.prog X.w) X.A (isTrue e X.env (eval e X.env)) (TP X pins σ Q) X.xe s
noncomputable def PW (X : Cx) (e : Expr) (t : TT) : Prop :=
  ∀ (whole : Sem Value) (pins : List (Addr × Obj)) (s : Shared) (σ : St) (H : Hp) (Q : Bool → Hp → Prop), Inv X pins σ H s → t σ H Q → wpAny (model X.prog X.w) X.A (isTrue e X.env whole) (TP X pins σ Q) X.xe s
theorem PW.pt {X : Cx} {e : Expr} {t : TT} (h : PW X e t) : PT X e t := h _
noncomputable def PA (X : Cx) (es : List Expr) (t : TA) : Prop :=
  ∀ (pos : Pos) (pins : List (Addr × Obj)) (s : Shared) (σ : St) (H : Hp) (Q : List V → Hp → Prop), Inv X pins σ H s → t σ H Q → wpAny (model X.prog X.w) X.A (spliced (backTo pos (starEach es X.env))) (AP X pins σ Q) X.xe s
noncomputable def PS (X : Cx) (st : Stmt) (t : TS) : Prop :=
  ∀ (pins : List (Addr × Obj)) (s : Shared) (σ : St) (H : Hp) (D : Ends), Inv X pins σ H s → t D σ H → wpAny (model X.prog X.w) X.A (exec st X.env) (SP X pins D) X.xe s
noncomputable def PSs (X : Cx) (st : List Stmt) (t : TS) : Prop :=
  ∀ (pins : List (Addr × Obj)) (s : Shared) (σ : St) (H : Hp) (D : Ends), Inv X pins σ H s → t D σ H → wpAny (model X.prog X.w) X.A (execs st X.env) (SP X pins D) X.xe s
theorem thn {α : Type} {t : Sem α} {Q Q' : α → Shared → Prop} {M : Model} {A : Around} {E : Value → Shared → Prop} {s : Shared} (h : wpAny M A t Q E s) (hQ : ∀ a s, Q a s → Q' a s) : wpAny M A t Q' E s := wpAny_mono h hQ fun _ _ x => x
end L2
namespace L2
open PySem PySem.Spec PyProof.Rows
section
variable {X : Cx}
noncomputable def tVar (i : Nat) : TE := fun σ H Q => ∃ v, σ[i]? = some (some v) ∧ Q v H
noncomputable def tC (v : V) : TE := fun _ H Q => Q v H
theorem pe_var {i : Nat} {x : Str} {pos : Pos} (hN : X.N[i]? = some x) (hv : Vis X.env.scope x) (hd : (x == ("__debug__" : Str)) = false := by decide) (hcd : (x == ("__classdict__" : Str)) = false := by decide) : PE X (.Name x pos) (tVar i) := by
  intro pins s σ H Q I h
  obtain ⟨v, e, h⟩ := h
  obtain ⟨m, hn, hl⟩ := I.loc
  obtain ⟨u, r, l⟩ := hl i x v hN e hv
  have fin : EP X pins σ Q u s := ⟨v, H, I, r, h⟩
  rcases l with ⟨hk, hm⟩ | ⟨hk, c, hc, hcell⟩
  · exact wpAny_Name (wpAny_loadName_local I.ok.kind hk hn hm fin) hd
  · rcases hk with hk | hk
    · exact wpAny_Name (wpAny_loadName_cell I.ok.kind hk hc hcell fin) hd
    · exact wpAny_Name (wpAny_loadName_free I.ok.kind hk hc hcell fin hcd) hd
theorem pe_int {i j pos} : PE X (.Constant (.int i) j pos) (tC (.int i)) := fun _ _ _ H _ I h => wpAny_Constant_int ⟨.int i, H, I.tok _, ⟨_, rfl⟩, h⟩
theorem pe_bl {b j pos} : PE X (.Constant (.bool b) j pos) (tC (.bl b)) := fun _ _ _ H _ I h => Constant_bool ⟨.bl b, H, I, rfl, h⟩
theorem pe_non {j pos} : PE X (.Constant .none j pos) (tC .non) := fun _ _ _ H _ I h => Constant_none ⟨.non, H, I, rfl, h⟩
theorem pe_str {x j pos} : PE X (.Constant (.str x) j pos) (tC (.str x)) := fun _ _ _ H _ I h => Calls.Constant_str ⟨.str x, H, I.tok _, ⟨_, rfl⟩, h⟩
noncomputable def Gl (X : Cx) (x : Str) : Prop := X.env.kindOf x = some .globalImplicit
theorem ld_glob {E : Value → Shared → Prop} {pins : List (Addr × Obj)} {s : Shared} {σ : St} {H : Hp} {x : Str} {u : Value} {pos : Pos} {Q : Value → Shared → Prop} (I : Inv X pins σ H s) (hg : Gl X x) (hm : X.mg x = some u) (h : Q u s)
    (hd : (x == ("__debug__" : Str)) = false := by decide) : wpAny (model X.prog X.w) X.A (eval (.Name x pos) X.env) Q E s :=
  Calls.Name_function_global I.ok.kind hg (Calls.loadGlobal_global (by rw [I.ok.glob]; exact I.mod.glob.keeps I.bk) hm h) hd
theorem ld_blt {E : Value → Shared → Prop} {pins : List (Addr × Obj)} {s : Shared} {σ : St} {H : Hp} {x : Str} {u : Value} {pos : Pos} {Q : Value → Shared → Prop} (I : Inv X pins σ H s) (hg : Gl X x) (hm : X.mg x = none) (hv : bootBuiltins x = some u) (h : Q u s)
    (hn : x ≠ "__name__" := by decide) (hd : (x == ("__debug__" : Str)) = false := by decide) : wpAny (model X.prog X.w) X.A (eval (.Name x pos) X.env) Q E s := by
  obtain ⟨mb, h1, h2⟩ := I.mod.blt
  exact Calls.Name_function_global I.ok.kind hg (Calls.loadGlobal_builtin (by rw [I.ok.glob]; exact I.mod.glob.keeps I.bk) hm (by rw [I.ok.blt]; exact h1.keeps I.bk) ((h2 x hn).trans hv) h) hd
theorem pe_glob {x : Str} {v : V} {u : Value} {pos : Pos} (hg : Gl X x) (hm : X.mg x = some u) (r : RelV v u) (hd : (x == ("__debug__" : Str)) = false := by decide) : PE X (.Name x pos) (tC v) :=
  fun _ _ _ H _ I h => ld_glob I hg hm ⟨v, H, I, r, h⟩ hd
theorem pe_bltn {x : Str} {v : V} {u : Value} {pos : Pos} (hg : Gl X x) (hm : X.mg x = none) (hv : bootBuiltins x = some u) (r : RelV v u) (hn : x ≠ "__name__" := by decide) (hd : (x == ("__debug__" : Str)) = false := by decide) : PE X (.Name x pos) (tC v) :=
  fun _ _ _ H _ I h => ld_blt I hg hm hv ⟨v, H, I, r, h⟩ hn hd
variable {a b : Expr} {ta tb : TE} {pos : Pos}
noncomputable def PC (X : Cx) (op : CmpOp) (a b : Expr) (t : TE) : Prop :=
  ∀ (pins : List (Addr × Obj)) (s : Shared) (σ : St) (H : Hp) (Q : VK), Inv X pins σ H s → t σ H Q →
    wpAny (model X.prog X.w) X.A (eval a X.env) (fun v s₁ => wpAny (model X.prog X.w) X.A (eval b X.env) (fun u s₂ => wpAny (model X.prog X.w) X.A (compareOp op v u) (EP X pins σ Q) X.xe s₂) X.xe s₁) X.xe s
theorem nobehind (b : Expr) {op : CmpOp} (h : op ≠ .In) (h2 : op ≠ .NotIn) : behindInMarks op b = false := by
  have e1 : (op == CmpOp.In) = false := by cases op <;> first | rfl | exact absurd rfl h
  have e2 : (op == CmpOp.NotIn) = false := by cases op <;> first | rfl | exact absurd rfl h2
  cases b <;> simp [behindInMarks, e1, e2]
noncomputable def tIsN (ta : TE) : TE := fun σ H Q => ta σ H fun x H1 => Q (.bl (decide (x = .non))) H1
noncomputable def tNotN (ta : TE) : TE := fun σ H Q => ta σ H fun x H1 => Q (.bl (!decide (x = .non))) H1
theorem RelV.none_iff {x : V} {v : Value} (r : RelV x v) : (v == Value.none) = decide (x = .non) := by
  cases x with
  | non => cases r; rfl
  | bl _ => cases r; rfl
  | int _ => obtain ⟨t, rfl⟩ := r; rfl
  | str _ => obtain ⟨t, rfl⟩ := r; rfl
  | byt _ => obtain ⟨t, rfl⟩ := r; rfl
  | flt _ => obtain ⟨t, rfl⟩ := r; rfl
  | ref _ => cases r; rfl
  | ty _ => cases r; rfl
theorem pc_isN {j pos'} (ha : PE X a ta) : PC X .Is a (.Constant .none j pos') (tIsN ta) := by
  intro pins s σ H Q I h
  refine thn (ha pins s σ H _ I h) fun v s1 hz => ex5 hz fun x H1 I1 r1 q1 => ?_
  exact Constant_none (is_none_gen ⟨.bl _, H1, I1, by rw [r1.none_iff]; rfl, q1⟩)
theorem pc_notN {j pos'} (ha : PE X a ta) : PC X .IsNot a (.Constant .none j pos') (tNotN ta) := by
  intro pins s σ H Q I h
  refine thn (ha pins s σ H _ I h) fun v s1 hz => ex5 hz fun x H1 I1 r1 q1 => ?_
  exact Constant_none (isnot_none_gen ⟨.bl _, H1, I1, by rw [r1.none_iff]; rfl, q1⟩)
noncomputable def tB (t : TE) : TT := fun σ H Q => t σ H fun x H1 => ∃ c, x = .bl c ∧ Q c H1
theorem pe_cmp {op : CmpOp} {t : TE} (h : PC X op a b t) (h1 : behindInMarks op b = false := by first | exact nobehind _ (by decide) (by decide) | rfl) : PE X (.Compare a [op] [b] pos) t := fun pins s σ H Q I hw => wpAny_Compare1 (h pins s σ H Q I hw) h1
theorem pt_cmp {op : CmpOp} {t : TE} (h : PC X op a b t) (h1 : behindInMarks op b = false := by first | exact nobehind _ (by decide) (by decide) | rfl) : PT X (.Compare a [op] [b] pos) (tB t) := by
  intro pins s σ H Q I hw
  refine wpAny_isTrue_Compare1 (thn (h pins s σ H _ I hw) fun v s1 h1 => thn h1 fun u s2 h2 => thn h2 fun c s3 hz => ex5 hz fun x H1 I1 r1 q1 => ?_) h1
  obtain ⟨d, rfl, q⟩ := q1
  cases r1
  exact wpAny_truthy_bool ⟨H1, I1, q⟩
theorem pt_val {e : Expr} {t : TE} (h : PE X e t) (he : ∀ whole, isTrue e X.env whole = (do let v ← whole; standAt e.pos; holding [v] (truthy v)) := by intro _; rfl) : PT X e (tB t) := by
  intro pins s σ H Q I hw
  refine isTrue_plain (thn (h pins s σ H _ I hw) fun v s1 hz => ex5 hz fun x H1 I1 r1 q1 => ?_) (he _)
  obtain ⟨d, rfl, q⟩ := q1
  cases r1
  exact wpAny_truthy_bool ⟨H1, I1, q⟩
variable {tA tB' : TT} {rest : List Expr}
noncomputable def tAnd (t u : TT) : TT := fun σ H Q => t σ H fun c H1 => if c = true then u σ H1 Q else Q false H1
noncomputable def tOr (t u : TT) : TT := fun σ H Q => t σ H fun c H1 => if c = true then Q true H1 else u σ H1 Q
noncomputable def tNot (t : TT) : TT := fun σ H Q => t σ H fun c H1 => Q (!c) H1
theorem pw_and1 (ha : PT X a tA) : PW X (.BoolOp .And [a] pos) tA := by
  intro wh pins s σ H Q I h
  refine isTrue_and (thn (ha pins s σ H Q I h) fun c s1 e => ?_)
  cases c with
  | true => exact isTrue_and_nil e
  | false => exact e
theorem pw_or1 (ha : PT X a tA) : PW X (.BoolOp .Or [a] pos) tA := by
  intro wh pins s σ H Q I h
  refine isTrue_or (thn (ha pins s σ H Q I h) fun c s1 e => ?_)
  cases c with
  | false => exact isTrue_or_nil e
  | true => exact e
theorem pw_and (ha : PT X a tA) (hb : PW X (.BoolOp .And (b :: rest) pos) tB') : PW X (.BoolOp .And (a :: b :: rest) pos) (tAnd tA tB') := by
  intro wh pins s σ H Q I h
  refine isTrue_and (thn (ha pins s σ H _ I h) fun c s1 hz => ex3 hz fun H1 I1 q1 => ?_)
  cases c with
  | true => exact hb wh pins s1 σ H1 Q I1 q1
  | false => exact ⟨H1, I1, q1⟩
theorem pw_or (ha : PT X a tA) (hb : PW X (.BoolOp .Or (b :: rest) pos) tB') : PW X (.BoolOp .Or (a :: b :: rest) pos) (tOr tA tB') := by
  intro wh pins s σ H Q I h
  refine isTrue_or (thn (ha pins s σ H _ I h) fun c s1 hz => ex3 hz fun H1 I1 q1 => ?_)
  cases c with
  | true => exact ⟨H1, I1, q1⟩
  | false => exact hb wh pins s1 σ H1 Q I1 q1
theorem pt_not (ha : PT X a tA) : PT X (.UnaryOp .Not a pos) (tNot tA) := by
  intro pins s σ H Q I h
  exact isTrue_not (ha pins s σ H (fun c H1 => Q (!c) H1) I h)
noncomputable def tAndV (ta tb : TE) : TE := fun σ H Q => ta σ H fun x H1 => ∃ c, x = .bl c ∧ if c = true then tb σ H1 Q else Q (.bl false) H1
noncomputable def tOrV (ta tb : TE) : TE := fun σ H Q => ta σ H fun x H1 => ∃ c, x = .bl c ∧ if c = true then Q (.bl true) H1 else tb σ H1 Q
noncomputable def tNotV (ta : TE) : TE := fun σ H Q => ta σ H fun x H1 => ∃ c, x = .bl c ∧ Q (.bl (!c)) H1
theorem pe_one {op} {t : TE} (h : PE X a t) : PE X (.BoolOp op [a] pos) t := fun pins s σ H Q I hw => BoolOp_one (h pins s σ H Q I hw)
theorem pe_and (ha : PE X a ta) (hb : PE X (.BoolOp .And (b :: rest) pos) tb) : PE X (.BoolOp .And (a :: b :: rest) pos) (tAndV ta tb) := by
  intro pins s σ H Q I h
  refine BoolOp_and (thn (ha pins s σ H _ I h) fun v s1 hz => ex5 hz fun x H1 I1 r1 q1 => ?_)
  obtain ⟨c, rfl, q1⟩ := q1
  cases r1
  refine wpAny_truthy_bool ?_
  cases c with
  | true => exact hb pins s1 σ H1 Q I1 q1
  | false => exact ⟨.bl false, H1, I1, rfl, q1⟩
theorem pe_or (ha : PE X a ta) (hb : PE X (.BoolOp .Or (b :: rest) pos) tb) : PE X (.BoolOp .Or (a :: b :: rest) pos) (tOrV ta tb) := by
  intro pins s σ H Q I h
  refine BoolOp_or (thn (ha pins s σ H _ I h) fun v s1 hz => ex5 hz fun x H1 I1 r1 q1 => ?_)
  obtain ⟨c, rfl, q1⟩ := q1
  cases r1
  refine wpAny_truthy_bool ?_
  cases c with
  | false => exact hb pins s1 σ H1 Q I1 q1
  | true => exact ⟨.bl true, H1, I1, rfl, q1⟩
theorem pe_not (ha : PE X a ta) : PE X (.UnaryOp .Not a pos) (tNotV ta) := by
  intro pins s σ H Q I h
  refine UnaryOp_ (thn (ha pins s σ H _ I h) fun v s1 hz => ex5 hz fun x H1 I1 r1 q1 => ?_)
  obtain ⟨c, rfl, q1⟩ := q1
  cases r1
  exact not_of (wpAny_truthy_bool ⟨.bl (!c), H1, I1, rfl, q1⟩)
noncomputable def tIf (t : TT) (ta tb : TE) : TE := fun σ H Q => t σ H fun c H1 => if c = true then ta σ H1 Q else tb σ H1 Q
theorem pe_ifExp {c : Expr} (hc : PT X c tA) (ha : PE X a ta) (hb : PE X b tb) : PE X (.IfExp c a b pos) (tIf tA ta tb) := by
  intro pins s σ H Q I h
  refine wpAny_IfExp (thn (hc pins s σ H _ I h) fun d s1 hz => ex3 hz fun H1 I1 q1 => ?_)
  cases d with
  | true => exact ha pins s1 σ H1 Q I1 q1
  | false => exact hb pins s1 σ H1 Q I1 q1
end
end L2
namespace L2
open PySem PySem.Spec PyProof.Rows
noncomputable def SqL (K : PySem.W.Frag) (H : Hp) (a : Addr) (xs : List V) : Prop :=
  Rd H a (.lst xs) ∨
    ∃ (o : Obj) (its : Array Value) (n : Nat), K.lookup a = some o ∧ o.cls = .type "list" ∧ o.dict = none ∧ o.data = .seq its n ∧ its.size ≤ sizeLine ∧ Vals xs its.toList
noncomputable def SqT (K : PySem.W.Frag) (H : Hp) (a : Addr) (xs : List V) : Prop :=
  Rd H a (.tup xs) ∨
    ∃ (o : Obj) (its : Array Value) (n : Nat), K.lookup a = some o ∧ o.cls = .type "tuple" ∧ o.data = .seq its n ∧ its.size ≤ sizeLine ∧ Vals xs its.toList
noncomputable def absV : Value → Option V
  | .none => some .non
  | .bool b => some (.bl b)
  | .int i _ => some (.int i)
  | .str x _ => some (.str x)
  | .bytes b _ => some (.byt b)
  | .float b _ => some (.flt b)
  | .ref a => some (.ref a)
  | .type n => some (.ty n)
  | _ => none
theorem RelV.abs {x : V} {u : Value} (r : RelV x u) : absV u = some x := by
  cases x with
  | non => cases r; rfl
  | bl _ => cases r; rfl
  | int _ => obtain ⟨t, rfl⟩ := r; rfl
  | str _ => obtain ⟨t, rfl⟩ := r; rfl
  | byt _ => obtain ⟨t, rfl⟩ := r; rfl
  | flt _ => obtain ⟨t, rfl⟩ := r; rfl
  | ref _ => cases r; rfl
  | ty _ => cases r; rfl
theorem RelV.inj {x y : V} {u : Value} (r : RelV x u) (q : RelV y u) : x = y := Option.some.inj (r.abs.symm.trans q.abs)
theorem Vals.inj : ∀ {xs ys : List V} {us : List Value}, Vals xs us → Vals ys us → xs = ys
  | _, _, _, .nil, .nil => rfl
  | _, _, _, .cons r t, .cons r' t' => by rw [r.inj r', Vals.inj t t']
section
variable {X : Cx} {pins : List (Addr × Obj)} {σ : St} {H : Hp} {s : Shared} {a : Addr} {xs ys : List V}
theorem SqL.of {K : PySem.W.Frag} (h : H a = some (.lst xs)) : SqL K H a xs := .inl (.inl h)
theorem SqT.of {K : PySem.W.Frag} (h : H a = some (.tup xs)) : SqT K H a xs := .inl (.inl h)
theorem Inv.list (I : Inv X pins σ H s) (h : SqL X.K H a xs) : ∃ its : List Value, Vals xs its ∧ PlainL s.heap a its.toArray ∧ xs.length ≤ sizeLine := by
  rcases h with h | ⟨o, its, n, hk, hc, hd, hs, hz, r⟩
  · obtain ⟨z, its, n, r, e⟩ := h.ok I.hok
    exact ⟨its, r, ⟨_, n, e, rfl, rfl, rfl⟩, z⟩
  · refine ⟨its.toList, r, ⟨o, n, I.kIn a o hk, hc, hd, by simpa using hs⟩, ?_⟩
    have e := r.length
    simp only [Array.length_toList] at e
    lia
theorem Inv.tuple (I : Inv X pins σ H s) (h : SqT X.K H a xs) : ∃ its : List Value, Vals xs its ∧ IsTup s.heap a its.toArray ∧ xs.length ≤ sizeLine := by
  rcases h with h | ⟨o, its, n, hk, hc, hs, hz, r⟩
  · obtain ⟨z, its, r, p⟩ := h.ok I.hok
    exact ⟨its, r, p, z⟩
  · refine ⟨its.toList, r, ⟨o, I.kIn a o hk, hc, n, by simpa using hs⟩, ?_⟩
    have e := r.length
    simp only [Array.length_toList] at e
    lia
theorem Inv.list_inj (I : Inv X pins σ H s) (h : SqL X.K H a xs) (h' : SqL X.K H a ys) : xs = ys := by
  obtain ⟨its, r, ⟨o, n, e, _, _, d⟩, _⟩ := I.list h
  obtain ⟨its', r', ⟨o', n', e', _, _, d'⟩, _⟩ := I.list h'
  rw [e] at e'; cases e'
  rw [d] at d'
  injection d' with d1 _
  have : its = its' := by simpa using congrArg Array.toList d1
  subst this
  exact r.inj r'
end
noncomputable abbrev Cx.wish (X : Cx) (E : Value → Shared → Prop) : Cx := { X with xe := E }
noncomputable abbrev Cx.nox (X : Cx) : Cx := X.wish fun _ _ => False
theorem Cx.Ok.wish {X : Cx} (ok : X.Ok) (E : Value → Shared → Prop) : (X.wish E).Ok :=
  ⟨ok.mod, ok.kind, ok.glob, ok.blt, ok.above, ok.inj, ok.has, ok.cab, ok.hd, ok.frames, ok.stk, ok.exf, ok.bs, ok.bsz, ok.noex, ok.exfs, ok.funs, ok.frf⟩
theorem Cx.Ok.unwish {X : Cx} {E : Value → Shared → Prop} (ok : (X.wish E).Ok) : X.Ok :=
  ⟨ok.mod, ok.kind, ok.glob, ok.blt, ok.above, ok.inj, ok.has, ok.cab, ok.hd, ok.frames, ok.stk, ok.exf, ok.bs, ok.bsz, ok.noex, ok.exfs, ok.funs, ok.frf⟩
section
variable {X : Cx} {pins : List (Addr × Obj)} {σ : St} {H : Hp} {s : Shared} {E : Value → Shared → Prop}
theorem Inv.wish (I : Inv X pins σ H s) (E : Value → Shared → Prop) : Inv (X.wish E) pins σ H s := ⟨I.ok.wish E, I.os, I.bare, I.base, I.loc, I.cell, I.free, I.freeC, I.pin, I.hok, I.len⟩
theorem Inv.unwish (I : Inv (X.wish E) pins σ H s) : Inv X pins σ H s := ⟨I.ok.unwish, I.os, I.bare, I.base, I.loc, I.cell, I.free, I.freeC, I.pin, I.hok, I.len⟩
theorem SP.unwish {D : Ends} {f : Flow} {s' : Shared} (h : SP (X.wish E) pins D f s') : SP X pins D f s' := by
  cases f with
  | next => obtain ⟨σ', H', I, q⟩ := h; exact ⟨σ', H', I.unwish, q⟩
  | brk => obtain ⟨σ', H', I, q⟩ := h; exact ⟨σ', H', I.unwish, q⟩
  | cont => obtain ⟨σ', H', I, q⟩ := h; exact ⟨σ', H', I.unwish, q⟩
  | ret u => obtain ⟨v, σ', H', I, r, q⟩ := h; exact ⟨v, σ', H', I.unwish, r, q⟩
theorem PSs.nox {st : List Stmt} {t : TS} (h : PSs X.nox st t) : PSs X st t := fun pins s σ H D I hw =>
  wpAny_mono (h pins s σ H D (I.wish _) hw) (fun _ _ q => q.unwish) fun _ _ z => False.elim z
end
section
variable {X : Cx} {st : Stmt} {rest : List Stmt} {t u : TS} {e : Expr} {te : TE} {pos : Pos}
noncomputable def tNext : TS := fun D σ H => D.nx σ H
noncomputable def tSeq (t u : TS) : TS := fun D σ H => t { D with nx := u D } σ H
theorem pss_nil : PSs X [] tNext := fun _ _ σ H _ I h => wpAny_execs_nil ⟨σ, H, I, h⟩
theorem pss_cons (h1 : PS X st t) (h2 : PSs X rest u) : PSs X (st :: rest) (tSeq t u) := by
  intro pins s σ H D I h
  refine wpAny_execs_cons (thn (h1 pins s σ H { D with nx := u D } I h) fun f s1 q => ?_)
  cases f with
  | next =>
    obtain ⟨σ', H', I', q⟩ := q
    exact h2 pins s1 σ' H' D I' q
  | ret v => exact q
  | brk => exact q
  | cont => exact q
theorem pss_one (h1 : PS X st t) : PSs X [st] t := by
  intro pins s σ H D I h
  refine wpAny_execs_cons (thn (h1 pins s σ H D I h) fun f s1 q => ?_)
  cases f with
  | next => exact wpAny_execs_nil q
  | ret v => exact q
  | brk => exact q
  | cont => exact q
theorem Inv.quiet {pins : List (Addr × Obj)} {σ : St} {H : Hp} {s : Shared} (I : Inv X pins σ H s) : interactive X.env = false := by simp [interactive, I.ok.kind]
noncomputable def tDrop (te : TE) : TS := fun D σ H => te σ H fun _ H1 => D.nx σ H1
theorem ps_expr (he : PE X e te) (hs : swapsWith e none pos.line X.env = pure false := by rfl) : PS X (.Expr e pos) (tDrop te) := by
  intro pins s σ H D I h
  exact wpAny_Expr_any (thn (he pins s σ H _ I h) fun v s1 hz => ex5 hz fun x H1 I1 r1 q1 => ⟨σ, H1, I1, q1⟩) I.quiet hs
noncomputable def tRet (te : TE) : TS := fun D σ H => te σ H D.rt
theorem ps_ret (he : PE X e te) : PS X (.Return (some e) pos) (tRet te) := by
  intro pins s σ H D I h
  exact wpAny_Return_some (thn (he pins s σ H _ I h) fun v s1 hz => ex5 hz fun x H1 I1 r1 q1 => ⟨x, σ, H1, I1, r1, q1⟩)
noncomputable def tIfS (c : TT) (t u : TS) : TS := fun D σ H => c σ H fun b H1 => if b = true then t D σ H1 else u D σ H1
theorem ps_if {c : Expr} {a b : List Stmt} {tc : TT} (hc : PT X c tc) (ha : PSs X a t) (hb : PSs X b u) : PS X (.If c a b pos) (tIfS tc t u) := by
  intro pins s σ H D I h
  refine wpAny_If (thn (hc pins s σ H _ I h) fun d s1 hz => ex3 hz fun H1 I1 q1 => ?_)
  cases d with
  | true => exact ha pins s1 σ H1 D I1 q1
  | false => exact hb pins s1 σ H1 D I1 q1
end
noncomputable abbrev TG := V → St → Hp → (St → Hp → Prop) → Prop
noncomputable abbrev TGs := List V → St → Hp → (St → Hp → Prop) → Prop
noncomputable def PG (X : Cx) (target : Expr) (t : TG) : Prop :=
  ∀ (pins : List (Addr × Obj)) (s : Shared) (σ : St) (H : Hp) (v : V) (u : Value) (Q : St → Hp → Prop), Inv X pins σ H s → RelV v u → t v σ H Q →
    wpAny (model X.prog X.w) X.A (assign target X.env u) (fun _ s' => ∃ σ' H', Inv X pins σ' H' s' ∧ Q σ' H') X.xe s
noncomputable def PGs (X : Cx) (ts : List Expr) (t : TGs) : Prop :=
  ∀ (pins : List (Addr × Obj)) (s : Shared) (σ : St) (H : Hp) (vs : List V) (us : List Value) (Q : St → Hp → Prop), Inv X pins σ H s → Vals vs us → t vs σ H Q →
    wpAny (model X.prog X.w) X.A (assignInOrder ((assignEach ts X.env).map (·.2)) us) (fun _ s' => ∃ σ' H', Inv X pins σ' H' s' ∧ Q σ' H') X.xe s
noncomputable abbrev TSet := V → V → V → Hp → (Hp → Prop) → Prop
noncomputable def PSet (X : Cx) (t : TSet) : Prop :=
  ∀ (pins : List (Addr × Obj)) (s : Shared) (σ : St) (H : Hp) (o i v : V) (ov iv u : Value) (Q : Hp → Prop), Inv X pins σ H s → RelV o ov → RelV i iv → RelV v u → t o i v H Q →
    wpAny (model X.prog X.w) X.A (setItem ov iv u) (fun _ s' => ∃ H', Inv X pins σ H' s' ∧ Q H') X.xe s
section
variable {X : Cx} {pos : Pos}
noncomputable def gName (i : Nat) : TG := fun v σ H Q => Q (σ.set i (some v)) H
theorem pg_name {i : Nat} {x : Str} (hN : X.N.Nodup) (hi : X.N[i]? = some x) (hx : Loc X.env.scope x) (hf : X.fn x = true ∨ X.env.scope.names.lookup x = some .local := by first | exact .inl rfl | exact .inr rfl | assumption) : PG X (.Name x pos) (gName i) := by
  intro pins s σ H v u Q I r h
  exact wpAny_assign_Name (store_ok I hN hi hx r (fun s' I' => ⟨_, H, I', h⟩) hf)
noncomputable def gNil : TGs := fun vs σ H Q => vs = [] ∧ Q σ H
noncomputable def gCons (t : TG) (u : TGs) : TGs := fun vs σ H Q => ∃ v r, vs = v :: r ∧ t v σ H fun σ' H' => u r σ' H' Q
theorem pgs_nil : PGs X [] gNil := by
  intro pins s σ H vs us Q I r h
  obtain ⟨e, h⟩ := h
  subst e
  cases r
  exact assignInOrder_nil ⟨σ, H, I, h⟩
theorem pgs_cons {e : Expr} {es : List Expr} {t : TG} {u : TGs} (h1 : PG X e t) (h2 : PGs X es u)
    (hs : (assignEach (e :: es) X.env).map (·.2) = assign e X.env :: (assignEach es X.env).map (·.2) := by rfl) : PGs X (e :: es) (gCons t u) := by
  intro pins s σ H vs us Q I r h
  obtain ⟨v, vr, e1, h⟩ := h
  subst e1
  cases r with
  | cons r rr =>
    rw [hs]
    refine assignInOrder_cons (thn (h1 pins s σ H _ _ _ I r h) fun _ s1 hz => ex4 hz fun σ1 H1 I1 q1 => ?_)
    exact h2 pins s1 σ1 H1 _ _ Q I1 rr q1
noncomputable def gTup (K : PySem.W.Frag) (n : Nat) (t : TGs) : TG := fun v σ H Q => ∃ a xs, v = .ref a ∧ SqT K H a xs ∧ xs.length = n ∧ t xs σ H Q
theorem pg_tup {es : List Expr} {k : Nat} {t : TGs} {n : Nat} (hc : X.calm = true) (h : PGs X es t)
    (hn : (assignEach es X.env).length = n := by rfl) (hst : (assignEach es X.env).findIdx? (·.1) = none := by rfl) : PG X (.Tuple es k pos) (gTup X.K n t) := by
  intro pins s σ H v u Q I r hw
  obtain ⟨a, xs, e1, hq, hl, hw⟩ := hw
  subst e1
  cases r
  obtain ⟨its, rv, ht, hz⟩ := I.tuple hq
  refine assign_Tuple_tuple (I.ok.hd hc) ht (by simp [hn, ← hl, rv.length]) hst fun h' hx => ?_
  have I1 : Inv X pins σ H { s with heap := h' } := I.kept (t' := s.toks) fun b o e => hx b o (Nat.ne_of_lt (Heap.lt_size e)) e
  exact h pins _ σ H xs _ Q I1 (by simpa using rv) hw
noncomputable def gSub (to ti : TE) (t : TSet) : TG := fun v σ H Q => to σ H fun o H1 => ti σ H1 fun i H2 => t o i v H2 fun H3 => Q σ H3
theorem pg_sub {o i : Expr} {to ti : TE} {t : TSet} (ho : PE X o to) (hi : PE X i ti) (hs : PSet X t)
    (ha : ∀ v, assign (.Subscript o i pos) X.env v = (do
      let ov ← holding [v] (eval o X.env)
      let iv ← holding [v, ov] (eval i X.env)
      standAt pos
      holding [v, ov, iv] (setItem ov iv v)
      release [v, ov, iv] []) := by intro _; rfl) : PG X (.Subscript o i pos) (gSub to ti t) := by
  intro pins s σ H v u Q I r h
  rw [ha]
  refine wpAny_bind (wpAny_holding (thn (ho pins s σ H _ I h) fun ov s1 hz => ex5 hz fun x H1 I1 r1 q1 => ?_))
  refine wpAny_bind (wpAny_holding (thn (hi pins s1 σ H1 _ I1 q1) fun iv s2 hz => ex5 hz fun y H2 I2 r2 q2 => ?_))
  refine wpAny_bind (wpAny_standAt (wpAny_bind (wpAny_holding (thn (hs pins s2 σ H2 x y v ov iv u _ I2 r1 r2 r q2) fun _ s3 hz => ex3 hz fun H3 I3 q3 => ?_))))
  exact wpAny_release ⟨σ, H3, I3, q3⟩
noncomputable def tAsg (te : TE) (g : TG) : TS := fun D σ H => te σ H fun x H1 => g x σ H1 D.nx
theorem ps_asg {tg e : Expr} {te : TE} {g : TG} (he : PE X e te) (hg : PG X tg g) (hs : swapsWithSole [tg] e pos.line X.env = pure false := by rfl) (hw : swappedStores [tg] e X.env = pure none := by rfl)
    (h1 : (assignEach [tg] X.env).map (·.2) = [assign tg X.env] := by rfl) : PS X (.Assign [tg] e pos) (tAsg te g) := by
  intro pins s σ H D I h
  refine wpAny_Assign_stores (thn (he pins s σ H _ I h) fun v s1 hz => ex5 hz fun x H1 I1 r1 q1 => ?_) hs hw
  rw [h1]
  exact thn (hg pins s1 σ H1 x v _ I1 r1 q1) fun _ s2 q => q
theorem ps_set {i : Nat} {x : Str} {e : Expr} {te : TE} {pos' : Pos} (hN : X.N.Nodup) (hi : X.N[i]? = some x) (hx : Loc X.env.scope x) (he : PE X e te) (hs : swapsWith e (some (.Name x pos')) pos.line X.env = pure false := by rfl) (hf : X.fn x = true ∨ X.env.scope.names.lookup x = some .local := by first | exact .inl rfl | exact .inr rfl | assumption) :
    PS X (.Assign [.Name x pos'] e pos) (tAsg te (gName i)) := by
  intro pins s σ H D I h
  refine wpAny_Assign_Name (thn (he pins s σ H _ I h) fun v s1 hz => ex5 hz fun y H1 I1 r1 q1 => ?_) hs
  exact store_ok I1 hN hi hx r1 (fun s2 I2 => ⟨_, H1, I2, q1⟩) hf
end
section
variable {X : Cx} {pos : Pos}
noncomputable def tWhile (c : TT) (tb : TS) : TS := fun D σ H => ∃ W : Nat → St → Hp → Prop, (∃ m, W m σ H) ∧ ∀ m σ H, W m σ H →
  c σ H fun b H1 => if b = true then ∃ N : St → Hp → Prop, (∀ σ' H', N σ' H' → ∃ m', m' < m ∧ W m' σ' H') ∧ tb { D with nx := N, ct := N, bk := D.nx } σ H1 else D.nx σ H1
theorem ps_while {c : Expr} {body : List Stmt} {tc : TT} {tb : TS} (hp : PassesOwn (model X.prog X.w) X.A X.env X.xe) (hc : PT X c tc) (hb : PSs X body tb) : PS X (.While c body [] pos) (tWhile tc tb) := by
  intro pins s σ H D I h
  obtain ⟨W, ⟨m0, w0⟩, turn⟩ := h
  refine wpAny_While (codeAny_whileLoop (fun n s' => ∃ σ' H', Inv X pins σ' H' s' ∧ W n σ' H') ?_ m0 ⟨σ, H, I, w0⟩)
  rintro n s1 ⟨σ1, H1, I1, w1⟩
  refine wpAny_passesOwn hp (thn (hc pins s1 σ1 H1 _ I1 (turn n σ1 H1 w1)) fun b s2 hz => ex3 hz fun H2 I2 q2 => ?_)
  cases b with
  | true =>
    obtain ⟨N, hN, q2⟩ := q2
    rw [if_pos rfl]
    refine wpAny_passesOwn hp (thn (hb pins s2 σ1 H2 _ I2 q2) fun f s3 q3 => ?_)
    cases f with
    | next =>
      obtain ⟨σ3, H3, I3, n3⟩ := q3
      obtain ⟨m', hm, w3⟩ := hN σ3 H3 n3
      exact ⟨m', hm, σ3, H3, I3, w3⟩
    | cont =>
      obtain ⟨σ3, H3, I3, n3⟩ := q3
      obtain ⟨m', hm, w3⟩ := hN σ3 H3 n3
      exact ⟨m', hm, σ3, H3, I3, w3⟩
    | brk => exact q3
    | ret v => exact q3
  | false =>
    rw [if_neg Bool.false_ne_true]
    exact wpAny_execs_nil ⟨σ1, H2, I2, q2⟩
end
structure It where
  go : Nat → Hp → Prop
  yld : Nat → Hp → V → Hp → Prop
  stop : Nat → Hp → Prop
noncomputable def FpOk (X : Cx) (pins : List (Addr × Obj)) (H : Hp) (b : Addr) : Prop :=
  H b = none ∧ b ≠ X.env.locals ∧ b ∉ X.fs ∧ (b ∈ X.ex ∨ X.s₀.heap.objs.size ≤ b) ∧ (∀ x c, X.env.cells.lookup x = some c → c ≠ b) ∧ ∀ p ∈ X.pn ++ pins, p.1 ≠ b
theorem Inv.fpOk {X : Cx} {pins : List (Addr × Obj)} {σ : St} {H H' : Hp} {s : Shared} {b : Addr} (I : Inv X pins σ H s) (hb : s.heap.objs.size ≤ b) (hn : H' b = none) : FpOk X pins H' b := by
  refine ⟨hn, Nat.ne_of_gt (Nat.lt_of_lt_of_le I.lt hb), I.nofs hb, .inr (Nat.le_trans I.sz hb), fun x c e z => ?_, fun p hp z => ?_⟩
  · obtain ⟨v, q⟩ := I.cell x c e
    exact absurd (Nat.lt_of_lt_of_le q.lt (by rw [z]; exact hb)) (Nat.lt_irrefl _)
  · exact absurd (Nat.lt_of_lt_of_le (Heap.lt_size (I.pin p hp).1) (by rw [z]; exact hb)) (Nat.lt_irrefl _)
structure Turn (P : Program) (w : World) (K : PySem.W.Frag) (tg : Expr) (J : It) (fp : List Addr) (it : Addr) (tn : Nat → Heap → Prop) : Prop where
  mem : it ∈ fp
  obj : ∀ i h, tn i h → ∀ b ∈ fp, ∃ o, h.get? b = some o ∧ ∀ v, o.data ≠ .cell v
  keep : ∀ i h h', tn i h → (∀ b ∈ fp, ∀ o, h.get? b = some o → h'.get? b = some o) → tn i h'
  item : ∀ (X : Cx), X.prog = P → X.w = w → X.K = K → X.calm = true → ∀ (i : Nat) (pins : List (Addr × Obj)) (s : Shared) (σ : St) (H : Hp) (E : Value → Shared → Prop), Inv X pins σ H s → (∀ b ∈ fp, FpOk X pins H b) → tn i s.heap → J.go i H →
    wpAny (model P w) X.A (pyNext (.ref it)) (fun r s1 => ∃ u, r = some u ∧
      wpAny (model P w) X.A (letOwnedTupleGo tg (.ref it) u) (fun _ s2 => ∃ x H', Inv X pins σ H' s2 ∧ RelV x u ∧ J.yld i H x H' ∧ tn (i + 1) s2.heap ∧ ∀ b ∈ fp, H' b = none) E s1) E s
  done : ∀ (X : Cx), X.prog = P → X.w = w → X.K = K → X.calm = true → ∀ (i : Nat) (pins : List (Addr × Obj)) (s : Shared) (σ : St) (H : Hp) (E : Value → Shared → Prop), Inv X pins σ H s → (∀ b ∈ fp, FpOk X pins H b) → tn i s.heap → J.stop i H →
    wpAny (model P w) X.A (pyNext (.ref it)) (fun r s1 => r = none ∧ Inv X pins σ H s1) E s
  self : ∀ (A : Around) (i : Nat) (s : Shared) (Q : Value → Shared → Prop) (E : Value → Shared → Prop), tn i s.heap → Q (.ref it) s → wpAny (model P w) A (pyIter (.ref it)) Q E s
noncomputable abbrev TI := St → Hp → (It → Hp → Prop) → Prop
noncomputable def PIE (X : Cx) (pins : List (Addr × Obj)) (σ : St) (tg : Expr) (R : It → Hp → Prop) (itv : Value) (s2 : Shared) : Prop :=
  ∃ (it : Addr) (fp : List Addr) (tn : Nat → Heap → Prop) (J : It) (H' : Hp), itv = .ref it ∧ Inv X pins σ H' s2 ∧ Turn X.prog X.w X.K tg J fp it tn ∧ tn 0 s2.heap ∧ (∀ b ∈ fp, FpOk X pins H' b) ∧ R J H'
noncomputable def PI (X : Cx) (tg iter : Expr) (wi : TI) : Prop :=
  ∀ (pins : List (Addr × Obj)) (s : Shared) (σ : St) (H : Hp) (R : It → Hp → Prop), Inv X pins σ H s → wi σ H R →
    wpAny (model X.prog X.w) X.A (eval iter X.env) (fun v s1 => wpAny (model X.prog X.w) X.A (pyIter v) (PIE X pins σ tg R) X.xe s1) X.xe s
theorem go_of {M : Model} {A : Around} {E : Value → Shared → Prop} {s : Shared} {tg : Expr} {it : Addr} {u : Value} {o : Obj} {n : String} {vs : Array Value} {Q : Unit → Shared → Prop} (ho : s.heap.get? it = some o) (hc : o.cls = .type n) (hd : o.data = .fields vs)
    (hn : ["enumerate", "zip", "dict_itemiterator", "dict_reverseitemiterator", "odict_iterator", "itertools.zip_longest", "itertools.pairwise"].contains n = false) (hQ : Q () s) : wpAny M A (letOwnedTupleGo tg (.ref it) u) Q E s := by
  unfold letOwnedTupleGo
  cases tg <;> first
    | exact wpAny_pure hQ
    | (cases u <;> first
        | exact wpAny_pure hQ
        | (refine wpAny_bind (wpAny_load ho ?_)
           rw [hc, hd]
           show wpAny M A (if (["enumerate", "zip", "dict_itemiterator", "dict_reverseitemiterator", "odict_iterator", "itertools.zip_longest", "itertools.pairwise"].contains n && vs[0]? == some (rawInt _)) = true then _ else _) Q E s
           rw [if_neg (by intro h; rw [hn, Bool.false_and] at h; cases h)]
           exact wpAny_pure hQ))
noncomputable def Itl (K : PySem.W.Frag) (a : Addr) : It :=
  ⟨fun i H => ∃ xs x, SqL K H a xs ∧ xs[i]? = some x, fun i H x H' => H' = H ∧ ∀ xs, SqL K H a xs → xs[i]? = some x, fun i H => ∃ xs, SqL K H a xs ∧ xs.length ≤ i⟩
noncomputable def Itr (lo : Int) (n : Nat) : It := ⟨fun i _ => i < n, fun i H x H' => H' = H ∧ x = .int (lo + i), fun i _ => n ≤ i⟩
theorem turn_list {P : Program} {w : World} {K : PySem.W.Frag} {tg : Expr} (a it : Addr) : Turn P w K tg (Itl K a) [it] it (fun i h => h.IsListIter it a i) where
  mem := by simp
  obj := fun i h st b hb => by
    have e : b = it := by simpa using hb
    subst e
    obtain ⟨o, e, c, d⟩ := st
    exact ⟨o, e, fun v z => by rw [d] at z; cases z⟩
  keep := fun i h h' st k => st.at fun o e => k it (by simp) o e
  item := by
    intro X hP hw hK hc i pins s σ H E I hf st hg
    subst hP hw hK
    obtain ⟨xs, x, hq, hx⟩ := hg
    obtain ⟨its, rv, p, hz⟩ := I.list hq
    obtain ⟨u, hu, ru⟩ := rv.get hx
    obtain ⟨f0, f1, f2, f3, f4, f5⟩ := hf it (by simp)
    refine wpAny_pyNext_list_item st p.isList (x := u) (by simpa using hu) fun h' st' sb => ?_
    have I1 : Inv X pins σ H { s with heap := h' } := I.turned (t' := s.toks) (fun b o hb e => (sb.2 b hb).trans e) f0 f1 f3 f4 f5
    obtain ⟨o, e, c, d⟩ := id st'
    exact ⟨u, rfl, go_of (s := { s with heap := h' }) e c d (by decide) ⟨x, H, I1, ru, ⟨rfl, fun ys hy => by rw [I.list_inj hy hq]; exact hx⟩, st', fun b hb => (hf b hb).1⟩⟩
  done := by
    intro X hP hw hK hc i pins s σ H E I hf st hg
    subst hP hw hK
    obtain ⟨xs, hq, hx⟩ := hg
    obtain ⟨its, rv, p, hz⟩ := I.list hq
    obtain ⟨f0, f1, f2, f3, f4, f5⟩ := hf it (by simp)
    have hl := rv.length
    exact wpAny_pyNext_list_end (I.ok.hd hc) st p.isList (by simp; lia) fun h' eb => ⟨rfl, I.turned (t' := s.toks) (fun b o hb e => eb b o hb e) f0 f1 f3 f4 f5⟩
  self := fun _ _ _ _ _ st h => wpAny_pyIter_listiter st h
theorem turn_range {P : Program} {w : World} {K : PySem.W.Frag} {tg : Expr} (it : Addr) (lo : Int) (n : Nat) : Turn P w K tg (Itr lo n) [it] it (fun i h => IsRangeIter h it (lo + (i : Nat) * 1) ((n : Int) - (i : Nat)) 1) where
  mem := by simp
  obj := fun i h st b hb => by
    have e : b = it := by simpa using hb
    subst e
    exact ⟨_, st, fun v z => by
      have z' : Data.fields _ = Data.cell v := z
      cases z'⟩
  keep := fun i h h' st k => k it (by simp) _ st
  item := by
    intro X hP hw hK hc i pins s σ H E I hf st hg
    subst hP hw hK
    obtain ⟨f0, f1, f2, f3, f4, f5⟩ := hf it (by simp)
    have W := Walks.range (prog := X.prog) (w := X.w) (I.ok.hd hc) it lo 1 n
    refine W.item i s _ _ hg st fun v h' tk hv st' kk => ?_
    obtain ⟨t, rfl⟩ := hv
    have I1 : Inv X pins σ H { s with heap := h', toks := tk } := I.turned (fun b o hb e => kk b o (by simpa using hb) e) f0 f1 f3 f4 f5
    refine ⟨_, rfl, go_of (s := { s with heap := h', toks := tk }) (n := "range_iterator") st' rfl rfl (by decide) ⟨.int (lo + i), H, I1, ⟨t, ?_⟩, ⟨rfl, rfl⟩, st', fun b hb => (hf b hb).1⟩⟩
    rw [Int.mul_one]
  done := by
    intro X hP hw hK hc i pins s σ H E I hf st hg
    subst hP hw hK
    obtain ⟨f0, f1, f2, f3, f4, f5⟩ := hf it (by simp)
    exact wpAny_pyNext_range_end (I.ok.hd hc) st (by have : n ≤ i := hg; lia) fun h' eb => ⟨rfl, I.turned (t' := s.toks) (fun b o hb e => eb b o hb e) f0 f1 f3 f4 f5⟩
  self := fun _ _ _ _ _ st h => wpAny_pyIter_rangeiter st h
end L2
namespace L2
open PySem PySem.Spec PyProof.Rows
section
variable {X : Cx} {tg : Expr}
noncomputable def iList (K : PySem.W.Frag) (tl : TE) : TI := fun σ H R => tl σ H fun x H1 => ∃ a, x = .ref a ∧ (∃ xs, SqL K H1 a xs) ∧ R (Itl K a) H1
theorem pi_list {l : Expr} {tl : TE} (hl : PE X l tl) : PI X tg l (iList X.K tl) := by
  intro pins s σ H R I h
  refine thn (hl pins s σ H _ I h) fun v s1 hz => ex5 hz fun x H1 I1 r1 q1 => ?_
  obtain ⟨a, e, ⟨xs, hq⟩, q⟩ := q1
  subst e
  cases r1
  obtain ⟨its, rv, p, hz⟩ := I1.list hq
  refine wpAny_pyIter_list p.isList ?_
  refine ⟨s1.heap.objs.size, [s1.heap.objs.size], _, _, H1, rfl, I1.kept (t' := s1.toks) fun b o e => Heap.get?_push_of_some _ e, turn_list a _, ⟨_, Heap.get?_push_size _ rfl, rfl, rfl⟩, fun b hb => ?_, q⟩
  have e : b = s1.heap.objs.size := by simpa using hb
  subst e
  exact I1.fpOk (Nat.le_refl _) (I1.hok.fresh (Nat.le_refl _))
theorem range_it {pins : List (Addr × Obj)} {σ : St} {H : Hp} {s : Shared} {R : It → Hp → Prop} {E : Value → Shared → Prop} {lo hi : Int} {t u v : Tok} {tk : Nat} (I : Inv X pins σ H s) (h1 : -(2 ^ 62) ≤ lo) (h2 : lo < 2 ^ 62) (h3 : -(2 ^ 62) ≤ hi) (h4 : hi < 2 ^ 62)
    (q : R (Itr lo (hi - lo).toNat) H) : wpAny (model X.prog X.w) X.A (pyIter (.ref s.heap.objs.size)) (PIE X pins σ tg R) E { s with heap := s.heap.push { cls := .type "range", data := .fields #[.int lo t, .int hi u, .int 1 v] }, toks := tk } := by
  refine wpAny_pyIter_range (IsRange.new ..) (small_one h1 h2 h3 h4) ?_
  have I1 : Inv X pins σ H { s with heap := s.heap.push { cls := .type "range", data := .fields #[.int lo t, .int hi u, .int 1 v] }, toks := tk } := I.kept fun b o e => Heap.get?_push_of_some _ e
  refine ⟨(s.heap.push { cls := .type "range", data := .fields #[.int lo t, .int hi u, .int 1 v] }).objs.size, [(s.heap.push { cls := .type "range", data := .fields #[.int lo t, .int hi u, .int 1 v] }).objs.size], _, _, H, rfl,
    I1.kept (t' := tk) fun b o e => Heap.get?_push_of_some _ e, turn_range _ lo (hi - lo).toNat, ?_, fun b hb => ?_, q⟩
  · have e1 : lo + ((0 : Nat) : Int) * 1 = lo := by simp
    have e2 : (((hi - lo).toNat : Nat) : Int) - ((0 : Nat) : Int) = Builtin.Range.rangeSize lo hi 1 := by rw [rangeSize_one]; split <;> lia
    show IsRangeIter _ _ (lo + ((0 : Nat) : Int) * 1) ((((hi - lo).toNat : Nat) : Int) - ((0 : Nat) : Int)) 1
    rw [e1, e2]
    exact Heap.get?_push_size _ rfl
  · have e : b = (s.heap.push { cls := .type "range", data := .fields #[.int lo t, .int hi u, .int 1 v] }).objs.size := by simpa using hb
    subst e
    exact I1.fpOk (Nat.le_refl _) (I1.hok.fresh (Nat.le_refl _))
noncomputable def iRng1 (ta : TA) : TI := fun σ H R => ta σ H fun vs H1 => ∃ j : Int, vs = [.int j] ∧ -(2 ^ 62) ≤ j ∧ j < 2 ^ 62 ∧ R (Itr 0 j.toNat) H1
theorem pi_range1 {a : Expr} {ta : TA} {p pos : Pos} (hg : Gl X "range") (hm : X.mg "range" = none) (ha : PA X [a] ta) (hs : starEach [a] X.env = [(false, eval a X.env)] := by rfl) : PI X tg (.Call (.Name "range" p) [a] [] pos) (iRng1 ta) := by
  intro pins s σ H R I h
  refine Call_ (ld_blt I hg hm boot_range (PyProof.Rows.callWith_type1 (thn (ha pos pins s σ H _ I h) fun us s1 hz => ex5 hz fun vs H1 I1 r1 q1 => ?_) hs rfl))
  obtain ⟨j, e, q1, q2, q⟩ := q1
  subst e
  cases r1 with
  | cons r rr =>
    cases rr
    obtain ⟨t, rfl⟩ := r
    exact call_range_1 (range_it I1 (by lia) (by lia) q1 q2 (by simpa using q))
noncomputable def tFor (wi : TI) (g : TG) (tb : TS) : TS := fun D σ H => wi σ H fun J H1 => ∃ W : Nat → Nat → St → Hp → Prop, (∃ m, W 0 m σ H1) ∧ ∀ i m σ H, W i m σ H →
  (J.stop i H ∧ D.nx σ H) ∨ (J.go i H ∧ ∃ N : St → Hp → Prop, (∀ σ' H', N σ' H' → ∃ m', m' < m ∧ W (i + 1) m' σ' H') ∧ ∀ x H', J.yld i H x H' → g x σ H' fun σ2 H2 => tb { D with nx := N, ct := N, bk := D.nx } σ2 H2)
noncomputable def pinsAt (fp : List Addr) (h : Heap) : List (Addr × Obj) := fp.filterMap fun b => (h.get? b).map fun o => (b, o)
theorem mem_pinsAt {fp : List Addr} {h : Heap} {b : Addr} {o : Obj} (hb : b ∈ fp) (e : h.get? b = some o) : (b, o) ∈ pinsAt fp h := List.mem_filterMap.mpr ⟨b, hb, by rw [e]; rfl⟩
theorem of_pinsAt {fp : List Addr} {h : Heap} {p : Addr × Obj} (hp : p ∈ pinsAt fp h) : p.1 ∈ fp ∧ h.get? p.1 = some p.2 := by
  obtain ⟨b, hb, e⟩ := List.mem_filterMap.mp hp
  cases q : h.get? b with
  | none => rw [q] at e; cases e
  | some o =>
    rw [q] at e
    have e' : (b, o) = p := Option.some.inj e
    subst e'
    exact ⟨hb, q⟩
theorem Inv.pinned {pins : List (Addr × Obj)} {σ : St} {H : Hp} {s : Shared} {fp : List Addr} (I : Inv X pins σ H s) (hf : ∀ b ∈ fp, FpOk X pins H b) (ho : ∀ b ∈ fp, ∃ o, s.heap.get? b = some o ∧ ∀ v, o.data ≠ .cell v) : Inv X (pins ++ pinsAt fp s.heap) σ H s :=
  I.pins_of fun p hp => (List.mem_append.mp hp).elim (fun z => I.pin p (List.mem_append_right _ z)) fun z => by
    obtain ⟨hb, e⟩ := of_pinsAt z
    obtain ⟨f0, f1, f2, _⟩ := hf p.1 hb
    obtain ⟨o, e', d⟩ := ho p.1 hb
    rw [e] at e'; cases e'
    exact ⟨e, f0, f1, f2, d⟩
theorem Inv.unpinned {pins pl : List (Addr × Obj)} {σ : St} {H : Hp} {s : Shared} (I : Inv X (pins ++ pl) σ H s) : Inv X pins σ H s := I.pins_of fun p hp => I.pin p (List.mem_append_right _ (List.mem_append_left _ hp))
theorem ps_for {iter : Expr} {body : List Stmt} {wi : TI} {g : TG} {tb : TS} {pos : Pos} (hp : PassesOwn (model X.prog X.w) X.A X.env X.xe) (hc : X.calm = true) (hi : PI X tg iter wi) (hg : PG X tg g) (hb : PSs X body tb)
    (hs : ∀ x, foldedSetIterable iter X.env x = pure x := by intro _; rfl) : PS X (.For tg iter body [] pos) (tFor wi g tb) := by
  intro pins s σ H D I h
  refine wpAny_For (thn (hi pins s σ H _ I h) fun v s1 h1 => thn h1 fun itv s2 h2 => ?_) hs
  obtain ⟨it, fp, tn, J, H2, e, I2, T, st2, f2, W, ⟨m0, w0⟩, turn⟩ := h2
  subst e
  have stat : ∀ {H' : Hp}, (∀ b ∈ fp, H' b = none) → ∀ b ∈ fp, FpOk X pins H' b := fun hn b hb => ⟨hn b hb, (f2 b hb).2⟩
  refine codeAny_forLoop_any (fun n s' => ∃ i σ' H', Inv X pins σ' H' s' ∧ tn i s'.heap ∧ (∀ b ∈ fp, H' b = none) ∧ W i n σ' H') ?_ m0 ⟨0, σ, H2, I2, st2, fun b hb => (f2 b hb).1, w0⟩
  rintro n s3 ⟨i, σ3, H3, I3, st3, fr3, w3⟩
  rcases turn i n σ3 H3 w3 with ⟨stop, qn⟩ | ⟨go, N, hN, step⟩
  · refine wpAny_passesOwn hp (thn (T.done X rfl rfl rfl hc i pins s3 σ3 H3 X.xe I3 (stat fr3) st3 stop) fun r s4 ⟨hr, I4⟩ => ?_)
    subst hr
    exact wpAny_execs_nil ⟨σ3, H3, I4, qn⟩
  · refine wpAny_passesOwn hp (thn (T.item X rfl rfl rfl hc i pins s3 σ3 H3 X.xe I3 (stat fr3) st3 go) fun r s4 ⟨u, hr, h4⟩ => ?_)
    subst hr
    refine wpAny_passesOwn hp (thn h4 fun _ s5 hz => ex5 hz fun x H5 I5 r5 ⟨y5, st5, fr5⟩ => ?_)
    have I5' := I5.pinned (stat fr5) (T.obj _ _ st5)
    refine wpAny_passesOwn hp (thn (hg _ s5 σ3 H5 x u _ I5' r5 (step x H5 y5)) fun _ s6 hz => ex4 hz fun σ6 H6 I6 q6 => ?_)
    refine wpAny_passesOwn hp (thn (hb _ s6 σ6 H6 _ I6 q6) fun f s7 q7 => ?_)
    have again : ∀ {σ7 : St} {H7 : Hp}, Inv X (pins ++ pinsAt fp s5.heap) σ7 H7 s7 → N σ7 H7 → ∃ m, m < n ∧ ∃ i σ' H', Inv X pins σ' H' s7 ∧ tn i s7.heap ∧ (∀ b ∈ fp, H' b = none) ∧ W i m σ' H' := fun {σ7 H7} I7 n7 => by
      obtain ⟨m', hm, w7⟩ := hN σ7 H7 n7
      refine ⟨m', hm, i + 1, σ7, H7, I7.unpinned, T.keep _ _ _ st5 fun b hb o e => (I7.pin (b, o) (List.mem_append_right _ (List.mem_append_right _ (mem_pinsAt hb e)))).1, fun b hb => ?_, w7⟩
      obtain ⟨o, e, d⟩ := T.obj _ _ st5 b hb
      exact (I7.pin (b, o) (List.mem_append_right _ (List.mem_append_right _ (mem_pinsAt hb e)))).2.1
    cases f with
    | next => obtain ⟨σ7, H7, I7, n7⟩ := q7; exact again I7 n7
    | cont => obtain ⟨σ7, H7, I7, n7⟩ := q7; exact again I7 n7
    | brk => obtain ⟨σ7, H7, I7, q7⟩ := q7; exact ⟨σ7, H7, I7.unpinned, q7⟩
    | ret v => obtain ⟨x7, σ7, H7, I7, r7, q7⟩ := q7; exact ⟨x7, σ7, H7, I7.unpinned, r7, q7⟩
end
theorem for_list {K : PySem.W.Frag} {a : Addr} {xs : List V} {g : TG} {tb : TS} {D : Ends} {σ : St} {H : Hp} (Pv : Nat → St → Hp → Prop) (h0 : Pv 0 σ H) (hl : ∀ i σ H, i ≤ xs.length → Pv i σ H → SqL K H a xs)
    (hs : ∀ i x σ H, xs[i]? = some x → Pv i σ H → g x σ H fun σ2 H2 => tb { D with nx := Pv (i + 1), ct := Pv (i + 1), bk := D.nx } σ2 H2) (hd : ∀ σ H, Pv xs.length σ H → D.nx σ H) :
    ∃ W : Nat → Nat → St → Hp → Prop, (∃ m, W 0 m σ H) ∧ ∀ i m σ H, W i m σ H →
      ((Itl K a).stop i H ∧ D.nx σ H) ∨ ((Itl K a).go i H ∧ ∃ N : St → Hp → Prop, (∀ σ' H', N σ' H' → ∃ m', m' < m ∧ W (i + 1) m' σ' H') ∧ ∀ x H', (Itl K a).yld i H x H' → g x σ H' fun σ2 H2 => tb { D with nx := N, ct := N, bk := D.nx } σ2 H2) := by
  refine ⟨fun i m σ H => m = xs.length - i ∧ i ≤ xs.length ∧ Pv i σ H, ⟨xs.length, by simp, Nat.zero_le _, h0⟩, ?_⟩
  rintro i m σ H ⟨rfl, hi, p⟩
  have q := hl i σ H hi p
  by_cases hlt : i < xs.length
  · refine .inr ⟨⟨xs, xs[i], q, by simp [hlt]⟩, Pv (i + 1), fun σ' H' p' => ⟨xs.length - (i + 1), by lia, rfl, hlt, p'⟩, fun x H' y => ?_⟩
    obtain ⟨e, y⟩ := y
    subst e
    exact hs i x σ _ (y xs q) p
  · have e : i = xs.length := by lia
    subst e
    exact .inl ⟨⟨xs, q, Nat.le_refl _⟩, hd σ H p⟩
theorem for_range {lo : Int} {n : Nat} {g : TG} {tb : TS} {D : Ends} {σ : St} {H : Hp} (Pv : Nat → St → Hp → Prop) (h0 : Pv 0 σ H)
    (hs : ∀ i σ H, i < n → Pv i σ H → g (.int (lo + i)) σ H fun σ2 H2 => tb { D with nx := Pv (i + 1), ct := Pv (i + 1), bk := D.nx } σ2 H2) (hd : ∀ σ H, Pv n σ H → D.nx σ H) :
    ∃ W : Nat → Nat → St → Hp → Prop, (∃ m, W 0 m σ H) ∧ ∀ i m σ H, W i m σ H →
      ((Itr lo n).stop i H ∧ D.nx σ H) ∨ ((Itr lo n).go i H ∧ ∃ N : St → Hp → Prop, (∀ σ' H', N σ' H' → ∃ m', m' < m ∧ W (i + 1) m' σ' H') ∧ ∀ x H', (Itr lo n).yld i H x H' → g x σ H' fun σ2 H2 => tb { D with nx := N, ct := N, bk := D.nx } σ2 H2) := by
  refine ⟨fun i m σ H => m = n - i ∧ i ≤ n ∧ Pv i σ H, ⟨n, by simp, Nat.zero_le _, h0⟩, ?_⟩
  rintro i m σ H ⟨rfl, hi, p⟩
  by_cases hlt : i < n
  · refine .inr ⟨hlt, Pv (i + 1), fun σ' H' p' => ⟨n - (i + 1), by lia, rfl, hlt, p'⟩, fun x H' y => ?_⟩
    obtain ⟨e, y⟩ := y
    subst e y
    exact hs i σ _ hlt p
  · have e : i = n := by lia
    subst e
    exact .inl ⟨Nat.le_refl _, hd σ H p⟩
end L2
namespace L2
open PySem PySem.Spec PyProof.Rows
noncomputable abbrev R2 := V → V → Hp → VK → Prop
noncomputable def OpR (X : Cx) (f : Value → Value → Sem Value) (r : R2) : Prop :=
  ∀ (pins : List (Addr × Obj)) (s : Shared) (σ : St) (H : Hp) (x y : V) (v u : Value) (Q : VK), Inv X pins σ H s → RelV x v → RelV y u → r x y H Q →
    wpAny (model X.prog X.w) X.A (f v u) (EP X pins σ Q) X.xe s
noncomputable def UnR (X : Cx) (f : Value → Sem Value) (r : V → Hp → VK → Prop) : Prop :=
  ∀ (pins : List (Addr × Obj)) (s : Shared) (σ : St) (H : Hp) (x : V) (v : Value) (Q : VK), Inv X pins σ H s → RelV x v → r x H Q →
    wpAny (model X.prog X.w) X.A (f v) (EP X pins σ Q) X.xe s
noncomputable def CallR (X : Cx) (f : Value) (r : List V → Hp → VK → Prop) : Prop :=
  ∀ (pins : List (Addr × Obj)) (s : Shared) (σ : St) (H : Hp) (xs : List V) (us : List Value) (Q : VK), Inv X pins σ H s → Vals xs us → r xs H Q →
    wpAny (model X.prog X.w) X.A (call f us) (EP X pins σ Q) X.xe s
noncomputable def TruR (X : Cx) (r : V → Hp → (Bool → Hp → Prop) → Prop) : Prop :=
  ∀ (pins : List (Addr × Obj)) (s : Shared) (σ : St) (H : Hp) (x : V) (v : Value) (Q : Bool → Hp → Prop), Inv X pins σ H s → RelV x v → r x H Q →
    wpAny (model X.prog X.w) X.A (truthy v) (TP X pins σ Q) X.xe s
noncomputable def tOp (r : R2) (ta tb : TE) : TE := fun σ H Q => ta σ H fun x H1 => tb σ H1 fun y H2 => r x y H2 Q
noncomputable def tUn (r : V → Hp → VK → Prop) (ta : TE) : TE := fun σ H Q => ta σ H fun x H1 => r x H1 Q
noncomputable def rI (C : Int → Int → Prop) (g : Int → Int → V) : R2 := fun x y H Q => ∃ i j, x = .int i ∧ y = .int j ∧ C i j ∧ Q (g i j) H
noncomputable def rI0 (g : Int → Int → V) : R2 := fun x y H Q => ∃ i j, x = .int i ∧ y = .int j ∧ Q (g i j) H
noncomputable def rU (g : Int → V) : V → Hp → VK → Prop := fun x H Q => ∃ i, x = .int i ∧ Q (g i) H
section
variable {X : Cx} {a b c : Expr} {ta tb tc : TE} {pos : Pos}
theorem binT (ha : PE X a ta) (hb : PE X b tb) {pins : List (Addr × Obj)} {s : Shared} {σ : St} {H : Hp} {R : V → V → Hp → Prop} (I : Inv X pins σ H s)
    (h : ta σ H fun x H1 => tb σ H1 fun y H2 => R x y H2) {Q : Value → Shared → Prop} {f : Value → Value → Sem Value}
    (hf : ∀ v u s2 x y H2, Inv X pins σ H2 s2 → RelV x v → RelV y u → R x y H2 → wpAny (model X.prog X.w) X.A (f v u) Q X.xe s2) :
    wpAny (model X.prog X.w) X.A (eval a X.env) (fun v s₁ => wpAny (model X.prog X.w) X.A (eval b X.env) (fun u s₂ => wpAny (model X.prog X.w) X.A (f v u) Q X.xe s₂) X.xe s₁) X.xe s := by
  refine thn (ha pins s σ H _ I h) fun v s1 hz => ex5 hz fun x H1 I1 r1 q1 => ?_
  refine thn (hb pins s1 σ H1 _ I1 q1) fun u s2 hz => ex5 hz fun y H2 I2 r2 q2 => ?_
  exact hf v u s2 x y H2 I2 r1 r2 q2
theorem pe_op {op : Operator} {r : R2} (ho : OpR X (binaryOp op) r) (ha : PE X a ta) (hb : PE X b tb) : PE X (.BinOp a op b pos) (tOp r ta tb) := by
  intro pins s σ H Q I h
  exact wpAny_BinOp (binT ha hb I h fun v u s2 x y H2 I2 rx ry q => ho pins s2 σ H2 x y v u Q I2 rx ry q)
theorem pe_un {op : UnaryOp} {r : V → Hp → VK → Prop} (ho : UnR X (unaryOp op) r) (ha : PE X a ta) : PE X (.UnaryOp op a pos) (tUn r ta) := by
  intro pins s σ H Q I h
  exact UnaryOp_ (thn (ha pins s σ H _ I h) fun v s1 hz => ex5 hz fun x H1 I1 r1 q1 => ho pins s1 σ H1 x v Q I1 r1 q1)
theorem opI {f : Value → Value → Sem Value} {C : Int → Int → Prop} {g : Int → Int → Int}
    (rule : ∀ (i j : Int) (t u : Tok) (s : Shared) (Q : Value → Shared → Prop) (E : Value → Shared → Prop), C i j → Q (.int (g i j) s.toks) { s with toks := s.toks + 1 } → wpAny (model X.prog X.w) X.A (f (.int i t) (.int j u)) Q E s) :
    OpR X f (rI C fun i j => .int (g i j)) := by
  intro pins s σ H x y v u Q I rx ry h
  obtain ⟨i, j, rfl, rfl, hc, q⟩ := h
  obtain ⟨t, rfl⟩ := rx
  obtain ⟨t', rfl⟩ := ry
  exact rule i j t t' s _ _ hc ⟨.int (g i j), H, I.tok _, ⟨_, rfl⟩, q⟩
theorem opI0 {f : Value → Value → Sem Value} {g : Int → Int → Int}
    (rule : ∀ (i j : Int) (t u : Tok) (s : Shared) (Q : Value → Shared → Prop) (E : Value → Shared → Prop), Q (.int (g i j) s.toks) { s with toks := s.toks + 1 } → wpAny (model X.prog X.w) X.A (f (.int i t) (.int j u)) Q E s) :
    OpR X f (rI0 fun i j => .int (g i j)) := by
  intro pins s σ H x y v u Q I rx ry h
  obtain ⟨i, j, rfl, rfl, q⟩ := h
  obtain ⟨t, rfl⟩ := rx
  obtain ⟨t', rfl⟩ := ry
  exact rule i j t t' s _ _ ⟨.int (g i j), H, I.tok _, ⟨_, rfl⟩, q⟩
theorem opB0 {f : Value → Value → Sem Value} {g : Int → Int → Bool}
    (rule : ∀ (i j : Int) (t u : Tok) (s : Shared) (Q : Value → Shared → Prop) (E : Value → Shared → Prop), Q (.bool (g i j)) s → wpAny (model X.prog X.w) X.A (f (.int i t) (.int j u)) Q E s) :
    OpR X f (rI0 fun i j => .bl (g i j)) := by
  intro pins s σ H x y v u Q I rx ry h
  obtain ⟨i, j, rfl, rfl, q⟩ := h
  obtain ⟨t, rfl⟩ := rx
  obtain ⟨t', rfl⟩ := ry
  exact rule i j t t' s _ _ ⟨.bl (g i j), H, I, rfl, q⟩
noncomputable def CDiv (i j : Int) : Prop := 0 < j ∧ j < 1073741824
noncomputable def CPow (i j : Int) : Prop := 0 ≤ j ∧ j ≤ 1000000 ∧ i.natAbs < 2 ^ 64
noncomputable def CMul (i j : Int) : Prop := (-(2 ^ 64) < i ∧ i < 2 ^ 64) ∨ (-(2 ^ 64) < j ∧ j < 2 ^ 64)
theorem CMul.ok {i j : Int} (h : CMul i j) : IntMulOk i j := by
  rcases h with ⟨h1, h2⟩ | ⟨h1, h2⟩
  · exact .of_left (intBits_le_64 h1 h2)
  · exact .of_right (intBits_le_64 h1 h2)
theorem op_add : OpR X (binaryOp .Add) (rI0 fun i j => .int (i + j)) := opI0 fun _ _ _ _ _ _ _ q => add_int q
theorem op_sub : OpR X (binaryOp .Sub) (rI0 fun i j => .int (i - j)) := opI0 fun _ _ _ _ _ _ _ q => sub_int q
theorem op_mul : OpR X (binaryOp .Mult) (rI CMul fun i j => .int (i * j)) := opI fun _ _ _ _ _ _ _ hc q => mul_int q hc.ok
theorem op_fdiv : OpR X (binaryOp .FloorDiv) (rI CDiv fun i j => .int (i / j)) := opI fun i j _ _ _ _ _ hc q => by
  have h1 : (0 : Int) < j := hc.1
  have h2 : j < 1073741824 := hc.2
  exact floordiv_int (by lia) (by rw [Int.fdiv_eq_ediv_of_nonneg i (by lia)]; exact q) (.inl (PyProof.noPylong_small (by lia)))
theorem op_mod : OpR X (binaryOp .Mod) (rI (fun _ j => 0 < j) fun i j => .int (i % j)) := opI fun i j _ _ _ _ _ hc q => by
  have h1 : (0 : Int) < j := hc
  exact mod_int' (by lia) (by rw [Int.fmod_eq_emod_of_nonneg i (by lia)]; exact q)
theorem op_pow : OpR X (binaryOp .Pow) (rI CPow fun i j => .int (i ^ j.toNat)) := opI fun _ _ _ _ _ _ _ hc q => pow_int_small hc.1 hc.2.1 hc.2.2 q
theorem unI {f : Value → Sem Value} {g : Int → Int}
    (rule : ∀ (i : Int) (t : Tok) (s : Shared) (Q : Value → Shared → Prop) (E : Value → Shared → Prop), Q (.int (g i) s.toks) { s with toks := s.toks + 1 } → wpAny (model X.prog X.w) X.A (f (.int i t)) Q E s) :
    UnR X f (rU fun i => .int (g i)) := by
  intro pins s σ H x v Q I rx h
  obtain ⟨i, rfl, q⟩ := h
  obtain ⟨t, rfl⟩ := rx
  exact rule i t s _ _ ⟨.int (g i), H, I.tok _, ⟨_, rfl⟩, q⟩
theorem un_neg : UnR X (unaryOp .USub) (rU fun i => .int (-i)) := unI fun _ _ _ _ _ q => neg_int q
end
noncomputable def scal : V → V → Bool
  | .non, .non => true | .non, .int _ => true | .int _, .non => true | .non, .bl _ => true | .bl _, .non => true | .non, .str _ => true | .str _, .non => true
  | .int _, .int _ => true | .bl _, .bl _ => true | .str _, .str _ => true | .byt _, .byt _ => true
  | .int _, .str _ => true | .str _, .int _ => true | .bl _, .str _ => true | .str _, .bl _ => true
  | _, _ => false
noncomputable def rEq : R2 := fun x y H Q => scal x y = true ∧ Q (.bl (decide (x = y))) H
noncomputable def rNe : R2 := fun x y H Q => scal x y = true ∧ Q (.bl (!decide (x = y))) H
theorem dec_int {i j : Int} : decide (V.int i = V.int j) = (i == j) := by
  rw [Bool.eq_iff_iff]
  simp
theorem dec_bl {i j : Bool} : decide (V.bl i = V.bl j) = (i == j) := by
  rw [Bool.eq_iff_iff]
  simp
theorem dec_str {i j : Str} : decide (V.str i = V.str j) = (i == j) := by
  rw [Bool.eq_iff_iff]
  simp
theorem dec_byt {i j : Array UInt8} : decide (V.byt i = V.byt j) = (i.toList == j.toList) := by
  rw [Bool.eq_iff_iff]
  cases i
  cases j
  simp
section
variable {X : Cx} {a b c : Expr} {ta tb tc : TE} {pos : Pos}
theorem fin_bl {pins : List (Addr × Obj)} {σ : St} {H : Hp} {s : Shared} {Q : VK} {k k' : Bool} (I : Inv X pins σ H s) (q : Q (.bl k) H) (e : k = k') : EP X pins σ Q (.bool k') s := by
  subst e
  exact ⟨.bl k, H, I, rfl, q⟩
theorem op_eq : OpR X (compareOp .Eq) rEq := by
  intro pins s σ H x y v u Q I rx ry h
  obtain ⟨hs, q⟩ := h
  cases x with
  | non =>
    cases rx
    cases y with
    | non => cases ry; exact PySem.EqNone.eq_none_none (fin_bl I q (by simp))
    | bl j => cases ry; exact PySem.EqNone.eq_none_bool (fin_bl I q (by simp))
    | int j => obtain ⟨t', rfl⟩ := ry; exact PySem.EqNone.eq_none_int (fin_bl I q (by simp))
    | str j => obtain ⟨t', rfl⟩ := ry; exact PySem.EqNone.eq_none_str (fin_bl I q (by simp))
    | _ => exact absurd (show false = true from hs) Bool.false_ne_true
  | bl i =>
    cases rx
    cases y with
    | non => cases ry; exact PySem.EqNone.eq_bool_none (fin_bl I q (by simp))
    | bl j => cases ry; exact eq_bool (fin_bl I q dec_bl)
    | str j => obtain ⟨t', rfl⟩ := ry; exact PySem.EqMixed.eq_bool_str (fin_bl I q (by simp))
    | _ => exact absurd (show false = true from hs) Bool.false_ne_true
  | int i =>
    obtain ⟨t, rfl⟩ := rx
    cases y with
    | non => cases ry; exact PySem.EqNone.eq_int_none (fin_bl I q (by simp))
    | int j => obtain ⟨t', rfl⟩ := ry; exact eq_int (fin_bl I q dec_int)
    | str j => obtain ⟨t', rfl⟩ := ry; exact PySem.EqMixed.eq_int_str (fin_bl I q (by simp))
    | _ => exact absurd (show false = true from hs) Bool.false_ne_true
  | str i =>
    obtain ⟨t, rfl⟩ := rx
    cases y with
    | non => cases ry; exact PySem.EqNone.eq_str_none (fin_bl I q (by simp))
    | bl j => cases ry; exact PySem.EqMixed.eq_str_bool (fin_bl I q (by simp))
    | int j => obtain ⟨t', rfl⟩ := ry; exact PySem.EqMixed.eq_str_int (fin_bl I q (by simp))
    | str j => obtain ⟨t', rfl⟩ := ry; exact eq_str (fin_bl I q dec_str)
    | _ => exact absurd (show false = true from hs) Bool.false_ne_true
  | byt i =>
    obtain ⟨t, rfl⟩ := rx
    cases y with
    | byt j => obtain ⟨t', rfl⟩ := ry; exact PySem.W.eq_bytes (fin_bl I q dec_byt)
    | _ => exact absurd (show false = true from hs) Bool.false_ne_true
  | _ => cases y <;> exact absurd (show false = true from hs) Bool.false_ne_true
theorem op_ne : OpR X (compareOp .NotEq) rNe := by
  intro pins s σ H x y v u Q I rx ry h
  obtain ⟨hs, q⟩ := h
  cases x with
  | non =>
    cases rx
    cases y with
    | non => cases ry; exact PySem.EqNone.ne_none_none (fin_bl I q (by simp))
    | bl j => cases ry; exact PySem.EqNone.ne_none_bool (fin_bl I q (by simp))
    | int j => obtain ⟨t', rfl⟩ := ry; exact PySem.EqNone.ne_none_int (fin_bl I q (by simp))
    | str j => obtain ⟨t', rfl⟩ := ry; exact PySem.EqNone.ne_none_str (fin_bl I q (by simp))
    | _ => exact absurd (show false = true from hs) Bool.false_ne_true
  | bl i =>
    cases rx
    cases y with
    | non => cases ry; exact PySem.EqNone.ne_bool_none (fin_bl I q (by simp))
    | bl j => cases ry; exact ne_bool (fin_bl I q (congrArg not dec_bl))
    | str j => obtain ⟨t', rfl⟩ := ry; exact PySem.EqMixed.ne_bool_str (fin_bl I q (by simp))
    | _ => exact absurd (show false = true from hs) Bool.false_ne_true
  | int i =>
    obtain ⟨t, rfl⟩ := rx
    cases y with
    | non => cases ry; exact PySem.EqNone.ne_int_none (fin_bl I q (by simp))
    | int j => obtain ⟨t', rfl⟩ := ry; exact ne_int (fin_bl I q (congrArg not dec_int))
    | str j => obtain ⟨t', rfl⟩ := ry; exact PySem.EqMixed.ne_int_str (fin_bl I q (by simp))
    | _ => exact absurd (show false = true from hs) Bool.false_ne_true
  | str i =>
    obtain ⟨t, rfl⟩ := rx
    cases y with
    | non => cases ry; exact PySem.EqNone.ne_str_none (fin_bl I q (by simp))
    | bl j => cases ry; exact PySem.EqMixed.ne_str_bool (fin_bl I q (by simp))
    | int j => obtain ⟨t', rfl⟩ := ry; exact PySem.EqMixed.ne_str_int (fin_bl I q (by simp))
    | str j => obtain ⟨t', rfl⟩ := ry; exact ne_str (fin_bl I q (congrArg not dec_str))
    | _ => exact absurd (show false = true from hs) Bool.false_ne_true
  | byt i =>
    obtain ⟨t, rfl⟩ := rx
    cases y with
    | byt j => obtain ⟨t', rfl⟩ := ry; exact PySem.W.ne_bytes (fin_bl I q (congrArg not dec_byt))
    | _ => exact absurd (show false = true from hs) Bool.false_ne_true
  | _ => cases y <;> exact absurd (show false = true from hs) Bool.false_ne_true
theorem op_lt : OpR X (compareOp .Lt) (rI0 fun i j => .bl (decide (i < j))) := opB0 fun _ _ _ _ _ _ _ q => lt_int q
theorem op_gt : OpR X (compareOp .Gt) (rI0 fun i j => .bl (decide (j < i))) := opB0 fun _ _ _ _ _ _ _ q => gt_int q
theorem op_ge : OpR X (compareOp .GtE) (rI0 fun i j => .bl (decide (j ≤ i))) := opB0 fun _ _ _ _ _ _ _ q => ge_int q
theorem nomark (b : Expr) {op : CmpOp} (h : op ≠ .In := by decide) (h2 : op ≠ .NotIn := by decide) : behindInMarks op b = false := by
  have e1 : (op == CmpOp.In) = false := by cases op <;> first | rfl | exact absurd rfl h
  have e2 : (op == CmpOp.NotIn) = false := by cases op <;> first | rfl | exact absurd rfl h2
  cases b <;> simp [behindInMarks, e1, e2]
theorem pe_cmpR {op : CmpOp} {r : R2} (ho : OpR X (compareOp op) r) (ha : PE X a ta) (hb : PE X b tb) (hm : behindInMarks op b = false) : PE X (.Compare a [op] [b] pos) (tOp r ta tb) := by
  intro pins s σ H Q I h
  exact wpAny_Compare1 (binT ha hb I h fun v u s2 x y H2 I2 rx ry q => ho pins s2 σ H2 x y v u Q I2 rx ry q) hm
noncomputable def tTest (t : TE) : TT := fun σ H Q => t σ H fun x H' => ∃ k, x = .bl k ∧ Q k H'
theorem pt_cmpR {op : CmpOp} {r : R2} (ho : OpR X (compareOp op) r) (ha : PE X a ta) (hb : PE X b tb) (hm : behindInMarks op b = false) : PT X (.Compare a [op] [b] pos) (tTest (tOp r ta tb)) := by
  intro pins s σ H Q I h
  refine wpAny_isTrue_Compare1 (thn (ha pins s σ H _ I h) fun v s1 hz => ex5 hz fun x H1 I1 r1 q1 => thn (hb pins s1 σ H1 _ I1 q1) fun u s2 hz => ex5 hz fun y H2 I2 r2 q2 =>
    thn (ho pins s2 σ H2 x y v u _ I2 r1 r2 q2) fun c s3 hz => ex5 hz fun z H3 I3 r3 ⟨k, e, q3⟩ => ?_) hm
  subst e
  cases r3
  exact wpAny_truthy_bool ⟨H3, I3, q3⟩
noncomputable def TruV (K : PySem.W.Frag) (x : V) (H : Hp) (k : Bool) : Prop :=
  match x with
  | .non => k = false
  | .bl b => k = b
  | .int i => k = (i != 0)
  | .str y => y.length ≤ sizeLine ∧ k = ((y.length : Int) != 0)
  | .byt y => y.size ≤ sizeLine ∧ k = ((y.size : Int) != 0)
  | .ref p => (∃ xs, SqL K H p xs ∧ k = !xs.isEmpty) ∨ (∃ xs, SqT K H p xs ∧ k = !xs.isEmpty) ∨ ∃ kvs, H p = some (.dK kvs) ∧ k = !kvs.isEmpty
  | _ => False
theorem isEmpty_kv {κ : Type} {kvs : List (κ × V)} {vs : List (κ × Value)} (r : KV kvs vs) : (!vs.isEmpty) = !kvs.isEmpty := by
  cases r <;> rfl
theorem isEmpty_of {xs : List V} {its : List Value} (r : Vals xs its) : (!its.toArray.isEmpty) = !xs.isEmpty := by
  cases r <;> simp
theorem line63 : (sizeLine : Nat) < 2 ^ 63 := by rw [sizeLine_eq]; decide
theorem tru_ok : TruR X (fun x H Q => ∃ k, TruV X.K x H k ∧ Q k H) := by
  intro pins s σ H x v Q I rx h
  obtain ⟨k, e, q⟩ := h
  have hl := line63
  have hs : sizeLine = 16777216 := sizeLine_eq
  cases x with
  | non =>
    cases rx
    have e' : k = false := e
    subst e'
    exact truthy_none ⟨H, I, q⟩
  | bl b =>
    cases rx
    have e' : k = b := e
    subst e'
    exact wpAny_truthy_bool ⟨H, I, q⟩
  | int i =>
    obtain ⟨t, rfl⟩ := rx
    have e' : k = (i != 0) := e
    subst e'
    exact PySem.P.truthy_int ⟨H, I, q⟩
  | str y =>
    obtain ⟨t, rfl⟩ := rx
    obtain ⟨hy, e'⟩ : y.length ≤ sizeLine ∧ k = ((y.length : Int) != 0) := e
    subst e'
    exact PySem.P.truthy_str (by lia) ⟨H, I.tok _, q⟩
  | byt y =>
    obtain ⟨t, rfl⟩ := rx
    obtain ⟨hy, e'⟩ : y.size ≤ sizeLine ∧ k = ((y.size : Int) != 0) := e
    subst e'
    exact PySem.W.truthy_bytes (by lia) ⟨H, I.tok _, q⟩
  | ref p =>
    cases rx
    have e' : (∃ xs, SqL X.K H p xs ∧ k = !xs.isEmpty) ∨ (∃ xs, SqT X.K H p xs ∧ k = !xs.isEmpty) ∨ ∃ kvs, H p = some (.dK kvs) ∧ k = !kvs.isEmpty := e
    rcases e' with ⟨xs, hx, e'⟩ | ⟨xs, hx, e'⟩ | ⟨kvs, hx, e'⟩
    · subst e'
      obtain ⟨its, r, pl, hz⟩ := I.list hx
      have hlen := r.length
      exact wpAny_truthy_list pl.isList (by simp only [List.size_toArray]; lia) ⟨H, I.tok _, by rw [isEmpty_of r]; exact q⟩
    · subst e'
      obtain ⟨its, r, pl, hz⟩ := I.tuple hx
      have hlen := r.length
      exact truthy_tuple pl (by simp only [List.size_toArray]; lia) ⟨H, I.tok _, by rw [isEmpty_of r]; exact q⟩
    · subst e'
      obtain ⟨hz, hS, vs, r, m⟩ : kvs.length ≤ sizeLine ∧ (p == sysModules) = false ∧ ∃ vs, KV kvs vs ∧ s.heap.DictOf (mixKind X.prog X.w) p vs := I.hok p _ hx
      have hlen : kvs.length = vs.length := Paired.length r
      exact wpAny_truthy_dict hS m (by lia) ⟨H, I.tok _, by rw [isEmpty_kv r]; exact q⟩
  | _ => exact (show False from e).elim
theorem pt_truth (ha : PE X a ta) (he : ∀ whole, isTrue a X.env whole = (do let v ← whole; standAt a.pos; holding [v] (truthy v))) :
    PT X a (fun σ H Q => ta σ H fun x H' => ∃ k, TruV X.K x H' k ∧ Q k H') := by
  intro pins s σ H Q I h
  exact isTrue_plain (thn (ha pins s σ H _ I h) fun v s1 hz => ex5 hz fun x H1 I1 r1 q1 => tru_ok pins s1 σ H1 x v Q I1 r1 q1) (he _)
theorem op_add_str : OpR X (binaryOp .Add) (fun x y H Q => ∃ i j, x = .str i ∧ y = .str j ∧ i.length + j.length ≤ sizeLine ∧ Q (.str (i ++ j)) H) := by
  intro pins s σ H x y v u Q I rx ry h
  obtain ⟨i, j, rfl, rfl, hz, q⟩ := h
  obtain ⟨t, rfl⟩ := rx
  obtain ⟨t', rfl⟩ := ry
  exact add_str (fun t' tk => ⟨.str (i ++ j), H, I.tok _, ⟨_, rfl⟩, q⟩) hz
theorem vals1 {x : V} {us : List Value} (r : Vals [x] us) : ∃ u, us = [u] ∧ RelV x u := by
  cases r with
  | cons r1 r2 => cases r2; exact ⟨_, rfl, r1⟩
theorem call_int1 : CallR X (.type "int") (fun xs H Q => (∃ i, xs = [.int i] ∧ Q (.int i) H) ∨ ∃ k, xs = [.bl k] ∧ Q (.int (if k then 1 else 0)) H) := by
  intro pins s σ H xs us Q I r h
  rcases h with ⟨i, rfl, q⟩ | ⟨k, rfl, q⟩
  · obtain ⟨u, rfl, t, rfl⟩ := vals1 r
    exact call_int_int ⟨.int i, H, I, ⟨_, rfl⟩, q⟩
  · obtain ⟨u, rfl, r1⟩ := vals1 r
    cases r1
    exact call_int_bool ⟨.int (if k then 1 else 0), H, I.tok _, ⟨_, rfl⟩, q⟩
end
end L2
namespace L2
open PySem PySem.Spec PyProof.Rows
structure ObjM (h : Heap) (x dx C : Addr) (mA : Str → Option Value) : Prop where
  obj : h.get? x = some (PySem.W.instObj C dx)
  ns : h.Ns1 dx mA
  ne : dx ≠ x
theorem lookIn_ns {h : Heap} {dx : Addr} {mA : Str → Option Value} (n : h.Ns1 dx mA) : ∃ od, h.get? dx = some od ∧ ∀ name, PySem.W.lookIn name od = some (mA name) := by
  obtain ⟨o, es, ep, ho, hd, hk, _, hm⟩ := n
  refine ⟨o, ho, fun name => ?_⟩
  have e := hm name
  unfold nsFind findBy at e
  rw [← Array.find?_toList] at e
  unfold PySem.W.lookIn
  rw [hd]
  dsimp only
  split
  · rename_i y q
    rw [q] at e
    exact congrArg some e
  · rename_i q
    rw [q] at e
    have a : es.toList.any (·.refKey) = false := by
      rw [List.any_eq_false]
      intro y hy
      obtain ⟨z, t, hkey⟩ := hk y (Array.mem_toList_iff.mp hy)
      simp [DictEntry.refKey, hkey]
    have a' : ¬ es.toList.any (·.refKey) = true := by rw [a]; exact Bool.false_ne_true
    rw [if_neg a']
    exact congrArg some e
theorem ObjM.look {h : Heap} {x dx C : Addr} {mA : Str → Option Value} (I : ObjM h x dx C mA) : ∃ od, PySem.W.InstAt h x (PySem.W.instObj C dx) C (some od) ∧ ∀ name, PySem.W.lookIn name od = some (mA name) :=
  let ⟨od, ho, hl⟩ := lookIn_ns I.ns
  ⟨od, ⟨I.obj, rfl, rfl, ho⟩, hl⟩
section
variable {prog : Program} {w : World} {A : Around} {E : Value → Shared → Prop} {s : Shared} {K : PySem.W.Frag} {x dx C f : Addr} {mA : Str → Option Value} {name : Str} {v : Value}
theorem get_map {expr : Bool} {Q : Value → Shared → Prop} (X : K.In s.heap) (I : ObjM s.heap x dx C mA) (hg : PySem.W.plainGet K C name = true) (hh : PySem.W.hasDictIn K C = true)
    (ha : PySem.W.findIn K (.ref C) name = some none) (hv : mA name = some v) (hv' : PySem.W.handedIn v = true) (h : Q v { s with toks := s.toks + 1 }) :
    wpAny (model prog w) A (getAttr (.ref x) name expr) Q E s := by
  obtain ⟨od, J, hl⟩ := I.look
  exact PySem.W.get_value X J (PySem.W.plainGet_of hg).1 (PySem.W.findObj_own hh ha rfl (by rw [hl, hv])) hv' h
theorem get_meth {pl : Sem Bool} {Q : Value × List Value → Shared → Prop} (X : K.In s.heap) (I : ObjM s.heap x dx C mA) (hg : PySem.W.plainGet K C name = true)
    (hf : PySem.W.findIn K (.ref C) name = some (some (.ref f))) (ht : PySem.W.isFn K (.ref f) = true) (hv : mA name = none) (h : Q (.ref f, [.ref x]) s) :
    wpAny (model prog w) A (getMethod (.ref x) name pl) Q E s := by
  obtain ⟨od, J, hl⟩ := I.look
  exact PySem.W.method_fn X J (PySem.W.plainGet_of hg).1 (PySem.W.plainGet_of hg).2 hf (beq_iff_eq.mp ht) (by show (PySem.W.lookIn name od).map (·.isSome) = some false; rw [hl, hv]; rfl) h
theorem set_map {ns : List Str} {Q : Unit → Shared → Prop} (X : K.In s.heap) (I : ObjM s.heap x dx C mA)
    (hs : PySem.W.findIn K (.ref C) "__setattr__" = some (some (.builtin "object.__setattr__"))) (hp : PySem.W.plainOver K C = true) (ht : PySem.W.takerIn K C name = some none) (hh : PySem.W.hasDictIn K C = true)
    (hw : PySem.Within mA ns) (hsz : ns.length ≤ sizeLine)
    (h : ∀ h', ObjM h' x dx C (fun y => if y = name then some v else mA y) → Heap.SameBut dx s.heap h' → Q () { s with heap := h', toks := s.toks + 2 }) :
    wpAny (model prog w) A (setAttr (.ref x) name v) Q E s := by
  obtain ⟨od, J, hl⟩ := I.look
  refine PySem.W.set_plain X J hs (PySem.W.osa_open (s := { s with toks := s.toks + 1 }) (r := none) X J hp ht fun b => ?_)
  obtain ⟨cd, hc, hd'⟩ := PySem.W.any_some hh
  have hx : s.heap.get? x = some ⟨.ref C, some dx, .plain, #[]⟩ := I.obj
  refine wpAny_bind (wpAny_pure (wpAny_bind (wpAny_bind (wpAny_loadPart hx (wpAny_bind (PySem.W.Looks.here (s := { s with toks := s.toks + 1 }) (PySem.W.looks_clsIn X hc) ?_))))))
  rw [hd']
  refine wpAny_pure (a := some dx) (wpAny_bind (wpAny_pure (wpAny_bind ?_)))
  refine wpAny_nsSet1 (s := { s with toks := s.toks + 1 }) I.ns fun h' hn2 hs2 => ?_
  obtain ⟨oD, esD, epD, hoD, hdD, hcD⟩ := hn2.count (PySem.Within.cons name v hw)
  refine wpAny_bind (wpAny_lookBehind hoD (by rw [hdD]; exact pastItsLine_dict (Nat.le_trans hcD (by rw [List.length_cons]; lia))) ?_)
  exact wpAny_pure (h _ ⟨(hs2.2 _ (Ne.symm I.ne)).trans I.obj, hn2, I.ne⟩ hs2)
theorem make_map {R : Result → Shared → Prop} {vs : List Value} {kw : List (Str × Value)} (X : K.In s.heap) (hm : PySem.W.makesIn K C = true)
    (hi : PySem.W.findIn K (.ref C) "__init__" = some (some (.ref f))) (hf : PySem.W.typeIn K (.ref f) = some (.type "function"))
    (h : codeAny (model prog w) (A.under (.builtin "type.__call__" ⟨.ref C :: vs, kw⟩)) (.call (.ref f) ⟨.ref (s.heap.objs.size + 1) :: vs, kw⟩) (PySem.W.InitBack (s.heap.objs.size + 1) R)
      { s with heap := (s.heap.push PySem.W.emptyDict).push (PySem.W.instObj C s.heap.objs.size) }) :
    codeAny (model prog w) A (.call (.ref C) ⟨vs, kw⟩) R s := by
  obtain ⟨hh, g, d, t, os⟩ := s
  exact PySem.W.make_core (PySem.W.makes_of X hm) (PySem.W.looks_findIn X hi) (fun self => PySem.W.bind_fn X self hf) (.inl rfl) h
end
noncomputable def putF (f : Str) (v : V) : List (Str × V) → List (Str × V)
  | [] => [(f, v)]
  | (g, x) :: r => if g = f then (g, v) :: r else (g, x) :: putF f v r
theorem lookup_putF (f g : Str) (v : V) : ∀ fs : List (Str × V), (putF f v fs).lookup g = if g = f then some v else fs.lookup g
  | [] => by
    show List.lookup g [(f, v)] = _
    by_cases h : g = f
    · have hb : (g == f) = true := beq_iff_eq.mpr h
      simp only [List.lookup, hb, if_pos h]
    · have hb : (g == f) = false := beq_eq_false_iff_ne.mpr h
      simp only [List.lookup, hb, if_neg h]
  | (k, x) :: r => by
    have ih := lookup_putF f g v r
    rw [show putF f v ((k, x) :: r) = (if k = f then (k, v) :: r else (k, x) :: putF f v r) from rfl]
    by_cases hk : k = f
    · rw [if_pos hk]
      by_cases h : g = k
      · have hb : (g == k) = true := beq_iff_eq.mpr h
        simp only [List.lookup, hb, if_pos (h.trans hk)]
      · have hb : (g == k) = false := beq_eq_false_iff_ne.mpr h
        simp only [List.lookup, hb, if_neg (fun e : g = f => h (e.trans hk.symm))]
    · rw [if_neg hk]
      by_cases h : g = k
      · have hb : (g == k) = true := beq_iff_eq.mpr h
        simp only [List.lookup, hb, if_neg (fun e : g = f => hk (h.symm.trans e))]
      · have hb : (g == k) = false := beq_eq_false_iff_ne.mpr h
        simp only [List.lookup, hb]
        exact ih
theorem keys_putF (f : Str) (v : V) : ∀ fs : List (Str × V), f ∈ (putF f v fs).map (·.1) ∧ ∀ g, g ∈ fs.map (·.1) → g ∈ (putF f v fs).map (·.1)
  | [] => ⟨by simp [putF], fun g h => by simp at h⟩
  | (k, x) :: r => by
    obtain ⟨i1, i2⟩ := keys_putF f v r
    rw [show putF f v ((k, x) :: r) = (if k = f then (k, v) :: r else (k, x) :: putF f v r) from rfl]
    by_cases hk : k = f
    · rw [if_pos hk]
      subst hk
      exact ⟨by simp, fun g h => by simpa using h⟩
    · rw [if_neg hk]
      refine ⟨?_, fun g h => ?_⟩
      · rw [List.map_cons]
        exact List.mem_cons_of_mem _ i1
      · rw [List.map_cons] at h ⊢
        rcases List.mem_cons.mp h with e | e
        · exact List.mem_cons.mpr (.inl e)
        · exact List.mem_cons_of_mem _ (i2 g e)
theorem length_putF (f : Str) (v : V) : ∀ fs : List (Str × V), (putF f v fs).length ≤ fs.length + 1
  | [] => by simp [putF]
  | (k, x) :: r => by
    have ih := length_putF f v r
    rw [show putF f v ((k, x) :: r) = (if k = f then (k, v) :: r else (k, x) :: putF f v r) from rfl]
    by_cases hk : k = f
    · rw [if_pos hk, List.length_cons, List.length_cons]; lia
    · rw [if_neg hk, List.length_cons, List.length_cons]; lia
theorem RelO.some_of {v : V} {o : Option Value} (r : RelO (some v) o) : ∃ u, o = some u ∧ RelV v u := by
  cases o with
  | none => exact (show False from r).elim
  | some u => exact ⟨u, rfl, r⟩
theorem RelO.none_of {o : Option Value} (r : RelO none o) : o = none := by
  cases o with
  | none => rfl
  | some u => exact (show False from r).elim
theorem handed_of {v : V} {u : Value} (r : RelV v u) : PySem.W.handedIn u = true := by
  cases v with
  | non => cases (show u = Value.none from r); rfl
  | bl b => cases (show u = Value.bool b from r); rfl
  | int i => obtain ⟨t, e⟩ := (show ∃ t, u = Value.int i t from r); cases e; rfl
  | str x => obtain ⟨t, e⟩ := (show ∃ t, u = Value.str x t from r); cases e; rfl
  | byt b => obtain ⟨t, e⟩ := (show ∃ t, u = Value.bytes b t from r); cases e; rfl
  | flt b => obtain ⟨t, e⟩ := (show ∃ t, u = Value.float b t from r); cases e; rfl
  | ref a => cases (show u = Value.ref a from r); rfl
  | ty n => cases (show u = Value.type n from r); rfl
section
variable {P : Program} {w : World} {H H' : Hp} {h h' : Heap} {a C dx : Addr} {fs fs' : List (Str × V)}
theorem ins_get (hok : HOk P w H h) (e : H a = some (.ins C dx fs)) : ∃ mA, ObjM h a dx C mA ∧ (∀ f, RelO (fs.lookup f) (mA f)) ∧ PySem.Within mA (fs.map (·.1)) ∧ fs.length ≤ 1000 ∧ H dx = some (.own a) := by
  obtain ⟨d, z, ne, ob, mA, n, r, q⟩ := (show ObjOk P w H h a (.ins C dx fs) from hok a _ e)
  exact ⟨mA, ⟨ob, n, ne⟩, r, q, z, d⟩
end
structure Cls (K : PySem.W.Frag) (C : Addr) : Prop where
  pg : PySem.W.plainGet K C Str.empty = true
  hd : PySem.W.hasDictIn K C = true
  po : PySem.W.plainOver K C = true
  sa : PySem.W.findIn K (.ref C) "__setattr__" = some (some (.builtin "object.__setattr__"))
theorem Cls.get {K : PySem.W.Frag} {C : Addr} (c : Cls K C) (f : Str) : PySem.W.plainGet K C f = true := c.pg
noncomputable def NoAttr (K : PySem.W.Frag) (C : Addr) (f : Str) : Prop := PySem.W.findIn K (.ref C) f = some none
theorem NoAttr.taker {K : PySem.W.Frag} {C : Addr} {f : Str} (n : NoAttr K C f) : PySem.W.takerIn K C f = some none := by
  unfold PySem.W.takerIn
  rw [show PySem.W.findIn K (.ref C) f = some none from n]
  rfl
structure Meth (K : PySem.W.Frag) (C : Addr) (m : Str) (f : Addr) : Prop where
  at_ : PySem.W.findIn K (.ref C) m = some (some (.ref f))
  fn : PySem.W.isFn K (.ref f) = true
  kp : PySem.W.keepIn K (.ref f) = true
section
variable {X : Cx} {pins : List (Addr × Obj)} {σ : St} {H : Hp} {s : Shared} {a C dx : Addr} {fs : List (Str × V)} {f : Str} {v : V} {A : Around} {E : Value → Shared → Prop}
theorem getattr_ok {b : Bool} {Q : Value → Shared → Prop} (I : Inv X pins σ H s) (e : H a = some (.ins C dx fs)) (c : Cls X.K C) (n : NoAttr X.K C f) (l : fs.lookup f = some v)
    (h : ∀ u s', Inv X pins σ H s' → RelV v u → Q u s') : wpAny (model X.prog X.w) A (getAttr (.ref a) f b) Q E s := by
  obtain ⟨mA, O, r, _, _, _⟩ := ins_get I.hok e
  obtain ⟨u, hu, ru⟩ := RelO.some_of (v := v) (o := mA f) (by rw [← l]; exact r f)
  exact get_map I.kIn O (c.get f) c.hd n hu (handed_of ru) (h u _ (I.tok _) ru)
theorem getmeth_ok {m : Str} {g : Addr} {pl : Sem Bool} {Q : Value × List Value → Shared → Prop} (I : Inv X pins σ H s) (e : H a = some (.ins C dx fs)) (c : Cls X.K C) (k : Meth X.K C m g) (l : fs.lookup m = none)
    (h : Q (.ref g, [.ref a]) s) : wpAny (model X.prog X.w) A (getMethod (.ref a) m pl) Q E s := by
  obtain ⟨mA, O, r, _, _, _⟩ := ins_get I.hok e
  have hn : mA m = none := RelO.none_of (by rw [← l]; exact r m)
  exact get_meth I.kIn O (c.get m) k.at_ k.fn hn h
theorem setattr_ok {y : V} {u : Value} {Q : Unit → Shared → Prop} (I : Inv X pins σ H s) (e : H a = some (.ins C dx fs)) (c : Cls X.K C) (n : NoAttr X.K C f) (hl : fs.length < 1000) (ry : RelV y u)
    (h : ∀ s', Inv X pins σ (upd H a (.ins C dx (putF f y fs))) s' → Q () s') : wpAny (model X.prog X.w) A (setAttr (.ref a) f u) Q E s := by
  obtain ⟨mA, O, r, wi, _, ho⟩ := ins_get I.hok e
  have hz : (fs.map (·.1)).length ≤ sizeLine := by rw [List.length_map, sizeLine_eq]; lia
  refine set_map I.kIn O c.sa c.po n.taker c.hd wi hz fun h' O' sb => h _ ?_
  have hd : ∃ o, h'.get? dx = some o := let ⟨o, _, _, e', _⟩ := O'.ns; ⟨o, e'⟩
  refine I.write (x := a) (e := dx) (by rw [e]; exact True.intro) (.inr ho) (fun b q hb z => (sb.2 b hb).trans z) hd ?_
  refine ⟨by rw [upd_ne O.ne]; exact ho, ?_, O.ne, O'.obj, _, O'.ns, fun g => ?_, fun g hg => ?_⟩
  · have := length_putF f y fs; lia
  · show RelO ((putF f y fs).lookup g) (if g = f then some u else mA g)
    rw [lookup_putF]
    by_cases q : g = f
    · rw [if_pos q, if_pos q]; exact ry
    · rw [if_neg q, if_neg q]; exact r g
  · by_cases q : g = f
    · rw [q]; exact (keys_putF f y fs).1
    · refine (keys_putF f y fs).2 g (wi g fun z => hg ?_)
      show (if g = f then some u else mA g) = none
      rw [if_neg q]; exact z
theorem Inv.made (I : Inv X pins σ H s) : Inv X pins σ (upd (upd H s.heap.objs.size (.own (s.heap.objs.size + 1))) (s.heap.objs.size + 1) (.ins C s.heap.objs.size []))
    { s with heap := (s.heap.push PySem.W.emptyDict).push (PySem.W.instObj C s.heap.objs.size) } := by
  have e1 : (s.heap.push PySem.W.emptyDict).get? s.heap.objs.size = some PySem.W.emptyDict := Heap.get?_push_size s.heap rfl
  have e2 : ((s.heap.push PySem.W.emptyDict).push (PySem.W.instObj C s.heap.objs.size)).get? (s.heap.objs.size + 1) = some (PySem.W.instObj C s.heap.objs.size) := by
    have := Heap.get?_push_size (s.heap.push PySem.W.emptyDict) (o := PySem.W.instObj C s.heap.objs.size) rfl
    rwa [Heap.size_push] at this
  have e3 : (s.heap.push PySem.W.emptyDict).Ns s.heap.objs.size (fun _ => none) := ⟨PySem.W.emptyDict, #[], _, e1, rfl, (fun e he => absurd he (by simp)), fun _ => rfl⟩
  have I1 := I.laid (a := s.heap.objs.size) (o := .own (s.heap.objs.size + 1)) (h' := s.heap.push PySem.W.emptyDict) (t' := s.toks) (fun b u q => Heap.get?_push_of_some _ q) (Nat.le_refl _) ⟨_, e1⟩
  refine I1.laid (a := s.heap.objs.size + 1) (o := .ins C s.heap.objs.size []) (t' := s.toks) (fun b u q => Heap.get?_push_of_some _ q) (Nat.le_of_eq (Heap.size_push _ _)) ?_
  have ne : s.heap.objs.size ≠ s.heap.objs.size + 1 := Nat.ne_of_lt (Nat.lt_succ_self _)
  refine ⟨by rw [upd_ne ne, upd_same], Nat.zero_le _, ne, e2, fun _ => none, (Heap.Ns1.of_empty e3).at fun o q => Heap.get?_push_of_some _ q, fun _ => True.intro, fun y hy => absurd rfl hy⟩
theorem attr_of {prog : Program} {w : World} {env : Env} {e : Expr} {f : Str} {pos : Pos} {s : Shared} {Q : Value → Shared → Prop} (hb : attributeBase e f env (eval e env) = eval e env)
    (h : wpAny (model prog w) A (eval e env) (fun o s₁ => wpAny (model prog w) A (getAttr o f true) Q E s₁) E s) : wpAny (model prog w) A (eval (.Attribute e f pos) env) Q E s :=
  Attribute_any_ h (by rw [arm_eval_Attribute, hb])
end
noncomputable def tFld (K : PySem.W.Frag) (ta : TE) (f : Str) : TE := fun σ H Q => ta σ H fun x H1 => ∃ a C dx fs v, x = .ref a ∧ H1 a = some (.ins C dx fs) ∧ Cls K C ∧ NoAttr K C f ∧ fs.lookup f = some v ∧ Q v H1
noncomputable def sFld (K : PySem.W.Frag) (ta tv : TE) (f : Str) : TS := fun D σ H => tv σ H fun y H1 => ta σ H1 fun x H2 => ∃ a C dx fs, x = .ref a ∧ H2 a = some (.ins C dx fs) ∧ Cls K C ∧ NoAttr K C f ∧ fs.length < 1000 ∧
  D.nx σ (upd H2 a (.ins C dx (putF f y fs)))
noncomputable def InOp (X : Cx) (op : Operator) (rd : V → V → Hp → VK → Prop) : Prop :=
  ∀ (pins : List (Addr × Obj)) (s : Shared) (σ : St) (H : Hp) (x y : V) (u v : Value) (Q : VK), Inv X pins σ H s → RelV x u → RelV y v → rd x y H Q → wpAny (model X.prog X.w) X.A (inplaceOp op u v) (EP X pins σ Q) X.xe s
noncomputable def sFldAug (K : PySem.W.Frag) (ta tv : TE) (rd : V → V → Hp → VK → Prop) (f : Str) : TS := fun D σ H => ta σ H fun x H1 => ∃ a C dx fs v, x = .ref a ∧ H1 a = some (.ins C dx fs) ∧ Cls K C ∧ NoAttr K C f ∧ fs.lookup f = some v ∧
  tv σ H1 fun y H2 => rd v y H2 fun z H3 => ∃ dx' fs', H3 a = some (.ins C dx' fs') ∧ fs'.length < 1000 ∧ D.nx σ (upd H3 a (.ins C dx' (putF f z fs')))
section
variable {X : Cx} {o e value : Expr} {f : Str} {pos pos' tpos : Pos} {ta tv : TE}
theorem pe_fld (he : PE X e ta) (hb : attributeBase e f X.env (eval e X.env) = eval e X.env) : PE X (.Attribute e f pos) (tFld X.K ta f) := by
  intro pins s σ H Q I h
  refine attr_of hb (thn (he pins s σ H _ I h) fun u s1 hz => ex5 hz fun x H1 I1 rx ⟨a, C, dx, fs, v, ex, ea, c, n, l, q⟩ => ?_)
  subst ex
  obtain rfl : u = Value.ref a := rx
  exact getattr_ok I1 ea c n l fun u' s2 I2 ru => ⟨v, H1, I2, ru, q⟩
theorem ps_fld (ha : PE X o ta) (hv : PE X value tv) (hs : swapsWith value (some (.Attribute o f pos')) pos.line X.env = pure false) : PS X (.Assign [.Attribute o f pos'] value pos) (sFld X.K ta tv f) := by
  intro pins s σ H D I h
  refine plainObj_wpAny_Assign_Attribute (thn (hv pins s σ H _ I h) fun u s1 hz => ex5 hz fun y H1 I1 ry q => thn (ha pins s1 σ H1 _ I1 q) fun ov s2 hz => ex5 hz fun x H2 I2 rx ⟨a, C, dx, fs, ex, ea, c, n, l, q2⟩ => ?_) hs
  subst ex
  obtain rfl : ov = Value.ref a := rx
  exact setattr_ok I2 ea c n l ry fun s3 I3 => ⟨σ, _, I3, q2⟩
theorem ps_fldaug {op : Operator} {rd : V → V → Hp → VK → Prop} (ha : PE X o ta) (hv : PE X value tv) (hop : InOp X op rd) : PS X (.AugAssign (.Attribute o f tpos) op value pos) (sFldAug X.K ta tv rd f) := by
  intro pins s σ H D I h
  refine wpAny_AugAssign_AttributeAny (thn (ha pins s σ H _ I h) fun ov s1 hz => ex5 hz fun x H1 I1 rx ⟨a, C, dx, fs, v, ex, ea, c, n, l, q⟩ => ?_)
  subst ex
  obtain rfl : ov = Value.ref a := rx
  refine getattr_ok I1 ea c n l fun u s2 I2 ru => thn (hv pins s2 σ H1 _ I2 q) fun w3 s3 hz => ex5 hz fun y H2 I3 ry q3 => thn (hop pins s3 σ H2 v y u w3 _ I3 ru ry q3) fun w4 s4 hz => ex5 hz fun z H3 I4 rz ⟨dx', fs', ea', l', q4⟩ => ?_
  exact setattr_ok I4 ea' c n l' rz fun s5 I5 => ⟨σ, _, I5, q4⟩
noncomputable def rSub : V → V → Hp → VK → Prop := fun x y H Q => ∃ i j, x = .int i ∧ y = .int j ∧ Q (.int (i - j)) H
theorem in_sub : InOp X .Sub rSub := by
  rintro pins s σ H x y u v Q I rx ry ⟨i, j, rfl, rfl, q⟩
  obtain ⟨t, rfl⟩ := (show ∃ t, u = Value.int i t from rx)
  obtain ⟨t', rfl⟩ := (show ∃ t', v = Value.int j t' from ry)
  exact PyProof.Rows.isub_int ⟨.int (i - j), H, I.tok _, ⟨_, rfl⟩, q⟩
end
section
variable {X : Cx} {pins : List (Addr × Obj)} {σ : St} {H : Hp} {s : Shared} {A : Around} {E : Value → Shared → Prop} {Q : Value → Shared → Prop} {c : Value} {b : Bool}
inductive TyOf (K : PySem.W.Frag) (H : Hp) : V → Value → Prop where
  | non : TyOf K H .non (.type "NoneType")
  | bl (x : Bool) : TyOf K H (.bl x) (.type "bool")
  | int (i : Int) : TyOf K H (.int i) (.type "int")
  | str (x : Str) : TyOf K H (.str x) (.type "str")
  | flt (x : UInt64) : TyOf K H (.flt x) (.type "float")
  | lst {a : Addr} {xs : List V} (e : H a = some (.lst xs)) : TyOf K H (.ref a) (.type "list")
  | frz {a : Addr} {o : Obj} {xs : List V} (e : H a = some (.frz o (.lst xs))) : TyOf K H (.ref a) (.type "list")
  | tup {a : Addr} {xs : List V} (e : H a = some (.tup xs)) : TyOf K H (.ref a) (.type "tuple")
  | dK {a : Addr} {kvs : List (Key × V)} (e : H a = some (.dK kvs)) : TyOf K H (.ref a) (.type "dict")
  | dT {a : Addr} {kvs : List (List Key × V)} (e : H a = some (.dT kvs)) : TyOf K H (.ref a) (.type "dict")
  | ins {a C dx : Addr} {fs : List (Str × V)} (e : H a = some (.ins C dx fs)) (cl : Cls K C) (ha : PySem.W.findIn K (.ref C) "__class__" = some (some (.builtin "object.__class__")))
      (hn : PySem.W.specialIn K (.builtin "object.__class__") "__get__" = some (some (.builtin "getset_descriptor.__get__"))) (htk : PySem.W.takesIn K (.builtin "object.__class__") = some true)
      (hm : PySem.W.mroIn K C (.type "object") = some true) : TyOf K H (.ref a) (.ref C)
theorem isinst_ok {x : V} {u t : Value} (I : Inv X pins σ H s) (rx : RelV x u) (ty : TyOf X.K H x t) (e : PySem.W.kitOne X.K t c = some b) (h : ∀ tk, Q (.bool b) { s with toks := tk }) :
    wpAny (model X.prog X.w) A (call (.builtin "isinstance") [u, c]) Q E s := by
  cases ty with
  | non => cases (show u = Value.none from rx); exact PySem.W.kia_one PySem.W.kitx_none I.kIn True.intro e (fun z => nomatch z) h
  | bl y => cases (show u = Value.bool y from rx); exact PySem.W.kia_one PySem.W.kitx_bool I.kIn True.intro e (fun z => nomatch z) h
  | int i => obtain ⟨t, q⟩ := (show ∃ t, u = Value.int i t from rx); cases q; exact PySem.W.kia_one PySem.W.kitx_int I.kIn True.intro e (fun z => nomatch z) h
  | str y => obtain ⟨t, q⟩ := (show ∃ t, u = Value.str y t from rx); cases q; exact PySem.W.kia_one PySem.W.kitx_str I.kIn True.intro e (fun z => nomatch z) h
  | flt y => obtain ⟨t, q⟩ := (show ∃ t, u = Value.float y t from rx); cases q; exact PySem.W.kia_one PySem.W.kitx_float I.kIn True.intro e (fun z => nomatch z) h
  | @lst a xs ea =>
    cases (show u = Value.ref a from rx)
    obtain ⟨_, _, n, _, h1⟩ := (show ObjOk X.prog X.w H s.heap a (.lst xs) from I.hok a _ ea)
    exact PySem.W.kia_one PySem.W.kitx_list I.kIn ⟨_, h1, rfl⟩ e (fun z => nomatch z) h
  | @frz a ob xs ea =>
    cases (show u = Value.ref a from rx)
    obtain ⟨_, _, _, n, _, h1⟩ := (show ObjOk X.prog X.w H s.heap a (.frz ob (.lst xs)) from I.hok a _ ea)
    exact PySem.W.kia_one PySem.W.kitx_list I.kIn ⟨_, h1, rfl⟩ e (fun z => nomatch z) h
  | @tup a xs ea =>
    cases (show u = Value.ref a from rx)
    obtain ⟨_, _, _, p⟩ := (show ObjOk X.prog X.w H s.heap a (.tup xs) from I.hok a _ ea)
    obtain ⟨o, h1, h2, _⟩ := p
    exact PySem.W.kia_one PySem.W.kitx_tuple I.kIn ⟨o, h1, h2⟩ e (fun z => nomatch z) h
  | @dK a kvs ea =>
    cases (show u = Value.ref a from rx)
    obtain ⟨_, _, vs, _, p⟩ := (show ObjOk X.prog X.w H s.heap a (.dK kvs) from I.hok a _ ea)
    obtain ⟨o, es, ep, h1, h2, _⟩ := p
    exact PySem.W.kia_one PySem.W.kitx_dict I.kIn ⟨o, h1, h2.1⟩ e (fun z => nomatch z) h
  | @dT a kvs ea =>
    cases (show u = Value.ref a from rx)
    obtain ⟨_, _, xs, _, o, es, ep, h1, h2, _⟩ := (show ObjOk X.prog X.w H s.heap a (.dT kvs) from I.hok a _ ea)
    exact PySem.W.kia_one PySem.W.kitx_dict I.kIn ⟨o, h1, h2.1⟩ e (fun z => nomatch z) h
  | @ins a C dx fs ea cl ha hn htk hm =>
    cases (show u = Value.ref a from rx)
    obtain ⟨mA, O, _⟩ := ins_get I.hok ea
    obtain ⟨od, J, _⟩ := O.look
    exact PySem.W.kia_one (PySem.W.kitx_own (cl.get _) cl.hd ha hn htk hm) I.kIn J e (fun z => nomatch z) h
end
end L2
namespace L2
open PySem PySem.Spec PyProof.Rows
structure Room (k : Nat) (A : Around) : Prop where
  hd : A.handled = none
  dp : A.depth + 3 * k + 5 < recursionLimit
  un : A.units + 16 * k + 200 < cLine
theorem Room.mono {j k : Nat} {A : Around} (r : Room k A) (h : j ≤ k) : Room j A := ⟨r.hd, by have := r.dp; lia, by have := r.un; lia⟩
theorem Room.deeper {k : Nat} {A : Around} (r : Room (k + 1) A) (env : Env) : Room k (A.deeper env) :=
  ⟨r.hd, by have := r.dp; show A.depth + 1 + 3 * k + 5 < _; lia, by have := r.un; show A.units + 3 + 16 * k + 200 < _; lia⟩
theorem make_depth {A : Around} {C : Addr} {us : List Value} {kw : List (Str × Value)} : (A.under (.builtin "type.__call__" ⟨.ref C :: us, kw⟩)).depth = A.depth + 1 := by
  first | rfl | simp [Around.under, Code.weight, Code.isCreation, Code.isGuard, Code.isCaller, Code.frames, Code.isFrame, guardIds]
theorem make_units {A : Around} {C : Addr} {us : List Value} {kw : List (Str × Value)} : (A.under (.builtin "type.__call__" ⟨.ref C :: us, kw⟩)).units = A.units + 1 := by
  first | rfl | simp [Around.under, Code.cUnits, Code.frames, Code.isFrame]
theorem Room.make {k : Nat} {A : Around} (r : Room (k + 1) A) (C : Addr) (us : List Value) (kw : List (Str × Value)) : Room k (A.under (.builtin "type.__call__" ⟨.ref C :: us, kw⟩)) :=
  ⟨r.hd, by have := r.dp; rw [make_depth]; lia, by have := r.un; rw [make_units]; lia⟩
theorem Room.depth {k : Nat} {A : Around} (r : Room k A) : A.depth < recursionLimit := by have := r.dp; lia
theorem Room.units {k : Nat} {A : Around} (r : Room k A) : A.units + 64 < cLine := by have := r.un; lia
theorem Room.units0 {k : Nat} {A : Around} (r : Room k A) : A.units < cLine := by have := r.un; lia
noncomputable def tNil : TA := fun _ H Q => Q [] H
noncomputable def tCons (ta : TE) (tr : TA) : TA := fun σ H Q => ta σ H fun x H1 => tr σ H1 fun xs H2 => Q (x :: xs) H2
section
variable {X : Cx} {e : Expr} {es : List Expr} {te : TE} {t : TA} {pos : Pos}
theorem pa_nil : PA X [] tNil := fun _ _ _ _ H Q I h => Calls.spliced_nil ⟨[], H, I, .nil, h⟩
theorem pa_cons (ha : PE X e te) (hr : PA X es t) (hs : starEach (e :: es) X.env = (false, eval e X.env) :: starEach es X.env := by rfl) : PA X (e :: es) (tCons te t) := by
  intro pos pins s σ H Q I h
  rw [hs]
  show wpAny _ _ (spliced ((false, eval e X.env) :: backTo pos (starEach es X.env))) _ _ s
  refine Calls.spliced_cons (thn (ha pins s σ H _ I h) fun u s1 hz => ex5 hz fun x H1 I1 r1 q1 => ?_)
  exact thn (hr pos pins s1 σ H1 _ I1 q1) fun us s2 hz => ex5 hz fun xs H2 I2 r2 q2 => ⟨x :: xs, H2, I2, .cons r1 r2, q2⟩
noncomputable def tTup (t : TA) : TE := fun σ H Q => t σ H fun xs H1 => xs.length ≤ sizeLine ∧ ∀ p, H1 p = none → Q (.ref p) (upd H1 p (.tup xs))
noncomputable def tLst (t : TA) : TE := fun σ H Q => t σ H fun xs H1 => xs.length ≤ sizeLine ∧ ∀ p, H1 p = none → Q (.ref p) (upd H1 p (.lst xs))
theorem pe_tup {x1} (h : PA X es t) : PE X (.Tuple es x1 pos) (tTup t) := by
  intro pins s σ H Q I hq
  refine wpAny_Tuple_spliced (thn (h pos pins s σ H _ I hq) fun us s1 hz => ex5 hz fun xs H1 I1 r ⟨z, q⟩ => ⟨by rw [← r.length]; exact z, ?_⟩)
  have hf : H1 s1.heap.objs.size = none := I1.hok.fresh (Nat.le_refl _)
  refine ⟨.ref s1.heap.objs.size, upd H1 s1.heap.objs.size (.tup xs), I1.laid (t' := s1.toks) (fun b u e => Heap.get?_push_of_some _ e) (Nat.le_refl _) ?_, rfl, q _ hf⟩
  exact ⟨z, us, r, ⟨_, Heap.get?_push_size _ rfl, rfl, _, rfl⟩⟩
theorem pe_lst (h : PA X es t) : PE X (.List es pos) (tLst t) := by
  intro pins s σ H Q I hq
  refine wpAny_List_spliced (thn (h pos pins s σ H _ I hq) fun us s1 hz => ex5 hz fun xs H1 I1 r ⟨z, q⟩ => ⟨by rw [← r.length]; exact z, ?_⟩)
  have hf : H1 s1.heap.objs.size = none := I1.hok.fresh (Nat.le_refl _)
  refine ⟨.ref s1.heap.objs.size, upd H1 s1.heap.objs.size (.lst xs), I1.laid (t' := s1.toks) (fun b u e => Heap.get?_push_of_some _ e) (Nat.le_refl _) ?_, rfl, q _ hf⟩
  exact ⟨z, us, 0, r, Heap.get?_push_size _ rfl⟩
end
noncomputable abbrev Sp := List V → Hp → VK → XK → Prop
noncomputable abbrev CXT := List Env → Hp → Shared → XK → Value → Shared → Prop
structure Env0 (P : Program) (w : World) (K : PySem.W.Frag) (mg : Str → Option Value) (base : Heap) (A : Around) (outer : List Env) (s : Shared) (H : Hp) : Prop where
  frames : A.frames = some outer
  mod : Mod K mg base
  bs : ∀ b o, base.get? b = some o → s.heap.get? b = some o ∧ H b = none
  bsz : base.objs.size ≤ s.heap.objs.size
  funs : s.heap.FunFrames base outer
  frf : ∀ b ∈ frs outer, H b = none
  hok : HOk P w H s.heap
  bare : AllBare s.gens
noncomputable def CE (outer : List Env) (P : Program) (w : World) (H : Hp) (s : Shared) (Q : VK) (u : Value) (s' : Shared) : Prop :=
  ∃ v H', s'.os = s.os ∧ AllBare s'.gens ∧ Un (frs outer) [] H H' s.heap s'.heap ∧ HOk P w H' s'.heap ∧ RelV v u ∧ Q v H'
noncomputable def CR (CX : CXT) (outer : List Env) (P : Program) (w : World) (H : Hp) (s : Shared) (Q : VK) (E : XK) (r : Result) (s' : Shared) : Prop :=
  match r with
  | .ok (.ret u) => CE outer P w H s Q u s'
  | .ok _ => False
  | .error e => CX outer H s E e s'
structure FnOk (P : Program) (w : World) (K : PySem.W.Frag) (mg : Str → Option Value) (base : Heap) (CX : CXT) (k : Nat) (f : Addr) (fd : FuncData) (ps : List Str) (sp : Sp) : Prop where
  len : ∀ vs H Q E, sp vs H Q E → vs.length = ps.length
  run : ∀ (A : Around) (outer : List Env) (s : Shared) (H : Hp) (args : Args) (us : List Value) (vs : List V) (Q : VK) (E : XK), Room k A → Env0 P w K mg base A outer s H → BindsTo s fd args (ps.zip us) → Vals vs us → sp vs H Q E →
    codeAny (model P w) A (.call (.ref f) args) (CR CX outer P w H s Q E) s
theorem Env0.make {P : Program} {w : World} {K : PySem.W.Frag} {mg : Str → Option Value} {base : Heap} {A : Around} {outer : List Env} {s : Shared} {H : Hp} (e : Env0 P w K mg base A outer s H) (C : Addr) (us : List Value) (kw : List (Str × Value)) :
    Env0 P w K mg base (A.under (.builtin "type.__call__" ⟨.ref C :: us, kw⟩)) outer s H := ⟨by first | exact e.frames | (simpa [Around.under, Code.envs, Code.isFrame, pushEnvs] using e.frames), e.mod, e.bs, e.bsz, e.funs, e.frf, e.hok, e.bare⟩
section
variable {X : Cx} {pins : List (Addr × Obj)} {σ : St} {H : Hp} {s s' : Shared}
theorem Inv.env0 (I : Inv X pins σ H s) : Env0 X.prog X.w X.K X.mg X.base X.A X.stack s H :=
  ⟨I.ok.frames, I.ok.mod, I.bs, Nat.le_trans I.ok.bsz I.sz, I.stack, I.stkFree, I.hok, I.bare⟩
theorem Inv.after {Q : VK} {u : Value} (I : Inv X pins σ H s) (h : CE X.stack X.prog X.w H s Q u s') : EP X pins σ Q u s' := by
  obtain ⟨v, H', os, bare, un, hok, r, q⟩ := h
  obtain ⟨hh, g, d, t, os'⟩ := s'
  obtain rfl : os' = s.os := os
  exact ⟨v, H', I.call (h' := hh) (g' := g) (d' := d) (t' := t) (ch := []) un hok bare (fun b z => absurd z (by simp)), r, q⟩
end
noncomputable def tCall (sp : Sp) (dvs : List V) (E : XK) (t : TA) : TE := fun σ H Q => t σ H fun vs H1 => sp (vs ++ dvs) H1 Q E
noncomputable def tMeth (C : Addr) (m : Str) (sp : Sp) (dvs : List V) (E : XK) (ta : TE) (t : TA) : TE := fun σ H Q => ta σ H fun x H1 => ∃ a dx fs, x = .ref a ∧ H1 a = some (.ins C dx fs) ∧ fs.lookup m = none ∧
  t σ H1 fun vs H2 => sp (x :: (vs ++ dvs)) H2 Q E
noncomputable def tMake (C : Addr) (sp : Sp) (dvs : List V) (E : XK) (t : TA) : TE := fun σ H Q => t σ H fun vs H1 => ∀ x dx, H1 x = none → H1 dx = none → dx ≠ x →
  sp (.ref x :: (vs ++ dvs)) (upd (upd H1 dx (.own x)) x (.ins C dx [])) (fun v H2 => v = .non ∧ Q (.ref x) H2) E
noncomputable def Binds (K : PySem.W.Frag) (fd : FuncData) (ps : List Str) (ds : List Value) : Prop :=
  ∀ (s : Shared) (us : List Value), K.In s.heap → (us ++ ds).length = ps.length → BindsTo s fd ⟨us, []⟩ (ps.zip (us ++ ds))
theorem Binds.all {K : PySem.W.Frag} {fd : FuncData} {ps : List Str} (h : ∀ us : List Value, us.length = ps.length → bindArgs fd ⟨us, []⟩ = pure (ps.zip us)) : Binds K fd ps [] := fun s us _ hl => by
  rw [List.append_nil] at hl ⊢
  exact .of_eq (h us hl)
noncomputable def Passes (CX : CXT) (X : Cx) (E : XK) : Prop := ∀ (pins : List (Addr × Obj)) (σ : St) (H : Hp) (s : Shared) (e : Value) (s' : Shared), Inv X pins σ H s → CX X.stack H s E e s' → X.xe e s'
section
variable {X : Cx} {CX : CXT} {k : Nat} {f C : Addr} {fd : FuncData} {ps : List Str} {sp : Sp} {dvs : List V} {ds : List Value} {E : XK} {x m : Str} {p pos apos : Pos} {e o : Expr} {es : List Expr} {ta : TE} {t : TA}
theorem run_fn {pins : List (Addr × Obj)} {σ : St} {H : Hp} {s : Shared} {Q : VK} {us : List Value} {vs : List V} (F : FnOk X.prog X.w X.K X.mg X.base CX k f fd ps sp) (hr : Room k X.A) (hb : Binds X.K fd ps ds) (hd : Vals dvs ds) (hx : Passes CX X E)
    (I : Inv X pins σ H s) (r : Vals vs us) (h : sp (vs ++ dvs) H Q E) : wpAny (model X.prog X.w) X.A (call (.ref f) us) (EP X pins σ Q) X.xe s := by
  have r2 : Vals (vs ++ dvs) (us ++ ds) := r.append hd
  have hl : (us ++ ds).length = ps.length := by rw [← r2.length]; exact F.len _ _ _ _ h
  refine wpAny_call (codeAny_mono (F.run X.A X.stack s H ⟨us, []⟩ (us ++ ds) (vs ++ dvs) Q E hr I.env0 (hb s us I.kIn hl) r2 h) fun r s' hq => ?_)
  cases r with
  | error e => exact hx pins σ H s e s' I hq
  | ok fl =>
    cases fl with
    | ret u => exact I.after hq
    | next => exact False.elim hq
    | brk => exact False.elim hq
    | cont => exact False.elim hq
theorem pe_call (F : FnOk X.prog X.w X.K X.mg X.base CX k f fd ps sp) (hr : Room k X.A) (hg : Gl X x) (hm : X.mg x = some (.ref f)) (hk : PySem.W.keepIn X.K (.ref f) = true) (hb : Binds X.K fd ps ds) (hd : Vals dvs ds) (hx : Passes CX X E)
    (ha : PA X (e :: es) t) (hdb : (x == ("__debug__" : Str)) = false := by decide) (he : starEach (e :: es) X.env = (false, eval e X.env) :: starEach es X.env := by rfl) (hpl : (backTo pos (starEach es X.env)).any (·.1) = false := by rfl) :
    PE X (.Call (.Name x p) (e :: es) [] pos) (tCall sp dvs E t) := by
  intro pins s σ H Q I h
  refine wpAny_Call_Name_kw (ld_glob I hg hm ?_ hdb)
  refine PySem.W.callWith_K (h₀ := X.base) I.ok.mod.kin hk (thn (ha pos pins s σ H _ I h) fun us s1 hz => ex5 hz fun vs H1 I1 r q => ⟨I1.kIn, ?_⟩) he hpl
  exact run_fn F hr hb hd hx I1 r q
theorem pe_meth {pl : Sem Bool} (he : PE X o ta) (c : Cls X.K C) (hm : Meth X.K C m f) (F : FnOk X.prog X.w X.K X.mg X.base CX k f fd ps sp) (hr : Room k X.A) (hb : Binds X.K fd ps ds) (hd : Vals dvs ds) (hx : Passes CX X E) (ha : PA X (e :: es) t)
    (hst : starEach (e :: es) X.env = (false, eval e X.env) :: starEach es X.env := by rfl) (hpl : (backTo pos (starEach es X.env)).any (·.1) = false := by rfl)
    (ht : eval (.Call (.Attribute o m apos) (e :: es) [] pos) X.env = (do
      let ov ← eval o X.env
      standAt apos.atName
      let (f, first) ← holding [ov] (getMethod ov m pl)
      callWith pos f first (backTo pos (starEach (e :: es) X.env)) (backToKw pos (keywordEach [] X.env))) := by rfl) :
    PE X (.Call (.Attribute o m apos) (e :: es) [] pos) (tMeth C m sp dvs E ta t) := by
  intro pins s σ H Q I h
  refine PySem.W.methodCall_KW (pl := pl) (thn (he pins s σ H _ I h) fun u s1 hz => ex5 hz fun x H1 I1 rx ⟨a, dx, fs, ex, ea, l, q⟩ => ?_) ht
  subst ex
  obtain rfl : u = Value.ref a := rx
  refine getmeth_ok I1 ea c hm l ?_
  refine PySem.W.callWith_K (first := [.ref a]) (h₀ := X.base) I.ok.mod.kin hm.kp (thn (ha pos pins s1 σ H1 _ I1 q) fun us s2 hz => ex5 hz fun vs H2 I2 r q2 => ⟨I2.kIn, ?_⟩) hst hpl
  exact run_fn (us := .ref a :: us) (vs := .ref a :: vs) F hr hb hd hx I2 (.cons rfl r) q2
theorem pe_meth0 {pl : Sem Bool} (he : PE X o ta) (c : Cls X.K C) (hm : Meth X.K C m f) (F : FnOk X.prog X.w X.K X.mg X.base CX k f fd ps sp) (hr : Room k X.A) (hb : Binds X.K fd ps ds) (hd : Vals dvs ds) (hx : Passes CX X E)
    (ht : eval (.Call (.Attribute o m apos) [] [] pos) X.env = (do
      let ov ← eval o X.env
      standAt apos.atName
      let (f, first) ← holding [ov] (getMethod ov m pl)
      callWith pos f first (backTo pos (starEach [] X.env)) (backToKw pos (keywordEach [] X.env))) := by rfl) :
    PE X (.Call (.Attribute o m apos) [] [] pos) (tMeth C m sp dvs E ta tNil) := by
  intro pins s σ H Q I h
  refine PySem.W.methodCall_KW (pl := pl) (thn (he pins s σ H _ I h) fun u s1 hz => ex5 hz fun x H1 I1 rx ⟨a, dx, fs, ex, ea, l, q⟩ => ?_) ht
  subst ex
  obtain rfl : u = Value.ref a := rx
  refine getmeth_ok I1 ea c hm l ?_
  exact PySem.W.callWith_K0 (first := [.ref a]) I1.kIn hm.kp (run_fn (us := [.ref a]) (vs := [.ref a]) F hr hb hd hx I1 (.cons rfl .nil) q)
structure Mk (K : PySem.W.Frag) (C f : Addr) : Prop where
  makes : PySem.W.makesIn K C = true
  init : PySem.W.findIn K (.ref C) "__init__" = some (some (.ref f))
  fn : PySem.W.isFn K (.ref f) = true
  kp : PySem.W.keepIn K (.ref C) = true
theorem run_make {pins : List (Addr × Obj)} {σ : St} {H : Hp} {s : Shared} {Q : VK} {us : List Value} {vs : List V} (M : Mk X.K C f) (F : FnOk X.prog X.w X.K X.mg X.base CX k f fd ps sp) (hr : Room (k + 1) X.A) (hb : Binds X.K fd ps ds) (hd : Vals dvs ds)
    (hx : Passes CX X E) (I : Inv X pins σ H s) (r : Vals vs us)
    (h : ∀ x dx, H x = none → H dx = none → dx ≠ x → sp (.ref x :: (vs ++ dvs)) (upd (upd H dx (.own x)) x (.ins C dx [])) (fun v H2 => v = .non ∧ Q (.ref x) H2) E) :
    wpAny (model X.prog X.w) X.A (call (.ref C) us) (EP X pins σ Q) X.xe s := by
  have hq := h (s.heap.objs.size + 1) s.heap.objs.size (I.hok.fresh (Nat.le_succ _)) (I.hok.fresh (Nat.le_refl _)) (Nat.ne_of_lt (Nat.lt_succ_self _))
  have I2 := Inv.made (C := C) I
  have r2 : Vals (V.ref (s.heap.objs.size + 1) :: (vs ++ dvs)) (Value.ref (s.heap.objs.size + 1) :: (us ++ ds)) := .cons rfl (r.append hd)
  have hl : (Value.ref (s.heap.objs.size + 1) :: us ++ ds).length = ps.length := by
    have e := r2.length
    rw [F.len _ _ _ _ hq] at e
    exact e.symm
  refine wpAny_call (make_map (f := f) I.kIn M.makes M.init (beq_iff_eq.mp M.fn) (codeAny_mono (F.run _ X.stack _ _ ⟨Value.ref (s.heap.objs.size + 1) :: us, []⟩ (Value.ref (s.heap.objs.size + 1) :: (us ++ ds)) _ _ E (hr.make C us [])
    (I2.env0.make C us []) (hb _ (Value.ref (s.heap.objs.size + 1) :: us) I2.kIn hl) r2 hq) fun r s' hq' => ?_))
  cases r with
  | error e => exact hx pins σ _ _ e s' I2 hq'
  | ok fl =>
    cases fl with
    | ret u =>
      obtain ⟨v, H', I3, rv, ev, q3⟩ := I2.after hq'
      subst ev
      exact ⟨rv, ⟨V.ref (s.heap.objs.size + 1), H', I3, rfl, q3⟩⟩
    | next => exact False.elim hq'
    | brk => exact False.elim hq'
    | cont => exact False.elim hq'
theorem pe_make (M : Mk X.K C f) (F : FnOk X.prog X.w X.K X.mg X.base CX k f fd ps sp) (hr : Room (k + 1) X.A) (hg : Gl X x) (hm : X.mg x = some (.ref C)) (hb : Binds X.K fd ps ds) (hd : Vals dvs ds) (hx : Passes CX X E)
    (ha : PA X (e :: es) t) (hdb : (x == ("__debug__" : Str)) = false := by decide) (he : starEach (e :: es) X.env = (false, eval e X.env) :: starEach es X.env := by rfl) (hpl : (backTo pos (starEach es X.env)).any (·.1) = false := by rfl) :
    PE X (.Call (.Name x p) (e :: es) [] pos) (tMake C sp dvs E t) := by
  intro pins s σ H Q I h
  refine wpAny_Call_Name_kw (ld_glob I hg hm ?_ hdb)
  refine PySem.W.callWith_K (h₀ := X.base) I.ok.mod.kin M.kp (thn (ha pos pins s σ H _ I h) fun us s1 hz => ex5 hz fun vs H1 I1 r q => ⟨I1.kIn, ?_⟩) he hpl
  exact run_make M F hr hb hd hx I1 r q
end
section
variable {X : Cx} {CX : CXT} {k : Nat} {f C : Addr} {fd : FuncData} {ps ks : List Str} {sp : Sp} {E : XK} {x m : Str} {p pos apos kpos : Pos} {e o : Expr} {es : List Expr} {kws : List Keyword} {te ta : TE} {t tk : TA} {nm : Option Str}
variable {g : List Value → List Value → List Value} {gV : List V → List V → List V}
end
structure FnScope (N P : List Str) (sc : Scope) : Prop where
  kind : sc.kind = .function
  co : sc.isCoroutine = false
  gen : sc.isGenerator = false
  nd : N.Nodup
  pre : N.take P.length = P
  par : ∀ x ∈ P, sc.names.lookup x = some .local ∨ sc.names.lookup x = some .cell
  nofree : ∀ y ∈ sc.names, y.2 ≠ .free
theorem bindL_out {kindOf : Str → Option NameKind} {x : Str} : ∀ {binds : List (Str × Value)} {m : Str → Option Value}, (∀ v, (x, v) ∉ binds) → bindL kindOf binds m x = m x
  | [], _, _ => rfl
  | (n, v) :: r, m, h => by
    unfold bindL
    rw [bindL_out fun w hw => h w (List.mem_cons_of_mem _ hw)]
    split
    · have : x ≠ n := by rintro rfl; exact h v List.mem_cons_self
      simp [this]
    · rfl
theorem bindC_out {kindOf : Str → Option NameKind} {x : Str} : ∀ {binds : List (Str × Value)} {m : Str → Option Value}, (∀ v, (x, v) ∉ binds) → bindC kindOf binds m x = m x
  | [], _, _ => rfl
  | (n, v) :: r, m, h => by
    unfold bindC
    rw [bindC_out fun w hw => h w (List.mem_cons_of_mem _ hw)]
    split
    · rfl
    · have : x ≠ n := by rintro rfl; exact h v List.mem_cons_self
      simp [this]
theorem bindL_get {kindOf : Str → Option NameKind} {x : Str} {v : Value} : ∀ {P : List Str} {vs : List Value} {i : Nat} {m : Str → Option Value}, P.Nodup → P[i]? = some x → vs[i]? = some v → kindOf x = some .local →
    bindL kindOf (P.zip vs) m x = some v
  | [], _, _, _, _, h, _, _ => by simp at h
  | _ :: _, [], _, _, _, _, h, _ => by simp at h
  | p :: P, w :: vs, 0, m, nd, h1, h2, hk => by
    simp at h1 h2; subst h1; subst h2
    show bindL kindOf ((p, w) :: P.zip vs) m p = _
    unfold bindL
    rw [bindL_out fun v hv => (List.nodup_cons.mp nd).1 (List.of_mem_zip hv).1, if_pos hk]
    simp
  | p :: P, w :: vs, i + 1, m, nd, h1, h2, hk => by
    show bindL kindOf ((p, w) :: P.zip vs) m x = _
    unfold bindL
    exact bindL_get (i := i) (List.nodup_cons.mp nd).2 (by simpa using h1) (by simpa using h2) hk
theorem bindC_get {kindOf : Str → Option NameKind} {x : Str} {v : Value} : ∀ {P : List Str} {vs : List Value} {i : Nat} {m : Str → Option Value}, P.Nodup → P[i]? = some x → vs[i]? = some v → kindOf x ≠ some .local →
    bindC kindOf (P.zip vs) m x = some v
  | [], _, _, _, _, h, _, _ => by simp at h
  | _ :: _, [], _, _, _, _, h, _ => by simp at h
  | p :: P, w :: vs, 0, m, nd, h1, h2, hk => by
    simp at h1 h2; subst h1; subst h2
    show bindC kindOf ((p, w) :: P.zip vs) m p = _
    unfold bindC
    rw [bindC_out fun v hv => (List.nodup_cons.mp nd).1 (List.of_mem_zip hv).1, if_neg hk]
    simp
  | p :: P, w :: vs, i + 1, m, nd, h1, h2, hk => by
    show bindC kindOf ((p, w) :: P.zip vs) m x = _
    unfold bindC
    exact bindC_get (i := i) (List.nodup_cons.mp nd).2 (by simpa using h1) (by simpa using h2) hk
noncomputable def start (N : List Str) (vs : List V) : St := vs.map some ++ List.replicate (N.length - vs.length) none
noncomputable def cxOf (CX : CXT) (P : Program) (w : World) (K : PySem.W.Frag) (mg : Str → Option Value) (base : Heap) (N : List Str) (qual : Str) (scope : Scope) (f : Addr) (cd : Value) (A : Around) (outer : List Env) (s : Shared) (H : Hp) (E : XK) : Cx where
  prog := P
  w := w
  K := K
  mg := mg
  base := base
  A := A.deeper (envOfC qual scope s.heap.objs.size f cd)
  N := N
  s₀ := s
  H₀ := H
  env := envOfC qual scope s.heap.objs.size f cd
  outer := outer
  stack := envOfC qual scope s.heap.objs.size f cd :: outer
  ex := []
  calm := true
  fn := fun _ => true
  pn := []
  xe := fun e s' => wpAny (model P w) (A.deeper (envOfC qual scope s.heap.objs.size f cd)) (leaving (envOfC qual scope s.heap.objs.size f cd) e) (fun _ s'' => CX outer H s E e s'') (fun e' s'' => CX outer H s E e' s'') s'
theorem cell_has {sc : Scope} {n : Nat} {x : Str} (h : sc.names.lookup x = some .cell) : ∃ c, (cellsFrom n sc.names []).lookup x = some c := by
  have q := PySem.W.cellsFrom_some sc.names n [] (.inl h)
  exact Option.isSome_iff_exists.mp q
theorem inv_start {CX : CXT} {P : Program} {w : World} {K : PySem.W.Frag} {mg : Str → Option Value} {base : Heap} {N ps : List Str} {qual : Str} {scope : Scope} {f : Addr} {cd : Value} {A : Around} {outer : List Env} {s s1 : Shared} {H : Hp} {E : XK} {us : List Value} {vs : List V}
    (S : FnScope N ps scope) (hd : A.handled = none) (e0 : Env0 P w K mg base A outer s H) (hl : vs.length = ps.length) (r : Vals vs us)
    (x : InCallC s s.heap.objs.size (bindL (envOfC qual scope s.heap.objs.size f cd).kindOf (ps.zip us) fun _ => none) (cellsFrom (s.heap.objs.size + 1) scope.names []) (bindC (envOfC qual scope s.heap.objs.size f cd).kindOf (ps.zip us) fun _ => none) s1) :
    Inv (cxOf CX P w K mg base N qual scope f cd A outer s H E) [] (start N vs) H s1 := by
  have hpl : ps.length ≤ N.length := by have := congrArg List.length S.pre; rw [List.length_take] at this; lia
  obtain ⟨h1, tk, rfl, hk⟩ := x.done
  have noA : ∀ b : Addr, b ∉ (cxOf CX P w K mg base N qual scope f cd A outer s H E).ex := fun b z => absurd (show b ∈ ([] : List Addr) from z) (by simp)
  refine ⟨⟨e0.mod, S.kind, rfl, rfl, Nat.le_refl _, fun y z c h1 h2 => ?_, fun y hy => ?_, fun y c _ h => ?_, fun _ => hd, Around.frames_deeper e0.frames, .inr ⟨rfl, rfl⟩, fun b z => absurd z (noA b), e0.bs, e0.bsz, fun b _ _ => noA b, fun b z => absurd z (noA b), e0.funs, e0.frf⟩,
    rfl, e0.bare, Un.kept hk, ⟨_, x.toInCall.ns, fun i y v h1 h2 h3 => ?_⟩, fun y c h => ⟨_, x.cell y c h⟩, e0.hok.fresh (Nat.le_refl _), fun y c h => ?_, fun p hp => absurd (show p ∈ ([] : List (Addr × Obj)) from hp) (by simp), e0.hok.kept hk, ?_⟩
  · exact name_of_addr x.apart (PySem.mem_of_lookup h1) (PySem.mem_of_lookup h2)
  · have hy : scope.names.lookup y = some .cell ∨ scope.names.lookup y = some .free := hy
    rcases hy with hy | hy
    · exact cell_has hy
    · exact absurd rfl (S.nofree _ (PySem.mem_of_lookup hy))
  · exact Nat.le_of_lt (x.above y c (PySem.mem_of_lookup h))
  · have hi : i < vs.length := by
      unfold start at h2
      by_cases hi : i < vs.length
      · exact hi
      · rw [List.getElem?_append_right (by simpa using hi)] at h2
        rw [List.getElem?_replicate] at h2
        split at h2 <;> cases h2
    have ha : vs[i]? = some v := by
      unfold start at h2
      rw [List.getElem?_append_left (by simpa using hi), List.getElem?_map] at h2
      cases e : vs[i]? with
      | none => rw [e] at h2; cases h2
      | some a => rw [e] at h2; cases h2; rfl
    obtain ⟨u, hu, rv⟩ := r.get ha
    have hp : ps[i]? = some y := by
      rw [← S.pre, List.getElem?_take_of_lt (by lia)]; exact h1
    have ndP : ps.Nodup := by rw [← S.pre]; exact S.nd.sublist (List.take_sublist _ _)
    refine ⟨u, rv, ?_⟩
    rcases S.par y (List.mem_of_getElem? hp) with k | k
    · exact .inl ⟨k, bindL_get ndP hp hu k⟩
    · obtain ⟨c, e⟩ := cell_has (n := s.heap.objs.size + 1) k
      refine .inr ⟨.inl k, c, e, ?_⟩
      have q := x.cell y c e
      rw [bindC_get ndP hp hu (by show scope.names.lookup y ≠ _; rw [k]; decide)] at q
      exact q
  · exact e0.hok.fresh (Nat.le_of_lt (x.above y c (PySem.mem_of_lookup h)))
  · unfold start
    show _ = N.length
    rw [List.length_append, List.length_map, List.length_replicate]
    lia
theorem fn_of {CX : CXT} {P : Program} {w : World} {K : PySem.W.Frag} {mg : Str → Option Value} {base : Heap} {k : Nat} {f : Addr} {name qual : Str} {params : Arguments} {body : List Stmt} {scope : Scope} {dV kV doc pm cdv ct oc : Value} {an od : Option Addr}
    {osl : Array (Option Value)} {N ps : List Str} {sp : Sp} (lk : K.lookup f = some ⟨oc, od, .func (PySem.W.fnOf name qual params body scope dV kV doc pm an cdv ct), osl⟩) (hcd : PySem.W.codeIn K cdv qual = true) (S : FnScope N ps scope)
    (len : ∀ vs H Q E, sp vs H Q E → vs.length = ps.length)
    (hbody : ∀ (A : Around) (outer : List Env) (s : Shared) (H : Hp) (vs : List V) (Q : VK) (E : XK), Room k (A.deeper (envOfC qual scope s.heap.objs.size f cdv)) → sp vs H Q E →
      ∃ t, PSs (cxOf CX P w K mg base N qual scope f cdv A outer s H E) body t ∧ t { nx := fun _ H' => Q .non H', rt := Q } (start N vs) H) :
    FnOk P w K mg base CX (k + 1) f (PySem.W.fnOf name qual params body scope dV kV doc pm an cdv ct) ps sp := by
  refine ⟨len, fun A outer s H args us vs Q E hr e0 hb r hsp => ?_⟩
  have hl := len _ _ _ _ hsp
  have KX : K.In s.heap := e0.mod.kin.keeps fun b o e => (e0.bs b o e).1
  have lim : s.heap.NoLimit := e0.mod.nolimit.keeps fun b o e => (e0.bs b o e).1
  have hkind : ∀ y ∈ ps.zip us, scope.names.lookup y.1 = some .local ∨ (scope.names.lookup y.1 = some .cell ∧ ((cellsFrom (s.heap.objs.size + 1) scope.names []).lookup y.1).isSome = true) := fun ⟨n, v⟩ hy => by
    rcases S.par n (List.of_mem_zip hy).1 with q | q
    · exact .inl q
    · exact .inr ⟨q, PySem.W.cellsFrom_some _ _ _ (.inl q)⟩
  refine codeAny_call_function hr.depth (KX _ _ lk) rfl S.co S.gen rfl (PySem.W.codeRec_of KX hcd) (hb _ _ _ _ ?_)
  refine wpAny_newFunctionEnv_cells S.kind hkind fun env he s1 x => ?_
  subst he
  refine ⟨lim.keeps x.toInCall.keep, codeAny_func ?_⟩
  obtain ⟨t, ht, hq⟩ := hbody A outer s H vs Q E (hr.deeper _) hsp
  have I : Inv (cxOf CX P w K mg base N qual scope f cdv A outer s H E) [] (start N vs) H s1 := inv_start S hr.hd e0 hl r x
  refine wpAny_mono (ht [] s1 (start N vs) H _ I hq) (fun fl s' hs => ?_) fun e s' hs => hs
  have fin : ∀ {σ' : St} {H' : Hp} {v : V} {u : Value}, Inv (cxOf CX P w K mg base N qual scope f cdv A outer s H E) [] σ' H' s' → RelV v u → Q v H' → CE outer P w H s Q u s' :=
    fun {σ' H' v u} J rv q => ⟨v, H', J.os, J.bare, J.base, J.hok, rv, q⟩
  cases fl with
  | ret u =>
    obtain ⟨v, σ', H', J, rv, q⟩ := hs
    exact fin J rv q
  | next =>
    obtain ⟨σ', H', J, q⟩ := hs
    exact fin (v := V.non) (u := Value.none) J rfl q
  | brk =>
    obtain ⟨_, _, _, q⟩ := hs
    exact False.elim q
  | cont =>
    obtain ⟨_, _, _, q⟩ := hs
    exact False.elim q
end L2
namespace L2
open PySem PySem.Spec PyProof.Rows
section
variable {X : Cx} {x : Str} {p pos : Pos} {e : Expr} {es : List Expr} {t : TA} {id T : String} {r : List V → Hp → VK → Prop}
noncomputable def tCB (r : List V → Hp → VK → Prop) (t : TA) : TE := fun σ H Q => t σ H fun vs H1 => r vs H1 Q
theorem pe_callB (hc : CallR X (.builtin id) r) (hg : Gl X x) (hm : X.mg x = none) (hv : bootBuiltins x = some (.builtin id)) (ha : PA X (e :: es) t) (hn : x ≠ "__name__" := by decide) (hdb : (x == ("__debug__" : Str)) = false := by decide)
    (he : starEach (e :: es) X.env = (false, eval e X.env) :: starEach es X.env := by rfl) (hpl : (backTo pos (starEach es X.env)).any (·.1) = false := by rfl) : PE X (.Call (.Name x p) (e :: es) [] pos) (tCB r t) := by
  intro pins s σ H Q I h
  refine wpAny_Call_Name_kw (ld_blt I hg hm hv ?_ hn hdb)
  exact PyProof.Rows.callWith_builtin1 (thn (ha pos pins s σ H _ I h) fun us s1 hz => ex5 hz fun vs H1 I1 r1 q1 => hc pins s1 σ H1 vs us Q I1 r1 q1) he hpl
theorem pe_callTy (hc : CallR X (.type T) r) (hg : Gl X x) (hm : X.mg x = none) (hv : bootBuiltins x = some (.type T)) (ha : PA X (e :: es) t) (hn : x ≠ "__name__" := by decide) (hdb : (x == ("__debug__" : Str)) = false := by decide)
    (he : starEach (e :: es) X.env = (false, eval e X.env) :: starEach es X.env := by rfl) (hpl : (backTo pos (starEach es X.env)).any (·.1) = false := by rfl) : PE X (.Call (.Name x p) (e :: es) [] pos) (tCB r t) := by
  intro pins s σ H Q I h
  refine wpAny_Call_Name_kw (ld_blt I hg hm hv ?_ hn hdb)
  exact PyProof.Rows.callWith_type1 (thn (ha pos pins s σ H _ I h) fun us s1 hz => ex5 hz fun vs H1 I1 r1 q1 => hc pins s1 σ H1 vs us Q I1 r1 q1) he hpl
end
end L2
namespace HT
open PySem PyProof.Rows
section
open PySem.SeqAt
open PySem.AutoSeq1 (wpAny_loadPart')
open PySem.MeetsSeq PySem.MeetsSeq2 PySem.MeetsSeq3
end
section
variable {prog : Program} {w : World} {A : Around} {E : Value → Shared → Prop} {s : Shared}
theorem cat_tup {t b : Addr} {vs ws : List Value} {Q : Value → Shared → Prop} (ht : IsTup s.heap t vs.toArray) (hb : IsTup s.heap b ws.toArray) (hv : vs ≠ [])
    (h1 : ws = [] → Q (.ref t) s) (h2 : ws ≠ [] → Q (.ref s.heap.objs.size) { s with heap := s.heap.push { cls := .type "tuple", data := .seq (vs ++ ws).toArray } })
    (hsz : vs.length + ws.length ≤ sizeLine) : wpAny (model prog w) A (binaryOp .Add (.ref t) (.ref b)) Q E s := by
  obtain ⟨⟨cls, dd, data, sl⟩, ho, hc, n, hd⟩ := id ht
  obtain ⟨⟨cls2, dd2, data2, sl2⟩, ho2, hc2, n2, hd2⟩ := id hb
  simp only at hc hd hc2 hd2
  subst hc hd hc2 hd2
  have e : vs.toArray ++ ws.toArray = (vs ++ ws).toArray := by simp
  by_cases hw : ws = []
  · exact concat_meets ⟨_, ho, rfl⟩ ⟨_, ho2, rfl⟩ noFill_tuple_add seq_tuple_add PySem.F.slot_tuple_add PySem.F.entry_tuple_add (PySem.F.args_tuple_add_2 _ _)
      (tuple_addW1 t b vs.toArray ws.toArray n n2 dd dd2 sl sl2 (by simpa using hv) (by simp [hw])) ⟨ho, ho2, h1 hw⟩
  · refine concat_meets ⟨_, ho, rfl⟩ ⟨_, ho2, rfl⟩ noFill_tuple_add seq_tuple_add PySem.F.slot_tuple_add PySem.F.entry_tuple_add (PySem.F.args_tuple_add_2 _ _)
      (tuple_addW2 t b vs.toArray ws.toArray n n2 dd dd2 sl sl2 (by simpa using hv) (by simpa using hw) (by rw [List.size_toArray, List.size_toArray]; exact hsz)) ⟨ho, ho2, ?_⟩
    rw [e]
    exact h2 hw
noncomputable def sIx (n d : Nat) : Option Int → Nat
  | none => d
  | some v => if v < 0 then (v + (n : Int)).toNat else min v.toNat n
theorem sIx_le (n d : Nat) (hd : d ≤ n) (o : Option Int) : sIx n d o ≤ n := by
  cases o with
  | none => exact hd
  | some v =>
    show (if v < 0 then (v + (n : Int)).toNat else min v.toNat n) ≤ n
    by_cases hv : v < 0
    · rw [if_pos hv]; lia
    · rw [if_neg hv]; exact Nat.min_le_right _ _
theorem clip_eq (v : Int) (n d : Nat) : (if v < 0 then max (v + (n : Int)) 0 else min v (n : Int)) = ((sIx n d (some v) : Nat) : Int) := by
  show (if v < 0 then max (v + (n : Int)) 0 else min v (n : Int)) = (((if v < 0 then (v + (n : Int)).toNat else min v.toNat n) : Nat) : Int)
  by_cases hv : v < 0
  · simp only [if_pos hv]; lia
  · simp only [if_neg hv]; lia
theorem adjust_gen (lo hi : Option Int) (n : Nat) : Builtin.Slice.sliceAdjust lo hi 1 (n : Int) = (((sIx n 0 lo : Nat) : Int), ((sIx n n hi : Nat) : Int)) := by
  have h1 : ¬ ((1 : Int) < 0) := by lia
  unfold Builtin.Slice.sliceAdjust
  simp only [h1, if_false]
  refine Prod.ext ?_ ?_
  · cases lo with
    | none => rfl
    | some v => exact clip_eq v n 0
  · cases hi with
    | none => rfl
    | some v => exact clip_eq v n n
theorem places_gen (i j : Nat) : Builtin.Slice.slicePlaces (i : Int) (j : Int) 1 = j - i := by
  unfold Builtin.Slice.slicePlaces
  have h1 : (1 : Int) > 0 := by lia
  simp only [h1, if_true, Int.ediv_one]
  split <;> lia
theorem slicePart_ {v : Value} {o : Option Int} {Q : Option Int → Shared → Prop} (p : IsPart v o) (h : Q o s) : wpAny (model prog w) A (Builtin.Slice.slicePartIndex v) Q E s := by
  cases p with
  | none => exact slicePart_none h
  | int i t => exact slicePart_int h
theorem sliceApplied_gen {sl : Addr} {vl vu : Value} {lo hi : Option Int} {n : Nat} {Q : Int × Int × Nat → Shared → Prop} (hs : s.heap.IsSliceOf sl vl vu .none) (pl : IsPart vl lo) (pu : IsPart vu hi)
    (h : Q (((sIx n 0 lo : Nat) : Int), 1, sIx n n hi - sIx n 0 lo) s) : wpAny (model prog w) A (Builtin.Slice.sliceApplied (.ref sl) (pure (n : Int))) Q E s := by
  obtain ⟨os, hos, hcs, hds⟩ := id hs
  unfold Builtin.Slice.sliceApplied Builtin.Slice.sliceFields
  refine wpAny_bind (wpAny_bind (wpAny_field hos hds (x := vl) rfl (wpAny_bind (wpAny_field hos hds (x := vu) rfl (wpAny_bind (wpAny_field hos hds (x := .none) rfl (wpAny_pure ?_)))))))
  refine wpAny_bind (slicePart_none ?_)
  show wpAny _ _ (if ((1 : Int) == 0) = true then _ else _) _ _ s
  rw [if_neg (by decide)]
  refine wpAny_bind (slicePart_ pl (wpAny_bind (slicePart_ pu (wpAny_bind (wpAny_pure ?_)))))
  show wpAny _ _ (match Builtin.Slice.sliceAdjust lo hi 1 (n : Int) with | (lo, hi) => pure (lo, (1 : Int), Builtin.Slice.slicePlaces lo hi 1)) _ _ s
  rw [adjust_gen lo hi n]
  show wpAny _ _ (pure (((sIx n 0 lo : Nat) : Int), (1 : Int), Builtin.Slice.slicePlaces ((sIx n 0 lo : Nat) : Int) ((sIx n n hi : Nat) : Int) 1)) _ _ s
  rw [places_gen]
  exact wpAny_pure h
theorem pick_gen (xs : Array Value) (i k : Nat) : ((List.range k).filterMap fun (m : Nat) => xs[((i : Int) + (m : Int) * 1).toNat]?).toArray = ((xs.toList.drop i).take k).toArray := by
  have e : (fun (m : Nat) => xs[((i : Int) + (m : Int) * 1).toNat]?) = fun m => xs[i + m]? := by
    funext m
    have : ((i : Int) + (m : Int) * 1).toNat = i + m := by lia
    rw [this]
  rw [e]
  have := pick_run xs i k
  rw [List.filterMap_map] at this
  have e2 : ((fun x => xs[x]?) ∘ fun x => i + x) = fun m => xs[i + m]? := rfl
  rw [e2] at this
  rw [this]
theorem getItem_tuple_cut {t sl : Addr} {items : Array Value} {vl vu : Value} {lo hi : Option Int} {Q : Value → Shared → Prop} (ht : IsTup s.heap t items) (hs : s.heap.IsSliceOf sl vl vu .none) (pl : IsPart vl lo) (pu : IsPart vu hi)
    (hw : ¬ (sIx items.size 0 lo = 0 ∧ sIx items.size items.size hi = items.size))
    (h : Q (.ref s.heap.objs.size) { s with heap := s.heap.push { cls := .type "tuple", data := .seq ((items.toList.drop (sIx items.size 0 lo)).take (sIx items.size items.size hi - sIx items.size 0 lo)).toArray } })
    (hsz : items.size ≤ sizeLine) : wpAny (model prog w) A (getItem (.ref t) (.ref sl)) Q E s := by
  have htake : sizeOk (.seq ((items.toList.drop (sIx items.size 0 lo)).take (sIx items.size items.size hi - sIx items.size 0 lo)).toArray) := by
    show ((items.toList.drop (sIx items.size 0 lo)).take (sIx items.size items.size hi - sIx items.size 0 lo)).toArray.size ≤ sizeLine
    rw [List.size_toArray, List.length_take, List.length_drop, Array.length_toList]
    lia
  have hj : sIx items.size items.size hi ≤ items.size := sIx_le _ _ (Nat.le_refl _) hi
  obtain ⟨os, hos, hcs, hds⟩ := id hs
  have hTs : s.TypeIs (.ref sl) "slice" := ⟨os, hos, hcs⟩
  unfold getItem
  try with_reducible refine wpAny_holding ?_
  first | refine wpAny_bind (wpAny_pure ?_) | skip
  refine wpAny_bind (wpAny_sequenceKey ht.typeIs (by decide) ?_)
  refine wpAny_bind (wpAny_callSpecial?_slot (name := Str.ofString "__getitem__") ht.typeIs PyProof.Rows.slot_tuple_getitem
    (wpAny_call_entry PyProof.Rows.slot_tuple_getitem ht.typeIs entry_tuple_getitem ?_ (args_tuple_getitem _ _)))
  show wpAny _ _ (Builtin.Tuple.tupleItemsOf (.ref t) >>= _) _ _ s
  refine wpAny_bind (tupleItemsOf_ ht ?_)
  refine wpAny_bind (wpAny_typeOf hTs ?_)
  rw [if_pos (by decide)]
  refine wpAny_bind (sliceApplied_gen hs pl pu ?_)
  have hno : ¬ ((((sIx items.size 0 lo : Nat) : Int) == 0 && (1 : Int) == 1 && (sIx items.size items.size hi - sIx items.size 0 lo) == items.size) = true) := by
    intro q
    rw [Bool.and_eq_true, Bool.and_eq_true] at q
    have q1 : ((sIx items.size 0 lo : Nat) : Int) = 0 := eq_of_beq q.1.1
    have q2 : sIx items.size items.size hi - sIx items.size 0 lo = items.size := eq_of_beq q.2
    exact hw ⟨by lia, by lia⟩
  show wpAny _ _ (if (((sIx items.size 0 lo : Nat) : Int) == 0 && (1 : Int) == 1 && (sIx items.size items.size hi - sIx items.size 0 lo) == items.size) = true then _ else _) _ _ s
  rw [if_neg hno, pick_gen]
  first
    | exact wpAny_bind (m := Builtin.Tuple.tupleExact _) (wpAny_newObj_type (wpAny_pure ⟨_, rfl, wpAny_pure h⟩) htake)
    | exact wpAny_bind (m := Builtin.Tuple.tupleExact _) (wpAny_newObj_type (wpAny_bind (wpAny_pure (wpAny_pure ⟨_, rfl, wpAny_pure h⟩))) htake)
    | exact wpAny_bind (wpAny_bind (m := Builtin.Tuple.tupleExact _) (wpAny_newObj_type (wpAny_pure (wpAny_pure ⟨_, rfl, wpAny_pure h⟩)) htake))
    | exact wpAny_bind (wpAny_bind (m := Builtin.Tuple.tupleExact _) (wpAny_newObj_type (wpAny_pure ⟨_, rfl, wpAny_pure h⟩) htake))
end
end HT
namespace L2
open PySem PySem.Spec PyProof.Rows
noncomputable abbrev TO := St → Hp → (Option Int → Hp → Prop) → Prop
noncomputable def PO (X : Cx) (e : Option Expr) (t : TO) : Prop :=
  ∀ (pins : List (Addr × Obj)) (s : Shared) (σ : St) (H : Hp) (Q : Option Int → Hp → Prop), Inv X pins σ H s → t σ H Q →
    wpAny (model X.prog X.w) X.A (evalPart e X.env) (fun u s' => ∃ o H', Inv X pins σ H' s' ∧ IsPart u o ∧ Q o H') X.xe s
noncomputable def tNoPart : TO := fun _ H Q => Q none H
noncomputable def tPart (t : TE) : TO := fun σ H Q => t σ H fun x H1 => ∃ i, x = .int i ∧ Q (some i) H1
section
variable {X : Cx} {e : Expr} {te : TE} {lo hi : Option Expr} {tl th : TO} {pos p2 : Pos}
theorem po_none : PO X none tNoPart := by
  intro pins s σ H Q I h
  rw [evalPart_none]
  exact wpAny_pure ⟨none, H, I, .none, h⟩
theorem po_some (h : PE X e te) : PO X (some e) (tPart te) := by
  intro pins s σ H Q I hw
  rw [evalPart_some]
  refine thn (h pins s σ H _ I hw) fun u s1 hz => ex5 hz fun x H1 I1 r1 q1 => ?_
  obtain ⟨i, rfl, q⟩ := q1
  obtain ⟨t, rfl⟩ := r1
  exact ⟨some i, H1, I1, .int i t, q⟩
noncomputable def SlR (X : Cx) (r : V → Option Int → Option Int → Hp → VK → Prop) : Prop :=
  ∀ (pins : List (Addr × Obj)) (s : Shared) (σ : St) (H : Hp) (x : V) (v vl vu : Value) (lo hi : Option Int) (sl : Addr) (Q : VK), Inv X pins σ H s → RelV x v → s.heap.IsSliceOf sl vl vu .none → IsPart vl lo → IsPart vu hi → r x lo hi H Q →
    ∃ T id, typeLookup (.type T) "__getitem__" = pure (some (.builtin id)) ∧ s.TypeIs v T ∧ wpAny (model X.prog X.w) X.A (getItem v (.ref sl)) (EP X pins σ Q) X.xe s
noncomputable def tSl (r : V → Option Int → Option Int → Hp → VK → Prop) (te : TE) (tl th : TO) : TE := fun σ H Q => te σ H fun x H1 => tl σ H1 fun l H2 => th σ H2 fun u H3 => r x l u H3 Q
theorem pe_slice {r : V → Option Int → Option Int → Hp → VK → Prop} (hr : SlR X r) (he : PE X e te) (hl : PO X lo tl) (hu : PO X hi th) : PE X (.Subscript e (.Slice lo hi none p2) pos) (tSl r te tl th) := by
  intro pins s σ H Q I h
  refine Subscript_ (thn (he pins s σ H _ I h) fun v s1 hz => ex5 hz fun x H1 I1 r1 q1 => ?_)
  refine wpAny_Slice (thn (hl pins s1 σ H1 _ I1 q1) fun vl s2 hz => ex5 hz fun l H2 I2 pl q2 => thn (hu pins s2 σ H2 _ I2 q2) fun vu s3 hz => ex5 hz fun u H3 I3 pu q3 => ?_)
  rw [evalPart_none]
  refine wpAny_pure ?_
  have I4 : Inv X pins σ H3 { s3 with heap := s3.heap.push { cls := .type "slice", data := .fields #[vl, vu, .none] } } := I3.kept (t' := s3.toks) fun b ob q => Heap.get?_push_of_some _ q
  obtain ⟨T, id, hT, ht, hg⟩ := hr pins { s3 with heap := s3.heap.push { cls := .type "slice", data := .fields #[vl, vu, .none] } } σ H3 x v vl vu l u s3.heap.objs.size Q I4 r1 (Heap.IsSliceOf.new ..) pl pu q3
  show wpAny (model X.prog X.w) X.A (subscriptTail e (.Slice lo hi none p2) v (.ref s3.heap.objs.size)) (EP X pins σ Q) X.xe { s3 with heap := s3.heap.push { cls := .type "slice", data := .fields #[vl, vu, .none] } }
  exact tail_any (ops := [.ref s3.heap.objs.size, v]) ht hT hg (by with_unfolding_all rfl)
noncomputable def cutV (xs : List V) (lo hi : Option Int) : List V := (xs.drop (HT.sIx xs.length 0 lo)).take (HT.sIx xs.length xs.length hi - HT.sIx xs.length 0 lo)
theorem cutV_length (xs : List V) (lo hi : Option Int) : (cutV xs lo hi).length ≤ xs.length := by
  unfold cutV
  rw [List.length_take, List.length_drop]
  lia
noncomputable def rSlT (K : PySem.W.Frag) : V → Option Int → Option Int → Hp → VK → Prop := fun x lo hi H Q => ∃ a xs, x = .ref a ∧ SqT K H a xs ∧
  ¬ (HT.sIx xs.length 0 lo = 0 ∧ HT.sIx xs.length xs.length hi = xs.length) ∧ ∀ p, H p = none → Q (.ref p) (upd H p (.tup (cutV xs lo hi)))
theorem sl_tup : SlR X (rSlT X.K) := by
  intro pins s σ H x v vl vu lo hi sl Q I rx hs pl pu h
  obtain ⟨a, xs, rfl, hx, hw, q⟩ := h
  cases rx
  obtain ⟨its, r, ht, hz⟩ := I.tuple hx
  have hlen : its.toArray.size = xs.length := by rw [List.size_toArray]; exact r.length.symm
  refine ⟨"tuple", _, PyProof.Rows.slot_tuple_getitem.lookup, ht.typeIs, ?_⟩
  refine HT.getItem_tuple_cut ht hs pl pu (by rw [hlen]; exact hw) ?_ (by rw [hlen]; exact hz)
  rw [hlen]
  refine ⟨.ref s.heap.objs.size, _, I.laid (t' := s.toks) (o := .tup (cutV xs lo hi)) (fun b ob q => Heap.get?_push_of_some _ q) (Nat.le_refl _) ?_, rfl, q _ (I.hok.fresh (Nat.le_refl _))⟩
  exact ⟨Nat.le_trans (cutV_length xs lo hi) hz, _, (r.drop (HT.sIx xs.length 0 lo)).take (HT.sIx xs.length xs.length hi - HT.sIx xs.length 0 lo), IsTup.new _ _⟩
noncomputable def rCatT (K : PySem.W.Frag) : R2 := fun x y H Q => ∃ a b xs ys, x = .ref a ∧ y = .ref b ∧ SqT K H a xs ∧ SqT K H b ys ∧ xs ≠ [] ∧ xs.length + ys.length ≤ sizeLine ∧
  (ys = [] → Q (.ref a) H) ∧ (ys ≠ [] → ∀ p, H p = none → Q (.ref p) (upd H p (.tup (xs ++ ys))))
theorem Vals.nil_iff {xs : List V} {us : List Value} (r : Vals xs us) : us = [] ↔ xs = [] := by
  cases r with
  | nil => simp
  | cons _ _ => simp
theorem op_catT : OpR X (binaryOp .Add) (rCatT X.K) := by
  intro pins s σ H x y v u Q I rx ry h
  obtain ⟨a, b, xs, ys, rfl, rfl, ha, hb, hx, hz, q1, q2⟩ := h
  cases rx
  cases ry
  obtain ⟨its, r1, p1, _⟩ := I.tuple ha
  obtain ⟨its2, r2, p2, _⟩ := I.tuple hb
  refine HT.cat_tup p1 p2 (fun z => hx (r1.nil_iff.mp z)) (fun z => ⟨.ref a, H, I, rfl, q1 (r2.nil_iff.mp z)⟩) (fun z => ?_) (by rw [← r1.length, ← r2.length]; exact hz)
  refine ⟨.ref s.heap.objs.size, _, I.laid (t' := s.toks) (o := .tup (xs ++ ys)) (fun b ob q => Heap.get?_push_of_some _ q) (Nat.le_refl _) ?_, rfl, q2 (fun w => z (r2.nil_iff.mpr w)) _ (I.hok.fresh (Nat.le_refl _))⟩
  exact ⟨by rw [List.length_append]; exact hz, _, r1.append r2, IsTup.new _ _⟩
end
end L2
namespace L2
open PySem PySem.Spec PyProof.Rows
noncomputable def ixN (n : Nat) (i : Int) : Option Nat := if 0 ≤ i then (if i < n then some i.toNat else none) else if -(n : Int) ≤ i then some (i + n).toNat else none
noncomputable def atI {α : Type} (xs : List α) (i : Int) : Option α := (ixN xs.length i).bind fun j => xs[j]?
theorem ixN_seq {n : Nat} {i : Int} {j : Nat} (h : ixN n i = some j) : seqIndex? i n = some j ∧ j < n ∧ -(n : Int) ≤ i ∧ i < n := by
  unfold ixN at h
  by_cases h0 : 0 ≤ i
  · rw [if_pos h0] at h
    by_cases h1 : i < n
    · rw [if_pos h1] at h
      have e : i.toNat = j := Option.some.inj h
      exact ⟨by rw [seqIndex_of h0 h1, e], by lia, by lia, h1⟩
    · rw [if_neg h1] at h; cases h
  · rw [if_neg h0] at h
    by_cases h1 : -(n : Int) ≤ i
    · rw [if_pos h1] at h
      have e : (i + n).toNat = j := Option.some.inj h
      exact ⟨by rw [seqIndex_neg (by lia) h1, e], by lia, h1, by lia⟩
    · rw [if_neg h1] at h; cases h
theorem atI_get {α : Type} {xs : List α} {i : Int} {v : α} (h : atI xs i = some v) : ∃ j, seqIndex? i xs.length = some j ∧ xs[j]? = some v ∧ j < xs.length ∧ -(xs.length : Int) ≤ i ∧ i < xs.length := by
  unfold atI at h
  cases e : ixN xs.length i with
  | none => rw [e] at h; cases h
  | some j =>
    rw [e] at h
    obtain ⟨h1, h2, h3, h4⟩ := ixN_seq e
    exact ⟨j, h1, h, h2, h3, h4⟩
theorem atI_nat {α : Type} {xs : List α} {j : Nat} {v : α} (h : xs[j]? = some v) : atI xs (j : Int) = some v := by
  have hj : j < xs.length := (List.getElem?_eq_some_iff.mp h).1
  have e : ixN xs.length (j : Int) = some j := by
    unfold ixN
    rw [if_pos (by lia), if_pos (by lia)]; simp
  unfold atI; rw [e]; exact h
noncomputable def PlainIx (b : Expr) : Prop := ∀ o i, subscripted b false o i = operate [o, i] (getItem o i)
noncomputable def IxR (X : Cx) (r : R2) : Prop :=
  ∀ (value slice : Expr) (pins : List (Addr × Obj)) (s : Shared) (σ : St) (H : Hp) (x y : V) (v u : Value) (Q : VK), Inv X pins σ H s → RelV x v → RelV y u → r x y H Q →
    subscripted slice false v u = operate [v, u] (getItem v u) → wpAny (model X.prog X.w) X.A (subscriptTail value slice v u) (EP X pins σ Q) X.xe s
noncomputable def MtR (X : Cx) (id : String) (r : V → List V → Hp → VK → Prop) : Prop :=
  ∀ (pins : List (Addr × Obj)) (s : Shared) (σ : St) (H : Hp) (x : V) (xs : List V) (v : Value) (us : List Value) (Q : VK), Inv X pins σ H s → RelV x v → Vals xs us → r x xs H Q →
    wpAny (model X.prog X.w) X.A (call (.builtin id) (v :: us)) (EP X pins σ Q) X.xe s
section
variable {X : Cx} {a b : Expr} {ta tb : TE} {pos : Pos}
theorem pe_ix {r : R2} (hr : IxR X r) (ha : PE X a ta) (hb : PE X b tb) (hs : PlainIx b) : PE X (.Subscript a b pos) (tOp r ta tb) := by
  intro pins s σ H Q I h
  exact Subscript_ (binT ha hb I h fun v u s2 x y H2 I2 rx ry q => hr a b pins s2 σ H2 x y v u Q I2 rx ry q (hs _ _))
noncomputable def rIxL (K : PySem.W.Frag) : R2 := fun x y H Q => ∃ p xs i v, x = .ref p ∧ y = .int i ∧ SqL K H p xs ∧ atI xs i = some v ∧ Q v H
noncomputable def rIxT (K : PySem.W.Frag) : R2 := fun x y H Q => ∃ p xs i v, x = .ref p ∧ y = .int i ∧ SqT K H p xs ∧ atI xs i = some v ∧ Q v H
theorem ix_list : IxR X (rIxL X.K) := by
  intro value slice pins s σ H x y v u Q I rx ry h hs
  obtain ⟨p, xs, i, z, rfl, rfl, hq, he, q⟩ := h
  cases rx
  obtain ⟨t, rfl⟩ := ry
  obtain ⟨its, r, pl, hz⟩ := I.list hq
  obtain ⟨j, h1, h2, h3, h4, h5⟩ := atI_get he
  obtain ⟨w, ew, rw'⟩ := r.get h2
  have hl := r.length
  have hn := line63
  have fin : EP X pins σ Q w s := ⟨z, H, I, rw', q⟩
  by_cases h0 : 0 ≤ i
  · have hj : i.toNat = j := by
      rw [seqIndex_of h0 h5] at h1
      exact Option.some.inj h1
    exact item_listR pl.isList h0 (by lia) (by rw [hj]; simpa using ew) fin hs
  · have hj : (i + (its.toArray.size : Int)).toNat = j := by
      rw [seqIndex_neg (by lia) h4] at h1
      rw [List.size_toArray, ← hl]
      exact Option.some.inj h1
    exact subscriptTail_builtinR (x := w) pl.isList.typeIs slot_list_getitem.lookup
      (wpAny_getItem_list_neg (Q := fun r s' => r = w ∧ EP X pins σ Q r s') pl.isList (by lia) (by rw [List.size_toArray] <;> lia) (by lia) (by rw [hj]; simpa using ew) ⟨rfl, fin⟩) hs
theorem ix_tup : IxR X (rIxT X.K) := by
  intro value slice pins s σ H x y v u Q I rx ry h hs
  obtain ⟨p, xs, i, z, rfl, rfl, hq, he, q⟩ := h
  cases rx
  obtain ⟨t, rfl⟩ := ry
  obtain ⟨its, r, pl, hz⟩ := I.tuple hq
  obtain ⟨j, h1, h2, h3, h4, h5⟩ := atI_get he
  obtain ⟨w, ew, rw'⟩ := r.get h2
  have hl := r.length
  have hn := line63
  have fin : EP X pins σ Q w s := ⟨z, H, I, rw', q⟩
  exact subscriptTail_builtinR (x := w) pl.typeIs slot_tuple_getitem.lookup
    (getItem_tuple (j := j) (Q := fun r s' => r = w ∧ EP X pins σ Q r s') pl (by lia) (by lia) (by rw [List.size_toArray, ← hl]; exact h1) (by simpa using ew) ⟨rfl, fin⟩) hs
theorem mapSeq_set (its : List Value) (n j : Nat) (u : Value) : Obj.mapSeq (·.setIfInBounds j u) { cls := .type "list", data := .seq its.toArray n } = { cls := .type "list", data := .seq (its.set j u).toArray n } := by
  simp [Obj.mapSeq]
theorem Inv.lst {pins : List (Addr × Obj)} {σ : St} {H : Hp} {s : Shared} {p : Addr} {xs : List V} (I : Inv X pins σ H s) (h : H p = some (.lst xs)) :
    ∃ (its : List Value) (n : Nat), Vals xs its ∧ s.heap.get? p = some { cls := .type "list", data := .seq its.toArray n } ∧ xs.length ≤ sizeLine := by
  obtain ⟨z, its, n, r, e⟩ := I.hok p _ h
  exact ⟨its, n, r, e, z⟩
theorem Inv.lstUpd {pins : List (Addr × Obj)} {σ : St} {H : Hp} {s : Shared} {p : Addr} {xs ys : List V} {its its' : List Value} {n n' : Nat} {f : Obj → Obj} (I : Inv X pins σ H s) (h : H p = some (.lst xs))
    (ho : s.heap.get? p = some { cls := .type "list", data := .seq its.toArray n }) (hf : f { cls := .type "list", data := .seq its.toArray n } = { cls := .type "list", data := .seq its'.toArray n' }) (r : Vals ys its') (hz : ys.length ≤ sizeLine) (t : Nat) :
    Inv X pins σ (upd H p (.lst ys)) { s with heap := s.heap.update p f, toks := t } := by
  have e : (s.heap.update p f).get? p = some { cls := .type "list", data := .seq its'.toArray n' } := by
    rw [Heap.get?_update_self f ho (by rw [hf] <;> rfl), hf]
  refine I.write (x := p) (e := p) (by rw [h]; trivial) (.inl rfl) (fun b u hb q => (Heap.get?_update_other _ _ (Ne.symm hb)).trans q) ⟨_, e⟩ ?_
  exact ⟨hz, its', n', r, e⟩
noncomputable def rSetL : V → V → V → Hp → (Hp → Prop) → Prop := fun o i v H Q => ∃ p xs k j, o = .ref p ∧ i = .int k ∧ H p = some (.lst xs) ∧ ixN xs.length k = some j ∧ Q (upd H p (.lst (xs.set j v)))
theorem set_list : PSet X rSetL := by
  intro pins s σ H o i v ov iv u Q I ro ri rv h
  obtain ⟨p, xs, k, j, rfl, rfl, hp, hj, q⟩ := h
  cases ro
  obtain ⟨t, rfl⟩ := ri
  obtain ⟨its, n, r, ho, hz⟩ := I.lst hp
  obtain ⟨h1, h2, h3, h4⟩ := ixN_seq hj
  have hl := r.length
  have hn := line63
  have I' : Inv X pins σ (upd H p (.lst (xs.set j v))) { s with heap := s.heap.update p (Obj.mapSeq (·.setIfInBounds j u)) } :=
    I.lstUpd hp ho (mapSeq_set its n j u) (r.set rv j) (by rw [List.length_set]; exact hz) s.toks
  by_cases h0 : 0 ≤ k
  · have hk : k.toNat = j := by
      rw [seqIndex_of h0 h4] at h1
      exact Option.some.inj h1
    exact PySem.W.ki_setAt ho h0 (by lia) (by rw [List.size_toArray, ← hl]; exact h4) (by rw [hk]; exact ⟨_, I', q⟩)
  · have hk : (k + (its.toArray.size : Int)).toNat = j := by
      rw [seqIndex_neg (by lia) h3] at h1
      rw [List.size_toArray, ← hl]
      exact Option.some.inj h1
    exact PySem.W.ki_setBack ho (by lia) (by rw [List.size_toArray, ← hl]; exact h3) (by lia) (by rw [hk]; exact ⟨_, I', q⟩)
theorem slice_bounds (lo hi : Option Int) (n : Nat) : (sliceBounds lo hi none n).1 = ((HT.sIx n 0 lo : Nat) : Int) ∧ (sliceBounds lo hi none n).2.1 = ((HT.sIx n n hi : Nat) : Int) ∧ (sliceBounds lo hi none n).2.2 = 1 := by
  refine ⟨?_, ?_, rfl⟩
  · cases lo with
    | none => simp [sliceBounds, HT.sIx]
    | some i =>
      simp only [sliceBounds, HT.sIx, Option.getD_none, show (1 : Int) > 0 by decide, if_true]
      by_cases h : i < 0
      · simp only [h, if_true] <;> lia
      · simp only [h, if_false] <;> lia
  · cases hi with
    | none => simp [sliceBounds, HT.sIx]
    | some i =>
      simp only [sliceBounds, HT.sIx, Option.getD_none, show (1 : Int) > 0 by decide, if_true]
      by_cases h : i < 0
      · simp only [h, if_true] <;> lia
      · simp only [h, if_false] <;> lia
theorem slicePick_cut (its : List Value) (lo hi : Option Int) : slicePick its.toArray lo hi none = ((its.drop (HT.sIx its.length 0 lo)).take (HT.sIx its.length its.length hi - HT.sIx its.length 0 lo)).toArray := by
  obtain ⟨h1, h2, h3⟩ := slice_bounds lo hi its.toArray.size
  unfold slicePick
  rw [h1, h2, h3]
  simp only [sliceRange_one, pick_run, List.size_toArray] <;> rfl
noncomputable def rSlL (K : PySem.W.Frag) : V → Option Int → Option Int → Hp → VK → Prop := fun x lo hi H Q => ∃ a xs, x = .ref a ∧ SqL K H a xs ∧ ∀ p, H p = none → Q (.ref p) (upd H p (.lst (cutV xs lo hi)))
theorem sl_list : SlR X (rSlL X.K) := by
  intro pins s σ H x v vl vu lo hi sl Q I rx hs pl pu h
  obtain ⟨a, xs, rfl, hx, q⟩ := h
  cases rx
  obtain ⟨its, r, ht, hz⟩ := I.list hx
  have hlen := r.length
  refine ⟨"list", _, slot_list_getitem.lookup, ht.isList.typeIs, ?_⟩
  refine wpAny_getItem_list_slice ht.isList hs pl pu .none (by simp) ?_ (by rw [List.size_toArray] <;> lia)
  rw [slicePick_cut, ← hlen]
  refine ⟨.ref s.heap.objs.size, _, I.laid (t' := s.toks) (o := .lst (cutV xs lo hi)) (fun b ob q => Heap.get?_push_of_some _ q) (Nat.le_refl _) ?_, rfl, q _ (I.hok.fresh (Nat.le_refl _))⟩
  exact ⟨Nat.le_trans (cutV_length xs lo hi) hz, _, 0, (r.drop (HT.sIx xs.length 0 lo)).take (HT.sIx xs.length xs.length hi - HT.sIx xs.length 0 lo), Heap.get?_push_size _ rfl⟩
noncomputable def flatV : V → Bool
  | .non => true
  | .bl _ => true
  | .int _ => true
  | .str _ => true
  | _ => false
noncomputable def eqV : V → V → Bool
  | .non, .non => true
  | .bl a, .bl b => a == b
  | .bl a, .int b => (if a then 1 else 0) == b
  | .int a, .bl b => a == (if b then 1 else 0)
  | .int a, .int b => a == b
  | .str a, .str b => a == b
  | _, _ => false
theorem eqAt_V {A : Around} {s : Shared} {y x : V} {u v : Value} (ry : RelV y u) (rx : RelV x v) (fy : flatV y = true) (fx : flatV x = true) : SeqAt.EqAt A s u v (eqV y x) := by
  cases y with
  | non =>
    cases ry
    cases x with
    | non => cases rx; exact SeqAt.EqAt.same _
    | bl b => cases rx; exact SeqAt.EqAt.none_bool b
    | int b => obtain ⟨t, rfl⟩ := rx; exact SeqAt.EqAt.none_int b t
    | str b => obtain ⟨t, rfl⟩ := rx; exact SeqAt.EqAt.none_str b t
    | _ => exact absurd (show false = true from fx) Bool.false_ne_true
  | bl a =>
    cases ry
    cases x with
    | non => cases rx; exact SeqAt.EqAt.bool_none a
    | bl b => cases rx; exact SeqAt.EqAt.bool_bool a b
    | int b => obtain ⟨t, rfl⟩ := rx; exact SeqAt.EqAt.bool_int a b t
    | str b => obtain ⟨t, rfl⟩ := rx; exact SeqAt.EqAt.bool_str a b t
    | _ => exact absurd (show false = true from fx) Bool.false_ne_true
  | int a =>
    obtain ⟨t', rfl⟩ := ry
    cases x with
    | non => cases rx; exact SeqAt.EqAt.int_none a t'
    | bl b => cases rx; exact SeqAt.EqAt.int_bool a t' b
    | int b => obtain ⟨t, rfl⟩ := rx; exact SeqAt.EqAt.int_int a t' b t
    | str b => obtain ⟨t, rfl⟩ := rx; exact SeqAt.EqAt.int_str a t' b t
    | _ => exact absurd (show false = true from fx) Bool.false_ne_true
  | str a =>
    obtain ⟨t', rfl⟩ := ry
    cases x with
    | non => cases rx; exact SeqAt.EqAt.str_none a t'
    | bl b => cases rx; exact SeqAt.EqAt.str_bool a t' b
    | int b => obtain ⟨t, rfl⟩ := rx; exact SeqAt.EqAt.str_int a t' b t
    | str b => obtain ⟨t, rfl⟩ := rx; exact SeqAt.EqAt.str_str a t' b t
    | _ => exact absurd (show false = true from fx) Bool.false_ne_true
  | _ => exact absurd (show false = true from fy) Bool.false_ne_true
noncomputable def eqU (x : V) (u : Value) : Bool := match u with
  | .none => eqV .non x
  | .bool b => eqV (.bl b) x
  | .int i _ => eqV (.int i) x
  | .str z _ => eqV (.str z) x
  | _ => false
theorem eqU_of {x y : V} {u : Value} (r : RelV y u) (f : flatV y = true) : eqU x u = eqV y x := by
  cases y with
  | non => cases r; rfl
  | bl b => cases r; rfl
  | int i => obtain ⟨t, rfl⟩ := r; rfl
  | str z => obtain ⟨t, rfl⟩ := r; rfl
  | _ => exact absurd (show false = true from f) Bool.false_ne_true
theorem any_eqU {x : V} : ∀ {xs : List V} {us : List Value}, Vals xs us → xs.all flatV = true → us.any (eqU x) = xs.any fun y => eqV y x
  | _, _, .nil, _ => rfl
  | y :: xs, u :: us, .cons r t, f => by
    rw [List.all_cons, Bool.and_eq_true] at f
    rw [List.any_cons, List.any_cons, eqU_of r f.1, any_eqU t f.2]
theorem mem_eqAt {A : Around} {s : Shared} {x : V} {v : Value} (rx : RelV x v) (fx : flatV x = true) : ∀ {xs : List V} {us : List Value}, Vals xs us → xs.all flatV = true → ∀ u ∈ us, SeqAt.EqAt A s u v (eqU x u)
  | _, _, .nil, _ => fun u hu => by cases hu
  | y :: xs, u :: us, .cons r t, f => fun u' hu => by
    rw [List.all_cons, Bool.and_eq_true] at f
    rcases List.mem_cons.mp hu with rfl | hu
    · rw [eqU_of r f.1]; exact eqAt_V r rx f.1 fx
    · exact mem_eqAt rx fx t f.2 u' hu
noncomputable def inV (x : V) (xs : List V) : Bool := xs.any fun y => eqV y x
noncomputable def rIn (K : PySem.W.Frag) (neg : Bool) : R2 := fun x y H Q => ∃ p xs, y = .ref p ∧ (SqL K H p xs ∨ SqT K H p xs) ∧ flatV x = true ∧ xs.all flatV = true ∧ Q (.bl (if neg then !inV x xs else inV x xs)) H
theorem op_notIn_seq : OpR X (compareOp .NotIn) (rIn X.K true) := by
  intro pins s σ H x y v u Q I rx ry h
  obtain ⟨p, xs, rfl, hq, fx, fs, q⟩ := h
  cases ry
  rcases hq with hq | hq
  · obtain ⟨its, r, pl, hz⟩ := I.list hq
    refine SeqAt.notIn_listAt (eqU x) pl.isList (fun w hw => mem_eqAt rx fx r fs w (by simpa using hw)) ⟨.bl _, H, I, rfl, ?_⟩
    rw [show its.toArray.any (eqU x) = its.any (eqU x) by simp, any_eqU r fs]
    exact q
  · obtain ⟨its, r, pl, hz⟩ := I.tuple hq
    refine SeqAt.notIn_tupleAt (eqU x) pl (fun w hw => mem_eqAt rx fx r fs w (by simpa using hw)) ⟨.bl _, H, I, rfl, ?_⟩
    rw [show its.toArray.any (eqU x) = its.any (eqU x) by simp, any_eqU r fs]
    exact q
theorem call_len_seq : CallR X (.builtin "len") (fun xs H Q => ∃ p ys, xs = [.ref p] ∧ (SqL X.K H p ys ∨ SqT X.K H p ys) ∧ Q (.int ys.length) H) := by
  intro pins s σ H xs us Q I r h
  obtain ⟨p, ys, rfl, hq, q⟩ := h
  obtain ⟨u, rfl, rx⟩ := vals1 r
  cases rx
  have hn := line63
  rcases hq with hq | hq
  · obtain ⟨its, r', pl, hz⟩ := I.list hq
    have hlen := r'.length
    exact Calls.call_len_list pl.isList (by simp only [List.size_toArray] <;> lia) ⟨.int ys.length, H, I.tok _, ⟨s.toks + 1, by rw [List.size_toArray, hlen]⟩, q⟩
  · obtain ⟨its, r', pl, hz⟩ := I.tuple hq
    have hlen := r'.length
    exact len_tuple pl (by simp only [List.size_toArray] <;> lia) ⟨.int ys.length, H, I.tok _, ⟨s.toks + 1, by rw [List.size_toArray, hlen]⟩, q⟩
theorem call_list_of : CallR X (.type "list") (fun xs H Q => ∃ p ys, xs = [.ref p] ∧ (SqL X.K H p ys ∨ SqT X.K H p ys) ∧ ∀ l, H l = none → Q (.ref l) (upd H l (.lst ys))) := by
  intro pins s σ H xs us Q I r h
  obtain ⟨p, ys, rfl, hq, q⟩ := h
  obtain ⟨u, rfl, rx⟩ := vals1 r
  cases rx
  have fin : ∀ (its : List Value), Vals ys its → ys.length ≤ sizeLine → ∀ (h' : Heap) (c' : Nat), (∀ b o', s.heap.get? b = some o' → h'.get? b = some o') →
      h'.get? s.heap.objs.size = some { cls := .type "list", dict := none, data := .seq its.toArray c', slots := #[] } → EP X pins σ Q (.ref s.heap.objs.size) { s with heap := h' } := fun its r' hz h' c' kp e =>
    ⟨.ref s.heap.objs.size, _, I.laid (t' := s.toks) kp (Nat.le_refl _) (show ObjOk X.prog X.w _ h' _ (.lst ys) from ⟨hz, its, c', r', e⟩), rfl, q _ (I.hok.fresh (Nat.le_refl _))⟩
  rcases hq with hq | hq
  · obtain ⟨its, r', pl, hz⟩ := I.list hq
    have hlen := r'.length
    obtain ⟨o, ho, hc, n, hd⟩ := pl.isList
    exact call_list_seq p (.inl rfl) ho hc hd (fun h' c' kp e => fin its r' hz h' c' kp e) (by simp only [List.size_toArray] <;> lia)
  · obtain ⟨its, r', pl, hz⟩ := I.tuple hq
    have hlen := r'.length
    obtain ⟨o, ho, hc, n, hd⟩ := pl
    exact call_list_seq p (.inr rfl) ho hc hd (fun h' c' kp e => fin its r' hz h' c' kp e) (by simp only [List.size_toArray] <;> lia)
noncomputable def tyV (K : PySem.W.Frag) (T : String) (x : V) (H : Hp) : Prop := match x with
  | .str _ => T = "str"
  | .int _ => T = "int"
  | .ref p => (T = "list" ∧ ∃ xs, SqL K H p xs) ∨ (T = "tuple" ∧ ∃ o, K.lookup p = some o ∧ o.cls = .type "tuple" ∧ o.dict = none) ∨
      (T = "dict" ∧ ((∃ kvs, H p = some (.dK kvs)) ∨ ∃ kvs, H p = some (.dT kvs))) ∨ (T = "set" ∧ ∃ S n, H p = some (.set S n))
  | _ => False
theorem tyV_is {pins : List (Addr × Obj)} {σ : St} {H : Hp} {s : Shared} {T : String} {x : V} {v : Value} (I : Inv X pins σ H s) (r : RelV x v) (ty : tyV X.K T x H) :
    s.TypeIs v T ∧ ∀ a, v = .ref a → ∃ ob, s.heap.get? a = some ob ∧ ob.dict = none := by
  cases x with
  | str z =>
    obtain ⟨t, rfl⟩ := r
    cases (show T = "str" from ty)
    exact ⟨typeIs_str s z t, fun _ e => nomatch e⟩
  | int i =>
    obtain ⟨t, rfl⟩ := r
    cases (show T = "int" from ty)
    exact ⟨typeIs_int s i t, fun _ e => nomatch e⟩
  | ref p =>
    cases r
    rcases ty with ⟨rfl, xs, hq⟩ | ⟨rfl, o, hk, hc, hd⟩ | ⟨rfl, hk⟩ | ⟨rfl, S, n, hk⟩
    · obtain ⟨its, _, pl, _⟩ := I.list hq
      refine ⟨pl.isList.typeIs, fun a e => ?_⟩
      cases e
      obtain ⟨o, n, e, c, hd, _⟩ := pl
      exact ⟨o, e, hd⟩
    · refine ⟨⟨o, I.kIn p o hk, hc⟩, fun a e => ?_⟩
      cases e
      exact ⟨o, I.kIn _ o hk, hd⟩
    · have z : ∃ o, s.heap.get? p = some o ∧ o.ExactDict := by
        rcases hk with ⟨kvs, hk⟩ | ⟨kvs, hk⟩
        · obtain ⟨_, _, _, _, o, _, _, e, ex, _⟩ := I.hok p _ hk
          exact ⟨o, e, ex⟩
        · obtain ⟨_, _, _, _, o, _, _, e, ex, _⟩ := I.hok p _ hk
          exact ⟨o, e, ex⟩
      obtain ⟨o, e, ex⟩ := z
      refine ⟨⟨o, e, ex.1⟩, fun a e2 => ?_⟩
      cases e2
      exact ⟨o, e, ex.2.1⟩
    · obtain ⟨o, _, _, _, e, ex, _⟩ := I.hok p _ hk
      refine ⟨⟨o, e, ex.1⟩, fun a e2 => ?_⟩
      cases e2
      exact ⟨o, e, ex.2.1⟩
  | _ => exact False.elim ty
noncomputable def tBM0 (K : PySem.W.Frag) (T : String) (r : V → List V → Hp → VK → Prop) (to : TE) : TE := fun σ H Q => to σ H fun x H1 => tyV K T x H1 ∧ r x [] H1 Q
noncomputable def tBM (K : PySem.W.Frag) (T : String) (r : V → List V → Hp → VK → Prop) (to : TE) (t : TA) : TE := fun σ H Q => to σ H fun x H1 => tyV K T x H1 ∧ t σ H1 fun xs H2 => r x xs H2 Q
variable {o e : Expr} {es : List Expr} {to : TE} {t : TA} {name : Str} {apos cpos : Pos} {T id : String} {r : V → List V → Hp → VK → Prop}
theorem pe_bm0 (pa : PlainAttrs T) (slot : Slot T name id) (hty : typeOf (.builtin id) = pure (.type "method_descriptor")) (hm : MtR X id r) (ho : PE X o to)
    (hbase : attributeBase o name X.env (eval o X.env) = eval o X.env := by rfl) (hline : (apos.endLine == cpos.line) = true := by rfl) : PE X (.Call (.Attribute o name apos) [] [] cpos) (tBM0 X.K T r to) := by
  intro pins s σ H Q I h
  refine wpAny_Call_method0_late hbase hline (thn (ho pins s σ H _ I h) fun v s1 hz => ex5 hz fun x H1 I1 r1 ⟨ty, q1⟩ => ?_)
  obtain ⟨h1, h2⟩ := tyV_is I1 r1 ty
  exact ⟨T, id, pa, slot, hty, h1, h2, Calls.callWith_builtin rfl (PySem.evalArgs_none (hm pins s1 σ H1 x [] v [] Q I1 r1 .nil q1))⟩
theorem pe_bm (pa : PlainAttrs T) (slot : Slot T name id) (hty : typeOf (.builtin id) = pure (.type "method_descriptor")) (hm : MtR X id r) (ho : PE X o to) (ha : PA X (e :: es) t)
    (hbase : attributeBase o name X.env (eval o X.env) = eval o X.env := by rfl)
    (hfew : ((backTo cpos (starEach (e :: es) X.env)).all (fun x => !x.1) && (backToKw cpos (keywordEach [] X.env)).all (fun x => x.1.isSome)
      && decide ((e :: es).length + ([] : List Keyword).length + (if ([] : List Keyword).isEmpty then 0 else 1) < 30)) = true := by rfl)
    (hline : (apos.endLine == cpos.line) = true := by rfl) (hs : starEach (e :: es) X.env = (false, eval e X.env) :: starEach es X.env := by rfl) (hplain : (backTo cpos (starEach es X.env)).any (·.1) = false := by rfl) :
    PE X (.Call (.Attribute o name apos) (e :: es) [] cpos) (tBM X.K T r to t) := by
  intro pins s σ H Q I h
  refine wpAny_Call_method_late hbase hfew hline rfl (thn (ho pins s σ H _ I h) fun v s1 hz => ex5 hz fun x H1 I1 r1 ⟨ty, q1⟩ => ?_)
  obtain ⟨h1, h2⟩ := tyV_is I1 r1 ty
  refine ⟨T, id, pa, slot, hty, h1, h2, ?_⟩
  have hA := ha cpos pins s1 σ H1 _ I1 q1
  rw [hs] at hA ⊢
  refine Calls.callWith_builtin (by show (false || (backTo cpos (starEach es X.env)).any (·.1)) = false; rw [hplain] <;> rfl) (Calls.evalArgs_plain ?_)
  exact thn hA fun us s2 hz => ex5 hz fun vs H2 I2 r2 q2 => hm pins s2 σ H2 x vs v us Q I2 r1 r2 q2
end
end L2
namespace L2
open PySem PySem.Spec PyProof.Rows
noncomputable def MtM (X : Cx) (id : String) (r : V → List V → Hp → VK → Prop) : Prop :=
  ∀ (pins : List (Addr × Obj)) (s : Shared) (σ : St) (H : Hp) (x : V) (xs : List V) (v : Value) (us : List Value) (Q : VK), Inv X pins σ H s → RelV x v → Vals xs us → r x xs H Q →
    wpAny (model X.prog X.w) X.A (call (.builtin id) (v :: us)) (EP X pins σ Q) X.xe s
theorem Vals.one : ∀ {x : V} {us : List Value}, Vals [x] us → ∃ u, us = [u] ∧ RelV x u := by
  intro x us h
  cases h with
  | cons r t => cases t; exact ⟨_, rfl, r⟩
theorem Vals.two : ∀ {x y : V} {us : List Value}, Vals [x, y] us → ∃ u v, us = [u, v] ∧ RelV x u ∧ RelV y v := by
  intro x y us h
  cases h with
  | cons r t =>
    cases t with
    | cons q t => cases t; exact ⟨_, _, rfl, r, q⟩
theorem Vals.zero : ∀ {us : List Value}, Vals [] us → us = []
  | _, .nil => rfl
theorem Vals.dropLast {xs : List V} {us : List Value} (h : Vals xs us) : Vals xs.dropLast us.dropLast := by
  induction h with
  | nil => exact .nil
  | cons r t ih =>
    cases t with
    | nil => exact .nil
    | cons q t' => exact .cons r ih
theorem Vals.eraseIdx : ∀ {xs : List V} {us : List Value} (i : Nat), Vals xs us → Vals (xs.eraseIdx i) (us.eraseIdx i)
  | _, _, _, .nil => .nil
  | _, _, 0, .cons _ t => t
  | _, _, i + 1, .cons r t => .cons r (Vals.eraseIdx i t)
theorem Vals.rep {xs : List V} {us : List Value} (h : Vals xs us) : ∀ k : Nat, Vals (List.replicate k xs).flatten (List.replicate k us).flatten
  | 0 => .nil
  | k + 1 => by
    rw [List.replicate_succ, List.replicate_succ, List.flatten_cons, List.flatten_cons]
    exact Vals.append h (Vals.rep h k)
theorem erase_last {α : Type} (l : List α) : l.eraseIdx (l.length - 1) = l.dropLast := by
  induction l with
  | nil => rfl
  | cons a r ih =>
    cases r with
    | nil => rfl
    | cons b r =>
      have e : (a :: b :: r).length - 1 = ((b :: r).length - 1) + 1 := by
        have h1 : (a :: b :: r).length = r.length + 2 := rfl
        have h2 : (b :: r).length = r.length + 1 := rfl
        lia
      rw [e, List.eraseIdx_cons_succ, ih]
      all_goals rfl
theorem len_erase {α : Type} : ∀ (l : List α) (i : Nat), (l.eraseIdx i).length ≤ l.length
  | [], _ => Nat.le_refl _
  | _ :: _, 0 => Nat.le_succ _
  | _ :: r, i + 1 => Nat.succ_le_succ (len_erase r i)
theorem foldl_rep (its : List Value) : ∀ (k : Nat) (acc : List Value),
    List.foldl (fun x1 x2 => x1 ++ x2) acc.toArray (List.replicate k its.toArray) = (acc ++ (List.replicate k its).flatten).toArray
  | 0, acc => by simp
  | k + 1, acc => by
    have e : acc.toArray ++ its.toArray = (acc ++ its).toArray := by simp
    have e2 : (acc ++ its) ++ (List.replicate k its).flatten = acc ++ (List.replicate (k + 1) its).flatten := by
      rw [List.replicate_succ, List.flatten_cons, List.append_assoc]
    rw [← e2, ← foldl_rep its k (acc ++ its), ← e, List.replicate_succ, List.foldl_cons]
section
variable {X : Cx} {pins : List (Addr × Obj)} {σ : St} {H : Hp} {s : Shared} {l b : Addr} {xs ys zs : List V}
theorem Inv.lset {its its' : List Value} {n : Nat} {f : Array Value → Array Value} {t' : Nat} (I : Inv X pins σ H s) (hH : H l = some (.lst xs))
    (e : s.heap.get? l = some { cls := .type "list", data := .seq its.toArray n }) (hf : f its.toArray = its'.toArray) (hv : Vals ys its') (hz : ys.length ≤ sizeLine) :
    Inv X pins σ (upd H l (.lst ys)) { s with heap := s.heap.update l (Obj.mapSeq f), toks := t' } := by
  have q := PySem.IsL.update e f
  rw [hf] at q
  refine I.write (x := l) (e := l) (by rw [hH]; exact trivial) (.inl rfl) (fun b' u hb hu => (Heap.get?_update_other s.heap (Obj.mapSeq f) (Ne.symm hb)).trans hu) ⟨_, q⟩ ?_
  exact ⟨hz, its', _, hv, q⟩
theorem Inv.lnew {its : List Value} {t' : Nat} (I : Inv X pins σ H s) (hv : Vals ys its) (hz : ys.length ≤ sizeLine) :
    Inv X pins σ (upd H s.heap.objs.size (.lst ys)) { s with heap := s.heap.push { cls := .type "list", data := .seq its.toArray }, toks := t' } :=
  I.laid (fun _ _ q => Heap.get?_push_of_some _ q) (Nat.le_refl _) ⟨hz, its, 0, hv, Heap.get?_push_size _ rfl⟩
theorem Inv.fresh (I : Inv X pins σ H s) : H s.heap.objs.size = none := I.hok.fresh (Nat.le_refl _)
theorem Inv.lstM (I : Inv X pins σ H s) (hH : H l = some (.lst xs)) : xs.length ≤ sizeLine ∧ ∃ (its : List Value) (n : Nat), Vals xs its ∧ xs.length = its.length ∧ s.heap.get? l = some { cls := .type "list", data := .seq its.toArray n } := by
  obtain ⟨z, its, n, r, e⟩ := I.hok l _ hH
  exact ⟨z, its, n, r, r.length, e⟩
theorem notLongL {n : Nat} (h : n ≤ sizeLine) : Builtin.List.listTooLong n = false := by
  unfold Builtin.List.listTooLong
  exact decide_eq_false (by lia)
end
section
variable {X : Cx}
noncomputable def rAppend : V → List V → Hp → VK → Prop := fun x vs H Q => ∃ l xs y, x = .ref l ∧ vs = [y] ∧ H l = some (.lst xs) ∧ xs.length < sizeLine ∧ Q .non (upd H l (.lst (xs ++ [y])))
theorem mt_append : MtM X "list.append" rAppend := by
  intro pins s σ H x vs v us Q I rx rv h
  obtain ⟨l, xs, y, rfl, rfl, hH, hz, q⟩ := h
  cases rx
  obtain ⟨u, rfl, ru⟩ := rv.one
  obtain ⟨z, its, n, r, hl, e⟩ := I.lstM hH
  refine call_meets F.slot_list_append ⟨_, e, rfl⟩ F.entry_list_append (F.args_list_append_2 _ _) (PySem.list_append l its.toArray n u (by rw [List.size_toArray]; lia)) ⟨e, ?_⟩
  refine ⟨.non, _, I.lset (its' := its ++ [u]) hH e (by simp) (r.append (.cons ru .nil)) ?_, rfl, q⟩
  rw [List.length_append, List.length_singleton]
  lia
noncomputable def rPop : V → List V → Hp → VK → Prop := fun x vs H Q => ∃ l xs y, x = .ref l ∧ vs = [] ∧ H l = some (.lst xs) ∧ xs[xs.length - 1]? = some y ∧ Q y (upd H l (.lst xs.dropLast))
theorem mt_pop : MtM X "list.pop" rPop := by
  intro pins s σ H x vs v us Q I rx rv h
  obtain ⟨l, xs, y, rfl, rfl, hH, hy, q⟩ := h
  cases rx
  have hus := rv.zero
  subst hus
  obtain ⟨z, its, n, r, hl, e⟩ := I.lstM hH
  obtain ⟨u, hu, ru⟩ := r.get hy
  have hy' : its.toArray[its.toArray.size - 1]? = some u := by
    show its.toArray[its.length - 1]? = some u
    rw [← Array.getElem?_toList, ← hl]
    exact hu
  refine call_meets F.slot_list_pop ⟨_, e, rfl⟩ F.entry_list_pop (F.args_list_pop_1 _) (MeetsSeq.list_pop_last l its.toArray n u hy' (by rw [List.size_toArray]; lia)) ⟨e, ?_⟩
  refine ⟨y, _, I.lset (its' := its.dropLast) hH e ?_ r.dropLast ?_, ru, q⟩
  · show its.toArray.eraseIdxIfInBounds (its.toArray.size - 1) = its.dropLast.toArray
    rw [List.size_toArray, List.eraseIdxIfInBounds_toArray, erase_last]
  · rw [List.length_dropLast]
    lia
noncomputable def rPopAt : V → List V → Hp → VK → Prop := fun x vs H Q => ∃ l xs i k y, x = .ref l ∧ vs = [.int i] ∧ H l = some (.lst xs) ∧ -(2 ^ 63) ≤ i ∧ i < 2 ^ 63 ∧ seqIndex? i xs.length = some k ∧ xs[k]? = some y ∧ Q y (upd H l (.lst (xs.eraseIdx k)))
theorem mt_popAt : MtM X "list.pop" rPopAt := by
  intro pins s σ H x vs v us Q I rx rv h
  obtain ⟨l, xs, i, k, y, rfl, rfl, hH, h1, h2, hk, hy, q⟩ := h
  cases rx
  obtain ⟨u, rfl, ru⟩ := rv.one
  obtain ⟨t, rfl⟩ := ru
  obtain ⟨z, its, n, r, hl, e⟩ := I.lstM hH
  obtain ⟨w, hw, rw'⟩ := r.get hy
  refine call_meets F.slot_list_pop ⟨_, e, rfl⟩ F.entry_list_pop (F.args_list_pop_2 _ _)
    (MeetsSeq.list_pop_at l its.toArray n i t k w (fitsIndex_both h1 h2) (by rw [List.size_toArray, ← hl]; exact hk) (by rw [← Array.getElem?_toList]; exact hw) (by rw [List.size_toArray]; lia)) ⟨e, ?_⟩
  refine ⟨y, _, I.lset (its' := its.eraseIdx k) hH e ?_ (r.eraseIdx k) ?_, rw', q⟩
  · show its.toArray.eraseIdxIfInBounds k = (its.eraseIdx k).toArray
    rw [List.eraseIdxIfInBounds_toArray]
  · have := len_erase xs k
    lia
noncomputable def rCat : R2 := fun x y H Q => ∃ l b xs zs, x = .ref l ∧ y = .ref b ∧ H l = some (.lst xs) ∧ H b = some (.lst zs) ∧ xs.length + zs.length ≤ sizeLine ∧ ∀ p, H p = none → Q (.ref p) (upd H p (.lst (xs ++ zs)))
theorem op_cat : OpR X (binaryOp .Add) rCat := by
  intro pins s σ H x y v u Q I rx ry h
  obtain ⟨l, b, xs, zs, rfl, rfl, hH, hB, hz, q⟩ := h
  cases rx
  cases ry
  obtain ⟨z, its, n, r, hl, e⟩ := I.lstM hH
  obtain ⟨z2, its2, n2, r2, hl2, e2⟩ := I.lstM hB
  refine PySem.P.add_list e e2 ?_ (by rw [List.size_toArray, List.size_toArray]; lia)
  have ea : its.toArray ++ its2.toArray = (its ++ its2).toArray := by simp
  rw [ea]
  exact ⟨.ref _, _, I.lnew (t' := s.toks) (r.append r2) (by rw [List.length_append]; lia), rfl, q _ I.fresh⟩
noncomputable def rRep : R2 := fun x y H Q => ∃ l k xs, x = .ref l ∧ y = .int k ∧ H l = some (.lst xs) ∧ -(2 ^ 63) ≤ k ∧ k < 2 ^ 63 ∧ xs.length * k.toNat ≤ sizeLine ∧
  ∀ p, H p = none → Q (.ref p) (upd H p (.lst (List.replicate k.toNat xs).flatten))
theorem len_rep {α : Type} (xs : List α) (k : Nat) : (List.replicate k xs).flatten.length = k * xs.length := by
  induction k with
  | zero => simp
  | succ k ih => rw [List.replicate_succ, List.flatten_cons, List.length_append, ih, Nat.succ_mul, Nat.add_comm]
theorem op_rep : OpR X (binaryOp .Mult) rRep := by
  intro pins s σ H x y v u Q I rx ry h
  obtain ⟨l, k, xs, rfl, rfl, hH, h1, h2, hz, q⟩ := h
  cases rx
  obtain ⟨t, rfl⟩ := ry
  obtain ⟨z, its, n, r, hl, e⟩ := I.lstM hH
  have hlen : its.toArray.size * k.toNat ≤ sizeLine := by rw [List.size_toArray, ← hl]; exact hz
  have hcap : ¬ its.toArray.size * k.toNat > (2 ^ 63 - 1) / 8 := by
    have : (sizeLine : Nat) ≤ (2 ^ 63 - 1) / 8 := by decide
    lia
  have hfit : ¬ (!Builtin.List.listFitsIndex k) = true := by
    rw [fitsIndex_both h1 h2]
    exact Bool.false_ne_true
  have hlong : ¬ Builtin.List.listTooLong (its.toArray.size * k.toNat) = true := by
    rw [notLongL hlen]
    exact Bool.false_ne_true
  have hnew : List.foldl (fun x1 x2 => x1 ++ x2) #[] (List.replicate (if its.toArray.isEmpty = true then 0 else k.toNat) its.toArray) = (List.replicate k.toNat its).flatten.toArray := by
    have f0 : ∀ m : Nat, List.foldl (fun x1 x2 => x1 ++ x2) #[] (List.replicate m its.toArray) = (List.replicate m its).flatten.toArray := fun m => by
      have := foldl_rep its m []
      rw [List.nil_append] at this
      exact this
    rw [f0]
    cases its with
    | nil => simp
    | cons a r' => rw [if_neg (by simp)]
  refine wpAny_binaryOp_repeat_ref (T := "list") (U := "int") (by decide) ⟨_, e, rfl⟩ (fun s' => typeIs_int s' k t) noFill_list_mul F.fills_int_mul F.slot_int_rmul repeat_list F.slot_int_index.lookup
    (call_meets F.slot_int_rmul (typeIs_int s k t) F.entry_int_rmul (F.args_int_rmul_2 _ _) (int___rmul___int_list k t l its.toArray n)
      ⟨e, rfl, ⟨_, e, rfl⟩, call_meets F.slot_list_mul ⟨_, e, rfl⟩ F.entry_list_mul (F.args_list_mul_2 _ _) (AutoListH.list___mul___list_int_3 l its.toArray n k t hfit hcap hlong) ⟨e, ?_⟩⟩)
  rw [hnew]
  exact ⟨.ref _, _, I.lnew (t' := s.toks) (r.rep k.toNat) (by rw [len_rep, Nat.mul_comm]; exact hz), rfl, q _ I.fresh⟩
end
section
variable {prog : Program} {w : World} {A : Around} {E : Value → Shared → Prop} {s : Shared}
end
section
variable {X : Cx}
end
end L2
namespace L2
open PySem PySem.Spec PyProof.Rows
section
variable {κ : Type} [DecidableEq κ]
noncomputable def valV (kvs : List (κ × V)) (k : κ) : Option V := (kvs.find? fun kv => decide (kv.1 = k)).map (·.2)
noncomputable def putK (kvs : List (κ × V)) (k : κ) (v : V) : List (κ × V) :=
  if (kvs.any fun kv => decide (kv.1 = k)) = true then kvs.map (fun kv => if kv.1 = k then (kv.1, v) else kv) else kvs ++ [(k, v)]
theorem valV_pos {p : κ × V} {r : List (κ × V)} {k : κ} (e : p.1 = k) : valV (p :: r) k = some p.2 := by simp [valV, List.find?_cons, e]
theorem valV_neg {p : κ × V} {r : List (κ × V)} {k : κ} (e : ¬ p.1 = k) : valV (p :: r) k = valV r k := by simp [valV, List.find?_cons, e]
theorem valV_any (k : κ) : ∀ kvs : List (κ × V), (kvs.any fun kv => decide (kv.1 = k)) = (valV kvs k).isSome
  | [] => rfl
  | p :: r => by
    rw [List.any_cons]
    by_cases e : p.1 = k
    · simp only [valV_pos e, decide_eq_true e, Bool.true_or, Option.isSome_some]
    · rw [valV_neg e, decide_eq_false e, Bool.false_or]; exact valV_any k r
theorem length_putK (kvs : List (κ × V)) (k : κ) (v : V) : (putK kvs k v).length ≤ kvs.length + 1 := by
  unfold putK
  split
  · rw [List.length_map]; lia
  · rw [List.length_append, List.length_cons, List.length_nil]; lia
theorem RelO.isSome_eq {o : Option V} {u : Option Value} (r : RelO o u) : o.isSome = u.isSome := by
  cases o with
  | none => cases u with
    | none => rfl
    | some _ => exact (show False from r).elim
  | some _ => cases u with
    | none => exact (show False from r).elim
    | some _ => rfl
theorem KV.val {kvs : List (κ × V)} {vs : List (κ × Value)} (r : KV kvs vs) (k : κ) : RelO (valV kvs k) (valueAt vs k) := by
  unfold KV at r
  induction r with
  | nil => exact True.intro
  | @cons p q ps qs h t ih =>
    obtain ⟨h1, h2⟩ := h
    by_cases e : p.1 = k
    · have e' : q.1 = k := h1.symm.trans e
      have b : valueAt (q :: qs) k = some q.2 := by simp [valueAt, List.find?_cons, e']
      rw [valV_pos e, b]; exact h2
    · have e' : ¬ q.1 = k := fun z => e (h1.trans z)
      have b : valueAt (q :: qs) k = valueAt qs k := by simp [valueAt, List.find?_cons, e']
      rw [valV_neg e, b]; exact ih
theorem KV.any {kvs : List (κ × V)} {vs : List (κ × Value)} (r : KV kvs vs) (k : κ) : (kvs.any fun kv => decide (kv.1 = k)) = vs.any fun kv => decide (kv.1 = k) := by
  unfold KV at r
  induction r with
  | nil => rfl
  | cons h t ih => rw [List.any_cons, List.any_cons, ih, h.1]
theorem KV.repl {kvs : List (κ × V)} {vs : List (κ × Value)} (r : KV kvs vs) (k : κ) {y : V} {u : Value} (ry : RelV y u) :
    KV (kvs.map fun kv => if kv.1 = k then (kv.1, y) else kv) (vs.map fun kv => if kv.1 = k then (kv.1, u) else kv) := by
  unfold KV at r ⊢
  induction r with
  | nil => exact .nil
  | @cons p q ps qs h t ih =>
    rw [List.map_cons, List.map_cons]
    refine .cons ?_ ih
    obtain ⟨h1, h2⟩ := h
    by_cases e : p.1 = k
    · rw [if_pos e, if_pos (h1.symm.trans e)]; exact ⟨h1, ry⟩
    · rw [if_neg e, if_neg (fun z => e (h1.trans z))]; exact ⟨h1, h2⟩
theorem KV.put {kvs : List (κ × V)} {vs : List (κ × Value)} (r : KV kvs vs) (k : κ) {y : V} {u : Value} (ry : RelV y u) : KV (putK kvs k y) (stored vs k u) := by
  unfold putK stored
  rw [r.any k]
  by_cases e : (vs.any fun kv => decide (kv.1 = k)) = true
  · rw [if_pos e, if_pos e]; exact r.repl k ry
  · rw [if_neg e, if_neg e]; exact Paired.snoc r ⟨rfl, ry⟩
theorem KV.length {kvs : List (κ × V)} {vs : List (κ × Value)} (r : KV kvs vs) : kvs.length = vs.length := Paired.length r
end
theorem kV_is {P : Program} {w : World} {k : Key} {u : Value} (r : RelV (kV k) u) : (mixKind P w).is k u = true := by
  cases k with
  | inl i => obtain ⟨t, e⟩ := (show ∃ t, u = Value.int i t from r); subst e; exact mixKind_int P w i t
  | inr x => obtain ⟨t, e⟩ := (show ∃ t, u = Value.str x t from r); subst e; exact mixKind_str P w x t
theorem items_are {P : Program} {w : World} : ∀ {ks : List Key} {us : List Value}, Vals (ks.map kV) us → ItemsAre (mixKind P w) ks us
  | [], _, r => by rw [List.map_nil] at r; cases r; exact .nil
  | k :: ks, _, r => by
    rw [List.map_cons] at r
    cases r with
    | cons h t => exact .cons (kV_is h) (items_are t)
noncomputable abbrev KT (H : Hp) : List (List Key × V) → List (List Key × Addr × Value) → Prop := Paired fun p q => p.1 = q.1 ∧ H q.2.1 = some (.tup (p.1.map kV)) ∧ RelV p.2 q.2.2
theorem KT.val {H : Hp} {kvs : List (List Key × V)} {xs : List (List Key × Addr × Value)} (r : KT H kvs xs) (k : List Key) : RelO (valV kvs k) ((atKey xs k).map (·.2)) := by
  induction r with
  | nil => exact True.intro
  | @cons p q ps qs h t ih =>
    obtain ⟨h1, _, h2⟩ := h
    by_cases e : p.1 = k
    · have e' : q.1 = k := h1.symm.trans e
      have b : atKey (q :: qs) k = some q.2 := by simp [atKey, List.find?_cons, e']
      rw [valV_pos e, b]; exact h2
    · have e' : ¬ q.1 = k := fun z => e (h1.trans z)
      have b : atKey (q :: qs) k = atKey qs k := by simp [atKey, List.find?_cons, e']
      rw [valV_neg e, b]; exact ih
theorem KT.repl {H : Hp} {kvs : List (List Key × V)} {xs : List (List Key × Addr × Value)} (r : KT H kvs xs) (k : List Key) {y : V} {u : Value} (ry : RelV y u) :
    KT H (kvs.map fun kv => if kv.1 = k then (kv.1, y) else kv) (xs.map (putAt k u)) := by
  induction r with
  | nil => exact .nil
  | @cons p q ps qs h t ih =>
    rw [List.map_cons, List.map_cons]
    refine .cons ?_ ih
    obtain ⟨h1, h2, h3⟩ := h
    unfold putAt
    by_cases e : p.1 = k
    · rw [if_pos e, if_pos (h1.symm.trans e)]; exact ⟨h1, h2, ry⟩
    · rw [if_neg e, if_neg (fun z => e (h1.trans z))]; exact ⟨h1, h2, h3⟩
theorem KT.put {H : Hp} {kvs : List (List Key × V)} {xs : List (List Key × Addr × Value)} (r : KT H kvs xs) (k : List Key) {b : Addr} {y : V} {u : Value} (hb : H b = some (.tup (k.map kV))) (ry : RelV y u) :
    KT H (putK kvs k y) (storedH xs k b u) := by
  have e : (kvs.any fun kv => decide (kv.1 = k)) = (atKey xs k).isSome := by
    rw [valV_any, (r.val k).isSome_eq, Option.isSome_map]
  unfold putK storedH
  rw [e]
  by_cases q : (atKey xs k).isSome = true
  · rw [if_pos q, if_pos q]; exact r.repl k ry
  · rw [if_neg q, if_neg q]; exact Paired.snoc r ⟨rfl, hb, ry⟩
theorem KT.keeps {H H' : Hp} {kvs : List (List Key × V)} {xs : List (List Key × Addr × Value)} (r : KT H kvs xs) (ht : ∀ b ys, H b = some (.tup ys) → H' b = some (.tup ys)) : KT H' kvs xs :=
  Paired.mapP r fun _ _ z => ⟨z.1, ht _ _ z.2.1, z.2.2⟩
section
variable {P : Program} {w : World} {H : Hp} {h : Heap} {a : Addr}
theorem rd_of {u : HO} (ok : HOk P w H h) (e : Rd H a u) : ObjOk P w H h a u := e.ok ok
theorem dk_rd {kvs : List (Key × V)} (ok : HOk P w H h) (e : Rd H a (.dK kvs)) : kvs.length ≤ sizeLine ∧ (a == sysModules) = false ∧ ∃ vs, KV kvs vs ∧ h.DictOf (mixKind P w) a vs :=
  show ObjOk P w H h a (.dK kvs) from rd_of ok e
theorem dk_of {kvs : List (Key × V)} (ok : HOk P w H h) (e : H a = some (.dK kvs)) : kvs.length ≤ sizeLine ∧ (a == sysModules) = false ∧ ∃ vs, KV kvs vs ∧ h.DictOf (mixKind P w) a vs := dk_rd ok (.inl e)
theorem key_of {ks : List Key} (ok : HOk P w H h) (e : H a = some (.tup (ks.map kV))) : (tupleKind (mixKind P w)).is h ks a := by
  obtain ⟨_, its, r, o, h1, h2, n, h3⟩ := (show ObjOk P w H h a (.tup (ks.map kV)) from ok a _ e)
  exact ⟨o, its.toArray, n, h1, h2, h3, by simpa using items_are r⟩
theorem dt_rd {kvs : List (List Key × V)} (ok : HOk P w H h) (e : Rd H a (.dT kvs)) : kvs.length ≤ sizeLine ∧ (a == sysModules) = false ∧
    ∃ xs, KT H kvs xs ∧ h.DictOfH (tupleKind (mixKind P w)) a xs := by
  obtain ⟨z, y, xs, r, o, es, ep, h1, h2, h3, h4, h5⟩ := (show ObjOk P w H h a (.dT kvs) from rd_of ok e)
  refine ⟨z, y, xs, r, o, es, ep, h1, h2, h3, h4, fun x hx => ?_, h5⟩
  have all : ∀ {l : List (List Key × V)} {m : List (List Key × Addr × Value)}, KT H l m → ∀ x ∈ m, (tupleKind (mixKind P w)).is h x.1 x.2.1 := by
    intro l m q
    induction q with
    | nil => intro x hx; exact nomatch hx
    | @cons p q ps qs hq t ih =>
      intro x hx
      rcases List.mem_cons.mp hx with e | hx
      · subst e
        exact key_of ok (by rw [← hq.1]; exact hq.2.1)
      · exact ih x hx
  exact all r x hx
theorem dt_of {kvs : List (List Key × V)} (ok : HOk P w H h) (e : H a = some (.dT kvs)) : kvs.length ≤ sizeLine ∧ (a == sysModules) = false ∧
    ∃ xs, KT H kvs xs ∧ h.DictOfH (tupleKind (mixKind P w)) a xs := dt_rd ok (.inl e)
end
noncomputable def DGet (H : Hp) (a : Addr) (y : V) (r : Option V) : Prop :=
  (∃ kvs k, Rd H a (.dK kvs) ∧ y = kV k ∧ r = valV kvs k) ∨ ∃ kvs k b, Rd H a (.dT kvs) ∧ y = .ref b ∧ H b = some (.tup (k.map kV)) ∧ r = valV kvs k
noncomputable def DPut (H : Hp) (a : Addr) (y v : V) (H' : Hp) : Prop :=
  (∃ kvs k, H a = some (.dK kvs) ∧ y = kV k ∧ kvs.length < sizeLine ∧ H' = upd H a (.dK (putK kvs k v))) ∨
  ∃ kvs k b, H a = some (.dT kvs) ∧ y = .ref b ∧ H b = some (.tup (k.map kV)) ∧ kvs.length < sizeLine ∧ H' = upd H a (.dT (putK kvs k v))
theorem DGet.k {H : Hp} {a : Addr} {kvs : List (Key × V)} {k : Key} (e : H a = some (.dK kvs)) : DGet H a (kV k) (valV kvs k) := .inl ⟨kvs, k, .inl e, rfl, rfl⟩
theorem DPut.k {H : Hp} {a : Addr} {kvs : List (Key × V)} {k : Key} {v : V} (e : H a = some (.dK kvs)) (hl : kvs.length < sizeLine) : DPut H a (kV k) v (upd H a (.dK (putK kvs k v))) := .inl ⟨kvs, k, e, rfl, hl, rfl⟩
section
variable {X : Cx} {pins : List (Addr × Obj)} {σ : St} {H : Hp} {s : Shared} {a : Addr} {y v : V} {u r : Value} {o : Option V} {A : Around} {E : Value → Shared → Prop}
theorem Inv.big (I : Inv X pins σ H s) : sysModules < s.heap.objs.size := by
  have h : mainGlobals < s.heap.objs.size := (I.mod.glob.keeps I.bk).lt
  exact Nat.lt_trans (by decide) h
theorem d_getItem {Q : Value → Shared → Prop} (hu : A.units + 1 < cLine) (I : Inv X pins σ H s) (g : DGet H a y (some v)) (ry : RelV y u) (h : ∀ w' s', Inv X pins σ H s' → RelV v w' → Q w' s') :
    wpAny (model X.prog X.w) A (getItem (.ref a) u) Q E s := by
  rcases g with ⟨kvs, k, e, ey, l⟩ | ⟨kvs, k, b, e, ey, eb, l⟩
  · subst ey
    obtain ⟨z, hd, vs, rel, dd⟩ := dk_rd I.hok e
    obtain ⟨w', hw, rw'⟩ := RelO.some_of (v := v) (o := valueAt vs k) (by rw [l]; exact rel.val k)
    exact wpAny_getItem_of (kV_is ry) dd.mapOf hw (h w' _ (I.tok _) rw')
  · subst ey
    cases (show u = Value.ref b from ry)
    obtain ⟨z, hd, xs, rel, dd⟩ := dt_rd I.hok e
    obtain ⟨w', hw, rw'⟩ := RelO.some_of (v := v) (o := (atKey xs k).map (·.2)) (by rw [l]; exact rel.val k)
    obtain ⟨p, hp, hp2⟩ := Option.map_eq_some_iff.mp hw
    refine wpAny_getItem_heap (tupleKind_room_in1 hu) (key_of I.hok eb) dd hp ?_
    rw [hp2]
    exact h w' _ (I.tok _) rw'
theorem d_write {h' : Heap} {t' : Nat} {ob : HO} (I : Inv X pins σ H s) (mu : Mut (H a)) (hs : Heap.SameBut a s.heap h') (he : ∃ q, h'.get? a = some q) (new : ObjOk X.prog X.w (upd H a ob) h' a ob) :
    Inv X pins σ (upd H a ob) { s with heap := h', toks := t' } :=
  I.write (x := a) (e := a) mu (.inl rfl) (fun b q hb z => (hs.2 b hb).trans z) he new
theorem dk_new {P : Program} {w : World} {H' : Hp} {h' : Heap} {kvs : List (Key × V)} {vs : List (Key × Value)} (z : kvs.length ≤ sizeLine) (hd : (a == sysModules) = false) (rel : KV kvs vs) (dd : h'.DictOf (mixKind P w) a vs) :
    ObjOk P w H' h' a (.dK kvs) := ⟨z, hd, vs, rel, dd⟩
theorem d_setItem {H' : Hp} {Q : Unit → Shared → Prop} (hu : A.units + 1 < cLine) (I : Inv X pins σ H s) (g : DPut H a y v H') (ry : RelV y u) (rv : RelV v r) (h : ∀ s', Inv X pins σ H' s' → Q () s') :
    wpAny (model X.prog X.w) A (setItem (.ref a) u r) Q E s := by
  rcases g with ⟨kvs, k, e, ey, l, eH⟩ | ⟨kvs, k, b, e, ey, eb, l, eH⟩
  · subst ey eH
    obtain ⟨z, hd, vs, rel, dd⟩ := dk_of I.hok e
    have hz : vs.length ≤ sizeLine := by rw [← rel.length]; exact z
    have hl : (putK kvs k v).length ≤ sizeLine := by have := length_putK kvs k v; lia
    refine wpAny_setItem_pairs (hsz := hz) (kV_is ry) dd fun h' dd' hs => h _ ?_
    have he : ∃ q, h'.get? a = some q := let ⟨q, _, _, hq, _⟩ := dd'; ⟨q, hq⟩
    exact d_write I (by rw [e]; exact True.intro) hs he (dk_new hl hd (rel.put k rv) dd')
  · subst ey eH
    cases (show u = Value.ref b from ry)
    obtain ⟨z, hd, xs, rel, dd⟩ := dt_of I.hok e
    have hz : xs.length ≤ sizeLine := by rw [← Paired.length rel]; exact z
    have hl : (putK kvs k v).length ≤ sizeLine := by have := length_putK kvs k v; lia
    refine wpAny_setItem_heap (hsz := hz) (tupleKind_room_in1 hu) (key_of I.hok eb) dd fun h' dd' hs => h _ ?_
    obtain ⟨q, es, ep, hq, h2, h3, h4, _, h5⟩ := dd'
    refine d_write I (by rw [e]; exact True.intro) hs ⟨q, hq⟩ ⟨hl, hd, _, (rel.put k eb rv).keeps fun c ys ec => ?_, q, es, ep, hq, h2, h3, h4, h5⟩
    rw [upd_ne (ne_of ec e (fun z => nomatch z))]
    exact ec
end
section
variable {X : Cx} {pins : List (Addr × Obj)} {σ : St} {H : Hp} {s : Shared} {a : Addr} {kvs : List (Key × V)} {k : Key} {u : Value} {A : Around} {E : Value → Shared → Prop}
end
noncomputable def NoSl (i : Expr) : Prop := ∀ ov iv, subscripted i false ov iv = operate [ov, iv] (getItem ov iv)
theorem subD_of {prog : Program} {w : World} {A : Around} {E : Value → Shared → Prop} {s : Shared} {env : Env} {value slice : Expr} {pos : Pos} {T id : String} {Q : Value → Shared → Prop}
    (hl : typeLookup (.type T) "__getitem__" = pure (some (.builtin id))) (hs : NoSl slice)
    (h : wpAny (model prog w) A (eval value env) (fun o s₁ => wpAny (model prog w) A (eval slice env) (fun i s₂ => s₂.TypeIs o T ∧ wpAny (model prog w) A (getItem o i) Q E s₂) E s₁) E s) :
    wpAny (model prog w) A (eval (.Subscript value slice pos) env) Q E s := by
  refine Subscript_ (wpAny_mono h (fun o s₁ h₁ => wpAny_mono h₁ (fun i s₂ h₂ => ?_) fun _ _ x => x) fun _ _ x => x)
  obtain ⟨hT, h₂⟩ := h₂
  unfold subscriptTail
  refine wpAny_bind ?_
  rw [getitemInPython_of_ne hT.not_modules]
  refine wpAny_bind (wpAny_specialOf hT hl ?_)
  have fin : wpAny (model prog w) A (subscripted slice false o i) (fun r s₃ => wpAny (model prog w) A (letTemporaryGo value o r >>= fun _ => pure r) Q E s₃) E s₂ := by
    rw [hs o i]
    exact wpAny_operating (wpAny_mono h₂ (fun r s₃ h₃ => wpAny_bind (wpAny_letTemporaryGo (wpAny_pure h₃))) fun _ _ x => x)
  first
    | exact wpAny_pure (wpAny_bind fin)
    | exact wpAny_bind (wpAny_pure (wpAny_bind fin))
    | exact wpAny_bind fin
theorem dict_typeIs {X : Cx} {pins : List (Addr × Obj)} {σ : St} {H : Hp} {s : Shared} {a : Addr} {y : V} {o : Option V} (I : Inv X pins σ H s) (g : DGet H a y o) : s.TypeIs (.ref a) "dict" := by
  rcases g with ⟨kvs, k, e, _, _⟩ | ⟨kvs, k, b, e, _, _, _⟩
  · obtain ⟨_, _, vs, _, dd⟩ := dk_rd I.hok e
    exact dd.typeIs
  · obtain ⟨_, _, xs, _, dd⟩ := dt_rd I.hok e
    exact dd.typeIs
noncomputable def tDGet (td ty : TE) : TE := fun σ H Q => td σ H fun x H1 => ty σ H1 fun y H2 => ∃ a v, x = .ref a ∧ DGet H2 a y (some v) ∧ Q v H2
noncomputable def sDPut (td ty tv : TE) : TS := fun D σ H => tv σ H fun v H1 => td σ H1 fun x H2 => ty σ H2 fun y H3 => ∃ a H4, x = .ref a ∧ DPut H3 a y v H4 ∧ D.nx σ H4
section
variable {X : Cx} {o i e value : Expr} {pos pos' tpos : Pos} {td ty tv : TE}
theorem pe_dget (hu : X.A.units + 1 < cLine) (ho : PE X o td) (hi : PE X i ty) (hs : NoSl i) : PE X (.Subscript o i pos) (tDGet td ty) := by
  intro pins s σ H Q I h
  refine subD_of PySem.F.slot_dict_getitem.lookup hs (thn (ho pins s σ H _ I h) fun u s1 hz => ex5 hz fun x H1 I1 rx q1 => thn (hi pins s1 σ H1 _ I1 q1) fun iv s2 hz => ex5 hz fun y H2 I2 ry ⟨a, v, ex, g, q2⟩ => ?_)
  subst ex
  obtain rfl : u = Value.ref a := rx
  exact ⟨dict_typeIs I2 g, d_getItem hu I2 g ry fun w' s3 I3 rw' => ⟨v, H2, I3, rw', q2⟩⟩
theorem ps_dput (hu : X.A.units + 1 < cLine) (ho : PE X o td) (hi : PE X i ty) (hv : PE X value tv) (hs : swapsWith value (some (.Subscript o i pos')) pos.line X.env = pure false) :
    PS X (.Assign [.Subscript o i pos'] value pos) (sDPut td ty tv) := by
  intro pins s σ H D I h
  refine wpAny_Assign_Subscript (thn (hv pins s σ H _ I h) fun r s1 hz => ex5 hz fun v H1 I1 rv q1 => thn (ho pins s1 σ H1 _ I1 q1) fun u s2 hz => ex5 hz fun x H2 I2 rx q2 => thn (hi pins s2 σ H2 _ I2 q2) fun iv s3 hz => ex5 hz fun y H3 I3 ry ⟨a, H4, ex, g, q3⟩ => ?_) hs
  subst ex
  obtain rfl : u = Value.ref a := rx
  exact d_setItem hu I3 g ry rv fun s4 I4 => ⟨σ, H4, I4, q3⟩
end
theorem dk_empty {P : Program} {w : World} {H : Hp} (h : Heap) (hb : sysModules < h.objs.size) : ObjOk P w H (h.push { cls := .type "dict", data := .dict #[] }) h.objs.size (.dK []) :=
  ⟨Nat.zero_le _, beq_eq_false_iff_ne.mpr (Ne.symm (Nat.ne_of_lt hb)), [], .nil, Heap.DictOf.new h⟩
section
variable {X : Cx} {pos : Pos}
end
noncomputable def tPairs : List (TE × TE) → St → Hp → (List (V × V) → Hp → Prop) → Prop
  | [], _, H, Q => Q [] H
  | (tk, tv) :: r, σ, H, Q => tk σ H fun x H1 => tv σ H1 fun y H2 => tPairs r σ H2 fun ps H3 => Q ((x, y) :: ps) H3
noncomputable abbrev VV : List (V × V) → List (Value × Value) → Prop := Paired fun p q => RelV p.1 q.1 ∧ RelV p.2 q.2
noncomputable def PPs (X : Cx) (pos : Pos) (keys : List (Option Expr)) (values : List Expr) (trs : List (TE × TE)) : Prop :=
  ∀ (pins : List (Addr × Obj)) (s : Shared) (σ : St) (H : Hp) (Q : List (V × V) → Hp → Prop), Inv X pins σ H s → tPairs trs σ H Q →
    wpAny (model X.prog X.w) X.A (evalPairs (pairTrees keys values X.env pos)) (fun vs s' => ∃ ps H', Inv X pins σ H' s' ∧ VV ps vs ∧ Q ps H') X.xe s
theorem pps_nil {X : Cx} {pos : Pos} : PPs X pos [] [] [] := fun pins s σ H Q I h => pairTrees_nil_walk ⟨[], H, I, .nil, h⟩
theorem pps_cons {X : Cx} {pos : Pos} {k v : Expr} {ks : List (Option Expr)} {vs : List Expr} {tk tv : TE} {trs : List (TE × TE)} (hk : PE X k tk) (hv : PE X v tv) (hr : PPs X pos ks vs trs) :
    PPs X pos (some k :: ks) (v :: vs) ((tk, tv) :: trs) := fun pins s σ H Q I h =>
  pairTrees_cons_walk (thn (hk pins s σ H _ I h) fun u s1 hz => ex5 hz fun x H1 I1 rx q1 => thn (hv pins s1 σ H1 _ I1 q1) fun w2 s2 hz => ex5 hz fun y H2 I2 ry q2 =>
    thn (hr pins s2 σ H2 _ I2 q2) fun ws s3 hz => ex5 hz fun ps H3 I3 rel q3 => ⟨(x, y) :: ps, H3, I3, .cons ⟨rx, ry⟩ rel, q3⟩)
noncomputable def mergeK (kvs more : List (Key × V)) : List (Key × V) := more.foldl (fun acc kv => putK acc kv.1 kv.2) kvs
theorem KV.merge : ∀ {more : List (Key × V)} {rs : List (Key × Value)} {kvs : List (Key × V)} {vs : List (Key × Value)}, KV more rs → KV kvs vs → KV (mergeK kvs more) (merged vs rs) := by
  intro more rs kvs vs r
  unfold KV at r
  induction r generalizing kvs vs with
  | nil => intro q; exact q
  | @cons p q ps qs h t ih =>
    intro r0
    have e : KV (putK kvs p.1 p.2) (stored vs q.1 q.2) := by
      have := r0.put p.1 h.2
      rw [← h.1]; exact this
    exact ih e
theorem length_mergeK : ∀ (more kvs : List (Key × V)), (mergeK kvs more).length ≤ kvs.length + more.length
  | [], kvs => by show kvs.length ≤ kvs.length + 0; lia
  | p :: r, kvs => by
    have h1 := length_mergeK r (putK kvs p.1 p.2)
    have h2 := length_putK kvs p.1 p.2
    show (mergeK (putK kvs p.1 p.2) r).length ≤ _
    rw [List.length_cons]; lia
theorem carries_of {P : Program} {w : World} : ∀ {kvs : List (Key × V)} {ws : List (Value × Value)}, VV (kvs.map fun kv => (kV kv.1, kv.2)) ws → ∃ rs, Carries (mixKind P w) ws rs ∧ KV kvs rs
  | [], _, r => by rw [List.map_nil] at r; cases r; exact ⟨[], True.intro, .nil⟩
  | p :: kvs, _, r => by
    rw [List.map_cons] at r
    cases r with
    | @cons a b as bs h t =>
      obtain ⟨rs, c, q⟩ := carries_of (P := P) (w := w) t
      obtain ⟨b1, b2⟩ := b
      exact ⟨(p.1, b2) :: rs, ⟨kV_is h.1, rfl, c⟩, .cons ⟨rfl, h.2⟩ q⟩
noncomputable def tDisp (trs : List (TE × TE)) : TE := fun σ H Q => ∀ p, H p = none → tPairs trs σ (upd H p (.dK [])) fun ps H2 => H2 p = some (.dK []) ∧ ∃ kvs : List (Key × V), ps = kvs.map (fun kv => (kV kv.1, kv.2)) ∧ kvs.length ≤ 15 ∧ Q (.ref p) (upd H2 p (.dK (mergeK [] kvs)))
theorem pe_disp {X : Cx} {pos : Pos} {keys : List (Option Expr)} {values : List Expr} {trs : List (TE × TE)} (h : PPs X pos keys values trs) (hall : keys.all (·.isSome) = true) (hl : keys.length = values.length) (h0 : keys ≠ [])
    (h15 : keys.length ≤ 15) : PE X (.Dict keys values pos) (tDisp trs) := by
  intro pins s σ H Q I q
  have hn := I.hok.fresh (Nat.le_refl s.heap.objs.size)
  have I1 := I.laid (a := s.heap.objs.size) (o := .dK []) (h' := s.heap.push { cls := .type "dict", data := .dict #[] }) (t' := s.toks) (fun _ _ q => Heap.get?_push_of_some _ q) (Nat.le_refl _) (dk_empty s.heap I.big)
  refine wpAny_Dict_walk (knd := mixKind X.prog X.w) hall hl h0 h15 (thn (h pins _ σ _ _ I1 (q _ hn)) fun ws s2 hz => ex5 hz fun ps H2 I2 rel ⟨e, kvs, ep, lk, q2⟩ => ?_)
  subst ep
  obtain ⟨rs, c, rk⟩ := carries_of (P := X.prog) (w := X.w) rel
  obtain ⟨z, hd, vs0, r0, dd⟩ := dk_of I2.hok e
  cases r0
  refine ⟨rs, c, dd, fun h' dd' hs => ⟨.ref s.heap.objs.size, _, ?_, rfl, q2⟩⟩
  have hz : (mergeK [] kvs).length ≤ sizeLine := by
    have h1 := length_mergeK kvs []
    rw [List.length_nil] at h1
    rw [sizeLine_eq]; lia
  have he : ∃ q, h'.get? s.heap.objs.size = some q := let ⟨q, _, _, hq, _⟩ := dd'; ⟨q, hq⟩
  exact d_write I2 (by rw [e]; exact True.intro) hs he (dk_new hz hd (rk.merge .nil) dd')
section
variable {X : Cx} {pins : List (Addr × Obj)} {σ : St} {H : Hp} {s : Shared} {a : Addr} {y d : V} {u r : Value} {o : Option V} {A : Around} {E : Value → Shared → Prop}
end
section
variable {X : Cx} {o e f : Expr} {apos cpos : Pos} {td ty tx : TE}
end
section
variable {X : Cx} {pins : List (Addr × Obj)} {σ : St} {H : Hp} {s : Shared} {a : Addr} {kvs : List (Key × V)} {A : Around} {E : Value → Shared → Prop}
end
section
variable {X : Cx} {pins : List (Addr × Obj)} {σ : St} {H : Hp} {s : Shared} {a : Addr} {y : V} {u : Value} {A : Around} {E : Value → Shared → Prop}
end
end L2
namespace Att
open PySem PySem.W PySem.Calls PyProof.Rows
theorem ints_of_wellAll {P : Params} {h : Heap} : ∀ (ns : List Int) (vs : List Value), WellAll P h vs (ns.map WData.int) → IntsAre vs ns := by
  intro ns
  induction ns with
  | nil =>
    intro vs w
    rw [List.map_nil] at w
    cases w
    exact .nil
  | cons n ns ih =>
    intro vs w
    rw [List.map_cons] at w
    cases w with
    | cons a b =>
      cases a
      exact .cons _ _ (ih _ b)
theorem script_of {l : OpenLaw} {n : Nat} (hn : l.most = some n) {P : Params} {h : Heap} {args : List WData} {vals : List Value}
    (hpre : l.row.toRowW.claim.pre args = true) (hwl : WellAll P h vals args) :
    ∃ a vs ns, vals = [Value.ref a] ∧ args = [WData.list (ns.map WData.int)] ∧ h.get? a = some { cls := .type "list", data := .seq vs.toArray } ∧ IntsAre vs ns ∧ ns.length ≤ n := by
  have hsh : WShape.hasAll [] args [.list .int] = true := (pre_splitW hpre).1
  have hc : l.pre.holds [] { args := args } = true := (pre_splitW hpre).2
  obtain ⟨d, r, rfl, h1, h2⟩ := hasAllW_cons hsh
  obtain rfl := hasAllW_nil h2
  obtain ⟨xs, rfl, h3⟩ := hasW_list h1
  obtain ⟨ns, rfl⟩ := items_int h3
  have hlen : ns.length ≤ n := by
    unfold OpenLaw.pre at hc
    have h4 : (WTm.not (.lt (.lit (.int (n : Int))) (.len (.arg 0)))).holds [] { args := [.list (ns.map .int)] } = true := by
      have h4 := (holds_andW hc).1
      rw [hn] at h4
      exact h4
    have h5 := condW_of h4 (w_not (w_lt w_lit (w_len_list (w_arg rfl))))
    rw [List.length_map] at h5
    refine Nat.le_of_not_lt fun q => ?_
    have q' : (n : Int) < ((ns.length : Nat) : Int) := by lia
    first
      | (rw [decide_eq_true q'] at h5; exact absurd h5 (by decide))
      | (simp at h5; lia)
  cases hwl with
  | cons w1 w2 =>
    cases w2
    cases w1 with
    | list ho hall => exact ⟨_, _, ns, rfl, rfl, ho, ints_of_wellAll ns _ hall, hlen⟩
theorem post_true (l : OpenLaw) (args : List WData) : l.row.toRowW.claim.post args (.bool true) args = true :=
  postW_of (r := l.row.toRowW) (X := (true == true))
    (show WShape.has [] (.bool true) .bool = true by first | rfl | decide | simp [WShape.has, WShape.arms, WShape.armsAll])
    (show (WTm.eq .res (.lit (.bool true))).value [] { args := args, res := some (.bool true), after := args } = some (.bool (true == true)) from w_eq_bool (w_res rfl) w_lit) rfl
theorem attach_call {l : OpenLaw} {n : Nat} {q : Program} {loose : List Str} {XP : (Str → Option Value) → Heap → Prop} {YP : World → Heap → Prop} {d : DefRec}
    (hn : l.most = some n) (hdf : d.params.defaults = [])
    (call : ∀ (w : World) (s₀ s₁ : Shared) (mg mb : Str → Option Value) (fa : Addr) (o : Obj) (pm cd doc : Value) (a : Addr) (vs : List Value) (ns : List Int),
      Ground q loose [] XP w s₀ mg mb s₁.heap → YP w s₁.heap →
      s₁.heap.get? fa = some o → o.data = .func (docDef d.name d.params d.body d.scope pm cd doc) → s₁.heap.CodeRec cd d.name → mg d.name = some (.ref fa) →
      s₁.heap.get? a = some { cls := .type "list", data := .seq vs.toArray } → IntsAre vs ns → ns.length ≤ n → s₁.gens = #[] →
      codeAny (model l.prog w) callerA (.call (.ref fa) ⟨[.ref a], []⟩) (fun r s' => r = .ok (.ret (.bool true)) ∧ OldK s₁.heap s'.heap ∧ s'.os = s₁.os ∧ AllBare s'.gens) s₁) :
    WalkO q loose XP YP l.row.toRowW d [] (fun f vs => PySem.call f vs) := by
  intro w s₀ s₁ mg mb G Y fa o pm cd doc dV kV ho hd hcd hD hmg hg args vals as hpre hlay hrd hwl hlo
  obtain rfl : dV = .none := Dflts.none hD hdf
  obtain rfl : kV = .none := Dflts.noKw hD
  obtain ⟨a, vs, ns, rfl, rfl, hobj, hints, hlen⟩ := script_of hn hpre hwl
  refine enter_call (codeAny_mono (call w s₀ s₁ mg mb fa o pm cd doc a vs ns G Y ho (fd_plain hd) hcd hmg hobj hints hlen hg) fun r s' hq => ?_)
  obtain ⟨rfl, h2, h3, h4⟩ := hq
  exact ⟨.inl ⟨.bool true, .bool true, [], rfl, fun _ => rfl, .bool true, post_true l _, fun _ => ⟨List.Pairwise.nil, fun _ hm => (nomatch hm)⟩⟩, h2, h3, h4⟩
section
variable {prog : Program} {w : World} {A : Around} {E : Value → Shared → Prop} {s : Shared} {K : Frag}
end
end Att
namespace L2
open PySem PySem.Spec PyProof.Rows
theorem vals_ints : ∀ {vs : List Value} {ns : List Int}, IntsAre vs ns → Vals (ns.map V.int) vs
  | _, _, .nil => .nil
  | _, _, .cons n t h => .cons ⟨t, rfl⟩ (vals_ints h)
noncomputable def Only (H : Hp) : Prop := ∀ b, H b = none ∨ ∃ o xs, H b = some (.frz o (.lst xs))
theorem law_call {P : Program} {w : World} {K : PySem.W.Frag} {mg mb : Str → Option Value} {CX : CXT} {k : Nat} {fa a : Addr} {fd : FuncData} {x : Str} {sp : Sp} {s₁ : Shared} {vs : List Value} {ns : List Int}
    (KX : K.In s₁.heap) (hns : s₁.heap.Ns mainGlobals mg) (hb : s₁.heap.Ns builtinsNs mb) (hbb : ∀ x : Str, x ≠ "__name__" → mb x = bootBuiltins x) (hlim : s₁.heap.NoLimit) (hg : s₁.gens = #[])
    (ha : s₁.heap.get? a = some { cls := .type "list", data := .seq vs.toArray }) (hi : IntsAre vs ns) (hl : ns.length ≤ sizeLine) (hr : Room k callerA)
    (F : ∀ base : Heap, K.In base → base.Ns mainGlobals mg → FnOk P w K mg base CX k fa fd [x] sp) (hbind : ∀ (s : Shared) (u : Value), BindsTo s fd ⟨[u], []⟩ [(x, u)])
    (hsp : ∀ H : Hp, Only H → SqL K H a (ns.map V.int) → sp [.ref a] H (fun v _ => v = .bl true) fun _ _ _ => False)
    (hCX : ∀ H e s', CX [] H s₁ (fun _ _ _ => False) e s' → False) :
    codeAny (model P w) callerA (.call (.ref fa) ⟨[.ref a], []⟩) (fun r s' => r = .ok (.ret (.bool true)) ∧ OldK s₁.heap s'.heap ∧ s'.os = s₁.os ∧ AllBare s'.gens) s₁ := by
  have rv := vals_ints hi
  have lenV := hi.length
  have core : ∀ H : Hp, Only H → SqL K H a (ns.map V.int) → HOk P w H s₁.heap → (∀ b, H b ≠ none → b = a) → (H a ≠ none → K.lookup a = none) →
      codeAny (model P w) callerA (.call (.ref fa) ⟨[.ref a], []⟩) (fun r s' => r = .ok (.ret (.bool true)) ∧ OldK s₁.heap s'.heap ∧ s'.os = s₁.os ∧ AllBare s'.gens) s₁ := by
    intro H hO hS hok hA hK
    have base_of : ∀ {b : Addr} {o : Obj}, s₁.heap.get? b = some o → H b = none → (hidT s₁.heap H).get? b = some o := fun e n => hidT_get e n
    have noA : ∀ {b : Addr} {o : Obj} {es : Array DictEntry} {ep : Nat}, s₁.heap.get? b = some o → o.data = .dict es ep → H b = none := fun {b o es ep} e d => by
      cases q : H b with
      | none => rfl
      | some u =>
        have e' : b = a := hA b (by rw [q]; simp)
        subst e'
        rw [ha] at e; cases e
        have d' : Data.seq vs.toArray _ = Data.dict es ep := d
        cases d'
    have nsK : ∀ {b : Addr} {m : Str → Option Value}, s₁.heap.Ns b m → (hidT s₁.heap H).Ns b m := fun {b m} ⟨o, es, ep, e, d, r⟩ => ⟨o, es, ep, base_of e (noA e d), d, r⟩
    have hKb : K.In (hidT s₁.heap H) := fun b o e => base_of (KX b o e) (by
      cases q : H b with
      | none => rfl
      | some u =>
        have e' : b = a := hA b (by rw [q]; simp)
        subst e'
        rw [hK (by rw [q]; simp)] at e; cases e)
    have hM : Mod K mg (hidT s₁.heap H) := ⟨hKb, nsK hns, ⟨mb, nsK hb, hbb⟩, let ⟨mc, h1, h2⟩ := hlim; ⟨mc, nsK h1, h2⟩⟩
    have e0 : Env0 P w K mg (hidT s₁.heap H) callerA [] s₁ H := ⟨rfl, hM, fun b o e => of_hidT e, Nat.le_of_eq (hidT_size _ _), trivial, fun b hb => absurd (show b ∈ ([] : List Addr) from hb) (by simp), hok, .of_eq hg⟩
    refine codeAny_mono ((F _ hKb (nsK hns)).run callerA [] s₁ H ⟨[.ref a], []⟩ [.ref a] [.ref a] _ _ hr e0 (hbind s₁ (.ref a)) (.cons rfl .nil) (hsp H hO hS)) fun r s' h => ?_
    cases r with
    | error e => exact (hCX H e s' h).elim
    | ok fl =>
      cases fl with
      | next => exact False.elim h
      | brk => exact False.elim h
      | cont => exact False.elim h
      | ret u =>
        obtain ⟨v, H', os, bare, un, hok', r', q⟩ := h
        have q' : v = .bl true := q
        subst q'
        obtain rfl : u = Value.bool true := r'
        refine ⟨rfl, OldK.of_keep fun b o e => ?_, os, bare⟩
        cases q : H b with
        | none => exact un.keep b o e q (by intro z; exact absurd (show b ∈ ([] : List Addr) from z) (by simp)) (by simp)
        | some u =>
          rcases hO b with z | ⟨ob, xs, z⟩
          · rw [q] at z; cases z
          · have z2 := un.frzs b ob _ z
            obtain ⟨e1, _⟩ := hok b _ z
            obtain ⟨e2, _⟩ := hok' b _ z2
            rw [e] at e1; cases e1
            exact e2
  cases hk : K.lookup a with
  | some o =>
    have e := KX a o hk
    rw [ha] at e
    cases e
    refine core (fun _ => none) (fun _ => .inl rfl) (.inr ⟨_, vs.toArray, _, hk, rfl, rfl, rfl, by rw [List.size_toArray, lenV]; exact hl, by simpa using rv⟩) (fun b u z => by have z' : (none : Option HO) = some u := z; cases z') (fun b z => absurd rfl z) fun z => absurd rfl z
  | none =>
    refine core (fun b => if b = a then some (.frz { cls := .type "list", data := .seq vs.toArray } (.lst (ns.map V.int))) else none) (fun b => ?_) (.inl (.inr ⟨{ cls := .type "list", data := .seq vs.toArray }, if_pos rfl⟩)) (fun b u z => ?_) (fun b z => ?_) fun _ => hk
    · by_cases hb : b = a
      · exact .inr ⟨_, _, if_pos hb⟩
      · exact .inl (if_neg hb)
    · by_cases hb : b = a
      · have z' := (if_pos hb).symm.trans z
        cases z'
        subst hb
        exact ⟨ha, by rw [List.length_map]; exact hl, vs, _, rv, ha⟩
      · have z' := (if_neg hb).symm.trans z
        cases z'
    · by_cases hb : b = a
      · exact hb
      · exact absurd (if_neg hb) z
end L2
namespace L2
open PySem PySem.Spec PyProof.Rows
theorem walk_of {l : PySem.W.OpenLaw} {n k : Nat} {q : Program} {loose : List Str} {XP : (Str → Option Value) → Heap → Prop} {YP : World → Heap → Prop} {d : DefRec} {K : Params → PySem.W.Frag} {CX : World → CXT} {sp : World → Sp} {x : Str}
    (hn : l.most = some n) (hn2 : n ≤ sizeLine) (hdf : d.params.defaults = []) (hr : Room k callerA)
    (hY : ∀ (w : World) (h : Heap), YP w h → (K w.params).In h)
    (F : ∀ (w : World) (mg : Str → Option Value) (fa : Addr) (h : Heap), (K w.params).In h → h.Ns mainGlobals mg → mg d.name = some (.ref fa) →
      ∃ fd : FuncData, (∀ (s : Shared) (u : Value), BindsTo s fd ⟨[u], []⟩ [(x, u)]) ∧
        ∀ base : Heap, (K w.params).In base → base.Ns mainGlobals mg → FnOk l.prog w (K w.params) mg base (CX w) k fa fd [x] (sp w))
    (hsp : ∀ (w : World) (H : Hp) (a : Addr) (ns : List Int), ns.length ≤ n → Only H → SqL (K w.params) H a (ns.map V.int) → sp w [.ref a] H (fun v _ => v = .bl true) fun _ _ _ => False)
    (hCX : ∀ (w : World) (H : Hp) (s : Shared) (e : Value) (s' : Shared), CX w [] H s (fun _ _ _ => False) e s' → False) :
    PySem.W.WalkO q loose XP YP l.row.toRowW d [] (fun f vs => PySem.call f vs) := by
  refine Att.attach_call hn hdf fun w s₀ s₁ mg mb fa o pm cd doc a vs ns G Y ho hd hcd hmg hobj hints hlen hg => ?_
  have KX := hY w _ Y
  obtain ⟨fd, hb, hF⟩ := F w mg fa _ KX G.T.g hmg
  exact law_call KX G.T.g G.T.b G.T.builtins G.T.nolimit hg hobj hints (Nat.le_trans hlen hn2) hr hF hb (fun H hO hS => hsp w H a ns hlen hO hS) fun H e s' => hCX w H s₁ e s'
end L2
namespace L2
open PySem PySem.Spec PyProof.Rows
noncomputable def inClass (s : Stmt) (j : Nat) : Stmt := match s with
  | .ClassDef _ _ _ body _ _ _ _ _ _ _ => body.getD j (.Pass ⟨0, 0, 0, 0⟩)
  | _ => .Pass ⟨0, 0, 0, 0⟩
noncomputable def defArgs (s : Stmt) : Arguments := match s with
  | .FunctionDef _ a _ _ _ _ _ _ _ _ => a
  | _ => { posonlyargs := [], args := [], vararg := none, kwonlyargs := [], kw_defaults := [], kwarg := none, defaults := [] }
noncomputable def defBody (s : Stmt) : List Stmt := match s with
  | .FunctionDef _ _ b _ _ _ _ _ _ _ => b
  | _ => []
noncomputable def defScope (s : Stmt) : Scope := match s with
  | .FunctionDef _ _ _ _ _ _ sc _ _ _ => sc
  | _ => { kind := .function, names := [], isGenerator := false, isCoroutine := false }
noncomputable abbrev CX0 : CXT := fun _ _ _ _ _ _ => False
noncomputable abbrev E0 : XK := fun _ _ _ => False
theorem pass0 {X : Cx} : Passes CX0 X E0 := fun _ _ _ _ _ _ _ h => h.elim
structure Fun (K : PySem.W.Frag) (x qual : Str) (st : Stmt) (f : Addr) (fd : FuncData) : Prop where
  ex : ∃ (oc : Value) (od : Option Addr) (kV doc pm : Value) (an : Option Addr) (cdv ct : Value) (osl : Array (Option Value)),
    fd = PySem.W.fnOf x qual (defArgs st) (defBody st) (defScope st) .none kV doc pm an cdv ct ∧ K.lookup f = some ⟨oc, od, .func fd, osl⟩ ∧ PySem.W.codeIn K cdv qual = true
  kp : PySem.W.keepIn K (.ref f) = true
section
variable {P : Program} {w : World} {K : PySem.W.Frag} {mg : Str → Option Value} {base : Heap}
theorem Fun.ok {x qual : Str} {st : Stmt} {f : Addr} {fd : FuncData} {N ps : List Str} {k : Nat} {sp : Sp} (F : Fun K x qual st f fd) (S : FnScope N ps (defScope st)) (len : ∀ vs H Q E, sp vs H Q E → vs.length = ps.length)
    (hbody : ∀ (cdv : Value) (A : Around) (outer : List Env) (s : Shared) (H : Hp) (vs : List V) (Q : VK) (E : XK), Room k (A.deeper (envOfC qual (defScope st) s.heap.objs.size f cdv)) → sp vs H Q E →
      ∃ t, PSs (cxOf CX0 P w K mg base N qual (defScope st) f cdv A outer s H E).nox (defBody st) t ∧ t { nx := fun _ H' => Q .non H', rt := Q } (start N vs) H) : FnOk P w K mg base CX0 (k + 1) f fd ps sp := by
  obtain ⟨oc, od, kV, doc, pm, an, cdv, ct, osl, rfl, lk, hcd⟩ := F.ex
  refine fn_of lk hcd S len fun A outer s H vs Q E hr hsp => ?_
  obtain ⟨t, h, q⟩ := hbody cdv A outer s H vs Q E hr hsp
  exact ⟨t, h.nox, q⟩
theorem Fun.binds {x qual : Str} {st : Stmt} {f : Addr} {fd : FuncData} {ps : List Str} (F : Fun K x qual st f fd)
    (h : ∀ (kV doc pm : Value) (an : Option Addr) (cdv ct : Value) (us : List Value), us.length = ps.length → bindArgs (PySem.W.fnOf x qual (defArgs st) (defBody st) (defScope st) .none kV doc pm an cdv ct) ⟨us, []⟩ = pure (ps.zip us)) : Binds K fd ps [] := by
  obtain ⟨oc, od, kV, doc, pm, an, cdv, ct, osl, rfl, lk, hcd⟩ := F.ex
  exact .all (h kV doc pm an cdv ct)
theorem fun_mk {x qual : Str} {st : Stmt} {f : Addr} {oc : Value} {od an : Option Addr} {osl : Array (Option Value)} {kV doc pm cdv ct : Value} (l : K.lookup f = some ⟨oc, od, .func (PySem.W.fnOf x qual (defArgs st) (defBody st) (defScope st) .none kV doc pm an cdv ct), osl⟩)
    (c : PySem.W.codeIn K cdv qual = true) (k : PySem.W.keepIn K (.ref f) = true) : Fun K x qual st f (PySem.W.fnOf x qual (defArgs st) (defBody st) (defScope st) .none kV doc pm an cdv ct) := ⟨⟨oc, od, kV, doc, pm, an, cdv, ct, osl, rfl, l, c⟩, k⟩
end
theorem hu_of {A : Around} {k : Nat} (hr : Room k A) : A.units + 1 < cLine := Nat.lt_of_le_of_lt (Nat.add_le_add_left (by decide : 1 ≤ 64) _) hr.units
section
variable {X : Cx}
theorem pv (i : Nat) {x : Str} {pos : Pos} (hN : X.N[i]? = some x := by rfl) (hv : Vis X.env.scope x := by first | exact Or.inl rfl | exact Or.inr (Or.inl rfl) | exact Or.inr (Or.inr rfl)) (hd : (x == ("__debug__" : Str)) = false := by decide)
    (hcd : (x == ("__classdict__" : Str)) = false := by decide) : PE X (.Name x pos) (tVar i) := pe_var hN hv hd hcd
end
theorem iteF {A B : Prop} (h : B) : if false = true then A else B := by
  rw [if_neg Bool.false_ne_true]
  exact h
theorem iteT {A B : Prop} (h : A) : if true = true then A else B := by
  rw [if_pos rfl]
  exact h
noncomputable def Same (H H' : Hp) : Prop := ∀ b o, H b = some o → H' b = some o
theorem Same.refl (H : Hp) : Same H H := fun _ _ h => h
theorem Same.trans {H H1 H2 : Hp} (a : Same H H1) (b : Same H1 H2) : Same H H2 := fun c o h => b c o (a c o h)
theorem Same.free {H H' : Hp} (e : Same H H') {l : Addr} (h : H' l = Option.none) : H l = Option.none := by
  cases q : H l with
  | none => rfl
  | some o =>
    rw [e l o q] at h
    cases h
section
variable {X : Cx}
end
section
variable {κ : Type} [DecidableEq κ]
end
end L2
namespace L2
open PySem PySem.Spec PyProof.Rows
inductive D where
  | n | i (k : Int) | s (x : Str) | t (ds : List D) | l (ds : List D)
mutual
noncomputable def Rep (H : Hp) : V → D → Prop
  | v, .n => v = .non
  | v, .i k => v = .int k
  | v, .s x => v = .str x
  | v, .t ds => ∃ a xs, v = .ref a ∧ H a = some (.tup xs) ∧ RepL H xs ds
  | v, .l ds => ∃ a xs, v = .ref a ∧ H a = some (.lst xs) ∧ RepL H xs ds
noncomputable def RepL (H : Hp) : List V → List D → Prop
  | xs, [] => xs = []
  | xs, d :: ds => ∃ v r, xs = v :: r ∧ Rep H v d ∧ RepL H r ds
end
mutual
noncomputable def D.size : D → Nat
  | .n => 1
  | .i _ => 1
  | .s _ => 1
  | .t ds => 1 + D.sizes ds
  | .l ds => 1 + D.sizes ds
noncomputable def D.sizes : List D → Nat
  | [] => 0
  | d :: ds => D.size d + D.sizes ds
end
mutual
noncomputable def D.flat : D → Prop
  | .n => True
  | .i _ => True
  | .s _ => True
  | .t ds => D.flats ds
  | .l _ => False
noncomputable def D.flats : List D → Prop
  | [] => True
  | d :: ds => D.flat d ∧ D.flats ds
end
noncomputable def TupSame (H H' : Hp) : Prop := ∀ b xs, H b = some (.tup xs) → H' b = some (.tup xs)
noncomputable def SeqSame (H H' : Hp) : Prop := (∀ b xs, H b = some (.tup xs) → H' b = some (.tup xs)) ∧ ∀ b xs, H b = some (.lst xs) → H' b = some (.lst xs)
theorem Same.seqs {H H' : Hp} (h : Same H H') : SeqSame H H' := ⟨fun b xs e => h b _ e, fun b xs e => h b _ e⟩
theorem TupSame.trans {H H1 H2 : Hp} (a : TupSame H H1) (b : TupSame H1 H2) : TupSame H H2 := fun c xs e => b c xs (a c xs e)
mutual
theorem Rep.mono {H H' : Hp} (h : SeqSame H H') : ∀ {d : D} {v : V}, Rep H v d → Rep H' v d
  | .n, _, r => by simpa only [Rep] using r
  | .i _, _, r => by simpa only [Rep] using r
  | .s _, _, r => by simpa only [Rep] using r
  | .t ds, _, r => by
    simp only [Rep] at r ⊢
    obtain ⟨a, xs, e, ha, rl⟩ := r
    exact ⟨a, xs, e, h.1 a xs ha, RepL.mono h rl⟩
  | .l ds, _, r => by
    simp only [Rep] at r ⊢
    obtain ⟨a, xs, e, ha, rl⟩ := r
    exact ⟨a, xs, e, h.2 a xs ha, RepL.mono h rl⟩
theorem RepL.mono {H H' : Hp} (h : SeqSame H H') : ∀ {ds : List D} {xs : List V}, RepL H xs ds → RepL H' xs ds
  | [], _, r => by simpa only [RepL] using r
  | d :: ds, _, r => by
    simp only [RepL] at r ⊢
    obtain ⟨v, q, e, rv, rl⟩ := r
    exact ⟨v, q, e, Rep.mono h rv, RepL.mono h rl⟩
end
mutual
theorem Rep.tmono {H H' : Hp} (h : TupSame H H') : ∀ {d : D} {v : V}, d.flat → Rep H v d → Rep H' v d
  | .n, _, _, r => by simpa only [Rep] using r
  | .i _, _, _, r => by simpa only [Rep] using r
  | .s _, _, _, r => by simpa only [Rep] using r
  | .t ds, _, f, r => by
    simp only [Rep] at r ⊢
    simp only [D.flat] at f
    obtain ⟨a, xs, e, ha, rl⟩ := r
    exact ⟨a, xs, e, h a xs ha, RepL.tmono h f rl⟩
  | .l ds, _, f, r => by simp only [D.flat] at f
theorem RepL.tmono {H H' : Hp} (h : TupSame H H') : ∀ {ds : List D} {xs : List V}, D.flats ds → RepL H xs ds → RepL H' xs ds
  | [], _, _, r => by simpa only [RepL] using r
  | d :: ds, _, f, r => by
    simp only [RepL] at r ⊢
    simp only [D.flats] at f
    obtain ⟨v, q, e, rv, rl⟩ := r
    exact ⟨v, q, e, Rep.tmono h f.1 rv, RepL.tmono h f.2 rl⟩
end
theorem RepL.length {H : Hp} : ∀ {ds : List D} {xs : List V}, RepL H xs ds → xs.length = ds.length
  | [], _, r => by simp only [RepL] at r; subst r; rfl
  | d :: ds, _, r => by
    simp only [RepL] at r
    obtain ⟨v, q, rfl, _, rl⟩ := r
    rw [List.length_cons, List.length_cons, RepL.length rl]
theorem RepL.append {H : Hp} : ∀ {ds es : List D} {xs ys : List V}, RepL H xs ds → RepL H ys es → RepL H (xs ++ ys) (ds ++ es)
  | [], _, _, _, r, q => by simp only [RepL] at r; subst r; exact q
  | d :: ds, es, _, ys, r, q => by
    simp only [RepL] at r
    obtain ⟨v, x, rfl, rv, rl⟩ := r
    show RepL H (v :: (x ++ ys)) (d :: (ds ++ es))
    simp only [RepL]
    exact ⟨v, _, rfl, rv, RepL.append rl q⟩
theorem RepL.snoc {H : Hp} {ds : List D} {xs : List V} {v : V} {d : D} (r : RepL H xs ds) (q : Rep H v d) : RepL H (xs ++ [v]) (ds ++ [d]) :=
  r.append (by simp only [RepL]; exact ⟨v, [], rfl, q, rfl⟩)
theorem RepL.last {H : Hp} : ∀ {ds : List D} {xs : List V} {d : D}, RepL H xs (ds ++ [d]) → ∃ ys v, xs = ys ++ [v] ∧ RepL H ys ds ∧ Rep H v d
  | [], _, d, r => by
    simp only [List.nil_append, RepL] at r
    obtain ⟨v, q, rfl, rv, rfl⟩ := r
    exact ⟨[], v, rfl, by simp only [RepL], rv⟩
  | e :: ds, _, d, r => by
    rw [List.cons_append, RepL] at r
    obtain ⟨v, q, rfl, rv, rl⟩ := r
    obtain ⟨ys, w, rfl, r1, r2⟩ := RepL.last rl
    exact ⟨v :: ys, w, rfl, by rw [RepL]; exact ⟨v, ys, rfl, rv, r1⟩, r2⟩
theorem D.sizes_append : ∀ (a b : List D), D.sizes (a ++ b) = D.sizes a + D.sizes b
  | [], b => by simp [D.sizes]
  | d :: a, b => by rw [List.cons_append, D.sizes, D.sizes, D.sizes_append a b]; lia
theorem D.size_pos : ∀ d : D, 0 < d.size
  | .n => by simp [D.size]
  | .i _ => by simp [D.size]
  | .s _ => by simp [D.size]
  | .t _ => by rw [D.size]; lia
  | .l _ => by rw [D.size]; lia
theorem D.length_le_sizes : ∀ ds : List D, ds.length ≤ D.sizes ds
  | [] => Nat.zero_le _
  | d :: ds => by
    rw [D.sizes, List.length_cons]
    have := D.size_pos d
    have := D.length_le_sizes ds
    lia
end L2
namespace L2
open PySem PySem.Spec PyProof.Rows
section
variable {P : Program} {w : World} {B : Heap} {a0 : Value} {l : List Env} {H H' : Hp} {s s' : Shared} {C : Value} {e : Addr} {h' : Heap}
end
section
variable {X : Cx} {pins : List (Addr × Obj)} {σ : St} {H H' : Hp} {s s' : Shared} {B : Heap} {a0 C : Value} {e : Addr} {h' h1 : Heap}
end
section
variable {P : Program} {w : World} {K : PySem.W.Frag} {mg : Str → Option Value} {base : Heap} {N : List Str} {qual : Str} {scope : Scope} {f : Addr} {cd : Value} {A : Around} {outer : List Env} {s : Shared} {H : Hp} {E : XK}
end
section
variable {X : Cx} {C : Addr} {bm : List Value} {x : Str} {np cpos pos : Pos} {e₀ : Expr} {rest : List Expr} {t : TA} {E : XK}
end
end L2
namespace L2
open PySem PySem.Spec PyProof.Rows
section
variable {M : Model} {A : Around} {E : Value → Shared → Prop}
end
section
variable {X : Cx} {pins pl : List (Addr × Obj)} {σ : St} {H H' : Hp} {s s' : Shared} {R : St → Value → Hp → Prop} {e : Addr} {D : Ends} {f : Flow}
end
section
variable {X : Cx} {body suite : List Stmt} {b₀ : Stmt} {h₀ : ExceptHandler} {hs rest : List ExceptHandler} {tb : (St → Value → Hp → Prop) → TS} {th tr : Value → TS} {ts : TS} {pos np : Pos} {x n : Str} {C' : Addr} {bm' : List Value}
end
section
variable {X : Cx} {pl : List (Addr × Obj)} {R : St → Value → Hp → Prop} {k : Nat} {f C : Addr} {fd : FuncData} {ps : List Str} {sp : Sp} {x m : Str} {p pos apos : Pos} {e o : Expr} {es : List Expr} {ta : TE} {t : TA}
end
section
variable {P : Program} {w : World} {K : PySem.W.Frag} {mg : Str → Option Value} {base : Heap}
end
end L2
namespace L2
open PySem PySem.Spec PyProof.Rows
theorem compLoop_go {prog : Program} {w : World} {A : Around} {R : Result → Shared → Prop} {s : Shared} {elt target iter : Expr} {ifs : List Expr} {scope : Scope} {pos : Pos} {it acc : Value} {env : Env} (I : Nat → Shared → Prop)
    (turn : ∀ n s, I n s → wpAny (model prog w) A (pyNext it) (fun r s₁ => match r with
      | none => R (.ok .next) s₁
      | some v => wpAny (model prog w) A (letOwnedTupleGo target it v) (fun _ s₁' => wpAny (model prog w) A (assign target env v) (fun _ s₂ =>
          wpAny (model prog w) A (forIn ifs true fun c r => if r = true then do let ok ← isTrue c env (eval c env); pure (ForInStep.yield ok) else pure (ForInStep.yield r)) (fun ok s₃ =>
            if ok = true then wpAny (model prog w) A (eval elt env) (fun x s₄ =>
              wpAny (model prog w) A (call (.builtin "list.append") [acc, x]) (fun _ s₅ => ∃ m, m < n ∧ I m s₅) (fun _ _ => False) s₄) (fun _ _ => False) s₃
            else ∃ m, m < n ∧ I m s₃) (fun _ _ => False) s₂) (fun _ _ => False) s₁') (fun _ _ => False) s₁) (fun _ _ => False) s)
    (n : Nat) (h : I n s) : codeAny (model prog w) A (.compLoop (.ListComp elt [⟨target, iter, ifs, 0⟩] scope pos) 0 it acc env) R s := by
  refine codeAny_loop rfl I (fun n s hI => ?_) n h
  show wpAny _ A ((compTurn (.ListComp elt [⟨target, iter, ifs, 0⟩] scope pos) 0 it acc env).onRaise (fun x => do noteFrame x env; theTreesLotGoes x)) _ _ s
  refine wpAny_noted ?_
  rw [compTurn_list]
  refine wpAny_bind (wpAny_standAt (wpAny_bind (wpAny_mono (turn n s hI) (fun r s₁ h₁ => ?_) fun _ _ h' => h'.elim)))
  cases r with
  | none => exact wpAny_pure h₁
  | some v =>
    refine wpAny_bind (wpAny_mono h₁ (fun _ s₁' h₁' => ?_) fun _ _ h' => h'.elim)
    refine wpAny_bind (wpAny_mono h₁' (fun _ s₂ h₂ => wpAny_bind (wpAny_mono h₂ (fun ok s₃ h₃ => ?_) fun _ _ h' => h'.elim)) fun _ _ h' => h'.elim)
    cases ok with
    | false => exact wpAny_pure ⟨rfl, h₃⟩
    | true =>
      exact wpAny_bind (wpAny_bind (wpAny_mono h₃ (fun x s₄ h₄ => wpAny_bind (wpAny_mono h₄ (fun _ s₅ h₅ => wpAny_pure (wpAny_pure ⟨rfl, h₅⟩)) fun _ _ h' => h'.elim)) fun _ _ h' => h'.elim))
noncomputable def clOf (env : Env) (ys : List Str) : List (Str × Addr) := ys.filterMap fun y => (env.cells.lookup y).map fun c => (y, c)
theorem clOf_lookup {env : Env} : ∀ {ys : List Str} {x : Str} {c : Addr}, (clOf env ys).lookup x = some c → x ∈ ys ∧ env.cells.lookup x = some c
  | [], _, _, h => by simp [clOf] at h
  | y :: ys, x, c, h => by
    unfold clOf at h
    rw [List.filterMap_cons] at h
    cases e : env.cells.lookup y with
    | none =>
      rw [e] at h
      obtain ⟨h1, h2⟩ := clOf_lookup (ys := ys) (x := x) (c := c) h
      exact ⟨List.mem_cons_of_mem _ h1, h2⟩
    | some d =>
      rw [e] at h
      change List.lookup x ((y, d) :: clOf env ys) = some c at h
      rw [List.lookup_cons] at h
      cases hx : x == y with
      | true =>
        rw [hx] at h
        cases h
        have q : x = y := by simpa using hx
        subst q
        exact ⟨List.mem_cons_self, e⟩
      | false =>
        rw [hx] at h
        obtain ⟨h1, h2⟩ := clOf_lookup (ys := ys) (x := x) (c := c) h
        exact ⟨List.mem_cons_of_mem _ h1, h2⟩
theorem clOf_has {env : Env} : ∀ {ys : List Str} {x : Str} {c : Addr}, x ∈ ys → env.cells.lookup x = some c → (clOf env ys).lookup x = some c
  | [], _, _, h, _ => by simp at h
  | y :: ys, x, c, h, e => by
    unfold clOf
    rw [List.filterMap_cons]
    by_cases q : x = y
    · subst q
      rw [e]
      show List.lookup x ((x, c) :: _) = some c
      rw [List.lookup_cons]
      simp
    · have h' : x ∈ ys := (List.mem_cons.mp h).resolve_left q
      have ih := clOf_has (env := env) h' e
      cases e' : env.cells.lookup y with
      | none => exact ih
      | some d =>
        show List.lookup x ((y, d) :: clOf env ys) = some c
        rw [List.lookup_cons]
        have : (x == y) = false := by simpa using q
        rw [this]
        exact ih
noncomputable def FreeOk (X : Cx) : List Str → List Nat → Prop
  | [], [] => True
  | y :: ys, j :: js => (X.N[j]? = some y ∧ (X.env.kindOf y = some .cell ∨ X.env.kindOf y = some .free)) ∧ FreeOk X ys js
  | _, _ => False
noncomputable def pick (σ : St) (js : List Nat) : St := js.map fun j => (σ[j]?).getD none
structure CompScope (X : Cx) (scope : Scope) (xs ys : List Str) (js : List Nat) : Prop where
  kind : scope.kind = .function
  names : ∀ p ∈ scope.names, (p.2 = .local ∧ scope.names.lookup p.1 = some .local) ∨ (p.2 = .free ∧ p.1 ∈ ys ∧ scope.names.lookup p.1 = some .free) ∨ (p.2 = .globalImplicit ∧ scope.names.lookup p.1 = some .globalImplicit)
  own : ∀ x ∈ xs, scope.names.lookup x = some .local
  frees : ∀ y ∈ ys, scope.names.lookup y = some .free
  clos : closureFor scope X.env = pure (clOf X.env ys)
  fr : FreeOk X ys js
noncomputable def blk (X : Cx) (scope : Scope) (xs ys : List Str) (C : Addr) (s₀ : Shared) (H₀ : Hp) (fp : List Addr) (pl : List (Addr × Obj)) : Cx :=
  { X with N := xs ++ ys, s₀ := s₀, H₀ := H₀, env := compEnvC scope (clOf X.env ys) C X.env, outer := X.stack, ex := fp, fn := fun y => xs.contains y, pn := X.pn ++ pl, xe := fun _ _ => False }
noncomputable def Junk (X : Cx) (pins : List (Addr × Obj)) (H : Hp) (C : Addr) : Prop :=
  H C = none ∧ C ≠ X.env.locals ∧ X.s₀.heap.objs.size ≤ C ∧ (∀ x c, X.env.cells.lookup x = some c → c ≠ C) ∧ ∀ p ∈ X.pn ++ pins, p.1 ≠ C
theorem Inv.let_go {X : Cx} {pins : List (Addr × Obj)} {σ : St} {H : Hp} {s : Shared} {C : Addr} {h' : Heap} (I : Inv X pins σ H s) (j : Junk X pins H C) (hs : Heap.SameBut C s.heap h') : Inv X pins σ H { s with heap := h' } :=
  I.turned (t' := s.toks) (fun b _ hb e => (hs.2 b hb).trans e) j.1 j.2.1 (.inr j.2.2.1) j.2.2.2.1 j.2.2.2.2
noncomputable def CompGo (J : It) (g : TG) (tc : TT) (te : TE) (σ : St) (acc : Addr) (H1 : Hp) (Q : VK) : Prop :=
  ∃ W : Nat → Nat → List V → St → Hp → Prop, (∃ m, W 0 m [] σ (upd H1 acc (.lst []))) ∧ ∀ i m zs σ H2, W i m zs σ H2 → H2 acc = some (.lst zs) ∧
    ((J.stop i H2 ∧ Q (.ref acc) H2) ∨ (J.go i H2 ∧ ∀ y H3, J.yld i H2 y H3 → g y σ H3 fun σ4 H4 => tc σ4 H4 fun b H5 => if b = true then te σ4 H5 fun z H6 => H6 acc = some (.lst zs) ∧ zs.length < sizeLine ∧ ∃ m', m' < m ∧ W (i + 1) m' (zs ++ [z]) σ4 (upd H6 acc (.lst (zs ++ [z])))
      else ∃ m', m' < m ∧ W (i + 1) m' zs σ4 H5))
noncomputable def tComp (wi : TI) (n : Nat) (js : List Nat) (g : TG) (tc : TT) (te : TE) : TE := fun σ H Q => wi σ H fun J H1 => ∀ acc, H1 acc = none → CompGo J g tc te (List.replicate n none ++ pick σ js) acc H1 Q
noncomputable def PIfs (X : Cx) (ifs : List Expr) (tc : TT) : Prop :=
  ∀ (pins : List (Addr × Obj)) (s : Shared) (σ : St) (H : Hp) (Q : Bool → Hp → Prop), Inv X pins σ H s → tc σ H Q →
    wpAny (model X.prog X.w) X.A (forIn ifs true fun c r => if r = true then do let ok ← isTrue c X.env (eval c X.env); pure (ForInStep.yield ok) else pure (ForInStep.yield r)) (TP X pins σ Q) X.xe s
noncomputable def tYes : TT := fun _ H Q => Q true H
theorem pif_nil {X : Cx} : PIfs X [] tYes := fun _ _ _ H _ I h => wpAny_tests_nil ⟨H, I, h⟩
theorem pif_one {X : Cx} {c : Expr} {tc : TT} (h : PT X c tc) : PIfs X [c] tc := fun pins s σ H Q I q => wpAny_tests_one (h pins s σ H Q I q)
section
variable {X : Cx} {scope : Scope} {xs ys : List Str} {js : List Nat} {elt target iter : Expr} {ifs : List Expr} {pos px : Pos} {wi : TI} {g : TG} {tc : TT} {te : TE}
theorem FreeOk.get : ∀ {ys : List Str} {js : List Nat} {i : Nat} {y : Str}, FreeOk X ys js → ys[i]? = some y → ∃ j, js[i]? = some j ∧ X.N[j]? = some y ∧ (X.env.kindOf y = some .cell ∨ X.env.kindOf y = some .free)
  | [], _, _, _, _, h => by simp at h
  | _ :: _, [], _, _, f, _ => f.elim
  | y' :: ys, j :: js, 0, y, f, h => by
    have e : y' = y := by simpa using h
    subst e
    exact ⟨j, rfl, f.1⟩
  | y' :: ys, j :: js, i + 1, y, f, h => by
    obtain ⟨j', h1, h2⟩ := FreeOk.get (i := i) (y := y) f.2 (by simpa using h)
    exact ⟨j', by simpa using h1, h2⟩
theorem FreeOk.len : ∀ {ys : List Str} {js : List Nat}, FreeOk X ys js → ys.length = js.length
  | [], [], _ => rfl
  | [], _ :: _, f => f.elim
  | _ :: _, [], f => f.elim
  | _ :: ys, _ :: js, f => by simp [FreeOk.len f.2]
theorem lookup_relabel_free {env : Env} : ∀ {names : List (Str × NameKind)} {x : Str}, names.lookup x = some .free →
    (names.map fun (n, k) => if (k == NameKind.free && env.scope.kind == .function && env.kindOf n == some .cell) then (n, NameKind.cell) else (n, k)).lookup x = some .cell ∨
    (names.map fun (n, k) => if (k == NameKind.free && env.scope.kind == .function && env.kindOf n == some .cell) then (n, NameKind.cell) else (n, k)).lookup x = some .free
  | [], _, h => by simp at h
  | (n, k) :: r, x, h => by
    have ih := @lookup_relabel_free env r x
    show List.lookup x ((if (k == NameKind.free && env.scope.kind == .function && env.kindOf n == some .cell) = true then (n, NameKind.cell) else (n, k)) :: _) = _ ∨ List.lookup x ((if (k == NameKind.free && env.scope.kind == .function && env.kindOf n == some .cell) = true then (n, NameKind.cell) else (n, k)) :: _) = _
    cases hx : x == n with
    | true =>
      simp only [List.lookup_cons, hx] at h
      cases h
      by_cases hc : (NameKind.free == NameKind.free && env.scope.kind == .function && env.kindOf n == some .cell) = true
      · rw [if_pos hc]; left; simp [List.lookup_cons, hx]
      · rw [if_neg hc]; right; simp [List.lookup_cons, hx]
    | false =>
      simp only [List.lookup_cons, hx] at h
      by_cases hc : (k == NameKind.free && env.scope.kind == .function && env.kindOf n == some .cell) = true
      · rw [if_pos hc]; simp only [List.lookup_cons, hx]; exact ih h
      · rw [if_neg hc]; simp only [List.lookup_cons, hx]; exact ih h
theorem relabel_mem {env : Env} : ∀ {names : List (Str × NameKind)} {x : Str} {k : NameKind}, (names.map fun (n, k) => if (k == NameKind.free && env.scope.kind == .function && env.kindOf n == some .cell) then (n, NameKind.cell) else (n, k)).lookup x = some k →
    ∃ p ∈ names, p.1 = x ∧ (p.2 = k ∨ (p.2 = .free ∧ k = .cell))
  | [], _, _, h => by simp at h
  | (n, k') :: r, x, k, h => by
    have h : List.lookup x ((if (k' == NameKind.free && env.scope.kind == .function && env.kindOf n == some .cell) = true then (n, NameKind.cell) else (n, k')) :: _) = some k := h
    have ih := @relabel_mem env r x k
    by_cases hc : (k' == NameKind.free && env.scope.kind == .function && env.kindOf n == some .cell) = true
    · rw [if_pos hc, List.lookup_cons] at h
      cases hx : x == n with
      | true =>
        rw [hx] at h
        cases h
        refine ⟨(n, k'), List.mem_cons_self, (by simpa using hx : x = n).symm, Or.inr ⟨?_, rfl⟩⟩
        rw [Bool.and_eq_true, Bool.and_eq_true] at hc
        simpa using hc.1.1
      | false =>
        rw [hx] at h
        obtain ⟨p, h1, h2⟩ := ih h
        exact ⟨p, List.mem_cons_of_mem _ h1, h2⟩
    · rw [if_neg hc, List.lookup_cons] at h
      cases hx : x == n with
      | true =>
        rw [hx] at h
        cases h
        exact ⟨(n, k'), List.mem_cons_self, (by simpa using hx : x = n).symm, Or.inl rfl⟩
      | false =>
        rw [hx] at h
        obtain ⟨p, h1, h2⟩ := ih h
        exact ⟨p, List.mem_cons_of_mem _ h1, h2⟩
theorem blk_start {pins : List (Addr × Obj)} {σ : St} {H : Hp} {s : Shared} {h' : Heap} {fp : List Addr} {tk : Nat} (S : CompScope X scope xs ys js) (I : Inv X pins σ H s) (hf : ∀ b ∈ fp, FpOk X pins H b) (hfl : ∀ b ∈ fp, b < s.heap.objs.size)
    (hn : h'.Ns s.heap.objs.size fun _ => none) (k : ∀ b o, s.heap.get? b = some o → h'.get? b = some o) :
    Inv (blk X scope xs ys s.heap.objs.size s H fp pins) [] (List.replicate xs.length none ++ pick σ js) H { s with heap := h', toks := tk } := by
  have hfr : ∀ a, s.heap.objs.size ≤ a → H a = none := fun a ha => I.hok.fresh ha
  have fpS : ∀ b ∈ fp, b ∉ L2.frs X.stack := fun b hb z => by
    rcases List.mem_cons.mp (I.stkSub b z) with e | e
    · exact (hf b hb).2.1 e
    · exact (hf b hb).2.2.1 e
  have inYs : ∀ x, ((relabel scope X.env).names.lookup x = some .cell ∨ (relabel scope X.env).names.lookup x = some .free) → x ∈ ys := fun x hx => by
    rcases hx with z | z
    · obtain ⟨p, hp, e, z⟩ := relabel_mem z
      rcases S.names p hp with ⟨h1, _⟩ | ⟨_, h2, _⟩ | ⟨h1, _⟩
      · rcases z with z | z
        · rw [h1] at z; cases z
        · rw [h1] at z; cases z.1
      · rw [← e]; exact h2
      · rcases z with z | z
        · rw [h1] at z; cases z
        · rw [h1] at z; cases z.1
    · obtain ⟨p, hp, e, z⟩ := relabel_mem z
      rcases S.names p hp with ⟨h1, _⟩ | ⟨_, h2, _⟩ | ⟨h1, _⟩
      · rcases z with z | z
        · rw [h1] at z; cases z
        · cases z.2
      · rw [← e]; exact h2
      · rcases z with z | z
        · rw [h1] at z; cases z
        · cases z.2
  refine ⟨⟨I.ok.mod, S.kind, I.ok.glob, I.ok.blt, Nat.le_refl _, fun x y c h1 h2 => I.ok.inj x y c (clOf_lookup h1).2 (clOf_lookup h2).2, fun x hx => ?_, fun x c h1 h2 => ?_, I.ok.hd, I.ok.frames, .inl rfl, fun b hb => ⟨?_, fun x c e => (hf b hb).2.2.2.2.1 x c (clOf_lookup e).2⟩,
    I.bs, Nat.le_trans I.ok.bsz I.sz, fun b o e z => ?_, fpS, I.stack, I.stkFree⟩, rfl, I.bare, Un.kept k, ⟨_, hn, fun i y v e1 e2 e3 => ?_⟩, fun x c e => ?_, hfr _ (Nat.le_refl _), fun x c e => ?_, fun p hp => ?_, I.hok.kept k, ?_⟩
  · have q : x ∈ ys := inYs x hx
    obtain ⟨i, hi⟩ := List.getElem?_of_mem q
    obtain ⟨j, _, _, hk⟩ := S.fr.get hi
    obtain ⟨c, hc⟩ := I.ok.has x hk
    exact ⟨c, clOf_has q hc⟩
  · have q := (clOf_lookup h2).1
    have h1' : x ∈ xs := by
      have : xs.contains x = true := h1
      simpa using this
    have a := S.own x h1'
    have b := S.frees x q
    rw [a] at b
    cases b
  · intro z
    have z' : b = s.heap.objs.size := z
    have := hfl b hb
    rw [z'] at this
    exact Nat.lt_irrefl _ this
  · rcases (hf b z).2.2.2.1 with q | q
    · exact I.ok.noex b o e q
    · exact absurd (Nat.lt_of_lt_of_le (Heap.lt_size (I.ok.bs b o e).1) q) (Nat.lt_irrefl _)
  · have e1' : (xs ++ ys)[i]? = some y := e1
    by_cases hi : i < xs.length
    · rw [List.getElem?_append_left (by rw [List.length_replicate]; exact hi), List.getElem?_replicate] at e2
      split at e2 <;> cases e2
    · rw [List.getElem?_append_right (by lia)] at e1'
      rw [List.getElem?_append_right (by rw [List.length_replicate]; lia), List.length_replicate] at e2
      obtain ⟨j, hj, hN, hk⟩ := S.fr.get e1'
      unfold pick at e2
      rw [List.getElem?_map, hj] at e2
      have e4 : σ[j]? = some (some v) := by
        have e5 : (σ[j]?).getD none = some v := by simpa using e2
        cases q : σ[j]? with
        | none => rw [q] at e5; cases e5
        | some o => rw [q] at e5; simpa using e5
      have hvis : Vis X.env.scope y := by
        rcases hk with z | z
        · exact .inr (.inl z)
        · exact .inr (.inr z)
      obtain ⟨m0, _, hl⟩ := I.loc
      obtain ⟨u, ru, lk⟩ := hl j y v hN e4 hvis
      refine ⟨u, ru, .inr ⟨?_, ?_⟩⟩
      · exact lookup_relabel_free (S.frees y (List.mem_of_getElem? e1'))
      · rcases lk with ⟨z, _⟩ | ⟨_, c, hc, hcell⟩
        · rcases hk with q | q
          · rw [q] at z; cases z
          · rw [q] at z; cases z
        · exact ⟨c, clOf_has (List.mem_of_getElem? e1') hc, hcell.keeps k⟩
  · obtain ⟨v, z⟩ := I.cell x c (clOf_lookup e).2
    exact ⟨v, z.keeps k⟩
  · exact I.freeC x c (clOf_lookup e).2
  · have hp' : p ∈ X.pn ++ pins := by
      have : p ∈ (X.pn ++ pins) ++ [] := hp
      rwa [List.append_nil] at this
    obtain ⟨e, n, ne, nf, d⟩ := I.pin p hp'
    refine ⟨k _ _ e, n, fun z => ?_, fun z => ?_, d⟩
    · have z' : p.1 = s.heap.objs.size := z
      exact absurd (Heap.lt_size e) (by rw [z']; exact Nat.lt_irrefl _)
    · have z' : p.1 ∈ L2.frs X.stack := z
      rcases List.mem_cons.mp (I.stkSub _ z') with q | q
      · exact ne q
      · exact nf q
  · show (List.replicate xs.length none ++ pick σ js).length = (xs ++ ys).length
    rw [List.length_append, List.length_append, List.length_replicate]
    unfold pick
    rw [List.length_map, S.fr.len]
theorem comp_run {pins : List (Addr × Obj)} {σ : St} {H2 : Hp} {s2 : Shared} {J : It} {fp : List Addr} {it : Addr} {tn : Nat → Heap → Prop} {Q : VK} (S : CompScope X scope xs ys js) (hc : X.calm = true) (I2 : Inv X pins σ H2 s2) (T : Turn X.prog X.w X.K target J fp it tn) (st2 : tn 0 s2.heap)
    (f2 : ∀ b ∈ fp, FpOk X pins H2 b) (hg : ∀ C s₀ H₀ fp pl, PG (blk X scope xs ys C s₀ H₀ fp pl) target g) (hi : ∀ C s₀ H₀ fp pl, PIfs (blk X scope xs ys C s₀ H₀ fp pl) ifs tc) (he : ∀ C s₀ H₀ fp pl, PE (blk X scope xs ys C s₀ H₀ fp pl) elt te)
    (rd : ∀ acc, H2 acc = none → CompGo J g tc te (List.replicate xs.length none ++ pick σ js) acc H2 Q) {RR : Value → Addr → Result → Shared → Prop}
    (hRR : ∀ acc C H' s' m, s'.heap.Ns C m → Inv X pins σ H' s' → Junk X pins H' C → Q (.ref acc) H' → RR (.ref acc) C (.ok .next) s') :
    wpAny (model X.prog X.w) X.A (newList []) (fun acc s₃ => wpAny (model X.prog X.w) X.A (newFunctionEnv scope X.env.globals (clOf X.env ys) [] X.env.qual none .none (some X.env)) (fun cenv s₄ =>
      codeAny (model X.prog X.w) X.A (.compStart (.ListComp elt [⟨target, iter, ifs, 0⟩] scope pos) 0 (.ref it) acc { cenv with scope := relabel scope X.env }) (RR acc cenv.locals) s₄) X.xe s₃) X.xe s2 := by
  have fresh2 : H2 s2.heap.objs.size = none := I2.hok.fresh (Nat.le_refl _)
  obtain ⟨W, ⟨m0, w0⟩, turn⟩ := rd _ fresh2
  have hcell : ∀ y ∈ scope.names, y.2 ≠ .cell := fun y hy z => by
    rcases S.names y hy with ⟨q, _⟩ | ⟨q, _⟩ | ⟨q, _⟩ <;> rw [q] at z <;> cases z
  refine wpAny_newObj_type (wpAny_newFunctionEnv hcell (by intro y hy; simp at hy) (fun h₁ hns₁ hsb₁ => ?_) S.kind)
  dsimp only at hns₁ hsb₁ ⊢
  have I3 : Inv X pins σ (upd H2 s2.heap.objs.size (.lst [])) { s2 with heap := s2.heap.push { cls := .type "list", dict := none, data := .seq ([] : List Value).toArray }, toks := s2.toks } := I2.lnew (its := []) .nil (Nat.zero_le _)
  generalize hs3 : ({ s2 with heap := s2.heap.push { cls := .type "list", dict := none, data := .seq ([] : List Value).toArray }, toks := s2.toks } : Shared) = s3 at I3
  have hh3 : s2.heap.push { cls := .type "list", dict := none, data := .seq ([] : List Value).toArray } = s3.heap := by rw [← hs3]
  rw [hh3] at hns₁ hsb₁ ⊢
  have ne2 : ∀ b ∈ fp, b < s2.heap.objs.size := fun b hb => by
    obtain ⟨o, e, _⟩ := T.obj 0 _ st2 b hb
    exact Heap.lt_size e
  have sz3 : s3.heap.objs.size = s2.heap.objs.size + 1 := by rw [← hh3, Heap.size_push]
  have f3 : ∀ b ∈ fp, FpOk X pins (upd H2 s2.heap.objs.size (.lst [])) b := fun b hb => by
    obtain ⟨a1, a2⟩ := f2 b hb
    exact ⟨by rw [upd_ne (Nat.ne_of_lt (ne2 b hb))]; exact a1, a2⟩
  have k3 : ∀ b o, s3.heap.get? b = some o → h₁.get? b = some o := fun b o e => hsb₁.extBut b o (Nat.ne_of_lt (Heap.lt_size e)) (Heap.get?_push_of_some _ e)
  have IB := blk_start (tk := s3.toks) S I3 f3 (fun b hb => by rw [sz3]; exact Nat.lt_succ_of_lt (ne2 b hb)) (by simpa using hns₁) k3
  have st3 : tn 0 h₁ := T.keep 0 _ _ st2 fun b hb o e => k3 b o (by rw [← hh3]; exact Heap.get?_push_of_some _ e)
  have stat : ∀ {H' : Hp}, (∀ b ∈ fp, H' b = none) → ∀ b ∈ fp, FpOk (blk X scope xs ys s3.heap.objs.size s3 (upd H2 s2.heap.objs.size (.lst [])) fp pins) [] H' b := fun {H'} hn b hb => by
    obtain ⟨a1, a2, a3, a4, a5, a6⟩ := f3 b hb
    refine ⟨hn b hb, fun z => ?_, fun z => ?_, .inl hb, fun x c e => a5 x c (clOf_lookup e).2, fun p hp => a6 p ?_⟩
    · have z' : b = s3.heap.objs.size := z
      have := ne2 b hb
      rw [z', sz3] at this
      exact absurd this (Nat.not_lt.mpr (Nat.le_succ _))
    · have z' : b ∈ L2.frs X.stack := z
      rcases List.mem_cons.mp (I3.stkSub _ z') with q | q
      · exact a2 q
      · exact a3 q
    · have : p ∈ (X.pn ++ pins) ++ [] := hp
      rwa [List.append_nil] at this
  have loop : ∀ s₄ : Shared, s₄ = { s3 with heap := h₁, toks := s3.toks } →
      codeAny (model X.prog X.w) X.A (.compLoop (.ListComp elt [⟨target, iter, ifs, 0⟩] scope pos) 0 (.ref it) (.ref s2.heap.objs.size) (compEnvC scope (clOf X.env ys) s3.heap.objs.size X.env)) (RR (.ref s2.heap.objs.size) s3.heap.objs.size) s₄ := by
    rintro s₄ rfl
    refine compLoop_go (fun n s' => ∃ i zs σ' H', Inv (blk X scope xs ys s3.heap.objs.size s3 (upd H2 s2.heap.objs.size (.lst [])) fp pins) [] σ' H' s' ∧ tn i s'.heap ∧ (∀ b ∈ fp, H' b = none) ∧ W i n zs σ' H') ?_ m0 ⟨0, [], _, _, IB, st3, fun b hb => (f3 b hb).1, w0⟩
    rintro n s5 ⟨i, zs, σ5, H5, I5, st5, fr5, w5⟩
    obtain ⟨hacc, tt⟩ := turn i n zs σ5 H5 w5
    rcases tt with ⟨stop, qn⟩ | ⟨go, step⟩
    · refine thn (T.done (blk X scope xs ys s3.heap.objs.size s3 (upd H2 s2.heap.objs.size (.lst [])) fp pins) rfl rfl rfl hc i [] s5 σ5 H5 _ I5 (stat fr5) st5 stop) fun r s6 ⟨hr, I6⟩ => ?_
      subst hr
      obtain ⟨m, hm, _⟩ := I6.loc
      have I6' : Inv X pins σ H5 s6 := I3.call' (ch := fp) I6.os I6.base I6.hok I6.bare fun b hb => ⟨(f3 b hb).2.2.2.1, (f3 b hb).2.1, (f3 b hb).2.2.2.2.1, (f3 b hb).2.2.2.2.2⟩
      refine hRR _ _ H5 s6 m hm I6' ⟨I6.free, Nat.ne_of_gt I3.lt, I3.sz, fun x c e z => ?_, fun p hp z => ?_⟩ qn
      · obtain ⟨v, q⟩ := I3.cell x c e
        have := q.lt
        rw [z] at this
        exact Nat.lt_irrefl _ this
      · have := Heap.lt_size (I3.pin p hp).1
        rw [z] at this
        exact Nat.lt_irrefl _ this
    · refine thn (T.item (blk X scope xs ys s3.heap.objs.size s3 (upd H2 s2.heap.objs.size (.lst [])) fp pins) rfl rfl rfl hc i [] s5 σ5 H5 _ I5 (stat fr5) st5 go) fun r s6 ⟨u, hr, h6⟩ => ?_
      subst hr
      refine thn h6 fun _ s7 hz => ex5 hz fun x H7 I7 r7 ⟨y7, st7, fr7⟩ => ?_
      have I7' := I7.pinned (stat fr7) (T.obj _ _ st7)
      refine thn (hg _ _ _ _ _ _ s7 σ5 H7 x u _ I7' r7 (step x H7 y7)) fun _ s8 hz => ex4 hz fun σ8 H8 I8 q8 => ?_
      have again : ∀ {zs' : List V} {σ9 : St} {H9 : Hp} {s9 : Shared}, Inv (blk X scope xs ys s3.heap.objs.size s3 (upd H2 s2.heap.objs.size (.lst [])) fp pins) ([] ++ pinsAt fp s7.heap) σ9 H9 s9 → (∃ m', m' < n ∧ W (i + 1) m' zs' σ9 H9) →
          ∃ m, m < n ∧ ∃ i zs σ' H', Inv (blk X scope xs ys s3.heap.objs.size s3 (upd H2 s2.heap.objs.size (.lst [])) fp pins) [] σ' H' s9 ∧ tn i s9.heap ∧ (∀ b ∈ fp, H' b = none) ∧ W i m zs σ' H' := fun {zs' σ9 H9 s9} I9 ⟨m', hm, w9⟩ => by
        refine ⟨m', hm, i + 1, zs', σ9, H9, I9.unpinned, T.keep _ _ _ st7 fun b hb o e => (I9.pin (b, o) (List.mem_append_right _ (List.mem_append_right _ (mem_pinsAt hb e)))).1, fun b hb => ?_, w9⟩
        obtain ⟨o, e, d⟩ := T.obj _ _ st7 b hb
        exact (I9.pin (b, o) (List.mem_append_right _ (List.mem_append_right _ (mem_pinsAt hb e)))).2.1
      refine thn (hi _ _ _ _ _ _ s8 σ8 H8 _ I8 q8) fun ok s9 hz => ex3 hz fun H9 I9 q9 => ?_
      cases ok with
      | false =>
        rw [if_neg Bool.false_ne_true] at q9 ⊢
        exact again I9 q9
      | true =>
        rw [if_pos rfl] at q9 ⊢
        refine thn (he _ _ _ _ _ _ s9 σ8 H9 _ I9 q9) fun z s10 hz => ex5 hz fun zv H10 I10 rz ⟨ha10, hl10, q10⟩ => ?_
        refine thn (mt_append _ s10 σ8 H10 (.ref s2.heap.objs.size) [zv] (.ref s2.heap.objs.size) [z] (fun _ H11 => H11 = upd H10 s2.heap.objs.size (.lst (zs ++ [zv]))) I10 rfl (.cons rz .nil) ⟨_, zs, zv, rfl, rfl, ha10, hl10, rfl⟩) fun _ s11 hz => ex5 hz fun _ H11 I11 _ e11 => ?_
        subst e11
        exact again I11 q10
  have e4 : ({ s2 with heap := h₁, toks := s2.toks + ([] : List (Str × Value)).length } : Shared) = { s3 with heap := h₁, toks := s3.toks } := by
    rw [← hs3]
    rfl
  exact codeAny_compStart_list (loop _ e4) (T.self X.A 0 _ _ _ st3 (loop _ e4))
theorem pe_comp (S : CompScope X scope xs ys js) (hc : X.calm = true) (hw : PI X target iter wi) (hg : ∀ C s₀ H₀ fp pl, PG (blk X scope xs ys C s₀ H₀ fp pl) target g) (hi : ∀ C s₀ H₀ fp pl, PIfs (blk X scope xs ys C s₀ H₀ fp pl) ifs tc) (he : ∀ C s₀ H₀ fp pl, PE (blk X scope xs ys C s₀ H₀ fp pl) elt te)
    (hs : ∀ x, foldedSetIterable iter X.env x = pure x := by intro _; rfl) : PE X (.ListComp elt [⟨target, iter, ifs, 0⟩] scope pos) (tComp wi xs.length js g tc te) := by
  intro pins s σ H Q I h
  rw [eval_ListComp]
  refine wpAny_comprehension_free (use := none) rfl hs S.clos S.kind (fun x hx hl => ?_) (thn (hw pins s σ H _ I h) fun v s1 h1 => thn h1 fun itv s2 h2 => ?_)
  · rcases S.names x hx with ⟨_, q⟩ | ⟨q, _⟩ | ⟨q, _⟩
    · exact q
    · rw [q] at hl; cases hl
    · rw [q] at hl; cases hl
  obtain ⟨it, fp, tn, J, H2, e, I2, T, st2, f2, rd⟩ := h2
  subst e
  refine comp_run (RR := fun acc C => compPost (model X.prog X.w) X.A X.xe none (EP X pins σ Q) acc C) S hc I2 T st2 f2 hg hi he rd fun acc C H' s' m hm I' jk q => ?_
  exact ⟨m, hm, fun h' hsb => ⟨.ref acc, H', I'.let_go jk hsb, rfl, q⟩⟩
noncomputable def sComp (i : Nat) (t : TE) : TS := fun D σ H => t σ H fun v H1 => D.nx (σ.set i (some v)) H1
theorem ps_setComp {i : Nat} {x : Str} {py : Pos} {spos : Pos} (hN : X.N.Nodup) (hix : X.N[i]? = some x) (hlo : X.env.scope.names.lookup x = some .local) (S : CompScope X scope xs ys js) (hc : X.calm = true) (hw : PI X target iter wi) (hg : ∀ C s₀ H₀ fp pl, PG (blk X scope xs ys C s₀ H₀ fp pl) target g) (hi : ∀ C s₀ H₀ fp pl, PIfs (blk X scope xs ys C s₀ H₀ fp pl) ifs tc) (he : ∀ C s₀ H₀ fp pl, PE (blk X scope xs ys C s₀ H₀ fp pl) elt te)
    (hsw : swapsWith (.ListComp elt [⟨target, iter, ifs, 0⟩] scope pos) (some (.Name x py)) spos.line X.env = pure true := by rfl) (hs : ∀ x, foldedSetIterable iter X.env x = pure x := by intro _; rfl) :
    PS X (.Assign [.Name x py] (.ListComp elt [⟨target, iter, ifs, 0⟩] scope pos) spos) (sComp i (tComp wi xs.length js g tc te)) := by
  intro pins s σ H D I h
  rw [exec_Assign_Name_used _ _ _ _ hsw]
  refine wpAny_bind (wpAny_standAt (wpAny_bind ?_))
  show wpAny _ X.A (do let _ ← comprehension (.ListComp elt [⟨target, iter, ifs, 0⟩] scope pos) scope X.env _ (newList []) false (eval iter X.env) (some (assign (.Name x py) X.env))) _ _ s
  refine wpAny_bind (wpAny_mono (wpAny_comprehension_free (Q := fun _ s' => SP X pins D .next s') rfl hs S.clos S.kind (fun x hx hl => ?_) (thn (hw pins s σ H _ I h) fun v s1 h1 => thn h1 fun itv s2 h2 => ?_)) (fun _ s' hq => wpAny_pure (wpAny_pure hq)) fun _ _ e => e)
  · rcases S.names x hx with ⟨_, q⟩ | ⟨q, _⟩ | ⟨q, _⟩
    · exact q
    · rw [q] at hl; cases hl
    · rw [q] at hl; cases hl
  obtain ⟨it, fp, tn, J, H2, e, I2, T, st2, f2, rd⟩ := h2
  subst e
  refine comp_run (RR := fun acc C => compPost (model X.prog X.w) X.A X.xe (some (assign (.Name x py) X.env)) (fun _ s' => SP X pins D .next s') acc C) S hc I2 T st2 f2 hg hi he rd fun acc C H' s' m hm I' jk q => ?_
  refine wpAny_assign_Name (store_ok2 I' hN hix (Or.inl hlo) (v := .ref acc) rfl (fun s'' I'' hsb => ?_) (Or.inr hlo))
  obtain ⟨a, hsb, ha⟩ := hsb
  have hCa : C ≠ a := by
    rcases ha with e | e
    · rw [e]; exact jk.2.1
    · exact (jk.2.2.2.1 _ _ e).symm
  exact ⟨m, hm.sameBut hsb hCa, fun h' hs' => ⟨_, _, I''.let_go jk hs', q⟩⟩
end
theorem compScope {X : Cx} {scope : Scope} {xs ys : List Str} {js : List Nat} (kind : scope.kind = .function)
    (names : ∀ p ∈ scope.names, (p.2 = .local ∧ scope.names.lookup p.1 = some .local) ∨ (p.2 = .free ∧ p.1 ∈ ys ∧ scope.names.lookup p.1 = some .free) ∨ (p.2 = .globalImplicit ∧ scope.names.lookup p.1 = some .globalImplicit)) (own : ∀ x ∈ xs, scope.names.lookup x = some .local) (frees : ∀ y ∈ ys, scope.names.lookup y = some .free)
    (clos : closureFor scope X.env = pure (clOf X.env ys)) (fr : FreeOk X ys js) : CompScope X scope xs ys js := ⟨kind, names, own, frees, clos, fr⟩
end L2
namespace L2
open PySem PySem.Spec PyProof.Rows
noncomputable def CStep (n : Nat) (acc : Addr) (Pv : Nat → List V → St → Hp → Prop) (i : Nat) (zs : List V) (σ4 : St) : VK := fun z H6 =>
  H6 acc = some (.lst zs) ∧ zs.length < sizeLine ∧ ∃ m', m' < n - i ∧ (m' = n - (i + 1) ∧ i + 1 ≤ n ∧ Pv (i + 1) (zs ++ [z]) σ4 (upd H6 acc (.lst (zs ++ [z]))))
noncomputable def CSkip (n : Nat) (Pv : Nat → List V → St → Hp → Prop) (i : Nat) (zs : List V) (σ4 : St) (H5 : Hp) : Prop := ∃ m', m' < n - i ∧ (m' = n - (i + 1) ∧ i + 1 ≤ n ∧ Pv (i + 1) zs σ4 H5)
theorem CStep.mk {n i : Nat} {acc : Addr} {Pv : Nat → List V → St → Hp → Prop} {zs : List V} {σ4 : St} {z : V} {H6 : Hp} (hi : i < n) (h1 : H6 acc = some (.lst zs)) (h2 : zs.length < sizeLine) (p : Pv (i + 1) (zs ++ [z]) σ4 (upd H6 acc (.lst (zs ++ [z])))) : CStep n acc Pv i zs σ4 z H6 :=
  ⟨h1, h2, _, by lia, rfl, hi, p⟩
theorem CSkip.mk {n i : Nat} {Pv : Nat → List V → St → Hp → Prop} {zs : List V} {σ4 : St} {H5 : Hp} (hi : i < n) (p : Pv (i + 1) zs σ4 H5) : CSkip n Pv i zs σ4 H5 := ⟨_, by lia, rfl, hi, p⟩
theorem comp_list {K : PySem.W.Frag} {a acc : Addr} {xs : List V} {g : TG} {tc : TT} {te : TE} {σ : St} {H1 : Hp} {Q : VK} (Pv : Nat → List V → St → Hp → Prop) (h0 : Pv 0 [] σ (upd H1 acc (.lst [])))
    (hl : ∀ i zs σ H, i ≤ xs.length → Pv i zs σ H → SqL K H a xs ∧ H acc = some (.lst zs))
    (hs : ∀ i x zs σ H, xs[i]? = some x → i < xs.length → Pv i zs σ H → g x σ H fun σ4 H4 => tc σ4 H4 fun b H5 => if b = true then te σ4 H5 (CStep xs.length acc Pv i zs σ4) else CSkip xs.length Pv i zs σ4 H5)
    (hd : ∀ zs σ H, Pv xs.length zs σ H → Q (.ref acc) H) : CompGo (Itl K a) g tc te σ acc H1 Q := by
  refine ⟨fun i m zs σ H => m = xs.length - i ∧ i ≤ xs.length ∧ Pv i zs σ H, ⟨_, rfl, Nat.zero_le _, h0⟩, ?_⟩
  rintro i m zs σ H2 ⟨rfl, hi, p⟩
  obtain ⟨q, ha⟩ := hl i zs σ H2 hi p
  refine ⟨ha, ?_⟩
  by_cases hlt : i < xs.length
  · refine .inr ⟨⟨xs, xs[i], q, by simp [hlt]⟩, fun y H3 yl => ?_⟩
    obtain ⟨e, yl⟩ := yl
    subst e
    exact hs i y zs σ _ (yl xs q) hlt p
  · have e : i = xs.length := by lia
    subst e
    exact .inl ⟨⟨xs, q, Nat.le_refl _⟩, hd zs σ H2 p⟩
theorem comp_range {lo : Int} {n : Nat} {acc : Addr} {g : TG} {tc : TT} {te : TE} {σ : St} {H1 : Hp} {Q : VK} (Pv : Nat → List V → St → Hp → Prop) (h0 : Pv 0 [] σ (upd H1 acc (.lst [])))
    (hl : ∀ i zs σ H, i ≤ n → Pv i zs σ H → H acc = some (.lst zs))
    (hs : ∀ i zs σ H, i < n → Pv i zs σ H → g (.int (lo + i)) σ H fun σ4 H4 => tc σ4 H4 fun b H5 => if b = true then te σ4 H5 (CStep n acc Pv i zs σ4) else CSkip n Pv i zs σ4 H5)
    (hd : ∀ zs σ H, Pv n zs σ H → Q (.ref acc) H) : CompGo (Itr lo n) g tc te σ acc H1 Q := by
  refine ⟨fun i m zs σ H => m = n - i ∧ i ≤ n ∧ Pv i zs σ H, ⟨_, rfl, Nat.zero_le _, h0⟩, ?_⟩
  rintro i m zs σ H2 ⟨rfl, hi, p⟩
  have ha := hl i zs σ H2 hi p
  refine ⟨ha, ?_⟩
  by_cases hlt : i < n
  · refine .inr ⟨hlt, fun y H3 yl => ?_⟩
    obtain ⟨e, yl⟩ := yl
    subst e yl
    exact hs i zs σ _ hlt p
  · have e : i = n := by lia
    subst e
    exact .inl ⟨Nat.le_refl _, hd zs σ H2 p⟩
theorem tYes_if {σ : St} {H : Hp} {A B : Hp → Prop} (h : A H) : tYes σ H (fun b H5 => if b = true then A H5 else B H5) := by
  show if true = true then A H else B H
  rw [if_pos rfl]
  exact h
theorem gYes_if {i : Nat} {v : V} {σ : St} {H : Hp} {A B : St → Hp → Prop} (h : A (σ.set i (some v)) H) : gName i v σ H fun σ4 H4 => tYes σ4 H4 fun b H5 => if b = true then A σ4 H5 else B σ4 H5 := tYes_if (σ := σ.set i (some v)) (A := A (σ.set i (some v))) (B := B (σ.set i (some v))) h
end L2
namespace L2
open PySem PySem.Spec PyProof.Rows
section
variable {X : Cx} {x y : Str} {pos : Pos} {a : Addr} {T : String}
theorem pe_gstr (hg : Gl X x) (h : ∃ t, X.mg x = some (.str y t)) (hd : (x == ("__debug__" : Str)) = false := by decide) : PE X (.Name x pos) (tC (.str y)) := by
  obtain ⟨t, h⟩ := h
  exact pe_glob hg h ⟨t, rfl⟩ hd
theorem pe_bty (hg : Gl X x) (hm : X.mg x = none) (hv : bootBuiltins x = some (.type T)) (hn : x ≠ "__name__" := by decide) (hd : (x == ("__debug__" : Str)) = false := by decide) : PE X (.Name x pos) (tC (.ty T)) := pe_bltn hg hm hv rfl hn hd
end
theorem list_extend_tup (l : Addr) (items : Array Value) (n : Nat) (b : Addr) (items2 : Array Value) (n2 : Nat) (dd : Option Addr) (sl : Array (Option Value)) (hs0 : ¬(!items.isEmpty && Builtin.List.listTooLong (items.size + items2.size)) = true) (hs1 : items.size ≤ sizeLine) (hs2 : items.size + items2.size ≤ sizeLine + 1) :
    Meets (Builtin.«list.extend» ⟨[.ref l, .ref b], []⟩) (fun _ R s => s.heap.get? l = some { cls := .type "list", dict := none, data := .seq items n, slots := #[] } ∧ s.heap.get? b = some { cls := .type "tuple", dict := dd, data := .seq items2 n2, slots := sl } ∧ R (.ok (.ret Value.none)) { s with heap := s.heap.update l (Obj.mapSeq fun x => x ++ items2), toks := s.toks }) :=
  .of_wp fun prog w A R s h => by
    obtain ⟨hp, g, d, tk, os⟩ := s; obtain ⟨hl, hb, h⟩ := h; have f1 := PySem.AutoSeq1.idx_int; have f2 := PySem.AutoSeq1.sub_tuple_tuple; have f3 := PySem.AutoSeq1.sub_list_list; have f4 := PySem.AutoSeq1.sub_tuple_list; have f5 := PySem.AutoSeq1.sub_list_tuple;
    have hz' : (items ++ items2).size ≤ sizeLine + 1 := by rw [Array.size_append]; exact hs2
    wp_walk using (wpAny_updateSeq hl rfl (hz := hs1) (_hz' := hz')), PySem.AutoSeq1.wpAny_loadPart' hl, PySem.AutoSeq1.wpAny_loadPart' hb; exact ⟨_, rfl, h⟩
theorem list_extend_lst (l : Addr) (items : Array Value) (n : Nat) (b : Addr) (items2 : Array Value) (n2 : Nat) (dd : Option Addr) (sl : Array (Option Value)) (hs0 : ¬(!items.isEmpty && Builtin.List.listTooLong (items.size + items2.size)) = true) (hs1 : items.size ≤ sizeLine) (hs2 : items.size + items2.size ≤ sizeLine + 1) :
    Meets (Builtin.«list.extend» ⟨[.ref l, .ref b], []⟩) (fun _ R s => s.heap.get? l = some { cls := .type "list", dict := none, data := .seq items n, slots := #[] } ∧ s.heap.get? b = some { cls := .type "list", dict := dd, data := .seq items2 n2, slots := sl } ∧ R (.ok (.ret Value.none)) { s with heap := s.heap.update l (Obj.mapSeq fun x => x ++ items2), toks := s.toks }) :=
  .of_wp fun prog w A R s h => by
    obtain ⟨hp, g, d, tk, os⟩ := s; obtain ⟨hl, hb, h⟩ := h; have f1 := PySem.AutoSeq1.idx_int; have f2 := PySem.AutoSeq1.sub_tuple_tuple; have f3 := PySem.AutoSeq1.sub_list_list; have f4 := PySem.AutoSeq1.sub_tuple_list; have f5 := PySem.AutoSeq1.sub_list_tuple;
    have hz' : (items ++ items2).size ≤ sizeLine + 1 := by rw [Array.size_append]; exact hs2
    wp_walk using (wpAny_updateSeq hl rfl (hz := hs1) (_hz' := hz')), PySem.AutoSeq1.wpAny_loadPart' hl, PySem.AutoSeq1.wpAny_loadPart' hb; exact ⟨_, rfl, h⟩
noncomputable def rExtendS (K : PySem.W.Frag) : V → List V → Hp → VK → Prop := fun x vs H Q => ∃ l b xs zs, x = .ref l ∧ vs = [.ref b] ∧ H l = some (.lst xs) ∧ (SqL K H b zs ∨ SqT K H b zs) ∧ xs.length + zs.length ≤ sizeLine ∧ Q .non (upd H l (.lst (xs ++ zs)))
section
variable {X : Cx}
theorem mt_extendS : MtM X "list.extend" (rExtendS X.K) := by
  intro pins s σ H x vs v us Q I rx rv h
  obtain ⟨l, b, xs, zs, rfl, rfl, hH, hB, hz, q⟩ := h
  cases rx
  obtain ⟨u, rfl, ru⟩ := rv.one
  cases ru
  obtain ⟨z, its, n, r, hl, e⟩ := I.lstM hH
  have nl : ∀ {m k : Nat}, m + k ≤ sizeLine → ¬ (!its.toArray.isEmpty && Builtin.List.listTooLong (m + k)) = true := fun hsz => by
    rw [notLongL hsz, Bool.and_false]
    exact Bool.false_ne_true
  rcases hB with hB | hB
  · obtain ⟨its2, r2, ⟨ob, n2, hob, hc, _, hd⟩, z2⟩ := I.list hB
    have l2 := r2.length
    obtain ⟨oc, odd, odt, osl⟩ := ob
    dsimp only at hc hd
    subst hc hd
    refine call_meets F.slot_list_extend ⟨_, e, rfl⟩ F.entry_list_extend (F.args_list_extend_2 _ _)
      (list_extend_lst l its.toArray n b its2.toArray n2 odd osl (nl (by rw [List.size_toArray, List.size_toArray]; lia)) (by rw [List.size_toArray]; lia) (by rw [List.size_toArray, List.size_toArray]; lia)) ⟨e, hob, ?_⟩
    refine ⟨.non, _, I.lset (its' := its ++ its2) hH e (by simp) (r.append r2) ?_, rfl, q⟩
    rw [List.length_append]
    lia
  · obtain ⟨its2, r2, ⟨ob, hob, hc, n2, hd⟩, z2⟩ := I.tuple hB
    have l2 := r2.length
    obtain ⟨oc, odd, odt, osl⟩ := ob
    dsimp only at hc hd
    subst hc hd
    refine call_meets F.slot_list_extend ⟨_, e, rfl⟩ F.entry_list_extend (F.args_list_extend_2 _ _)
      (list_extend_tup l its.toArray n b its2.toArray n2 odd osl (nl (by rw [List.size_toArray, List.size_toArray]; lia)) (by rw [List.size_toArray]; lia) (by rw [List.size_toArray, List.size_toArray]; lia)) ⟨e, hob, ?_⟩
    refine ⟨.non, _, I.lset (its' := its ++ its2) hH e (by simp) (r.append r2) ?_, rfl, q⟩
    rw [List.length_append]
    lia
noncomputable def rEqNil (K : PySem.W.Frag) (neg : Bool) : R2 := fun x y H Q => ∃ a b xs, x = .ref a ∧ y = .ref b ∧ SqL K H a xs ∧ SqL K H b [] ∧ Q (.bl (if neg then !xs.isEmpty else xs.isEmpty)) H
theorem op_eqNil (hu : X.A.units < cLine) : OpR X (compareOp .Eq) (rEqNil X.K false) := by
  intro pins s σ H x y v u Q I rx ry h
  obtain ⟨a, b, xs, rfl, rfl, ha, hb, q⟩ := h
  cases rx
  cases ry
  obtain ⟨its, r, pl, z⟩ := I.list ha
  obtain ⟨its2, r2, pl2, z2⟩ := I.list hb
  have l1 := r.length
  have l2 := r2.length
  have e2 : its2 = [] := List.length_eq_zero_iff.mp (by rw [← l2]; rfl)
  subst e2
  cases xs with
  | nil =>
    have e1 : its = [] := List.length_eq_zero_iff.mp (by rw [← l1]; rfl)
    subst e1
    exact PySem.SeqAt.eq_listAt (e := fun _ => true) pl.isList pl2.isList rfl hu (fun j h1 _ => absurd h1 (by simp)) ⟨.bl true, H, I, rfl, q⟩
  | cons y ys =>
    refine PySem.SeqAt.eq_list_lengthsAt pl.isList pl2.isList ?_ hu ⟨.bl false, H, I, rfl, q⟩
    rw [List.size_toArray, ← l1]
    rfl
theorem op_neNil (hu : X.A.units < cLine) : OpR X (compareOp .NotEq) (rEqNil X.K true) := by
  intro pins s σ H x y v u Q I rx ry h
  obtain ⟨a, b, xs, rfl, rfl, ha, hb, q⟩ := h
  cases rx
  cases ry
  obtain ⟨its, r, pl, z⟩ := I.list ha
  obtain ⟨its2, r2, pl2, z2⟩ := I.list hb
  have l1 := r.length
  have l2 := r2.length
  have e2 : its2 = [] := List.length_eq_zero_iff.mp (by rw [← l2]; rfl)
  subst e2
  cases xs with
  | nil =>
    have e1 : its = [] := List.length_eq_zero_iff.mp (by rw [← l1]; rfl)
    subst e1
    exact PySem.SeqAt.RcNeAt.lists (e := fun _ => true) pl.isList pl2.isList rfl hu (fun j h1 _ => absurd h1 (by simp)) X.prog X.w X.xe _ ⟨.bl false, H, I, rfl, q⟩
  | cons y ys =>
    refine PySem.SeqAt.RcNeAt.lists_lengths pl.isList pl2.isList ?_ hu X.prog X.w X.xe _ ⟨.bl true, H, I, rfl, q⟩
    rw [List.size_toArray, ← l1]
    rfl
end
noncomputable def clsV : V → Option Value
  | .ty n => some (.type n)
  | .ref a => some (.ref a)
  | _ => none
noncomputable def rIsi (K : PySem.W.Frag) : List V → Hp → VK → Prop := fun xs H Q => ∃ x c t b, xs = [x, c] ∧ TyOf K H x t ∧ ((∃ cv, clsV c = some cv ∧ PySem.W.kitOne K t cv = some b) ∨ (∃ a cs cvs, c = .ref a ∧ H a = some (.tup cs) ∧ cs.map clsV = cvs.map some ∧ PySem.W.kitAny K t cvs = some b)) ∧ Q (.bl b) H
theorem vals_cls : ∀ {cs : List V} {us : List Value} {cvs : List Value}, Vals cs us → cs.map clsV = cvs.map some → us = cvs
  | [], _, [], .nil, _ => rfl
  | [], _, _ :: _, .nil, h => by simp at h
  | c :: cs, _, [], .cons _ _, h => by simp at h
  | c :: cs, _, cv :: cvs, .cons r t, h => by
    simp only [List.map_cons, List.cons.injEq] at h
    rw [vals_cls t h.2]
    cases c with
    | ty n => cases (show _ = Value.type n from r); simp only [clsV, Option.some.injEq] at h; rw [h.1]
    | ref a => cases (show _ = Value.ref a from r); simp only [clsV, Option.some.injEq] at h; rw [h.1]
    | _ => simp [clsV] at h
section
variable {X : Cx}
theorem isinst_tup {pins : List (Addr × Obj)} {σ : St} {H : Hp} {s : Shared} {A : Around} {E : Value → Shared → Prop} {Q : Value → Shared → Prop} {b : Bool} {x : V} {u t : Value} {a : Addr} {cs : List V} {cvs : List Value} (I : Inv X pins σ H s) (rx : RelV x u) (ty : TyOf X.K H x t)
    (ha : H a = some (.tup cs)) (hcs : cs.map clsV = cvs.map some) (e : PySem.W.kitAny X.K t cvs = some b) (h : ∀ tk, Q (.bool b) { s with toks := tk }) : wpAny (model X.prog X.w) A (call (.builtin "isinstance") [u, .ref a]) Q E s := by
  obtain ⟨_, its, rv, p⟩ := (show ObjOk X.prog X.w H s.heap a (.tup cs) from I.hok a _ ha)
  obtain ⟨⟨oc, odd, odt, osl⟩, h1, h2, n, h3⟩ := p
  dsimp only at h2 h3
  subst h2 h3
  have ei : its = cvs := vals_cls rv hcs
  subst ei
  cases ty with
  | non => cases (show u = Value.none from rx); exact PySem.W.kia_tup PySem.W.kitx_none I.kIn True.intro h1 e (fun z => nomatch z) h
  | bl y => cases (show u = Value.bool y from rx); exact PySem.W.kia_tup PySem.W.kitx_bool I.kIn True.intro h1 e (fun z => nomatch z) h
  | int i => obtain ⟨t, q⟩ := (show ∃ t, u = Value.int i t from rx); cases q; exact PySem.W.kia_tup PySem.W.kitx_int I.kIn True.intro h1 e (fun z => nomatch z) h
  | str y => obtain ⟨t, q⟩ := (show ∃ t, u = Value.str y t from rx); cases q; exact PySem.W.kia_tup PySem.W.kitx_str I.kIn True.intro h1 e (fun z => nomatch z) h
  | flt y => obtain ⟨t, q⟩ := (show ∃ t, u = Value.float y t from rx); cases q; exact PySem.W.kia_tup PySem.W.kitx_float I.kIn True.intro h1 e (fun z => nomatch z) h
  | @lst a xs ea =>
    cases (show u = Value.ref a from rx)
    obtain ⟨_, _, n, _, h1'⟩ := (show ObjOk X.prog X.w H s.heap a (.lst xs) from I.hok a _ ea)
    exact PySem.W.kia_tup PySem.W.kitx_list I.kIn ⟨_, h1', rfl⟩ h1 e (fun z => nomatch z) h
  | @frz a ob xs ea =>
    cases (show u = Value.ref a from rx)
    obtain ⟨_, _, _, n, _, h1'⟩ := (show ObjOk X.prog X.w H s.heap a (.frz ob (.lst xs)) from I.hok a _ ea)
    exact PySem.W.kia_tup PySem.W.kitx_list I.kIn ⟨_, h1', rfl⟩ h1 e (fun z => nomatch z) h
  | @tup a xs ea =>
    cases (show u = Value.ref a from rx)
    obtain ⟨_, _, _, p⟩ := (show ObjOk X.prog X.w H s.heap a (.tup xs) from I.hok a _ ea)
    obtain ⟨o, h1', h2, _⟩ := p
    exact PySem.W.kia_tup PySem.W.kitx_tuple I.kIn ⟨o, h1', h2⟩ h1 e (fun z => nomatch z) h
  | @dK a kvs ea =>
    cases (show u = Value.ref a from rx)
    obtain ⟨_, _, vs, _, p⟩ := (show ObjOk X.prog X.w H s.heap a (.dK kvs) from I.hok a _ ea)
    obtain ⟨o, es, ep, h1', h2, _⟩ := p
    exact PySem.W.kia_tup PySem.W.kitx_dict I.kIn ⟨o, h1', h2.1⟩ h1 e (fun z => nomatch z) h
  | @dT a kvs ea =>
    cases (show u = Value.ref a from rx)
    obtain ⟨_, _, xs, _, o, es, ep, h1', h2, _⟩ := (show ObjOk X.prog X.w H s.heap a (.dT kvs) from I.hok a _ ea)
    exact PySem.W.kia_tup PySem.W.kitx_dict I.kIn ⟨o, h1', h2.1⟩ h1 e (fun z => nomatch z) h
  | @ins a C dx fs ea cl ha hn htk hm =>
    cases (show u = Value.ref a from rx)
    obtain ⟨mA, O, _⟩ := ins_get I.hok ea
    obtain ⟨od, J, _⟩ := O.look
    exact PySem.W.kia_tup (PySem.W.kitx_own (cl.get _) cl.hd ha hn htk hm) I.kIn J h1 e (fun z => nomatch z) h
theorem call_isi : CallR X (.builtin "isinstance") (rIsi X.K) := by
  intro pins s σ H xs us Q I r h
  obtain ⟨x, c, t, b, rfl, ty, hc, q⟩ := h
  obtain ⟨u, v, rfl, ru, rv⟩ := r.two
  have fin : ∀ tk, EP X pins σ Q (.bool b) { s with toks := tk } := fun tk => ⟨.bl b, H, I.tok _, rfl, q⟩
  rcases hc with ⟨cv, e1, e2⟩ | ⟨a, cs, cvs, rfl, e1, e2, e3⟩
  · have ev : v = cv := by
      cases c with
      | ty n => cases (show v = Value.type n from rv); exact Option.some.inj e1
      | ref a => cases (show v = Value.ref a from rv); exact Option.some.inj e1
      | _ => cases e1
    subst ev
    exact isinst_ok I ru ty e2 fin
  · cases (show v = Value.ref a from rv)
    exact isinst_tup I ru ty e1 e2 e3 fin
end
end L2
namespace L2
open PySem PySem.Spec PyProof.Rows
section
variable {X : Cx}
end
end L2
namespace L2
open PySem PySem.Spec PyProof.Rows
theorem kit_ii {K : PySem.W.Frag} : PySem.W.kitOne K (.type "int") (.type "int") = some true := by rfl
theorem kit_ib {K : PySem.W.Frag} : PySem.W.kitOne K (.type "int") (.type "bool") = some false := by kernel_rfl
theorem kit_ss {K : PySem.W.Frag} : PySem.W.kitOne K (.type "str") (.type "str") = some true := by rfl
theorem kit_is {K : PySem.W.Frag} : PySem.W.kitOne K (.type "int") (.type "str") = some false := by kernel_rfl
theorem kit_ll {K : PySem.W.Frag} : PySem.W.kitOne K (.type "list") (.type "list") = some true := by rfl
theorem kit_tl {K : PySem.W.Frag} : PySem.W.kitOne K (.type "tuple") (.type "list") = some false := by kernel_rfl
theorem kit_lt {K : PySem.W.Frag} : PySem.W.kitOne K (.type "list") (.type "tuple") = some false := by kernel_rfl
theorem kit_tt {K : PySem.W.Frag} : PySem.W.kitOne K (.type "tuple") (.type "tuple") = some true := by rfl
theorem kit_al {K : PySem.W.Frag} : PySem.W.kitAny K (.type "list") [.type "list", .type "tuple"] = some true := by kernel_rfl
theorem kit_at {K : PySem.W.Frag} : PySem.W.kitAny K (.type "tuple") [.type "list", .type "tuple"] = some true := by kernel_rfl
theorem kit_ai {K : PySem.W.Frag} : PySem.W.kitAny K (.type "int") [.type "list", .type "tuple"] = some false := by kernel_rfl
theorem kit_as {K : PySem.W.Frag} : PySem.W.kitAny K (.type "str") [.type "list", .type "tuple"] = some false := by kernel_rfl
theorem kit_an {K : PySem.W.Frag} : PySem.W.kitAny K (.type "NoneType") [.type "list", .type "tuple"] = some false := by kernel_rfl
end L2
namespace L2
open PySem PySem.Spec PyProof.Rows
section
variable {prog : Program} {w : World} {A : Around} {E : Value → Shared → Prop} {h : Heap} {g : Array GenState} {d : Drawn} {t : Nat} {os : OsState} {a : Addr} {o : Obj}
  {nm q : Str} {C N : Addr} {bs bm bmB : List Value} {hdct : Bool} {sn : List Str} {sub : List Value} {ab : Bool} {col : Option Bool} {dd : Option Addr} {k0 k1 k2 k3 k5 : Option Value} {B newId : String} {mN : Str → Option Value}
end
end L2
namespace L2
open PySem PySem.Spec PyProof.Rows
section
variable {X : Cx} {pins : List (Addr × Obj)} {σ : List (Option V)} {H : Hp} {s : Shared} {h' : Heap}
theorem Inv.turnedTup {t' : Nat} {e it p : Addr} {vs : List V} (I : Inv X pins σ H s) (k : ∀ b o, b ≠ e → b ≠ it → s.heap.get? b = some o → h'.get? b = some o) (fe : FpOk X pins H e) (fi : FpOk X pins H it) (hp : s.heap.objs.size ≤ p)
    (new : ObjOk X.prog X.w (upd H p (.tup vs)) h' p (.tup vs)) : Inv X pins σ (upd H p (.tup vs)) { s with heap := h', toks := t' } := by
  have ne : ∀ b u, H b = some u → b ≠ e := fun b u q z => by rw [z, fe.1] at q; cases q
  have ni : ∀ b u, H b = some u → b ≠ it := fun b u q z => by rw [z, fi.1] at q; cases q
  have hn : H p = none := I.hok.fresh hp
  have kc : ∀ b o, b ∉ [e, it] → s.heap.get? b = some o → h'.get? b = some o := fun b o hc q => k b o (fun z => hc (by simp [z])) (fun z => hc (by simp [z])) q
  have old : ∀ b u, H b = some u → upd H p (.tup vs) b = some u := fun b u q => by rw [upd_ne (ne_of_none q hn)]; exact q
  refine I.step (g' := s.gens) (d' := s.drawn) (ch := [e, it]) (fun b hb => ?_) (fun b o _ _ hc q _ => kc b o hc q) (fun b o _ _ hc q _ => ⟨o.slots, kc b o hc q⟩) (fun b o _ q n => ?_)
    (fun b o hc q => ⟨o, kc b o hc q⟩) (fun b xs q => old b _ q) (fun b o u q => old b _ q) (fun b ps q => ⟨#[], by rw [old b _ q]; simp⟩) (fun m hm => ?_) (fun b u q => ?_) I.bare
  · rcases List.mem_cons.mp hb with z | z
    · subst z; exact ⟨fe.2.2.2.1, fe.2.1, fe.2.2.2.2.1, fe.2.2.2.2.2⟩
    · have z' : b = it := by simpa using z
      subst z'; exact ⟨fi.2.2.2.1, fi.2.1, fi.2.2.2.2.1, fi.2.2.2.2.2⟩
  · rw [upd_ne (Nat.ne_of_lt (Nat.lt_of_lt_of_le (Heap.lt_size q) hp))]; exact n
  · obtain ⟨o, es, ep, ho, r⟩ := hm
    exact ⟨o, es, ep, k _ o (Ne.symm fe.2.1) (Ne.symm fi.2.1) ho, r⟩
  · by_cases hb : b = p
    · subst hb; rw [upd_same] at q; cases q; exact new
    · rw [upd_ne hb] at q
      refine (I.hok b u q).stay (fun c v hc r => ?_) (fun c r => old c _ r) fun c xs r => old c _ r
      rcases hc with z | z
      · rw [z] at r ⊢; exact k b v (ne b u q) (ni b u q) r
      · exact k c v (ne c _ z) (ni c _ z) r
theorem Inv.turned2 {t' : Nat} {e it : Addr} (I : Inv X pins σ H s) (k : ∀ b o, b ≠ e → b ≠ it → s.heap.get? b = some o → h'.get? b = some o) (fe : FpOk X pins H e) (fi : FpOk X pins H it) : Inv X pins σ H { s with heap := h', toks := t' } := by
  have ne : ∀ b u, H b = some u → b ≠ e := fun b u q z => by rw [z, fe.1] at q; cases q
  have ni : ∀ b u, H b = some u → b ≠ it := fun b u q z => by rw [z, fi.1] at q; cases q
  have kc : ∀ b o, b ∉ [e, it] → s.heap.get? b = some o → h'.get? b = some o := fun b o hc q => k b o (fun z => hc (by simp [z])) (fun z => hc (by simp [z])) q
  refine I.step (g' := s.gens) (d' := s.drawn) (ch := [e, it]) (fun b hb => ?_) (fun b o _ _ hc q _ => kc b o hc q) (fun b o _ _ hc q _ => ⟨o.slots, kc b o hc q⟩) (fun _ _ _ _ n => n)
    (fun b o hc q => ⟨o, kc b o hc q⟩) (fun _ _ q => q) (fun _ _ _ q => q) (fun b ps q => ⟨#[], by rw [q]; simp⟩) (fun m hm => ?_) (fun b u q => ?_) I.bare
  · rcases List.mem_cons.mp hb with z | z
    · subst z; exact ⟨fe.2.2.2.1, fe.2.1, fe.2.2.2.2.1, fe.2.2.2.2.2⟩
    · have z' : b = it := by simpa using z
      subst z'; exact ⟨fi.2.2.2.1, fi.2.1, fi.2.2.2.2.1, fi.2.2.2.2.2⟩
  · obtain ⟨o, es, ep, ho, r⟩ := hm
    exact ⟨o, es, ep, k _ o (Ne.symm fe.2.1) (Ne.symm fi.2.1) ho, r⟩
  · refine (I.hok b u q).stay (fun c v hc r => ?_) (fun _ q => q) fun _ _ q => q
    rcases hc with z | z
    · rw [z] at r ⊢; exact k b v (ne b u q) (ni b u q) r
    · exact k c v (ne c _ z) (ni c _ z) r
end
noncomputable def Ite (K : PySem.W.Frag) (a : Addr) : It :=
  ⟨fun i H => ∃ xs x, SqL K H a xs ∧ xs[i]? = some x, fun i H x H' => ∃ p, H p = none ∧ x = .ref p ∧ ∃ y, (∀ xs, SqL K H a xs → xs[i]? = some y) ∧ H' = upd H p (.tup [.int i, y]), fun i H => ∃ xs, SqL K H a xs ∧ xs.length ≤ i⟩
theorem turn_enum {P : Program} {w : World} {K : PySem.W.Frag} {elts : List Expr} {x1} {pos : Pos} (a e it : Addr) (hne : e ≠ it) : Turn P w K (.Tuple elts x1 pos) (Ite K a) [e, it] e (fun i h => (∃ old, IsEnum h e it (i : Nat) old) ∧ h.IsListIter it a i) where
  mem := by simp
  obj := fun i h st b hb => by
    obtain ⟨⟨old, he⟩, o, ho, c, d⟩ := st
    rcases List.mem_cons.mp hb with z | z
    · subst z; exact ⟨_, he, fun v z => by cases z⟩
    · have z' : b = it := by simpa using z
      subst z'; exact ⟨o, ho, fun v z => by rw [d] at z; cases z⟩
  keep := fun i h h' st k => ⟨st.1.elim fun old he => ⟨old, k e (by simp) _ he⟩, st.2.at fun o q => k it (by simp) o q⟩
  item := by
    intro X hP hw hK hc i pins s σ H E I hf st hg
    subst hP hw hK
    obtain ⟨xs, x, hq, hx⟩ := hg
    obtain ⟨⟨old, he⟩, hit⟩ := st
    obtain ⟨its, rv, p, hz⟩ := I.list hq
    obtain ⟨u, hu, ru⟩ := rv.get hx
    have fe := hf e (by simp)
    have fi := hf it (by simp)
    have hes : e < s.heap.objs.size := Heap.lt_size he
    have his : it < s.heap.objs.size := by obtain ⟨o, ho, _⟩ := hit; exact Heap.lt_size ho
    refine wpAny_pyNext_enum_item he hit p.isList (x := u) (by simpa using hu) hne fun h1 heo hit1 ht1 hz1 hk1 => ?_
    refine ⟨_, rfl, wpAny_letOwnedTupleGo_enum heo fun h2 he2 hs2 => ?_⟩
    have hs2' : Heap.SameBut e h1 h2 := hs2
    have ht2 : h2.get? s.heap.objs.size = some { cls := .type "tuple", data := .seq #[.int i s.toks, u] } := (hs2'.2 _ (Nat.ne_of_gt hes)).trans ht1
    have I2 : Inv X pins σ (upd H s.heap.objs.size (.tup [.int i, x])) { s with heap := h2, toks := s.toks + 1 } := by
      refine I.turnedTup (fun b o h3 h4 q => (hs2'.2 b h3).trans (hk1 b o h3 h4 q)) fe fi (Nat.le_refl _) ?_
      exact ⟨(by show 2 ≤ sizeLine; decide), [.int i s.toks, u], .cons ⟨_, rfl⟩ (.cons ru .nil), ⟨_, ht2, rfl, _, rfl⟩⟩
    have hn := I.fresh
    refine ⟨.ref s.heap.objs.size, _, I2, rfl, ⟨s.heap.objs.size, hn, rfl, x, fun ys hy => by rw [I.list_inj hy hq]; exact hx, rfl⟩, ⟨⟨u, ?_⟩, ?_⟩, fun b hb => ?_⟩
    · have z : ((i + 1 : Nat) : Int) = (i : Int) + 1 := by push_cast; rfl
      rw [z]; exact he2
    · exact hit1.extBut hs2'.extBut (Ne.symm hne)
    · rw [upd_ne]
      · exact (hf b hb).1
      · rcases List.mem_cons.mp hb with z | z
        · subst z; exact Nat.ne_of_lt hes
        · have z' : b = it := by simpa using z
          subst z'; exact Nat.ne_of_lt his
  done := by
    intro X hP hw hK hc i pins s σ H E I hf st hg
    subst hP hw hK
    obtain ⟨xs, hq, hx⟩ := hg
    obtain ⟨⟨old, he⟩, hit⟩ := st
    obtain ⟨its, rv, p, hz⟩ := I.list hq
    have hl := rv.length
    exact wpAny_pyNext_enum_end (I.ok.hd hc) he hit p.isList (by simp; lia) fun h' eb => ⟨rfl, I.turned2 (t' := s.toks) (fun b o _ h2 q => eb b o h2 q) (hf e (by simp)) (hf it (by simp))⟩
  self := fun _ _ _ _ _ st h => st.1.elim fun _ he => wpAny_pyIter_enum he h
section
variable {X : Cx}
noncomputable def iEnum (K : PySem.W.Frag) (tl : TA) : TI := fun σ H R => tl σ H fun vs H1 => ∃ a, vs = [.ref a] ∧ (∃ xs, SqL K H1 a xs) ∧ R (Ite K a) H1
theorem pi_enum {elts : List Expr} {x1} {tpos : Pos} {a : Expr} {ta : TA} {p pos : Pos} (hg : Gl X "enumerate") (hm : X.mg "enumerate" = none) (ha : PA X [a] ta) (hs : starEach [a] X.env = [(false, eval a X.env)] := by rfl) :
    PI X (.Tuple elts x1 tpos) (.Call (.Name "enumerate" p) [a] [] pos) (iEnum X.K ta) := by
  intro pins s σ H R I h
  refine Call_ (ld_blt I hg hm PyProof.Rows.Boot.«enumerate» (PyProof.Rows.callWith_type1 (thn (ha pos pins s σ H _ I h) fun us s1 hz => ex5 hz fun vs H1 I1 r1 q1 => ?_) hs rfl))
  obtain ⟨l, e, ⟨xs, hq⟩, q⟩ := q1
  subst e
  cases r1 with
  | cons r rr =>
    cases rr
    cases r
    obtain ⟨its, rv, pl, hz⟩ := I1.list hq
    refine call_enumerate_list pl.isList fun h2 he hit hsz hk => ?_
    refine wpAny_pyIter_enum he ?_
    have hne : s1.heap.objs.size + 1 ≠ s1.heap.objs.size := Nat.succ_ne_self _
    refine ⟨s1.heap.objs.size + 1, [s1.heap.objs.size + 1, s1.heap.objs.size], _, _, H1, rfl, I1.kept (t' := s1.toks) hk, turn_enum l _ _ hne, ⟨⟨_, he⟩, hit⟩, fun b hb => ?_, q⟩
    rcases List.mem_cons.mp hb with z | z
    · subst z; exact I1.fpOk (Nat.le_succ _) (I1.hok.fresh (Nat.le_succ _))
    · have z' : b = s1.heap.objs.size := by simpa using z
      subst z'; exact I1.fpOk (Nat.le_refl _) (I1.hok.fresh (Nat.le_refl _))
end
theorem comp_enum {K : PySem.W.Frag} {a acc : Addr} {xs : List V} {g : TG} {tc : TT} {te : TE} {σ : St} {H1 : Hp} {Q : VK} (Pv : Nat → List V → St → Hp → Prop) (h0 : Pv 0 [] σ (upd H1 acc (.lst [])))
    (hl : ∀ i zs σ H, i ≤ xs.length → Pv i zs σ H → SqL K H a xs ∧ H acc = some (.lst zs))
    (hs : ∀ i x zs σ H p, xs[i]? = some x → i < xs.length → Pv i zs σ H → H p = none → g (.ref p) σ (upd H p (.tup [.int i, x])) fun σ4 H4 => tc σ4 H4 fun b H5 => if b = true then te σ4 H5 (CStep xs.length acc Pv i zs σ4) else CSkip xs.length Pv i zs σ4 H5)
    (hd : ∀ zs σ H, Pv xs.length zs σ H → Q (.ref acc) H) : CompGo (Ite K a) g tc te σ acc H1 Q := by
  refine ⟨fun i m zs σ H => m = xs.length - i ∧ i ≤ xs.length ∧ Pv i zs σ H, ⟨_, rfl, Nat.zero_le _, h0⟩, ?_⟩
  rintro i m zs σ H2 ⟨rfl, hi, p⟩
  obtain ⟨q, ha⟩ := hl i zs σ H2 hi p
  refine ⟨ha, ?_⟩
  by_cases hlt : i < xs.length
  · refine .inr ⟨⟨xs, xs[i], q, by simp [hlt]⟩, fun y H3 yl => ?_⟩
    obtain ⟨b, hb, e, x, hx, e3⟩ := yl
    subst e e3
    exact hs i x zs σ _ b (hx xs q) hlt p hb
  · have e : i = xs.length := by lia
    subst e
    exact .inl ⟨⟨xs, q, Nat.le_refl _⟩, hd zs σ H2 p⟩
end L2
namespace K07
open PySem L2
inductive Rt where
  | no | rd | wr
  deriving DecidableEq
noncomputable def Rt.s : Rt → Str
  | .no => "none"
  | .rd => "read"
  | .wr => "write"
noncomputable def Rt.k : Rt → Int
  | .no => 0
  | .rd => 1
  | .wr => 2
theorem Rt.s_inj : ∀ {a b : Rt}, a.s = b.s → a = b
  | .no, .no, _ => rfl
  | .no, .rd, h => absurd h (by decide +kernel)
  | .no, .wr, h => absurd h (by decide +kernel)
  | .rd, .no, h => absurd h (by decide +kernel)
  | .rd, .rd, _ => rfl
  | .rd, .wr, h => absurd h (by decide +kernel)
  | .wr, .no, h => absurd h (by decide +kernel)
  | .wr, .rd, h => absurd h (by decide +kernel)
  | .wr, .wr, _ => rfl
theorem rt_ne {r q : Rt} {x : Str} (e : x = q.s) (h : r ≠ q) : decide (V.str r.s = V.str x) = false := decide_eq_false fun z => h (Rt.s_inj ((V.str.inj z).trans e))
theorem iteFb {c : Bool} {A B : Prop} (h : c = false) (hb : B) : if c = true then A else B := by rw [h]; exact iteF hb
theorem iteTb {c : Bool} {A B : Prop} (h : c = true) (ha : A) : if c = true then A else B := by rw [h]; exact iteT ha
inductive W where
  | look (p : Int) | put (p n : Int)
noncomputable def W.pg : W → Int
  | .look p => p
  | .put p _ => p
noncomputable def W.need : W → Rt
  | .look _ => .rd
  | .put _ _ => .wr
noncomputable def W.tag : W → Str
  | .look _ => "look"
  | .put _ _ => "put"
noncomputable def W.vs : W → List V
  | .look p => [.str "look", .int p]
  | .put p n => [.str "put", .int p, .int n]
structure DS where
  rt : Int → Rt
  nm : Int → Int
  ws : Option W
noncomputable def DS.hold (S : DS) (p : Int) (r : Rt) (n : Int) : DS := { S with rt := fun q => if q = p then r else S.rt q, nm := fun q => if q = p then n else S.nm q }
theorem DS.hold_rt (S : DS) (p : Int) (r : Rt) (n : Int) : (S.hold p r n).rt p = r := by unfold DS.hold; dsimp only; rw [if_pos rfl]
noncomputable def DS.ok (S : DS) (w : W) : Prop := w.need.k ≤ (S.rt w.pg).k
noncomputable instance (S : DS) (w : W) : Decidable (S.ok w) := inferInstanceAs (Decidable (_ ≤ _))
noncomputable def DS.done (S : DS) : W → DS
  | .look _ => S
  | .put p n => S.hold p (S.rt p) n
noncomputable def DS.num (S : DS) : W → Int
  | .look p => S.nm p
  | .put _ n => n
noncomputable def WishAt (H : Hp) (v : V) : Option W → Prop
  | none => v = .non
  | some w => ∃ a, v = .ref a ∧ H a = some (.tup w.vs)
theorem WishAt.tmono {H H' : Hp} (h : TupSame H H') {v : V} {o : Option W} (w : WishAt H v o) : WishAt H' v o := by
  cases o with
  | none => exact w
  | some w' =>
    obtain ⟨a, e, ha⟩ := w
    exact ⟨a, e, h a _ ha⟩
theorem same_new {H : Hp} {a : Addr} {o : HO} (h : H a = none) : Same H (upd H a o) := fun b u e => by rw [upd_ne (ne_of_none e h)]; exact e
inductive Let where
  | lend (p : Int) (r : Rt) (n : Int) | back (p : Int) (r : Rt)
noncomputable def Let.vs : Let → List V
  | .lend p r n => [.str "lend", .int p, .str r.s, .int n]
  | .back p r => [.str "back", .int p, .str r.s]
noncomputable def Let.d : Let → D
  | .lend p r n => .t [.s "lend", .i p, .s r.s, .i n]
  | .back p r => .t [.s "back", .i p, .s r.s]
noncomputable def DS.down (S : DS) (p : Int) (r : Rt) : DS := if (S.rt p).k ≤ r.k then S else S.hold p r (S.nm p)
noncomputable def spTup (tag : Str) : Sp := fun vs H Q _ => ∃ x y, vs = [x, y] ∧ ∀ a, H a = none → Q (.ref a) (upd H a (.tup [.str tag, x, y]))
end K07
namespace K07
open PySem L2
noncomputable def setf {α : Type} (f : Nat → α) (i : Nat) (v : α) : Nat → α := fun j => if j = i then v else f j
theorem setf_same {α : Type} (f : Nat → α) (i : Nat) (v : α) : setf f i v i = v := by simp [setf]
theorem setf_ne {α : Type} (f : Nat → α) {i j : Nat} (v : α) (h : j ≠ i) : setf f i v j = f j := by simp [setf, h]
theorem setf_eq {α : Type} (f : Nat → α) (i : Nat) : setf f i (f i) = f := by funext j; unfold setf; split <;> simp_all
theorem setf_setf {α : Type} (f : Nat → α) (i : Nat) (v w : α) : setf (setf f i v) i w = setf f i w := by funext j; unfold setf; split <;> rfl
inductive UL where
  | ask (p : Nat) (r : Rt) | ans (p : Nat) (o : Option Int) | gave (p : Nat) (n : Int)
noncomputable def oV : Option Int → V
  | none => .non
  | some k => .int k
noncomputable def oD : Option Int → D
  | none => .n
  | some k => .i k
noncomputable def UL.vs : UL → List V
  | .ask p r => [.str "ask", .int p, .str r.s]
  | .ans p o => [.str "answer", .int p, oV o]
  | .gave p n => [.str "gave", .int p, .int n]
noncomputable def UL.d : UL → D
  | .ask p r => .t [.s "ask", .i p, .s r.s]
  | .ans p o => .t [.s "answer", .i p, oD o]
  | .gave p n => .t [.s "gave", .i p, .i n]
noncomputable def UL.pg : UL → Nat
  | .ask p _ => p
  | .ans p _ => p
  | .gave p _ => p
structure PG where
  num : Int
  wr : Option Nat
  rd : List Nat
  ask : List (Nat × Rt)
  miss : Int
noncomputable def low (r : Rt) : Rt := if r = .rd then .rd else .no
noncomputable def wBids (g : PG) (p a : Nat) (r : Rt) : List (Nat × Let) := match g.wr with
  | some w => if w = a then [] else [(w, .back p (low r))]
  | none => []
noncomputable def rBids (g : PG) (p a : Nat) (r : Rt) : List (Nat × Let) := if r = .wr then (g.rd.filter fun d => decide (d ≠ a)).map fun d => (d, .back p .no) else []
noncomputable def PG.bids (g : PG) (p : Nat) : List (Nat × Let) := match g.ask with
  | [] => []
  | (a, r) :: _ => wBids g p a r ++ rBids g p a r
noncomputable def letRead (g : PG) (a : Nat) : PG := { g with wr := none, rd := if a ∈ g.rd ++ g.wr.toList then g.rd ++ g.wr.toList else g.rd ++ g.wr.toList ++ [a] }
noncomputable def letWrite (g : PG) (a : Nat) : PG := { g with wr := some a, rd := [] }
noncomputable def PG.lent (g : PG) : PG := match g.ask with
  | [] => g
  | (a, r) :: q => if r = .wr then letWrite { g with ask := q } a else letRead { g with ask := q } a
noncomputable def PG.lend1 (g : PG) (p : Nat) : List (Nat × Let) := match g.ask with
  | [] => []
  | (a, r) :: _ => [(a, .lend p r g.num)]
theorem PG.lent_len (g : PG) : g.lent.ask.length = g.ask.length - 1 := by
  unfold PG.lent
  cases h : g.ask with
  | nil => simp [h]
  | cons x q => obtain ⟨a, r⟩ := x; dsimp only; split <;> simp [letWrite, letRead]
noncomputable def serveN : Nat → PG → Nat → PG × List (Nat × Let)
  | 0, g, _ => (g, [])
  | k + 1, g, p => if (g.bids p).isEmpty then ((serveN k g.lent p).1, g.lend1 p ++ (serveN k g.lent p).2) else ({ g with miss := (g.bids p).length }, g.bids p)
noncomputable def PG.serve (g : PG) (p : Nat) : PG × List (Nat × Let) := serveN g.ask.length g p
theorem serve_nil {g : PG} {p : Nat} (h : g.ask = []) : g.serve p = (g, []) := by unfold PG.serve; rw [h]; rfl
theorem serve_lend {g : PG} {p : Nat} (h : g.ask ≠ []) (hb : g.bids p = []) : g.serve p = ((g.lent.serve p).1, g.lend1 p ++ (g.lent.serve p).2) := by
  unfold PG.serve
  rw [PG.lent_len]
  cases h' : g.ask with
  | nil => exact absurd h' h
  | cons x q => rw [List.length_cons, serveN, hb, if_pos (by rfl)]; rfl
theorem serve_bid {g : PG} {p : Nat} (h : g.ask ≠ []) (hb : g.bids p ≠ []) : g.serve p = ({ g with miss := (g.bids p).length }, g.bids p) := by
  unfold PG.serve
  cases h' : g.ask with
  | nil => exact absurd h' h
  | cons x q => rw [List.length_cons, serveN, if_neg (by simpa using hb), h']
noncomputable def PG.take (g : PG) (p d : Nat) : UL → PG × List (Nat × Let)
  | .ask _ r => if g.ask = [] then PG.serve { g with ask := [(d, r)] } p else ({ g with ask := g.ask ++ [(d, r)] }, [])
  | .ans _ o => if g.miss - 1 = 0 then
      ((PG.serve (PG.lent { g with num := o.getD g.num, miss := g.miss - 1 }) p).1, PG.lend1 { g with num := o.getD g.num, miss := g.miss - 1 } p ++ (PG.serve (PG.lent { g with num := o.getD g.num, miss := g.miss - 1 }) p).2)
    else ({ g with num := o.getD g.num, miss := g.miss - 1 }, [])
  | .gave _ n => ({ g with num := n, wr := if g.wr = some d then none else g.wr }, [])
noncomputable def post (dn : Nat → List Let) (ls : List (Nat × Let)) : Nat → List Let := ls.foldl (fun f q => setf f q.1 (f q.1 ++ [q.2])) dn
theorem post_append (dn : Nat → List Let) (a b : List (Nat × Let)) : post dn (a ++ b) = post (post dn a) b := by unfold post; rw [List.foldl_append]
theorem post_cons (dn : Nat → List Let) (x : Nat × Let) (b : List (Nat × Let)) : post dn (x :: b) = post (setf dn x.1 (dn x.1 ++ [x.2])) b := rfl
theorem post_snoc (dn : Nat → List Let) (a : List (Nat × Let)) (x : Nat × Let) : post dn (a ++ [x]) = setf (post dn a) x.1 (post dn a x.1 ++ [x.2]) := by rw [post_append]; rfl
theorem post_len (dn : Nat → List Let) (ls : List (Nat × Let)) (x : Nat) : (post dn ls x).length ≤ (dn x).length + ls.length := by
  induction ls generalizing dn with
  | nil => exact Nat.le_refl _
  | cons q r ih =>
    rw [post_cons]
    refine Nat.le_trans (ih _) ?_
    rw [List.length_cons]
    by_cases e : x = q.1
    · rw [e, setf_same, List.length_append]; simp; lia
    · rw [setf_ne _ _ e]; lia
noncomputable abbrev Ev := Bool × Int × Int
noncomputable def evTag (b : Bool) : Str := if b then "put" else "look"
noncomputable def W.isPut : W → Bool
  | .look _ => false
  | .put _ _ => true
theorem W.tag_ev (w : W) : w.tag = evTag w.isPut := by cases w <;> rfl
structure RE where
  put : Bool
  dk : Nat
  pg : Int
  num : Int
noncomputable def RE.d (e : RE) : D := .t [.s (evTag e.put), .i e.dk, .i e.pg, .i e.num]
structure TS where
  ds : Nat → DS
  pg : Nat → PG
  up : Nat → List UL
  dn : Nat → List Let
  row : List RE
noncomputable def DS.wantR (S : DS) (w : W) (p : Nat) : DS × List Ev × List UL := if S.ok w then (S.done w, [(w.isPut, w.pg, S.num w)], []) else ({ S with ws := some w }, [], [.ask p w.need])
noncomputable def DS.loanR (S : DS) (p : Int) (r : Rt) (n : Int) : DS × List Ev :=
  match S.ws with
  | none => (S.hold p r n, [])
  | some w => if w.pg = p ∧ (S.hold p r n).ok w then (({ S.hold p r n with ws := none } : DS).done w, [(w.isPut, w.pg, (S.hold p r n).num w)]) else (S.hold p r n, [])
noncomputable def DS.tellO (S : DS) (p : Int) : Option Int := if S.rt p = .wr then some (S.nm p) else none
noncomputable def Let.pg : Let → Int
  | .lend p _ _ => p
  | .back p _ => p
noncomputable def DS.takeR (S : DS) : Let → DS × List Ev × List UL
  | .lend p r n => ((S.loanR p r n).1, (S.loanR p r n).2, [])
  | .back p r => (S.down p r, [], [.ans p.toNat (S.tellO p)])
noncomputable def addRow (row : List RE) (d : Nat) (es : List Ev) : List RE := row ++ es.map fun e => ⟨e.1, d, e.2.1, e.2.2⟩
noncomputable def TS.desk (S : TS) (d : Nat) (z : DS × List Ev × List UL) : TS := { S with ds := setf S.ds d z.1, up := setf S.up d (S.up d ++ z.2.2), row := addRow S.row d z.2.1 }
noncomputable def TS.doUp (S : TS) (d : Nat) (l : UL) (r : List UL) : TS := { S with up := setf S.up d r, pg := setf S.pg l.pg ((S.pg l.pg).take l.pg d l).1, dn := post S.dn ((S.pg l.pg).take l.pg d l).2 }
noncomputable def TS.doDn (S : TS) (d : Nat) (l : Let) (r : List Let) : TS := TS.desk { S with dn := setf S.dn d r } d ((S.ds d).takeR l)
noncomputable def TS.doRest (S : TS) (d : Nat) (p : Nat) : TS := TS.desk S d ((S.ds d).hold p .no ((S.ds d).nm p), [], if (S.ds d).rt p = .wr then [.gave p ((S.ds d).nm p)] else [])
inductive Deed where
  | look (d p : Int) | put (d p n : Int) | rest (d p : Int) | up (d : Int) | down (d : Int)
noncomputable def Deed.vs : Deed → List V
  | .look d p => [.str "look", .int d, .int p]
  | .put d p n => [.str "put", .int d, .int p, .int n]
  | .rest d p => [.str "rest", .int d, .int p]
  | .up d => [.str "up", .int d]
  | .down d => [.str "down", .int d]
noncomputable def Deed.d : Deed → D
  | .look d p => .t [.s "look", .i d, .i p]
  | .put d p n => .t [.s "put", .i d, .i p, .i n]
  | .rest d p => .t [.s "rest", .i d, .i p]
  | .up d => .t [.s "up", .i d]
  | .down d => .t [.s "down", .i d]
noncomputable def TS.wish (S : TS) (d p : Nat) (w : W) (told : D) : TS × D := match (S.ds d).ws with
  | some _ => (S, .s "waiting")
  | none => (S.desk d ((S.ds d).wantR w p), if (S.ds d).ok w then told else .s "waits")
noncomputable def TS.upD (S : TS) (d : Nat) : TS × D := match S.up d with
  | [] => (S, .s "no letter")
  | l :: r => (S.doUp d l r, l.d)
noncomputable def TS.downD (S : TS) (d : Nat) : TS × D := match S.dn d with
  | [] => (S, .s "no letter")
  | l :: r => (S.doDn d l r, l.d)
noncomputable def inR (d : Int) (n : Nat) : Prop := 0 ≤ d ∧ d < n
noncomputable instance (d : Int) (n : Nat) : Decidable (inR d n) := inferInstanceAs (Decidable (_ ∧ _))
noncomputable def TS.step (n m : Nat) (S : TS) : Deed → TS × D
  | .up d => if inR d n then S.upD d.toNat else (S, .s "no desk")
  | .down d => if inR d n then S.downD d.toNat else (S, .s "no desk")
  | .rest d p => if inR d n then (if inR p m then (if (S.ds d.toNat).rt p = .no then (S, .s "no copy") else (S.doRest d.toNat p.toNat, .s "done")) else (S, .s "no page")) else (S, .s "no desk")
  | .look d p => if inR d n then (if inR p m then S.wish d.toNat p.toNat (.look p) (.i ((S.ds d.toNat).nm p)) else (S, .s "no page")) else (S, .s "no desk")
  | .put d p x => if inR d n then (if inR p m then S.wish d.toNat p.toNat (.put p x) (.s "done") else (S, .s "no page")) else (S, .s "no desk")
end K07
namespace K07
open PySem L2
theorem seq_via {A B : L2.TS} {D : Ends} {σ : St} {H : Hp} (R : St → Hp → Prop) (ha : ∀ N : St → Hp → Prop, (∀ σ' H', R σ' H' → N σ' H') → A { D with nx := N } σ H) (hb : ∀ σ' H', R σ' H' → B D σ' H') : tSeq A B D σ H := ha _ hb
noncomputable def nV (d : Nat) : V := .int d
theorem same_tup {H H' : Hp} (h : Same H H') : TupSame H H' := fun b xs e => h b _ e
theorem same_upd {H H1 : Hp} {l : Addr} {o : HO} (h : Same H H1) (hn : H l = none) : Same H (upd H1 l o) := fun b u e => by rw [upd_ne (ne_of_none e hn)]; exact h b u e
theorem tup_lst {H : Hp} {l : Addr} {us vs : List V} (h : H l = some (.lst us)) : TupSame H (upd H l (.lst vs)) := fun b xs e => by rw [upd_ne (ne_of e h (by intro z; cases z))]; exact e
theorem six0 {α : Type} (x : α) (xs : List α) : seqIndex? 0 (x :: xs).length = some 0 := by simp [seqIndex?]
theorem vs_ne {a b : Str} (h : a ≠ b) : decide (V.str a = V.str b) = false := decide_eq_false fun z => h (V.str.inj z)
theorem vs_eq {a : Str} : decide (V.str a = V.str a) = true := decide_eq_true rfl
noncomputable def askD (x : Nat × Rt) : D := .t [.i x.1, .s x.2.s]
noncomputable def pairD (x : Nat × Let) : D := .t [.i x.1, x.2.d]
noncomputable def wrV : Option Nat → V
  | none => .non
  | some w => .int w
noncomputable def pfl (p : Nat) (g : PG) (r q : Addr) : List (Str × V) := [("page", .int p), ("number", .int g.num), ("writer", wrV g.wr), ("readers", .ref r), ("asked", .ref q), ("awaited", .int g.miss)]
section
variable {p : Nat} {g : PG} {r q : Addr}
theorem pfl_init {n : Int} : putF "awaited" (.int 0) (putF "asked" (.ref q) (putF "readers" (.ref r) (putF "writer" .non (putF "number" (.int n) (putF "page" (.int p) []))))) = pfl p ⟨n, none, [], [], 0⟩ r q := by kernel_rfl
theorem pfl_num {n : Int} : putF "number" (.int n) (pfl p g r q) = pfl p { g with num := n } r q := by kernel_rfl
theorem pfl_wrN : putF "writer" .non (pfl p g r q) = pfl p { g with wr := none } r q := by kernel_rfl
theorem pfl_wrS {d : Nat} : putF "writer" (.int d) (pfl p g r q) = pfl p { g with wr := some d } r q := by kernel_rfl
theorem pfl_rd {r' : Addr} {l : List Nat} : putF "readers" (.ref r') (pfl p g r q) = pfl p { g with rd := l } r' q := by kernel_rfl
theorem pfl_miss {k : Int} : putF "awaited" (.int k) (pfl p g r q) = pfl p { g with miss := k } r q := by kernel_rfl
theorem pfl_page : (pfl p g r q).lookup ("page" : Str) = some (.int p) := by kernel_rfl
theorem pfl_number : (pfl p g r q).lookup ("number" : Str) = some (.int g.num) := by kernel_rfl
theorem pfl_writer : (pfl p g r q).lookup ("writer" : Str) = some (wrV g.wr) := by kernel_rfl
theorem pfl_readers : (pfl p g r q).lookup ("readers" : Str) = some (.ref r) := by kernel_rfl
theorem pfl_asked : (pfl p g r q).lookup ("asked" : Str) = some (.ref q) := by kernel_rfl
theorem pfl_awaited : (pfl p g r q).lookup ("awaited" : Str) = some (.int g.miss) := by kernel_rfl
theorem pfl_len : (pfl p g r q).length < 1000 := by show 6 < 1000; decide
theorem pfl_serve : (pfl p g r q).lookup ("serve" : Str) = none := by kernel_rfl
theorem pfl_lend : (pfl p g r q).lookup ("lend" : Str) = none := by kernel_rfl
theorem pfl_bids : (pfl p g r q).lookup ("bids_for_first" : Str) = none := by kernel_rfl
theorem pfl_lw : (pfl p g r q).lookup ("let_write" : Str) = none := by kernel_rfl
theorem pfl_lr : (pfl p g r q).lookup ("let_read" : Str) = none := by kernel_rfl
theorem pfl_ta : (pfl p g r q).lookup ("take_ask" : Str) = none := by kernel_rfl
theorem pfl_tw : (pfl p g r q).lookup ("take_answer" : Str) = none := by kernel_rfl
theorem pfl_tg : (pfl p g r q).lookup ("take_gave" : Str) = none := by kernel_rfl
end
structure PgAt (C : Addr) (H : Hp) (a r q : Addr) (p : Nat) (g : PG) : Prop where
  ob : ∃ dx, H a = some (.ins C dx (pfl p g r q))
  rl : H r = some (.lst (g.rd.map nV))
  al : ∃ vs, H q = some (.lst vs) ∧ RepL H vs (g.ask.map askD)
  ne : r ≠ q
noncomputable def Lv (H H' : Hp) : Prop := ∀ b, H' b = none → H b = none
theorem Lv.refl (H : Hp) : Lv H H := fun _ h => h
theorem Lv.trans {H H1 H2 : Hp} (x : Lv H H1) (y : Lv H1 H2) : Lv H H2 := fun b h => x b (y b h)
theorem Lv.upd {H : Hp} {a : Addr} {o : HO} : Lv H (upd H a o) := fun b h => by
  by_cases e : b = a
  · rw [e, upd_same] at h; cases h
  · rw [upd_ne e] at h; exact h
theorem Lv.same {H H' : Hp} (h : Same H H') : Lv H H' := fun b e => by
  cases q : H b with
  | none => rfl
  | some o => rw [h b o q] at e; cases e
structure PF (H H' : Hp) (a r q : Addr) : Prop where
  kp : ∀ b o, H b = some o → b ≠ a → b ≠ r → b ≠ q → H' b = some o
  lv : Lv H H'
theorem PF.refl (H : Hp) (a r q : Addr) : PF H H a r q := ⟨fun _ _ h _ _ _ => h, Lv.refl _⟩
theorem PF.trans {H H1 H2 : Hp} {a r q : Addr} (x : PF H H1 a r q) (y : PF H1 H2 a r q) : PF H H2 a r q := ⟨fun b o h h1 h2 h3 => y.kp b o (x.kp b o h h1 h2 h3) h1 h2 h3, x.lv.trans y.lv⟩
theorem PF.trans' {H H1 H2 : Hp} {a r r1 q : Addr} (x : PF H H1 a r q) (y : PF H1 H2 a r1 q) (h : r1 = r ∨ H r1 = none) : PF H H2 a r q := ⟨fun b o hb h1 h2 h3 => y.kp b o (x.kp b o hb h1 h2 h3) h1 (by
  rcases h with z | z
  · rw [z]; exact h2
  · exact ne_of_none hb z) h3, x.lv.trans y.lv⟩
theorem askD_flat (l : List (Nat × Rt)) : D.flats (l.map askD) := by
  induction l with
  | nil => simp [D.flats]
  | cons x l ih => simp only [List.map_cons, D.flats]; exact ⟨by simp [askD, D.flat, D.flats], ih⟩
theorem Let.flat (l : Let) : l.d.flat := by cases l <;> simp [Let.d, D.flat, D.flats]
theorem pairD_flat (l : List (Nat × Let)) : D.flats (l.map pairD) := by
  induction l with
  | nil => simp [D.flats]
  | cons x l ih => simp only [List.map_cons, D.flats]; exact ⟨by simp only [pairD, D.flat, D.flats]; exact ⟨trivial, Let.flat _, trivial⟩, ih⟩
section
variable {C : Addr} {H H' : Hp} {a r q : Addr} {p : Nat} {g : PG}
theorem PgAt.nar (P : PgAt C H a r q p g) : a ≠ r := by obtain ⟨⟨dx, h⟩, h2, _⟩ := P; exact ne_of h h2 (by intro z; cases z)
theorem PgAt.naq (P : PgAt C H a r q p g) : a ≠ q := by obtain ⟨⟨dx, h⟩, _, ⟨vs, h2, _⟩, _⟩ := P; exact ne_of h h2 (by intro z; cases z)
theorem PF.tups (P : PgAt C H a r q p g) (h : PF H H' a r q) : TupSame H H' := fun b xs e => by
  obtain ⟨⟨dx, h1⟩, h2, ⟨vs, h3, _⟩, _⟩ := P
  exact h.kp b _ e (ne_of e h1 (by intro z; cases z)) (ne_of e h2 (by intro z; cases z)) (ne_of e h3 (by intro z; cases z))
theorem PgAt.keep (P : PgAt C H a r q p g) (t : TupSame H H') (ha : ∀ o, H a = some o → H' a = some o) (hr : ∀ o, H r = some o → H' r = some o) (hq : ∀ o, H q = some o → H' q = some o) : PgAt C H' a r q p g := by
  obtain ⟨⟨dx, h1⟩, h2, ⟨vs, h3, h4⟩, h5⟩ := P
  exact ⟨⟨dx, ha _ h1⟩, hr _ h2, ⟨vs, hq _ h3, h4.tmono t (askD_flat _)⟩, h5⟩
theorem PgAt.same (P : PgAt C H a r q p g) (h : Same H H') : PgAt C H' a r q p g := P.keep (fun b xs e => h b _ e) (fun o e => h _ o e) (fun o e => h _ o e) fun o e => h _ o e
theorem PgAt.new {b : Addr} {o : HO} (P : PgAt C H a r q p g) (h : H b = none) : PgAt C (upd H b o) a r q p g := P.same (same_new h)
theorem PF.new {b : Addr} {o : HO} (h : H b = none) : PF H (upd H b o) a r q := ⟨fun c u e _ _ _ => same_new h c u e, Lv.upd⟩
theorem PgAt.wr {dx : Addr} {g' : PG} (P : PgAt C H a r q p g) (e1 : g'.rd = g.rd) (e2 : g'.ask = g.ask) : PgAt C (upd H a (.ins C dx (pfl p g' r q))) a r q p g' := by
  have n1 := P.nar
  have n2 := P.naq
  obtain ⟨⟨dx1, h1⟩, h2, ⟨vs, h3, h4⟩, h5⟩ := P
  have t : TupSame H (upd H a (.ins C dx (pfl p g' r q))) := fun b xs e => by rw [upd_ne (ne_of e h1 (by intro z; cases z))]; exact e
  exact ⟨⟨dx, upd_same⟩, by rw [upd_ne n1.symm, e1]; exact h2, ⟨vs, by rw [upd_ne n2.symm]; exact h3, by rw [e2]; exact h4.tmono t (askD_flat _)⟩, h5⟩
theorem PF.wr {o : HO} : PF H (upd H a o) a r q := ⟨fun b u e h1 _ _ => by rw [upd_ne h1]; exact e, Lv.upd⟩
theorem PF.wrR {o : HO} : PF H (upd H r o) a r q := ⟨fun b u e _ h2 _ => by rw [upd_ne h2]; exact e, Lv.upd⟩
theorem PF.wrQ {o : HO} : PF H (upd H q o) a r q := ⟨fun b u e _ _ h3 => by rw [upd_ne h3]; exact e, Lv.upd⟩
theorem PgAt.wrR {l : List Nat} (P : PgAt C H a r q p g) : PgAt C (upd H r (.lst (l.map nV))) a r q p { g with rd := l } := by
  have n1 := P.nar
  obtain ⟨⟨dx1, h1⟩, h2, ⟨vs, h3, h4⟩, h5⟩ := P
  have t : TupSame H (upd H r (.lst (l.map nV))) := fun b xs e => by rw [upd_ne (ne_of e h2 (by intro z; cases z))]; exact e
  exact ⟨⟨dx1, by rw [upd_ne n1]; exact h1⟩, upd_same, ⟨vs, by rw [upd_ne h5.symm]; exact h3, h4.tmono t (askD_flat _)⟩, h5⟩
theorem PgAt.wrQ {l : List (Nat × Rt)} {vs : List V} (P : PgAt C H a r q p g) (rp : RepL H vs (l.map askD)) : PgAt C (upd H q (.lst vs)) a r q p { g with ask := l } := by
  have n1 := P.naq
  obtain ⟨⟨dx1, h1⟩, h2, ⟨us, h3, h4⟩, h5⟩ := P
  have t : TupSame H (upd H q (.lst vs)) := fun b xs e => by rw [upd_ne (ne_of e h3 (by intro z; cases z))]; exact e
  exact ⟨⟨dx1, by rw [upd_ne n1]; exact h1⟩, by rw [upd_ne h5]; exact h2, ⟨vs, upd_same, rp.tmono t (askD_flat _)⟩, h5⟩
theorem askD_cons {H : Hp} {vs : List V} {x : Nat × Rt} {l : List (Nat × Rt)} (h : RepL H vs ((x :: l).map askD)) : ∃ t us, vs = .ref t :: us ∧ H t = some (.tup [.int x.1, .str x.2.s]) ∧ RepL H us (l.map askD) := by
  simp only [List.map_cons, RepL] at h
  obtain ⟨v, us, e, rv, rl⟩ := h
  simp only [askD, Rep, RepL] at rv
  obtain ⟨t, xs, e1, e2, _, _, e3, rfl, _, _, e4, rfl, e5⟩ := rv
  subst e1 e5 e4 e3
  exact ⟨t, us, e, e2, rl⟩
end
noncomputable def PgOut (C : Addr) (H : Hp) (a r q : Addr) (p : Nat) (z : PG × List (Nat × Let)) (Q : VK) : Prop :=
  ∀ l r' vs H', H l = none → (r' = r ∨ H r' = none) → l ≠ r' → PgAt C H' a r' q p z.1 → PF H H' a r q → H' l = some (.lst vs) → RepL H' vs (z.2.map pairD) → Q (.ref l) H'
noncomputable def PG.mu (g : PG) : Nat := g.rd.length + 2 * g.ask.length
theorem PG.lent_mu (g : PG) : g.lent.mu ≤ g.mu := by
  unfold PG.lent PG.mu
  cases h : g.ask with
  | nil => simp [h]
  | cons x l =>
    obtain ⟨a, r⟩ := x
    dsimp only
    split
    · simp [letWrite]; lia
    · simp only [letRead]
      have hw : g.wr.toList.length ≤ 1 := by cases g.wr <;> simp
      split <;> simp [List.length_append] <;> lia
noncomputable def spLend4 : Sp := fun vs H Q _ => ∃ x y z, vs = [x, y, z] ∧ ∀ a, H a = none → Q (.ref a) (upd H a (.tup [.str "lend", x, y, z]))
noncomputable def spPgInit (C : Addr) : Sp := fun vs H Q _ => ∃ a dx, ∃ p : Nat, ∃ n : Int, vs = [.ref a, .int p, .int n] ∧ H a = some (.ins C dx []) ∧ ∀ r q H', H r = none → H q = none → PgAt C H' a r q p ⟨n, none, [], [], 0⟩ → (∀ b o, H b = some o → b ≠ a → H' b = some o) → Lv H H' → Q .non H'
noncomputable def spLetR (C : Addr) : Sp := fun vs H Q _ => ∃ a r q p g, ∃ d : Nat, vs = [.ref a, .int d] ∧ PgAt C H a r q p g ∧ g.rd.length ≤ 1000000 ∧ ∀ H', PgAt C H' a r q p (letRead g d) → PF H H' a r q → Q .non H'
noncomputable def spLetW (C : Addr) : Sp := fun vs H Q _ => ∃ a r q p g, ∃ d : Nat, vs = [.ref a, .int d] ∧ PgAt C H a r q p g ∧ ∀ r' H', H r' = none → PgAt C H' a r' q p (letWrite g d) → PF H H' a r q → Q .non H'
noncomputable def spLendP (C : Addr) : Sp := fun vs H Q _ => ∃ a r q p g d x l, vs = [.ref a] ∧ PgAt C H a r q p g ∧ g.ask = (d, x) :: l ∧ (x = .rd ∨ x = .wr) ∧ g.rd.length ≤ 1000000 ∧
  ∀ v r' H', (r' = r ∨ H r' = none) → PgAt C H' a r' q p g.lent → PF H H' a r q → Rep H' v (pairD (d, .lend p x g.num)) → Q v H'
noncomputable def spBids (C : Addr) : Sp := fun vs H Q _ => ∃ a r q p g d x l, vs = [.ref a] ∧ PgAt C H a r q p g ∧ g.ask = (d, x) :: l ∧ (x = .rd ∨ x = .wr) ∧ g.rd.length ≤ 1000000 ∧
  ∀ b us H', H b = none → Same H H' → H' b = some (.lst us) → RepL H' us ((g.bids p).map pairD) → Q (.ref b) H'
noncomputable def Rw (l : List (Nat × Rt)) : Prop := ∀ x ∈ l, x.2 = .rd ∨ x.2 = .wr
noncomputable def spServe (C : Addr) : Sp := fun vs H Q _ => ∃ a r q p g, vs = [.ref a] ∧ PgAt C H a r q p g ∧ Rw g.ask ∧ g.mu ≤ 1000000 ∧ PgOut C H a r q p (g.serve p) Q
noncomputable def spAsk (C : Addr) : Sp := fun vs H Q _ => ∃ a r q p g x, ∃ d : Nat, vs = [.ref a, .int d, .str (Rt.s x)] ∧ PgAt C H a r q p g ∧ (x = .rd ∨ x = .wr) ∧ Rw g.ask ∧ g.mu ≤ 900000 ∧ PgOut C H a r q p (g.take p d (.ask p x)) Q
noncomputable def spAns (C : Addr) : Sp := fun vs H Q _ => ∃ a r q p g o, ∃ d : Nat, vs = [.ref a, oV o] ∧ PgAt C H a r q p g ∧ (g.miss - 1 = 0 → g.ask ≠ []) ∧ Rw g.ask ∧ g.mu ≤ 900000 ∧ PgOut C H a r q p (g.take p d (.ans p o)) Q
noncomputable def spGave (C : Addr) : Sp := fun vs H Q _ => ∃ a r q p g, ∃ d : Nat, ∃ n : Int, vs = [.ref a, .int d, .int n] ∧ PgAt C H a r q p g ∧ PgOut C H a r q p (g.take p d (.gave p n)) Q
end K07
namespace K07
open PySem L2
noncomputable def setL {ι : Type} [DecidableEq ι] (A : ι → Addr) (z : ι) (a : Addr) : ι → Addr := fun x => if x = z then a else A x
theorem setL_same {ι : Type} [DecidableEq ι] (A : ι → Addr) (z : ι) (a : Addr) : setL A z a z = a := by simp [setL]
theorem setL_ne {ι : Type} [DecidableEq ι] (A : ι → Addr) {z x : ι} (a : Addr) (h : x ≠ z) : setL A z a x = A x := by simp [setL, h]
theorem inj_add {ι : Type} [DecidableEq ι] {A : ι → Addr} {ok ok' : ι → Prop} {z : ι} {a : Addr} (hi : ∀ x y, ok x → ok y → A x = A y → x = y) (hn : ∀ x, ok x → A x ≠ a) (ho : ∀ x, ok' x → x = z ∨ ok x) :
    ∀ x y, ok' x → ok' y → setL A z a x = setL A z a y → x = y := by
  intro x y hx hy e
  by_cases h1 : x = z
  · by_cases h2 : y = z
    · rw [h1, h2]
    · rw [h1, setL_same, setL_ne _ _ h2] at e
      exact absurd e.symm (hn y ((ho y hy).resolve_left h2))
  · by_cases h2 : y = z
    · rw [h2, setL_same, setL_ne _ _ h1] at e
      exact absurd e (hn x ((ho x hx).resolve_left h1))
    · rw [setL_ne _ _ h1, setL_ne _ _ h2] at e
      exact hi x y ((ho x hx).resolve_left h1) ((ho y hy).resolve_left h2) e
inductive Hb where
  | hall | pages | loan (p : Nat) | rdr (p : Nat) | asq (p : Nat)
  deriving DecidableEq
noncomputable def Hb.ok (m : Nat) : Hb → Prop
  | .hall => True
  | .pages => True
  | .loan p => p < m
  | .rdr p => p < m
  | .asq p => p < m
noncomputable def hfl (l : Addr) : List (Str × V) := [("pages", .ref l)]
theorem hfl_pages {l : Addr} : (hfl l).lookup ("pages" : Str) = some (.ref l) := by kernel_rfl
theorem hfl_take {l : Addr} : (hfl l).lookup ("take" : Str) = none := by kernel_rfl
theorem hfl_init {l : Addr} : putF "pages" (.ref l) [] = hfl l := by kernel_rfl
structure HallAt (CH CP : Addr) (H : Hp) (A : Hb → Addr) (m : Nat) (G : Nat → PG) : Prop where
  inj : ∀ x y, x.ok m → y.ok m → A x = A y → x = y
  ob : ∃ dx, H (A .hall) = some (.ins CH dx (hfl (A .pages)))
  pl : H (A .pages) = some (.lst ((List.range m).map fun p => V.ref (A (.loan p))))
  pg : ∀ p, p < m → PgAt CP H (A (.loan p)) (A (.rdr p)) (A (.asq p)) p (G p)
structure HF (H H' : Hp) (A : Hb → Addr) (m : Nat) : Prop where
  kp : ∀ b o, H b = some o → (∀ x : Hb, x.ok m → b ≠ A x) → H' b = some o
  lv : Lv H H'
theorem HF.trans' {H H1 H2 : Hp} {A A1 : Hb → Addr} {m : Nat} (x : HF H H1 A m) (y : HF H1 H2 A1 m) (h : ∀ z : Hb, z.ok m → A1 z = A z ∨ H (A1 z) = none) : HF H H2 A m := ⟨fun b o hb hn => y.kp b o (x.kp b o hb hn) fun z hz => by
  rcases h z hz with e | e
  · rw [e]; exact hn z hz
  · exact ne_of_none hb e, x.lv.trans y.lv⟩
section
variable {CH CP : Addr} {H H' : Hp} {A : Hb → Addr} {m : Nat} {G : Nat → PG}
theorem HallAt.live (h : HallAt CH CP H A m G) (x : Hb) (hx : x.ok m) : ∃ o, H (A x) = some o ∧ ∀ xs, o ≠ .tup xs := by
  cases x with
  | hall => obtain ⟨dx, e⟩ := h.ob; exact ⟨_, e, fun _ z => by cases z⟩
  | pages => exact ⟨_, h.pl, fun _ z => by cases z⟩
  | loan p => obtain ⟨⟨dx, e⟩, _⟩ := h.pg p hx; exact ⟨_, e, fun _ z => by cases z⟩
  | rdr p => exact ⟨_, (h.pg p hx).rl, fun _ z => by cases z⟩
  | asq p => obtain ⟨vs, e, _⟩ := (h.pg p hx).al; exact ⟨_, e, fun _ z => by cases z⟩
theorem HallAt.keep (h : HallAt CH CP H A m G) (t : TupSame H H') (k : ∀ x : Hb, x.ok m → ∀ o, H (A x) = some o → H' (A x) = some o) : HallAt CH CP H' A m G := by
  refine ⟨h.inj, ?_, k .pages trivial _ h.pl, fun p hp => (h.pg p hp).keep t (k (.loan p) hp) (k (.rdr p) hp) (k (.asq p) hp)⟩
  obtain ⟨dx, e⟩ := h.ob
  exact ⟨dx, k .hall trivial _ e⟩
theorem HallAt.same (h : HallAt CH CP H A m G) (s : Same H H') : HallAt CH CP H' A m G := h.keep (fun b xs e => s b _ e) fun x _ o e => s _ o e
theorem HF.tups (h : HallAt CH CP H A m G) (f : HF H H' A m) : TupSame H H' := fun b xs e => f.kp b _ e fun x hx z => by
  obtain ⟨o, e1, e2⟩ := h.live x hx
  rw [← z, e] at e1
  exact e2 xs (Option.some.inj e1).symm
theorem HF.of_same (s : Same H H') : HF H H' A m := ⟨fun b o e _ => s b o e, Lv.same s⟩
theorem HallAt.new {a : Addr} {o : HO} (h : HallAt CH CP H A m G) (hn : H a = none) : HallAt CH CP (upd H a o) A m G := h.same (same_new hn)
theorem HallAt.page {p : Nat} {g' : PG} {r' : Addr} (h : HallAt CH CP H A m G) (hp : p < m) (P : PgAt CP H' (A (.loan p)) r' (A (.asq p)) p g') (f : PF H H' (A (.loan p)) (A (.rdr p)) (A (.asq p))) (hr : r' = A (.rdr p) ∨ H r' = none) :
    HallAt CH CP H' (setL A (.rdr p) r') m (setf G p g') ∧ HF H H' A m := by
  have tp := f.tups (h.pg p hp)
  have kk : ∀ x : Hb, x.ok m → x ≠ .loan p → x ≠ .rdr p → x ≠ .asq p → ∀ o, H (A x) = some o → H' (A x) = some o := fun x hx n1 n2 n3 o e =>
    f.kp _ o e (fun z => n1 (h.inj _ _ hx hp z)) (fun z => n2 (h.inj _ _ hx hp z)) fun z => n3 (h.inj _ _ hx hp z)
  refine ⟨⟨?_, ?_, ?_, fun j hj => ?_⟩, ⟨fun b o e hn => f.kp b o e (hn _ hp) (hn (.rdr p) hp) (hn (.asq p) hp), f.lv⟩⟩
  · intro x y hx hy e
    by_cases h1 : x = .rdr p
    · by_cases h2 : y = .rdr p
      · rw [h1, h2]
      · rw [h1, setL_same, setL_ne _ _ h2] at e
        rcases hr with z | z
        · rw [z] at e; rw [h1]; exact h.inj _ _ hp hy e
        · obtain ⟨o, e1, _⟩ := h.live y hy; rw [← e, z] at e1; cases e1
    · by_cases h2 : y = .rdr p
      · rw [h2, setL_same, setL_ne _ _ h1] at e
        rcases hr with z | z
        · rw [z] at e; rw [h2]; exact h.inj _ _ hx hp e
        · obtain ⟨o, e1, _⟩ := h.live x hx; rw [e, z] at e1; cases e1
      · rw [setL_ne _ _ h1, setL_ne _ _ h2] at e
        exact h.inj _ _ hx hy e
  · obtain ⟨dx, e⟩ := h.ob
    refine ⟨dx, ?_⟩
    rw [setL_ne _ _ (by intro z; cases z), setL_ne _ _ (by intro z; cases z)]
    exact kk .hall trivial (by intro z; cases z) (by intro z; cases z) (by intro z; cases z) _ e
  · rw [setL_ne _ _ (by intro z; cases z)]
    have e := kk .pages trivial (by intro z; cases z) (by intro z; cases z) (by intro z; cases z) _ h.pl
    rw [e]
    congr 2
  · by_cases e : j = p
    · subst e
      rw [show setL A (.rdr j) r' (.loan j) = A (.loan j) by simp [setL], show setL A (.rdr j) r' (.asq j) = A (.asq j) by simp [setL], setL_same, setf_same]
      exact P
    · rw [show setL A (.rdr p) r' (.loan j) = A (.loan j) by simp [setL], show setL A (.rdr p) r' (.asq j) = A (.asq j) by simp [setL], show setL A (.rdr p) r' (.rdr j) = A (.rdr j) by simp [setL, e], setf_ne _ _ e]
      exact (h.pg j hj).keep tp (kk (.loan j) hj (by intro z; cases z; exact e rfl) (by intro z; cases z) (by intro z; cases z)) (kk (.rdr j) hj (by intro z; cases z) (by intro z; cases z; exact e rfl) (by intro z; cases z)) (kk (.asq j) hj (by intro z; cases z) (by intro z; cases z) (by intro z; cases z; exact e rfl))
end
noncomputable def UL.good (g : PG) : UL → Prop
  | .ask _ r => r = .rd ∨ r = .wr
  | .ans _ _ => g.miss - 1 = 0 → g.ask ≠ []
  | .gave _ _ => True
noncomputable def HOut (CH CP : Addr) (H : Hp) (A : Hb → Addr) (m : Nat) (G : Nat → PG) (p : Nat) (z : PG × List (Nat × Let)) (Q : VK) : Prop :=
  ∀ l A' vs H', H l = none → HallAt CH CP H' A' m (setf G p z.1) → HF H H' A m → (∀ x : Hb, x.ok m → A' x = A x ∨ H (A' x) = none) → (∀ x : Hb, x.ok m → l ≠ A' x) → A' .hall = A .hall → H' l = some (.lst vs) → RepL H' vs (z.2.map pairD) → Q (.ref l) H'
noncomputable def spHallTake (CH CP : Addr) : Sp := fun vs H Q _ => ∃ A m G b l, ∃ d : Nat, vs = [.ref (A .hall), .int d, .ref b] ∧ HallAt CH CP H A m G ∧ H b = some (.tup (UL.vs l)) ∧ l.pg < m ∧ l.good (G l.pg) ∧ Rw (G l.pg).ask ∧ (G l.pg).mu ≤ 900000 ∧
  HOut CH CP H A m G l.pg ((G l.pg).take l.pg d l) Q
noncomputable def pg0 (ns : List Int) (p : Nat) : PG := ⟨(ns[p]?).getD 0, none, [], [], 0⟩
noncomputable def spHallInit (CH CP : Addr) : Sp := fun vs H Q _ => ∃ h dx l, ∃ ns : List Int, vs = [.ref h, .ref l] ∧ H h = some (.ins CH dx []) ∧ H l = some (.lst (ns.map V.int)) ∧ ns.length ≤ 1000 ∧
  ∀ A H', A .hall = h → (∀ x : Hb, x.ok ns.length → x ≠ .hall → H (A x) = none) → HallAt CH CP H' A ns.length (pg0 ns) → (∀ b o, H b = some o → b ≠ h → H' b = some o) → Lv H H' → Q .non H'
end K07
namespace K07
open PySem L2
structure PGn (n : Nat) (g : PG) : Prop where
  w : ∀ x, g.wr = some x → x < n
  r : ∀ x ∈ g.rd, x < n
  q : ∀ x ∈ g.ask, x.1 < n ∧ (x.2 = .rd ∨ x.2 = .wr)
theorem PGn.rw {n : Nat} {g : PG} (h : PGn n g) : Rw g.ask := fun x hx => (h.q x hx).2
noncomputable def Let.nice : Let → Prop
  | .lend _ r _ => r = .rd ∨ r = .wr
  | .back _ r => r = .rd ∨ r = .no
noncomputable def Let.bk (p : Nat) : Let → Bool
  | .back q _ => decide (q = (p : Int))
  | .lend _ _ _ => false
noncomputable def UL.an (p : Nat) : UL → Bool
  | .ans q _ => decide (q = p)
  | _ => false
noncomputable def LetOk (n p : Nat) (ls : List (Nat × Let)) : Prop := ∀ q ∈ ls, q.1 < n ∧ q.2.pg = (p : Int) ∧ q.2.nice
theorem PGn.bids {n : Nat} {g : PG} (h : PGn n g) (p : Nat) : LetOk n p (g.bids p) ∧ (g.bids p).countP (fun q => q.2.bk p) = (g.bids p).length := by
  have key : ∀ x ∈ g.bids p, (x.1 < n ∧ x.2.pg = (p : Int) ∧ x.2.nice) ∧ x.2.bk p = true := by
    intro x hx
    unfold PG.bids at hx
    split at hx
    · cases hx
    · rename_i a r l ha
      rcases List.mem_append.mp hx with hx | hx
      · unfold wBids at hx
        split at hx
        · rename_i wv hw
          split at hx
          · cases hx
          · have this := List.mem_singleton.mp hx
            rw [this]
            refine ⟨⟨h.w wv hw, rfl, ?_⟩, by simp [Let.bk]⟩
            unfold low
            split
            · exact .inl rfl
            · exact .inr rfl
        · cases hx
      · unfold rBids at hx
        split at hx
        · obtain ⟨d, hd, e⟩ := List.mem_map.mp hx
          rw [← e]; exact ⟨⟨h.r d (List.mem_filter.mp hd).1, rfl, .inr rfl⟩, by simp [Let.bk]⟩
        · cases hx
  exact ⟨fun x hx => (key x hx).1, List.countP_eq_length.mpr fun x hx => (key x hx).2⟩
theorem PGn.lent {n : Nat} {g : PG} (h : PGn n g) : PGn n g.lent := by
  unfold PG.lent
  cases e : g.ask with
  | nil => exact h
  | cons x l =>
    obtain ⟨a, r⟩ := x
    have ha : a < n := (h.q (a, r) (by rw [e]; simp)).1
    have hl : ∀ x ∈ l, x.1 < n ∧ (x.2 = .rd ∨ x.2 = .wr) := fun x hx => h.q x (by rw [e]; exact List.mem_cons_of_mem _ hx)
    have hrs : ∀ x ∈ g.rd ++ g.wr.toList, x < n := fun x hx => by
      rcases List.mem_append.mp hx with hx | hx
      · exact h.r x hx
      · exact h.w x (by cases hw : g.wr with | none => rw [hw] at hx; simp at hx | some y => rw [hw] at hx; simp at hx; rw [hx])
    dsimp only
    split
    · refine ⟨fun x hx => ?_, fun x hx => by simp [letWrite] at hx, hl⟩
      have e : a = x := by simpa [letWrite] using hx
      rw [← e]; exact ha
    · refine ⟨fun x hx => by simp [letRead] at hx, fun x hx => ?_, hl⟩
      simp only [letRead] at hx
      split at hx
      · exact hrs x hx
      · rcases List.mem_append.mp hx with hx | hx
        · exact hrs x hx
        · have : x = a := by simpa using hx
          rw [this]; exact ha
theorem PG.lent_miss (g : PG) : g.lent.miss = g.miss := by
  unfold PG.lent
  cases g.ask with
  | nil => rfl
  | cons x l => obtain ⟨a, r⟩ := x; dsimp only; split <;> rfl
theorem PGn.lend1 {n : Nat} {g : PG} (h : PGn n g) (p : Nat) : LetOk n p (g.lend1 p) ∧ (g.lend1 p).countP (fun q => q.2.bk p) = 0 := by
  unfold PG.lend1
  cases e : g.ask with
  | nil => exact ⟨fun q hq => by simp at hq, rfl⟩
  | cons x l =>
    obtain ⟨a, r⟩ := x
    have ha := h.q (a, r) (by rw [e]; simp)
    refine ⟨fun q hq => ?_, by simp [Let.bk]⟩
    have this := List.mem_singleton.mp hq
    rw [this]
    exact ⟨ha.1, rfl, ha.2⟩
theorem LetOk.append {n p : Nat} {a b : List (Nat × Let)} (x : LetOk n p a) (y : LetOk n p b) : LetOk n p (a ++ b) := fun q hq => (List.mem_append.mp hq).elim (x q) (y q)
theorem serve_inv : ∀ (k : Nat) {n : Nat} {g : PG} (p : Nat), g.ask.length = k → PGn n g → g.miss = 0 →
    PGn n (g.serve p).1 ∧ LetOk n p (g.serve p).2 ∧ ((g.serve p).2.countP (fun q => q.2.bk p) : Int) = (g.serve p).1.miss ∧ ((g.serve p).1.ask = [] ↔ (g.serve p).1.miss = 0)
  | 0, n, g, p, hk, h, h0 => by
    have e : g.ask = [] := List.length_eq_zero_iff.mp hk
    rw [serve_nil e]
    exact ⟨h, fun q hq => by simp at hq, by simp [h0], by simp [e, h0]⟩
  | k + 1, n, g, p, hk, h, h0 => by
    have e : g.ask ≠ [] := fun z => by rw [z] at hk; simp at hk
    by_cases hb : g.bids p = []
    · rw [serve_lend e hb]
      obtain ⟨i1, i2, i3, i4⟩ := serve_inv k (n := n) (g := g.lent) p (by rw [PG.lent_len, hk]; rfl) h.lent (by rw [PG.lent_miss]; exact h0)
      obtain ⟨j1, j2⟩ := h.lend1 p
      exact ⟨i1, j1.append i2, by rw [List.countP_append, j2, Nat.zero_add]; exact i3, i4⟩
    · rw [serve_bid e hb]
      obtain ⟨j1, j2⟩ := h.bids p
      refine ⟨⟨h.w, h.r, h.q⟩, j1, by rw [j2], ⟨fun z => absurd z e, fun z => ?_⟩⟩
      have : (g.bids p).length = 0 := by have z' : ((g.bids p).length : Int) = 0 := z; lia
      exact absurd (List.length_eq_zero_iff.mp this) hb
theorem PG.serve_inv {n : Nat} {g : PG} (p : Nat) (h : PGn n g) (h0 : g.miss = 0) :
    PGn n (g.serve p).1 ∧ LetOk n p (g.serve p).2 ∧ ((g.serve p).2.countP (fun q => q.2.bk p) : Int) = (g.serve p).1.miss ∧ ((g.serve p).1.ask = [] ↔ (g.serve p).1.miss = 0) := K07.serve_inv _ p rfl h h0
theorem and5 {A B C D E : Prop} (h : E) (z : A ∧ B ∧ C ∧ D) : A ∧ B ∧ C ∧ D ∧ E := ⟨z.1, z.2.1, z.2.2.1, z.2.2.2, h⟩
theorem PG.take_inv {n : Nat} {g : PG} {p d : Nat} {l : UL} {c : Nat} (h : PGn n g) (ham : g.ask = [] ↔ g.miss = 0) (hd : d < n) (hr : ∀ q r, l = .ask q r → r = .rd ∨ r = .wr) (hp : l.pg = p) (hc : ((c + if l.an p then 1 else 0 : Nat) : Int) = g.miss) :
    PGn n (g.take p d l).1 ∧ LetOk n p (g.take p d l).2 ∧ (((g.take p d l).2.countP (fun q => q.2.bk p) + c : Nat) : Int) = (g.take p d l).1.miss ∧ ((g.take p d l).1.ask = [] ↔ (g.take p d l).1.miss = 0) ∧ l.good g := by
  cases l with
  | ask q r =>
    have hx := hr q r rfl
    have hc' : (c : Int) = g.miss := by simpa [UL.an] using hc
    refine and5 hx ?_
    simp only [PG.take]
    by_cases e : g.ask = []
    · rw [if_pos e]
      have h0 := ham.mp e
      obtain ⟨i1, i2, i3, i4⟩ := PG.serve_inv (n := n) (g := { g with ask := [(d, r)] }) p ⟨h.w, h.r, fun x hx' => by rw [List.mem_singleton.mp hx']; exact ⟨hd, hx⟩⟩ h0
      have c0 : c = 0 := by lia
      exact ⟨i1, i2, by rw [c0]; exact i3, i4⟩
    · rw [if_neg e]
      refine ⟨⟨h.w, h.r, fun x hx' => ?_⟩, fun q hq => by simp at hq, by simpa using hc', ⟨fun z => by simp at z, fun z => absurd (ham.mpr z) e⟩⟩
      rcases List.mem_append.mp hx' with hx' | hx'
      · exact h.q x hx'
      · have : x = (d, r) := by simpa using hx'
        rw [this]; exact ⟨hd, hx⟩
  | ans q o =>
    have hq : q = p := hp
    subst hq
    have hc' : (c : Int) + 1 = g.miss := by simpa [UL.an] using hc
    have hne : g.ask ≠ [] := fun z => by have := ham.mp z; lia
    refine and5 (fun _ => hne) ?_
    simp only [PG.take]
    by_cases e : g.miss - 1 = 0
    · rw [if_pos e]
      have hg : PGn n ({ g with num := o.getD g.num, miss := g.miss - 1 } : PG) := ⟨h.w, h.r, h.q⟩
      generalize hg2 : ({ g with num := o.getD g.num, miss := g.miss - 1 } : PG) = g2 at hg
      have hm2 : g2.miss = 0 := by rw [← hg2]; exact e
      obtain ⟨i1, i2, i3, i4⟩ := PG.serve_inv (n := n) (g := g2.lent) q hg.lent (by rw [PG.lent_miss]; exact hm2)
      obtain ⟨j1, j2⟩ := hg.lend1 q
      have c0 : c = 0 := by lia
      exact ⟨i1, j1.append i2, by rw [c0, List.countP_append, j2, Nat.zero_add, Nat.add_zero]; exact i3, i4⟩
    · rw [if_neg e]
      refine ⟨⟨h.w, h.r, h.q⟩, fun q hq => by simp at hq, ?_, ⟨fun z => absurd z hne, fun z => absurd z e⟩⟩
      show ((0 + c : Nat) : Int) = g.miss - 1
      lia
  | gave q x =>
    have hc' : (c : Int) = g.miss := by simpa [UL.an] using hc
    simp only [PG.take]
    refine ⟨⟨fun y hy => ?_, h.r, h.q⟩, fun q hq => by simp at hq, by simpa using hc', ham, trivial⟩
    dsimp only at hy
    split at hy
    · cases hy
    · exact h.w y hy
noncomputable def sumN (n : Nat) (f : Nat → Nat) : Nat := ((List.range n).map f).sum
theorem sumN_succ (n : Nat) (f : Nat → Nat) : sumN (n + 1) f = sumN n f + f n := by unfold sumN; rw [List.range_succ, List.map_append, List.sum_append]; simp
theorem sumN_congr {n : Nat} {f g : Nat → Nat} (h : ∀ e, e < n → f e = g e) : sumN n f = sumN n g := by
  induction n with
  | zero => rfl
  | succ n ih => rw [sumN_succ, sumN_succ, ih fun e he => h e (Nat.lt_succ_of_lt he), h n (Nat.lt_succ_self n)]
theorem sumN_one {n d : Nat} {f g : Nat → Nat} (hd : d < n) (h : ∀ e, e ≠ d → g e = f e) : sumN n g + f d = sumN n f + g d := by
  induction n with
  | zero => exact absurd hd (Nat.not_lt_zero _)
  | succ n ih =>
    rw [sumN_succ, sumN_succ]
    by_cases e : d = n
    · subst e
      have := sumN_congr (n := d) (f := g) (g := f) fun e he => h e (Nat.ne_of_lt he)
      lia
    · have h1 := ih (by lia)
      have h2 := h n (Ne.symm e)
      lia
noncomputable def cnt (n p : Nat) (up : Nat → List UL) (dn : Nat → List Let) : Nat := sumN n fun d => (up d).countP (UL.an p) + (dn d).countP (Let.bk p)
theorem cnt_up {n p d : Nat} {up : Nat → List UL} {dn : Nat → List Let} (hd : d < n) (l : List UL) : cnt n p (setf up d l) dn + (up d).countP (UL.an p) = cnt n p up dn + l.countP (UL.an p) := by
  have := sumN_one (n := n) (d := d) (f := fun d => (up d).countP (UL.an p) + (dn d).countP (Let.bk p)) (g := fun e => (setf up d l e).countP (UL.an p) + (dn e).countP (Let.bk p)) hd fun e he => by simp only [setf_ne _ _ he]
  simp only [setf_same] at this
  unfold cnt
  lia
theorem cnt_dn {n p d : Nat} {up : Nat → List UL} {dn : Nat → List Let} (hd : d < n) (l : List Let) : cnt n p up (setf dn d l) + (dn d).countP (Let.bk p) = cnt n p up dn + l.countP (Let.bk p) := by
  have := sumN_one (n := n) (d := d) (f := fun d => (up d).countP (UL.an p) + (dn d).countP (Let.bk p)) (g := fun e => (up e).countP (UL.an p) + (setf dn d l e).countP (Let.bk p)) hd fun e he => by simp only [setf_ne _ _ he]
  simp only [setf_same] at this
  unfold cnt
  lia
theorem cnt_post {n p : Nat} {up : Nat → List UL} : ∀ (ls : List (Nat × Let)) {dn : Nat → List Let}, (∀ q ∈ ls, q.1 < n) → cnt n p up (post dn ls) = cnt n p up dn + ls.countP (fun q => q.2.bk p)
  | [], dn, _ => by simp [post]
  | x :: ls, dn, h => by
    rw [post_cons, cnt_post ls fun q hq => h q (List.mem_cons_of_mem _ hq), List.countP_cons]
    have := cnt_dn (p := p) (up := up) (dn := dn) (h x (by simp)) (dn x.1 ++ [x.2])
    rw [List.countP_append] at this
    simp only [List.countP_cons, List.countP_nil] at this
    split at this <;> simp_all <;> lia
theorem post_mem {dn : Nat → List Let} {ls : List (Nat × Let)} {d : Nat} {l : Let} (h : l ∈ post dn ls d) : l ∈ dn d ∨ (d, l) ∈ ls := by
  induction ls generalizing dn with
  | nil => exact .inl h
  | cons x ls ih =>
    rw [post_cons] at h
    rcases ih h with h | h
    · by_cases e : d = x.1
      · subst e
        rw [setf_same] at h
        rcases List.mem_append.mp h with h | h
        · exact .inl h
        · have : l = x.2 := by simpa using h
          exact .inr (by rw [this]; exact List.mem_cons_self)
      · rw [setf_ne _ _ e] at h; exact .inl h
    · exact .inr (List.mem_cons_of_mem _ h)
structure TInv (n m : Nat) (S : TS) : Prop where
  pn : ∀ p, p < m → PGn n (S.pg p)
  am : ∀ p, p < m → ((S.pg p).ask = [] ↔ (S.pg p).miss = 0)
  up : ∀ d, d < n → ∀ l ∈ S.up d, l.pg < m ∧ ∀ p r, l = .ask p r → r = .rd ∨ r = .wr
  dn : ∀ d, d < n → ∀ l ∈ S.dn d, ∃ p : Nat, p < m ∧ l.pg = (p : Int) ∧ l.nice
  ws : ∀ d, d < n → ∀ w, (S.ds d).ws = some w → ∃ p : Nat, p < m ∧ w.pg = (p : Int)
  ct : ∀ p, p < m → (cnt n p S.up S.dn : Int) = (S.pg p).miss
theorem TInv.take {n m d : Nat} {S : TS} {l : UL} {r : List UL} (I : TInv n m S) (hd : d < n) (e : S.up d = l :: r) : TInv n m (S.doUp d l r) ∧ l.pg < m ∧ l.good (S.pg l.pg) ∧ LetOk n l.pg ((S.pg l.pg).take l.pg d l).2 := by
  obtain ⟨hp, hr⟩ := I.up d hd l (by rw [e]; simp)
  have hcu := cnt_up (p := l.pg) (up := S.up) (dn := S.dn) hd r
  have h1 : (S.up d).countP (UL.an l.pg) = r.countP (UL.an l.pg) + if l.an l.pg then 1 else 0 := by rw [e, List.countP_cons]
  have hct := I.ct l.pg hp
  have hcc : ((cnt n l.pg (setf S.up d r) S.dn + if l.an l.pg then 1 else 0 : Nat) : Int) = (S.pg l.pg).miss := by
    rw [← hct]
    have : cnt n l.pg (setf S.up d r) S.dn + (if l.an l.pg then 1 else 0) = cnt n l.pg S.up S.dn := by lia
    rw [this]
  obtain ⟨i1, i2, i3, i4, i5⟩ := PG.take_inv (I.pn l.pg hp) (I.am l.pg hp) hd hr rfl hcc
  refine ⟨⟨fun p h => ?_, fun p h => ?_, fun e' he l' hl => ?_, fun e' he l' hl => ?_, I.ws, fun p h => ?_⟩, hp, i5, i2⟩
  · show PGn n (setf S.pg l.pg _ p)
    by_cases z : p = l.pg
    · rw [z, setf_same]; exact i1
    · rw [setf_ne _ _ z]; exact I.pn p h
  · show (setf S.pg l.pg _ p).ask = [] ↔ (setf S.pg l.pg _ p).miss = 0
    by_cases z : p = l.pg
    · rw [z, setf_same]; exact i4
    · rw [setf_ne _ _ z]; exact I.am p h
  · have hl' : l' ∈ setf S.up d r e' := hl
    by_cases z : e' = d
    · rw [z, setf_same] at hl'; exact I.up d hd l' (by rw [e]; exact List.mem_cons_of_mem _ hl')
    · rw [setf_ne _ _ z] at hl'; exact I.up e' he l' hl'
  · rcases post_mem (show l' ∈ post S.dn _ e' from hl) with h | h
    · exact I.dn e' he l' h
    · obtain ⟨_, h2, h3⟩ := i2 _ h
      exact ⟨l.pg, hp, h2, h3⟩
  · show (cnt n p (setf S.up d r) (post S.dn _) : Int) = (setf S.pg l.pg _ p).miss
    rw [cnt_post _ fun q hq => (i2 q hq).1]
    by_cases z : p = l.pg
    · subst z
      rw [setf_same, ← i3, Nat.add_comm]
    · rw [setf_ne _ _ z, ← I.ct p h]
      have h2 := cnt_up (p := p) (up := S.up) (dn := S.dn) hd r
      have h3 : (S.up d).countP (UL.an p) = r.countP (UL.an p) := by
        rw [e, List.countP_cons]
        have : l.an p = false := by cases l <;> simp_all [UL.an, UL.pg]; lia
        rw [this]; simp
      have h4 : (((S.pg l.pg).take l.pg d l).2.countP fun q => q.2.bk p) = 0 := by
        rw [List.countP_eq_zero]
        intro q hq hb
        obtain ⟨_, h5, _⟩ := i2 q hq
        cases hq2 : q.2 with
        | lend a b c => rw [hq2] at hb; simp [Let.bk] at hb
        | back a b =>
          rw [hq2] at hb h5
          simp only [Let.bk, decide_eq_true_eq] at hb
          have h6 : a = (l.pg : Int) := h5
          lia
      rw [h4]
      have : cnt n p (setf S.up d r) S.dn = cnt n p S.up S.dn := by lia
      rw [this]; rfl
theorem TInv.desk {n m d : Nat} {S : TS} {z : DS × List Ev × List UL} (I : TInv n m S) (hd : d < n) (hu : ∀ l ∈ z.2.2, l.pg < m ∧ ∀ p r, l = .ask p r → r = .rd ∨ r = .wr) (hw : ∀ w, z.1.ws = some w → ∃ p : Nat, p < m ∧ w.pg = (p : Int)) (ha : ∀ p, z.2.2.countP (UL.an p) = 0) : TInv n m (S.desk d z) := by
  refine ⟨I.pn, I.am, fun e he l hl => ?_, I.dn, fun e he w h => ?_, fun p h => ?_⟩
  · have hl' : l ∈ setf S.up d (S.up d ++ z.2.2) e := hl
    by_cases y : e = d
    · rw [y, setf_same] at hl'
      rcases List.mem_append.mp hl' with hl' | hl'
      · exact I.up d hd l hl'
      · exact hu l hl'
    · rw [setf_ne _ _ y] at hl'; exact I.up e he l hl'
  · have h' : (setf S.ds d z.1 e).ws = some w := h
    by_cases y : e = d
    · rw [y, setf_same] at h'; exact hw w h'
    · rw [setf_ne _ _ y] at h'; exact I.ws e he w h'
  · show (cnt n p (setf S.up d (S.up d ++ z.2.2)) S.dn : Int) = (S.pg p).miss
    rw [← I.ct p h]
    have := cnt_up (p := p) (up := S.up) (dn := S.dn) hd (S.up d ++ z.2.2)
    rw [List.countP_append, ha p] at this
    have : cnt n p (setf S.up d (S.up d ++ z.2.2)) S.dn = cnt n p S.up S.dn := by lia
    rw [this]
theorem DS.hold_ws (S : DS) (p : Int) (r : Rt) (x : Int) : (S.hold p r x).ws = S.ws := rfl
theorem DS.done_ws (S : DS) (w : W) : (S.done w).ws = S.ws := by cases w <;> rfl
theorem TInv.doRest {n m d p : Nat} {S : TS} (I : TInv n m S) (hd : d < n) (hp : p < m) : TInv n m (S.doRest d p) := by
  refine I.desk hd ?_ (fun w h => I.ws d hd w h) fun q => ?_
  · intro l hl
    have hl' : l ∈ (if (S.ds d).rt p = .wr then [UL.gave p ((S.ds d).nm p)] else []) := hl
    split at hl'
    · have this := List.mem_singleton.mp hl'
      rw [this]; exact ⟨hp, fun _ _ z => by cases z⟩
    · cases hl'
  · show (if (S.ds d).rt p = .wr then [UL.gave p ((S.ds d).nm p)] else []).countP (UL.an q) = 0
    split <;> simp [UL.an]
theorem W.need_rw (w : W) : w.need = .rd ∨ w.need = .wr := by cases w <;> simp [W.need]
theorem TInv.want {n m d p : Nat} {S : TS} {w : W} (I : TInv n m S) (hd : d < n) (hp : p < m) (hw : w.pg = (p : Int)) : TInv n m (S.desk d ((S.ds d).wantR w p)) := by
  unfold DS.wantR
  split
  · refine I.desk hd (fun l hl => by cases hl) (fun w' h => ?_) fun q => rfl
    have h' : ((S.ds d).done w).ws = some w' := h
    rw [DS.done_ws] at h'
    exact I.ws d hd w' h'
  · refine I.desk hd (fun l hl => ?_) (fun w' h => ?_) fun q => by simp [UL.an]
    · have this := List.mem_singleton.mp hl
      rw [this]; exact ⟨hp, fun q r e => by cases e; exact w.need_rw⟩
    · have h' : some w = some w' := h
      cases h'
      exact ⟨p, hp, hw⟩
theorem TInv.doDn {n m d : Nat} {S : TS} {l : Let} {r : List Let} (I : TInv n m S) (hd : d < n) (e : S.dn d = l :: r) : TInv n m (S.doDn d l r) := by
  obtain ⟨p, hp, hlp, hn⟩ := I.dn d hd l (by rw [e]; simp)
  have hdn : ∀ e' , e' < n → ∀ l' ∈ setf S.dn d r e', ∃ p : Nat, p < m ∧ l'.pg = (p : Int) ∧ l'.nice := fun e' he l' hl => by
    by_cases y : e' = d
    · rw [y, setf_same] at hl; exact I.dn d hd l' (by rw [e]; exact List.mem_cons_of_mem _ hl)
    · rw [setf_ne _ _ y] at hl; exact I.dn e' he l' hl
  cases l with
  | lend q x k =>
    have I1 : TInv n m { S with dn := setf S.dn d r } := ⟨I.pn, I.am, I.up, hdn, I.ws, fun p h => by
      show (cnt n p S.up (setf S.dn d r) : Int) = _
      rw [← I.ct p h]
      have := cnt_dn (p := p) (up := S.up) (dn := S.dn) hd r
      rw [e, List.countP_cons] at this
      simp [Let.bk] at this
      rw [this]⟩
    refine I1.desk hd (fun l hl => by cases hl) (fun w h => ?_) fun q => rfl
    have h' : ((S.ds d).loanR q x k).1.ws = some w := h
    unfold DS.loanR at h'
    cases hws : (S.ds d).ws with
    | none => rw [hws] at h'; rw [DS.hold_ws, hws] at h'; cases h'
    | some w0 =>
      rw [hws] at h'
      dsimp only at h'
      split at h'
      · rw [DS.done_ws] at h'; cases h'
      · rw [DS.hold_ws, hws] at h'; cases h'; exact I.ws d hd _ hws
  | back q x =>
    have hq : q = (p : Int) := hlp
    refine ⟨I.pn, I.am, fun e' he l' hl => ?_, hdn, fun e' he w h => ?_, fun p' h => ?_⟩
    · have hl' : l' ∈ setf S.up d (S.up d ++ [UL.ans q.toNat ((S.ds d).tellO q)]) e' := hl
      by_cases y : e' = d
      · rw [y, setf_same] at hl'
        rcases List.mem_append.mp hl' with hl' | hl'
        · exact I.up d hd l' hl'
        · have this := List.mem_singleton.mp hl'
          rw [this]; exact ⟨by show q.toNat < m; rw [hq]; exact hp, fun _ _ z => by cases z⟩
      · rw [setf_ne _ _ y] at hl'; exact I.up e' he l' hl'
    · have h' : (setf S.ds d ((S.ds d).down q x) e').ws = some w := h
      by_cases y : e' = d
      · rw [y, setf_same] at h'
        refine I.ws d hd w ?_
        unfold DS.down at h'
        split at h'
        · exact h'
        · exact h'
      · rw [setf_ne _ _ y] at h'; exact I.ws e' he w h'
    · show (cnt n p' (setf S.up d (S.up d ++ [UL.ans q.toNat ((S.ds d).tellO q)])) (setf S.dn d r) : Int) = (S.pg p').miss
      rw [← I.ct p' h]
      have h1 := cnt_up (p := p') (up := S.up) (dn := setf S.dn d r) hd (S.up d ++ [UL.ans q.toNat ((S.ds d).tellO q)])
      have h2 := cnt_dn (p := p') (up := S.up) (dn := S.dn) hd r
      rw [List.countP_append] at h1
      rw [e, List.countP_cons] at h2
      have h3 : [UL.ans q.toNat ((S.ds d).tellO q)].countP (UL.an p') = if (Let.back q x).bk p' then 1 else 0 := by
        rw [hq]
        simp only [List.countP_cons, List.countP_nil, UL.an, Let.bk, Int.toNat_natCast, Nat.zero_add]
        by_cases z : p = p'
        · subst z; simp
        · have : ¬ ((p : Int) = (p' : Int)) := by lia
          simp [z, this]
      have : cnt n p' (setf S.up d (S.up d ++ [UL.ans q.toNat ((S.ds d).tellO q)])) (setf S.dn d r) = cnt n p' S.up S.dn := by lia
      rw [this]
theorem TInv.step {n m : Nat} {S : TS} (I : TInv n m S) (x : Deed) : TInv n m (S.step n m x).1 := by
  cases x with
  | up d =>
    simp only [TS.step]
    split
    · rename_i h
      have hd : d.toNat < n := by unfold inR at h; lia
      unfold TS.upD
      cases e : S.up d.toNat with
      | nil => exact I
      | cons l r => exact (I.take hd e).1
    · exact I
  | down d =>
    simp only [TS.step]
    split
    · rename_i h
      have hd : d.toNat < n := by unfold inR at h; lia
      unfold TS.downD
      cases e : S.dn d.toNat with
      | nil => exact I
      | cons l r => exact I.doDn hd e
    · exact I
  | rest d p =>
    simp only [TS.step]
    split
    · rename_i h
      split
      · rename_i h2
        split
        · exact I
        · exact I.doRest (by unfold inR at h; lia) (by unfold inR at h2; lia)
      · exact I
    · exact I
  | look d p =>
    simp only [TS.step]
    split
    · rename_i h
      split
      · rename_i h2
        unfold TS.wish
        split
        · exact I
        · exact I.want (by unfold inR at h; lia) (by unfold inR at h2; lia) (by show p = _; unfold inR at h2; lia)
      · exact I
    · exact I
  | put d p x =>
    simp only [TS.step]
    split
    · rename_i h
      split
      · rename_i h2
        unfold TS.wish
        split
        · exact I
        · exact I.want (by unfold inR at h; lia) (by unfold inR at h2; lia) (by show p = _; unfold inR at h2; lia)
      · exact I
    · exact I
end K07
namespace K07
open PySem L2
theorem at0c (x : V) (xs : List V) : atI (x :: xs) 0 = some x := atI_nat (j := 0) rfl
theorem UL.at1 (l : UL) : atI l.vs 1 = some (.int l.pg) := by cases l <;> rfl
theorem range_at {m p : Nat} {f : Nat → V} (h : p < m) : atI ((List.range m).map f) (p : Int) = some (f p) := atI_nat (by rw [List.getElem?_map, List.getElem?_range h]; rfl)
theorem ixR_K {X : Cx} {K : PySem.W.Frag} {r : PySem.W.Frag → R2} (h : IxR X (r X.K)) (e : X.K = K) : IxR X (r K) := e ▸ h
theorem call_len_seqK {X : Cx} {K : PySem.W.Frag} (e : X.K = K) : CallR X (.builtin "len") (fun xs H Q => ∃ p ys, xs = [.ref p] ∧ (SqL K H p ys ∨ SqT K H p ys) ∧ Q (.int ys.length) H) := by subst e; exact call_len_seq
theorem call_list_ofK {X : Cx} {K : PySem.W.Frag} (e : X.K = K) : CallR X (.type "list") (fun xs H Q => ∃ p ys, xs = [.ref p] ∧ (SqL K H p ys ∨ SqT K H p ys) ∧ ∀ l, H l = none → Q (.ref l) (upd H l (.lst ys))) := by subst e; exact call_list_of
theorem pe_fldK {X : Cx} {K : PySem.W.Frag} {e : Expr} {f : Str} {pos : Pos} {ta : TE} (hK : X.K = K) (he : PE X e ta) (hb : attributeBase e f X.env (eval e X.env) = eval e X.env) : PE X (.Attribute e f pos) (tFld K ta f) := by subst hK; exact pe_fld he hb
theorem pg_tupK {X : Cx} {K : PySem.W.Frag} {pos : Pos} {es : List Expr} {k : Nat} {t : TGs} {n : Nat} (hK : X.K = K) (hc : X.calm = true) (h : PGs X es t)
    (hn : (assignEach es X.env).length = n := by rfl) (hst : (assignEach es X.env).findIdx? (·.1) = none := by rfl) : L2.PG X (.Tuple es k pos) (gTup K n t) := by subst hK; exact pg_tup hc h hn hst
end K07
namespace K07
open PySem L2
inductive Mb where
  | town | row | wishes | shelves | sent | rights | copies | ups | downs
  | rt (d : Nat) | cp (d : Nat) | up (d : Nat) | dn (d : Nat) | shelf (p : Nat) | rdr (p : Nat) | asq (p : Nat)
  deriving DecidableEq
noncomputable def Mb.ok (n m : Nat) : Mb → Prop
  | .rt d => d < n
  | .cp d => d < n
  | .up d => d < n
  | .dn d => d < n
  | .shelf p => p < m
  | .rdr p => p < m
  | .asq p => p < m
  | _ => True
noncomputable def ks (x : Str) : Key := Sum.inr x
noncomputable def tkv (A : Mb → Addr) : List (Key × V) := [(ks "row", .ref (A .row)), (ks "wishes", .ref (A .wishes)), (ks "shelves", .ref (A .shelves)), (ks "sent", .ref (A .sent)), (ks "rights", .ref (A .rights)), (ks "copies", .ref (A .copies)), (ks "ups", .ref (A .ups)), (ks "downs", .ref (A .downs))]
noncomputable def wrI : Option Nat → Int
  | none => -1
  | some w => w
noncomputable def skv (g : PG) (r q : Addr) : List (Key × V) := [(ks "number", .int g.num), (ks "writer", .int (wrI g.wr)), (ks "readers", .ref r), (ks "asked", .ref q), (ks "missing", .int g.miss)]
section
variable {A : Mb → Addr} {g : PG} {r q : Addr}
theorem tkv_row : valV (tkv A) (ks "row") = some (.ref (A .row)) := by kernel_rfl
theorem tkv_wishes : valV (tkv A) (ks "wishes") = some (.ref (A .wishes)) := by kernel_rfl
theorem tkv_shelves : valV (tkv A) (ks "shelves") = some (.ref (A .shelves)) := by kernel_rfl
theorem tkv_sent : valV (tkv A) (ks "sent") = some (.ref (A .sent)) := by kernel_rfl
theorem tkv_rights : valV (tkv A) (ks "rights") = some (.ref (A .rights)) := by kernel_rfl
theorem tkv_copies : valV (tkv A) (ks "copies") = some (.ref (A .copies)) := by kernel_rfl
theorem tkv_ups : valV (tkv A) (ks "ups") = some (.ref (A .ups)) := by kernel_rfl
theorem tkv_downs : valV (tkv A) (ks "downs") = some (.ref (A .downs)) := by kernel_rfl
theorem tkv_setSent {a : Addr} : putK (tkv A) (ks "sent") (.ref a) = tkv (setL A .sent a) := by kernel_rfl
theorem skv_number : valV (skv g r q) (ks "number") = some (.int g.num) := by kernel_rfl
theorem skv_writer : valV (skv g r q) (ks "writer") = some (.int (wrI g.wr)) := by kernel_rfl
theorem skv_readers : valV (skv g r q) (ks "readers") = some (.ref r) := by kernel_rfl
theorem skv_asked : valV (skv g r q) (ks "asked") = some (.ref q) := by kernel_rfl
theorem skv_missing : valV (skv g r q) (ks "missing") = some (.int g.miss) := by kernel_rfl
theorem skv_setNumber {n : Int} : putK (skv g r q) (ks "number") (.int n) = skv { g with num := n } r q := by kernel_rfl
theorem skv_setWriterN : putK (skv g r q) (ks "writer") (.int (-1)) = skv { g with wr := none } r q := by kernel_rfl
theorem skv_setWriterS {w : Nat} : putK (skv g r q) (ks "writer") (.int w) = skv { g with wr := some w } r q := by kernel_rfl
theorem skv_setReaders {r' : Addr} {l : List Nat} : putK (skv g r q) (ks "readers") (.ref r') = skv { g with rd := l } r' q := by kernel_rfl
theorem skv_setMissing {k : Int} : putK (skv g r q) (ks "missing") (.int k) = skv { g with miss := k } r q := by kernel_rfl
theorem skv_len : (skv g r q).length < sizeLine := by show 5 < sizeLine; decide
theorem tkv_len : (tkv A).length < sizeLine := by show 8 < sizeLine; decide
end
noncomputable def MG (A : Mb → Addr) (H : Hp) (n m : Nat) (S : TS) (se : List (Nat × Let)) : Mb → HO → Prop
  | .town, o => o = .dK (tkv A)
  | .row, o => ∃ vs, o = .lst vs ∧ RepL H vs (S.row.map RE.d)
  | .wishes, o => ∃ vs, o = .lst vs ∧ vs.length = n ∧ ∀ d, d < n → ∃ v, vs[d]? = some v ∧ WishAt H v (S.ds d).ws
  | .shelves, o => o = .lst ((List.range m).map fun p => V.ref (A (.shelf p)))
  | .sent, o => ∃ vs, o = .lst vs ∧ RepL H vs (se.map pairD)
  | .rights, o => o = .lst ((List.range n).map fun d => V.ref (A (.rt d)))
  | .copies, o => o = .lst ((List.range n).map fun d => V.ref (A (.cp d)))
  | .ups, o => o = .lst ((List.range n).map fun d => V.ref (A (.up d)))
  | .downs, o => o = .lst ((List.range n).map fun d => V.ref (A (.dn d)))
  | .rt d, o => o = .lst ((List.range m).map fun p : Nat => V.str ((S.ds d).rt p).s)
  | .cp d, o => o = .lst ((List.range m).map fun p : Nat => V.int ((S.ds d).nm p))
  | .up d, o => ∃ vs, o = .lst vs ∧ RepL H vs ((S.up d).map UL.d)
  | .dn d, o => ∃ vs, o = .lst vs ∧ RepL H vs ((S.dn d).map Let.d)
  | .shelf p, o => o = .dK (skv (S.pg p) (A (.rdr p)) (A (.asq p)))
  | .rdr p, o => o = .lst ((S.pg p).rd.map nV)
  | .asq p, o => ∃ vs, o = .lst vs ∧ RepL H vs ((S.pg p).ask.map askD)
theorem UL.flat (l : UL) : l.d.flat := by
  cases l with
  | ask p r => simp [UL.d, D.flat, D.flats]
  | ans p o => cases o <;> simp [UL.d, oD, D.flat, D.flats]
  | gave p n => simp [UL.d, D.flat, D.flats]
theorem flats_map {α : Type} {f : α → D} (h : ∀ x, (f x).flat) (l : List α) : D.flats (l.map f) := by
  induction l with
  | nil => simp [D.flats]
  | cons x l ih => simp only [List.map_cons, D.flats]; exact ⟨h x, ih⟩
theorem RE.flat (e : RE) : e.d.flat := by simp [RE.d, D.flat, D.flats]
theorem MG.mono {A : Mb → Addr} {H H' : Hp} {n m : Nat} {S : TS} {se : List (Nat × Let)} (t : TupSame H H') {x : Mb} {o : HO} (h : MG A H n m S se x o) : MG A H' n m S se x o := by
  cases x with
  | row => obtain ⟨vs, e, r⟩ := h; exact ⟨vs, e, r.tmono t (flats_map RE.flat _)⟩
  | wishes => obtain ⟨vs, e, l, k⟩ := h; exact ⟨vs, e, l, fun d hd => by obtain ⟨v, e1, e2⟩ := k d hd; exact ⟨v, e1, e2.tmono t⟩⟩
  | sent => obtain ⟨vs, e, r⟩ := h; exact ⟨vs, e, r.tmono t (pairD_flat _)⟩
  | up d => obtain ⟨vs, e, r⟩ := h; exact ⟨vs, e, r.tmono t (flats_map UL.flat _)⟩
  | dn d => obtain ⟨vs, e, r⟩ := h; exact ⟨vs, e, r.tmono t (flats_map Let.flat _)⟩
  | asq p => obtain ⟨vs, e, r⟩ := h; exact ⟨vs, e, r.tmono t (askD_flat _)⟩
  | _ => exact h
theorem MG.notup {A : Mb → Addr} {H : Hp} {n m : Nat} {S : TS} {se : List (Nat × Let)} {x : Mb} {o : HO} (h : MG A H n m S se x o) : ∀ xs, o ≠ .tup xs := by
  intro xs z
  subst z
  cases x <;> first
    | (obtain ⟨vs, e, _⟩ := h; cases e)
    | cases h
structure MirAt (H : Hp) (A : Mb → Addr) (n m : Nat) (S : TS) (se : List (Nat × Let)) : Prop where
  inj : ∀ x y : Mb, x.ok n m → y.ok n m → A x = A y → x = y
  at_ : ∀ x : Mb, x.ok n m → ∃ o, H (A x) = some o ∧ MG A H n m S se x o
structure MrF (H H' : Hp) (A : Mb → Addr) (n m : Nat) : Prop where
  kp : ∀ b o, H b = some o → (∀ x : Mb, x.ok n m → b ≠ A x) → H' b = some o
  lv : Lv H H'
theorem MrF.refl (H : Hp) (A : Mb → Addr) (n m : Nat) : MrF H H A n m := ⟨fun _ _ h _ => h, Lv.refl _⟩
noncomputable def Mv (H : Hp) (A A1 : Mb → Addr) (n m : Nat) : Prop := ∀ x : Mb, x.ok n m → A1 x = A x ∨ ((∃ p, x = .rdr p) ∧ H (A1 x) = none)
theorem Mv.refl (H : Hp) (A : Mb → Addr) (n m : Nat) : Mv H A A n m := fun _ _ => .inl rfl
theorem MrF.trans {H H1 H2 : Hp} {A A1 : Mb → Addr} {n m : Nat} (x : MrF H H1 A n m) (y : MrF H1 H2 A1 n m) (h : Mv H A A1 n m) : MrF H H2 A n m := ⟨fun b o hb hn => y.kp b o (x.kp b o hb hn) fun z hz => by
  rcases h z hz with e | ⟨_, e⟩
  · rw [e]; exact hn z hz
  · exact ne_of_none hb e, x.lv.trans y.lv⟩
theorem Mv.trans {H H1 : Hp} {A A1 A2 : Mb → Addr} {n m : Nat} (x : Mv H A A1 n m) (l : Lv H H1) (y : Mv H1 A1 A2 n m) : Mv H A A2 n m := fun z hz => by
  rcases y z hz with e | ⟨i, e⟩
  · rw [e]; exact x z hz
  · exact .inr ⟨i, l _ e⟩
theorem Mv.town {H : Hp} {A A1 : Mb → Addr} {n m : Nat} (x : Mv H A A1 n m) : A1 .town = A .town := (x .town trivial).elim id fun z => by obtain ⟨⟨p, e⟩, _⟩ := z; cases e
section
variable {H H' : Hp} {A : Mb → Addr} {n m : Nat} {S S' : TS} {se se' : List (Nat × Let)}
theorem MirAt.keep (M : MirAt H A n m S se) (t : TupSame H H') (k : ∀ x : Mb, x.ok n m → ∀ o, H (A x) = some o → H' (A x) = some o) : MirAt H' A n m S se :=
  ⟨M.inj, fun x hx => by obtain ⟨o, e, g⟩ := M.at_ x hx; exact ⟨o, k x hx o e, g.mono t⟩⟩
theorem MirAt.same (M : MirAt H A n m S se) (s : Same H H') : MirAt H' A n m S se := M.keep (same_tup s) fun x _ o e => s _ o e
theorem MrF.of_same (s : Same H H') : MrF H H' A n m := ⟨fun b o e _ => s b o e, Lv.same s⟩
theorem MrF.tups (M : MirAt H A n m S se) (f : MrF H H' A n m) : TupSame H H' := fun b xs e => f.kp b _ e fun x hx z => by
  obtain ⟨o, e1, g⟩ := M.at_ x hx
  rw [← z, e] at e1
  exact g.notup xs (Option.some.inj e1).symm
theorem MirAt.tup_ne (M : MirAt H A n m S se) {x : Mb} (hx : x.ok n m) {b : Addr} {xs : List V} (e : H b = some (.tup xs)) : b ≠ A x := fun z => by
  obtain ⟨o, e1, g⟩ := M.at_ x hx
  rw [← z, e] at e1
  exact g.notup xs (Option.some.inj e1).symm
theorem MirAt.set (M : MirAt H A n m S se) {x : Mb} (hx : x.ok n m) {o' : HO} (hg : TupSame H (upd H (A x) o') → MG A (upd H (A x) o') n m S' se' x o')
    (ho : ∀ y : Mb, y.ok n m → y ≠ x → ∀ o, MG A H n m S se y o → MG A H n m S' se' y o) : MirAt (upd H (A x) o') A n m S' se' ∧ MrF H (upd H (A x) o') A n m := by
  have t : TupSame H (upd H (A x) o') := fun b xs e => by rw [upd_ne (M.tup_ne hx e)]; exact e
  refine ⟨⟨M.inj, fun y hy => ?_⟩, ⟨fun b o e hn => by rw [upd_ne (hn x hx)]; exact e, Lv.upd⟩⟩
  by_cases e : y = x
  · subst e; exact ⟨o', upd_same, hg t⟩
  · obtain ⟨o, e1, g⟩ := M.at_ y hy
    refine ⟨o, ?_, (ho y hy e o g).mono t⟩
    rw [upd_ne fun z => e (M.inj y x hy hx z)]
    exact e1
theorem MirAt.lst_ne {x : Mb} (M : MirAt H A n m S se) (hx : x.ok n m) {b : Addr} (h : H b = none) : A x ≠ b := fun z => by
  obtain ⟨o, e1, _⟩ := M.at_ x hx
  rw [z, h] at e1; cases e1
theorem MirAt.town (M : MirAt H A n m S se) : H (A .town) = some (.dK (tkv A)) := by obtain ⟨o, e, g⟩ := M.at_ .town trivial; rw [e, show o = _ from g]
theorem MirAt.shelves (M : MirAt H A n m S se) : H (A .shelves) = some (.lst ((List.range m).map fun p => V.ref (A (.shelf p)))) := by obtain ⟨o, e, g⟩ := M.at_ .shelves trivial; rw [e, show o = _ from g]
theorem MirAt.rights (M : MirAt H A n m S se) : H (A .rights) = some (.lst ((List.range n).map fun p => V.ref (A (.rt p)))) := by obtain ⟨o, e, g⟩ := M.at_ .rights trivial; rw [e, show o = _ from g]
theorem MirAt.copies (M : MirAt H A n m S se) : H (A .copies) = some (.lst ((List.range n).map fun p => V.ref (A (.cp p)))) := by obtain ⟨o, e, g⟩ := M.at_ .copies trivial; rw [e, show o = _ from g]
theorem MirAt.ups (M : MirAt H A n m S se) : H (A .ups) = some (.lst ((List.range n).map fun p => V.ref (A (.up p)))) := by obtain ⟨o, e, g⟩ := M.at_ .ups trivial; rw [e, show o = _ from g]
theorem MirAt.downs (M : MirAt H A n m S se) : H (A .downs) = some (.lst ((List.range n).map fun p => V.ref (A (.dn p)))) := by obtain ⟨o, e, g⟩ := M.at_ .downs trivial; rw [e, show o = _ from g]
theorem MirAt.rt (M : MirAt H A n m S se) {d : Nat} (h : d < n) : H (A (.rt d)) = some (.lst ((List.range m).map fun p : Nat => V.str ((S.ds d).rt p).s)) := by obtain ⟨o, e, g⟩ := M.at_ (.rt d) h; rw [e, show o = _ from g]
theorem MirAt.cp (M : MirAt H A n m S se) {d : Nat} (h : d < n) : H (A (.cp d)) = some (.lst ((List.range m).map fun p : Nat => V.int ((S.ds d).nm p))) := by obtain ⟨o, e, g⟩ := M.at_ (.cp d) h; rw [e, show o = _ from g]
theorem MirAt.shelf (M : MirAt H A n m S se) {p : Nat} (h : p < m) : H (A (.shelf p)) = some (.dK (skv (S.pg p) (A (.rdr p)) (A (.asq p)))) := by obtain ⟨o, e, g⟩ := M.at_ (.shelf p) h; rw [e, show o = _ from g]
theorem MirAt.rdr (M : MirAt H A n m S se) {p : Nat} (h : p < m) : H (A (.rdr p)) = some (.lst ((S.pg p).rd.map nV)) := by obtain ⟨o, e, g⟩ := M.at_ (.rdr p) h; rw [e, show o = _ from g]
theorem MirAt.asq (M : MirAt H A n m S se) {p : Nat} (h : p < m) : ∃ vs, H (A (.asq p)) = some (.lst vs) ∧ RepL H vs ((S.pg p).ask.map askD) := by obtain ⟨o, e, vs, g, r⟩ := M.at_ (.asq p) h; exact ⟨vs, by rw [e, g], r⟩
theorem MirAt.up (M : MirAt H A n m S se) {d : Nat} (h : d < n) : ∃ vs, H (A (.up d)) = some (.lst vs) ∧ RepL H vs ((S.up d).map UL.d) := by obtain ⟨o, e, vs, g, r⟩ := M.at_ (.up d) h; exact ⟨vs, by rw [e, g], r⟩
theorem MirAt.dn (M : MirAt H A n m S se) {d : Nat} (h : d < n) : ∃ vs, H (A (.dn d)) = some (.lst vs) ∧ RepL H vs ((S.dn d).map Let.d) := by obtain ⟨o, e, vs, g, r⟩ := M.at_ (.dn d) h; exact ⟨vs, by rw [e, g], r⟩
theorem MirAt.row (M : MirAt H A n m S se) : ∃ vs, H (A .row) = some (.lst vs) ∧ RepL H vs (S.row.map RE.d) := by obtain ⟨o, e, vs, g, r⟩ := M.at_ .row trivial; exact ⟨vs, by rw [e, g], r⟩
theorem MirAt.sent (M : MirAt H A n m S se) : ∃ vs, H (A .sent) = some (.lst vs) ∧ RepL H vs (se.map pairD) := by obtain ⟨o, e, vs, g, r⟩ := M.at_ .sent trivial; exact ⟨vs, by rw [e, g], r⟩
theorem MirAt.wishes (M : MirAt H A n m S se) : ∃ vs, H (A .wishes) = some (.lst vs) ∧ vs.length = n ∧ ∀ d, d < n → ∃ v, vs[d]? = some v ∧ WishAt H v (S.ds d).ws := by obtain ⟨o, e, vs, g, r⟩ := M.at_ .wishes trivial; exact ⟨vs, by rw [e, g], r⟩
theorem MirAt.wrSent (M : MirAt H A n m S se) {vs : List V} (r : RepL H vs (se'.map pairD)) : MirAt (upd H (A .sent) (.lst vs)) A n m S se' ∧ MrF H (upd H (A .sent) (.lst vs)) A n m :=
  M.set (x := .sent) trivial (fun t => ⟨vs, rfl, r.tmono t (pairD_flat _)⟩) fun y _ hn o h => by cases y <;> first | exact h | exact absurd rfl hn
theorem MirAt.wrRow (M : MirAt H A n m S se) {vs : List V} {l : List RE} (r : RepL H vs (l.map RE.d)) : MirAt (upd H (A .row) (.lst vs)) A n m { S with row := l } se ∧ MrF H (upd H (A .row) (.lst vs)) A n m :=
  M.set (x := .row) trivial (fun t => ⟨vs, rfl, r.tmono t (flats_map RE.flat _)⟩) fun y _ hn o h => by cases y <;> first | exact h | exact absurd rfl hn
theorem MirAt.wrUp (M : MirAt H A n m S se) {d : Nat} (hd : d < n) {vs : List V} {l : List UL} (r : RepL H vs (l.map UL.d)) : MirAt (upd H (A (.up d)) (.lst vs)) A n m { S with up := setf S.up d l } se ∧ MrF H (upd H (A (.up d)) (.lst vs)) A n m :=
  M.set (x := .up d) hd (fun t => ⟨vs, rfl, by dsimp only; rw [setf_same]; exact r.tmono t (flats_map UL.flat _)⟩) fun y _ hn o h => by
    cases y with
    | up e =>
      have hne : e ≠ d := fun z => hn (by rw [z])
      show ∃ vs, o = .lst vs ∧ RepL H vs ((setf S.up d l e).map UL.d)
      rw [setf_ne _ _ hne]
      exact h
    | _ => exact h
theorem MirAt.wrDn (M : MirAt H A n m S se) {d : Nat} (hd : d < n) {vs : List V} {l : List Let} (r : RepL H vs (l.map Let.d)) : MirAt (upd H (A (.dn d)) (.lst vs)) A n m { S with dn := setf S.dn d l } se ∧ MrF H (upd H (A (.dn d)) (.lst vs)) A n m :=
  M.set (x := .dn d) hd (fun t => ⟨vs, rfl, by dsimp only; rw [setf_same]; exact r.tmono t (flats_map Let.flat _)⟩) fun y _ hn o h => by
    cases y with
    | dn e =>
      have hne : e ≠ d := fun z => hn (by rw [z])
      show ∃ vs, o = .lst vs ∧ RepL H vs ((setf S.dn d l e).map Let.d)
      rw [setf_ne _ _ hne]
      exact h
    | _ => exact h
theorem MirAt.wrRt (M : MirAt H A n m S se) {d : Nat} (hd : d < n) {D' : DS} (e1 : D'.nm = (S.ds d).nm) (e2 : D'.ws = (S.ds d).ws) : MirAt (upd H (A (.rt d)) (.lst ((List.range m).map fun p : Nat => V.str (D'.rt p).s))) A n m { S with ds := setf S.ds d D' } se ∧ MrF H (upd H (A (.rt d)) (.lst ((List.range m).map fun p : Nat => V.str (D'.rt p).s))) A n m :=
  M.set (x := .rt d) hd (fun t => by dsimp only [MG]; rw [setf_same]) fun y hy hn o h => by
    cases y with
    | rt e =>
      have hne : e ≠ d := fun z => hn (by rw [z])
      show o = .lst ((List.range m).map fun p : Nat => V.str ((setf S.ds d D' e).rt p).s)
      rw [setf_ne _ _ hne]
      exact h
    | cp e =>
      show o = .lst ((List.range m).map fun p : Nat => V.int ((setf S.ds d D' e).nm p))
      by_cases z : e = d
      · rw [z, setf_same, e1, ← z]; exact h
      · rw [setf_ne _ _ z]; exact h
    | wishes =>
      obtain ⟨vs, g, l, k⟩ := h
      refine ⟨vs, g, l, fun e he => ?_⟩
      obtain ⟨v, k1, k2⟩ := k e he
      refine ⟨v, k1, ?_⟩
      show WishAt H v (setf S.ds d D' e).ws
      by_cases z : e = d
      · rw [z, setf_same, e2, ← z]; exact k2
      · rw [setf_ne _ _ z]; exact k2
    | _ => exact h
theorem MirAt.wrCp (M : MirAt H A n m S se) {d : Nat} (hd : d < n) {D' : DS} (e1 : D'.rt = (S.ds d).rt) (e2 : D'.ws = (S.ds d).ws) : MirAt (upd H (A (.cp d)) (.lst ((List.range m).map fun p : Nat => V.int (D'.nm p)))) A n m { S with ds := setf S.ds d D' } se ∧ MrF H (upd H (A (.cp d)) (.lst ((List.range m).map fun p : Nat => V.int (D'.nm p)))) A n m :=
  M.set (x := .cp d) hd (fun t => by dsimp only [MG]; rw [setf_same]) fun y hy hn o h => by
    cases y with
    | cp e =>
      have hne : e ≠ d := fun z => hn (by rw [z])
      show o = .lst ((List.range m).map fun p : Nat => V.int ((setf S.ds d D' e).nm p))
      rw [setf_ne _ _ hne]
      exact h
    | rt e =>
      show o = .lst ((List.range m).map fun p : Nat => V.str ((setf S.ds d D' e).rt p).s)
      by_cases z : e = d
      · rw [z, setf_same, e1, ← z]; exact h
      · rw [setf_ne _ _ z]; exact h
    | wishes =>
      obtain ⟨vs, g, l, k⟩ := h
      refine ⟨vs, g, l, fun e he => ?_⟩
      obtain ⟨v, k1, k2⟩ := k e he
      refine ⟨v, k1, ?_⟩
      show WishAt H v (setf S.ds d D' e).ws
      by_cases z : e = d
      · rw [z, setf_same, e2, ← z]; exact k2
      · rw [setf_ne _ _ z]; exact k2
    | _ => exact h
theorem MirAt.wrWish (M : MirAt H A n m S se) {d : Nat} (hd : d < n) {vs : List V} {v : V} {o : Option W} (hv : H (A .wishes) = some (.lst vs)) (hw : WishAt H v o) :
    MirAt (upd H (A .wishes) (.lst (vs.set d v))) A n m { S with ds := setf S.ds d { S.ds d with ws := o } } se ∧ MrF H (upd H (A .wishes) (.lst (vs.set d v))) A n m := by
  obtain ⟨us, h1, h2, h3⟩ := M.wishes
  rw [hv] at h1
  cases h1
  refine M.set (x := .wishes) trivial (fun t => ⟨_, rfl, by rw [List.length_set]; exact h2, fun e he => ?_⟩) fun y hy hn o' h => ?_
  · show ∃ v', (vs.set d v)[e]? = some v' ∧ WishAt _ v' (setf S.ds d { S.ds d with ws := o } e).ws
    by_cases z : e = d
    · subst z
      exact ⟨v, by rw [List.getElem?_set_self (by lia)], by rw [setf_same]; exact hw.tmono t⟩
    · obtain ⟨v', k1, k2⟩ := h3 e he
      exact ⟨v', by rw [List.getElem?_set_ne (Ne.symm z)]; exact k1, by rw [setf_ne _ _ z]; exact k2.tmono t⟩
  · cases y with
    | wishes => exact absurd rfl hn
    | rt e =>
      show o' = .lst ((List.range m).map fun p : Nat => V.str ((setf S.ds d { S.ds d with ws := o } e).rt p).s)
      by_cases z : e = d
      · rw [z, setf_same, ← z]; exact h
      · rw [setf_ne _ _ z]; exact h
    | cp e =>
      show o' = .lst ((List.range m).map fun p : Nat => V.int ((setf S.ds d { S.ds d with ws := o } e).nm p))
      by_cases z : e = d
      · rw [z, setf_same, ← z]; exact h
      · rw [setf_ne _ _ z]; exact h
    | _ => exact h
theorem MirAt.wrShelf (M : MirAt H A n m S se) {p : Nat} (hp : p < m) {g : PG} (e1 : g.rd = (S.pg p).rd) (e2 : g.ask = (S.pg p).ask) : MirAt (upd H (A (.shelf p)) (.dK (skv g (A (.rdr p)) (A (.asq p))))) A n m { S with pg := setf S.pg p g } se ∧ MrF H (upd H (A (.shelf p)) (.dK (skv g (A (.rdr p)) (A (.asq p))))) A n m :=
  M.set (x := .shelf p) hp (fun t => by dsimp only [MG]; rw [setf_same]) fun y hy hn o h => by
    cases y with
    | shelf e =>
      have hne : e ≠ p := fun z => hn (by rw [z])
      show o = .dK (skv (setf S.pg p g e) _ _)
      rw [setf_ne _ _ hne]; exact h
    | rdr e =>
      show o = .lst ((setf S.pg p g e).rd.map nV)
      by_cases z : e = p
      · rw [z, setf_same, e1, ← z]; exact h
      · rw [setf_ne _ _ z]; exact h
    | asq e =>
      show ∃ vs, o = .lst vs ∧ RepL H vs ((setf S.pg p g e).ask.map askD)
      by_cases z : e = p
      · rw [z, setf_same, e2, ← z]; exact h
      · rw [setf_ne _ _ z]; exact h
    | _ => exact h
theorem MirAt.wrRdr (M : MirAt H A n m S se) {p : Nat} (hp : p < m) {l : List Nat} : MirAt (upd H (A (.rdr p)) (.lst (l.map nV))) A n m { S with pg := setf S.pg p { S.pg p with rd := l } } se ∧ MrF H (upd H (A (.rdr p)) (.lst (l.map nV))) A n m :=
  M.set (x := .rdr p) hp (fun t => by dsimp only [MG]; rw [setf_same]) fun y hy hn o h => by
    cases y with
    | rdr e =>
      have hne : e ≠ p := fun z => hn (by rw [z])
      show o = .lst ((setf S.pg p _ e).rd.map nV)
      rw [setf_ne _ _ hne]; exact h
    | shelf e =>
      show o = .dK (skv (setf S.pg p _ e) _ _)
      by_cases z : e = p
      · rw [z, setf_same, ← z]; exact h
      · rw [setf_ne _ _ z]; exact h
    | asq e =>
      show ∃ vs, o = .lst vs ∧ RepL H vs ((setf S.pg p _ e).ask.map askD)
      by_cases z : e = p
      · rw [z, setf_same, ← z]; exact h
      · rw [setf_ne _ _ z]; exact h
    | _ => exact h
theorem MirAt.wrAsq (M : MirAt H A n m S se) {p : Nat} (hp : p < m) {vs : List V} {l : List (Nat × Rt)} (r : RepL H vs (l.map askD)) : MirAt (upd H (A (.asq p)) (.lst vs)) A n m { S with pg := setf S.pg p { S.pg p with ask := l } } se ∧ MrF H (upd H (A (.asq p)) (.lst vs)) A n m :=
  M.set (x := .asq p) hp (fun t => ⟨vs, rfl, by dsimp only; rw [setf_same]; exact r.tmono t (askD_flat _)⟩) fun y hy hn o h => by
    cases y with
    | asq e =>
      have hne : e ≠ p := fun z => hn (by rw [z])
      show ∃ vs, o = .lst vs ∧ RepL H vs ((setf S.pg p _ e).ask.map askD)
      rw [setf_ne _ _ hne]; exact h
    | shelf e =>
      show o = .dK (skv (setf S.pg p _ e) _ _)
      by_cases z : e = p
      · rw [z, setf_same, ← z]; exact h
      · rw [setf_ne _ _ z]; exact h
    | rdr e =>
      show o = .lst ((setf S.pg p _ e).rd.map nV)
      by_cases z : e = p
      · rw [z, setf_same, ← z]; exact h
      · rw [setf_ne _ _ z]; exact h
    | _ => exact h
theorem MirAt.move (M : MirAt H A n m S se) {x y : Mb} (hx : x.ok n m) (hy : y.ok n m) (hxy : x ≠ y) {a : Addr} {o o' : HO} (ha : H a = none)
    (gx : MG (setL A x a) H n m S' se' x o) (gy : MG (setL A x a) H n m S' se' y o')
    (ho : ∀ z : Mb, z.ok n m → z ≠ x → z ≠ y → ∀ o, MG A H n m S se z o → MG (setL A x a) H n m S' se' z o) :
    MirAt (upd (upd H a o) (A y) o') (setL A x a) n m S' se' ∧ MrF H (upd (upd H a o) (A y) o') A n m ∧ ∀ z : Mb, z.ok n m → setL A x a z = A z ∨ (z = x ∧ H (setL A x a z) = none) := by
  have na : ∀ z : Mb, z.ok n m → A z ≠ a := fun z hz => M.lst_ne hz ha
  have t1 : TupSame H (upd H a o) := same_tup (same_new ha)
  have t2 : TupSame H (upd (upd H a o) (A y) o') := fun b xs e => by rw [upd_ne (M.tup_ne hy e)]; exact t1 b xs e
  refine ⟨⟨inj_add M.inj na fun z hz => .inr hz, fun z hz => ?_⟩, ⟨fun b u e hn => ?_, Lv.upd.trans Lv.upd⟩, fun z hz => ?_⟩
  · by_cases e1 : z = x
    · subst e1
      refine ⟨o, ?_, gx.mono t2⟩
      rw [setL_same, upd_ne (na y hy).symm, upd_same]
    · rw [setL_ne _ _ e1]
      by_cases e2 : z = y
      · subst e2
        exact ⟨o', upd_same, gy.mono t2⟩
      · obtain ⟨u, h1, h2⟩ := M.at_ z hz
        refine ⟨u, ?_, (ho z hz e1 e2 u h2).mono t2⟩
        rw [upd_ne fun q => e2 (M.inj z y hz hy q), upd_ne (na z hz)]
        exact h1
  · rw [upd_ne (hn y hy), upd_ne (ne_of_none e ha)]; exact e
  · by_cases e1 : z = x
    · rw [e1, setL_same]; exact .inr ⟨rfl, ha⟩
    · rw [setL_ne _ _ e1]; exact .inl rfl
theorem MirAt.newRdr (M : MirAt H A n m S se) {p : Nat} (hp : p < m) {a : Addr} (ha : H a = none) {l : List Nat} :
    MirAt (upd (upd H a (.lst (l.map nV))) (A (.shelf p)) (.dK (skv { S.pg p with rd := l } a (A (.asq p))))) (setL A (.rdr p) a) n m { S with pg := setf S.pg p { S.pg p with rd := l } } se ∧
    MrF H (upd (upd H a (.lst (l.map nV))) (A (.shelf p)) (.dK (skv { S.pg p with rd := l } a (A (.asq p))))) A n m ∧ Mv H A (setL A (.rdr p) a) n m := by
  have q := M.move (S' := { S with pg := setf S.pg p { S.pg p with rd := l } }) (se' := se) (x := .rdr p) (y := .shelf p) hp hp (by intro z; cases z) ha (o := .lst (l.map nV)) (o' := .dK (skv { S.pg p with rd := l } a (A (.asq p)))) ?_ ?_ fun z hz n1 n2 o h => ?_
  · exact ⟨q.1, q.2.1, fun z hz => (q.2.2 z hz).imp id fun e => ⟨⟨p, e.1⟩, e.2⟩⟩
  · dsimp only [MG]; rw [setf_same]
  · dsimp only [MG]; rw [setf_same, setL_same, setL_ne _ _ (by intro z; cases z)]
  · cases z with
    | rdr e =>
      have hne : e ≠ p := fun z => n1 (by rw [z])
      show o = .lst ((setf S.pg p _ e).rd.map nV)
      rw [setf_ne _ _ hne]; exact h
    | shelf e =>
      have hne : e ≠ p := fun z => n2 (by rw [z])
      show o = .dK (skv (setf S.pg p _ e) _ _)
      rw [setf_ne _ _ hne, setL_ne _ _ (by intro z; cases z; exact hne rfl), setL_ne _ _ (by intro z; cases z)]; exact h
    | asq e =>
      show ∃ vs, o = .lst vs ∧ RepL H vs ((setf S.pg p _ e).ask.map askD)
      by_cases z : e = p
      · rw [z, setf_same, ← z]; exact h
      · rw [setf_ne _ _ z]; exact h
    | _ => exact h
theorem MirAt.newSent (M : MirAt H A n m S se) {a : Addr} (ha : H a = none) :
    MirAt (upd (upd H a (.lst [])) (A .town) (.dK (tkv (setL A .sent a)))) (setL A .sent a) n m S [] ∧
    MrF H (upd (upd H a (.lst [])) (A .town) (.dK (tkv (setL A .sent a)))) A n m := by
  have q := M.move (S' := S) (se' := []) (x := .sent) (y := .town) trivial trivial (by intro z; cases z) ha (o := .lst []) (o' := .dK (tkv (setL A .sent a))) ⟨[], rfl, by simp [RepL]⟩ rfl fun z hz n1 n2 o h => ?_
  · exact ⟨q.1, q.2.1⟩
  · cases z with
    | town => exact absurd rfl n2
    | sent => exact absurd rfl n1
    | _ => exact h
end
end K07
namespace K07
open PySem L2
theorem serveN_mu : ∀ (k : Nat) (g : PG) (p : Nat), (serveN k g p).1.mu ≤ g.mu
  | 0, g, p => Nat.le_refl _
  | k + 1, g, p => by
    rw [serveN]
    split
    · exact Nat.le_trans (serveN_mu k g.lent p) g.lent_mu
    · exact Nat.le_refl _
theorem PG.serve_mu (g : PG) (p : Nat) : (g.serve p).1.mu ≤ g.mu := serveN_mu _ g p
theorem wBids_len' (g : PG) (p d : Nat) (x : Rt) : (wBids g p d x).length ≤ 1 := by
  unfold wBids
  split
  · split <;> simp
  · simp
theorem bids_len' (g : PG) (p : Nat) : (g.bids p).length ≤ g.rd.length + 1 := by
  unfold PG.bids
  split
  · simp
  · rename_i a r l _
    rw [List.length_append]
    have h1 := wBids_len' g p a r
    have h2 : (rBids g p a r).length ≤ g.rd.length := by
      unfold rBids
      split
      · rw [List.length_map]; exact List.length_filter_le _ _
      · simp
    lia
theorem serveN_len : ∀ (k : Nat) (g : PG) (p : Nat), (serveN k g p).2.length ≤ k + g.mu + 1
  | 0, g, p => by simp [serveN]
  | k + 1, g, p => by
    rw [serveN]
    split
    · have := serveN_len k g.lent p
      have h2 := g.lent_mu
      have h3 : (g.lend1 p).length ≤ 1 := by unfold PG.lend1; split <;> simp
      simp only [List.length_append]
      lia
    · have := bids_len' g p
      simp only
      unfold PG.mu
      lia
theorem serve_len' (g : PG) (p : Nat) : (g.serve p).2.length ≤ 2 * g.mu + 1 := by
  have := serveN_len g.ask.length g p
  unfold PG.serve
  have h2 : g.ask.length ≤ g.mu := by unfold PG.mu; lia
  lia
theorem PG.take_mu (g : PG) (p d : Nat) (l : UL) : (g.take p d l).1.mu ≤ g.mu + 2 ∧ (g.take p d l).2.length ≤ 2 * g.mu + 6 := by
  cases l with
  | ask q r =>
    simp only [PG.take]
    split
    · rename_i e
      have e1 : ({ g with ask := [(d, r)] } : PG).mu = g.mu + 2 := by unfold PG.mu; rw [e]; simp
      have h1 := PG.serve_mu { g with ask := [(d, r)] } p
      have h2 := serve_len' { g with ask := [(d, r)] } p
      lia
    · refine ⟨?_, by simp⟩
      unfold PG.mu; simp; lia
  | ans q o =>
    simp only [PG.take]
    split
    · generalize hg : ({ g with num := o.getD g.num, miss := g.miss - 1 } : PG) = g2
      have e1 : g2.mu = g.mu := by rw [← hg]; rfl
      have h1 := PG.serve_mu g2.lent p
      have h2 := serve_len' g2.lent p
      have h3 := g2.lent_mu
      have h4 : (g2.lend1 p).length ≤ 1 := by unfold PG.lend1; split <;> simp
      simp only [List.length_append]
      lia
    · refine ⟨?_, by simp⟩
      show g.mu ≤ _; lia
  | gave q x =>
    simp only [PG.take]
    refine ⟨?_, by simp⟩
    show g.mu ≤ _; lia
noncomputable def Bt (t : Nat) : Nat := 4 * (t * t) + 20 * t
theorem Bt_succ (t : Nat) : Bt (t + 1) = Bt t + 8 * t + 24 := by
  by_cases h : True
  · unfold Bt
    have e : (t + 1) * (t + 1) = t * t + 2 * t + 1 := by rw [Nat.add_mul, Nat.mul_add]; lia
    rw [e]; lia
  · exact absurd trivial h
theorem Bt_le {t : Nat} (h : t ≤ 1500) : Bt t ≤ 9030000 := by
  unfold Bt
  have : t * t ≤ 1500 * 1500 := Nat.mul_le_mul h h
  lia
structure Bd (t : Nat) (S : TS) (se : List (Nat × Let)) : Prop where
  mu : ∀ p, (S.pg p).mu ≤ 2 * t
  up : ∀ d, (S.up d).length ≤ t
  row : S.row.length ≤ t
  dn : ∀ d, (S.dn d).length ≤ Bt t
  se : se.length ≤ Bt t
theorem Bd.more {t t' : Nat} {S : TS} {se : List (Nat × Let)} (b : Bd t S se) (h : t ≤ t') : Bd t' S se := by
  have hm : Bt t ≤ Bt t' := by unfold Bt; have := Nat.mul_le_mul h h; lia
  exact ⟨fun p => Nat.le_trans (b.mu p) (by lia), fun d => Nat.le_trans (b.up d) h, Nat.le_trans b.row h, fun d => Nat.le_trans (b.dn d) hm, Nat.le_trans b.se hm⟩
noncomputable def TS.sentB (S : TS) (n : Nat) : Deed → List (Nat × Let)
  | .up d => if inR d n then (match S.up d.toNat with | [] => [] | l :: _ => ((S.pg l.pg).take l.pg d.toNat l).2) else []
  | _ => []
theorem Bd.desk {t d : Nat} {S : TS} {se : List (Nat × Let)} {z : DS × List Ev × List UL} (b : Bd t S se) (h1 : z.2.1.length ≤ 1) (h2 : z.2.2.length ≤ 1) : Bd (t + 1) (S.desk d z) se := by
  have b' := b.more (Nat.le_succ t)
  refine ⟨b'.mu, fun e => ?_, ?_, b'.dn, b'.se⟩
  · show (setf S.up d (S.up d ++ z.2.2) e).length ≤ _
    by_cases y : e = d
    · rw [y, setf_same, List.length_append]; have := b.up d; lia
    · rw [setf_ne _ _ y]; exact b'.up e
  · show (addRow S.row d z.2.1).length ≤ _
    unfold addRow
    rw [List.length_append, List.length_map]
    have := b.row; lia
theorem DS.wantR_len (S : DS) (w : W) (p : Nat) : (S.wantR w p).2.1.length ≤ 1 ∧ (S.wantR w p).2.2.length ≤ 1 := by unfold DS.wantR; split <;> simp
theorem DS.loanR_len (S : DS) (p : Int) (r : Rt) (x : Int) : (S.loanR p r x).2.length ≤ 1 := by
  unfold DS.loanR
  split
  · simp
  · split <;> simp
theorem DS.takeR_len (S : DS) (l : Let) : (S.takeR l).2.1.length ≤ 1 ∧ (S.takeR l).2.2.length ≤ 1 := by
  cases l with
  | lend p r x => exact ⟨S.loanR_len p r x, by simp [DS.takeR]⟩
  | back p r => simp [DS.takeR]
theorem Bd.step {t n m : Nat} {S : TS} {se : List (Nat × Let)} (b : Bd t S se) (x : Deed) : Bd (t + 1) (S.step n m x).1 (se ++ S.sentB n x) := by
  have b' := b.more (Nat.le_succ t)
  have bn : ∀ {T : TS}, Bd (t + 1) T se → Bd (t + 1) T (se ++ []) := fun {T} h => by rw [List.append_nil]; exact h
  cases x with
  | up d =>
    simp only [TS.step, TS.sentB]
    split
    · unfold TS.upD
      cases e : S.up d.toNat with
      | nil => exact bn b'
      | cons l r =>
        obtain ⟨h1, h2⟩ := (S.pg l.pg).take_mu l.pg d.toNat l
        have hm := b.mu l.pg
        refine ⟨fun p => ?_, fun e' => ?_, b'.row, fun e' => ?_, ?_⟩
        · show (setf S.pg l.pg _ p).mu ≤ _
          by_cases y : p = l.pg
          · rw [y, setf_same]; lia
          · rw [setf_ne _ _ y]; exact b'.mu p
        · show (setf S.up d.toNat r e').length ≤ _
          by_cases y : e' = d.toNat
          · rw [y, setf_same]; have := b.up d.toNat; rw [e] at this; simp at this; lia
          · rw [setf_ne _ _ y]; exact b'.up e'
        · show (post S.dn _ e').length ≤ _
          have h3 := post_len S.dn ((S.pg l.pg).take l.pg d.toNat l).2 e'
          have h4 := b.dn e'
          rw [Bt_succ]; lia
        · show (se ++ ((S.pg l.pg).take l.pg d.toNat l).2).length ≤ _
          rw [List.length_append]
          have h4 := b.se
          rw [Bt_succ]; lia
    · exact bn b'
  | down d =>
    simp only [TS.step, TS.sentB]
    split
    · unfold TS.downD
      cases e : S.dn d.toNat with
      | nil => exact bn b'
      | cons l r =>
        have b1 : Bd t { S with dn := setf S.dn d.toNat r } se := ⟨b.mu, b.up, b.row, fun e' => by
          show (setf S.dn d.toNat r e').length ≤ _
          by_cases y : e' = d.toNat
          · rw [y, setf_same]; have := b.dn d.toNat; rw [e] at this; simp at this; lia
          · rw [setf_ne _ _ y]; exact b.dn e', b.se⟩
        exact bn (b1.desk (DS.takeR_len _ _).1 (DS.takeR_len _ _).2)
    · exact bn b'
  | rest d p =>
    simp only [TS.step, TS.sentB]
    refine bn ?_
    split
    · split
      · split
        · exact b'
        · exact b.desk (by simp) (by dsimp only; split <;> simp)
      · exact b'
    · exact b'
  | look d p =>
    simp only [TS.step, TS.sentB]
    refine bn ?_
    split
    · split
      · unfold TS.wish
        split
        · exact b'
        · exact b.desk (DS.wantR_len _ _ _).1 (DS.wantR_len _ _ _).2
      · exact b'
    · exact b'
  | put d p y =>
    simp only [TS.step, TS.sentB]
    refine bn ?_
    split
    · split
      · unfold TS.wish
        split
        · exact b'
        · exact b.desk (DS.wantR_len _ _ _).1 (DS.wantR_len _ _ _).2
      · exact b'
    · exact b'
end K07
namespace L2
open PySem
variable {X : Cx}
theorem Vals.get2 : ∀ {xs : List V} {us : List Value} {i : Nat} (_ : Vals xs us) (h1 : i < xs.length) (h2 : i < us.length), RelV xs[i] us[i]
  | _, _, 0, .cons r _, _, _ => r
  | _, _, i + 1, .cons _ t, h1, h2 => Vals.get2 t (Nat.lt_of_succ_lt_succ h1) (Nat.lt_of_succ_lt_succ h2)
noncomputable def rEqT (K : PySem.W.Frag) : R2 := fun x y H Q => ∃ a b xs ys, x = .ref a ∧ y = .ref b ∧ SqT K H a xs ∧ SqT K H b ys ∧ xs.all flatV = true ∧ ys.all flatV = true ∧ ∀ z : Bool, Q (.bl z) H
theorem op_eqSeq (hu : X.A.units < cLine) : OpR X (compareOp .Eq) (rEqT X.K) := by
  intro pins s σ H x y v u Q I rx ry h
  obtain ⟨a, b, xs, ys, rfl, rfl, ha, hb, fx, fy, q⟩ := h
  cases rx
  cases ry
  obtain ⟨its, r, pl, z⟩ := I.tuple ha
  obtain ⟨its2, r2, pl2, z2⟩ := I.tuple hb
  have l1 := r.length
  have l2 := r2.length
  refine SeqAt.eq_tupleAt (e := fun j => if h : j < xs.length ∧ j < ys.length then eqV (xs[j]'h.1) (ys[j]'h.2) else false) pl pl2 hu (fun j h1 h2 => ?_) ⟨.bl _, H, I, rfl, q _⟩
  have g1 : j < xs.length := by rw [l1]; simpa using h1
  have g2 : j < ys.length := by rw [l2]; simpa using h2
  rw [dif_pos ⟨g1, g2⟩]
  have k1 : RelV xs[j] its.toArray[j] := by have := Vals.get2 r g1 (by rw [← l1]; exact g1); simpa using this
  have k2 : RelV ys[j] its2.toArray[j] := by have := Vals.get2 r2 g2 (by rw [← l2]; exact g2); simpa using this
  exact eqAt_V k1 k2 (List.all_eq_true.mp fx _ (List.getElem_mem g1)) (List.all_eq_true.mp fy _ (List.getElem_mem g2))
end L2
namespace K07
open PySem L2
theorem len1 {us : List Value} (h : us.length = 1) : ∃ a0, us = [a0] := by
  match us, h with
  | [_], _ => exact ⟨_, rfl⟩
theorem len2 {us : List Value} (h : us.length = 2) : ∃ a0 a1, us = [a0, a1] := by
  match us, h with
  | [_, _], _ => exact ⟨_, _, rfl⟩
theorem len3 {us : List Value} (h : us.length = 3) : ∃ a0 a1 a2, us = [a0, a1, a2] := by
  match us, h with
  | [_, _, _], _ => exact ⟨_, _, _, rfl⟩
end K07
namespace K07
open PySem L2
section
variable {K : PySem.W.Frag} {i j : Nat} {x y v : V} {σ : St} {H : Hp} {Q : VK} {a b : Addr} {xs : List V} {k : Int}
theorem zt (h : σ[i]? = some (some (.ref b))) (hb : SqT K H b xs) (hv : atI xs k = some v) (q : Q v H) : tOp (rIxT K) (tVar i) (tC (.int k)) σ H Q := ⟨_, h, b, xs, k, v, rfl, rfl, hb, hv, q⟩
theorem zd (h : σ[i]? = some (some (.ref a))) (hd : DGet H a y (some v)) (q : Q v H) : tDGet (tVar i) (tC y) σ H Q := ⟨_, h, a, v, rfl, hd, q⟩
theorem zdl (h : σ[i]? = some (some (.ref a))) (hd : DGet H a y (some (.ref b))) (hj : σ[j]? = some (some (.int k))) (hl : SqL K H b xs) (hv : atI xs k = some v) (q : Q v H) : tOp (rIxL K) (tDGet (tVar i) (tC y)) (tVar j) σ H Q := ⟨_, h, a, _, rfl, hd, _, hj, b, xs, k, v, rfl, rfl, hl, hv, q⟩
theorem zl (hj : σ[j]? = some (some (.int k))) (hl : SqL K H b xs) (hv : atI xs k = some v) (q : Q v H) : tVar j σ H (fun y H2 => rIxL K (.ref b) y H2 Q) := ⟨_, hj, b, xs, k, v, rfl, rfl, hl, hv, q⟩
end
end K07
namespace K07
open PySem L2
noncomputable def top (i : Nat) : Stmt := PySem.Challenge.pw_copydesks_k09_what_the_hall_sends.main.body.getD i (.Pass ⟨0, 0, 0, 0⟩)
noncomputable abbrev s_lend_letter : Stmt := top 4
noncomputable abbrev s_back_letter : Stmt := top 5
noncomputable abbrev s_PageLoans_init : Stmt := inClass (top 7) 0
noncomputable abbrev s_PageLoans_take_ask : Stmt := inClass (top 7) 1
noncomputable abbrev s_PageLoans_take_answer : Stmt := inClass (top 7) 2
noncomputable abbrev s_PageLoans_take_gave : Stmt := inClass (top 7) 3
noncomputable abbrev s_PageLoans_serve : Stmt := inClass (top 7) 4
noncomputable abbrev s_PageLoans_bids_for_first : Stmt := inClass (top 7) 5
noncomputable abbrev s_PageLoans_lend : Stmt := inClass (top 7) 6
noncomputable abbrev s_PageLoans_let_write : Stmt := inClass (top 7) 7
noncomputable abbrev s_PageLoans_let_read : Stmt := inClass (top 7) 8
noncomputable abbrev s_Hall_init : Stmt := inClass (top 8) 0
noncomputable abbrev s_Hall_take : Stmt := inClass (top 8) 1
noncomputable abbrev s_taken_by_hall : Stmt := top 9
noncomputable abbrev s_l_whole : Stmt := top 11
noncomputable abbrev s_l_at : Stmt := top 12
noncomputable abbrev s_l_same : Stmt := top 13
noncomputable abbrev s_l_town_of : Stmt := top 14
noncomputable abbrev s_l_bid : Stmt := top 15
noncomputable abbrev s_l_lend_out : Stmt := top 16
noncomputable abbrev s_l_serve : Stmt := top 17
noncomputable abbrev s_l_came_up : Stmt := top 18
noncomputable abbrev s_l_enough : Stmt := top 19
noncomputable abbrev s_l_fulfilled : Stmt := top 20
noncomputable abbrev s_l_came_down : Stmt := top 21
noncomputable abbrev s_l_refusal_of : Stmt := top 22
noncomputable abbrev s_l_answered : Stmt := top 23
noncomputable abbrev s_l_numbers_of : Stmt := top 24
noncomputable abbrev s_l_first_deeds : Stmt := top 25
noncomputable abbrev s_l_asked_of : Stmt := top 26
noncomputable abbrev s_l_lends : Stmt := top 27
noncomputable abbrev s_law : Stmt := top 28
theorem sc_lend_letter : FnScope ["page", "right", "number"] ["page", "right", "number"] (defScope s_lend_letter) := ⟨rfl, rfl, rfl, by decide +kernel, rfl, by decide +kernel, by decide +kernel⟩
theorem sc_back_letter : FnScope ["page", "right"] ["page", "right"] (defScope s_back_letter) := ⟨rfl, rfl, rfl, by decide +kernel, rfl, by decide +kernel, by decide +kernel⟩
theorem sc_PageLoans_init : FnScope ["self", "page", "number"] ["self", "page", "number"] (defScope s_PageLoans_init) := ⟨rfl, rfl, rfl, by decide +kernel, rfl, by decide +kernel, by decide +kernel⟩
theorem sc_PageLoans_take_ask : FnScope ["self", "desk", "right"] ["self", "desk", "right"] (defScope s_PageLoans_take_ask) := ⟨rfl, rfl, rfl, by decide +kernel, rfl, by decide +kernel, by decide +kernel⟩
theorem sc_PageLoans_take_answer : FnScope ["self", "number"] ["self", "number"] (defScope s_PageLoans_take_answer) := ⟨rfl, rfl, rfl, by decide +kernel, rfl, by decide +kernel, by decide +kernel⟩
theorem sc_PageLoans_take_gave : FnScope ["self", "desk", "number"] ["self", "desk", "number"] (defScope s_PageLoans_take_gave) := ⟨rfl, rfl, rfl, by decide +kernel, rfl, by decide +kernel, by decide +kernel⟩
theorem sc_PageLoans_serve : FnScope ["self", "sent", "bids"] ["self"] (defScope s_PageLoans_serve) := ⟨rfl, rfl, rfl, by decide +kernel, rfl, by decide +kernel, by decide +kernel⟩
theorem sc_PageLoans_bids_for_first : FnScope ["self", "asking", "right", "bids"] ["self"] (defScope s_PageLoans_bids_for_first) := ⟨rfl, rfl, rfl, by decide +kernel, rfl, by decide +kernel, by decide +kernel⟩
theorem sc_PageLoans_lend : FnScope ["self", "first"] ["self"] (defScope s_PageLoans_lend) := ⟨rfl, rfl, rfl, by decide +kernel, rfl, by decide +kernel, by decide +kernel⟩
theorem sc_PageLoans_let_write : FnScope ["self", "desk"] ["self", "desk"] (defScope s_PageLoans_let_write) := ⟨rfl, rfl, rfl, by decide +kernel, rfl, by decide +kernel, by decide +kernel⟩
theorem sc_PageLoans_let_read : FnScope ["self", "desk"] ["self", "desk"] (defScope s_PageLoans_let_read) := ⟨rfl, rfl, rfl, by decide +kernel, rfl, by decide +kernel, by decide +kernel⟩
theorem sc_Hall_init : FnScope ["self", "numbers"] ["self", "numbers"] (defScope s_Hall_init) := ⟨rfl, rfl, rfl, by decide +kernel, rfl, by decide +kernel, by decide +kernel⟩
theorem sc_Hall_take : FnScope ["self", "desk", "letter", "loans"] ["self", "desk", "letter"] (defScope s_Hall_take) := ⟨rfl, rfl, rfl, by decide +kernel, rfl, by decide +kernel, by decide +kernel⟩
theorem sc_taken_by_hall : FnScope ["hall", "letters"] ["hall", "letters"] (defScope s_taken_by_hall) := ⟨rfl, rfl, rfl, by decide +kernel, rfl, by decide +kernel, by decide +kernel⟩
theorem sc_l_whole : FnScope ["_law_found"] ["_law_found"] (defScope s_l_whole) := ⟨rfl, rfl, rfl, by decide +kernel, rfl, by decide +kernel, by decide +kernel⟩
theorem sc_l_at : FnScope ["_law_script", "_law_k"] ["_law_script", "_law_k"] (defScope s_l_at) := ⟨rfl, rfl, rfl, by decide +kernel, rfl, by decide +kernel, by decide +kernel⟩
theorem sc_l_same : FnScope ["_law_found", "_law_due", "_law_left", "_law_right", "_law_one", "_law_two"] ["_law_found", "_law_due"] (defScope s_l_same) := ⟨rfl, rfl, rfl, by decide +kernel, rfl, by decide +kernel, by decide +kernel⟩
theorem sc_l_town_of : FnScope ["_law_count", "_law_numbers", "_law_town", "_law_number", "_law_shelf"] ["_law_count", "_law_numbers"] (defScope s_l_town_of) := ⟨rfl, rfl, rfl, by decide +kernel, rfl, by decide +kernel, by decide +kernel⟩
theorem sc_l_bid : FnScope ["_law_town", "_law_page", "_law_shelf", "_law_desk", "_law_right", "_law_bids", "_law_one", "_law_low"] ["_law_town", "_law_page"] (defScope s_l_bid) := ⟨rfl, rfl, rfl, by decide +kernel, rfl, by decide +kernel, by decide +kernel⟩
theorem sc_l_lend_out : FnScope ["_law_town", "_law_page", "_law_shelf", "_law_desk", "_law_right", "_law_letter"] ["_law_town", "_law_page"] (defScope s_l_lend_out) := ⟨rfl, rfl, rfl, by decide +kernel, rfl, by decide +kernel, by decide +kernel⟩
theorem sc_l_serve : FnScope ["_law_town", "_law_page", "_law_shelf"] ["_law_town", "_law_page"] (defScope s_l_serve) := ⟨rfl, rfl, rfl, by decide +kernel, rfl, by decide +kernel, by decide +kernel⟩
theorem sc_l_came_up : FnScope ["_law_town", "_law_desk", "_law_letter", "_law_shelf"] ["_law_town", "_law_desk"] (defScope s_l_came_up) := ⟨rfl, rfl, rfl, by decide +kernel, rfl, by decide +kernel, by decide +kernel⟩
theorem sc_l_enough : FnScope ["_law_right", "_law_wish"] ["_law_right", "_law_wish"] (defScope s_l_enough) := ⟨rfl, rfl, rfl, by decide +kernel, rfl, by decide +kernel, by decide +kernel⟩
theorem sc_l_fulfilled : FnScope ["_law_town", "_law_desk", "_law_wish", "_law_number"] ["_law_town", "_law_desk", "_law_wish"] (defScope s_l_fulfilled) := ⟨rfl, rfl, rfl, by decide +kernel, rfl, by decide +kernel, by decide +kernel⟩
theorem sc_l_came_down : FnScope ["_law_town", "_law_desk", "_law_letter", "_law_page", "_law_held", "_law_wish", "_law_number"] ["_law_town", "_law_desk"] (defScope s_l_came_down) := ⟨rfl, rfl, rfl, by decide +kernel, rfl, by decide +kernel, by decide +kernel⟩
theorem sc_l_refusal_of : FnScope ["_law_town", "_law_deed", "_law_desk"] ["_law_town", "_law_deed"] (defScope s_l_refusal_of) := ⟨rfl, rfl, rfl, by decide +kernel, rfl, by decide +kernel, by decide +kernel⟩
theorem sc_l_answered : FnScope ["_law_town", "_law_deed", "_law_word", "_law_desk", "_law_right", "_law_wish", "_law_number"] ["_law_town", "_law_deed"] (defScope s_l_answered) := ⟨rfl, rfl, rfl, by decide +kernel, rfl, by decide +kernel, by decide +kernel⟩
theorem sc_l_numbers_of : FnScope ["_law_cell", "_law_pages", "_law_far", "_law_some"] ["_law_cell", "_law_pages"] (defScope s_l_numbers_of) := ⟨rfl, rfl, rfl, by decide +kernel, rfl, by decide +kernel, by decide +kernel⟩
theorem sc_l_first_deeds : FnScope ["_law_count", "_law_cell", "_law_last", "_law_flush", "_law_desk", "_law_deeds"] ["_law_count", "_law_cell"] (defScope s_l_first_deeds) := ⟨rfl, rfl, rfl, by decide +kernel, rfl, by decide +kernel, by decide +kernel⟩
theorem sc_l_asked_of : FnScope ["_law_cells", "_law_count", "_law_pages", "_law_words", "_law_asked", "_law_k", "_law_rest", "_law_salt", "_law_far", "_law_word", "_law_desk", "_law_page", "_law_odd", "_law_number", "_law_much"] ["_law_cells", "_law_count", "_law_pages"] (defScope s_l_asked_of) := ⟨rfl, rfl, rfl, by decide +kernel, rfl, by decide +kernel, by decide +kernel⟩
theorem sc_l_lends : FnScope ["_law_hall", "_law_page", "_law_number", "_law_lent"] ["_law_hall", "_law_page", "_law_number"] (defScope s_l_lends) := ⟨rfl, rfl, rfl, by decide +kernel, rfl, by decide +kernel, by decide +kernel⟩
theorem sc_law : FnScope ["_law_script", "_law_head", "_law_count", "_law_pages", "_law_numbers", "_law_asked", "_law_town", "_law_ones", "_law_hall", "_law_spare", "_law_kept", "_law_most", "_law_came", "_law_due", "_law_deed", "_law_letter", "_law_found"] ["_law_script"] (defScope s_law) := ⟨rfl, rfl, rfl, by decide +kernel, rfl, by decide +kernel, by decide +kernel⟩
set_option genInjectivity false in
set_option genSizeOf false in
structure Adr where
  C_PageLoans : Addr
  C_Hall : Addr
  f_lend_letter : Addr
  fd_lend_letter : FuncData
  f_back_letter : Addr
  fd_back_letter : FuncData
  f_PageLoans_init : Addr
  fd_PageLoans_init : FuncData
  f_PageLoans_take_ask : Addr
  fd_PageLoans_take_ask : FuncData
  f_PageLoans_take_answer : Addr
  fd_PageLoans_take_answer : FuncData
  f_PageLoans_take_gave : Addr
  fd_PageLoans_take_gave : FuncData
  f_PageLoans_serve : Addr
  fd_PageLoans_serve : FuncData
  f_PageLoans_bids_for_first : Addr
  fd_PageLoans_bids_for_first : FuncData
  f_PageLoans_lend : Addr
  fd_PageLoans_lend : FuncData
  f_PageLoans_let_write : Addr
  fd_PageLoans_let_write : FuncData
  f_PageLoans_let_read : Addr
  fd_PageLoans_let_read : FuncData
  f_Hall_init : Addr
  fd_Hall_init : FuncData
  f_Hall_take : Addr
  fd_Hall_take : FuncData
  f_taken_by_hall : Addr
  fd_taken_by_hall : FuncData
  f_l_whole : Addr
  fd_l_whole : FuncData
  f_l_at : Addr
  fd_l_at : FuncData
  f_l_same : Addr
  fd_l_same : FuncData
  f_l_town_of : Addr
  fd_l_town_of : FuncData
  f_l_bid : Addr
  fd_l_bid : FuncData
  f_l_lend_out : Addr
  fd_l_lend_out : FuncData
  f_l_serve : Addr
  fd_l_serve : FuncData
  f_l_came_up : Addr
  fd_l_came_up : FuncData
  f_l_enough : Addr
  fd_l_enough : FuncData
  f_l_fulfilled : Addr
  fd_l_fulfilled : FuncData
  f_l_came_down : Addr
  fd_l_came_down : FuncData
  f_l_refusal_of : Addr
  fd_l_refusal_of : FuncData
  f_l_answered : Addr
  fd_l_answered : FuncData
  f_l_numbers_of : Addr
  fd_l_numbers_of : FuncData
  f_l_first_deeds : Addr
  fd_l_first_deeds : FuncData
  f_l_asked_of : Addr
  fd_l_asked_of : FuncData
  f_l_lends : Addr
  fd_l_lends : FuncData
  f_law : Addr
  fd_law : FuncData
structure Txt (K : PySem.W.Frag) (w : World) (mg : Str → Option Value) (t : Adr) : Prop where
  c_PageLoans : Cls K t.C_PageLoans
  mk_PageLoans : Mk K t.C_PageLoans t.f_PageLoans_init
  g_PageLoans : mg "PageLoans" = some (.ref t.C_PageLoans)
  na_PageLoans_page : NoAttr K t.C_PageLoans "page"
  na_PageLoans_number : NoAttr K t.C_PageLoans "number"
  na_PageLoans_writer : NoAttr K t.C_PageLoans "writer"
  na_PageLoans_readers : NoAttr K t.C_PageLoans "readers"
  na_PageLoans_asked : NoAttr K t.C_PageLoans "asked"
  na_PageLoans_awaited : NoAttr K t.C_PageLoans "awaited"
  c_Hall : Cls K t.C_Hall
  mk_Hall : Mk K t.C_Hall t.f_Hall_init
  g_Hall : mg "Hall" = some (.ref t.C_Hall)
  na_Hall_pages : NoAttr K t.C_Hall "pages"
  F_lend_letter : Fun K "lend_letter" "lend_letter" s_lend_letter t.f_lend_letter t.fd_lend_letter
  b_lend_letter : Binds K t.fd_lend_letter ["page", "right", "number"] []
  m_lend_letter : mg "lend_letter" = some (.ref t.f_lend_letter)
  F_back_letter : Fun K "back_letter" "back_letter" s_back_letter t.f_back_letter t.fd_back_letter
  b_back_letter : Binds K t.fd_back_letter ["page", "right"] []
  m_back_letter : mg "back_letter" = some (.ref t.f_back_letter)
  F_PageLoans_init : Fun K "__init__" "PageLoans.__init__" s_PageLoans_init t.f_PageLoans_init t.fd_PageLoans_init
  b_PageLoans_init : Binds K t.fd_PageLoans_init ["self", "page", "number"] []
  F_PageLoans_take_ask : Fun K "take_ask" "PageLoans.take_ask" s_PageLoans_take_ask t.f_PageLoans_take_ask t.fd_PageLoans_take_ask
  b_PageLoans_take_ask : Binds K t.fd_PageLoans_take_ask ["self", "desk", "right"] []
  mt_PageLoans_take_ask : Meth K t.C_PageLoans "take_ask" t.f_PageLoans_take_ask
  F_PageLoans_take_answer : Fun K "take_answer" "PageLoans.take_answer" s_PageLoans_take_answer t.f_PageLoans_take_answer t.fd_PageLoans_take_answer
  b_PageLoans_take_answer : Binds K t.fd_PageLoans_take_answer ["self", "number"] []
  mt_PageLoans_take_answer : Meth K t.C_PageLoans "take_answer" t.f_PageLoans_take_answer
  F_PageLoans_take_gave : Fun K "take_gave" "PageLoans.take_gave" s_PageLoans_take_gave t.f_PageLoans_take_gave t.fd_PageLoans_take_gave
  b_PageLoans_take_gave : Binds K t.fd_PageLoans_take_gave ["self", "desk", "number"] []
  mt_PageLoans_take_gave : Meth K t.C_PageLoans "take_gave" t.f_PageLoans_take_gave
  F_PageLoans_serve : Fun K "serve" "PageLoans.serve" s_PageLoans_serve t.f_PageLoans_serve t.fd_PageLoans_serve
  b_PageLoans_serve : Binds K t.fd_PageLoans_serve ["self"] []
  mt_PageLoans_serve : Meth K t.C_PageLoans "serve" t.f_PageLoans_serve
  F_PageLoans_bids_for_first : Fun K "bids_for_first" "PageLoans.bids_for_first" s_PageLoans_bids_for_first t.f_PageLoans_bids_for_first t.fd_PageLoans_bids_for_first
  b_PageLoans_bids_for_first : Binds K t.fd_PageLoans_bids_for_first ["self"] []
  mt_PageLoans_bids_for_first : Meth K t.C_PageLoans "bids_for_first" t.f_PageLoans_bids_for_first
  F_PageLoans_lend : Fun K "lend" "PageLoans.lend" s_PageLoans_lend t.f_PageLoans_lend t.fd_PageLoans_lend
  b_PageLoans_lend : Binds K t.fd_PageLoans_lend ["self"] []
  mt_PageLoans_lend : Meth K t.C_PageLoans "lend" t.f_PageLoans_lend
  F_PageLoans_let_write : Fun K "let_write" "PageLoans.let_write" s_PageLoans_let_write t.f_PageLoans_let_write t.fd_PageLoans_let_write
  b_PageLoans_let_write : Binds K t.fd_PageLoans_let_write ["self", "desk"] []
  mt_PageLoans_let_write : Meth K t.C_PageLoans "let_write" t.f_PageLoans_let_write
  F_PageLoans_let_read : Fun K "let_read" "PageLoans.let_read" s_PageLoans_let_read t.f_PageLoans_let_read t.fd_PageLoans_let_read
  b_PageLoans_let_read : Binds K t.fd_PageLoans_let_read ["self", "desk"] []
  mt_PageLoans_let_read : Meth K t.C_PageLoans "let_read" t.f_PageLoans_let_read
  F_Hall_init : Fun K "__init__" "Hall.__init__" s_Hall_init t.f_Hall_init t.fd_Hall_init
  b_Hall_init : Binds K t.fd_Hall_init ["self", "numbers"] []
  F_Hall_take : Fun K "take" "Hall.take" s_Hall_take t.f_Hall_take t.fd_Hall_take
  b_Hall_take : Binds K t.fd_Hall_take ["self", "desk", "letter"] []
  mt_Hall_take : Meth K t.C_Hall "take" t.f_Hall_take
  F_taken_by_hall : Fun K "taken_by_hall" "taken_by_hall" s_taken_by_hall t.f_taken_by_hall t.fd_taken_by_hall
  b_taken_by_hall : Binds K t.fd_taken_by_hall ["hall", "letters"] []
  m_taken_by_hall : mg "taken_by_hall" = some (.ref t.f_taken_by_hall)
  F_l_whole : Fun K "_law_whole" "_law_whole" s_l_whole t.f_l_whole t.fd_l_whole
  b_l_whole : Binds K t.fd_l_whole ["_law_found"] []
  m_l_whole : mg "_law_whole" = some (.ref t.f_l_whole)
  F_l_at : Fun K "_law_at" "_law_at" s_l_at t.f_l_at t.fd_l_at
  b_l_at : Binds K t.fd_l_at ["_law_script", "_law_k"] []
  m_l_at : mg "_law_at" = some (.ref t.f_l_at)
  F_l_same : Fun K "_law_same" "_law_same" s_l_same t.f_l_same t.fd_l_same
  b_l_same : Binds K t.fd_l_same ["_law_found", "_law_due"] []
  m_l_same : mg "_law_same" = some (.ref t.f_l_same)
  F_l_town_of : Fun K "_law_town_of" "_law_town_of" s_l_town_of t.f_l_town_of t.fd_l_town_of
  b_l_town_of : Binds K t.fd_l_town_of ["_law_count", "_law_numbers"] []
  m_l_town_of : mg "_law_town_of" = some (.ref t.f_l_town_of)
  F_l_bid : Fun K "_law_bid" "_law_bid" s_l_bid t.f_l_bid t.fd_l_bid
  b_l_bid : Binds K t.fd_l_bid ["_law_town", "_law_page"] []
  m_l_bid : mg "_law_bid" = some (.ref t.f_l_bid)
  F_l_lend_out : Fun K "_law_lend_out" "_law_lend_out" s_l_lend_out t.f_l_lend_out t.fd_l_lend_out
  b_l_lend_out : Binds K t.fd_l_lend_out ["_law_town", "_law_page"] []
  m_l_lend_out : mg "_law_lend_out" = some (.ref t.f_l_lend_out)
  F_l_serve : Fun K "_law_serve" "_law_serve" s_l_serve t.f_l_serve t.fd_l_serve
  b_l_serve : Binds K t.fd_l_serve ["_law_town", "_law_page"] []
  m_l_serve : mg "_law_serve" = some (.ref t.f_l_serve)
  F_l_came_up : Fun K "_law_came_up" "_law_came_up" s_l_came_up t.f_l_came_up t.fd_l_came_up
  b_l_came_up : Binds K t.fd_l_came_up ["_law_town", "_law_desk"] []
  m_l_came_up : mg "_law_came_up" = some (.ref t.f_l_came_up)
  F_l_enough : Fun K "_law_enough" "_law_enough" s_l_enough t.f_l_enough t.fd_l_enough
  b_l_enough : Binds K t.fd_l_enough ["_law_right", "_law_wish"] []
  m_l_enough : mg "_law_enough" = some (.ref t.f_l_enough)
  F_l_fulfilled : Fun K "_law_fulfilled" "_law_fulfilled" s_l_fulfilled t.f_l_fulfilled t.fd_l_fulfilled
  b_l_fulfilled : Binds K t.fd_l_fulfilled ["_law_town", "_law_desk", "_law_wish"] []
  m_l_fulfilled : mg "_law_fulfilled" = some (.ref t.f_l_fulfilled)
  F_l_came_down : Fun K "_law_came_down" "_law_came_down" s_l_came_down t.f_l_came_down t.fd_l_came_down
  b_l_came_down : Binds K t.fd_l_came_down ["_law_town", "_law_desk"] []
  m_l_came_down : mg "_law_came_down" = some (.ref t.f_l_came_down)
  F_l_refusal_of : Fun K "_law_refusal_of" "_law_refusal_of" s_l_refusal_of t.f_l_refusal_of t.fd_l_refusal_of
  b_l_refusal_of : Binds K t.fd_l_refusal_of ["_law_town", "_law_deed"] []
  m_l_refusal_of : mg "_law_refusal_of" = some (.ref t.f_l_refusal_of)
  F_l_answered : Fun K "_law_answered" "_law_answered" s_l_answered t.f_l_answered t.fd_l_answered
  b_l_answered : Binds K t.fd_l_answered ["_law_town", "_law_deed"] []
  m_l_answered : mg "_law_answered" = some (.ref t.f_l_answered)
  F_l_numbers_of : Fun K "_law_numbers_of" "_law_numbers_of" s_l_numbers_of t.f_l_numbers_of t.fd_l_numbers_of
  b_l_numbers_of : Binds K t.fd_l_numbers_of ["_law_cell", "_law_pages"] []
  m_l_numbers_of : mg "_law_numbers_of" = some (.ref t.f_l_numbers_of)
  F_l_first_deeds : Fun K "_law_first_deeds" "_law_first_deeds" s_l_first_deeds t.f_l_first_deeds t.fd_l_first_deeds
  b_l_first_deeds : Binds K t.fd_l_first_deeds ["_law_count", "_law_cell"] []
  m_l_first_deeds : mg "_law_first_deeds" = some (.ref t.f_l_first_deeds)
  F_l_asked_of : Fun K "_law_asked_of" "_law_asked_of" s_l_asked_of t.f_l_asked_of t.fd_l_asked_of
  b_l_asked_of : Binds K t.fd_l_asked_of ["_law_cells", "_law_count", "_law_pages"] []
  m_l_asked_of : mg "_law_asked_of" = some (.ref t.f_l_asked_of)
  F_l_lends : Fun K "_law_lends" "_law_lends" s_l_lends t.f_l_lends t.fd_l_lends
  b_l_lends : Binds K t.fd_l_lends ["_law_hall", "_law_page", "_law_number"] []
  m_l_lends : mg "_law_lends" = some (.ref t.f_l_lends)
  F_law : Fun K "law" "law" s_law t.f_law t.fd_law
  b_law : Binds K t.fd_law ["_law_script"] []
  m_law : mg "law" = some (.ref t.f_law)
  g_NONE : ∃ u, mg "NONE" = some (.str "none" u)
  g_READ : ∃ u, mg "READ" = some (.str "read" u)
  g_WRITE : ∃ u, mg "WRITE" = some (.str "write" u)
  n_len : mg "len" = none
  n_enumerate : mg "enumerate" = none
  n_isinstance : mg "isinstance" = none
  n_int : mg "int" = none
  n_bool : mg "bool" = none
  n_list : mg "list" = none
  n_tuple : mg "tuple" = none
  n_str : mg "str" = none
  n_range : mg "range" = none
end K07
namespace K07
open PySem L2
section
variable {P : Program} {w : World} {K : PySem.W.Frag} {mg : Str → Option Value} {base : Heap} {t : Adr}
theorem ok_back_letter (T : Txt K w mg t) : FnOk P w K mg base CX0 1 t.f_back_letter t.fd_back_letter ["page", "right"] (spTup "back") := by
  refine T.F_back_letter.ok sc_back_letter (fun vs H Q E h => ?_) (fun cdv A outer s H vs Q E hr h => ?_)
  · obtain ⟨x, y, rfl, _⟩ := h; rfl
  · obtain ⟨x, y, rfl, k⟩ := h
    refine ⟨_, (pss_one (ps_ret (pe_tup (pa_cons pe_str (pa_cons (pv 0) (pa_cons (pv 1) pa_nil)))))), ?_⟩
    try dsimp only [cxOf, Cx.nox]
    exact ⟨_, rfl, _, rfl, (by show 3 ≤ sizeLine; decide), fun a ha => k a ha⟩
theorem ok_lend_letter (T : Txt K w mg t) : FnOk P w K mg base CX0 1 t.f_lend_letter t.fd_lend_letter ["page", "right", "number"] spLend4 := by
  refine T.F_lend_letter.ok sc_lend_letter (fun vs H Q E h => ?_) (fun cdv A outer s H vs Q E hr h => ?_)
  · obtain ⟨x, y, z, rfl, _⟩ := h; rfl
  · obtain ⟨x, y, z, rfl, k⟩ := h
    refine ⟨_, (pss_one (ps_ret (pe_tup (pa_cons pe_str (pa_cons (pv 0) (pa_cons (pv 1) (pa_cons (pv 2) pa_nil))))))), ?_⟩
    try dsimp only [cxOf, Cx.nox]
    exact ⟨_, rfl, _, rfl, _, rfl, (by show 4 ≤ sizeLine; decide), fun a ha => k a ha⟩
theorem ok_PageLoans_init (T : Txt K w mg t) : FnOk P w K mg base CX0 1 t.f_PageLoans_init t.fd_PageLoans_init ["self", "page", "number"] (spPgInit t.C_PageLoans) := by
  refine T.F_PageLoans_init.ok sc_PageLoans_init (fun vs H Q E h => ?_) (fun cdv A outer s H vs Q E hr h => ?_)
  · obtain ⟨x, y, p, n, rfl, _⟩ := h; rfl
  · obtain ⟨a, dx, p, n, rfl, hp, k⟩ := h
    refine ⟨_, (pss_cons (ps_fld (pv 0) (pv 1) (by rfl))
      (pss_cons (ps_fld (pv 0) (pv 2) (by rfl))
      (pss_cons (ps_fld (pv 0) pe_non (by rfl))
      (pss_cons (ps_fld (pv 0) (pe_lst pa_nil) (by rfl))
      (pss_cons (ps_fld (pv 0) (pe_lst pa_nil) (by rfl))
      (pss_one (ps_fld (pv 0) pe_int (by rfl)))))))), ?_⟩
    try dsimp only [cxOf, Cx.nox]
    show let Z1 : L2.TS := _; let Z2 : L2.TS := _; let Z3 : L2.TS := _; let Z4 : L2.TS := _; let Z5 : L2.TS := _; let Z6 : L2.TS := _; let D0 : Ends := _; (tSeq Z1 (tSeq Z2 (tSeq Z3 (tSeq Z4 (tSeq Z5 (Z6)))))) D0 _ _
    intro Z1 Z2 Z3 Z4 Z5 Z6 D0
    refine ⟨_, rfl, _, rfl, a, t.C_PageLoans, dx, [], rfl, hp, T.c_PageLoans, T.na_PageLoans_page, (by show 0 < 1000; decide), ?_⟩
    refine ⟨_, rfl, _, rfl, a, t.C_PageLoans, dx, _, rfl, upd_same, T.c_PageLoans, T.na_PageLoans_number, (by show 1 < 1000; decide), ?_⟩
    refine ⟨_, rfl, a, t.C_PageLoans, dx, _, rfl, upd_same, T.c_PageLoans, T.na_PageLoans_writer, (by show 2 < 1000; decide), ?_⟩
    rw [upd_upd, upd_upd]
    refine ⟨(by show 0 ≤ sizeLine; decide), fun r hr1 => ?_⟩
    have nra : a ≠ r := fun z => by rw [z, upd_same] at hr1; cases hr1
    have hr0 : H r = none := by rw [← hr1, upd_ne nra.symm]
    refine ⟨_, rfl, a, t.C_PageLoans, dx, _, rfl, (by rw [upd_ne nra]; exact upd_same), T.c_PageLoans, T.na_PageLoans_readers, (by show 3 < 1000; decide), ?_⟩
    refine ⟨(by show 0 ≤ sizeLine; decide), fun q hq1 => ?_⟩
    have nqa : a ≠ q := fun z => by rw [z, upd_same] at hq1; cases hq1
    have nqr : r ≠ q := fun z => by rw [z, upd_ne nqa.symm, upd_same] at hq1; cases hq1
    have hq0 : H q = none := by rw [← hq1, upd_ne nqa.symm, upd_ne nqr.symm, upd_ne nqa.symm]
    refine ⟨_, rfl, a, t.C_PageLoans, dx, _, rfl, (by rw [upd_ne nqa]; exact upd_same), T.c_PageLoans, T.na_PageLoans_asked, (by show 4 < 1000; decide), ?_⟩
    refine ⟨_, rfl, a, t.C_PageLoans, dx, _, rfl, upd_same, T.c_PageLoans, T.na_PageLoans_awaited, (by show 5 < 1000; decide), ?_⟩
    rw [pfl_init]
    refine k r q _ hr0 hq0 ⟨⟨dx, upd_same⟩, ?_, ⟨[], ?_, by simp [RepL]⟩, nqr⟩ (fun b o e hb => ?_) ?_
    · rw [upd_ne nra.symm, upd_ne nra.symm, upd_ne nqr, upd_ne nra.symm, upd_same]; rfl
    · rw [upd_ne nqa.symm, upd_ne nqa.symm, upd_same]
    · rw [upd_ne hb, upd_ne hb, upd_ne (ne_of_none e hq0), upd_ne hb, upd_ne (ne_of_none e hr0), upd_ne hb]; exact e
    · exact Lv.upd.trans (Lv.upd.trans (Lv.upd.trans (Lv.upd.trans (Lv.upd.trans Lv.upd))))
theorem ok_PageLoans_let_write (T : Txt K w mg t) : FnOk P w K mg base CX0 1 t.f_PageLoans_let_write t.fd_PageLoans_let_write ["self", "desk"] (spLetW t.C_PageLoans) := by
  refine T.F_PageLoans_let_write.ok sc_PageLoans_let_write (fun vs H Q E h => ?_) (fun cdv A outer s H vs Q E hr h => ?_)
  · obtain ⟨a, r, q, p, g, d, rfl, _⟩ := h; rfl
  · obtain ⟨a, r, q, p, g, d, rfl, PA, k⟩ := h
    have nar := PA.nar
    have naq := PA.naq
    obtain ⟨⟨dx, h1⟩, h2, ⟨vs, h3, h4⟩, h5⟩ := id PA
    refine ⟨_, (pss_cons (ps_fld (pv 0) (pv 1) (by rfl))
      (pss_one (ps_fld (pv 0) (pe_lst pa_nil) (by rfl)))), ?_⟩
    try dsimp only [cxOf, Cx.nox]
    show let Z1 : L2.TS := _; let Z2 : L2.TS := _; let D0 : Ends := _; (tSeq Z1 (Z2)) D0 _ _
    intro Z1 Z2 D0
    refine ⟨_, rfl, _, rfl, a, _, dx, _, rfl, h1, T.c_PageLoans, T.na_PageLoans_writer, pfl_len, ?_⟩
    rw [pfl_wrS]
    refine ⟨(by show 0 ≤ sizeLine; decide), fun r' hr1 => ?_⟩
    have nra : a ≠ r' := fun z => by rw [z, upd_same] at hr1; cases hr1
    have hr0 : H r' = none := by rw [← hr1, upd_ne nra.symm]
    refine ⟨_, rfl, a, _, dx, _, rfl, (by rw [upd_ne nra]; exact upd_same), T.c_PageLoans, T.na_PageLoans_readers, pfl_len, ?_⟩
    rw [pfl_rd (l := [])]
    have nqr : q ≠ r' := ne_of_none h3 hr0
    refine k r' _ hr0 ⟨⟨dx, upd_same⟩, ?_, ⟨vs, ?_, ?_⟩, nqr.symm⟩ ⟨fun b o e ha hb hq => ?_, Lv.upd.trans (Lv.upd.trans Lv.upd)⟩
    · rw [upd_ne nra.symm, upd_same]; rfl
    · rw [upd_ne naq.symm, upd_ne nqr, upd_ne naq.symm]; exact h3
    · refine h4.tmono (fun b xs e => ?_) (askD_flat _)
      have hb : b ≠ a := ne_of e h1 (by intro z; cases z)
      rw [upd_ne hb, upd_ne (ne_of_none e hr0), upd_ne hb]; exact e
    · rw [upd_ne ha, upd_ne (ne_of_none e hr0), upd_ne ha]; exact e
theorem inV_nat (d : Nat) (l : List Nat) : inV (.int d) (l.map nV) = decide (d ∈ l) := by
  unfold inV
  induction l with
  | nil => rfl
  | cons x l ih =>
    rw [List.map_cons, List.any_cons, ih]
    show ((x : Int) == (d : Int) || _) = _
    by_cases e : d = x
    · subst e; simp
    · have : ((x : Int) == (d : Int)) = false := by simp; lia
      rw [this]; simp [e]
theorem flat_nat (l : List Nat) : (l.map nV).all flatV = true := by simp [flatV, nV]
theorem ok_PageLoans_let_read (T : Txt K w mg t) : FnOk P w K mg base CX0 1 t.f_PageLoans_let_read t.fd_PageLoans_let_read ["self", "desk"] (spLetR t.C_PageLoans) := by
  refine T.F_PageLoans_let_read.ok sc_PageLoans_let_read (fun vs H Q E h => ?_) (fun cdv A outer s H vs Q E hr h => ?_)
  · obtain ⟨a, r, q, p, g, d, rfl, _⟩ := h; rfl
  · obtain ⟨a, r, q, p, g, d, rfl, PA, hl, k⟩ := h
    have sl : sizeLine = 16777216 := by decide
    refine ⟨_, (pss_cons (ps_if (pt_cmp (pc_notN (pe_fld (pv 0) (by rfl)))) (pss_cons (ps_expr (pe_bm PySem.F.plainAttrs_list PySem.F.slot_list_append PySem.F.type_list_append mt_append (pe_fld (pv 0) (by rfl)) (pa_cons (pe_fld (pv 0) (by rfl)) pa_nil)))
      (pss_one (ps_fld (pv 0) pe_non (by rfl)))) pss_nil)
      (pss_one (ps_if (pt_cmpR op_notIn_seq (pv 1) (pe_fld (pv 0) (by rfl)) (by rfl)) (pss_one (ps_expr (pe_bm PySem.F.plainAttrs_list PySem.F.slot_list_append PySem.F.type_list_append mt_append (pe_fld (pv 0) (by rfl)) (pa_cons (pv 1) pa_nil)))) pss_nil))), ?_⟩
    try dsimp only [cxOf, Cx.nox]
    show let Z1 : L2.TS := _; let Z2 : L2.TS := _; let Z3 : L2.TS := tSeq Z1 (Z2); let Z4 : L2.TS := tIfS _ Z3 tNext; let Z5 : L2.TS := _; let Z6 : L2.TS := tIfS _ Z5 tNext; let D0 : Ends := _; (tSeq Z4 (Z6)) D0 _ _
    intro Z1 Z2 Z3 Z4 Z5 Z6 D0
    have fin : ∀ H1, PgAt t.C_PageLoans H1 a r q p { g with wr := none, rd := g.rd ++ g.wr.toList } → PF H H1 a r q →
        (tIfS (tTest (tOp (rIn K true) (tVar 1) (tFld K (tVar 0) "readers"))) (tDrop (tBM K "list" rAppend (tFld K (tVar 0) "readers") (tCons (tVar 1) tNil))) tNext) { nx := fun _ H' => Q .non H', rt := Q } [some (.ref a), some (.int d)] H1 := fun H1 P1 f1 => by
      obtain ⟨⟨dx, h1⟩, h2, _, _⟩ := id P1
      refine ⟨_, rfl, _, rfl, a, _, dx, _, _, rfl, h1, T.c_PageLoans, T.na_PageLoans_readers, pfl_readers, r, _, rfl, .inl (SqL.of h2), rfl, flat_nat _, _, rfl, ?_⟩
      have e0 : (if true = true then !inV (.int d) ((g.rd ++ g.wr.toList).map nV) else inV (.int d) ((g.rd ++ g.wr.toList).map nV)) = !decide (d ∈ g.rd ++ g.wr.toList) := by rw [if_pos rfl, inV_nat]
      rw [e0]
      by_cases e : d ∈ g.rd ++ g.wr.toList
      · refine iteFb (by rw [decide_eq_true e]; rfl) ?_
        refine k H1 ?_ f1
        unfold letRead
        rw [if_pos e]
        exact P1
      · refine iteTb (by rw [decide_eq_false e]; rfl) ?_
        refine ⟨_, rfl, a, _, dx, _, _, rfl, h1, T.c_PageLoans, T.na_PageLoans_readers, pfl_readers, .inl ⟨rfl, _, SqL.of h2⟩, _, rfl, r, _, _, rfl, rfl, h2, ?_, ?_⟩
        · have hw : g.wr.toList.length ≤ 1 := by cases g.wr <;> simp
          rw [List.length_map, List.length_append]; lia
        · refine k _ ?_ (f1.trans PF.wrR)
          have := P1.wrR (l := g.rd ++ g.wr.toList ++ [d])
          unfold letRead
          rw [if_neg e]
          rw [List.map_append (l₂ := [d])] at this
          exact this
    obtain ⟨⟨dx, h1⟩, h2, ⟨vs, h3, h4⟩, h5⟩ := id PA
    refine ⟨_, rfl, a, _, dx, _, _, rfl, h1, T.c_PageLoans, T.na_PageLoans_writer, pfl_writer, _, rfl, ?_⟩
    cases hw : g.wr with
    | none =>
      refine iteFb rfl ?_
      refine fin H ?_ (PF.refl _ _ _ _)
      have e : ({ g with wr := none, rd := g.rd ++ g.wr.toList } : PG) = g := by rw [hw]; cases g; simp_all
      rw [e]; exact PA
    | some x =>
      refine iteTb rfl ?_
      have l1 : (pfl p g r q).lookup ("writer" : Str) = some (.int x) := by rw [pfl_writer, hw]; rfl
      refine ⟨_, rfl, a, _, dx, _, _, rfl, h1, T.c_PageLoans, T.na_PageLoans_readers, pfl_readers, .inl ⟨rfl, _, SqL.of h2⟩, _, rfl, a, _, dx, _, _, rfl, h1, T.c_PageLoans, T.na_PageLoans_writer, l1, r, _, _, rfl, rfl, h2, (by rw [List.length_map]; lia), ?_⟩
      have P1 := PA.wrR (l := g.rd ++ [x])
      rw [List.map_append] at P1
      obtain ⟨⟨dx1, g1⟩, _⟩ := id P1
      refine ⟨_, rfl, a, _, dx1, _, rfl, g1, T.c_PageLoans, T.na_PageLoans_writer, pfl_len, ?_⟩
      rw [pfl_wrN]
      refine fin _ ?_ (PF.trans PF.wrR PF.wr)
      rw [hw]
      exact P1.wr rfl rfl
theorem ok_PageLoans_lend (T : Txt K w mg t) : FnOk P w K mg base CX0 2 t.f_PageLoans_lend t.fd_PageLoans_lend ["self"] (spLendP t.C_PageLoans) := by
  refine T.F_PageLoans_lend.ok sc_PageLoans_lend (fun vs H Q E h => ?_) (fun cdv A outer s H vs Q E hr h => ?_)
  · obtain ⟨a, r, q, p, g, d, x, l, rfl, _⟩ := h; rfl
  · obtain ⟨a, r, q, p, g, d, x, l, rfl, PA, ha, hx, hl, k⟩ := h
    refine ⟨_, (pss_cons (ps_set (i := 1) sc_PageLoans_lend.nd rfl (Or.inl rfl) (pe_bm PySem.F.plainAttrs_list PySem.F.slot_list_pop PySem.F.type_list_pop mt_popAt (pe_fld (pv 0) (by rfl)) (pa_cons pe_int pa_nil)))
      (pss_cons (ps_if (pt_cmpR op_eq (pe_ix ix_tup (pv 1) pe_int (fun _ _ => rfl)) (pe_gstr (by rfl) T.g_WRITE) (nomark _)) (pss_one (ps_expr (pe_meth (pv 0) T.c_PageLoans T.mt_PageLoans_let_write (ok_PageLoans_let_write T) (hr.mono (by decide) : Room 1 _) T.b_PageLoans_let_write .nil pass0 (pa_cons (pe_ix ix_tup (pv 1) pe_int (fun _ _ => rfl)) pa_nil)))) (pss_one (ps_expr (pe_meth (pv 0) T.c_PageLoans T.mt_PageLoans_let_read (ok_PageLoans_let_read T) (hr.mono (by decide) : Room 1 _) T.b_PageLoans_let_read .nil pass0 (pa_cons (pe_ix ix_tup (pv 1) pe_int (fun _ _ => rfl)) pa_nil)))))
      (pss_one (ps_ret (pe_tup (pa_cons (pe_ix ix_tup (pv 1) pe_int (fun _ _ => rfl)) (pa_cons (pe_call (ok_lend_letter T) (hr.mono (by decide) : Room 1 _) (by rfl) T.m_lend_letter T.F_lend_letter.kp T.b_lend_letter .nil pass0 (pa_cons (pe_fld (pv 0) (by rfl)) (pa_cons (pe_ix ix_tup (pv 1) pe_int (fun _ _ => rfl)) (pa_cons (pe_fld (pv 0) (by rfl)) pa_nil)))) pa_nil))))))), ?_⟩
    try dsimp only [cxOf, Cx.nox]
    show let Z1 : L2.TS := _; let Z2 : L2.TS := _; let Z3 : L2.TS := _; let Z4 : L2.TS := tIfS _ Z2 Z3; let Z5 : L2.TS := _; let D0 : Ends := _; (tSeq Z1 (tSeq Z4 (Z5))) D0 _ _
    intro Z1 Z2 Z3 Z4 Z5 D0
    obtain ⟨⟨dx, h1⟩, h2, ⟨vs, h3, h4⟩, h5⟩ := id PA
    rw [ha] at h4
    obtain ⟨tt, us, rfl, h6, h7⟩ := askD_cons h4
    refine ⟨_, rfl, a, _, dx, _, _, rfl, h1, T.c_PageLoans, T.na_PageLoans_asked, pfl_asked, .inl ⟨rfl, _, SqL.of h3⟩, q, _, 0, 0, _, rfl, rfl, h3, (by decide), (by decide), six0 _ _, rfl, ?_⟩
    have P1 := PA.wrQ (l := l) (vs := us) h7
    have t1 : (upd H q (.lst us)) tt = some (.tup [.int d, .str x.s]) := by rw [upd_ne (ne_of h6 h3 (by intro z; cases z))]; exact h6
    have fin : ∀ r' H1, (r' = r ∨ H r' = none) → PgAt t.C_PageLoans H1 a r' q p g.lent → PF H H1 a r q → g.lent.num = g.num →
        (tRet (tTup (tCons (tOp (rIxT K) (tVar 1) (tC (.int 0))) (tCons (tCall spLend4 [] E0 (tCons (tFld K (tVar 0) "page") (tCons (tOp (rIxT K) (tVar 1) (tC (.int 1))) (tCons (tFld K (tVar 0) "number") tNil)))) tNil)))) { nx := fun _ H' => Q .non H', rt := Q } [some (.ref a), some (.ref tt)] H1 := fun r' H1 hr' P2 f2 en => by
      have t2 := (f2.tups PA) tt _ h6
      obtain ⟨⟨dx2, g1⟩, _⟩ := id P2
      refine zt rfl (SqT.of t2) rfl ⟨_, rfl, a, _, dx2, _, _, rfl, g1, T.c_PageLoans, T.na_PageLoans_page, pfl_page, zt rfl (SqT.of t2) rfl ⟨_, rfl, a, _, dx2, _, _, rfl, g1, T.c_PageLoans, T.na_PageLoans_number, pfl_number, _, _, _, rfl, fun b hb => ?_⟩⟩
      refine ⟨(by show 2 ≤ sizeLine; decide), fun c hc => ?_⟩
      refine k _ r' _ hr' ((P2.new hb).new hc) (f2.trans' ((PF.new hb).trans (PF.new hc)) hr') ?_
      simp only [pairD, Let.d, Rep, RepL]
      refine ⟨c, _, rfl, upd_same, _, _, rfl, rfl, _, _, rfl, ⟨b, [.str "lend", .int p, .str x.s, .int g.lent.num], rfl, ?_, _, _, rfl, rfl, _, _, rfl, rfl, _, _, rfl, rfl, _, _, rfl, ?_, rfl⟩, rfl⟩
      · rw [upd_ne, upd_same]; intro z; rw [z, upd_same] at hc; cases hc
      · rw [en]
    have hlent : g.lent = if x = .wr then letWrite { g with ask := l } d else letRead { g with ask := l } d := by unfold PG.lent; rw [ha]
    obtain ⟨⟨dx1, g1⟩, _⟩ := id P1
    refine zt rfl (SqT.of t1) rfl ⟨rfl, _, rfl, ?_⟩
    rcases hx with hx | hx
    · subst hx
      refine iteFb (rt_ne (x := "write") (q := .wr) rfl (by intro z; cases z)) ?_
      refine ⟨_, rfl, a, dx1, _, rfl, g1, pfl_lr, zt rfl (SqT.of t1) rfl ⟨a, r, q, p, _, d, rfl, P1, hl, fun H2 P2 f2 => ?_⟩⟩
      refine fin r H2 (.inl rfl) ?_ (PF.wrQ.trans f2) (by rw [hlent]; rfl)
      rw [hlent, if_neg (by intro z; cases z)]
      exact P2
    · subst hx
      refine iteTb vs_eq ?_
      refine ⟨_, rfl, a, dx1, _, rfl, g1, pfl_lw, zt rfl (SqT.of t1) rfl ⟨a, r, q, p, _, d, rfl, P1, fun r' H2 hr' P2 f2 => ?_⟩⟩
      have nq : r' ≠ q := by intro z; rw [z, upd_same] at hr'; cases hr'
      refine fin r' H2 (.inr (by rw [← hr', upd_ne nq])) ?_ (PF.wrQ.trans f2) (by rw [hlent]; rfl)
      rw [hlent, if_pos rfl]
      exact P2
end
end K07
namespace K07
open PySem L2
section
variable {P : Program} {w : World} {K : PySem.W.Frag} {mg : Str → Option Value} {base : Heap} {t : Adr}
theorem pairD_back {H : Hp} {b c : Addr} {d p : Nat} {x : Rt} {vs : List V} (hc : H c = some (.tup [.int d, .ref b])) (hb : H b = some (.tup [.str "back", .int p, .str x.s])) : Rep H (.ref c) (pairD (d, .back p x)) := by
  simp only [pairD, Let.d, Rep, RepL]
  exact ⟨c, _, rfl, hc, _, _, rfl, rfl, _, _, rfl, ⟨b, _, rfl, hb, _, _, rfl, rfl, _, _, rfl, rfl, _, _, rfl, rfl, rfl⟩, rfl⟩
theorem wBids_none {g : PG} {p d : Nat} {x : Rt} (h : g.wr = none) : wBids g p d x = [] := by unfold wBids; rw [h]
theorem wBids_own {g : PG} {p d : Nat} {x : Rt} (h : g.wr = some d) : wBids g p d x = [] := by unfold wBids; rw [h]; simp
theorem wBids_other {g : PG} {p d wv : Nat} {x : Rt} (h : g.wr = some wv) (hn : wv ≠ d) : wBids g p d x = [(wv, .back p (low x))] := by unfold wBids; rw [h]; simp [hn]
theorem ok_PageLoans_bids_for_first (T : Txt K w mg t) : FnOk P w K mg base CX0 2 t.f_PageLoans_bids_for_first t.fd_PageLoans_bids_for_first ["self"] (spBids t.C_PageLoans) := by
  refine T.F_PageLoans_bids_for_first.ok sc_PageLoans_bids_for_first (fun vs H Q E h => ?_) (fun cdv A outer s H vs Q E hr h => ?_)
  · obtain ⟨a, r, q, p, g, d, x, l, rfl, _⟩ := h; rfl
  · obtain ⟨a, r, q, p, g, d, x, l, rfl, PA, ha, hx, hl, k⟩ := h
    refine ⟨_, (pss_cons (ps_set (i := 1) sc_PageLoans_bids_for_first.nd rfl (Or.inr rfl) (pe_ix ix_tup (pe_ix ix_list (pe_fld (pv 0) (by rfl)) pe_int (fun _ _ => rfl)) pe_int (fun _ _ => rfl)))
      (pss_cons (ps_set (i := 2) sc_PageLoans_bids_for_first.nd rfl (Or.inl rfl) (pe_ix ix_tup (pe_ix ix_list (pe_fld (pv 0) (by rfl)) pe_int (fun _ _ => rfl)) pe_int (fun _ _ => rfl)))
      (pss_cons (ps_set (i := 3) sc_PageLoans_bids_for_first.nd rfl (Or.inl rfl) (pe_lst pa_nil))
      (pss_cons (ps_if (PW.pt (pw_and (pt_cmp (pc_notN (pe_fld (pv 0) (by rfl)))) (pw_and1 (pt_cmpR op_ne (pe_fld (pv 0) (by rfl)) (pv 1) (nomark _))))) (pss_one (ps_expr (pe_bm PySem.F.plainAttrs_list PySem.F.slot_list_append PySem.F.type_list_append mt_append (pv 3) (pa_cons (pe_tup (pa_cons (pe_fld (pv 0) (by rfl)) (pa_cons (pe_call (ok_back_letter T) (hr.mono (by decide) : Room 1 _) (by rfl) T.m_back_letter T.F_back_letter.kp T.b_back_letter .nil pass0 (pa_cons (pe_fld (pv 0) (by rfl)) (pa_cons (pe_ifExp (pt_cmpR op_eq (pv 2) (pe_gstr (by rfl) T.g_READ) (nomark _)) (pe_gstr (by rfl) T.g_READ) (pe_gstr (by rfl) T.g_NONE)) pa_nil))) pa_nil))) pa_nil)))) pss_nil)
      (pss_cons (ps_if (pt_cmpR op_eq (pv 2) (pe_gstr (by rfl) T.g_WRITE) (nomark _)) (pss_one (ps_expr (pe_bm PySem.F.plainAttrs_list PySem.F.slot_list_extend PySem.F.type_list_extend mt_extendS (pv 3) (pa_cons (pe_comp (compScope (xs := ["desk"]) (ys := ["self", "asking"]) (js := [0, 1]) rfl (by decide +kernel) (by decide +kernel) (by decide +kernel) (by rfl) ⟨⟨rfl, Or.inl rfl⟩, ⟨⟨rfl, Or.inl rfl⟩, trivial⟩⟩) rfl (pi_list (pe_fld (pv 0) (by rfl))) (fun _ _ _ _ _ => (pg_name (i := 0) (show List.Nodup ((["desk"] : List Str) ++ (["self", "asking"] : List Str) : List Str) by decide +kernel) rfl (Or.inl rfl))) (fun _ _ _ _ _ => (pif_one (pt_cmpR op_ne (pv 0) (pv 2) (nomark _)))) (fun _ _ _ _ _ => (pe_tup (pa_cons (pv 0) (pa_cons (pe_call (ok_back_letter T) (hr.mono (by decide) : Room 1 _) (by rfl) T.m_back_letter T.F_back_letter.kp T.b_back_letter .nil pass0 (pa_cons (pe_fldK (K := K) rfl (pv 1) (by rfl)) (pa_cons (pe_gstr (by rfl) T.g_NONE) pa_nil))) pa_nil))))) pa_nil)))) pss_nil)
      (pss_one (ps_ret (pv 3)))))))), ?_⟩
    try dsimp only [cxOf, Cx.nox]
    show let Z1 : L2.TS := _; let Z2 : L2.TS := _; let Z3 : L2.TS := _; let Z4 : L2.TS := _; let Z5 : L2.TS := tIfS _ Z4 tNext; let Z6 : L2.TS := _; let Z7 : L2.TS := tIfS _ Z6 tNext; let Z8 : L2.TS := _; let D0 : Ends := _; (tSeq Z1 (tSeq Z2 (tSeq Z3 (tSeq Z5 (tSeq Z7 (Z8)))))) D0 _ _
    intro Z1 Z2 Z3 Z4 Z5 Z6 Z7 Z8 D0
    have sl : sizeLine = 16777216 := by decide
    obtain ⟨⟨dx, h1⟩, h2, ⟨vs, h3, h4⟩, h5⟩ := id PA
    rw [ha] at h4
    obtain ⟨tt, us, rfl, h6, h7⟩ := askD_cons h4
    refine ⟨_, rfl, a, _, dx, _, _, rfl, h1, T.c_PageLoans, T.na_PageLoans_asked, pfl_asked, q, _, 0, _, rfl, rfl, SqL.of h3, at0c _ _, tt, _, 0, _, rfl, rfl, SqT.of h6, rfl, ?_⟩
    refine ⟨_, rfl, a, _, dx, _, _, rfl, h1, T.c_PageLoans, T.na_PageLoans_asked, pfl_asked, q, _, 0, _, rfl, rfl, SqL.of h3, at0c _ _, tt, _, 1, _, rfl, rfl, SqT.of h6, rfl, ?_⟩
    refine ⟨(by show 0 ≤ sizeLine; decide), fun bl hb => ?_⟩
    have hbl : g.bids p = wBids g p d x ++ rBids g p d x := by unfold PG.bids; rw [ha]
    have s0 := same_new (o := .lst []) hb
    try dsimp only
    refine seq_via (fun σ' H' => σ' = [some (.ref a), some (.int d), some (.str x.s), some (.ref bl)] ∧ Same H H' ∧ ∃ us, H' bl = some (.lst us) ∧ us.length ≤ 1 ∧ RepL H' us ((wBids g p d x).map pairD)) (fun N hN => ?_) ?_
    · have l0 := s0 a _ h1
      refine ⟨_, rfl, a, _, dx, _, _, rfl, l0, T.c_PageLoans, T.na_PageLoans_writer, pfl_writer, _, rfl, ?_⟩
      cases hw : g.wr with
      | none =>
        refine iteFb rfl (iteF ?_)
        exact hN _ _ ⟨rfl, s0, [], upd_same, Nat.zero_le _, by rw [wBids_none hw]; simp [RepL]⟩
      | some wv =>
        have l1 : (pfl p g r q).lookup ("writer" : Str) = some (.int wv) := by rw [pfl_writer, hw]; rfl
        refine iteTb rfl ?_
        refine ⟨_, rfl, a, _, dx, _, _, rfl, l0, T.c_PageLoans, T.na_PageLoans_writer, l1, _, rfl, rfl, _, rfl, ?_⟩
        by_cases e : wv = d
        · subst e
          refine iteFb (by simp) ?_
          exact hN _ _ ⟨rfl, s0, [], upd_same, Nat.zero_le _, by rw [wBids_own hw]; simp [RepL]⟩
        · refine iteTb (by rw [decide_eq_false fun z => e (by have := V.int.inj z; lia)]; rfl) ?_
          have go : ∀ c, (∀ z : Rt, z = low x → c = V.str z.s) → (tBM K "list" rAppend (tVar 3) (tCons (tTup (tCons (tFld K (tVar 0) "writer") (tCons (tCall (spTup "back") [] E0 (tCons (tFld K (tVar 0) "page") (tCons (tC c) tNil))) tNil))) tNil)) [some (.ref a), some (.int d), some (.str x.s), some (.ref bl)] (upd H bl (.lst [])) fun _ H' => N [some (.ref a), some (.int d), some (.str x.s), some (.ref bl)] H' := fun c hcc => by
            obtain rfl := hcc _ rfl
            refine ⟨_, rfl, .inl ⟨rfl, _, SqL.of upd_same⟩, _, rfl, a, _, dx, _, _, rfl, l0, T.c_PageLoans, T.na_PageLoans_writer, l1, _, rfl, a, _, dx, _, _, rfl, l0, T.c_PageLoans, T.na_PageLoans_page, pfl_page, _, _, rfl, fun b hb1 => ?_⟩
            refine ⟨(by show 2 ≤ sizeLine; decide), fun cc hc1 => ?_⟩
            have nb : bl ≠ b := fun z => by rw [← z, upd_same] at hb1; cases hb1
            have nc : bl ≠ cc := fun z => by rw [← z, upd_ne nb, upd_same] at hc1; cases hc1
            have ncb : b ≠ cc := fun z => by rw [z, upd_same] at hc1; cases hc1
            refine ⟨bl, [], _, rfl, rfl, (by rw [upd_ne nc, upd_ne nb, upd_same]), (by show 0 < sizeLine; decide), ?_⟩
            refine hN _ _ ⟨rfl, ?_, _, upd_same, Nat.le_refl _, ?_⟩
            · exact same_upd ((s0.trans (same_new hb1)).trans (same_new hc1)) hb
            · rw [wBids_other hw e]
              simp only [List.map_cons, List.map_nil, RepL]
              refine ⟨_, _, rfl, pairD_back (b := b) (vs := []) (by rw [upd_ne nc.symm, upd_same]) (by rw [upd_ne nb.symm, upd_ne ncb, upd_same]), rfl⟩
          rcases hx with hx | hx
          · subst hx
            have := go (.str "read") (fun z hz => by rw [hz]; rfl)
            obtain ⟨v0, e0, ty, a1⟩ := this
            refine ⟨v0, e0, ty, ?_⟩
            obtain ⟨v1, e1, a', C', dx', fs', v', a2⟩ := a1
            obtain ⟨i1, i2, i3, i4, i5, v2, e2, a'', C'', dx'', fs'', v'', j1, j2, j3, j4, j5, a3⟩ := a2
            refine ⟨v1, e1, a', C', dx', fs', v', i1, i2, i3, i4, i5, v2, e2, a'', C'', dx'', fs'', v'', j1, j2, j3, j4, j5, ?_⟩
            refine ⟨_, rfl, rfl, _, rfl, ?_⟩
            exact iteTb vs_eq a3
          · subst hx
            have := go (.str "none") (fun z hz => by rw [hz]; rfl)
            obtain ⟨v0, e0, ty, a1⟩ := this
            refine ⟨v0, e0, ty, ?_⟩
            obtain ⟨v1, e1, a', C', dx', fs', v', a2⟩ := a1
            obtain ⟨i1, i2, i3, i4, i5, v2, e2, a'', C'', dx'', fs'', v'', j1, j2, j3, j4, j5, a3⟩ := a2
            refine ⟨v1, e1, a', C', dx', fs', v', i1, i2, i3, i4, i5, v2, e2, a'', C'', dx'', fs'', v'', j1, j2, j3, j4, j5, ?_⟩
            refine ⟨_, rfl, rfl, _, rfl, ?_⟩
            exact iteFb (rt_ne (r := .wr) (x := "read") (q := .rd) rfl (by intro z; cases z)) a3
    · rintro σ' H1 ⟨rfl, s1, us1, hb1, hl1, rp1⟩
      have l0 := s1 a _ h1
      try dsimp only
      refine seq_via (fun σ' H' => σ' = [some (.ref a), some (.int d), some (.str x.s), some (.ref bl)] ∧ Same H H' ∧ ∃ us, H' bl = some (.lst us) ∧ RepL H' us ((g.bids p).map pairD)) (fun N hN => ?_) ?_
      · refine ⟨_, rfl, rfl, _, rfl, ?_⟩
        rcases hx with hx | hx
        · subst hx
          refine iteFb (rt_ne (x := "write") (q := .wr) rfl (by intro z; cases z)) ?_
          refine hN _ _ ⟨rfl, s1, us1, hb1, ?_⟩
          rw [hbl]
          have : rBids g p d .rd = [] := by unfold rBids; rw [if_neg (by intro z; cases z)]
          rw [this, List.append_nil]
          exact rp1
        · subst hx
          refine iteTb vs_eq ?_
          refine ⟨_, rfl, .inl ⟨rfl, _, SqL.of hb1⟩, ?_⟩
          refine ⟨_, rfl, a, _, dx, _, _, rfl, l0, T.c_PageLoans, T.na_PageLoans_readers, pfl_readers, r, rfl, ⟨_, SqL.of (s1 _ _ h2)⟩, fun acc hacc => ?_⟩
          have nbl : bl ≠ acc := ne_of_none hb1 hacc
          have sacc : Same H1 (upd H1 acc (.lst [])) := same_new hacc
          let PV1 : Nat → List V → St → Hp → Prop := fun i zs σ' H' => (∃ o, σ' = [o, some (.ref a), some (.int d)]) ∧ Same H1 H' ∧ H' acc = some (.lst zs) ∧ zs.length ≤ i ∧ RepL H' zs ((((g.rd.take i).filter fun e => decide (e ≠ d)).map fun e => (e, Let.back p .no)).map pairD)
          refine comp_list (xs := g.rd.map nV) PV1 ?_ ?_ ?_ ?_
          · exact ⟨⟨_, rfl⟩, sacc, upd_same, Nat.le_refl _, by simp [RepL]⟩
          · rintro i zs σ' H' _ ⟨_, s', ha', _⟩
            exact ⟨SqL.of (s' _ _ (s1 _ _ h2)), ha'⟩
          · rintro i y zs σ' H' hy hi ⟨⟨o, rfl⟩, s', ha', hz, rp⟩
            rw [List.length_map] at hi
            have hy' : y = .int (g.rd[i] : Nat) := by
              rw [List.getElem?_map, List.getElem?_eq_getElem hi] at hy
              exact (Option.some.inj hy).symm
            subst hy'
            have htk : g.rd.take (i + 1) = g.rd.take i ++ [g.rd[i]] := by rw [List.take_add_one, List.getElem?_eq_getElem hi]; rfl
            refine ⟨_, rfl, _, rfl, rfl, _, rfl, ?_⟩
            by_cases e : g.rd[i] = d
            · refine iteFb (by rw [e]; simp) (CSkip.mk (by rw [List.length_map]; exact hi) ?_)
              refine ⟨⟨_, rfl⟩, s', ha', by lia, ?_⟩
              rw [htk, List.filter_append, List.filter_cons_of_neg (by simp [e])]
              simpa using rp
            · refine iteTb (by rw [decide_eq_false fun z => e (by have := V.int.inj z; lia)]; rfl) ?_
              refine ⟨_, rfl, _, rfl, a, _, dx, _, _, rfl, s' _ _ l0, T.c_PageLoans, T.na_PageLoans_page, pfl_page, _, _, rfl, fun b hb2 => ?_⟩
              refine ⟨(by show 2 ≤ sizeLine; decide), fun cc hc2 => ?_⟩
              have nb : acc ≠ b := ne_of_none ha' hb2
              have nc : acc ≠ cc := fun z => by rw [← z, upd_ne nb] at hc2; rw [hc2] at ha'; cases ha'
              have ncb : b ≠ cc := fun z => by rw [z, upd_same] at hc2; cases hc2
              have h6' : upd (upd H' b (.tup [.str "back", .int p, .str "none"])) cc (.tup [.int (g.rd[i] : Nat), .ref b]) acc = some (.lst zs) := by rw [upd_ne nc, upd_ne nb]; exact ha'
              have hz2 : zs.length < sizeLine := by lia
              refine CStep.mk (by rw [List.length_map]; exact hi) h6' hz2 ?_
              have sup : Same H' (upd (upd H' b (.tup [.str "back", .int p, .str "none"])) cc (.tup [.int (g.rd[i] : Nat), .ref b])) := (same_new hb2).trans (same_new hc2)
              refine ⟨⟨_, rfl⟩, ?_, upd_same, by rw [List.length_append]; simp; lia, ?_⟩
              · exact same_upd (s'.trans sup) hacc
              · rw [htk, List.filter_append, List.filter_cons_of_pos (by simp [e]), List.filter_nil, List.map_append, List.map_append]
                have tm := tup_lst (vs := zs ++ [.ref cc]) h6'
                refine RepL.snoc ((rp.tmono (same_tup sup) (pairD_flat _)).tmono tm (pairD_flat _)) ?_
                exact pairD_back (b := b) (x := .no) (vs := []) (by rw [upd_ne nc.symm, upd_same]) (by rw [upd_ne nb.symm, upd_ne ncb, upd_same]; rfl)
          · rintro zs σ' H' ⟨_, s', ha', hz, rp⟩
            rw [List.length_map] at hz rp
            rw [List.take_length] at rp
            have hb' := s' _ _ hb1
            refine ⟨bl, acc, us1, zs, rfl, rfl, hb', .inl (SqL.of ha'), by lia, ?_⟩
            have hbn : H bl = none := hb
            refine hN _ _ ⟨rfl, same_upd (s1.trans s') hbn, _, upd_same, ?_⟩
            have tm := tup_lst (vs := us1 ++ zs) hb'
            have hrb : rBids g p d .wr = (g.rd.filter fun e => decide (e ≠ d)).map fun e => (e, Let.back p .no) := by unfold rBids; rw [if_pos rfl]
            rw [hbl, List.map_append, hrb]
            exact RepL.append ((rp1.tmono (same_tup s') (pairD_flat _)).tmono tm (pairD_flat _)) (rp.tmono tm (pairD_flat _))
      · rintro σ' H2 ⟨rfl, s2, us2, hb2, rp2⟩
        exact ⟨_, rfl, k bl us2 H2 hb s2 hb2 rp2⟩
end
end K07
namespace K07
open PySem L2
section
variable {P : Program} {w : World} {K : PySem.W.Frag} {mg : Str → Option Value} {base : Heap} {t : Adr}
theorem RepL.cons_inv {H : Hp} {vs : List V} {d : D} {ds : List D} (h : RepL H vs (d :: ds)) : ∃ v r, vs = v :: r ∧ Rep H v d ∧ RepL H r ds := by simpa only [RepL] using h
theorem RepL.nil_inv {H : Hp} {vs : List V} (h : RepL H vs []) : vs = [] := by simpa only [RepL] using h
theorem RepL.isEmpty {H : Hp} {vs : List V} {ds : List D} (h : RepL H vs ds) : vs.isEmpty = ds.isEmpty := by
  have := h.length
  cases vs <;> cases ds <;> simp_all
theorem PgAt.lst_ne {C : Addr} {H : Hp} {a r q l : Addr} {p : Nat} {g : PG} {vs : List V} (PA : PgAt C H a r q p g) (h : H l = some (.lst vs)) : l ≠ a := by
  obtain ⟨⟨dx, h1⟩, _⟩ := PA
  exact ne_of h h1 (by intro z; cases z)
theorem PgAt.wrL {C : Addr} {H : Hp} {a r q l : Addr} {p : Nat} {g : PG} {us vs : List V} (PA : PgAt C H a r q p g) (h : H l = some (.lst us)) (nr : l ≠ r) (nq : l ≠ q) : PgAt C (upd H l (.lst vs)) a r q p g :=
  PA.keep (tup_lst h) (fun o e => by rw [upd_ne (PA.lst_ne h).symm]; exact e) (fun o e => by rw [upd_ne nr.symm]; exact e) fun o e => by rw [upd_ne nq.symm]; exact e
theorem wBids_len (g : PG) (p d : Nat) (x : Rt) : (wBids g p d x).length ≤ 1 := by
  unfold wBids
  split
  · split <;> simp
  · simp
theorem bids_len (g : PG) (p : Nat) : (g.bids p).length ≤ g.rd.length + 1 := by
  unfold PG.bids
  split
  · simp
  · rename_i a r l _
    rw [List.length_append]
    have h1 := wBids_len g p a r
    have h2 : (rBids g p a r).length ≤ g.rd.length := by
      unfold rBids
      split
      · rw [List.length_map]; exact List.length_filter_le _ _
      · simp
    lia
theorem serve_len : ∀ (k : Nat) (g : PG) (p : Nat), (serveN k g p).2.length ≤ k + g.mu + 1
  | 0, g, p => by simp [serveN]
  | k + 1, g, p => by
    rw [serveN]
    split
    · have := serve_len k g.lent p
      have h2 := g.lent_mu
      have h3 : (g.lend1 p).length ≤ 1 := by unfold PG.lend1; split <;> simp
      simp only [List.length_append]
      lia
    · have := bids_len g p
      simp only
      unfold PG.mu
      lia
theorem PG.serve_len (g : PG) (p : Nat) : (g.serve p).2.length ≤ 2 * g.mu + 1 := by
  have := K07.serve_len g.ask.length g p
  unfold PG.serve
  have h2 : g.ask.length ≤ g.mu := by unfold PG.mu; lia
  lia
theorem ok_PageLoans_serve (T : Txt K w mg t) : FnOk P w K mg base CX0 3 t.f_PageLoans_serve t.fd_PageLoans_serve ["self"] (spServe t.C_PageLoans) := by
  refine T.F_PageLoans_serve.ok sc_PageLoans_serve (fun vs H Q E h => ?_) (fun cdv A outer s H vs Q E hr h => ?_)
  · obtain ⟨a, r, q, p, g, rfl, _⟩ := h; rfl
  · obtain ⟨a, r, q, p, g0, rfl, PA, hrw, hmu, k⟩ := h
    have sl : sizeLine = 16777216 := by decide
    refine ⟨_, (pss_cons (ps_set (i := 1) sc_PageLoans_serve.nd rfl (Or.inl rfl) (pe_lst pa_nil))
      (pss_cons (ps_while PassesOwn.never (pt_truth (pe_fld (pv 0) (by rfl)) (fun _ => rfl)) (pss_cons (ps_set (i := 2) sc_PageLoans_serve.nd rfl (Or.inl rfl) (pe_meth0 (pv 0) T.c_PageLoans T.mt_PageLoans_bids_for_first (ok_PageLoans_bids_for_first T) (hr.mono (by decide) : Room 2 _) T.b_PageLoans_bids_for_first .nil pass0))
      (pss_cons (ps_if (pt_truth (pv 2) (fun _ => rfl)) (pss_cons (ps_fld (pv 0) (pe_callB call_len_seq (by rfl) T.n_len PySem.boot_len (pa_cons (pv 2) pa_nil)) (by rfl))
      (pss_one (ps_ret (pe_op op_cat (pv 1) (pv 2))))) pss_nil)
      (pss_one (ps_expr (pe_bm PySem.F.plainAttrs_list PySem.F.slot_list_append PySem.F.type_list_append mt_append (pv 1) (pa_cons (pe_meth0 (pv 0) T.c_PageLoans T.mt_PageLoans_lend (ok_PageLoans_lend T) (hr.mono (by decide) : Room 2 _) T.b_PageLoans_lend .nil pass0) pa_nil)))))))
      (pss_one (ps_ret (pv 1))))), ?_⟩
    try dsimp only [cxOf, Cx.nox]
    show let Z1 : L2.TS := _; let Z2 : L2.TS := _; let Z3 : L2.TS := _; let Z4 : L2.TS := _; let Z5 : L2.TS := tSeq Z3 (Z4); let Z6 : L2.TS := tIfS _ Z5 tNext; let Z7 : L2.TS := _; let Z8 : L2.TS := tSeq Z2 (tSeq Z6 (Z7)); let Z9 : L2.TS := tWhile _ Z8; let Z10 : L2.TS := _; let D0 : Ends := _; (tSeq Z1 (tSeq Z9 (Z10))) D0 _ _
    intro Z1 Z2 Z3 Z4 Z5 Z6 Z7 Z8 Z9 Z10 D0
    refine ⟨(by show 0 ≤ sizeLine; decide), fun l hl => ?_⟩
    have nlr : l ≠ r := (ne_of_none PA.rl hl).symm
    have nlq : l ≠ q := by obtain ⟨_, _, ⟨vs, h3, _⟩, _⟩ := PA; exact (ne_of_none h3 hl).symm
    refine ⟨fun m σ H1 => ∃ o g r1 vs acc, σ = [some (.ref a), some (.ref l), o] ∧ (r1 = r ∨ H r1 = none) ∧ l ≠ r1 ∧ PgAt t.C_PageLoans H1 a r1 q p g ∧ PF H H1 a r q ∧ H1 l = some (.lst vs) ∧ RepL H1 vs (acc.map pairD) ∧ Rw g.ask ∧ g.mu ≤ 1000000 ∧ acc.length + g.ask.length ≤ g0.ask.length ∧
      (g0.serve p).1 = (g.serve p).1 ∧ (g0.serve p).2 = acc ++ (g.serve p).2 ∧ m = g.ask.length, ⟨_, none, g0, r, [], [], rfl, .inl rfl, nlr, PA.new hl, PF.new hl, upd_same, by simp [RepL], hrw, hmu, by simp, rfl, by simp, rfl⟩, ?_⟩
    rintro m σ H1 ⟨o, g, r1, vs, acc, rfl, hr1, nl1, P1, f1, hl1, rp, rw1, mu1, len1, se1, se2, rfl⟩
    have hlen0 : g0.ask.length ≤ 1000000 := by unfold PG.mu at hmu; lia
    have hvl : vs.length = acc.length := by rw [rp.length, List.length_map]
    obtain ⟨⟨dx, h1⟩, h2, ⟨us, h3, h4⟩, h5⟩ := id P1
    refine ⟨_, rfl, a, _, dx, _, _, rfl, h1, T.c_PageLoans, T.na_PageLoans_asked, pfl_asked, _, .inl ⟨us, SqL.of h3, rfl⟩, ?_⟩
    cases hask : g.ask with
    | nil =>
      rw [hask] at h4
      have := RepL.nil_inv (by simpa using h4)
      subst this
      refine iteFb rfl ?_
      refine ⟨_, rfl, k l r1 vs H1 hl hr1 nl1 ?_ f1 hl1 ?_⟩
      · rw [se1, serve_nil hask]; exact P1
      · rw [se2, serve_nil hask, List.append_nil]; exact rp
    | cons x0 q0 =>
      obtain ⟨d, x⟩ := x0
      have hx : x = .rd ∨ x = .wr := rw1 (d, x) (by rw [hask]; simp)
      have hne : g.ask ≠ [] := by rw [hask]; simp
      have hlen : us.length = g.ask.length := by rw [h4.length, List.length_map]
      have hrdl : g.rd.length ≤ 1000000 := by unfold PG.mu at mu1; lia
      refine iteTb (by cases us with | nil => rw [hask] at hlen; simp at hlen | cons _ _ => rfl) ?_
      refine ⟨fun σ' H' => ∃ m', m' < q0.length + 1 ∧ ∃ o g r1 vs acc, σ' = [some (.ref a), some (.ref l), o] ∧ (r1 = r ∨ H r1 = none) ∧ l ≠ r1 ∧ PgAt t.C_PageLoans H' a r1 q p g ∧ PF H H' a r q ∧ H' l = some (.lst vs) ∧ RepL H' vs (acc.map pairD) ∧ Rw g.ask ∧ g.mu ≤ 1000000 ∧ acc.length + g.ask.length ≤ g0.ask.length ∧
        (g0.serve p).1 = (g.serve p).1 ∧ (g0.serve p).2 = acc ++ (g.serve p).2 ∧ m' = g.ask.length, fun σ' H' z => z, ?_⟩
      refine ⟨_, rfl, a, dx, _, rfl, h1, pfl_bids, a, r1, q, p, g, d, x, q0, rfl, P1, hask, hx, hrdl, fun b bs H2 hb s2 hb2 rpb => ?_⟩
      have P2 := P1.same s2
      have hl2 := s2 _ _ hl1
      have nbl : b ≠ l := (ne_of_none hl1 hb).symm
      obtain ⟨⟨dx2, g1⟩, _⟩ := id P2
      have hbl : bs.length = (g.bids p).length := by rw [rpb.length, List.length_map]
      refine ⟨_, rfl, _, .inl ⟨bs, SqL.of hb2, rfl⟩, ?_⟩
      by_cases he : g.bids p = []
      · have e0 : bs = [] := by rw [he] at hbl; exact List.length_eq_zero_iff.mp hbl
        subst e0
        refine iteFb rfl ?_
        refine ⟨_, rfl, .inl ⟨rfl, _, SqL.of hl2⟩, _, rfl, a, dx2, _, rfl, g1, pfl_lend, a, r1, q, p, g, d, x, q0, rfl, P2, hask, hx, hrdl, fun v r2 H3 hr2 P3 f3 rv => ?_⟩
        have nq : l ≠ q := nlq
        have hl3 : H3 l = some (.lst vs) := f3.kp l _ hl2 (P2.lst_ne hl2) nl1 nq
        have nl2 : l ≠ r2 := by
          rcases hr2 with z | z
          · rw [z]; exact nl1
          · exact ne_of_none hl2 z
        have t3 := f3.tups P2
        refine ⟨l, vs, v, rfl, rfl, hl3, by lia, ?_⟩
        refine ⟨_, ?_, _, g.lent, r2, vs ++ [v], acc ++ [(d, .lend p x g.num)], rfl, ?_, nl2, P3.wrL hl3 nl2 nq, ?_, upd_same, ?_, ?_, Nat.le_trans g.lent_mu mu1, ?_, ?_, ?_, rfl⟩
        · rw [PG.lent_len, hask]; simp
        · rcases hr2 with z | z
          · rw [z]; exact hr1
          · exact .inr (f1.lv _ (Lv.same s2 _ z))
        · refine ⟨fun b' o' e' h1' h2' h3' => ?_, f1.lv.trans ((Lv.same s2).trans (f3.lv.trans Lv.upd))⟩
          have e2' := s2 _ _ (f1.kp b' o' e' h1' h2' h3')
          have e3' := f3.kp b' o' e2' h1' (by
            rcases hr1 with z | z
            · rw [z]; exact h2'
            · exact ne_of_none e' z) h3'
          rw [upd_ne (ne_of_none e' hl)]
          exact e3'
        · rw [List.map_append]
          exact RepL.snoc (((rp.tmono (same_tup s2) (pairD_flat _)).tmono t3 (pairD_flat _)).tmono (tup_lst hl3) (pairD_flat _)) (rv.tmono (tup_lst hl3) (by simp [pairD, D.flat, D.flats]; exact Let.flat _))
        · have : g.lent.ask = q0 := by unfold PG.lent; rw [hask]; dsimp only; split <;> rfl
          rw [this]
          intro y hy
          exact rw1 y (by rw [hask]; exact List.mem_cons_of_mem _ hy)
        · rw [PG.lent_len, hask, List.length_append]
          rw [hask] at len1
          simp at len1 ⊢
          lia
        · rw [se1, serve_lend hne he]
        · rw [se2, serve_lend hne he]
          have : g.lend1 p = [(d, .lend p x g.num)] := by unfold PG.lend1; rw [hask]
          rw [this, List.append_assoc]
      · refine iteTb (by cases bs with | nil => exact absurd (List.length_eq_zero_iff.mp hbl.symm) he | cons _ _ => rfl) ?_
        refine ⟨_, rfl, b, bs, rfl, .inl (SqL.of hb2), _, rfl, a, _, dx2, _, rfl, g1, T.c_PageLoans, T.na_PageLoans_awaited, pfl_len, ?_⟩
        rw [pfl_miss]
        have P3 := P2.wr (dx := dx2) (g' := { g with miss := (bs.length : Int) }) rfl rfl
        have hl3 : upd H2 a (.ins t.C_PageLoans dx2 (pfl p { g with miss := (bs.length : Int) } r1 q)) l = some (.lst vs) := by rw [upd_ne (P2.lst_ne hl2)]; exact hl2
        have hb3 : upd H2 a (.ins t.C_PageLoans dx2 (pfl p { g with miss := (bs.length : Int) } r1 q)) b = some (.lst bs) := by rw [upd_ne (P2.lst_ne hb2)]; exact hb2
        have t3 : TupSame H2 (upd H2 a (.ins t.C_PageLoans dx2 (pfl p { g with miss := (bs.length : Int) } r1 q))) := fun b' xs e => by rw [upd_ne (ne_of e g1 (by intro z; cases z))]; exact e
        have bl2 := bids_len g p
        refine ⟨_, rfl, _, rfl, l, b, vs, bs, rfl, rfl, hl3, hb3, by lia, fun c hc => ?_⟩
        have hcl : H c = none := f1.lv _ (Lv.same s2 _ (Lv.upd _ hc))
        refine k c r1 (vs ++ bs) _ hcl hr1 ?_ ?_ ?_ upd_same ?_
        · exact (ne_of_none P3.rl hc).symm
        · rw [se1, serve_bid hne he, ← hbl]; exact P3.new hc
        · refine ⟨fun b' o' e' h1' h2' h3' => ?_, f1.lv.trans ((Lv.same s2).trans (Lv.upd.trans Lv.upd))⟩
          have e2' := s2 _ _ (f1.kp b' o' e' h1' h2' h3')
          rw [upd_ne (ne_of_none e' hcl), upd_ne h1']
          exact e2'
        · rw [se2, serve_bid hne he, List.map_append]
          have tc := same_tup (same_new (o := .lst (vs ++ bs)) hc)
          exact RepL.append (((rp.tmono (same_tup s2) (pairD_flat _)).tmono t3 (pairD_flat _)).tmono tc (pairD_flat _)) ((rpb.tmono t3 (pairD_flat _)).tmono tc (pairD_flat _))
theorem ok_PageLoans_take_gave (T : Txt K w mg t) : FnOk P w K mg base CX0 1 t.f_PageLoans_take_gave t.fd_PageLoans_take_gave ["self", "desk", "number"] (spGave t.C_PageLoans) := by
  refine T.F_PageLoans_take_gave.ok sc_PageLoans_take_gave (fun vs H Q E h => ?_) (fun cdv A outer s H vs Q E hr h => ?_)
  · obtain ⟨a, r, q, p, g, d, n, rfl, _⟩ := h; rfl
  · obtain ⟨a, r, q, p, g, d, n, rfl, PA, k⟩ := h
    refine ⟨_, (pss_cons (ps_fld (pv 0) (pv 2) (by rfl))
      (pss_cons (ps_if (pt_cmpR op_eq (pe_fld (pv 0) (by rfl)) (pv 1) (nomark _)) (pss_one (ps_fld (pv 0) pe_non (by rfl))) pss_nil)
      (pss_one (ps_ret (pe_lst pa_nil))))), ?_⟩
    try dsimp only [cxOf, Cx.nox]
    show let Z1 : L2.TS := _; let Z2 : L2.TS := _; let Z3 : L2.TS := tIfS _ Z2 tNext; let Z4 : L2.TS := _; let D0 : Ends := _; (tSeq Z1 (tSeq Z3 (Z4))) D0 _ _
    intro Z1 Z2 Z3 Z4 D0
    obtain ⟨⟨dx, h1⟩, _⟩ := id PA
    refine ⟨_, rfl, _, rfl, a, _, dx, _, rfl, h1, T.c_PageLoans, T.na_PageLoans_number, pfl_len, ?_⟩
    rw [pfl_num]
    have P1 := PA.wr (dx := dx) (g' := { g with num := n }) rfl rfl
    have f1 : PF H (upd H a (.ins t.C_PageLoans dx (pfl p { g with num := n } r q))) a r q := PF.wr
    generalize upd H a (.ins t.C_PageLoans dx (pfl p { g with num := n } r q)) = H1 at P1 f1
    try dsimp only [tNext]
    refine seq_via (fun σ' H' => σ' = [some (.ref a), some (.int d), some (.int n)] ∧ PgAt t.C_PageLoans H' a r q p { g with num := n, wr := if g.wr = some d then none else g.wr } ∧ PF H H' a r q) (fun N hN => ?_) ?_
    · obtain ⟨⟨dx1, g1⟩, _⟩ := id P1
      have sc : scal (wrV g.wr) (.int d) = true := by cases g.wr <;> rfl
      refine ⟨_, rfl, a, _, dx1, _, _, rfl, g1, T.c_PageLoans, T.na_PageLoans_writer, pfl_writer, _, rfl, sc, _, rfl, ?_⟩
      by_cases e : g.wr = some d
      · refine iteTb (by show decide (wrV g.wr = V.int d) = true; rw [e]; exact decide_eq_true rfl) ?_
        refine ⟨_, rfl, a, _, dx1, _, rfl, g1, T.c_PageLoans, T.na_PageLoans_writer, pfl_len, ?_⟩
        rw [pfl_wrN]
        refine hN _ _ ⟨rfl, ?_, f1.trans PF.wr⟩
        rw [if_pos e]
        exact P1.wr rfl rfl
      · refine iteFb (decide_eq_false fun z => e ?_) ?_
        · cases hw : g.wr with
          | none => rw [hw] at z; cases z
          | some x => rw [hw] at z; have := V.int.inj z; exact congrArg some (by lia)
        · refine hN _ _ ⟨rfl, ?_, f1⟩
          rw [if_neg e]
          exact P1
    · rintro σ' H2 ⟨rfl, P2, f2⟩
      refine ⟨(by show 0 ≤ sizeLine; decide), fun l hl => ?_⟩
      exact k l r [] _ (f2.lv _ hl) (.inl rfl) (ne_of_none P2.rl hl).symm (P2.new hl) (f2.trans (PF.new hl)) upd_same (by simp [PG.take, RepL])
theorem ok_PageLoans_take_ask (T : Txt K w mg t) : FnOk P w K mg base CX0 4 t.f_PageLoans_take_ask t.fd_PageLoans_take_ask ["self", "desk", "right"] (spAsk t.C_PageLoans) := by
  refine T.F_PageLoans_take_ask.ok sc_PageLoans_take_ask (fun vs H Q E h => ?_) (fun cdv A outer s H vs Q E hr h => ?_)
  · obtain ⟨a, r, q, p, g, x, d, rfl, _⟩ := h; rfl
  · obtain ⟨a, r, q, p, g, x, d, rfl, PA, hx, hrw, hmu, k⟩ := h
    have sl : sizeLine = 16777216 := by decide
    refine ⟨_, (pss_cons (ps_expr (pe_bm PySem.F.plainAttrs_list PySem.F.slot_list_append PySem.F.type_list_append mt_append (pe_fld (pv 0) (by rfl)) (pa_cons (pe_tup (pa_cons (pv 1) (pa_cons (pv 2) pa_nil))) pa_nil)))
      (pss_one (ps_ret (pe_ifExp (pt_cmpR op_eq (pe_callB call_len_seq (by rfl) T.n_len PySem.boot_len (pa_cons (pe_fld (pv 0) (by rfl)) pa_nil)) pe_int (nomark _)) (pe_meth0 (pv 0) T.c_PageLoans T.mt_PageLoans_serve (ok_PageLoans_serve T) (hr.mono (by decide) : Room 3 _) T.b_PageLoans_serve .nil pass0) (pe_lst pa_nil))))), ?_⟩
    try dsimp only [cxOf, Cx.nox]
    show let Z1 : L2.TS := _; let Z2 : L2.TS := _; let D0 : Ends := _; (tSeq Z1 (Z2)) D0 _ _
    intro Z1 Z2 D0
    obtain ⟨⟨dx, h1⟩, h2, ⟨vs, h3, h4⟩, h5⟩ := id PA
    have hvl : vs.length = g.ask.length := by rw [h4.length, List.length_map]
    have hal : g.ask.length ≤ 900000 := by unfold PG.mu at hmu; lia
    refine ⟨_, rfl, a, _, dx, _, _, rfl, h1, T.c_PageLoans, T.na_PageLoans_asked, pfl_asked, .inl ⟨rfl, _, SqL.of h3⟩, _, rfl, _, rfl, (by show 2 ≤ sizeLine; decide), fun tt ht => ?_⟩
    have s1 := same_new (o := .tup [.int d, .str x.s]) ht
    refine ⟨q, vs, _, rfl, rfl, s1 _ _ h3, by lia, ?_⟩
    have rp : RepL (upd H tt (.tup [.int d, .str x.s])) (vs ++ [.ref tt]) ((g.ask ++ [(d, x)]).map askD) := by
      rw [List.map_append]
      refine RepL.snoc (h4.tmono (same_tup s1) (askD_flat _)) ?_
      simp only [askD, Rep, RepL]
      exact ⟨tt, _, rfl, upd_same, _, _, rfl, rfl, _, _, rfl, rfl, rfl⟩
    have P1 := (PA.same s1).wrQ (l := g.ask ++ [(d, x)]) rp
    have f1 : PF H (upd (upd H tt (.tup [.int d, .str x.s])) q (.lst (vs ++ [.ref tt]))) a r q := (PF.new ht).trans PF.wrQ
    generalize upd (upd H tt (.tup [.int d, .str x.s])) q (.lst (vs ++ [.ref tt])) = H1 at P1 f1
    obtain ⟨⟨dx1, g1⟩, _, ⟨us, g3, g4⟩, _⟩ := id P1
    have hul : us.length = g.ask.length + 1 := by rw [g4.length, List.length_map]; simp
    refine ⟨_, rfl, a, _, dx1, _, _, rfl, g1, T.c_PageLoans, T.na_PageLoans_asked, pfl_asked, q, us, rfl, .inl (SqL.of g3), rfl, _, rfl, ?_⟩
    by_cases e : g.ask = []
    · refine iteTb (decide_eq_true (by rw [hul, e]; rfl)) ?_
      refine ⟨_, rfl, a, dx1, _, rfl, g1, pfl_serve, a, r, q, p, _, rfl, P1, ?_, ?_, fun l r' ws H' hl hr' nl P' f' hl' rp' => ?_⟩
      · intro y hy
        rcases List.mem_append.mp hy with hy | hy
        · exact hrw y hy
        · have : y = (d, x) := by simpa using hy
          rw [this]; exact hx
      · unfold PG.mu at hmu ⊢; simp; lia
      · have ek : g.take p d (.ask p x) = PG.serve { g with ask := g.ask ++ [(d, x)] } p := by simp only [PG.take]; rw [if_pos e, e]; rfl
        refine k l r' ws H' (f1.lv _ hl) ?_ nl ?_ (f1.trans f') hl' ?_
        · rcases hr' with z | z
          · exact .inl z
          · exact .inr (f1.lv _ z)
        · rw [ek]; exact P'
        · rw [ek]; exact rp'
    · refine iteFb (decide_eq_false ?_) ?_
      · intro z
        have z1 := V.int.inj z
        have : g.ask.length ≠ 0 := fun y => e (List.length_eq_zero_iff.mp y)
        lia
      refine ⟨(by show 0 ≤ sizeLine; decide), fun l hl => ?_⟩
      have ek : g.take p d (.ask p x) = ({ g with ask := g.ask ++ [(d, x)] }, []) := by simp only [PG.take]; rw [if_neg e]
      exact k l r [] _ (f1.lv _ hl) (.inl rfl) (ne_of_none P1.rl hl).symm (by rw [ek]; exact P1.new hl) (f1.trans (PF.new hl)) upd_same (by rw [ek]; simp [RepL])
theorem ok_PageLoans_take_answer (T : Txt K w mg t) : FnOk P w K mg base CX0 4 t.f_PageLoans_take_answer t.fd_PageLoans_take_answer ["self", "number"] (spAns t.C_PageLoans) := by
  refine T.F_PageLoans_take_answer.ok sc_PageLoans_take_answer (fun vs H Q E h => ?_) (fun cdv A outer s H vs Q E hr h => ?_)
  · obtain ⟨a, r, q, p, g, o, d, rfl, _⟩ := h; rfl
  · obtain ⟨a, r, q, p, g, o, d, rfl, PA, hms, hrw, hmu, k⟩ := h
    have sl : sizeLine = 16777216 := by decide
    refine ⟨_, (pss_cons (ps_if (pt_cmp (pc_notN (pv 1))) (pss_one (ps_fld (pv 0) (pv 1) (by rfl))) pss_nil)
      (pss_cons (ps_fldaug (pv 0) pe_int in_sub)
      (pss_cons (ps_if (pt_cmpR op_ne (pe_fld (pv 0) (by rfl)) pe_int (nomark _)) (pss_one (ps_ret (pe_lst pa_nil))) pss_nil)
      (pss_one (ps_ret (pe_op op_cat (pe_lst (pa_cons (pe_meth0 (pv 0) T.c_PageLoans T.mt_PageLoans_lend (ok_PageLoans_lend T) (hr.mono (by decide) : Room 2 _) T.b_PageLoans_lend .nil pass0) pa_nil)) (pe_meth0 (pv 0) T.c_PageLoans T.mt_PageLoans_serve (ok_PageLoans_serve T) (hr.mono (by decide) : Room 3 _) T.b_PageLoans_serve .nil pass0))))))), ?_⟩
    try dsimp only [cxOf, Cx.nox]
    show let Z1 : L2.TS := _; let Z2 : L2.TS := tIfS _ Z1 tNext; let Z3 : L2.TS := _; let Z4 : L2.TS := _; let Z5 : L2.TS := tIfS _ Z4 tNext; let Z6 : L2.TS := _; let D0 : Ends := _; (tSeq Z2 (tSeq Z3 (tSeq Z5 (Z6)))) D0 _ _
    intro Z1 Z2 Z3 Z4 Z5 Z6 D0
    try dsimp only [tNext]
    refine seq_via (fun σ' H' => σ' = [some (.ref a), some (oV o)] ∧ PgAt t.C_PageLoans H' a r q p { g with num := o.getD g.num } ∧ PF H H' a r q) (fun N hN => ?_) ?_
    · obtain ⟨⟨dx, h1⟩, _⟩ := id PA
      refine ⟨_, rfl, _, rfl, ?_⟩
      cases o with
      | none =>
        refine iteFb rfl ?_
        exact hN _ _ ⟨rfl, PA, PF.refl _ _ _ _⟩
      | some n =>
        refine iteTb rfl ?_
        refine ⟨_, rfl, _, rfl, a, _, dx, _, rfl, h1, T.c_PageLoans, T.na_PageLoans_number, pfl_len, ?_⟩
        show N _ (upd H a (.ins _ dx (putF "number" (.int n) _)))
        rw [pfl_num]
        exact hN _ _ ⟨rfl, PA.wr rfl rfl, PF.wr⟩
    · rintro σ' H1 ⟨rfl, P1, f1⟩
      obtain ⟨⟨dx, h1⟩, _⟩ := id P1
      refine ⟨_, rfl, a, _, dx, _, _, rfl, h1, T.c_PageLoans, T.na_PageLoans_awaited, pfl_awaited, _, _, rfl, rfl, dx, _, h1, pfl_len, ?_⟩
      rw [pfl_miss]
      have P2 := P1.wr (dx := dx) (g' := { g with num := o.getD g.num, miss := g.miss - 1 }) rfl rfl
      have f2 : PF H (upd H1 a (.ins t.C_PageLoans dx (pfl p { g with num := o.getD g.num, miss := g.miss - 1 } r q))) a r q := f1.trans PF.wr
      generalize upd H1 a (.ins t.C_PageLoans dx (pfl p { g with num := o.getD g.num, miss := g.miss - 1 } r q)) = H2 at P2 f2
      generalize hg : ({ g with num := o.getD g.num, miss := g.miss - 1 } : PG) = g2 at P2
      have hga : g2.ask = g.ask := by rw [← hg]
      have hgr : g2.rd = g.rd := by rw [← hg]
      have hgm : g2.miss = g.miss - 1 := by rw [← hg]
      obtain ⟨⟨dx2, g1⟩, _⟩ := id P2
      refine ⟨_, rfl, a, _, dx2, _, _, rfl, g1, T.c_PageLoans, T.na_PageLoans_awaited, pfl_awaited, rfl, _, rfl, ?_⟩
      have ek : g.take p d (.ans p o) = if g.miss - 1 = 0 then ((g2.lent.serve p).1, g2.lend1 p ++ (g2.lent.serve p).2) else (g2, []) := by simp only [PG.take]; rw [hg]
      by_cases e : g.miss - 1 = 0
      · refine iteFb (by rw [hgm, e]; rfl) ?_
        rw [if_pos e] at ek
        cases hask : g2.ask with
        | nil => exact absurd (hga ▸ hask) (hms e)
        | cons x0 q0 =>
          obtain ⟨d0, x⟩ := x0
          have hx : x = .rd ∨ x = .wr := hrw (d0, x) (by rw [← hga, hask]; simp)
          have hrl : g2.rd.length ≤ 1000000 := by rw [hgr]; unfold PG.mu at hmu; lia
          refine ⟨_, rfl, a, dx2, _, rfl, g1, pfl_lend, a, r, q, p, g2, d0, x, q0, rfl, P2, hask, hx, hrl, fun v r1 H3 hr1 P3 f3 rv => ?_⟩
          refine ⟨(by show 1 ≤ sizeLine; decide), fun l1 hl1 => ?_⟩
          have P4 := P3.new (o := .lst [v]) hl1
          have f4 : PF H2 (upd H3 l1 (.lst [v])) a r q := f3.trans (PF.new hl1)
          have nl1 : l1 ≠ r1 := (ne_of_none P3.rl hl1).symm
          have nq1 : l1 ≠ q := by obtain ⟨_, _, ⟨us, g3, _⟩, _⟩ := P3; exact (ne_of_none g3 hl1).symm
          have hv1 : upd H3 l1 (.lst [v]) l1 = some (.lst [v]) := upd_same
          have rv1 := Rep.tmono (same_tup (same_new (o := .lst [v]) hl1)) (show (pairD (d0, .lend p x g2.num)).flat by simp only [pairD, D.flat, D.flats]; exact ⟨trivial, Let.flat _, trivial⟩) rv
          have hl1n := f3.lv _ hl1
          generalize upd H3 l1 (.lst [v]) = H4 at P4 f4 hv1 rv1
          obtain ⟨⟨dx4, k1⟩, _⟩ := id P4
          have hla : g2.lent.ask = q0 := by unfold PG.lent; rw [hask]; dsimp only; split <;> rfl
          refine ⟨_, rfl, a, dx4, _, rfl, k1, pfl_serve, a, r1, q, p, _, rfl, P4, ?_, ?_, fun l r' ws H5 hl hr' nl P5 f5 hl5 rp5 => ?_⟩
          · rw [hla]; intro y hy; exact hrw y (by rw [← hga, hask]; exact List.mem_cons_of_mem _ hy)
          · refine Nat.le_trans g2.lent_mu ?_
            unfold PG.mu at hmu ⊢; rw [hga, hgr]; lia
          · have hl15 : H5 l1 = some (.lst [v]) := f5.kp l1 _ hv1 (P4.lst_ne hv1) nl1 nq1
            have wl : ws.length ≤ 3000000 := by
              rw [rp5.length, List.length_map]
              have h8 := g2.lent.serve_len p
              have h9 := g2.lent_mu
              have h10 : g2.mu ≤ 900000 := by unfold PG.mu at hmu ⊢; rw [hga, hgr]; lia
              lia
            refine ⟨l1, l, [v], ws, rfl, rfl, hl15, hl5, (by simp only [List.length_singleton]; lia), fun c hc => ?_⟩
            have fr1 : r1 = r ∨ H r1 = none := by
              rcases hr1 with z | z
              · exact .inl z
              · exact .inr (f2.lv _ z)
            refine k c r' ([v] ++ ws) _ (f2.lv _ (f4.lv _ (f5.lv _ hc))) ?_ (ne_of_none P5.rl hc).symm (by rw [ek]; exact P5.new hc) ((f2.trans f4).trans' (f5.trans' (PF.new hc) hr') fr1) upd_same ?_
            · rcases hr' with z | z
              · rw [z]; exact fr1
              · exact .inr (f2.lv _ (f4.lv _ z))
            · rw [ek]
              have h11 : g2.lend1 p = [(d0, .lend p x g2.num)] := by unfold PG.lend1; rw [hask]
              rw [h11, List.map_append]
              have tc := same_tup (same_new (o := .lst ([v] ++ ws)) hc)
              refine RepL.append ?_ (rp5.tmono tc (pairD_flat _))
              simp only [List.map_cons, List.map_nil, RepL]
              have hfl : (pairD (d0, .lend p x g2.num)).flat := by simp only [pairD, D.flat, D.flats]; exact ⟨trivial, Let.flat _, trivial⟩
              exact ⟨v, [], rfl, Rep.tmono tc hfl (Rep.tmono (f5.tups P4) hfl rv1), rfl⟩
      · refine iteTb (by rw [hgm]; rw [decide_eq_false fun z => e (V.int.inj z)]; rfl) ?_
        rw [if_neg e] at ek
        refine ⟨(by show 0 ≤ sizeLine; decide), fun l hl => ?_⟩
        exact k l r [] _ (f2.lv _ hl) (.inl rfl) (ne_of_none P2.rl hl).symm (by rw [ek]; exact P2.new hl) (f2.trans (PF.new hl)) upd_same (by rw [ek]; simp [RepL])
end
end K07
namespace K07
open PySem L2
section
variable {P : Program} {w : World} {K : PySem.W.Frag} {mg : Str → Option Value} {base : Heap} {t : Adr}
theorem ok_Hall_take (T : Txt K w mg t) : FnOk P w K mg base CX0 5 t.f_Hall_take t.fd_Hall_take ["self", "desk", "letter"] (spHallTake t.C_Hall t.C_PageLoans) := by
  refine T.F_Hall_take.ok sc_Hall_take (fun vs H Q E h => ?_) (fun cdv A outer s H vs Q E hr h => ?_)
  · obtain ⟨A, m, G, b, l, d, rfl, _⟩ := h; rfl
  · obtain ⟨A0, m, G, b, l, d, rfl, HA, hb, hp, hg, hrw, hmu, k⟩ := h
    refine ⟨_, (pss_cons (ps_set (i := 3) sc_Hall_take.nd rfl (Or.inl rfl) (pe_ix ix_list (pe_fld (pv 0) (by rfl)) (pe_ix ix_tup (pv 2) pe_int (fun _ _ => rfl)) (fun _ _ => rfl)))
      (pss_cons (ps_if (pt_cmpR op_eq (pe_ix ix_tup (pv 2) pe_int (fun _ _ => rfl)) pe_str (nomark _)) (pss_one (ps_ret (pe_meth (pv 3) T.c_PageLoans T.mt_PageLoans_take_ask (ok_PageLoans_take_ask T) (hr.mono (by decide) : Room 4 _) T.b_PageLoans_take_ask .nil pass0 (pa_cons (pv 1) (pa_cons (pe_ix ix_tup (pv 2) pe_int (fun _ _ => rfl)) pa_nil))))) pss_nil)
      (pss_cons (ps_if (pt_cmpR op_eq (pe_ix ix_tup (pv 2) pe_int (fun _ _ => rfl)) pe_str (nomark _)) (pss_one (ps_ret (pe_meth (pv 3) T.c_PageLoans T.mt_PageLoans_take_answer (ok_PageLoans_take_answer T) (hr.mono (by decide) : Room 4 _) T.b_PageLoans_take_answer .nil pass0 (pa_cons (pe_ix ix_tup (pv 2) pe_int (fun _ _ => rfl)) pa_nil)))) pss_nil)
      (pss_one (ps_ret (pe_meth (pv 3) T.c_PageLoans T.mt_PageLoans_take_gave (ok_PageLoans_take_gave T) (hr.mono (by decide) : Room 1 _) T.b_PageLoans_take_gave .nil pass0 (pa_cons (pv 1) (pa_cons (pe_ix ix_tup (pv 2) pe_int (fun _ _ => rfl)) pa_nil)))))))), ?_⟩
    try dsimp only [cxOf, Cx.nox]
    show let Z1 : L2.TS := _; let Z2 : L2.TS := _; let Z3 : L2.TS := tIfS _ Z2 tNext; let Z4 : L2.TS := _; let Z5 : L2.TS := tIfS _ Z4 tNext; let Z6 : L2.TS := _; let D0 : Ends := _; (tSeq Z1 (tSeq Z3 (tSeq Z5 (Z6)))) D0 _ _
    intro Z1 Z2 Z3 Z4 Z5 Z6 D0
    obtain ⟨dx, h1⟩ := HA.ob
    have hpl := HA.pl
    have PA := HA.pg l.pg hp
    obtain ⟨⟨dx1, g1⟩, _⟩ := id PA
    refine ⟨_, rfl, A0 .hall, _, dx, _, _, rfl, h1, T.c_Hall, T.na_Hall_pages, hfl_pages, zt rfl (SqT.of hb) (UL.at1 l) ⟨A0 .pages, _, _, _, rfl, rfl, SqL.of hpl, range_at hp, ?_⟩⟩
    have fin : ∀ lst r' vs H', H lst = none → (r' = A0 (.rdr l.pg) ∨ H r' = none) → lst ≠ r' → PgAt t.C_PageLoans H' (A0 (.loan l.pg)) r' (A0 (.asq l.pg)) l.pg ((G l.pg).take l.pg d l).1 → PF H H' (A0 (.loan l.pg)) (A0 (.rdr l.pg)) (A0 (.asq l.pg)) → H' lst = some (.lst vs) → RepL H' vs (((G l.pg).take l.pg d l).2.map pairD) → Q (.ref lst) H' := fun lst r' vs H' hl hr' nl P' f' hl' rp => by
      obtain ⟨HA', hf⟩ := HA.page hp P' f' hr'
      refine k lst _ vs H' hl HA' hf (fun x hx => ?_) (fun x hx => ?_) (setL_ne _ _ (by intro z; cases z)) hl' rp
      · by_cases e : x = .rdr l.pg
        · rw [e, setL_same]; exact hr'
        · rw [setL_ne _ _ e]; exact .inl rfl
      · by_cases e : x = .rdr l.pg
        · rw [e, setL_same]; exact nl
        · rw [setL_ne _ _ e]
          intro z
          obtain ⟨o, e1, _⟩ := HA.live x hx
          rw [← z, hl] at e1; cases e1
    cases l with
    | ask p x =>
      refine zt rfl (SqT.of hb) rfl ⟨rfl, _, rfl, ?_⟩
      refine iteTb vs_eq ?_
      refine ⟨_, rfl, _, dx1, _, rfl, g1, pfl_ta, _, rfl, zt rfl (SqT.of hb) rfl ⟨_, _, _, p, G p, x, d, rfl, PA, hg, hrw, hmu, fun lst r' vs H' hl hr' nl P' f' hl' rp => fin lst r' vs H' hl hr' nl P' f' hl' rp⟩⟩
    | ans p o =>
      refine zt rfl (SqT.of hb) rfl ⟨rfl, _, rfl, ?_⟩
      refine iteFb (vs_ne (by decide +kernel)) ?_
      refine zt rfl (SqT.of hb) rfl ⟨rfl, _, rfl, ?_⟩
      refine iteTb vs_eq ?_
      refine ⟨_, rfl, _, dx1, _, rfl, g1, pfl_tw, zt rfl (SqT.of hb) rfl ⟨_, _, _, p, G p, o, d, rfl, PA, hg, hrw, hmu, fun lst r' vs H' hl hr' nl P' f' hl' rp => fin lst r' vs H' hl hr' nl P' f' hl' rp⟩⟩
    | gave p n =>
      refine zt rfl (SqT.of hb) rfl ⟨rfl, _, rfl, ?_⟩
      refine iteFb (vs_ne (by decide +kernel)) ?_
      refine zt rfl (SqT.of hb) rfl ⟨rfl, _, rfl, ?_⟩
      refine iteFb (vs_ne (by decide +kernel)) ?_
      refine ⟨_, rfl, _, dx1, _, rfl, g1, pfl_tg, _, rfl, zt rfl (SqT.of hb) rfl ⟨_, _, _, p, G p, d, n, rfl, PA, fun lst r' vs H' hl hr' nl P' f' hl' rp => fin lst r' vs H' hl hr' nl P' f' hl' rp⟩⟩
theorem ok_Hall_init (T : Txt K w mg t) : FnOk P w K mg base CX0 3 t.f_Hall_init t.fd_Hall_init ["self", "numbers"] (spHallInit t.C_Hall t.C_PageLoans) := by
  refine T.F_Hall_init.ok sc_Hall_init (fun vs H Q E h => ?_) (fun cdv A outer s H vs Q E hr h => ?_)
  · obtain ⟨h, dx, l, ns, rfl, _⟩ := h; rfl
  · obtain ⟨h, dx, l, ns, rfl, hh, hl, hns, k⟩ := h
    have sl : sizeLine = 16777216 := by decide
    refine ⟨_, (pss_one (ps_fld (pv 0) (pe_comp (compScope (xs := ["page", "number"]) (ys := []) (js := []) rfl (by decide +kernel) (by decide +kernel) (by decide +kernel) (by rfl) trivial) rfl (pi_enum (by rfl) T.n_enumerate (pa_cons (pv 1) pa_nil)) (fun _ _ _ _ _ => (pg_tupK (K := K) (n := 2) rfl rfl (pgs_cons (pg_name (i := 0) (show List.Nodup ((["page", "number"] : List Str) ++ ([] : List Str) : List Str) by decide +kernel) rfl (Or.inl rfl)) (pgs_cons (pg_name (i := 1) (show List.Nodup ((["page", "number"] : List Str) ++ ([] : List Str) : List Str) by decide +kernel) rfl (Or.inl rfl)) pgs_nil)))) (fun _ _ _ _ _ => pif_nil) (fun _ _ _ _ _ => (pe_make T.mk_PageLoans (ok_PageLoans_init T) (hr.mono (by decide) : Room 2 _) (by rfl) T.g_PageLoans T.b_PageLoans_init .nil pass0 (pa_cons (pv 0) (pa_cons (pv 1) pa_nil))))) (by rfl))), ?_⟩
    try dsimp only [cxOf, Cx.nox]
    refine ⟨_, rfl, l, rfl, ⟨_, SqL.of hl⟩, fun acc hacc => ?_⟩
    have nha : h ≠ acc := ne_of_none hh hacc
    refine comp_enum (xs := ns.map V.int) (fun i zs σ' H' => (∃ o1 o2, σ' = [o1, o2]) ∧ Same H H' ∧ H' acc = some (.lst zs) ∧ ∃ A : Hb → Addr, A .pages = acc ∧ A .hall = h ∧ (∀ x y : Hb, x.ok i → y.ok i → A x = A y → x = y) ∧ (∀ x : Hb, x.ok i → x ≠ .hall → H (A x) = none) ∧ zs = (List.range i).map (fun p => V.ref (A (.loan p))) ∧
      ∀ p, p < i → PgAt t.C_PageLoans H' (A (.loan p)) (A (.rdr p)) (A (.asq p)) p (pg0 ns p)) ?_ ?_ ?_ ?_
    · refine ⟨⟨_, _, rfl⟩, same_new hacc, upd_same, fun x => if x = .hall then h else acc, rfl, rfl, ?_, ?_, rfl, fun p hp => absurd hp (Nat.not_lt_zero _)⟩
      · intro x y hx hy e
        cases x <;> cases y <;> first
          | rfl
          | (exfalso; exact absurd hx (Nat.not_lt_zero _))
          | (exfalso; exact absurd hy (Nat.not_lt_zero _))
          | (exfalso; simp at e; exact nha e)
          | (exfalso; simp at e; exact nha e.symm)
      · intro x hx hn
        show H (if x = .hall then h else acc) = none
        rw [if_neg hn]; exact hacc
    · rintro i zs σ' H' _ ⟨_, s', ha', _⟩
      exact ⟨SqL.of (s' _ _ hl), ha'⟩
    · rintro i y zs σ' H' b hy hi ⟨⟨o1, o2, rfl⟩, s', ha', A, eA, eh, inj, fr, rfl, pgs⟩ hb
      rw [List.length_map] at hi
      have hy' : y = .int ns[i] := by
        rw [List.getElem?_map, List.getElem?_eq_getElem hi] at hy
        exact (Option.some.inj hy).symm
      subst hy'
      refine ⟨b, _, rfl, SqT.of upd_same, rfl, _, _, rfl, _, _, rfl, rfl, ?_⟩
      refine tYes_if ?_
      refine ⟨_, rfl, _, rfl, fun x dx' hx hdx nx => ?_⟩
      have hx0 : H' x = none := Lv.upd _ hx
      have hdx0 : H' dx' = none := Lv.upd _ hdx
      refine ⟨x, dx', i, ns[i], rfl, upd_same, fun r q H3 hr3 hq3 P3 f3 lv3 => ⟨rfl, ?_⟩⟩
      have fb : ∀ c o, H' c = some o → H3 c = some o := fun c o e => by
        refine f3 c o ?_ (ne_of_none e hx0)
        rw [upd_ne (ne_of_none e hx0), upd_ne (ne_of_none e hdx0), upd_ne (ne_of_none e hb)]
        exact e
      have hr0 : H' r = none := Lv.upd _ (Lv.upd _ (Lv.upd _ hr3))
      have hq0 : H' q = none := Lv.upd _ (Lv.upd _ (Lv.upd _ hq3))
      have ha3 := fb _ _ ha'
      have live : ∀ z : Hb, z.ok i → ∃ o, H' (A z) = some o := fun z hz => by
        cases z with
        | hall => rw [eh]; exact ⟨_, s' _ _ hh⟩
        | pages => rw [eA]; exact ⟨_, ha'⟩
        | loan p => obtain ⟨⟨dz, e⟩, _⟩ := pgs p hz; exact ⟨_, e⟩
        | rdr p => exact ⟨_, (pgs p hz).rl⟩
        | asq p => obtain ⟨vs, e, _⟩ := (pgs p hz).al; exact ⟨_, e⟩
      have nxr : x ≠ r := P3.nar
      have nxq : x ≠ q := P3.naq
      have nrq : r ≠ q := P3.ne
      have hzl : ((List.range i).map fun p => V.ref (A (.loan p))).length < sizeLine := by rw [List.length_map, List.length_range]; lia
      refine CStep.mk (by rw [List.length_map]; exact hi) ha3 hzl ?_
      have sn : Same H (upd H3 acc (.lst ((List.range i).map (fun p => V.ref (A (.loan p))) ++ [.ref x]))) := same_upd (fun c o e => fb c o (s' c o e)) hacc
      have tm : TupSame H' (upd H3 acc (.lst ((List.range i).map (fun p => V.ref (A (.loan p))) ++ [.ref x]))) := (fun c xs e => tup_lst ha3 c xs (fb c _ e))
      have nn : ∀ (z : Hb) (a : Addr), z.ok i → H' a = none → A z ≠ a := fun z a hz e e2 => by
        obtain ⟨o, e3⟩ := live z hz; rw [e2, e] at e3; cases e3
      refine ⟨⟨_, _, rfl⟩, sn, upd_same, setL (setL (setL A (.loan i) x) (.rdr i) r) (.asq i) q, ?_, ?_, ?_, ?_, ?_, ?_⟩
      · rw [setL_ne _ _ (by intro z; cases z), setL_ne _ _ (by intro z; cases z), setL_ne _ _ (by intro z; cases z)]; exact eA
      · rw [setL_ne _ _ (by intro z; cases z), setL_ne _ _ (by intro z; cases z), setL_ne _ _ (by intro z; cases z)]; exact eh
      · refine inj_add (ok := fun z => z = .rdr i ∨ z = .loan i ∨ z.ok i) (inj_add (ok := fun z => z = .loan i ∨ z.ok i) (inj_add inj (fun z hz => nn z x hz hx0) (fun z hz => hz)) ?_ (fun z hz => hz)) ?_ ?_
        · intro z hz
          by_cases e : z = .loan i
          · rw [e, setL_same]; exact nxr
          · rw [setL_ne _ _ e]; exact nn z r (hz.resolve_left e) hr0
        · intro z hz
          by_cases e : z = .rdr i
          · rw [e, setL_same]; exact nrq
          · rw [setL_ne _ _ e]
            by_cases e2 : z = .loan i
            · rw [e2, setL_same]; exact nxq
            · rw [setL_ne _ _ e2]; exact nn z q ((hz.resolve_left e).resolve_left e2) hq0
        · intro z hz
          cases z with
          | hall => exact .inr (.inr (.inr trivial))
          | pages => exact .inr (.inr (.inr trivial))
          | loan p =>
            have hz' : p < i + 1 := hz
            by_cases e : p = i
            · exact .inr (.inr (.inl (by rw [e])))
            · exact .inr (.inr (.inr (show p < i by lia)))
          | rdr p =>
            have hz' : p < i + 1 := hz
            by_cases e : p = i
            · exact .inr (.inl (by rw [e]))
            · exact .inr (.inr (.inr (show p < i by lia)))
          | asq p =>
            have hz' : p < i + 1 := hz
            by_cases e : p = i
            · exact .inl (by rw [e])
            · exact .inr (.inr (.inr (show p < i by lia)))
      · intro z hz hn
        by_cases e1 : z = .asq i
        · rw [e1, setL_same]; exact Same.free s' hq0
        · rw [setL_ne _ _ e1]
          by_cases e2 : z = .rdr i
          · rw [e2, setL_same]; exact Same.free s' hr0
          · rw [setL_ne _ _ e2]
            by_cases e3 : z = .loan i
            · rw [e3, setL_same]; exact Same.free s' hx0
            · rw [setL_ne _ _ e3]
              refine fr z ?_ hn
              cases z with
              | hall => trivial
              | pages => trivial
              | loan p => have hz' : p < i + 1 := hz; exact show p < i from Nat.lt_of_le_of_ne (Nat.le_of_lt_succ hz') fun y => e3 (by rw [y])
              | rdr p => have hz' : p < i + 1 := hz; exact show p < i from Nat.lt_of_le_of_ne (Nat.le_of_lt_succ hz') fun y => e2 (by rw [y])
              | asq p => have hz' : p < i + 1 := hz; exact show p < i from Nat.lt_of_le_of_ne (Nat.le_of_lt_succ hz') fun y => e1 (by rw [y])
      · rw [List.range_succ, List.map_append]
        congr 1
        · refine List.map_congr_left fun p hp => ?_
          have hp' : p < i := List.mem_range.mp hp
          rw [setL_ne _ _ (by intro z; cases z), setL_ne _ _ (by intro z; cases z), setL_ne _ _ (by intro z; cases z; exact Nat.lt_irrefl _ hp')]
        · show [V.ref x] = [V.ref _]
          rw [setL_ne _ _ (by intro z; cases z), setL_ne _ _ (by intro z; cases z), setL_same]
      · intro p hp
        have nacc : ∀ (c : Addr) (o : HO), H3 c = some o → c ≠ acc → upd H3 acc (.lst ((List.range i).map (fun p => V.ref (A (.loan p))) ++ [.ref x])) c = some o := fun c o e n => by rw [upd_ne n]; exact e
        by_cases e : p = i
        · subst e
          rw [setL_ne _ _ (by intro z; cases z), setL_ne _ _ (by intro z; cases z), setL_same, setL_ne _ _ (by intro z; cases z), setL_same, setL_same]
          have e0 : pg0 ns p = ⟨ns[p], none, [], [], 0⟩ := by unfold pg0; rw [List.getElem?_eq_getElem hi]; rfl
          rw [e0]
          exact P3.keep (tup_lst ha3) (fun o e => nacc _ o e (ne_of_none ha' hx0).symm) (fun o e => nacc _ o e (ne_of_none ha' hr0).symm) fun o e => nacc _ o e (ne_of_none ha' hq0).symm
        · have hp' : p < i := by lia
          rw [setL_ne _ _ (by intro z; cases z), setL_ne _ _ (by intro z; cases z), setL_ne _ _ (by intro z; cases z; exact e rfl), setL_ne _ _ (by intro z; cases z), setL_ne _ _ (by intro z; cases z; exact e rfl), setL_ne _ _ (by intro z; cases z), setL_ne _ _ (by intro z; cases z; exact e rfl), setL_ne _ _ (by intro z; cases z), setL_ne _ _ (by intro z; cases z)]
          have na : ∀ z : Hb, z.ok i → z ≠ .pages → A z ≠ acc := fun z hz hn e2 => hn (inj z .pages hz trivial (by rw [e2, eA]))
          exact (pgs p hp').keep tm (fun o e => nacc _ o (fb _ o e) (na (.loan p) hp' (by intro z; cases z))) (fun o e => nacc _ o (fb _ o e) (na (.rdr p) hp' (by intro z; cases z))) fun o e => nacc _ o (fb _ o e) (na (.asq p) hp' (by intro z; cases z))
    · rintro zs σ' H' ⟨_, s', ha', A, eA, eh, inj, fr, rfl, pgs⟩
      rw [List.length_map] at inj fr ha' pgs
      refine ⟨_, rfl, h, _, dx, [], rfl, s' _ _ hh, T.c_Hall, T.na_Hall_pages, (by show 0 < 1000; decide), ?_⟩
      rw [hfl_init]
      have live : ∀ z : Hb, z.ok ns.length → z ≠ .hall → A z ≠ h := fun z hz hn e => hn (inj z .hall hz trivial (by rw [e, eh]))
      have tm : TupSame H' (upd H' h (.ins t.C_Hall dx (hfl acc))) := fun c xs e => by rw [upd_ne (ne_of e (s' _ _ hh) (by intro z; cases z))]; exact e
      have kk : ∀ z : Hb, z.ok ns.length → z ≠ .hall → ∀ o, H' (A z) = some o → upd H' h (.ins t.C_Hall dx (hfl acc)) (A z) = some o := fun z hz hn o e => by rw [upd_ne (live z hz hn)]; exact e
      refine k A _ eh fr ⟨inj, ⟨dx, by rw [eh, eA, upd_same]⟩, ?_, fun p hp => ?_⟩ (fun b o e hb => by rw [upd_ne hb]; exact s' b o e) ((Lv.same s').trans Lv.upd)
      · rw [eA, upd_ne (by rw [← eA]; exact live .pages trivial (by intro z; cases z))]; exact ha'
      · exact (pgs p hp).keep tm (kk (.loan p) hp (by intro z; cases z)) (kk (.rdr p) hp (by intro z; cases z)) (kk (.asq p) hp (by intro z; cases z))
end
end K07
namespace K07
open PySem L2
theorem dget {H : Hp} {a : Addr} {kvs : List (Key × V)} {k : Key} {v : V} (h : H a = some (.dK kvs)) (e : valV kvs k = some v) : DGet H a (kV k) (some v) := by rw [← e]; exact DGet.k h
theorem dput {H : Hp} {a : Addr} {kvs kvs' : List (Key × V)} {k : Key} {v : V} (h : H a = some (.dK kvs)) (hl : kvs.length < sizeLine) (e : putK kvs k v = kvs') : DPut H a (kV k) v (upd H a (.dK kvs')) := by rw [← e]; exact DPut.k h hl
theorem pick2 {x y : V} {c : Bool} : atI [x, y] (if c then 1 else 0) = some (if c then y else x) := by cases c <;> rfl
noncomputable def Roomy (S : TS) (se : List (Nat × Let)) (k : Nat) : Prop := (∀ d, (S.dn d).length + k ≤ 16000000) ∧ se.length + k ≤ 16000000
noncomputable def spMBid : Sp := fun vs H Q _ => ∃ A n m S se, ∃ p : Nat, ∃ d x l, vs = [.ref (A .town), .int p] ∧ MirAt H A n m S se ∧ p < m ∧ (S.pg p).ask = (d, x) :: l ∧ (x = .rd ∨ x = .wr) ∧ (∀ q ∈ (S.pg p).bids p, q.1 < n) ∧ (S.pg p).rd.length ≤ 1000000 ∧ Roomy S se ((S.pg p).bids p).length ∧
  ∀ H', MirAt H' A n m { S with dn := post S.dn ((S.pg p).bids p) } (se ++ (S.pg p).bids p) → MrF H H' A n m → Q (.int ((S.pg p).bids p).length) H'
noncomputable def bidD (x : Nat × Let) : D := match x.2 with
  | .back _ r => .t [.i x.1, .s r.s]
  | .lend _ r _ => .t [.i x.1, .s r.s]
theorem bidD_flat (l : List (Nat × Let)) : D.flats (l.map bidD) := flats_map (fun x => by obtain ⟨d, l⟩ := x; cases l <;> simp [bidD, D.flat, D.flats]) l
noncomputable def isBk (p : Nat) (x : Nat × Let) : Prop := ∃ r, x.2 = .back p r
theorem bids_bk (g : PG) (p : Nat) : ∀ q ∈ g.bids p, isBk p q := by
  intro q hq
  unfold PG.bids at hq
  split at hq
  · cases hq
  · rename_i a r l _
    rcases List.mem_append.mp hq with h | h
    · unfold wBids at h
      split at h
      · split at h
        · cases h
        · have this := List.mem_singleton.mp h
          rw [this]; exact ⟨_, rfl⟩
      · cases h
    · unfold rBids at h
      split at h
      · obtain ⟨d, _, e⟩ := List.mem_map.mp h
        rw [← e]; exact ⟨_, rfl⟩
      · cases h
theorem bidD_mem {H : Hp} {vs : List V} {l : List (Nat × Let)} {i : Nat} {v : V} (r : RepL H vs (l.map bidD)) (hv : vs[i]? = some v) : ∃ x, l[i]? = some x ∧ Rep H v (bidD x) := by
  induction l generalizing vs i with
  | nil => have := RepL.nil_inv (by simpa using r); subst this; simp at hv
  | cons x l ih =>
    obtain ⟨u, us, rfl, r1, r2⟩ := RepL.cons_inv (by simpa using r)
    cases i with
    | zero => simp at hv; subst hv; exact ⟨x, rfl, r1⟩
    | succ i => simp at hv; obtain ⟨y, h1, h2⟩ := ih r2 hv; exact ⟨y, by simpa using h1, h2⟩
section
variable {P : Program} {w : World} {K : PySem.W.Frag} {mg : Str → Option Value} {base : Heap} {t : Adr}
theorem ok_l_bid (T : Txt K w mg t) : FnOk P w K mg base CX0 1 t.f_l_bid t.fd_l_bid ["_law_town", "_law_page"] spMBid := by
  refine T.F_l_bid.ok sc_l_bid (fun vs H Q E h => ?_) (fun cdv A outer s H vs Q E hr h => ?_)
  · obtain ⟨A, n, m, S, se, p, d, x, l, rfl, _⟩ := h; rfl
  · obtain ⟨A, n, m, S, se, p, d, x, l, rfl, M, hp, ha, hx, hn, hrd, hro, k⟩ := h
    have hu := hu_of hr
    have sl : sizeLine = 16777216 := by decide
    refine ⟨_, (pss_cons (ps_set (i := 2) sc_l_bid.nd rfl (Or.inl rfl) (pe_ix ix_list (pe_dget hu (pv 0) pe_str (fun _ _ => rfl)) (pv 1) (fun _ _ => rfl)))
      (pss_cons (ps_asg (pe_ix ix_list (pe_dget hu (pv 2) pe_str (fun _ _ => rfl)) pe_int (fun _ _ => rfl)) (pg_tup rfl (pgs_cons (pg_name (i := 3) sc_l_bid.nd rfl (Or.inr rfl)) (pgs_cons (pg_name (i := 4) sc_l_bid.nd rfl (Or.inl rfl)) pgs_nil))))
      (pss_cons (ps_set (i := 5) sc_l_bid.nd rfl (Or.inl rfl) (pe_lst pa_nil))
      (pss_cons (ps_if (PW.pt (pw_and (pt_cmpR op_ge (pe_dget hu (pv 2) pe_str (fun _ _ => rfl)) pe_int (nomark _)) (pw_and1 (pt_cmpR op_ne (pe_dget hu (pv 2) pe_str (fun _ _ => rfl)) (pv 3) (nomark _))))) (pss_one (ps_expr (pe_bm PySem.F.plainAttrs_list PySem.F.slot_list_append PySem.F.type_list_append mt_append (pv 5) (pa_cons (pe_tup (pa_cons (pe_dget hu (pv 2) pe_str (fun _ _ => rfl)) (pa_cons (pe_ix ix_list (pe_lst (pa_cons pe_str (pa_cons pe_str pa_nil))) (pe_callTy call_int1 (by rfl) T.n_int PyProof.Rows.Boot.«int» (pa_cons (pe_cmpR op_eq (pv 4) pe_str (nomark _)) pa_nil)) (fun _ _ => rfl)) pa_nil))) pa_nil)))) pss_nil)
      (pss_cons (ps_if (pt_cmpR op_eq (pv 4) pe_str (nomark _)) (pss_one (ps_set (i := 5) sc_l_bid.nd rfl (Or.inl rfl) (pe_op op_cat (pv 5) (pe_comp (compScope (xs := ["_law_one"]) (ys := ["_law_desk"]) (js := [3]) rfl (by decide +kernel) (by decide +kernel) (by decide +kernel) (by rfl) ⟨⟨rfl, Or.inl rfl⟩, trivial⟩) rfl (pi_list (pe_dget hu (pv 2) pe_str (fun _ _ => rfl))) (fun _ _ _ _ _ => (pg_name (i := 0) (show List.Nodup ((["_law_one"] : List Str) ++ (["_law_desk"] : List Str) : List Str) by decide +kernel) rfl (Or.inl rfl))) (fun _ _ _ _ _ => (pif_one (pt_cmpR op_ne (pv 0) (pv 1) (nomark _)))) (fun _ _ _ _ _ => (pe_tup (pa_cons (pv 0) (pa_cons pe_str pa_nil)))))))) pss_nil)
      (pss_cons (ps_for PassesOwn.never rfl (pi_list (pv 5)) (pg_tup rfl (pgs_cons (pg_name (i := 6) sc_l_bid.nd rfl (Or.inl rfl)) (pgs_cons (pg_name (i := 7) sc_l_bid.nd rfl (Or.inl rfl)) pgs_nil))) (pss_cons (ps_expr (pe_bm PySem.F.plainAttrs_list PySem.F.slot_list_append PySem.F.type_list_append mt_append (pe_ix ix_list (pe_dget hu (pv 0) pe_str (fun _ _ => rfl)) (pv 6) (fun _ _ => rfl)) (pa_cons (pe_tup (pa_cons pe_str (pa_cons (pv 1) (pa_cons (pv 7) pa_nil)))) pa_nil)))
      (pss_one (ps_expr (pe_bm PySem.F.plainAttrs_list PySem.F.slot_list_append PySem.F.type_list_append mt_append (pe_dget hu (pv 0) pe_str (fun _ _ => rfl)) (pa_cons (pe_tup (pa_cons (pv 6) (pa_cons (pe_tup (pa_cons pe_str (pa_cons (pv 1) (pa_cons (pv 7) pa_nil)))) pa_nil))) pa_nil))))))
      (pss_one (ps_ret (pe_callB call_len_seq (by rfl) T.n_len PySem.boot_len (pa_cons (pv 5) pa_nil)))))))))), ?_⟩
    try dsimp only [cxOf, Cx.nox]
    show let Z1 : L2.TS := _; let Z2 : L2.TS := _; let Z3 : L2.TS := _; let Z4 : L2.TS := _; let Z5 : L2.TS := tIfS _ Z4 tNext; let Z6 : L2.TS := _; let Z7 : L2.TS := tIfS _ Z6 tNext; let Z8 : L2.TS := _; let Z9 : L2.TS := _; let Z10 : L2.TS := tSeq Z8 (Z9); let Z11 : L2.TS := tFor _ _ Z10; let Z12 : L2.TS := _; let D0 : Ends := _; (tSeq Z1 (tSeq Z2 (tSeq Z3 (tSeq Z5 (tSeq Z7 (tSeq Z11 (Z12))))))) D0 _ _
    intro Z1 Z2 Z3 Z4 Z5 Z6 Z7 Z8 Z9 Z10 Z11 Z12 D0
    obtain ⟨as, h3, h4⟩ := M.asq hp
    rw [ha] at h4
    obtain ⟨tt, us, rfl, h6, h7⟩ := askD_cons h4
    have hsh := M.shelf hp
    refine zdl rfl (dget M.town tkv_shelves) rfl (SqL.of M.shelves) (range_at hp) ?_
    refine zd rfl (dget hsh skv_asked) ⟨A (.asq p), _, 0, _, rfl, rfl, SqL.of h3, at0c _ _, tt, _, rfl, SqT.of h6, rfl, _, _, rfl, _, _, rfl, rfl, ?_⟩
    refine ⟨(by show 0 ≤ sizeLine; decide), fun bl hb => ?_⟩
    generalize hg : S.pg p = g at *
    have hbl : g.bids p = wBids g p d x ++ rBids g p d x := by unfold PG.bids; rw [ha]
    have s0 := same_new (o := .lst []) hb
    try dsimp only [tNext]
    refine seq_via (fun σ' H' => σ' = [some (.ref (A .town)), some (.int p), some (.ref (A (.shelf p))), some (.int d), some (.str x.s), some (.ref bl), none, none] ∧ Same H H' ∧ ∃ us, H' bl = some (.lst us) ∧ us.length ≤ 1 ∧ RepL H' us ((wBids g p d x).map bidD)) (fun N hN => ?_) ?_
    · have l0 := s0 _ _ hsh
      refine zd rfl (dget l0 skv_writer) ⟨_, _, rfl, rfl, _, rfl, ?_⟩
      cases hw : g.wr with
      | none =>
        refine iteFb rfl (iteF ?_)
        exact hN _ _ ⟨rfl, s0, [], upd_same, Nat.zero_le _, by rw [wBids_none hw]; simp [RepL]⟩
      | some wv =>
        refine iteTb (decide_eq_true (Int.natCast_nonneg _)) ?_
        have l1 : valV (skv g (A (.rdr p)) (A (.asq p))) (ks "writer") = some (.int wv) := by rw [skv_writer, hw]; rfl
        refine zd rfl (dget l0 l1) ⟨_, rfl, rfl, _, rfl, ?_⟩
        by_cases e : wv = d
        · subst e
          refine iteFb (by simp) ?_
          exact hN _ _ ⟨rfl, s0, [], upd_same, Nat.zero_le _, by rw [wBids_own hw]; simp [RepL]⟩
        · refine iteTb (by rw [decide_eq_false fun z => e (by have := V.int.inj z; lia)]; rfl) ?_
          refine ⟨_, rfl, .inl ⟨rfl, _, SqL.of upd_same⟩, zd rfl (dget l0 l1) ⟨(by show 2 ≤ sizeLine; decide), fun z hz => ?_⟩⟩
          have s1 : Same (upd H bl (.lst [])) (upd (upd H bl (.lst [])) z (.lst [.str "none", .str "read"])) := same_new hz
          refine ⟨_, rfl, rfl, .inr ⟨_, rfl, z, _, _, .str (low x).s, rfl, rfl, SqL.of upd_same, ?_, (by show 2 ≤ sizeLine; decide), fun c hc => ?_⟩⟩
          · rcases hx with hx | hx <;> subst hx <;> kernel_rfl
          · have nz : bl ≠ z := fun y => by rw [← y, upd_same] at hz; cases hz
            have nc : bl ≠ c := fun y => by rw [← y, upd_ne nz, upd_same] at hc; cases hc
            refine ⟨bl, [], _, rfl, rfl, (by rw [upd_ne nc, upd_ne nz, upd_same]), (by show 0 < sizeLine; decide), ?_⟩
            refine hN _ _ ⟨rfl, same_upd ((s0.trans s1).trans (same_new hc)) hb, _, upd_same, Nat.le_refl _, ?_⟩
            rw [wBids_other hw e]
            simp only [List.map_cons, List.map_nil, RepL, bidD, Rep]
            exact ⟨_, _, rfl, ⟨c, _, rfl, by rw [upd_ne nc.symm, upd_same], _, _, rfl, rfl, _, _, rfl, rfl, rfl⟩, rfl⟩
    · rintro σ' H1 ⟨rfl, s1, us1, hb1, hl1, rp1⟩
      try dsimp only [tNext]
      refine seq_via (fun σ' H' => ∃ b2 us, σ' = [some (.ref (A .town)), some (.int p), some (.ref (A (.shelf p))), some (.int d), some (.str x.s), some (.ref b2), none, none] ∧ Same H H' ∧ H b2 = none ∧ H' b2 = some (.lst us) ∧ RepL H' us ((g.bids p).map bidD)) (fun N hN => ?_) ?_
      · refine ⟨_, rfl, rfl, _, rfl, ?_⟩
        rcases hx with hx | hx
        · subst hx
          refine iteFb (rt_ne (x := "write") (q := .wr) rfl (by intro z; cases z)) ?_
          refine hN _ _ ⟨bl, us1, rfl, s1, hb, hb1, ?_⟩
          have : rBids g p d .rd = [] := by unfold rBids; rw [if_neg (by intro z; cases z)]
          rw [hbl, this, List.append_nil]
          exact rp1
        · subst hx
          refine iteTb vs_eq ?_
          have hrl : H1 (A (.rdr p)) = some (.lst (g.rd.map nV)) := by have := s1 _ _ (M.rdr hp); rw [hg] at this; exact this
          refine ⟨_, rfl, zd rfl (dget (s1 _ _ hsh) skv_readers) ⟨A (.rdr p), rfl, ⟨_, SqL.of hrl⟩, fun acc hacc => ?_⟩⟩
          have nbl : bl ≠ acc := ne_of_none hb1 hacc
          let PV1 : Nat → List V → St → Hp → Prop := fun i zs σ' H' => (∃ o, σ' = [o, some (.int d)]) ∧ Same H1 H' ∧ H' acc = some (.lst zs) ∧ zs.length ≤ i ∧ RepL H' zs ((((g.rd.take i).filter fun e => decide (e ≠ d)).map fun e => (e, Let.back p .no)).map bidD)
          refine comp_list (xs := g.rd.map nV) PV1 ?_ ?_ ?_ ?_
          · exact ⟨⟨_, rfl⟩, same_new hacc, upd_same, Nat.le_refl _, by simp [RepL]⟩
          · rintro i zs σ' H' _ ⟨_, s', ha', _⟩
            exact ⟨SqL.of (s' _ _ hrl), ha'⟩
          · rintro i y zs σ' H' hy hi ⟨⟨o, rfl⟩, s', ha', hz, rp⟩
            rw [List.length_map] at hi
            have hy' : y = .int (g.rd[i] : Nat) := by
              rw [List.getElem?_map, List.getElem?_eq_getElem hi] at hy
              exact (Option.some.inj hy).symm
            subst hy'
            have htk : g.rd.take (i + 1) = g.rd.take i ++ [g.rd[i]] := by rw [List.take_add_one, List.getElem?_eq_getElem hi]; rfl
            refine ⟨_, rfl, _, rfl, rfl, _, rfl, ?_⟩
            by_cases e : g.rd[i] = d
            · refine iteFb (by rw [e]; simp) (CSkip.mk (by rw [List.length_map]; exact hi) ?_)
              refine ⟨⟨_, rfl⟩, s', ha', by lia, ?_⟩
              rw [htk, List.filter_append, List.filter_cons_of_neg (by simp [e])]
              simpa using rp
            · refine iteTb (by rw [decide_eq_false fun z => e (by have := V.int.inj z; lia)]; rfl) ?_
              refine ⟨_, rfl, (by show 2 ≤ sizeLine; decide), fun cc hc2 => ?_⟩
              have nc : acc ≠ cc := ne_of_none ha' hc2
              have h6' : upd H' cc (.tup [.int (g.rd[i] : Nat), .str "none"]) acc = some (.lst zs) := by rw [upd_ne nc]; exact ha'
              refine CStep.mk (by rw [List.length_map]; exact hi) h6' (by lia) ?_
              have sup := same_new (o := .tup [.int (g.rd[i] : Nat), .str "none"]) hc2
              refine ⟨⟨_, rfl⟩, same_upd (s'.trans sup) hacc, upd_same, by rw [List.length_append]; simp; lia, ?_⟩
              rw [htk, List.filter_append, List.filter_cons_of_pos (by simp [e]), List.filter_nil, List.map_append, List.map_append]
              have tm := tup_lst (vs := zs ++ [.ref cc]) h6'
              refine RepL.snoc ((rp.tmono (same_tup sup) (bidD_flat _)).tmono tm (bidD_flat _)) ?_
              simp only [bidD, Rep, RepL]
              exact ⟨cc, _, rfl, by rw [upd_ne nc.symm, upd_same]; rfl, _, _, rfl, rfl, _, _, rfl, rfl, rfl⟩
          · rintro zs σ' H' ⟨_, s', ha', hz, rp⟩
            rw [List.length_map] at hz rp
            rw [List.take_length] at rp
            have hb' := s' _ _ hb1
            refine ⟨bl, acc, us1, zs, rfl, rfl, hb', ha', by lia, fun c hc => ?_⟩
            have hcn : H c = none := Lv.same (s1.trans s') _ hc
            refine hN _ _ ⟨c, _, rfl, (s1.trans s').trans (same_new hc), hcn, upd_same, ?_⟩
            have hrb : rBids g p d .wr = (g.rd.filter fun e => decide (e ≠ d)).map fun e => (e, Let.back p .no) := by unfold rBids; rw [if_pos rfl]
            rw [hbl, List.map_append, hrb]
            have tm := same_tup (same_new (o := .lst (us1 ++ zs)) hc)
            exact RepL.append ((rp1.tmono (same_tup s') (bidD_flat _)).tmono tm (bidD_flat _)) (rp.tmono tm (bidD_flat _))
      · rintro σ' H2 ⟨b2, us2, rfl, s2, hb2n, hb2, rp2⟩
        have M2 := M.same s2
        have hlen : us2.length = (g.bids p).length := by rw [rp2.length, List.length_map]
        refine ⟨_, rfl, b2, rfl, ⟨_, SqL.of hb2⟩, ?_⟩
        let PV2 : Nat → St → Hp → Prop := fun i σ' H' => (∃ o1 o2, σ' = [some (.ref (A .town)), some (.int p), some (.ref (A (.shelf p))), some (.int d), some (.str x.s), some (.ref b2), o1, o2]) ∧ i ≤ us2.length ∧ MirAt H' A n m { S with dn := post S.dn ((g.bids p).take i) } (se ++ (g.bids p).take i) ∧ MrF H H' A n m ∧ H' b2 = some (.lst us2) ∧ RepL H' us2 ((g.bids p).map bidD)
        refine for_list (xs := us2) PV2 ?_ ?_ ?_ ?_
        · refine ⟨⟨_, _, rfl⟩, Nat.zero_le _, ?_, MrF.of_same s2, hb2, rp2⟩
          simpa [post] using M2
        · rintro i σ' H' _ ⟨_, _, _, _, hb', _⟩
          exact SqL.of hb'
        · rintro i y σ' H' hy ⟨⟨o1, o2, rfl⟩, hi, M', f', hb', rp'⟩
          obtain ⟨q, hq, rq⟩ := bidD_mem rp' hy
          have hqm : q ∈ g.bids p := List.mem_of_getElem? hq
          obtain ⟨r, hbk⟩ := bids_bk g p q hqm
          have hqn := hn q hqm
          obtain ⟨qd, ql⟩ := q
          have hbk' : ql = .back p r := hbk
          subst hbk'
          have hqn' : qd < n := hqn
          simp only [bidD, Rep, RepL] at rq
          obtain ⟨c, xs, rfl, hc, _, _, rfl, rfl, _, _, rfl, rfl, rfl⟩ := rq
          have hi' : i < us2.length := (List.getElem?_eq_some_iff.mp hy).1
          have htk : (g.bids p).take (i + 1) = (g.bids p).take i ++ [(qd, .back p r)] := by rw [List.take_add_one, hq]; rfl
          refine ⟨c, _, rfl, SqT.of hc, rfl, _, _, rfl, _, _, rfl, rfl, ?_⟩
          obtain ⟨dv, d1, d2⟩ := M'.dn hqn'
          have hlb : ((g.bids p).take i).length = i := by rw [List.length_take]; lia
          have hdl : dv.length < sizeLine := by
            rw [d2.length, List.length_map]
            show (post S.dn ((g.bids p).take i) qd).length < _
            have := post_len S.dn ((g.bids p).take i) qd
            have := hro.1 qd
            lia
          refine zdl rfl (dget M'.town tkv_downs) rfl (SqL.of M'.downs) (range_at hqn') ⟨.inl ⟨rfl, _, SqL.of d1⟩, _, rfl, _, rfl, (by show 3 ≤ sizeLine; decide), fun b hbn => ?_⟩
          have s3 := same_new (o := .tup [.str "back", .int p, .str r.s]) hbn
          refine ⟨A (.dn qd), dv, _, rfl, rfl, s3 _ _ d1, hdl, ?_⟩
          have rp3 : RepL (upd H' b (.tup [.str "back", .int p, .str r.s])) (dv ++ [.ref b]) ((post S.dn ((g.bids p).take i) qd ++ [Let.back p r]).map Let.d) := by
            rw [List.map_append]
            refine RepL.snoc (d2.tmono (same_tup s3) (flats_map Let.flat _)) ?_
            simp only [Let.d, Rep, RepL]
            exact ⟨b, _, rfl, upd_same, _, _, rfl, rfl, _, _, rfl, rfl, _, _, rfl, rfl, rfl⟩
          obtain ⟨M4, f4⟩ := (M'.same s3).wrDn hqn' rp3
          have f34 : MrF H' (upd (upd H' b (.tup [.str "back", .int p, .str r.s])) (A (.dn qd)) (.lst (dv ++ [.ref b]))) A n m := (MrF.of_same s3).trans f4 (Mv.refl _ _ _ _)
          generalize upd (upd H' b (.tup [.str "back", .int p, .str r.s])) (A (.dn qd)) (.lst (dv ++ [.ref b])) = H4 at M4 f34
          obtain ⟨sv, e1, e2⟩ := M4.sent
          have hsl : sv.length < sizeLine := by
            rw [e2.length, List.length_map, List.length_append]
            have := hro.2
            lia
          refine zd rfl (dget M4.town tkv_sent) ⟨.inl ⟨rfl, _, SqL.of e1⟩, _, rfl, _, rfl, _, rfl, (by show 3 ≤ sizeLine; decide), fun b' hbn' => ⟨(by show 2 ≤ sizeLine; decide), fun c' hcn' => ?_⟩⟩
          have s5 := (same_new (o := .tup [.str "back", .int p, .str r.s]) hbn').trans (same_new (o := .tup [.int qd, .ref b']) hcn')
          have nbc : b' ≠ c' := fun z => by rw [z, upd_same] at hcn'; cases hcn'
          refine ⟨A .sent, sv, _, rfl, rfl, s5 _ _ e1, hsl, ?_⟩
          have rp5 : RepL (upd (upd H4 b' (.tup [.str "back", .int p, .str r.s])) c' (.tup [.int qd, .ref b'])) (sv ++ [.ref c']) ((se ++ (g.bids p).take i ++ [(qd, Let.back p r)]).map pairD) := by
            rw [List.map_append (l₂ := [_])]
            exact RepL.snoc (e2.tmono (same_tup s5) (pairD_flat _)) (pairD_back (b := b') (vs := []) upd_same (by rw [upd_ne nbc, upd_same]))
          obtain ⟨M6, f6⟩ := (M4.same s5).wrSent rp5
          have f46 := (MrF.of_same (A := A) (n := n) (m := m) s5).trans f6 (Mv.refl _ _ _ _)
          have hbne : ∀ x : Mb, x.ok n m → b2 ≠ A x := fun x hx z => M.lst_ne hx hb2n z.symm
          have hb4 := f46.kp b2 _ (f34.kp b2 _ hb' hbne) hbne
          have t6 : TupSame H' _ := (f34.tups M').trans (f46.tups M4)
          refine ⟨⟨_, _, rfl⟩, hi', ?_, (f'.trans f34 (Mv.refl _ _ _ _)).trans f46 (Mv.refl _ _ _ _), hb4, rp'.tmono t6 (bidD_flat _)⟩
          rw [htk, post_snoc, ← List.append_assoc]
          exact M6
        · rintro σ' H3 ⟨⟨o1, o2, rfl⟩, _, M3, f3, hb3, _⟩
          rw [hlen, List.take_length] at M3
          refine ⟨_, rfl, b2, us2, rfl, .inl (SqL.of hb3), ?_⟩
          rw [hlen]
          exact k H3 M3 f3
end
end K07
namespace K07
open PySem L2
noncomputable def TS.atP (S : TS) (p : Nat) (g : PG) (acc : List (Nat × Let)) : TS := { S with pg := setf S.pg p g, dn := post S.dn acc }
theorem TS.atP_pg (S : TS) (p : Nat) (g : PG) (acc : List (Nat × Let)) : (S.atP p g acc).pg p = g := setf_same _ _ _
theorem TS.atP_dn (S : TS) (p : Nat) (g : PG) (acc bs : List (Nat × Let)) : { S.atP p g acc with dn := post (S.atP p g acc).dn bs } = S.atP p g (acc ++ bs) := by unfold TS.atP; simp only [post_append]
theorem TS.atP_set (S : TS) (p : Nat) (g g' : PG) (acc : List (Nat × Let)) : { S.atP p g acc with pg := setf (S.atP p g acc).pg p g' } = S.atP p g' acc := by unfold TS.atP; simp only [setf_setf]
theorem TS.atP_own (S : TS) (p : Nat) : S.atP p (S.pg p) [] = S := by unfold TS.atP; rw [setf_eq]; rfl
noncomputable def spMLend : Sp := fun vs H Q _ => ∃ A n m S se, ∃ p : Nat, vs = [.ref (A .town), .int p] ∧ MirAt H A n m S se ∧ p < m ∧ (S.pg p).ask ≠ [] ∧ PGn n (S.pg p) ∧ (S.pg p).rd.length ≤ 1000000 ∧ Roomy S se 1 ∧
  ∀ A' H', MirAt H' A' n m (S.atP p (S.pg p).lent ((S.pg p).lend1 p)) (se ++ (S.pg p).lend1 p) → MrF H H' A n m → Mv H A A' n m → Q .non H'
noncomputable def spMServe : Sp := fun vs H Q _ => ∃ A n m S se, ∃ p : Nat, vs = [.ref (A .town), .int p] ∧ MirAt H A n m S se ∧ p < m ∧ PGn n (S.pg p) ∧ (S.pg p).mu ≤ 1000000 ∧ Roomy S se (4 * (S.pg p).mu + 4) ∧
  ∀ A' H' z, z = (if (S.pg p).miss = 0 then (S.pg p).serve p else (S.pg p, [])) → MirAt H' A' n m (S.atP p z.1 z.2) (se ++ z.2) → MrF H H' A n m → Mv H A A' n m → Q .non H'
section
variable {P : Program} {w : World} {K : PySem.W.Frag} {mg : Str → Option Value} {base : Heap} {t : Adr}
theorem ok_l_lend_out (T : Txt K w mg t) : FnOk P w K mg base CX0 1 t.f_l_lend_out t.fd_l_lend_out ["_law_town", "_law_page"] spMLend := by
  refine T.F_l_lend_out.ok sc_l_lend_out (fun vs H Q E h => ?_) (fun cdv A outer s H vs Q E hr h => ?_)
  · obtain ⟨A, n, m, S, se, p, rfl, _⟩ := h; rfl
  · obtain ⟨A, n, m, S, se, p, rfl, M, hp, hne, hgn, hrd, hro, k⟩ := h
    have hu := hu_of hr
    have sl : sizeLine = 16777216 := by decide
    cases ha : (S.pg p).ask with
    | nil => exact absurd ha hne
    | cons x0 l =>
    obtain ⟨d, x⟩ := x0
    obtain ⟨hdn, hx⟩ := hgn.q (d, x) (by rw [ha]; simp)
    refine ⟨_, (pss_cons (ps_set (i := 2) sc_l_lend_out.nd rfl (Or.inl rfl) (pe_ix ix_list (pe_dget hu (pv 0) pe_str (fun _ _ => rfl)) (pv 1) (fun _ _ => rfl)))
      (pss_cons (ps_asg (pe_bm PySem.F.plainAttrs_list PySem.F.slot_list_pop PySem.F.type_list_pop mt_popAt (pe_dget hu (pv 2) pe_str (fun _ _ => rfl)) (pa_cons pe_int pa_nil)) (pg_tup rfl (pgs_cons (pg_name (i := 3) sc_l_lend_out.nd rfl (Or.inl rfl)) (pgs_cons (pg_name (i := 4) sc_l_lend_out.nd rfl (Or.inl rfl)) pgs_nil))))
      (pss_cons (ps_if (pt_cmpR op_eq (pv 4) pe_str (nomark _)) (pss_cons (ps_dput hu (pv 2) pe_str (pe_lst pa_nil) (by rfl))
      (pss_one (ps_dput hu (pv 2) pe_str (pv 3) (by rfl)))) (pss_cons (ps_if (pt_cmpR op_ge (pe_dget hu (pv 2) pe_str (fun _ _ => rfl)) pe_int (nomark _)) (pss_one (ps_expr (pe_bm PySem.F.plainAttrs_list PySem.F.slot_list_append PySem.F.type_list_append mt_append (pe_dget hu (pv 2) pe_str (fun _ _ => rfl)) (pa_cons (pe_dget hu (pv 2) pe_str (fun _ _ => rfl)) pa_nil)))) pss_nil)
      (pss_cons (ps_dput hu (pv 2) pe_str (pe_un un_neg pe_int) (by rfl))
      (pss_one (ps_if (pt_cmpR op_notIn_seq (pv 3) (pe_dget hu (pv 2) pe_str (fun _ _ => rfl)) (by rfl)) (pss_one (ps_expr (pe_bm PySem.F.plainAttrs_list PySem.F.slot_list_append PySem.F.type_list_append mt_append (pe_dget hu (pv 2) pe_str (fun _ _ => rfl)) (pa_cons (pv 3) pa_nil)))) pss_nil)))))
      (pss_cons (ps_set (i := 5) sc_l_lend_out.nd rfl (Or.inl rfl) (pe_tup (pa_cons pe_str (pa_cons (pv 1) (pa_cons (pv 4) (pa_cons (pe_dget hu (pv 2) pe_str (fun _ _ => rfl)) pa_nil))))))
      (pss_cons (ps_expr (pe_bm PySem.F.plainAttrs_list PySem.F.slot_list_append PySem.F.type_list_append mt_append (pe_ix ix_list (pe_dget hu (pv 0) pe_str (fun _ _ => rfl)) (pv 3) (fun _ _ => rfl)) (pa_cons (pv 5) pa_nil)))
      (pss_one (ps_expr (pe_bm PySem.F.plainAttrs_list PySem.F.slot_list_append PySem.F.type_list_append mt_append (pe_dget hu (pv 0) pe_str (fun _ _ => rfl)) (pa_cons (pe_tup (pa_cons (pv 3) (pa_cons (pv 5) pa_nil))) pa_nil))))))))), ?_⟩
    try dsimp only [cxOf, Cx.nox]
    show let Z1 : L2.TS := _; let Z2 : L2.TS := _; let Z3 : L2.TS := _; let Z4 : L2.TS := _; let Z5 : L2.TS := tSeq Z3 (Z4); let Z6 : L2.TS := _; let Z7 : L2.TS := tIfS _ Z6 tNext; let Z8 : L2.TS := _; let Z9 : L2.TS := _; let Z10 : L2.TS := tIfS _ Z9 tNext; let Z11 : L2.TS := tSeq Z7 (tSeq Z8 (Z10)); let Z12 : L2.TS := tIfS _ Z5 Z11; let Z13 : L2.TS := _; let Z14 : L2.TS := _; let Z15 : L2.TS := _; let D0 : Ends := _; (tSeq Z1 (tSeq Z2 (tSeq Z12 (tSeq Z13 (tSeq Z14 (Z15)))))) D0 _ _
    intro Z1 Z2 Z3 Z4 Z5 Z6 Z7 Z8 Z9 Z10 Z11 Z12 Z13 Z14 Z15 D0
    obtain ⟨as, h3, h4⟩ := M.asq hp
    rw [ha] at h4
    obtain ⟨tt, us, rfl, h6, h7⟩ := askD_cons h4
    refine zdl rfl (dget M.town tkv_shelves) rfl (SqL.of M.shelves) (range_at hp) ?_
    refine zd rfl (dget (M.shelf hp) skv_asked) ⟨.inl ⟨rfl, _, SqL.of h3⟩, A (.asq p), _, 0, 0, _, rfl, rfl, h3, (by decide), (by decide), six0 _ _, rfl, ?_⟩
    rw [List.eraseIdx_cons_zero]
    obtain ⟨M1, f1⟩ := M.wrAsq hp (l := l) h7
    have t1 : upd H (A (.asq p)) (.lst us) tt = some (.tup [.int d, .str x.s]) := (f1.tups M) tt _ h6
    generalize upd H (A (.asq p)) (.lst us) = H1 at M1 f1 t1
    refine ⟨tt, _, rfl, SqT.of t1, rfl, _, _, rfl, _, _, rfl, rfl, ?_⟩
    have M1' : MirAt H1 A n m (S.atP p { S.pg p with ask := l } []) se := M1
    have hlent : (S.pg p).lent = if x = .wr then letWrite { S.pg p with ask := l } d else letRead { S.pg p with ask := l } d := by unfold PG.lent; rw [ha]
    have hnum : (S.pg p).lent.num = (S.pg p).num := by rw [hlent]; split <;> rfl
    have hl1 : (S.pg p).lend1 p = [(d, .lend p x (S.pg p).num)] := by unfold PG.lend1; rw [ha]
    try dsimp only [tNext]
    refine seq_via (fun σ' H' => ∃ A', σ' = [some (.ref (A .town)), some (.int p), some (.ref (A (.shelf p))), some (.int d), some (.str x.s), none] ∧ MirAt H' A' n m (S.atP p (S.pg p).lent []) se ∧ MrF H H' A n m ∧ Mv H A A' n m) (fun N hN => ?_) ?_
    · refine ⟨_, rfl, rfl, _, rfl, ?_⟩
      rcases hx with hx | hx
      · subst hx
        refine iteFb (rt_ne (x := "write") (q := .wr) rfl (by intro z; cases z)) ?_
        rw [if_neg (by intro z; cases z)] at hlent
        generalize hg1 : ({ S.pg p with ask := l } : PG) = g1 at M1' hlent
        have hgr : g1.rd = (S.pg p).rd := by rw [← hg1]
        have hsh1 := M1'.shelf hp
        rw [TS.atP_pg] at hsh1
        have hrr1 := M1'.rdr hp
        rw [TS.atP_pg] at hrr1
        try dsimp only [tNext]
        have fin : ∀ H2, MirAt H2 A n m (S.atP p { g1 with wr := none, rd := g1.rd ++ g1.wr.toList } []) se → MrF H H2 A n m →
            (tIfS (tTest (tOp (rIn K true) (tVar 3) (tDGet (tVar 2) (tC (.str "readers"))))) (tDrop (tBM K "list" rAppend (tDGet (tVar 2) (tC (.str "readers"))) (tCons (tVar 3) tNil))) tNext) { nx := N, rt := Q } [some (.ref (A .town)), some (.int p), some (.ref (A (.shelf p))), some (.int d), some (.str Rt.rd.s), none] H2 := fun H2 M2 f2 => by
          have hsh := M2.shelf hp
          rw [TS.atP_pg] at hsh
          have hrr := M2.rdr hp
          rw [TS.atP_pg] at hrr
          refine ⟨_, rfl, zd rfl (dget hsh skv_readers) ⟨A (.rdr p), _, rfl, .inl (SqL.of hrr), rfl, flat_nat _, _, rfl, ?_⟩⟩
          have e0 : (if true = true then !inV (.int d) ((g1.rd ++ g1.wr.toList).map nV) else inV (.int d) ((g1.rd ++ g1.wr.toList).map nV)) = !decide (d ∈ g1.rd ++ g1.wr.toList) := by rw [if_pos rfl, inV_nat]
          rw [e0]
          by_cases e : d ∈ g1.rd ++ g1.wr.toList
          · refine iteFb (by rw [decide_eq_true e]; rfl) ?_
            refine hN _ _ ⟨A, rfl, ?_, f2, Mv.refl _ _ _ _⟩
            rw [hlent]
            unfold letRead
            rw [if_pos e]
            exact M2
          · refine iteTb (by rw [decide_eq_false e]; rfl) ?_
            refine zd rfl (dget hsh skv_readers) ⟨.inl ⟨rfl, _, SqL.of hrr⟩, _, rfl, A (.rdr p), _, _, rfl, rfl, hrr, ?_, ?_⟩
            · have hw : g1.wr.toList.length ≤ 1 := by cases g1.wr <;> simp
              rw [List.length_map, List.length_append, hgr]; lia
            · obtain ⟨M3, f3⟩ := M2.wrRdr hp (l := g1.rd ++ g1.wr.toList ++ [d])
              rw [TS.atP_pg, TS.atP_set, List.map_append (l₂ := [d])] at M3
              rw [List.map_append (l₂ := [d])] at f3
              refine hN _ _ ⟨A, rfl, ?_, f2.trans f3 (Mv.refl _ _ _ _), Mv.refl _ _ _ _⟩
              rw [hlent]
              unfold letRead
              rw [if_neg e]
              exact M3
        refine seq_via (fun σ' H' => σ' = [some (.ref (A .town)), some (.int p), some (.ref (A (.shelf p))), some (.int d), some (.str Rt.rd.s), none] ∧ MirAt H' A n m (S.atP p { g1 with rd := g1.rd ++ g1.wr.toList } []) se ∧ MrF H H' A n m) (fun N' hN' => ?_) ?_
        · refine zd rfl (dget hsh1 skv_writer) ⟨_, _, rfl, rfl, _, rfl, ?_⟩
          cases hw : g1.wr with
          | none =>
            refine iteFb rfl ?_
            refine hN' _ _ ⟨rfl, ?_, f1⟩
            have e : ({ g1 with rd := g1.rd ++ g1.wr.toList } : PG) = g1 := by rw [hw]; cases g1; simp_all
            rw [e]; exact M1'
          | some wv =>
            refine iteTb (decide_eq_true (Int.natCast_nonneg _)) ?_
            have l1 : valV (skv g1 (A (.rdr p)) (A (.asq p))) (ks "writer") = some (.int wv) := by rw [skv_writer, hw]; rfl
            refine zd rfl (dget hsh1 skv_readers) ⟨.inl ⟨rfl, _, SqL.of hrr1⟩, zd rfl (dget hsh1 l1) ⟨A (.rdr p), _, _, rfl, rfl, hrr1, (by rw [List.length_map, hgr]; lia), ?_⟩⟩
            obtain ⟨M3, f3⟩ := M1'.wrRdr hp (l := g1.rd ++ [wv])
            rw [TS.atP_pg, TS.atP_set, List.map_append (l₂ := [wv])] at M3
            rw [List.map_append (l₂ := [wv])] at f3
            have e : ({ g1 with rd := g1.rd ++ g1.wr.toList } : PG) = { g1 with rd := g1.rd ++ [wv] } := by rw [hw]; rfl
            exact hN' _ _ ⟨rfl, by rw [e]; exact M3, f1.trans f3 (Mv.refl _ _ _ _)⟩
        · rintro σ' H2 ⟨rfl, M2, f2⟩
          have hsh := M2.shelf hp
          rw [TS.atP_pg] at hsh
          refine ⟨_, rfl, _, rfl, A (.shelf p), _, rfl, dput hsh skv_len skv_setWriterN, ?_⟩
          obtain ⟨M3, f3⟩ := M2.wrShelf hp (g := { g1 with wr := none, rd := g1.rd ++ g1.wr.toList }) (by rw [TS.atP_pg]) (by rw [TS.atP_pg])
          rw [TS.atP_set] at M3
          exact fin _ M3 (f2.trans f3 (Mv.refl _ _ _ _))
      · subst hx
        refine iteTb vs_eq ?_
        rw [if_pos rfl] at hlent
        generalize hg1 : ({ S.pg p with ask := l } : PG) = g1 at M1' hlent
        have hsh1 := M1'.shelf hp
        rw [TS.atP_pg] at hsh1
        refine ⟨(by show 0 ≤ sizeLine; decide), fun r' hr' => ?_⟩
        obtain ⟨M2, f2, mv2⟩ := M1'.newRdr hp hr' (l := [])
        rw [TS.atP_pg] at M2 f2
        rw [TS.atP_set] at M2
        have hr0 : H r' = none := f1.lv _ hr'
        refine ⟨_, rfl, A (.shelf p), _, rfl, dput (same_new hr' _ _ hsh1) skv_len (skv_setReaders (l := [])), ?_⟩
        have hsh2 := M2.shelf hp
        rw [TS.atP_pg, setL_ne _ _ (by intro z; cases z), setL_same, setL_ne _ _ (by intro z; cases z)] at hsh2
        obtain ⟨M3, f3⟩ := M2.wrShelf hp (g := letWrite g1 d) (by rw [TS.atP_pg]; rfl) (by rw [TS.atP_pg]; rfl)
        rw [TS.atP_set] at M3
        rw [setL_ne _ _ (by intro z; cases z), setL_same, setL_ne _ _ (by intro z; cases z)] at M3 f3
        refine ⟨_, rfl, _, rfl, A (.shelf p), _, rfl, dput hsh2 skv_len skv_setWriterS, ?_⟩
        have mv : Mv H A (setL A (.rdr p) r') n m := fun z hz => (mv2 z hz).imp id fun e => ⟨e.1, f1.lv _ e.2⟩
        refine hN _ _ ⟨setL A (.rdr p) r', rfl, ?_, ?_, mv⟩
        · rw [hlent]; exact M3
        · exact (f1.trans f2 (Mv.refl _ _ _ _)).trans f3 mv
    · rintro σ' H2 ⟨A2, rfl, M2, f2, mv2⟩
      have hA : A2 .town = A .town := mv2.town
      have hAs : A2 (.shelf p) = A (.shelf p) := (mv2 (.shelf p) hp).elim id fun z => by obtain ⟨⟨q, e⟩, _⟩ := z; cases e
      have hsh := M2.shelf hp
      rw [TS.atP_pg, hAs] at hsh
      have htw := M2.town
      rw [hA] at htw
      refine ⟨_, rfl, _, rfl, zd rfl (dget hsh skv_number) ⟨(by show 4 ≤ sizeLine; decide), fun b hb => ?_⟩⟩
      rw [hnum] at *
      have s3 := same_new (o := .tup [.str "lend", .int p, .str x.s, .int (S.pg p).num]) hb
      have hb3 : upd H2 b (.tup [.str "lend", .int p, .str x.s, .int (S.pg p).num]) b = _ := upd_same
      have M3 := M2.same s3
      have f3 := f2.trans (MrF.of_same (A := A2) s3) mv2
      generalize upd H2 b (.tup [.str "lend", .int p, .str x.s, .int (S.pg p).num]) = H3 at s3 hb3 M3 f3
      have htw3 := s3 _ _ htw
      obtain ⟨dv, d1, d2⟩ := M3.dn hdn
      have hdl : dv.length < sizeLine := by
        rw [d2.length, List.length_map]
        show (post S.dn [] d).length < _
        have := hro.1 d
        show (S.dn d).length < _
        lia
      refine zdl rfl (dget htw3 tkv_downs) rfl (SqL.of M3.downs) (range_at hdn) ⟨.inl ⟨rfl, _, SqL.of d1⟩, _, rfl, A2 (.dn d), dv, _, rfl, rfl, d1, hdl, ?_⟩
      have rl : Rep H3 (.ref b) (Let.lend p x (S.pg p).num).d := by
        simp only [Let.d, Rep, RepL]
        exact ⟨b, _, rfl, hb3, _, _, rfl, rfl, _, _, rfl, rfl, _, _, rfl, rfl, _, _, rfl, rfl, rfl⟩
      have rp3 : RepL H3 (dv ++ [.ref b]) (((S.atP p (S.pg p).lent []).dn d ++ [Let.lend p x (S.pg p).num]).map Let.d) := by
        rw [List.map_append]
        exact RepL.snoc d2 rl
      obtain ⟨M4, f4⟩ := M3.wrDn hdn rp3
      have rl4 := Rep.tmono (f4.tups M3) (Let.flat _) rl
      have f4' := f3.trans f4 mv2
      generalize upd H3 (A2 (.dn d)) (.lst (dv ++ [.ref b])) = H4 at M4 f4 f4' rl4
      obtain ⟨sv, e1, e2⟩ := M4.sent
      have hsl : sv.length < sizeLine := by
        rw [e2.length, List.length_map]
        have := hro.2
        lia
      have htw4 := M4.town
      rw [hA] at htw4
      refine zd rfl (dget htw4 tkv_sent) ⟨.inl ⟨rfl, _, SqL.of e1⟩, _, rfl, _, rfl, (by show 2 ≤ sizeLine; decide), fun c hc => ?_⟩
      have s5 := same_new (o := .tup [.int d, .ref b]) hc
      refine ⟨A2 .sent, sv, _, rfl, rfl, s5 _ _ e1, hsl, ?_⟩
      have rp5 : RepL (upd H4 c (.tup [.int d, .ref b])) (sv ++ [.ref c]) ((se ++ [(d, Let.lend p x (S.pg p).num)]).map pairD) := by
        rw [List.map_append]
        refine RepL.snoc (e2.tmono (same_tup s5) (pairD_flat _)) ?_
        simp only [pairD, Rep, RepL]
        exact ⟨c, _, rfl, upd_same, _, _, rfl, rfl, _, _, rfl, Rep.tmono (same_tup s5) (Let.flat _) rl4, rfl⟩
      obtain ⟨M6, f6⟩ := (M4.same s5).wrSent rp5
      refine k A2 _ ?_ ((f4'.trans (MrF.of_same s5) mv2).trans f6 mv2) mv2
      rw [hl1]
      exact M6
end
end K07
namespace K07
open PySem L2
noncomputable def PG.cont (g : PG) (p : Nat) : PG × List (Nat × Let) := if g.miss = 0 then g.serve p else (g, [])
theorem cont_bid {g : PG} {p : Nat} (h0 : g.miss = 0) (h : g.ask ≠ []) (hb : g.bids p ≠ []) : (g.cont p).1 = (PG.cont { g with miss := (g.bids p).length } p).1 ∧ (g.cont p).2 = g.bids p ++ (PG.cont { g with miss := (g.bids p).length } p).2 := by
  have hl : ((g.bids p).length : Int) ≠ 0 := by
    have : (g.bids p).length ≠ 0 := fun z => hb (List.length_eq_zero_iff.mp z)
    lia
  unfold PG.cont
  rw [if_pos h0, serve_bid h hb]
  try dsimp only
  rw [if_neg hl]
  simp
theorem cont_lend {g : PG} {p : Nat} (h0 : g.miss = 0) (h : g.ask ≠ []) (hb : g.bids p = []) : (g.cont p).1 = (g.lent.cont p).1 ∧ (g.cont p).2 = g.lend1 p ++ (g.lent.cont p).2 := by
  unfold PG.cont
  rw [if_pos h0, serve_lend h hb, PG.lent_miss, if_pos h0]
  exact ⟨rfl, rfl⟩
theorem cont_len (g : PG) (p : Nat) : (g.cont p).2.length ≤ 2 * g.mu + 1 := by
  unfold PG.cont
  split
  · exact g.serve_len p
  · simp
theorem Roomy.at {S : TS} {se acc : List (Nat × Let)} {k j p : Nat} {g : PG} (h : Roomy S se k) (hj : acc.length + j ≤ k) : Roomy (S.atP p g acc) (se ++ acc) j := ⟨fun d => by
  have h1 := h.1 d
  have h2 := post_len S.dn acc d
  show (post S.dn acc d).length + j ≤ _
  lia, by rw [List.length_append]; have := h.2; lia⟩
section
variable {P : Program} {w : World} {K : PySem.W.Frag} {mg : Str → Option Value} {base : Heap} {t : Adr}
theorem ok_l_serve (T : Txt K w mg t) : FnOk P w K mg base CX0 2 t.f_l_serve t.fd_l_serve ["_law_town", "_law_page"] spMServe := by
  refine T.F_l_serve.ok sc_l_serve (fun vs H Q E h => ?_) (fun cdv A outer s H vs Q E hr h => ?_)
  · obtain ⟨A, n, m, S, se, p, rfl, _⟩ := h; rfl
  · obtain ⟨A, n, m, S, se, p, rfl, M, hp, hgn, hmu, hro, k⟩ := h
    have hu := hu_of hr
    have sl : sizeLine = 16777216 := by decide
    refine ⟨_, (pss_cons (ps_set (i := 2) sc_l_serve.nd rfl (Or.inl rfl) (pe_ix ix_list (pe_dget hu (pv 0) pe_str (fun _ _ => rfl)) (pv 1) (fun _ _ => rfl)))
      (pss_one (ps_while PassesOwn.never (PW.pt (pw_and (pt_cmpR op_eq (pe_dget hu (pv 2) pe_str (fun _ _ => rfl)) pe_int (nomark _)) (pw_and1 (pt_cmpR (op_neNil hr.units0) (pe_dget hu (pv 2) pe_str (fun _ _ => rfl)) (pe_lst pa_nil) (nomark _))))) (pss_cons (ps_dput hu (pv 2) pe_str (pe_call (ok_l_bid T) (hr.mono (by decide) : Room 1 _) (by rfl) T.m_l_bid T.F_l_bid.kp T.b_l_bid .nil pass0 (pa_cons (pv 0) (pa_cons (pv 1) pa_nil))) (by rfl))
      (pss_one (ps_if (pt_cmpR op_eq (pe_dget hu (pv 2) pe_str (fun _ _ => rfl)) pe_int (nomark _)) (pss_one (ps_expr (pe_call (ok_l_lend_out T) (hr.mono (by decide) : Room 1 _) (by rfl) T.m_l_lend_out T.F_l_lend_out.kp T.b_l_lend_out .nil pass0 (pa_cons (pv 0) (pa_cons (pv 1) pa_nil))))) pss_nil)))))), ?_⟩
    try dsimp only [cxOf, Cx.nox]
    show let Z1 : L2.TS := _; let Z2 : L2.TS := _; let Z3 : L2.TS := _; let Z4 : L2.TS := tIfS _ Z3 tNext; let Z5 : L2.TS := tSeq Z2 (Z4); let Z6 : L2.TS := tWhile _ Z5; let D0 : Ends := _; (tSeq Z1 (Z6)) D0 _ _
    intro Z1 Z2 Z3 Z4 Z5 Z6 D0
    refine zdl rfl (dget M.town tkv_shelves) rfl (SqL.of M.shelves) (range_at hp) ?_
    generalize hg0 : S.pg p = g0 at *
    refine ⟨fun i σ H1 => ∃ A1 g acc, σ = [some (.ref (A .town)), some (.int p), some (.ref (A (.shelf p)))] ∧ MirAt H1 A1 n m (S.atP p g acc) (se ++ acc) ∧ MrF H H1 A n m ∧ Mv H A A1 n m ∧ PGn n g ∧ g.mu ≤ g0.mu ∧ acc.length + (g.cont p).2.length ≤ 2 * g0.mu + 1 ∧
      (g0.cont p).1 = (g.cont p).1 ∧ (g0.cont p).2 = acc ++ (g.cont p).2 ∧ i = 2 * g.ask.length + (if g.miss = 0 then 1 else 0), ⟨_, A, g0, [], rfl, ?_, MrF.refl _ _ _ _, Mv.refl _ _ _ _, hgn, Nat.le_refl _, ?_, rfl, rfl, rfl⟩, ?_⟩
    · have := S.atP_own p
      rw [hg0] at this
      rw [this, List.append_nil]; exact M
    · have := cont_len g0 p; simp; lia
    rintro i σ H1 ⟨A1, g, acc, rfl, M1, f1, mv1, gn1, mu1, le1, se1, se2, rfl⟩
    have hA : A1 .town = A .town := mv1.town
    have hAs : A1 (.shelf p) = A (.shelf p) := (mv1 (.shelf p) hp).elim id fun z => by obtain ⟨⟨q, e⟩, _⟩ := z; cases e
    have hsh := M1.shelf hp
    rw [TS.atP_pg, hAs] at hsh
    obtain ⟨as, h3, h4⟩ := M1.asq hp
    rw [TS.atP_pg] at h4
    have hasl : as.length = g.ask.length := by rw [h4.length, List.length_map]
    have done : ∀ H2, MirAt H2 A1 n m (S.atP p g acc) (se ++ acc) → MrF H H2 A n m → g.cont p = (g, []) → Q .non H2 := fun H2 M2 f2 e => by
      refine k A1 H2 (g0.cont p) rfl ?_ f2 mv1
      rw [e] at se1 se2
      rw [se1, se2, List.append_nil]
      exact M2
    refine zd rfl (dget hsh skv_missing) ⟨rfl, _, rfl, ?_⟩
    by_cases hms : g.miss = 0
    · refine iteTb (by rw [hms]; exact decide_eq_true rfl) ?_
      refine zd rfl (dget hsh skv_asked) ⟨(by show 0 ≤ sizeLine; decide), fun e he => ?_⟩
      have s2 := same_new (o := .lst []) he
      refine ⟨A1 (.asq p), e, as, rfl, rfl, SqL.of (s2 _ _ h3), SqL.of upd_same, _, rfl, ?_⟩
      have M2 := M1.same s2
      have f2 := f1.trans (MrF.of_same (A := A1) s2) mv1
      generalize upd H1 e (.lst []) = H2 at s2 M2 f2
      by_cases hak : g.ask = []
      · have : as = [] := List.length_eq_zero_iff.mp (by rw [hasl, hak]; rfl)
        subst this
        refine iteFb rfl ?_
        exact done H2 M2 f2 (by unfold PG.cont; rw [if_pos hms, serve_nil hak])
      · refine iteTb (by cases as with | nil => exact absurd (List.length_eq_zero_iff.mp hasl.symm) hak | cons _ _ => rfl) ?_
        obtain ⟨⟨d, x⟩, l, hq⟩ := List.exists_cons_of_ne_nil hak
        obtain ⟨hdn, hx⟩ := gn1.q (d, x) (by rw [hq]; simp)
        have hrdl : g.rd.length ≤ 1000000 := by unfold PG.mu at mu1 hmu; lia
        have hbl := bids_len g p
        have hbm : (g.bids p).length ≤ g0.mu + 1 := by unfold PG.mu at mu1 ⊢; lia
        refine ⟨fun σ' H' => ∃ i', i' < 2 * g.ask.length + (if g.miss = 0 then 1 else 0) ∧ ∃ A1 g acc, σ' = [some (.ref (A .town)), some (.int p), some (.ref (A (.shelf p)))] ∧ MirAt H' A1 n m (S.atP p g acc) (se ++ acc) ∧ MrF H H' A n m ∧ Mv H A A1 n m ∧ PGn n g ∧ g.mu ≤ g0.mu ∧ acc.length + (g.cont p).2.length ≤ 2 * g0.mu + 1 ∧
          (g0.cont p).1 = (g.cont p).1 ∧ (g0.cont p).2 = acc ++ (g.cont p).2 ∧ i' = 2 * g.ask.length + (if g.miss = 0 then 1 else 0), fun σ' H' z => z, ?_⟩
        have accl : acc.length ≤ 2 * g0.mu + 1 := by lia
        have hv : V.ref (A .town) = V.ref (A1 .town) := by rw [hA]
        refine ⟨_, rfl, _, rfl, A1, n, m, S.atP p g acc, se ++ acc, p, d, x, l, by rw [hA]; rfl, M2, hp, by rw [TS.atP_pg]; exact hq, hx, ?_, by rw [TS.atP_pg]; exact hrdl, ?_, ?_⟩
        · rw [TS.atP_pg]; exact fun x hx => ((gn1.bids p).1 x hx).1
        · rw [TS.atP_pg]; exact hro.at (by lia)
        rw [TS.atP_pg, TS.atP_dn, List.append_assoc]
        intro H3 M3 f3
        have hsh3 := M3.shelf hp
        rw [TS.atP_pg, hAs] at hsh3
        refine ⟨_, rfl, A (.shelf p), _, rfl, dput hsh3 skv_len skv_setMissing, ?_⟩
        obtain ⟨M4, f4⟩ := M3.wrShelf hp (g := { g with miss := ((g.bids p).length : Int) }) (by rw [TS.atP_pg]) (by rw [TS.atP_pg])
        rw [TS.atP_set] at M4
        rw [hAs] at M4 f4
        have f34 := (f2.trans f3 mv1).trans f4 mv1
        generalize upd H3 (A (.shelf p)) (.dK (skv { g with miss := ((g.bids p).length : Int) } (A1 (.rdr p)) (A1 (.asq p)))) = H4 at M4 f34
        have hsh4 := M4.shelf hp
        rw [TS.atP_pg, hAs] at hsh4
        refine zd rfl (dget hsh4 skv_missing) ⟨rfl, _, rfl, ?_⟩
        by_cases hb : g.bids p = []
        · obtain ⟨c1, c2⟩ := cont_lend hms hak hb
          refine iteTb (by rw [hb]; exact decide_eq_true rfl) ?_
          have eg : ({ g with miss := ((g.bids p).length : Int) } : PG) = g := by rw [hb]; cases g; simp_all
          rw [eg, hb, List.append_nil] at M4
          have hle : 1 + (g.lent.cont p).2.length ≤ (g.cont p).2.length := by
            rw [c2, List.length_append]
            have : g.lend1 p = [(d, .lend p x g.num)] := by unfold PG.lend1; rw [hq]
            rw [this]; simp
          refine ⟨_, rfl, _, rfl, A1, n, m, S.atP p g acc, se ++ acc, p, by rw [hA]; rfl, M4, hp, by rw [TS.atP_pg]; exact hak, by rw [TS.atP_pg]; exact gn1, by rw [TS.atP_pg]; exact hrdl, hro.at (by lia), ?_⟩
          rw [TS.atP_pg]
          intro A5 H5 M5 f5 mv5
          have e5 : (S.atP p g acc).atP p g.lent (g.lend1 p) = S.atP p g.lent (acc ++ g.lend1 p) := by unfold TS.atP; simp only [setf_setf, post_append]
          rw [e5, List.append_assoc] at M5
          refine ⟨_, ?_, A5, g.lent, acc ++ g.lend1 p, rfl, M5, f34.trans f5 mv1, mv1.trans f34.lv mv5, gn1.lent, Nat.le_trans g.lent_mu mu1, ?_, ?_, ?_, rfl⟩
          · rw [PG.lent_len, PG.lent_miss, hq]; simp
          · rw [List.length_append]
            have : g.lend1 p = [(d, .lend p x g.num)] := by unfold PG.lend1; rw [hq]
            rw [this]
            simp only [List.length_singleton]
            lia
          · rw [se1, c1]
          · rw [se2, c2, List.append_assoc]
        · obtain ⟨c1, c2⟩ := cont_bid hms hak hb
          have hbn : (g.bids p).length ≠ 0 := fun z => hb (List.length_eq_zero_iff.mp z)
          refine iteFb (decide_eq_false fun z => hbn (by have z1 : ((g.bids p).length : Int) = 0 := V.int.inj z; lia)) ?_
          refine ⟨_, ?_, A1, { g with miss := ((g.bids p).length : Int) }, acc ++ g.bids p, rfl, M4, f34, mv1, ⟨gn1.w, gn1.r, gn1.q⟩, mu1, ?_, ?_, ?_, rfl⟩
          · rw [if_pos hms, if_neg (by show ((g.bids p).length : Int) ≠ 0; lia)]; simp
          · rw [List.length_append]
            have := congrArg List.length c2
            rw [List.length_append] at this
            lia
          · rw [se1, c1]
          · rw [se2, c2, List.append_assoc]
    · refine iteFb (decide_eq_false fun z => hms (V.int.inj z)) ?_
      exact iteF (done H1 M1 f1 (by unfold PG.cont; rw [if_neg hms]))
end
end K07
namespace K07
open PySem L2
theorem ul_cons {H : Hp} {vs : List V} {l : UL} {r : List UL} (h : RepL H vs ((l :: r).map UL.d)) : ∃ b us, vs = .ref b :: us ∧ H b = some (.tup l.vs) ∧ RepL H us (r.map UL.d) := by
  rw [List.map_cons] at h
  obtain ⟨v, us, e, rv, rl⟩ := RepL.cons_inv h
  cases l with
  | ask p x =>
    simp only [UL.d, Rep, RepL] at rv
    obtain ⟨b, xs, rfl, hb, _, _, rfl, rfl, _, _, rfl, rfl, _, _, rfl, rfl, rfl⟩ := rv
    exact ⟨b, us, e, hb, rl⟩
  | ans p o =>
    cases o <;> (simp only [UL.d, oD, Rep, RepL] at rv; obtain ⟨b, xs, rfl, hb, _, _, rfl, rfl, _, _, rfl, rfl, _, _, rfl, rfl, rfl⟩ := rv; exact ⟨b, us, e, hb, rl⟩)
  | gave p x =>
    simp only [UL.d, Rep, RepL] at rv
    obtain ⟨b, xs, rfl, hb, _, _, rfl, rfl, _, _, rfl, rfl, _, _, rfl, rfl, rfl⟩ := rv
    exact ⟨b, us, e, hb, rl⟩
theorem ul_rep {H : Hp} {b : Addr} {l : UL} (h : H b = some (.tup l.vs)) : Rep H (.ref b) l.d := by
  cases l with
  | ask p x => simp only [UL.d, Rep, RepL]; exact ⟨b, _, rfl, h, _, _, rfl, rfl, _, _, rfl, rfl, _, _, rfl, rfl, rfl⟩
  | ans p o => cases o <;> (simp only [UL.d, oD, Rep, RepL]; exact ⟨b, _, rfl, h, _, _, rfl, rfl, _, _, rfl, rfl, _, _, rfl, rfl, rfl⟩)
  | gave p x => simp only [UL.d, Rep, RepL]; exact ⟨b, _, rfl, h, _, _, rfl, rfl, _, _, rfl, rfl, _, _, rfl, rfl, rfl⟩
noncomputable def spMUp : Sp := fun vs H Q _ => ∃ A n m S se, ∃ d : Nat, ∃ l r, vs = [.ref (A .town), .int d] ∧ MirAt H A n m S se ∧ d < n ∧ S.up d = l :: r ∧ l.pg < m ∧ PGn n (S.pg l.pg) ∧ ((S.pg l.pg).ask = [] ↔ (S.pg l.pg).miss = 0) ∧ l.good (S.pg l.pg) ∧ (S.pg l.pg).mu ≤ 900000 ∧ Roomy S se (4 * (S.pg l.pg).mu + 20) ∧
  ∀ b A' H', MirAt H' A' n m (S.doUp d l r) (se ++ ((S.pg l.pg).take l.pg d l).2) → MrF H H' A n m → Mv H A A' n m → H' b = some (.tup l.vs) → Q (.ref b) H'
section
variable {P : Program} {w : World} {K : PySem.W.Frag} {mg : Str → Option Value} {base : Heap} {t : Adr}
theorem ok_l_came_up (T : Txt K w mg t) : FnOk P w K mg base CX0 3 t.f_l_came_up t.fd_l_came_up ["_law_town", "_law_desk"] spMUp := by
  refine T.F_l_came_up.ok sc_l_came_up (fun vs H Q E h => ?_) (fun cdv A outer s H vs Q E hr h => ?_)
  · obtain ⟨A, n, m, S, se, d, l, r, rfl, _⟩ := h; rfl
  · obtain ⟨A, n, m, S, se, d, l, r, rfl, M, hd, hup, hp, hgn, ham, hgd, hmu, hro, k⟩ := h
    have hu := hu_of hr
    have sl : sizeLine = 16777216 := by decide
    refine ⟨_, (pss_cons (ps_set (i := 2) sc_l_came_up.nd rfl (Or.inl rfl) (pe_bm PySem.F.plainAttrs_list PySem.F.slot_list_pop PySem.F.type_list_pop mt_popAt (pe_ix ix_list (pe_dget hu (pv 0) pe_str (fun _ _ => rfl)) (pv 1) (fun _ _ => rfl)) (pa_cons pe_int pa_nil)))
      (pss_cons (ps_set (i := 3) sc_l_came_up.nd rfl (Or.inl rfl) (pe_ix ix_list (pe_dget hu (pv 0) pe_str (fun _ _ => rfl)) (pe_ix ix_tup (pv 2) pe_int (fun _ _ => rfl)) (fun _ _ => rfl)))
      (pss_cons (ps_if (pt_cmpR op_eq (pe_ix ix_tup (pv 2) pe_int (fun _ _ => rfl)) pe_str (nomark _)) (pss_cons (ps_expr (pe_bm PySem.F.plainAttrs_list PySem.F.slot_list_append PySem.F.type_list_append mt_append (pe_dget hu (pv 3) pe_str (fun _ _ => rfl)) (pa_cons (pe_tup (pa_cons (pv 1) (pa_cons (pe_ix ix_tup (pv 2) pe_int (fun _ _ => rfl)) pa_nil))) pa_nil)))
      (pss_cons (ps_expr (pe_call (ok_l_serve T) (hr.mono (by decide) : Room 2 _) (by rfl) T.m_l_serve T.F_l_serve.kp T.b_l_serve .nil pass0 (pa_cons (pv 0) (pa_cons (pe_ix ix_tup (pv 2) pe_int (fun _ _ => rfl)) pa_nil))))
      (pss_one (ps_ret (pv 2))))) pss_nil)
      (pss_cons (ps_if (pt_cmp (pc_notN (pe_ix ix_tup (pv 2) pe_int (fun _ _ => rfl)))) (pss_one (ps_dput hu (pv 3) pe_str (pe_ix ix_tup (pv 2) pe_int (fun _ _ => rfl)) (by rfl))) pss_nil)
      (pss_cons (ps_if (pt_cmpR op_eq (pe_ix ix_tup (pv 2) pe_int (fun _ _ => rfl)) pe_str (nomark _)) (pss_cons (ps_if (pt_cmpR op_eq (pe_dget hu (pv 3) pe_str (fun _ _ => rfl)) (pv 1) (nomark _)) (pss_one (ps_dput hu (pv 3) pe_str (pe_un un_neg pe_int) (by rfl))) pss_nil)
      (pss_one (ps_ret (pv 2)))) pss_nil)
      (pss_cons (ps_dput hu (pv 3) pe_str (pe_op op_sub (pe_dget hu (pv 3) pe_str (fun _ _ => rfl)) pe_int) (by rfl))
      (pss_cons (ps_if (pt_cmpR op_eq (pe_dget hu (pv 3) pe_str (fun _ _ => rfl)) pe_int (nomark _)) (pss_cons (ps_expr (pe_call (ok_l_lend_out T) (hr.mono (by decide) : Room 1 _) (by rfl) T.m_l_lend_out T.F_l_lend_out.kp T.b_l_lend_out .nil pass0 (pa_cons (pv 0) (pa_cons (pe_ix ix_tup (pv 2) pe_int (fun _ _ => rfl)) pa_nil))))
      (pss_one (ps_expr (pe_call (ok_l_serve T) (hr.mono (by decide) : Room 2 _) (by rfl) T.m_l_serve T.F_l_serve.kp T.b_l_serve .nil pass0 (pa_cons (pv 0) (pa_cons (pe_ix ix_tup (pv 2) pe_int (fun _ _ => rfl)) pa_nil)))))) pss_nil)
      (pss_one (ps_ret (pv 2)))))))))), ?_⟩
    try dsimp only [cxOf, Cx.nox]
    show let Z1 : L2.TS := _; let Z2 : L2.TS := _; let Z3 : L2.TS := _; let Z4 : L2.TS := _; let Z5 : L2.TS := _; let Z6 : L2.TS := tSeq Z3 (tSeq Z4 (Z5)); let Z7 : L2.TS := tIfS _ Z6 tNext; let Z8 : L2.TS := _; let Z9 : L2.TS := tIfS _ Z8 tNext; let Z10 : L2.TS := _; let Z11 : L2.TS := tIfS _ Z10 tNext; let Z12 : L2.TS := _; let Z13 : L2.TS := tSeq Z11 (Z12); let Z14 : L2.TS := tIfS _ Z13 tNext; let Z15 : L2.TS := _; let Z16 : L2.TS := _; let Z17 : L2.TS := _; let Z18 : L2.TS := tSeq Z16 (Z17); let Z19 : L2.TS := tIfS _ Z18 tNext; let Z20 : L2.TS := _; let D0 : Ends := _; (tSeq Z1 (tSeq Z2 (tSeq Z7 (tSeq Z9 (tSeq Z14 (tSeq Z15 (tSeq Z19 (Z20)))))))) D0 _ _
    intro Z1 Z2 Z3 Z4 Z5 Z6 Z7 Z8 Z9 Z10 Z11 Z12 Z13 Z14 Z15 Z16 Z17 Z18 Z19 Z20 D0
    obtain ⟨uv, u1, u2⟩ := M.up hd
    rw [hup] at u2
    obtain ⟨b, us, rfl, hb, u3⟩ := ul_cons u2
    refine zdl rfl (dget M.town tkv_ups) rfl (SqL.of M.ups) (range_at hd) ⟨.inl ⟨rfl, _, SqL.of u1⟩, A (.up d), _, 0, 0, _, rfl, rfl, u1, (by decide), (by decide), six0 _ _, rfl, ?_⟩
    rw [List.eraseIdx_cons_zero]
    obtain ⟨M1, f1⟩ := M.wrUp hd u3
    have hb1 := (f1.tups M) b _ hb
    generalize upd H (A (.up d)) (.lst us) = H1 at M1 f1 hb1
    generalize hS1 : ({ S with up := setf S.up d r } : TS) = S1 at M1
    have hpg : S1.pg = S.pg := by rw [← hS1]
    have hdn : S1.dn = S.dn := by rw [← hS1]
    have hro1 : Roomy S1 se (4 * (S.pg l.pg).mu + 20) := ⟨fun e => by rw [hdn]; exact hro.1 e, hro.2⟩
    have hdo : ∀ z : PG × List (Nat × Let), z = (S.pg l.pg).take l.pg d l → S1.atP l.pg z.1 z.2 = S.doUp d l r := fun z e => by rw [e, ← hS1]; rfl
    refine zd rfl (dget M1.town tkv_shelves) (zt rfl (SqT.of hb1) (UL.at1 l) ⟨A .shelves, _, _, _, rfl, rfl, SqL.of M1.shelves, range_at hp, ?_⟩)
    have M1' : MirAt H1 A n m (S1.atP l.pg (S.pg l.pg) []) se := by have := S1.atP_own l.pg; rw [hpg] at this; rw [this]; exact M1
    have hsh := M1'.shelf hp
    rw [TS.atP_pg] at hsh
    generalize hq : l.pg = p0 at hp hgn ham hgd hmu hro k hro1 hdo M1' hsh ⊢
    cases l with
    | ask p x =>
      have hq' : p = p0 := hq
      subst hq'
      have hx : x = .rd ∨ x = .wr := hgd
      refine zt rfl (SqT.of hb1) rfl ⟨rfl, _, rfl, ?_⟩
      refine iteTb vs_eq ?_
      obtain ⟨av, a1, a2⟩ := M1'.asq hp
      rw [TS.atP_pg] at a2
      have hal : av.length = (S.pg p).ask.length := by rw [a2.length, List.length_map]
      have hal2 : (S.pg p).ask.length ≤ 900000 := by unfold PG.mu at hmu; lia
      refine zd rfl (dget hsh skv_asked) ⟨.inl ⟨rfl, _, SqL.of a1⟩, _, rfl, zt rfl (SqT.of hb1) rfl ⟨(by show 2 ≤ sizeLine; decide), fun tt ht => ?_⟩⟩
      have s2 := same_new (o := .tup [.int d, .str x.s]) ht
      refine ⟨A (.asq p), av, _, rfl, rfl, s2 _ _ a1, by lia, ?_⟩
      have rp : RepL (upd H1 tt (.tup [.int d, .str x.s])) (av ++ [.ref tt]) (((S.pg p).ask ++ [(d, x)]).map askD) := by
        rw [List.map_append]
        refine RepL.snoc (a2.tmono (same_tup s2) (askD_flat _)) ?_
        simp only [askD, Rep, RepL]
        exact ⟨tt, _, rfl, upd_same, _, _, rfl, rfl, _, _, rfl, rfl, rfl⟩
      obtain ⟨M3, f3⟩ := (M1'.same s2).wrAsq hp rp
      have hb3 := (f3.tups (M1'.same s2)) b _ (s2 _ _ hb1)
      have f13 := (f1.trans (MrF.of_same (A := A) s2) (Mv.refl _ _ _ _)).trans f3 (Mv.refl _ _ _ _)
      generalize upd (upd H1 tt (.tup [.int d, .str x.s])) (A (.asq p)) (.lst (av ++ [.ref tt])) = H3 at M3 f3 hb3 f13
      rw [TS.atP_set, TS.atP_pg] at M3
      have gn2 : PGn n ({ S.pg p with ask := (S.pg p).ask ++ [(d, x)] } : PG) := ⟨hgn.w, hgn.r, fun y hy => by
        rcases List.mem_append.mp hy with hy | hy
        · exact hgn.q y hy
        · have : y = (d, x) := by simpa using hy
          rw [this]; exact ⟨hd, hx⟩⟩
      have hmu2 : ({ S.pg p with ask := (S.pg p).ask ++ [(d, x)] } : PG).mu = (S.pg p).mu + 2 := by unfold PG.mu; simp; lia
      refine ⟨_, rfl, zt rfl (SqT.of hb3) rfl ⟨A, n, m, _, se, p, rfl, M3, hp, by rw [TS.atP_pg]; exact gn2, ?_, ?_, ?_⟩⟩
      · rw [TS.atP_pg, hmu2]; have : (S.pg p).mu ≤ 900000 := hmu; lia
      · have := Roomy.at (acc := []) (p := p) (g := { S.pg p with ask := (S.pg p).ask ++ [(d, x)] }) (j := 4 * ((S.pg p).mu + 2) + 4) hro1 (by show 0 + _ ≤ 4 * (S.pg p).mu + 20; lia)
        rw [TS.atP_pg, hmu2]
        rw [List.append_nil] at this
        exact this
      · rw [TS.atP_pg]
        intro A4 H4 z hz M4 f4 mv4
        have ez : z = (S.pg p).take p d (.ask p x) := by
          rw [hz]
          simp only [PG.take]
          by_cases e : (S.pg p).ask = []
          · rw [if_pos (ham.mp e), if_pos e, e]; rfl
          · rw [if_neg fun y => e (ham.mpr y), if_neg e]
        have e4 : (S1.atP p { S.pg p with ask := (S.pg p).ask ++ [(d, x)] } []).atP p z.1 z.2 = S1.atP p z.1 z.2 := by unfold TS.atP; simp only [setf_setf, post_append]; rfl
        rw [e4, hdo z ez, ez] at M4
        refine ⟨_, rfl, k b A4 H4 M4 (f13.trans f4 (Mv.refl _ _ _ _)) (fun y hy => (mv4 y hy).imp id fun e => ⟨e.1, f13.lv _ e.2⟩) ((f4.tups M3) b _ hb3)⟩
    | gave p x =>
      have hq' : p = p0 := hq
      subst hq'
      refine zt rfl (SqT.of hb1) rfl ⟨rfl, _, rfl, ?_⟩
      refine iteFb (vs_ne (by decide +kernel)) ?_
      refine zt rfl (SqT.of hb1) rfl ⟨_, rfl, ?_⟩
      refine iteTb rfl ?_
      refine zt rfl (SqT.of hb1) rfl ⟨_, rfl, A (.shelf p), _, rfl, dput hsh skv_len skv_setNumber, ?_⟩
      obtain ⟨M2, f2⟩ := M1'.wrShelf hp (g := { S.pg p with num := x }) (by rw [TS.atP_pg]) (by rw [TS.atP_pg])
      rw [TS.atP_set] at M2
      have hb2 := (f2.tups M1') b _ hb1
      have f12 := f1.trans f2 (Mv.refl _ _ _ _)
      generalize upd H1 (A (.shelf p)) (.dK (skv { S.pg p with num := x } (A (.rdr p)) (A (.asq p)))) = H2 at M2 f2 hb2 f12
      have hsh2 := M2.shelf hp
      rw [TS.atP_pg] at hsh2
      refine zt rfl (SqT.of hb2) rfl ⟨rfl, _, rfl, ?_⟩
      refine iteTb vs_eq ?_
      have ek : (S.pg p).take p d (.gave p x) = ({ S.pg p with num := x, wr := if (S.pg p).wr = some d then none else (S.pg p).wr }, []) := rfl
      refine zd rfl (dget hsh2 skv_writer) ⟨_, rfl, rfl, _, rfl, ?_⟩
      by_cases e : (S.pg p).wr = some d
      · refine iteTb (by show decide (V.int (wrI (S.pg p).wr) = V.int d) = true; rw [e]; exact decide_eq_true rfl) ?_
        refine ⟨_, rfl, _, rfl, A (.shelf p), _, rfl, dput hsh2 skv_len skv_setWriterN, ?_⟩
        obtain ⟨M3, f3⟩ := M2.wrShelf hp (g := { S.pg p with num := x, wr := none }) (by rw [TS.atP_pg]) (by rw [TS.atP_pg])
        rw [TS.atP_set] at M3
        refine ⟨_, rfl, k b A _ ?_ (f12.trans f3 (Mv.refl _ _ _ _)) (Mv.refl _ _ _ _) ((f3.tups M2) b _ hb2)⟩
        have := hdo _ ek.symm
        rw [if_pos e] at ek this
        rw [← this]
        show MirAt _ A n m _ (se ++ ((S.pg p).take p d (.gave p x)).2)
        rw [ek, List.append_nil]
        exact M3
      · refine iteFb (decide_eq_false fun z => e ?_) ?_
        · have z1 : wrI (S.pg p).wr = (d : Int) := V.int.inj z
          cases hw : (S.pg p).wr with
          | none => rw [hw] at z1; have : (-1 : Int) = d := z1; lia
          | some y => rw [hw] at z1; have : (y : Int) = d := z1; exact congrArg some (by lia)
        · refine ⟨_, rfl, k b A _ ?_ f12 (Mv.refl _ _ _ _) hb2⟩
          have := hdo _ ek.symm
          rw [if_neg e] at ek this
          rw [← this]
          show MirAt _ A n m _ (se ++ ((S.pg p).take p d (.gave p x)).2)
          rw [ek, List.append_nil]
          exact M2
    | ans p o =>
      have hq' : p = p0 := hq
      subst hq'
      refine zt rfl (SqT.of hb1) rfl ⟨rfl, _, rfl, ?_⟩
      refine iteFb (vs_ne (by decide +kernel)) ?_
      try dsimp only [tNext]
      refine seq_via (fun σ' H' => σ' = [some (.ref (A .town)), some (.int d), some (.ref b), some (.ref (A (.shelf p)))] ∧ MirAt H' A n m (S1.atP p { S.pg p with num := o.getD (S.pg p).num } []) se ∧ MrF H H' A n m ∧ H' b = some (.tup (UL.ans p o).vs)) (fun N hN => ?_) ?_
      · refine zt rfl (SqT.of hb1) rfl ⟨_, rfl, ?_⟩
        cases o with
        | none =>
          refine iteFb rfl ?_
          exact hN _ _ ⟨rfl, M1', f1, hb1⟩
        | some x =>
          refine iteTb rfl ?_
          refine zt rfl (SqT.of hb1) rfl ⟨_, rfl, A (.shelf p), _, rfl, dput hsh skv_len skv_setNumber, ?_⟩
          obtain ⟨M2, f2⟩ := M1'.wrShelf hp (g := { S.pg p with num := x }) (by rw [TS.atP_pg]) (by rw [TS.atP_pg])
          rw [TS.atP_set] at M2
          exact hN _ _ ⟨rfl, M2, f1.trans f2 (Mv.refl _ _ _ _), (f2.tups M1') b _ hb1⟩
      · rintro σ' H2 ⟨rfl, M2, f2, hb2⟩
        have hsh2 := M2.shelf hp
        rw [TS.atP_pg] at hsh2
        refine zt rfl (SqT.of hb2) rfl ⟨rfl, _, rfl, ?_⟩
        refine iteFb (vs_ne (by decide +kernel)) ?_
        refine zd rfl (dget hsh2 skv_missing) ⟨_, _, rfl, rfl, _, rfl, A (.shelf p), _, rfl, dput hsh2 skv_len skv_setMissing, ?_⟩
        generalize hg2 : ({ S.pg p with num := o.getD (S.pg p).num, miss := (S.pg p).miss - 1 } : PG) = g2
        obtain ⟨M3, f3⟩ := M2.wrShelf hp (g := g2) (by rw [TS.atP_pg, ← hg2]) (by rw [TS.atP_pg, ← hg2])
        rw [TS.atP_set] at M3
        have hb3 := (f3.tups M2) b _ hb2
        have f13 := f2.trans f3 (Mv.refl _ _ _ _)
        generalize upd H2 (A (.shelf p)) (.dK (skv g2 (A (.rdr p)) (A (.asq p)))) = H3 at M3 f3 hb3 f13
        have hsh3 := M3.shelf hp
        rw [TS.atP_pg] at hsh3
        have gm : g2.miss = (S.pg p).miss - 1 := by rw [← hg2]
        have ga : g2.ask = (S.pg p).ask := by rw [← hg2]
        have gr : g2.rd = (S.pg p).rd := by rw [← hg2]
        have gn2 : PGn n g2 := by rw [← hg2]; exact ⟨hgn.w, hgn.r, hgn.q⟩
        have gmu : g2.mu = (S.pg p).mu := by unfold PG.mu; rw [ga, gr]
        have ek : (S.pg p).take p d (.ans p o) = if (S.pg p).miss - 1 = 0 then ((g2.lent.serve p).1, g2.lend1 p ++ (g2.lent.serve p).2) else (g2, []) := by simp only [PG.take]; rw [hg2]
        have hmu' : (S.pg p).mu ≤ 900000 := hmu
        try dsimp only [tNext]
        refine zd rfl (dget hsh3 skv_missing) ⟨rfl, _, rfl, ?_⟩
        by_cases e : (S.pg p).miss - 1 = 0
        · refine iteTb (by rw [gm, e]; exact decide_eq_true rfl) ?_
          rw [if_pos e] at ek
          have hak : g2.ask ≠ [] := by rw [ga]; exact hgd e
          refine ⟨_, rfl, zt rfl (SqT.of hb3) rfl ⟨A, n, m, _, se, p, rfl, M3, hp, by rw [TS.atP_pg]; exact hak, by rw [TS.atP_pg]; exact gn2, ?_, ?_, ?_⟩⟩
          · rw [TS.atP_pg, gr]; unfold PG.mu at hmu'; lia
          · have := Roomy.at (acc := []) (p := p) (g := g2) (j := 1) hro1 (by show 0 + 1 ≤ 4 * (S.pg p).mu + 20; lia)
            rw [List.append_nil] at this
            exact this
          · rw [TS.atP_pg]
            intro A4 H4 M4 f4 mv4
            have e4 : (S1.atP p g2 []).atP p g2.lent (g2.lend1 p) = S1.atP p g2.lent (g2.lend1 p) := by unfold TS.atP; simp only [setf_setf]; rfl
            rw [e4] at M4
            have hA : A4 .town = A .town := mv4.town
            have hb4 := (f4.tups M3) b _ hb3
            have ll : (g2.lend1 p).length ≤ 1 := by unfold PG.lend1; split <;> simp
            have hlm := g2.lent_mu
            refine ⟨_, rfl, zt rfl (SqT.of hb4) rfl ⟨A4, n, m, _, se ++ g2.lend1 p, p, by rw [hA]; rfl, M4, hp, by rw [TS.atP_pg]; exact gn2.lent, ?_, ?_, ?_⟩⟩
            · rw [TS.atP_pg]; lia
            · rw [TS.atP_pg]
              exact Roomy.at hro1 (by show _ ≤ 4 * (S.pg p).mu + 20; lia)
            · rw [TS.atP_pg]
              intro A5 H5 z hz M5 f5 mv5
              rw [PG.lent_miss, gm, if_pos e] at hz
              have e5 : (S1.atP p g2.lent (g2.lend1 p)).atP p z.1 z.2 = S1.atP p z.1 (g2.lend1 p ++ z.2) := by unfold TS.atP; simp only [setf_setf, post_append]
              rw [e5, List.append_assoc] at M5
              have ek' : (z.1, g2.lend1 p ++ z.2) = (S.pg p).take p d (.ans p o) := by rw [ek, hz]
              have := hdo _ ek'
              have mv : Mv H A A5 n m := fun y hy => ((mv4.trans f4.lv mv5) y hy).imp id fun e => ⟨e.1, f13.lv _ e.2⟩
              refine ⟨_, rfl, k b A5 H5 ?_ ((f13.trans f4 (Mv.refl _ _ _ _)).trans f5 fun y hy => (mv4 y hy).imp id fun e => ⟨e.1, f13.lv _ e.2⟩) mv ((f5.tups M4) b _ hb4)⟩
              rw [← this]
              show MirAt _ A5 n m _ (se ++ ((S.pg p).take p d (.ans p o)).2)
              rw [← ek']
              exact M5
        · refine iteFb (by rw [gm]; exact decide_eq_false fun z => e (V.int.inj z)) ?_
          rw [if_neg e] at ek
          refine ⟨_, rfl, k b A H3 ?_ f13 (Mv.refl _ _ _ _) hb3⟩
          have := hdo _ ek.symm
          rw [← this]
          show MirAt _ A n m _ (se ++ ((S.pg p).take p d (.ans p o)).2)
          rw [ek, List.append_nil]
          exact M3
end
end K07
namespace K07
open PySem L2
theorem ixN_nat {n p : Nat} (h : p < n) : ixN n (p : Int) = some p := by unfold ixN; rw [if_pos (Int.natCast_nonneg _), if_pos (by lia)]; simp
theorem range_set {m p : Nat} {f g : Nat → V} {v : V} (hp : p < m) (hg : g p = v) (h : ∀ q, q ≠ p → g q = f q) : ((List.range m).map f).set p v = (List.range m).map g := by
  refine List.ext_getElem? fun i => ?_
  by_cases e : i = p
  · subst e
    rw [List.getElem?_set_self (by simpa using hp), List.getElem?_map, List.getElem?_range hp]
    simp [hg]
  · rw [List.getElem?_set_ne (Ne.symm e), List.getElem?_map, List.getElem?_map]
    by_cases hi : i < m
    · rw [List.getElem?_range hi]; simp [h i e]
    · rw [List.getElem?_eq_none (by simpa using hi)]; rfl
noncomputable def spEn : Sp := fun vs H Q _ => ∃ r a w, vs = [.str (Rt.s r), .ref a] ∧ H a = some (.tup (W.vs w)) ∧ Q (.bl (decide (w.need.k ≤ r.k))) H
noncomputable def spMFul : Sp := fun vs H Q _ => ∃ A n m S se a w, ∃ d p : Nat, vs = [.ref (A .town), .int d, .ref a] ∧ MirAt H A n m S se ∧ d < n ∧ H a = some (.tup (W.vs w)) ∧ w.pg = (p : Int) ∧ p < m ∧ S.row.length ≤ 1000000 ∧
  ∀ H', MirAt H' A n m { S with ds := setf S.ds d ((S.ds d).done w), row := addRow S.row d [(w.isPut, w.pg, (S.ds d).num w)] } se → MrF H H' A n m → Q (.int ((S.ds d).num w)) H'
noncomputable def spMDn : Sp := fun vs H Q _ => ∃ A n m S se l r, ∃ d p : Nat, vs = [.ref (A .town), .int d] ∧ MirAt H A n m S se ∧ d < n ∧ S.dn d = l :: r ∧ l.pg = (p : Int) ∧ p < m ∧ l.nice ∧ (∀ w, (S.ds d).ws = some w → ∃ q : Nat, q < m ∧ w.pg = (q : Int)) ∧ S.row.length ≤ 1000000 ∧ (S.up d).length ≤ 1000000 ∧
  ∀ b H', MirAt H' A n m (S.doDn d l r) se → MrF H H' A n m → H' b = some (.tup l.vs) → Q (.ref b) H'
theorem DS.hold_self (S : DS) (p : Int) (r : Rt) (h : S.rt p = r) : S.hold p r (S.nm p) = S := by
  unfold DS.hold
  cases S
  congr
  · funext q; dsimp only at h ⊢; split <;> simp_all
  · funext q; dsimp only at h ⊢; split <;> simp_all
theorem let_cons {H : Hp} {vs : List V} {l : Let} {r : List Let} (h : RepL H vs ((l :: r).map Let.d)) : ∃ b us, vs = .ref b :: us ∧ H b = some (.tup l.vs) ∧ RepL H us (r.map Let.d) := by
  rw [List.map_cons] at h
  obtain ⟨v, us, e, rv, rl⟩ := RepL.cons_inv h
  cases l with
  | lend p x k =>
    simp only [Let.d, Rep, RepL] at rv
    obtain ⟨b, xs, rfl, hb, _, _, rfl, rfl, _, _, rfl, rfl, _, _, rfl, rfl, _, _, rfl, rfl, rfl⟩ := rv
    exact ⟨b, us, e, hb, rl⟩
  | back p x =>
    simp only [Let.d, Rep, RepL] at rv
    obtain ⟨b, xs, rfl, hb, _, _, rfl, rfl, _, _, rfl, rfl, _, _, rfl, rfl, rfl⟩ := rv
    exact ⟨b, us, e, hb, rl⟩
theorem W.at0' (w : W) : atI w.vs 0 = some (.str w.tag) := by cases w <;> rfl
theorem W.at1' (w : W) : atI w.vs 1 = some (.int w.pg) := by cases w <;> rfl
theorem DS.done_rt' (S : DS) (w : W) (q : Int) : (S.done w).rt q = S.rt q := by
  cases w with
  | look p => rfl
  | put p n => show (if q = p then S.rt p else S.rt q) = S.rt q; split <;> simp_all
theorem DS.done_nm' (S : DS) (w : W) : (S.done w).nm w.pg = S.num w := by
  cases w with
  | look p => rfl
  | put p n => show (if p = p then n else S.nm p) = n; rw [if_pos rfl]
section
variable {P : Program} {w : World} {K : PySem.W.Frag} {mg : Str → Option Value} {base : Heap} {t : Adr}
theorem ok_l_enough (T : Txt K w mg t) : FnOk P w K mg base CX0 1 t.f_l_enough t.fd_l_enough ["_law_right", "_law_wish"] spEn := by
  refine T.F_l_enough.ok sc_l_enough (fun vs H Q E h => ?_) (fun cdv A outer s H vs Q E hr h => ?_)
  · obtain ⟨r, a, w, rfl, _⟩ := h; rfl
  · obtain ⟨r, a, w, rfl, ha, k⟩ := h
    refine ⟨_, (pss_one (ps_ret (pe_or (pe_cmpR op_eq (pv 0) pe_str (nomark _)) (pe_one (pe_and (pe_cmpR op_eq (pv 0) pe_str (nomark _)) (pe_one (pe_cmpR op_eq (pe_ix ix_tup (pv 1) pe_int (fun _ _ => rfl)) pe_str (nomark _)))))))), ?_⟩
    try dsimp only [cxOf, Cx.nox]
    refine ⟨_, rfl, rfl, _, rfl, ?_⟩
    cases r with
    | wr =>
      refine iteTb vs_eq ?_
      cases w <;> exact k
    | rd =>
      refine iteFb (rt_ne (x := "write") (q := .wr) rfl (by intro z; cases z)) ?_
      refine ⟨_, rfl, rfl, _, rfl, ?_⟩
      refine iteTb vs_eq ?_
      refine zt rfl (SqT.of ha) (W.at0' w) ⟨rfl, ?_⟩
      cases w with
      | look p => exact k
      | put p n =>
        have e : decide (V.str (W.put p n).tag = V.str "look") = false := vs_ne (show ("put" : Str) ≠ "look" by decide +kernel)
        rw [e]; exact k
    | no =>
      refine iteFb (rt_ne (x := "write") (q := .wr) rfl (by intro z; cases z)) ?_
      refine ⟨_, rfl, rfl, _, rfl, ?_⟩
      refine iteFb (rt_ne (x := "read") (q := .rd) rfl (by intro z; cases z)) ?_
      cases w <;> exact k
theorem ok_l_fulfilled (T : Txt K w mg t) : FnOk P w K mg base CX0 1 t.f_l_fulfilled t.fd_l_fulfilled ["_law_town", "_law_desk", "_law_wish"] spMFul := by
  refine T.F_l_fulfilled.ok sc_l_fulfilled (fun vs H Q E h => ?_) (fun cdv A outer s H vs Q E hr h => ?_)
  · obtain ⟨A, n, m, S, se, a, w, d, p, rfl, _⟩ := h; rfl
  · obtain ⟨A, n, m, S, se, a, w, d, p, rfl, M, hd, ha, hpg, hp, hrl, k⟩ := h
    have hu := hu_of hr
    have sl : sizeLine = 16777216 := by decide
    refine ⟨_, (pss_cons (ps_if (pt_cmpR op_eq (pe_ix ix_tup (pv 2) pe_int (fun _ _ => rfl)) pe_str (nomark _)) (pss_one (ps_asg (pe_ix ix_tup (pv 2) pe_int (fun _ _ => rfl)) (pg_sub (pe_ix ix_list (pe_dget hu (pv 0) pe_str (fun _ _ => rfl)) (pv 1) (fun _ _ => rfl)) (pe_ix ix_tup (pv 2) pe_int (fun _ _ => rfl)) set_list))) pss_nil)
      (pss_cons (ps_set (i := 3) sc_l_fulfilled.nd rfl (Or.inl rfl) (pe_ix ix_list (pe_ix ix_list (pe_dget hu (pv 0) pe_str (fun _ _ => rfl)) (pv 1) (fun _ _ => rfl)) (pe_ix ix_tup (pv 2) pe_int (fun _ _ => rfl)) (fun _ _ => rfl)))
      (pss_cons (ps_expr (pe_bm PySem.F.plainAttrs_list PySem.F.slot_list_append PySem.F.type_list_append mt_append (pe_dget hu (pv 0) pe_str (fun _ _ => rfl)) (pa_cons (pe_tup (pa_cons (pe_ix ix_tup (pv 2) pe_int (fun _ _ => rfl)) (pa_cons (pv 1) (pa_cons (pe_ix ix_tup (pv 2) pe_int (fun _ _ => rfl)) (pa_cons (pv 3) pa_nil))))) pa_nil)))
      (pss_one (ps_ret (pv 3)))))), ?_⟩
    try dsimp only [cxOf, Cx.nox]
    show let Z1 : L2.TS := _; let Z2 : L2.TS := tIfS _ Z1 tNext; let Z3 : L2.TS := _; let Z4 : L2.TS := _; let Z5 : L2.TS := _; let D0 : Ends := _; (tSeq Z2 (tSeq Z3 (tSeq Z4 (Z5)))) D0 _ _
    intro Z1 Z2 Z3 Z4 Z5 D0
    try dsimp only [tNext]
    refine seq_via (fun σ' H' => σ' = [some (.ref (A .town)), some (.int d), some (.ref a), none] ∧ MirAt H' A n m { S with ds := setf S.ds d ((S.ds d).done w) } se ∧ MrF H H' A n m ∧ H' a = some (.tup w.vs)) (fun N hN => ?_) ?_
    · refine zt rfl (SqT.of ha) (W.at0' w) ⟨rfl, _, rfl, ?_⟩
      cases w with
      | look q =>
        refine iteFb (vs_ne (show ("look" : Str) ≠ "put" by decide +kernel)) ?_
        refine hN _ _ ⟨rfl, ?_, MrF.refl _ _ _ _, ha⟩
        have : ({ S with ds := setf S.ds d ((S.ds d).done (.look q)) } : TS) = S := by show ({ S with ds := setf S.ds d (S.ds d) } : TS) = S; rw [setf_eq]
        rw [this]; exact M
      | put q x =>
        have hq : q = (p : Int) := hpg
        subst hq
        refine iteTb vs_eq ?_
        have hcp := M.cp hd
        refine zt rfl (SqT.of ha) rfl (zdl rfl (dget M.town tkv_copies) rfl (SqL.of M.copies) (range_at hd) (zt rfl (SqT.of ha) rfl ⟨A (.cp d), _, _, p, rfl, rfl, hcp, ixN_nat (by simpa using hp), ?_⟩))
        obtain ⟨M1, f1⟩ := M.wrCp hd (D' := (S.ds d).done (.put p x)) (by funext q; exact DS.done_rt' _ _ _) rfl
        have e : ((List.range m).map fun q : Nat => V.int ((S.ds d).nm q)).set p (.int x) = (List.range m).map fun q : Nat => V.int (((S.ds d).done (.put p x)).nm q) := by
          refine range_set hp ?_ fun q hq => ?_
          · show V.int (if (p : Int) = p then x else _) = _; rw [if_pos rfl]
          · show V.int (if (q : Int) = p then x else _) = _; rw [if_neg (by lia)]
        rw [e]
        exact hN _ _ ⟨rfl, M1, f1, (f1.tups M) a _ ha⟩
    · rintro σ' H1 ⟨rfl, M1, f1, ha1⟩
      have hcp := M1.cp hd
      simp only [setf_same] at hcp
      have hnum : ((S.ds d).done w).nm (p : Int) = (S.ds d).num w := by rw [← hpg]; exact DS.done_nm' _ _
      refine zdl rfl (dget M1.town tkv_copies) rfl (SqL.of M1.copies) (range_at hd) (zt rfl (SqT.of ha1) (W.at1' w) ⟨A (.cp d), _, p, .int ((S.ds d).num w), rfl, by rw [hpg], SqL.of hcp, ?_, ?_⟩)
      · rw [range_at hp, hnum]
      obtain ⟨rv, r1, r2⟩ := M1.row
      have hrvl : rv.length < sizeLine := by rw [r2.length, List.length_map]; show S.row.length < _; lia
      refine zd rfl (dget M1.town tkv_row) ⟨.inl ⟨rfl, _, SqL.of r1⟩, zt rfl (SqT.of ha1) (W.at0' w) ⟨_, rfl, zt rfl (SqT.of ha1) (W.at1' w) ⟨_, rfl, (by show 4 ≤ sizeLine; decide), fun b hb => ?_⟩⟩⟩
      have s2 := same_new (o := .tup [.str w.tag, .int d, .int w.pg, .int ((S.ds d).num w)]) hb
      refine ⟨A .row, rv, _, rfl, rfl, s2 _ _ r1, hrvl, ?_⟩
      have rp : RepL (upd H1 b (.tup [.str w.tag, .int d, .int w.pg, .int ((S.ds d).num w)])) (rv ++ [.ref b]) ((addRow S.row d [(w.isPut, w.pg, (S.ds d).num w)]).map RE.d) := by
        unfold addRow
        rw [List.map_append]
        refine RepL.snoc (r2.tmono (same_tup s2) (flats_map RE.flat _)) ?_
        simp only [RE.d, Rep, RepL, ← W.tag_ev]
        exact ⟨b, _, rfl, upd_same, _, _, rfl, rfl, _, _, rfl, rfl, _, _, rfl, rfl, _, _, rfl, rfl, rfl⟩
      obtain ⟨M3, f3⟩ := (M1.same s2).wrRow rp
      exact ⟨_, rfl, k _ M3 ((f1.trans (MrF.of_same (A := A) s2) (Mv.refl _ _ _ _)).trans f3 (Mv.refl _ _ _ _))⟩
theorem ok_l_came_down (T : Txt K w mg t) : FnOk P w K mg base CX0 2 t.f_l_came_down t.fd_l_came_down ["_law_town", "_law_desk"] spMDn := by
  refine T.F_l_came_down.ok sc_l_came_down (fun vs H Q E h => ?_) (fun cdv A outer s H vs Q E hr h => ?_)
  · obtain ⟨A, n, m, S, se, l, r, d, p, rfl, _⟩ := h; rfl
  · obtain ⟨A, n, m, S, se, l, r, d, p, rfl, M, hd, hdn, hlp, hp, hni, hws, hrl, hul, k⟩ := h
    have hu := hu_of hr
    have sl : sizeLine = 16777216 := by decide
    refine ⟨_, (pss_cons (ps_set (i := 2) sc_l_came_down.nd rfl (Or.inl rfl) (pe_bm PySem.F.plainAttrs_list PySem.F.slot_list_pop PySem.F.type_list_pop mt_popAt (pe_ix ix_list (pe_dget hu (pv 0) pe_str (fun _ _ => rfl)) (pv 1) (fun _ _ => rfl)) (pa_cons pe_int pa_nil)))
      (pss_cons (ps_set (i := 3) sc_l_came_down.nd rfl (Or.inl rfl) (pe_ix ix_tup (pv 2) pe_int (fun _ _ => rfl)))
      (pss_cons (ps_set (i := 4) sc_l_came_down.nd rfl (Or.inl rfl) (pe_ix ix_list (pe_ix ix_list (pe_dget hu (pv 0) pe_str (fun _ _ => rfl)) (pv 1) (fun _ _ => rfl)) (pv 3) (fun _ _ => rfl)))
      (pss_cons (ps_if (pt_cmpR op_eq (pe_ix ix_tup (pv 2) pe_int (fun _ _ => rfl)) pe_str (nomark _)) (pss_cons (ps_asg (pe_ix ix_tup (pv 2) pe_int (fun _ _ => rfl)) (pg_sub (pe_ix ix_list (pe_dget hu (pv 0) pe_str (fun _ _ => rfl)) (pv 1) (fun _ _ => rfl)) (pv 3) set_list))
      (pss_cons (ps_asg (pe_ix ix_tup (pv 2) pe_int (fun _ _ => rfl)) (pg_sub (pe_ix ix_list (pe_dget hu (pv 0) pe_str (fun _ _ => rfl)) (pv 1) (fun _ _ => rfl)) (pv 3) set_list))
      (pss_cons (ps_set (i := 5) sc_l_came_down.nd rfl (Or.inl rfl) (pe_ix ix_list (pe_dget hu (pv 0) pe_str (fun _ _ => rfl)) (pv 1) (fun _ _ => rfl)))
      (pss_cons (ps_if (PW.pt (pw_and (pt_cmp (pc_notN (pv 5))) (pw_and (pt_cmpR op_eq (pe_ix ix_tup (pv 5) pe_int (fun _ _ => rfl)) (pv 3) (nomark _)) (pw_and1 (pt_val (pe_call (ok_l_enough T) (hr.mono (by decide) : Room 1 _) (by rfl) T.m_l_enough T.F_l_enough.kp T.b_l_enough .nil pass0 (pa_cons (pe_ix ix_tup (pv 2) pe_int (fun _ _ => rfl)) (pa_cons (pv 5) pa_nil)))))))) (pss_cons (ps_asg pe_non (pg_sub (pe_dget hu (pv 0) pe_str (fun _ _ => rfl)) (pv 1) set_list))
      (pss_one (ps_expr (pe_call (ok_l_fulfilled T) (hr.mono (by decide) : Room 1 _) (by rfl) T.m_l_fulfilled T.F_l_fulfilled.kp T.b_l_fulfilled .nil pass0 (pa_cons (pv 0) (pa_cons (pv 1) (pa_cons (pv 5) pa_nil))))))) pss_nil)
      (pss_one (ps_ret (pv 2))))))) pss_nil)
      (pss_cons (ps_set (i := 6) sc_l_came_down.nd rfl (Or.inl rfl) pe_non)
      (pss_cons (ps_if (pt_cmpR op_eq (pv 4) pe_str (nomark _)) (pss_one (ps_set (i := 6) sc_l_came_down.nd rfl (Or.inl rfl) (pe_ix ix_list (pe_ix ix_list (pe_dget hu (pv 0) pe_str (fun _ _ => rfl)) (pv 1) (fun _ _ => rfl)) (pv 3) (fun _ _ => rfl)))) pss_nil)
      (pss_cons (ps_if (PW.pt (pw_or (pt_cmpR op_eq (pv 4) pe_str (nomark _)) (pw_or1 (pt_cmpR op_eq (pe_ix ix_tup (pv 2) pe_int (fun _ _ => rfl)) pe_str (nomark _))))) (pss_one (ps_asg (pe_ix ix_tup (pv 2) pe_int (fun _ _ => rfl)) (pg_sub (pe_ix ix_list (pe_dget hu (pv 0) pe_str (fun _ _ => rfl)) (pv 1) (fun _ _ => rfl)) (pv 3) set_list))) pss_nil)
      (pss_cons (ps_expr (pe_bm PySem.F.plainAttrs_list PySem.F.slot_list_append PySem.F.type_list_append mt_append (pe_ix ix_list (pe_dget hu (pv 0) pe_str (fun _ _ => rfl)) (pv 1) (fun _ _ => rfl)) (pa_cons (pe_tup (pa_cons pe_str (pa_cons (pv 3) (pa_cons (pv 6) pa_nil)))) pa_nil)))
      (pss_one (ps_ret (pv 2))))))))))), ?_⟩
    try dsimp only [cxOf, Cx.nox]
    show let Z1 : L2.TS := _; let Z2 : L2.TS := _; let Z3 : L2.TS := _; let Z4 : L2.TS := _; let Z5 : L2.TS := _; let Z6 : L2.TS := _; let Z7 : L2.TS := _; let Z8 : L2.TS := _; let Z9 : L2.TS := tSeq Z7 (Z8); let Z10 : L2.TS := tIfS _ Z9 tNext; let Z11 : L2.TS := _; let Z12 : L2.TS := tSeq Z4 (tSeq Z5 (tSeq Z6 (tSeq Z10 (Z11)))); let Z13 : L2.TS := tIfS _ Z12 tNext; let Z14 : L2.TS := _; let Z15 : L2.TS := _; let Z16 : L2.TS := tIfS _ Z15 tNext; let Z17 : L2.TS := _; let Z18 : L2.TS := tIfS _ Z17 tNext; let Z19 : L2.TS := _; let Z20 : L2.TS := _; let D0 : Ends := _; (tSeq Z1 (tSeq Z2 (tSeq Z3 (tSeq Z13 (tSeq Z14 (tSeq Z16 (tSeq Z18 (tSeq Z19 (Z20))))))))) D0 _ _
    intro Z1 Z2 Z3 Z4 Z5 Z6 Z7 Z8 Z9 Z10 Z11 Z12 Z13 Z14 Z15 Z16 Z17 Z18 Z19 Z20 D0
    obtain ⟨dv, d1, d2⟩ := M.dn hd
    rw [hdn] at d2
    obtain ⟨b, us, rfl, hb, d3⟩ := let_cons d2
    refine zdl rfl (dget M.town tkv_downs) rfl (SqL.of M.downs) (range_at hd) ⟨.inl ⟨rfl, _, SqL.of d1⟩, A (.dn d), _, 0, 0, _, rfl, rfl, d1, (by decide), (by decide), six0 _ _, rfl, ?_⟩
    rw [List.eraseIdx_cons_zero]
    obtain ⟨M1, f1⟩ := M.wrDn hd d3
    have hb1 := (f1.tups M) b _ hb
    generalize upd H (A (.dn d)) (.lst us) = H1 at M1 f1 hb1
    generalize hS1 : ({ S with dn := setf S.dn d r } : TS) = S1 at M1
    have hds : S1.ds = S.ds := by rw [← hS1]
    have hupe : S1.up = S.up := by rw [← hS1]
    have hrw : S1.row = S.row := by rw [← hS1]
    have hl1 : atI l.vs 1 = some (.int p) := by cases l <;> exact congrArg (fun z => some (V.int z)) hlp
    have hrt := M1.rt hd
    rw [hds] at hrt
    refine zt rfl (SqT.of hb1) hl1 ?_
    refine zdl rfl (dget M1.town tkv_rights) rfl (SqL.of M1.rights) (range_at hd) (zl rfl (SqL.of hrt) (range_at hp) ?_)
    cases l with
    | lend q x y =>
      have hq : q = (p : Int) := hlp
      subst hq
      have hx : x = .rd ∨ x = .wr := hni
      refine zt rfl (SqT.of hb1) rfl ⟨rfl, _, rfl, ?_⟩
      refine iteTb vs_eq ?_
      refine zt rfl (SqT.of hb1) rfl (zdl rfl (dget M1.town tkv_rights) rfl (SqL.of M1.rights) (range_at hd) ⟨_, rfl, A (.rt d), _, _, p, rfl, rfl, hrt, ixN_nat (by simpa using hp), ?_⟩)
      have e1 : ((List.range m).map fun q : Nat => V.str ((S.ds d).rt q).s).set p (.str x.s) = (List.range m).map fun q : Nat => V.str (({ S.ds d with rt := ((S.ds d).hold p x y).rt } : DS).rt q).s := by
        refine range_set hp ?_ fun q hq => ?_
        · show V.str (if (p : Int) = p then x else _).s = _; rw [if_pos rfl]
        · show V.str (if (q : Int) = p then x else _).s = _; rw [if_neg (by lia)]
      rw [e1]
      obtain ⟨M2, f2⟩ := M1.wrRt hd (D' := { S.ds d with rt := ((S.ds d).hold p x y).rt }) (by rw [hds]) (by rw [hds])
      have hb2 := (f2.tups M1) b _ hb1
      have f12 := f1.trans f2 (Mv.refl _ _ _ _)
      generalize upd H1 (A (.rt d)) (.lst ((List.range m).map fun q : Nat => V.str (({ S.ds d with rt := ((S.ds d).hold p x y).rt } : DS).rt q).s)) = H2 at M2 f2 hb2 f12
      have hcp := M2.cp hd
      simp only [setf_same] at hcp
      refine zt rfl (SqT.of hb2) rfl (zdl rfl (dget M2.town tkv_copies) rfl (SqL.of M2.copies) (range_at hd) ⟨_, rfl, A (.cp d), _, _, p, rfl, rfl, hcp, ixN_nat (by simpa using hp), ?_⟩)
      have e2 : ((List.range m).map fun q : Nat => V.int ((S.ds d).nm q)).set p (.int y) = (List.range m).map fun q : Nat => V.int (((S.ds d).hold p x y).nm q) := by
        refine range_set hp ?_ fun q hq => ?_
        · show V.int (if (p : Int) = p then y else _) = _; rw [if_pos rfl]
        · show V.int (if (q : Int) = p then y else _) = _; rw [if_neg (by lia)]
      dsimp only
      rw [e2]
      obtain ⟨M3, f3⟩ := M2.wrCp hd (D' := (S.ds d).hold p x y) (by simp only [setf_same]) (by simp only [setf_same]; rfl)
      simp only [setf_setf, hds] at M3
      have hb3 := (f3.tups M2) b _ hb2
      have f13 := f12.trans f3 (Mv.refl _ _ _ _)
      generalize upd H2 (A (.cp d)) (.lst ((List.range m).map fun q : Nat => V.int (((S.ds d).hold p x y).nm q))) = H3 at M3 f3 hb3 f13
      generalize hS3 : ({ S1 with ds := setf S.ds d ((S.ds d).hold p x y) } : TS) = S3 at M3
      have hd3 : S3.ds d = (S.ds d).hold p x y := by rw [← hS3]; exact setf_same _ _ _
      obtain ⟨wv, w1, w2, w3⟩ := M3.wishes
      obtain ⟨v, v1, v2⟩ := w3 d hd
      rw [hd3, DS.hold_ws] at v2
      have hfin : S.doDn d (.lend p x y) r = { S3 with ds := setf S3.ds d ((S.ds d).loanR p x y).1, up := S.up, row := addRow S.row d ((S.ds d).loanR p x y).2 } := by
        rw [← hS3, ← hS1]
        simp only [TS.doDn, TS.desk, DS.takeR, setf_setf, List.append_nil, setf_eq]
      refine zdl rfl (dget M3.town tkv_wishes) rfl (SqL.of w1) (atI_nat v1) ?_
      have none_ : ((S.ds d).loanR p x y) = ((S.ds d).hold p x y, []) → MirAt H3 A n m (S.doDn d (.lend p x y) r) se := fun e => by
        rw [hfin, e]
        have : ({ S3 with ds := setf S3.ds d ((S.ds d).hold p x y), up := S.up, row := addRow S.row d [] } : TS) = S3 := by
          rw [← hd3, setf_eq, ← hS3, ← hS1]; unfold addRow; simp
        rw [this]; exact M3
      cases hw : (S.ds d).ws with
      | none =>
        rw [hw] at v2
        have ev : v = .non := v2
        subst ev
        refine ⟨_, rfl, _, rfl, ?_⟩
        refine iteFb rfl (iteF ?_)
        exact ⟨_, rfl, k b H3 (none_ (by unfold DS.loanR; rw [hw])) f13 hb3⟩
      | some w =>
        rw [hw] at v2
        obtain ⟨wa, ev, hwa⟩ := v2
        subst ev
        obtain ⟨q, hqm, hqp⟩ := hws w hw
        refine ⟨_, rfl, _, rfl, ?_⟩
        refine iteTb rfl ?_
        refine zt rfl (SqT.of hwa) (W.at1' w) ⟨_, rfl, rfl, _, rfl, ?_⟩
        by_cases epg : w.pg = (p : Int)
        · refine iteTb (decide_eq_true (by rw [epg])) ?_
          refine zt rfl (SqT.of hb3) rfl ⟨_, rfl, x, wa, w, rfl, hwa, _, rfl, ?_⟩
          have hokx : ((S.ds d).hold p x y).ok w ↔ w.need.k ≤ x.k := by unfold DS.ok; rw [epg, DS.hold_rt]
          by_cases hok : w.need.k ≤ x.k
          · refine iteTb (decide_eq_true hok) ?_
            refine zd rfl (dget M3.town tkv_wishes) ⟨_, rfl, A .wishes, _, _, d, rfl, rfl, w1, by rw [w2]; exact ixN_nat hd, ?_⟩
            obtain ⟨M4, f4⟩ := M3.wrWish hd (v := .non) (o := none) w1 rfl
            rw [hd3] at M4
            have hwa4 := (f4.tups M3) wa _ hwa
            have hb4 := (f4.tups M3) b _ hb3
            refine ⟨_, rfl, _, rfl, _, rfl, A, n, m, _, se, wa, w, d, p, rfl, M4, hd, hwa4, epg, hp, ?_, fun H5 M5 f5 => ?_⟩
            · show S3.row.length ≤ _; rw [← hS3]; show S1.row.length ≤ _; rw [hrw]; exact hrl
            · refine ⟨_, rfl, k b H5 ?_ ((f13.trans f4 (Mv.refl _ _ _ _)).trans f5 (Mv.refl _ _ _ _)) ((f5.tups M4) b _ hb4)⟩
              have el : (S.ds d).loanR p x y = (({ (S.ds d).hold p x y with ws := none } : DS).done w, [(w.isPut, w.pg, ((S.ds d).hold p x y).num w)]) := by
                unfold DS.loanR; rw [hw]; dsimp only; rw [if_pos ⟨epg, hokx.mpr hok⟩]
              rw [hfin, el]
              simp only [setf_same, setf_setf] at M5
              have en : ({ (S.ds d).hold p x y with ws := none } : DS).num w = ((S.ds d).hold p x y).num w := by cases w <;> rfl
              have er : S3.row = S.row := by rw [← hS3]; exact hrw
              have eu : S3.up = S.up := by rw [← hS3]; exact hupe
              rw [en, er] at M5
              have : ({ S3 with ds := setf S3.ds d (({ (S.ds d).hold p x y with ws := none } : DS).done w), up := S.up, row := addRow S.row d [(w.isPut, w.pg, ((S.ds d).hold p x y).num w)] } : TS) = { S3 with ds := setf S3.ds d (({ (S.ds d).hold p x y with ws := none } : DS).done w), row := addRow S.row d [(w.isPut, w.pg, ((S.ds d).hold p x y).num w)] } := by rw [← eu]
              rw [this]
              exact M5
          · refine iteFb (decide_eq_false hok) ?_
            exact ⟨_, rfl, k b H3 (none_ (by unfold DS.loanR; rw [hw]; dsimp only; rw [if_neg fun z => hok (hokx.mp z.2)])) f13 hb3⟩
        · refine iteFb (decide_eq_false fun z => epg (V.int.inj z)) (iteF ?_)
          exact ⟨_, rfl, k b H3 (none_ (by unfold DS.loanR; rw [hw]; dsimp only; rw [if_neg fun z => epg z.1])) f13 hb3⟩
    | back q x =>
      have hq : q = (p : Int) := hlp
      subst hq
      have hx : x = .rd ∨ x = .no := hni
      refine zt rfl (SqT.of hb1) rfl ⟨rfl, _, rfl, ?_⟩
      refine iteFb (vs_ne (by decide +kernel)) ?_
      try dsimp only [tNext]
      refine seq_via (fun σ' H' => σ' = [some (.ref (A .town)), some (.int d), some (.ref b), some (.int p), some (.str ((S.ds d).rt p).s), none, some .non] ∧ H' = H1) (fun N hN => hN _ _ ⟨rfl, rfl⟩) ?_
      rintro σ' H1' ⟨rfl, rfl⟩
      try dsimp only [tNext]
      refine seq_via (fun σ' H' => σ' = [some (.ref (A .town)), some (.int d), some (.ref b), some (.int p), some (.str ((S.ds d).rt p).s), none, some (oV ((S.ds d).tellO p))] ∧ H' = H1') (fun N hN => ?_) ?_
      · refine ⟨_, rfl, rfl, _, rfl, ?_⟩
        by_cases e : (S.ds d).rt p = .wr
        · refine iteTb (by rw [e]; exact vs_eq) ?_
          have hcp := M1.cp hd
          rw [hds] at hcp
          refine zdl rfl (dget M1.town tkv_copies) rfl (SqL.of M1.copies) (range_at hd) (zl rfl (SqL.of hcp) (range_at hp) ?_)
          refine hN _ _ ⟨?_, rfl⟩
          unfold DS.tellO
          rw [if_pos e]; rfl
        · refine iteFb (rt_ne (x := "write") (q := .wr) rfl e) ?_
          refine hN _ _ ⟨?_, rfl⟩
          unfold DS.tellO
          rw [if_neg e]; rfl
      · rintro σ' H1'' ⟨rfl, rfl⟩
        try dsimp only [tNext]
        refine seq_via (fun σ' H' => σ' = [some (.ref (A .town)), some (.int d), some (.ref b), some (.int p), some (.str ((S.ds d).rt p).s), none, some (oV ((S.ds d).tellO p))] ∧ MirAt H' A n m { S1 with ds := setf S1.ds d ((S.ds d).down p x) } se ∧ MrF H H' A n m ∧ H' b = some (.tup (Let.back p x).vs)) (fun N hN => ?_) ?_
        · have setit : ∀ D', D' = (S.ds d).hold p x ((S.ds d).nm p) → D' = (S.ds d).down p x →
              (tAsg (tOp (rIxT K) (tVar 2) (tC (.int 2))) (gSub (tOp (rIxL K) (tDGet (tVar 0) (tC (.str "rights"))) (tVar 1)) (tVar 3) rSetL)) { nx := N, rt := Q } [some (.ref (A .town)), some (.int d), some (.ref b), some (.int p), some (.str ((S.ds d).rt p).s), none, some (oV ((S.ds d).tellO p))] H1'' := fun D' eD eD2 => by
            refine zt rfl (SqT.of hb1) rfl (zdl rfl (dget M1.town tkv_rights) rfl (SqL.of M1.rights) (range_at hd) ⟨_, rfl, A (.rt d), _, _, p, rfl, rfl, hrt, ixN_nat (by simpa using hp), ?_⟩)
            have e1 : ((List.range m).map fun q : Nat => V.str ((S.ds d).rt q).s).set p (.str x.s) = (List.range m).map fun q : Nat => V.str (D'.rt q).s := by
              rw [eD]
              refine range_set hp ?_ fun q hq => ?_
              · show V.str (if (p : Int) = p then x else _).s = _; rw [if_pos rfl]
              · show V.str (if (q : Int) = p then x else _).s = _; rw [if_neg (by lia)]
            rw [e1]
            have enm : D'.nm = (S1.ds d).nm := by rw [eD, hds]; funext q; show (if q = (p : Int) then (S.ds d).nm p else (S.ds d).nm q) = _; split <;> simp_all
            have ews : D'.ws = (S1.ds d).ws := by rw [eD, hds]; rfl
            obtain ⟨M2, f2⟩ := M1.wrRt hd (D' := D') enm ews
            exact hN _ _ ⟨rfl, by rw [← eD2]; exact M2, f1.trans f2 (Mv.refl _ _ _ _), (f2.tups M1) b _ hb1⟩
          have stay : (S.ds d).down p x = S.ds d → N [some (.ref (A .town)), some (.int d), some (.ref b), some (.int p), some (.str ((S.ds d).rt p).s), none, some (oV ((S.ds d).tellO p))] H1'' := fun e => by
            refine hN _ _ ⟨rfl, ?_, f1, hb1⟩
            have : ({ S1 with ds := setf S1.ds d ((S.ds d).down p x) } : TS) = S1 := by rw [e, ← hds, setf_eq]
            rw [this]; exact M1
          refine ⟨_, rfl, rfl, _, rfl, ?_⟩
          cases hrp : (S.ds d).rt p with
          | wr =>
            refine iteTb vs_eq (iteT ?_)
            rw [hrp] at setit
            refine setit _ rfl ?_
            unfold DS.down
            rw [hrp, if_neg (by rcases hx with z | z <;> rw [z] <;> decide)]
          | rd =>
            refine iteFb (rt_ne (x := "write") (q := .wr) rfl (by intro z; cases z)) ?_
            refine zt rfl (SqT.of hb1) rfl ⟨rfl, _, rfl, ?_⟩
            rw [hrp] at setit stay
            rcases hx with z | z
            · subst z
              refine iteFb (rt_ne (x := "none") (q := .no) rfl (by intro z; cases z)) ?_
              exact stay (by unfold DS.down; rw [hrp, if_pos (by decide)])
            · subst z
              refine iteTb vs_eq ?_
              exact setit _ rfl (by unfold DS.down; rw [hrp, if_neg (by decide)])
          | no =>
            refine iteFb (rt_ne (x := "write") (q := .wr) rfl (by intro z; cases z)) ?_
            refine zt rfl (SqT.of hb1) rfl ⟨rfl, _, rfl, ?_⟩
            rw [hrp] at setit stay
            rcases hx with z | z
            · subst z
              refine iteFb (rt_ne (x := "none") (q := .no) rfl (by intro z; cases z)) ?_
              exact stay (by unfold DS.down; rw [hrp, if_pos (by decide)])
            · subst z
              refine iteTb vs_eq ?_
              have e0 : (S.ds d).down p .no = S.ds d := by unfold DS.down; rw [hrp, if_pos (by decide)]
              exact setit _ rfl (by rw [e0]; exact DS.hold_self _ _ _ hrp)
        · rintro σ' H2 ⟨rfl, M2, f2, hb2⟩
          obtain ⟨uv, u1, u2⟩ := M2.up hd
          have hul2 : uv.length < sizeLine := by rw [u2.length, List.length_map]; show (S1.up d).length < _; rw [hupe]; lia
          refine zdl rfl (dget M2.town tkv_ups) rfl (SqL.of M2.ups) (range_at hd) ⟨.inl ⟨rfl, _, SqL.of u1⟩, _, rfl, _, rfl, (by show 3 ≤ sizeLine; decide), fun c hc => ?_⟩
          have s3 := same_new (o := .tup [.str "answer", .int p, oV ((S.ds d).tellO p)]) hc
          refine ⟨A (.up d), uv, _, rfl, rfl, s3 _ _ u1, hul2, ?_⟩
          have rp : RepL (upd H2 c (.tup [.str "answer", .int p, oV ((S.ds d).tellO p)])) (uv ++ [.ref c]) ((S1.up d ++ [UL.ans p ((S.ds d).tellO p)]).map UL.d) := by
            rw [List.map_append]
            exact RepL.snoc (u2.tmono (same_tup s3) (flats_map UL.flat _)) (ul_rep (l := .ans p ((S.ds d).tellO p)) upd_same)
          obtain ⟨M4, f4⟩ := (M2.same s3).wrUp hd rp
          refine ⟨_, rfl, k b _ ?_ ((f2.trans (MrF.of_same (A := A) s3) (Mv.refl _ _ _ _)).trans f4 (Mv.refl _ _ _ _)) ((f4.tups (M2.same s3)) b _ (s3 _ _ hb2))⟩
          have : S.doDn d (.back p x) r = { S1 with ds := setf S1.ds d ((S.ds d).down p x), up := setf S1.up d (S1.up d ++ [UL.ans p ((S.ds d).tellO p)]) } := by
            rw [← hS1]
            simp only [TS.doDn, TS.desk, DS.takeR, Int.toNat_natCast, addRow]
            simp
          rw [this]
          exact M4
end
end K07
namespace K07
open PySem L2
noncomputable def Deed.dk : Deed → Int
  | .look d _ => d
  | .put d _ _ => d
  | .rest d _ => d
  | .up d => d
  | .down d => d
noncomputable def Deed.tag : Deed → Str
  | .look _ _ => "look"
  | .put _ _ _ => "put"
  | .rest _ _ => "rest"
  | .up _ => "up"
  | .down _ => "down"
theorem Deed.at0 (x : Deed) : atI x.vs 0 = some (.str x.tag) := by cases x <;> rfl
theorem Deed.at1 (x : Deed) : atI x.vs 1 = some (.int x.dk) := by cases x <;> rfl
noncomputable def refW (n m : Nat) (S : TS) (x : Deed) : Str := if inR x.dk n then (match x with
  | .up d => bif (S.up d.toNat).isEmpty then "no letter" else ""
  | .down d => bif (S.dn d.toNat).isEmpty then "no letter" else ""
  | .rest d p => if inR p m then (bif decide ((S.ds d.toNat).rt p = .no) then "no copy" else "") else "no page"
  | .look d p => if inR p m then (bif (S.ds d.toNat).ws.isSome then "waiting" else "") else "no page"
  | .put d p _ => if inR p m then (bif (S.ds d.toNat).ws.isSome then "waiting" else "") else "no page") else "no desk"
theorem pick2s {x y : Str} {c : Bool} : atI [V.str x, V.str y] (if c then 1 else 0) = some (.str (bif c then y else x)) := by cases c <;> rfl
noncomputable def spRef : Sp := fun vs H Q _ => ∃ A n m S se a x, vs = [.ref (A .town), .ref a] ∧ MirAt H A n m S se ∧ H a = some (.tup (Deed.vs x)) ∧ ∀ H', Same H H' → Q (.str (refW n m S x)) H'
section
variable {P : Program} {w : World} {K : PySem.W.Frag} {mg : Str → Option Value} {base : Heap} {t : Adr}
theorem ok_l_refusal_of (T : Txt K w mg t) : FnOk P w K mg base CX0 1 t.f_l_refusal_of t.fd_l_refusal_of ["_law_town", "_law_deed"] spRef := by
  refine T.F_l_refusal_of.ok sc_l_refusal_of (fun vs H Q E h => ?_) (fun cdv A outer s H vs Q E hr h => ?_)
  · obtain ⟨A, n, m, S, se, a, x, rfl, _⟩ := h; rfl
  · obtain ⟨A, n, m, S, se, a, x, rfl, M, ha, k⟩ := h
    have hu := hu_of hr
    have eus : (("up" : Str) ++ ("s" : Str)) = "ups" := by decide +kernel
    have eds : (("down" : Str) ++ ("s" : Str)) = "downs" := by decide +kernel
    refine ⟨_, (pss_cons (ps_set (i := 2) sc_l_refusal_of.nd rfl (Or.inl rfl) (pe_ix ix_tup (pv 1) pe_int (fun _ _ => rfl)))
      (pss_cons (ps_if (PW.pt (pw_or (pt_cmpR op_lt (pv 2) pe_int (nomark _)) (pw_or1 (pt_cmpR op_ge (pv 2) (pe_callB call_len_seq (by rfl) T.n_len PySem.boot_len (pa_cons (pe_dget hu (pv 0) pe_str (fun _ _ => rfl)) pa_nil)) (nomark _))))) (pss_one (ps_ret pe_str)) pss_nil)
      (pss_cons (ps_if (PW.pt (pw_or (pt_cmpR op_eq (pe_ix ix_tup (pv 1) pe_int (fun _ _ => rfl)) pe_str (nomark _)) (pw_or1 (pt_cmpR op_eq (pe_ix ix_tup (pv 1) pe_int (fun _ _ => rfl)) pe_str (nomark _))))) (pss_one (ps_ret (pe_ix ix_list (pe_lst (pa_cons pe_str (pa_cons pe_str pa_nil))) (pe_callTy call_int1 (by rfl) T.n_int PyProof.Rows.Boot.«int» (pa_cons (pe_cmpR (op_eqNil hr.units0) (pe_ix ix_list (pe_dget hu (pv 0) (pe_op op_add_str (pe_ix ix_tup (pv 1) pe_int (fun _ _ => rfl)) pe_str) (fun _ _ => rfl)) (pv 2) (fun _ _ => rfl)) (pe_lst pa_nil) (nomark _)) pa_nil)) (fun _ _ => rfl)))) pss_nil)
      (pss_cons (ps_if (PW.pt (pw_or (pt_cmpR op_lt (pe_ix ix_tup (pv 1) pe_int (fun _ _ => rfl)) pe_int (nomark _)) (pw_or1 (pt_cmpR op_ge (pe_ix ix_tup (pv 1) pe_int (fun _ _ => rfl)) (pe_callB call_len_seq (by rfl) T.n_len PySem.boot_len (pa_cons (pe_dget hu (pv 0) pe_str (fun _ _ => rfl)) pa_nil)) (nomark _))))) (pss_one (ps_ret pe_str)) pss_nil)
      (pss_cons (ps_if (pt_cmpR op_eq (pe_ix ix_tup (pv 1) pe_int (fun _ _ => rfl)) pe_str (nomark _)) (pss_one (ps_ret (pe_ix ix_list (pe_lst (pa_cons pe_str (pa_cons pe_str pa_nil))) (pe_callTy call_int1 (by rfl) T.n_int PyProof.Rows.Boot.«int» (pa_cons (pe_cmpR op_eq (pe_ix ix_list (pe_ix ix_list (pe_dget hu (pv 0) pe_str (fun _ _ => rfl)) (pv 2) (fun _ _ => rfl)) (pe_ix ix_tup (pv 1) pe_int (fun _ _ => rfl)) (fun _ _ => rfl)) pe_str (nomark _)) pa_nil)) (fun _ _ => rfl)))) pss_nil)
      (pss_one (ps_ret (pe_ix ix_list (pe_lst (pa_cons pe_str (pa_cons pe_str pa_nil))) (pe_callTy call_int1 (by rfl) T.n_int PyProof.Rows.Boot.«int» (pa_cons (pe_cmp (pc_notN (pe_ix ix_list (pe_dget hu (pv 0) pe_str (fun _ _ => rfl)) (pv 2) (fun _ _ => rfl)))) pa_nil)) (fun _ _ => rfl))))))))), ?_⟩
    try dsimp only [cxOf, Cx.nox]
    show let Z1 : L2.TS := _; let Z2 : L2.TS := _; let Z3 : L2.TS := tIfS _ Z2 tNext; let Z4 : L2.TS := _; let Z5 : L2.TS := tIfS _ Z4 tNext; let Z6 : L2.TS := _; let Z7 : L2.TS := tIfS _ Z6 tNext; let Z8 : L2.TS := _; let Z9 : L2.TS := tIfS _ Z8 tNext; let Z10 : L2.TS := _; let D0 : Ends := _; (tSeq Z1 (tSeq Z3 (tSeq Z5 (tSeq Z7 (tSeq Z9 (Z10)))))) D0 _ _
    intro Z1 Z2 Z3 Z4 Z5 Z6 Z7 Z8 Z9 Z10 D0
    obtain ⟨ws, w1, w2, w3⟩ := M.wishes
    refine zt rfl (SqT.of ha) (Deed.at1 x) ?_
    refine ⟨_, rfl, _, _, rfl, rfl, _, rfl, ?_⟩
    have nodesk : ¬ inR x.dk n → Q (.str "no desk") H := fun h => by
      have := k H (Same.refl _)
      unfold refW at this
      rw [if_neg h] at this
      exact this
    by_cases h0 : x.dk < 0
    · refine iteTb (decide_eq_true h0) (iteT ?_)
      exact nodesk fun h => by unfold inR at h; lia
    · refine iteFb (decide_eq_false h0) ?_
      refine ⟨_, rfl, zd rfl (dget M.town tkv_wishes) ⟨A .wishes, ws, rfl, .inl (SqL.of w1), _, _, rfl, rfl, _, rfl, ?_⟩⟩
      rw [w2]
      by_cases h1 : (n : Int) ≤ x.dk
      · refine iteTb (decide_eq_true h1) ?_
        exact nodesk fun h => by unfold inR at h; lia
      · refine iteFb (decide_eq_false h1) ?_
        have hin : inR x.dk n := ⟨by lia, by lia⟩
        have k' := k
        unfold refW at k'
        rw [if_pos hin] at k'
        obtain ⟨d, hd⟩ : ∃ d : Nat, x.dk = (d : Int) := ⟨x.dk.toNat, by lia⟩
        have hdn : d < n := by lia
        rw [hd]
        cases x with
        | up d' =>
          have e : d' = (d : Int) := hd
          subst e
          simp only [Int.toNat_natCast] at k'
          refine zt rfl (SqT.of ha) rfl ⟨rfl, _, rfl, ?_⟩
          refine iteTb vs_eq (iteT ?_)
          obtain ⟨uv, u1, u2⟩ := M.up hdn
          refine ⟨(by show 2 ≤ sizeLine; decide), fun z hz => ?_⟩
          have s1 := same_new (o := .lst [.str "", .str "no letter"]) hz
          refine ⟨_, rfl, zt rfl (SqT.of (s1 _ _ ha)) rfl ⟨_, _, rfl, rfl, (by decide +kernel), A .town, .ref (A .ups), rfl, (by rw [eus]; exact dget (s1 _ _ M.town) tkv_ups), zl rfl (SqL.of (s1 _ _ M.ups)) (range_at hdn) ⟨(by show 0 ≤ sizeLine; decide), fun e he => ?_⟩⟩⟩
          have s2 := same_new (o := .lst []) he
          refine ⟨A (.up d), e, uv, rfl, rfl, SqL.of (s2 _ _ (s1 _ _ u1)), SqL.of upd_same, .inr ⟨_, rfl, z, _, _, _, rfl, rfl, SqL.of (s2 _ _ upd_same), pick2s, ?_⟩⟩
          have eu : uv.isEmpty = (S.up d).isEmpty := by rw [K07.RepL.isEmpty u2]; cases S.up d <;> rfl
          have := k' _ (s1.trans s2)
          rw [← eu] at this
          exact this
        | down d' =>
          have e : d' = (d : Int) := hd
          subst e
          simp only [Int.toNat_natCast] at k'
          refine zt rfl (SqT.of ha) rfl ⟨rfl, _, rfl, ?_⟩
          refine iteFb (vs_ne (show ("down" : Str) ≠ "up" by decide +kernel)) ?_
          refine zt rfl (SqT.of ha) rfl ⟨rfl, _, rfl, ?_⟩
          refine iteTb vs_eq ?_
          obtain ⟨uv, u1, u2⟩ := M.dn hdn
          refine ⟨(by show 2 ≤ sizeLine; decide), fun z hz => ?_⟩
          have s1 := same_new (o := .lst [.str "", .str "no letter"]) hz
          refine ⟨_, rfl, zt rfl (SqT.of (s1 _ _ ha)) rfl ⟨_, _, rfl, rfl, (by decide +kernel), A .town, .ref (A .downs), rfl, (by rw [eds]; exact dget (s1 _ _ M.town) tkv_downs), zl rfl (SqL.of (s1 _ _ M.downs)) (range_at hdn) ⟨(by show 0 ≤ sizeLine; decide), fun e he => ?_⟩⟩⟩
          have s2 := same_new (o := .lst []) he
          refine ⟨A (.dn d), e, uv, rfl, rfl, SqL.of (s2 _ _ (s1 _ _ u1)), SqL.of upd_same, .inr ⟨_, rfl, z, _, _, _, rfl, rfl, SqL.of (s2 _ _ upd_same), pick2s, ?_⟩⟩
          have eu : uv.isEmpty = (S.dn d).isEmpty := by rw [K07.RepL.isEmpty u2]; cases S.dn d <;> rfl
          have := k' _ (s1.trans s2)
          rw [← eu] at this
          exact this
        | rest d' y =>
          have e : d' = (d : Int) := hd
          subst e
          simp only [Int.toNat_natCast] at k'
          refine zt rfl (SqT.of ha) rfl ⟨rfl, _, rfl, ?_⟩
          refine iteFb (vs_ne (show ("rest" : Str) ≠ "up" by decide +kernel)) ?_
          refine zt rfl (SqT.of ha) rfl ⟨rfl, _, rfl, ?_⟩
          refine iteFb (vs_ne (show ("rest" : Str) ≠ "down" by decide +kernel)) ?_
          refine zt rfl (SqT.of ha) rfl ⟨_, _, rfl, rfl, _, rfl, ?_⟩
          by_cases h2 : y < 0
          · refine iteTb (decide_eq_true h2) (iteT ?_)
            have := k' H (Same.refl _)
            rw [if_neg (fun h => by unfold inR at h; lia)] at this
            exact this
          · refine iteFb (decide_eq_false h2) ?_
            refine zt rfl (SqT.of ha) rfl (zd rfl (dget M.town tkv_shelves) ⟨A .shelves, _, rfl, .inl (SqL.of M.shelves), _, _, rfl, rfl, _, rfl, ?_⟩)
            rw [List.length_map, List.length_range]
            by_cases h3 : (m : Int) ≤ y
            · refine iteTb (decide_eq_true h3) ?_
              have := k' H (Same.refl _)
              rw [if_neg (fun h => by unfold inR at h; lia)] at this
              exact this
            · refine iteFb (decide_eq_false h3) ?_
              have hy : inR y m := ⟨by lia, by lia⟩
              obtain ⟨p, hp⟩ : ∃ p : Nat, y = (p : Int) := ⟨y.toNat, by lia⟩
              subst hp
              have hpm : p < m := by lia
              rw [if_pos hy] at k'
              refine zt rfl (SqT.of ha) rfl ⟨rfl, _, rfl, ?_⟩
              refine iteTb vs_eq ?_
              refine ⟨(by show 2 ≤ sizeLine; decide), fun z hz => ?_⟩
              have s1 := same_new (o := .lst [.str "", .str "no copy"]) hz
              refine zdl rfl (dget (s1 _ _ M.town) tkv_rights) rfl (SqL.of (s1 _ _ M.rights)) (range_at hdn) (zt rfl (SqT.of (s1 _ _ ha)) rfl ⟨A (.rt d), _, p, _, rfl, rfl, SqL.of (s1 _ _ (M.rt hdn)), range_at hpm, rfl, .inr ⟨_, rfl, z, _, _, _, rfl, rfl, SqL.of upd_same, pick2s, ?_⟩⟩)
              have := k' _ s1
              have er : decide (V.str ((S.ds d).rt p).s = V.str "none") = decide ((S.ds d).rt p = .no) := by
                by_cases e : (S.ds d).rt p = .no
                · rw [e]; rfl
                · rw [rt_ne (x := "none") (q := .no) rfl e, decide_eq_false e]
              rw [← er] at this
              exact this
        | look d' y =>
          have e : d' = (d : Int) := hd
          subst e
          simp only [Int.toNat_natCast] at k'
          refine zt rfl (SqT.of ha) rfl ⟨rfl, _, rfl, ?_⟩
          refine iteFb (vs_ne (show ("look" : Str) ≠ "up" by decide +kernel)) ?_
          refine zt rfl (SqT.of ha) rfl ⟨rfl, _, rfl, ?_⟩
          refine iteFb (vs_ne (show ("look" : Str) ≠ "down" by decide +kernel)) ?_
          refine zt rfl (SqT.of ha) rfl ⟨_, _, rfl, rfl, _, rfl, ?_⟩
          by_cases h2 : y < 0
          · refine iteTb (decide_eq_true h2) (iteT ?_)
            have := k' H (Same.refl _)
            rw [if_neg (fun h => by unfold inR at h; lia)] at this
            exact this
          · refine iteFb (decide_eq_false h2) ?_
            refine zt rfl (SqT.of ha) rfl (zd rfl (dget M.town tkv_shelves) ⟨A .shelves, _, rfl, .inl (SqL.of M.shelves), _, _, rfl, rfl, _, rfl, ?_⟩)
            rw [List.length_map, List.length_range]
            by_cases h3 : (m : Int) ≤ y
            · refine iteTb (decide_eq_true h3) ?_
              have := k' H (Same.refl _)
              rw [if_neg (fun h => by unfold inR at h; lia)] at this
              exact this
            · refine iteFb (decide_eq_false h3) ?_
              have hy : inR y m := ⟨by lia, by lia⟩
              rw [if_pos hy] at k'
              refine zt rfl (SqT.of ha) rfl ⟨rfl, _, rfl, ?_⟩
              refine iteFb (vs_ne (show ("look" : Str) ≠ "rest" by decide +kernel)) ?_
              refine ⟨(by show 2 ≤ sizeLine; decide), fun z hz => ?_⟩
              have s1 := same_new (o := .lst [.str "", .str "waiting"]) hz
              obtain ⟨v, v1, v2⟩ := w3 d hdn
              have ev : (!decide (v = V.non)) = (S.ds d).ws.isSome := by
                cases hws : (S.ds d).ws with
                | none => rw [hws] at v2; have e : v = .non := v2; rw [e]; rfl
                | some w' => rw [hws] at v2; obtain ⟨a', e, _⟩ := v2; rw [e]; rfl
              refine zdl rfl (dget (s1 _ _ M.town) tkv_wishes) rfl (SqL.of (s1 _ _ w1)) (atI_nat v1) (.inr ⟨_, rfl, z, _, _, _, rfl, rfl, SqL.of upd_same, pick2s, ?_⟩)
              have := k' _ s1
              rw [← ev] at this
              exact this
        | put d' y q =>
          have e : d' = (d : Int) := hd
          subst e
          simp only [Int.toNat_natCast] at k'
          refine zt rfl (SqT.of ha) rfl ⟨rfl, _, rfl, ?_⟩
          refine iteFb (vs_ne (show ("put" : Str) ≠ "up" by decide +kernel)) ?_
          refine zt rfl (SqT.of ha) rfl ⟨rfl, _, rfl, ?_⟩
          refine iteFb (vs_ne (show ("put" : Str) ≠ "down" by decide +kernel)) ?_
          refine zt rfl (SqT.of ha) rfl ⟨_, _, rfl, rfl, _, rfl, ?_⟩
          by_cases h2 : y < 0
          · refine iteTb (decide_eq_true h2) (iteT ?_)
            have := k' H (Same.refl _)
            rw [if_neg (fun h => by unfold inR at h; lia)] at this
            exact this
          · refine iteFb (decide_eq_false h2) ?_
            refine zt rfl (SqT.of ha) rfl (zd rfl (dget M.town tkv_shelves) ⟨A .shelves, _, rfl, .inl (SqL.of M.shelves), _, _, rfl, rfl, _, rfl, ?_⟩)
            rw [List.length_map, List.length_range]
            by_cases h3 : (m : Int) ≤ y
            · refine iteTb (decide_eq_true h3) ?_
              have := k' H (Same.refl _)
              rw [if_neg (fun h => by unfold inR at h; lia)] at this
              exact this
            · refine iteFb (decide_eq_false h3) ?_
              have hy : inR y m := ⟨by lia, by lia⟩
              rw [if_pos hy] at k'
              refine zt rfl (SqT.of ha) rfl ⟨rfl, _, rfl, ?_⟩
              refine iteFb (vs_ne (show ("put" : Str) ≠ "rest" by decide +kernel)) ?_
              refine ⟨(by show 2 ≤ sizeLine; decide), fun z hz => ?_⟩
              have s1 := same_new (o := .lst [.str "", .str "waiting"]) hz
              obtain ⟨v, v1, v2⟩ := w3 d hdn
              have ev : (!decide (v = V.non)) = (S.ds d).ws.isSome := by
                cases hws : (S.ds d).ws with
                | none => rw [hws] at v2; have e : v = .non := v2; rw [e]; rfl
                | some w' => rw [hws] at v2; obtain ⟨a', e, _⟩ := v2; rw [e]; rfl
              refine zdl rfl (dget (s1 _ _ M.town) tkv_wishes) rfl (SqL.of (s1 _ _ w1)) (atI_nat v1) (.inr ⟨_, rfl, z, _, _, _, rfl, rfl, SqL.of upd_same, pick2s, ?_⟩)
              have := k' _ s1
              rw [← ev] at this
              exact this
end
end K07
namespace K07
open PySem L2
theorem str_ne_empty {x : Str} (h : x ≠ "") : (!decide (V.str x = V.str "")) = true := by rw [vs_ne h]; rfl
noncomputable def spMAns : Sp := fun vs H Q _ => ∃ A n m S se a x t, vs = [.ref (A .town), .ref a] ∧ MirAt H A n m S se ∧ H a = some (.tup (Deed.vs x)) ∧ TInv n m S ∧ Bd t S se ∧ t ≤ 1500 ∧
  ∀ v A' H', MirAt H' A' n m (S.step n m x).1 (se ++ S.sentB n x) → MrF H H' A n m → Mv H A A' n m → Rep H' v (S.step n m x).2 → Q v H'
theorem ref_step {n m : Nat} {S : TS} {x : Deed} (h : refW n m S x ≠ "") : S.step n m x = (S, .s (refW n m S x)) ∧ S.sentB n x = [] := by
  unfold refW at h ⊢
  by_cases hd : inR x.dk n
  · rw [if_pos hd] at h ⊢
    cases x with
    | up d =>
      have hd' : inR d n := hd
      simp only [TS.step, TS.sentB, if_pos hd', TS.upD] at h ⊢
      cases e : S.up d.toNat with
      | nil => exact ⟨rfl, rfl⟩
      | cons l r => rw [e] at h; exact absurd rfl h
    | down d =>
      have hd' : inR d n := hd
      simp only [TS.step, TS.sentB, if_pos hd', TS.downD] at h ⊢
      cases e : S.dn d.toNat with
      | nil => exact ⟨rfl, trivial⟩
      | cons l r => rw [e] at h; exact absurd rfl h
    | rest d p =>
      have hd' : inR d n := hd
      simp only [TS.step, TS.sentB, if_pos hd'] at h ⊢
      by_cases hp : inR p m
      · simp only [if_pos hp] at h ⊢
        by_cases e : (S.ds d.toNat).rt p = .no
        · simp only [if_pos e, decide_eq_true e, cond_true]; exact ⟨trivial, trivial⟩
        · rw [decide_eq_false e] at h; exact absurd rfl h
      · simp only [if_neg hp]; exact ⟨trivial, trivial⟩
    | look d p =>
      have hd' : inR d n := hd
      simp only [TS.step, TS.sentB, if_pos hd'] at h ⊢
      by_cases hp : inR p m
      · simp only [if_pos hp] at h ⊢
        cases e : (S.ds d.toNat).ws with
        | none => rw [e] at h; exact absurd rfl h
        | some w => unfold TS.wish; rw [e]; exact ⟨rfl, trivial⟩
      · simp only [if_neg hp]; exact ⟨trivial, trivial⟩
    | put d p y =>
      have hd' : inR d n := hd
      simp only [TS.step, TS.sentB, if_pos hd'] at h ⊢
      by_cases hp : inR p m
      · simp only [if_pos hp] at h ⊢
        cases e : (S.ds d.toNat).ws with
        | none => rw [e] at h; exact absurd rfl h
        | some w => unfold TS.wish; rw [e]; exact ⟨rfl, trivial⟩
      · simp only [if_neg hp]; exact ⟨trivial, trivial⟩
  · rw [if_neg hd] at h ⊢
    cases x <;> (simp only [Deed.dk] at hd; simp [TS.step, TS.sentB, hd])
theorem ref_ok {n m : Nat} {S : TS} {x : Deed} (h : refW n m S x = "") : inR x.dk n ∧ (match x with
    | .up d => S.up d.toNat ≠ []
    | .down d => S.dn d.toNat ≠ []
    | .rest d p => inR p m ∧ (S.ds d.toNat).rt p ≠ .no
    | .look d p => inR p m ∧ (S.ds d.toNat).ws = none
    | .put d p _ => inR p m ∧ (S.ds d.toNat).ws = none) := by
  have nd : ("no desk" : Str) ≠ "" := by decide +kernel
  have np : ("no page" : Str) ≠ "" := by decide +kernel
  have nl : ("no letter" : Str) ≠ "" := by decide +kernel
  have nc : ("no copy" : Str) ≠ "" := by decide +kernel
  have nw : ("waiting" : Str) ≠ "" := by decide +kernel
  unfold refW at h
  by_cases hd : inR x.dk n
  · rw [if_pos hd] at h
    refine ⟨hd, ?_⟩
    cases x with
    | up d => intro e; dsimp only at h; rw [e] at h; exact nl h
    | down d => intro e; dsimp only at h; rw [e] at h; exact nl h
    | rest d p =>
      dsimp only at h ⊢
      by_cases hp : inR p m
      · rw [if_pos hp] at h
        refine ⟨hp, fun e => ?_⟩
        rw [decide_eq_true e] at h
        exact nc h
      · rw [if_neg hp] at h; exact absurd h np
    | look d p =>
      dsimp only at h ⊢
      by_cases hp : inR p m
      · rw [if_pos hp] at h
        refine ⟨hp, ?_⟩
        cases e : (S.ds d.toNat).ws with
        | none => rfl
        | some w => rw [e] at h; exact absurd h nw
      · rw [if_neg hp] at h; exact absurd h np
    | put d p y =>
      dsimp only at h ⊢
      by_cases hp : inR p m
      · rw [if_pos hp] at h
        refine ⟨hp, ?_⟩
        cases e : (S.ds d.toNat).ws with
        | none => rfl
        | some w => rw [e] at h; exact absurd h nw
      · rw [if_neg hp] at h; exact absurd h np
  · rw [if_neg hd] at h; exact absurd h nd
theorem Bd.room {t : Nat} {S : TS} {se : List (Nat × Let)} (b : Bd t S se) (ht : t ≤ 1500) {k : Nat} (hk : k ≤ 6000000) : Roomy S se k := by
  have := Bt_le ht
  exact ⟨fun d => by have := b.dn d; lia, by have := b.se; lia⟩
theorem let_rep {H : Hp} {b : Addr} {l : Let} (h : H b = some (.tup l.vs)) : Rep H (.ref b) l.d := by
  cases l with
  | lend p x y => simp only [Let.d, Rep, RepL]; exact ⟨b, _, rfl, h, _, _, rfl, rfl, _, _, rfl, rfl, _, _, rfl, rfl, _, _, rfl, rfl, rfl⟩
  | back p x => simp only [Let.d, Rep, RepL]; exact ⟨b, _, rfl, h, _, _, rfl, rfl, _, _, rfl, rfl, _, _, rfl, rfl, rfl⟩
noncomputable def wd (d : Int) : W → Deed
  | .look p => .look d p
  | .put p x => .put d p x
noncomputable def toldD (S : DS) : W → D
  | .look p => .i (S.nm p)
  | .put _ _ => .s "done"
theorem wd_w (w : W) : w.vs = .str w.tag :: w.vs.tail := by cases w <;> rfl
theorem wd_tl (w : W) : w.vs.tail ≠ [] := by cases w <;> simp [W.vs]
theorem wd_at2 (d : Int) (w : W) : atI (wd d w).vs 2 = some (.int w.pg) := by cases w <;> rfl
theorem wd_cut (d : Int) (w : W) : cutV (wd d w).vs (some 2) none = w.vs.tail := by cases w <;> rfl
theorem wd_nw (d : Int) (w : W) : ¬ (HT.sIx (wd d w).vs.length 0 (some 2) = 0 ∧ HT.sIx (wd d w).vs.length (wd d w).vs.length none = (wd d w).vs.length) := by
  cases w with
  | look p => intro h; exact absurd (show HT.sIx 3 0 (some 2) = 0 from h.1) (by decide)
  | put p x => intro h; exact absurd (show HT.sIx 4 0 (some 2) = 0 from h.1) (by decide)
theorem wd_tag (d : Int) (w : W) : (wd d w).tag = w.tag := by cases w <;> rfl
theorem wd_dk (d : Int) (w : W) : (wd d w).dk = d := by cases w <;> rfl
theorem wd_len (d : Int) (w : W) : [V.str w.tag].length + w.vs.tail.length ≤ sizeLine := by
  cases w with
  | look p => show 2 ≤ 16777216; decide
  | put p x => show 3 ≤ 16777216; decide
theorem wd_up (w : W) : w.tag ≠ "up" := by
  cases w with
  | look p => show ("look" : Str) ≠ "up"; decide +kernel
  | put p x => show ("put" : Str) ≠ "up"; decide +kernel
theorem wd_down (w : W) : w.tag ≠ "down" := by
  cases w with
  | look p => show ("look" : Str) ≠ "down"; decide +kernel
  | put p x => show ("put" : Str) ≠ "down"; decide +kernel
theorem wd_rest (w : W) : w.tag ≠ "rest" := by
  cases w with
  | look p => show ("look" : Str) ≠ "rest"; decide +kernel
  | put p x => show ("put" : Str) ≠ "rest"; decide +kernel
theorem wd_step {n m : Nat} {S : TS} {d p : Nat} {w : W} (hd : d < n) (hp : p < m) (hw : w.pg = (p : Int)) (h0 : (S.ds d).ws = none) :
    S.step n m (wd d w) = (S.desk d ((S.ds d).wantR w p), if (S.ds d).ok w then toldD (S.ds d) w else .s "waits") ∧ S.sentB n (wd d w) = [] := by
  have h1 : inR (d : Int) n := ⟨by lia, by lia⟩
  have h2 : inR w.pg m := by rw [hw]; exact ⟨by lia, by lia⟩
  cases w with
  | look y =>
    have hy : y = (p : Int) := hw
    subst hy
    have h2' : inR (p : Int) m := h2
    simp only [wd, TS.step, TS.sentB, if_pos h1, if_pos h2', Int.toNat_natCast, TS.wish, h0, toldD]
    exact ⟨trivial, trivial⟩
  | put y x =>
    have hy : y = (p : Int) := hw
    subst hy
    have h2' : inR (p : Int) m := h2
    simp only [wd, TS.step, TS.sentB, if_pos h1, if_pos h2', Int.toNat_natCast, TS.wish, h0, toldD]
    exact ⟨trivial, trivial⟩
theorem wd_ok {n m : Nat} {S : TS} {d : Int} {w : W} (h : refW n m S (wd d w) = "") : inR d n ∧ inR w.pg m ∧ (S.ds d.toNat).ws = none := by
  cases w with
  | look p => exact ref_ok (x := .look d p) h
  | put p x => exact ref_ok (x := .put d p x) h
section
variable {P : Program} {w : World} {K : PySem.W.Frag} {mg : Str → Option Value} {base : Heap} {t : Adr}
theorem ok_l_answered (T : Txt K w mg t) : FnOk P w K mg base CX0 4 t.f_l_answered t.fd_l_answered ["_law_town", "_law_deed"] spMAns := by
  refine T.F_l_answered.ok sc_l_answered (fun vs H Q E h => ?_) (fun cdv A outer s H vs Q E hr h => ?_)
  · obtain ⟨A, n, m, S, se, a, x, tt, rfl, _⟩ := h; rfl
  · obtain ⟨A, n, m, S, se, a, x, tt, rfl, M, ha, I, B, ht, k⟩ := h
    have hu := hu_of hr
    have sl : sizeLine = 16777216 := by decide
    refine ⟨_, (pss_cons (ps_set (i := 2) sc_l_answered.nd rfl (Or.inl rfl) (pe_call (ok_l_refusal_of T) (hr.mono (by decide) : Room 1 _) (by rfl) T.m_l_refusal_of T.F_l_refusal_of.kp T.b_l_refusal_of .nil pass0 (pa_cons (pv 0) (pa_cons (pv 1) pa_nil))))
      (pss_cons (ps_if (pt_cmpR op_ne (pv 2) pe_str (nomark _)) (pss_one (ps_ret (pv 2))) pss_nil)
      (pss_cons (ps_set (i := 3) sc_l_answered.nd rfl (Or.inl rfl) (pe_ix ix_tup (pv 1) pe_int (fun _ _ => rfl)))
      (pss_cons (ps_if (pt_cmpR op_eq (pe_ix ix_tup (pv 1) pe_int (fun _ _ => rfl)) pe_str (nomark _)) (pss_one (ps_ret (pe_call (ok_l_came_up T) (hr.mono (by decide) : Room 3 _) (by rfl) T.m_l_came_up T.F_l_came_up.kp T.b_l_came_up .nil pass0 (pa_cons (pv 0) (pa_cons (pv 3) pa_nil))))) pss_nil)
      (pss_cons (ps_if (pt_cmpR op_eq (pe_ix ix_tup (pv 1) pe_int (fun _ _ => rfl)) pe_str (nomark _)) (pss_one (ps_ret (pe_call (ok_l_came_down T) (hr.mono (by decide) : Room 2 _) (by rfl) T.m_l_came_down T.F_l_came_down.kp T.b_l_came_down .nil pass0 (pa_cons (pv 0) (pa_cons (pv 3) pa_nil))))) pss_nil)
      (pss_cons (ps_set (i := 4) sc_l_answered.nd rfl (Or.inl rfl) (pe_ix ix_list (pe_ix ix_list (pe_dget hu (pv 0) pe_str (fun _ _ => rfl)) (pv 3) (fun _ _ => rfl)) (pe_ix ix_tup (pv 1) pe_int (fun _ _ => rfl)) (fun _ _ => rfl)))
      (pss_cons (ps_if (pt_cmpR op_eq (pe_ix ix_tup (pv 1) pe_int (fun _ _ => rfl)) pe_str (nomark _)) (pss_cons (ps_if (pt_cmpR op_eq (pv 4) pe_str (nomark _)) (pss_one (ps_expr (pe_bm PySem.F.plainAttrs_list PySem.F.slot_list_append PySem.F.type_list_append mt_append (pe_ix ix_list (pe_dget hu (pv 0) pe_str (fun _ _ => rfl)) (pv 3) (fun _ _ => rfl)) (pa_cons (pe_tup (pa_cons pe_str (pa_cons (pe_ix ix_tup (pv 1) pe_int (fun _ _ => rfl)) (pa_cons (pe_ix ix_list (pe_ix ix_list (pe_dget hu (pv 0) pe_str (fun _ _ => rfl)) (pv 3) (fun _ _ => rfl)) (pe_ix ix_tup (pv 1) pe_int (fun _ _ => rfl)) (fun _ _ => rfl)) pa_nil)))) pa_nil)))) pss_nil)
      (pss_cons (ps_asg pe_str (pg_sub (pe_ix ix_list (pe_dget hu (pv 0) pe_str (fun _ _ => rfl)) (pv 3) (fun _ _ => rfl)) (pe_ix ix_tup (pv 1) pe_int (fun _ _ => rfl)) set_list))
      (pss_one (ps_ret pe_str)))) pss_nil)
      (pss_cons (ps_set (i := 5) sc_l_answered.nd rfl (Or.inl rfl) (pe_op op_catT (pe_tup (pa_cons (pe_ix ix_tup (pv 1) pe_int (fun _ _ => rfl)) pa_nil)) (pe_slice sl_tup (pv 1) (po_some pe_int) po_none)))
      (pss_cons (ps_if (pt_val (pe_call (ok_l_enough T) (hr.mono (by decide) : Room 1 _) (by rfl) T.m_l_enough T.F_l_enough.kp T.b_l_enough .nil pass0 (pa_cons (pv 4) (pa_cons (pv 5) pa_nil)))) (pss_cons (ps_set (i := 6) sc_l_answered.nd rfl (Or.inl rfl) (pe_call (ok_l_fulfilled T) (hr.mono (by decide) : Room 1 _) (by rfl) T.m_l_fulfilled T.F_l_fulfilled.kp T.b_l_fulfilled .nil pass0 (pa_cons (pv 0) (pa_cons (pv 3) (pa_cons (pv 5) pa_nil)))))
      (pss_one (ps_ret (pe_ix ix_list (pe_lst (pa_cons (pv 6) (pa_cons pe_str pa_nil))) (pe_callTy call_int1 (by rfl) T.n_int PyProof.Rows.Boot.«int» (pa_cons (pe_cmpR op_eq (pe_ix ix_tup (pv 1) pe_int (fun _ _ => rfl)) pe_str (nomark _)) pa_nil)) (fun _ _ => rfl))))) pss_nil)
      (pss_cons (ps_asg (pv 5) (pg_sub (pe_dget hu (pv 0) pe_str (fun _ _ => rfl)) (pv 3) set_list))
      (pss_cons (ps_expr (pe_bm PySem.F.plainAttrs_list PySem.F.slot_list_append PySem.F.type_list_append mt_append (pe_ix ix_list (pe_dget hu (pv 0) pe_str (fun _ _ => rfl)) (pv 3) (fun _ _ => rfl)) (pa_cons (pe_tup (pa_cons pe_str (pa_cons (pe_ix ix_tup (pv 1) pe_int (fun _ _ => rfl)) (pa_cons (pe_ix ix_list (pe_lst (pa_cons pe_str (pa_cons pe_str pa_nil))) (pe_callTy call_int1 (by rfl) T.n_int PyProof.Rows.Boot.«int» (pa_cons (pe_cmpR op_eq (pe_ix ix_tup (pv 1) pe_int (fun _ _ => rfl)) pe_str (nomark _)) pa_nil)) (fun _ _ => rfl)) pa_nil)))) pa_nil)))
      (pss_one (ps_ret pe_str))))))))))))), ?_⟩
    try dsimp only [cxOf, Cx.nox]
    show let Z1 : L2.TS := _; let Z2 : L2.TS := _; let Z3 : L2.TS := tIfS _ Z2 tNext; let Z4 : L2.TS := _; let Z5 : L2.TS := _; let Z6 : L2.TS := tIfS _ Z5 tNext; let Z7 : L2.TS := _; let Z8 : L2.TS := tIfS _ Z7 tNext; let Z9 : L2.TS := _; let Z10 : L2.TS := _; let Z11 : L2.TS := tIfS _ Z10 tNext; let Z12 : L2.TS := _; let Z13 : L2.TS := _; let Z14 : L2.TS := tSeq Z11 (tSeq Z12 (Z13)); let Z15 : L2.TS := tIfS _ Z14 tNext; let Z16 : L2.TS := _; let Z17 : L2.TS := _; let Z18 : L2.TS := _; let Z19 : L2.TS := tSeq Z17 (Z18); let Z20 : L2.TS := tIfS _ Z19 tNext; let Z21 : L2.TS := _; let Z22 : L2.TS := _; let Z23 : L2.TS := _; let D0 : Ends := _; (tSeq Z1 (tSeq Z3 (tSeq Z4 (tSeq Z6 (tSeq Z8 (tSeq Z9 (tSeq Z15 (tSeq Z16 (tSeq Z20 (tSeq Z21 (tSeq Z22 (Z23)))))))))))) D0 _ _
    intro Z1 Z2 Z3 Z4 Z5 Z6 Z7 Z8 Z9 Z10 Z11 Z12 Z13 Z14 Z15 Z16 Z17 Z18 Z19 Z20 Z21 Z22 Z23 D0
    refine ⟨_, rfl, _, rfl, A, n, m, S, se, a, x, rfl, M, ha, fun H1 s1 => ?_⟩
    have M1 := M.same s1
    have f1 : MrF H H1 A n m := MrF.of_same s1
    have ha1 := s1 _ _ ha
    refine ⟨_, rfl, rfl, _, rfl, ?_⟩
    by_cases hw : refW n m S x = ""
    · refine iteFb (by rw [hw]; rfl) ?_
      obtain ⟨hdk, hx⟩ := ref_ok hw
      obtain ⟨d, hd⟩ : ∃ d : Nat, x.dk = (d : Int) := ⟨x.dk.toNat, by unfold inR at hdk; lia⟩
      have hdn : d < n := by unfold inR at hdk; lia
      rw [hw]
      refine zt rfl (SqT.of ha1) (Deed.at1 x) ?_
      rw [hd]
      by_cases hwd : ∃ d' w, x = wd d' w
      · obtain ⟨d', w, rfl⟩ := hwd
        have e : d' = (d : Int) := by rw [wd_dk] at hd; exact hd
        subst e
        obtain ⟨_, hy, hno⟩ := wd_ok hw
        simp only [Int.toNat_natCast] at hno
        obtain ⟨p, hp⟩ : ∃ p : Nat, w.pg = (p : Int) := ⟨w.pg.toNat, by unfold inR at hy; lia⟩
        have hpm : p < m := by unfold inR at hy; lia
        obtain ⟨est, ese⟩ := wd_step (S := S) hdn hpm hp hno
        rw [est, ese, List.append_nil] at k
        have a0 : atI (wd d w).vs 0 = some (.str w.tag) := by rw [← wd_tag d w]; exact Deed.at0 _
        have hrow := B.row
        have hupl := B.up d
        refine zt rfl (SqT.of ha1) a0 ⟨rfl, _, rfl, ?_⟩
        refine iteFb (vs_ne (wd_up w)) ?_
        refine zt rfl (SqT.of ha1) a0 ⟨rfl, _, rfl, ?_⟩
        refine iteFb (vs_ne (wd_down w)) ?_
        refine zdl rfl (dget M1.town tkv_rights) rfl (SqL.of M1.rights) (range_at hdn) (zt rfl (SqT.of ha1) (wd_at2 _ _) ⟨A (.rt d), _, p, _, rfl, by rw [hp], SqL.of (M1.rt hdn), range_at hpm, ?_⟩)
        refine zt rfl (SqT.of ha1) a0 ⟨rfl, _, rfl, ?_⟩
        refine iteFb (vs_ne (wd_rest w)) ?_
        refine zt rfl (SqT.of ha1) a0 ⟨(by show 1 ≤ sizeLine; decide), fun z1 hz1 => ?_⟩
        have s2 := same_new (o := .tup [.str w.tag]) hz1
        have hz1' : upd H1 z1 (.tup [.str w.tag]) z1 = some (.tup [.str w.tag]) := upd_same
        generalize upd H1 z1 (.tup [.str w.tag]) = H2 at s2 hz1'
        refine ⟨_, rfl, _, rfl, a, _, rfl, SqT.of (s2 _ _ ha1), wd_nw _ _, fun z2 hz2 => ?_⟩
        rw [wd_cut]
        have s3 := same_new (o := .tup w.vs.tail) hz2
        have hz2' : upd H2 z2 (.tup w.vs.tail) z2 = some (.tup w.vs.tail) := upd_same
        generalize upd H2 z2 (.tup w.vs.tail) = H3 at s3 hz2'
        refine ⟨z1, z2, [.str w.tag], w.vs.tail, rfl, rfl, SqT.of (s3 _ _ hz1'), SqT.of hz2', by simp, wd_len d w, fun z => absurd z (wd_tl w), fun _ z3 hz3 => ?_⟩
        have ew : [V.str w.tag] ++ w.vs.tail = w.vs := (wd_w w).symm
        rw [ew]
        have s4 := same_new (o := .tup w.vs) hz3
        have hz3' : upd H3 z3 (.tup w.vs) z3 = some (.tup w.vs) := upd_same
        generalize upd H3 z3 (.tup w.vs) = H4 at s4 hz3'
        have sA := (s2.trans s3).trans s4
        have M4 := M1.same sA
        have f4 := f1.trans (MrF.of_same (A := A) sA) (Mv.refl _ _ _ _)
        have ha4 := sA _ _ ha1
        refine ⟨_, rfl, _, rfl, (S.ds d).rt p, z3, w, rfl, hz3', _, rfl, ?_⟩
        have hokx : (S.ds d).ok w ↔ w.need.k ≤ ((S.ds d).rt p).k := by unfold DS.ok; rw [hp]
        by_cases hok : w.need.k ≤ ((S.ds d).rt p).k
        · refine iteTb (decide_eq_true hok) ?_
          rw [if_pos (hokx.mpr hok)] at k
          refine ⟨_, rfl, _, rfl, _, rfl, A, n, m, S, se, z3, w, d, p, rfl, M4, hdn, hz3', hp, hpm, (by lia), fun H5 M5 f5 => ?_⟩
          have ha5 := (f5.tups M4) a _ ha4
          refine ⟨_, rfl, (by show 2 ≤ sizeLine; decide), fun z4 hz4 => ?_⟩
          have s6 := same_new (o := .lst [.int ((S.ds d).num w), .str "done"]) hz4
          have ewr : (S.ds d).wantR w p = ((S.ds d).done w, [(w.isPut, w.pg, (S.ds d).num w)], []) := by unfold DS.wantR; rw [if_pos (hokx.mpr hok)]
          have M6 : MirAt (upd H5 z4 (.lst [.int ((S.ds d).num w), .str "done"])) A n m (S.desk d ((S.ds d).wantR w p)) se := by
            have := M5.same s6
            rw [ewr]
            have e : S.desk d ((S.ds d).done w, [(w.isPut, w.pg, (S.ds d).num w)], []) = { S with ds := setf S.ds d ((S.ds d).done w), row := addRow S.row d [(w.isPut, w.pg, (S.ds d).num w)] } := by
              simp only [TS.desk, List.append_nil, setf_eq]
            rw [e]; exact this
          have f6 := (f4.trans f5 (Mv.refl _ _ _ _)).trans (MrF.of_same (A := A) s6) (Mv.refl _ _ _ _)
          refine zt rfl (SqT.of (s6 _ _ ha5)) a0 ⟨rfl, .inr ⟨_, rfl, z4, _, _, _, rfl, rfl, SqL.of upd_same, pick2, ?_⟩⟩
          refine k _ A _ M6 f6 (Mv.refl _ _ _ _) ?_
          cases w with
          | look y =>
            have hyp : y = (p : Int) := hp
            have e : decide (V.str (W.look y).tag = V.str "put") = false := vs_ne (show ("look" : Str) ≠ "put" by decide +kernel)
            rw [e]
            simp only [toldD, Rep]
            rfl
          | put y q =>
            have e : decide (V.str (W.put y q).tag = V.str "put") = true := vs_eq
            rw [e]
            simp only [toldD, Rep]
            rfl
        · refine iteFb (decide_eq_false hok) ?_
          rw [if_neg fun z => hok (hokx.mp z)] at k
          have ewr : (S.ds d).wantR w p = ({ S.ds d with ws := some w }, [], [.ask p w.need]) := by unfold DS.wantR; rw [if_neg fun z => hok (hokx.mp z)]
          obtain ⟨wv, w1, w2, _⟩ := M4.wishes
          refine ⟨_, rfl, zd rfl (dget M4.town tkv_wishes) ⟨_, rfl, A .wishes, _, _, d, rfl, rfl, w1, by rw [w2]; exact ixN_nat hdn, ?_⟩⟩
          obtain ⟨M5, f5⟩ := M4.wrWish hdn (v := .ref z3) (o := some w) w1 ⟨z3, rfl, hz3'⟩
          have ha5 := (f5.tups M4) a _ ha4
          have f45 := f4.trans f5 (Mv.refl _ _ _ _)
          generalize upd H4 (A .wishes) (.lst (wv.set d (.ref z3))) = H5 at M5 f5 ha5 f45
          obtain ⟨uv, u1, u2⟩ := M5.up hdn
          have hul2 : uv.length < sizeLine := by rw [u2.length, List.length_map]; show (S.up d).length < _; lia
          refine zdl rfl (dget M5.town tkv_ups) rfl (SqL.of M5.ups) (range_at hdn) ⟨.inl ⟨rfl, _, SqL.of u1⟩, zt rfl (SqT.of ha5) (wd_at2 _ _) ⟨(by show 2 ≤ sizeLine; decide), fun z4 hz4 => ?_⟩⟩
          have s6 := same_new (o := .lst [.str "read", .str "write"]) hz4
          refine zt rfl (SqT.of (s6 _ _ ha5)) a0 ⟨rfl, .inr ⟨_, rfl, z4, _, _, .str w.need.s, rfl, rfl, SqL.of upd_same, ?_, (by show 3 ≤ sizeLine; decide), fun c hc => ?_⟩⟩
          · cases w with
            | look y =>
              have e : decide (V.str (W.look y).tag = V.str "put") = false := vs_ne (show ("look" : Str) ≠ "put" by decide +kernel)
              rw [e]; rfl
            | put y q =>
              have e : decide (V.str (W.put y q).tag = V.str "put") = true := vs_eq
              rw [e]; rfl
          · have s7 := same_new (o := .tup [.str "ask", .int w.pg, .str w.need.s]) hc
            rw [hp] at s7 ⊢
            have sB := s6.trans s7
            refine ⟨A (.up d), uv, _, rfl, rfl, sB _ _ u1, hul2, ?_⟩
            have rp : RepL (upd (upd H5 z4 (.lst [.str "read", .str "write"])) c (.tup [.str "ask", .int p, .str w.need.s])) (uv ++ [.ref c]) ((S.up d ++ [UL.ask p w.need]).map UL.d) := by
              rw [List.map_append]
              exact RepL.snoc (u2.tmono (same_tup sB) (flats_map UL.flat _)) (ul_rep (l := .ask p w.need) upd_same)
            obtain ⟨M7, f7⟩ := (M5.same sB).wrUp hdn rp
            refine k (.str "waits") A _ ?_ ((f45.trans (MrF.of_same (A := A) sB) (Mv.refl _ _ _ _)).trans f7 (Mv.refl _ _ _ _)) (Mv.refl _ _ _ _) (by simp only [Rep])
            have e : S.desk d ((S.ds d).wantR w p) = { S with ds := setf S.ds d { S.ds d with ws := some w }, up := setf S.up d (S.up d ++ [UL.ask p w.need]) } := by
              rw [ewr]; simp [TS.desk, addRow]
            rw [e]
            exact M7
      cases x with
      | up d' =>
        have e : d' = (d : Int) := hd
        subst e
        have hdk' : inR (d : Int) n := hdk
        simp only [TS.step, TS.sentB, if_pos hdk', Int.toNat_natCast, TS.upD] at k hx
        obtain ⟨l, r, hup⟩ := List.exists_cons_of_ne_nil hx
        rw [hup] at k
        obtain ⟨I', hlp, hgd, _⟩ := I.take hdn hup
        have hmu := B.mu l.pg
        refine zt rfl (SqT.of ha1) rfl ⟨rfl, _, rfl, ?_⟩
        refine iteTb vs_eq ?_
        refine ⟨_, rfl, _, rfl, A, n, m, S, se, d, l, r, rfl, M1, hdn, hup, hlp, I.pn _ hlp, I.am _ hlp, hgd, (by lia), B.room ht (by lia), fun b A' H' M' f' mv' hb' => ?_⟩
        exact k (.ref b) A' H' M' (f1.trans f' (Mv.refl _ _ _ _)) (fun y hy => (mv' y hy).imp id fun e => ⟨e.1, f1.lv _ e.2⟩) (ul_rep hb')
      | down d' =>
        have e : d' = (d : Int) := hd
        subst e
        have hdk' : inR (d : Int) n := hdk
        simp only [TS.step, TS.sentB, if_pos hdk', Int.toNat_natCast, TS.downD] at k hx
        obtain ⟨l, r, hdn'⟩ := List.exists_cons_of_ne_nil hx
        rw [hdn'] at k
        obtain ⟨p, hp, hlp, hni⟩ := I.dn d hdn l (by rw [hdn']; simp)
        refine zt rfl (SqT.of ha1) rfl ⟨rfl, _, rfl, ?_⟩
        refine iteFb (vs_ne (show ("down" : Str) ≠ "up" by decide +kernel)) ?_
        refine zt rfl (SqT.of ha1) rfl ⟨rfl, _, rfl, ?_⟩
        refine iteTb vs_eq ?_
        have hrow := B.row
        have hupl := B.up d
        refine ⟨_, rfl, _, rfl, A, n, m, S, se, l, r, d, p, rfl, M1, hdn, hdn', hlp, hp, hni, I.ws d hdn, (by lia), (by lia), fun b H' M' f' hb' => ?_⟩
        exact k (.ref b) A H' (by rw [List.append_nil]; exact M') (f1.trans f' (Mv.refl _ _ _ _)) (Mv.refl _ _ _ _) (let_rep hb')
      | rest d' y =>
        have e : d' = (d : Int) := hd
        subst e
        have hdk' : inR (d : Int) n := hdk
        obtain ⟨hy, hno⟩ := hx
        obtain ⟨p, hp⟩ : ∃ p : Nat, y = (p : Int) := ⟨y.toNat, by unfold inR at hy; lia⟩
        subst hp
        have hpm : p < m := by unfold inR at hy; lia
        simp only [TS.step, TS.sentB, if_pos hdk', if_pos hy, Int.toNat_natCast] at k hno
        rw [if_neg hno] at k
        refine zt rfl (SqT.of ha1) rfl ⟨rfl, _, rfl, ?_⟩
        refine iteFb (vs_ne (show ("rest" : Str) ≠ "up" by decide +kernel)) ?_
        refine zt rfl (SqT.of ha1) rfl ⟨rfl, _, rfl, ?_⟩
        refine iteFb (vs_ne (show ("rest" : Str) ≠ "down" by decide +kernel)) ?_
        refine zdl rfl (dget M1.town tkv_rights) rfl (SqL.of M1.rights) (range_at hdn) (zt rfl (SqT.of ha1) rfl ⟨A (.rt d), _, p, _, rfl, rfl, SqL.of (M1.rt hdn), range_at hpm, ?_⟩)
        refine zt rfl (SqT.of ha1) rfl ⟨rfl, _, rfl, ?_⟩
        refine iteTb vs_eq ?_
        have hupl := B.up d
        try dsimp only [tNext]
        refine seq_via (fun σ' H' => σ' = [some (.ref (A .town)), some (.ref a), some (.str ""), some (.int d), some (.str ((S.ds d).rt p).s), none, none] ∧ MirAt H' A n m { S with up := setf S.up d (S.up d ++ (if (S.ds d).rt p = .wr then [UL.gave p ((S.ds d).nm p)] else [])) } se ∧ MrF H H' A n m ∧ H' a = some (.tup (Deed.rest d p).vs)) (fun N hN => ?_) ?_
        · refine ⟨_, rfl, rfl, _, rfl, ?_⟩
          by_cases ew : (S.ds d).rt p = .wr
          · refine iteTb (by rw [ew]; exact vs_eq) ?_
            rw [if_pos ew] at hN
            obtain ⟨uv, u1, u2⟩ := M1.up hdn
            have hul2 : uv.length < sizeLine := by rw [u2.length, List.length_map]; lia
            refine zdl rfl (dget M1.town tkv_ups) rfl (SqL.of M1.ups) (range_at hdn) ⟨.inl ⟨rfl, _, SqL.of u1⟩, zt rfl (SqT.of ha1) rfl (zdl rfl (dget M1.town tkv_copies) rfl (SqL.of M1.copies) (range_at hdn) (zt rfl (SqT.of ha1) rfl ⟨A (.cp d), _, p, _, rfl, rfl, SqL.of (M1.cp hdn), range_at hpm, (by show 3 ≤ sizeLine; decide), fun c hc => ?_⟩))⟩
            have s3 := same_new (o := .tup [.str "gave", .int p, .int ((S.ds d).nm p)]) hc
            refine ⟨A (.up d), uv, _, rfl, rfl, s3 _ _ u1, hul2, ?_⟩
            have rp : RepL (upd H1 c (.tup [.str "gave", .int p, .int ((S.ds d).nm p)])) (uv ++ [.ref c]) ((S.up d ++ [UL.gave p ((S.ds d).nm p)]).map UL.d) := by
              rw [List.map_append]
              exact RepL.snoc (u2.tmono (same_tup s3) (flats_map UL.flat _)) (ul_rep (l := .gave p ((S.ds d).nm p)) upd_same)
            obtain ⟨M4, f4⟩ := (M1.same s3).wrUp hdn rp
            exact hN _ _ ⟨rfl, M4, (f1.trans (MrF.of_same (A := A) s3) (Mv.refl _ _ _ _)).trans f4 (Mv.refl _ _ _ _), (f4.tups (M1.same s3)) a _ (s3 _ _ ha1)⟩
          · refine iteFb (rt_ne (x := "write") (q := .wr) rfl ew) ?_
            rw [if_neg ew] at hN
            refine hN _ _ ⟨rfl, ?_, f1, ha1⟩
            have : ({ S with up := setf S.up d (S.up d ++ []) } : TS) = S := by rw [List.append_nil, setf_eq]
            rw [this]; exact M1
        · rintro σ' H2 ⟨rfl, M2, f2, ha2⟩
          refine zdl rfl (dget M2.town tkv_rights) rfl (SqL.of M2.rights) (range_at hdn) (zt rfl (SqT.of ha2) rfl ⟨A (.rt d), _, _, p, rfl, rfl, M2.rt hdn, ixN_nat (by simpa using hpm), ?_⟩)
          have e1 : ((List.range m).map fun q : Nat => V.str ((S.ds d).rt q).s).set p (.str "none") = (List.range m).map fun q : Nat => V.str (((S.ds d).hold p .no ((S.ds d).nm p)).rt q).s := by
            refine range_set hpm ?_ fun q hq => ?_
            · show V.str (if (p : Int) = p then Rt.no else _).s = _; rw [if_pos rfl]; rfl
            · show V.str (if (q : Int) = p then Rt.no else _).s = _; rw [if_neg (by lia)]
          dsimp only
          rw [e1]
          have enm : ((S.ds d).hold p .no ((S.ds d).nm p)).nm = (S.ds d).nm := by funext q; show (if q = (p : Int) then (S.ds d).nm p else (S.ds d).nm q) = _; split <;> simp_all
          obtain ⟨M3, f3⟩ := M2.wrRt hdn (D' := (S.ds d).hold p .no ((S.ds d).nm p)) enm rfl
          refine k (.str "done") A _ ?_ (f2.trans f3 (Mv.refl _ _ _ _)) (Mv.refl _ _ _ _) (by simp only [Rep])
          rw [List.append_nil]
          have : S.doRest d p = { S with ds := setf S.ds d ((S.ds d).hold p .no ((S.ds d).nm p)), up := setf S.up d (S.up d ++ (if (S.ds d).rt p = .wr then [UL.gave p ((S.ds d).nm p)] else [])) } := by
            simp [TS.doRest, TS.desk, addRow]
          rw [this]
          exact M3
      | look d' y => exact absurd ⟨_, .look _, rfl⟩ hwd
      | put d' y q => exact absurd ⟨_, .put _ _, rfl⟩ hwd
    · refine iteTb (str_ne_empty hw) ?_
      obtain ⟨e1, e2⟩ := ref_step hw
      refine ⟨_, rfl, k _ A H1 ?_ f1 (Mv.refl _ _ _ _) ?_⟩
      · rw [e1, e2, List.append_nil]; exact M1
      · rw [e1]; simp only [Rep]
end
end K07
namespace K07
open PySem L2
noncomputable def spWhole : Sp := fun vs H Q _ => ∃ k, vs = [.int k] ∧ Q (.bl true) H
noncomputable def spSame : Sp := fun vs H Q _ => ∃ v u d, vs = [v, u] ∧ Rep H v d ∧ Rep H u d ∧ d.size ≤ 1000000 ∧ ∀ H', Same H H' → Q (.bl true) H'
section
variable {P : Program} {w : World} {K : PySem.W.Frag} {mg : Str → Option Value} {base : Heap} {t : Adr}
theorem ok_l_whole (T : Txt K w mg t) : FnOk P w K mg base CX0 1 t.f_l_whole t.fd_l_whole ["_law_found"] spWhole := by
  refine T.F_l_whole.ok sc_l_whole (fun vs H Q E h => ?_) (fun cdv A outer s H vs Q E hr h => ?_)
  · obtain ⟨k, rfl, _⟩ := h; rfl
  · obtain ⟨k, rfl, q⟩ := h
    refine ⟨_, (pss_one (ps_ret (pe_and (pe_callB call_isi (by rfl) T.n_isinstance PyProof.Rows.Boot.«isinstance» (pa_cons (pv 0) (pa_cons (pe_bty (by rfl) T.n_int PyProof.Rows.Boot.«int») pa_nil))) (pe_one (pe_not (pe_callB call_isi (by rfl) T.n_isinstance PyProof.Rows.Boot.«isinstance» (pa_cons (pv 0) (pa_cons (pe_bty (by rfl) T.n_bool PyProof.Rows.Boot.«bool») pa_nil)))))))), ?_⟩
    try dsimp only [cxOf, Cx.nox]
    refine ⟨_, rfl, _, _, .type "int", true, rfl, .int _, .inl ⟨_, rfl, kit_ii⟩, _, rfl, iteT ?_⟩
    exact ⟨_, rfl, _, _, .type "int", false, rfl, .int _, .inl ⟨_, rfl, kit_ib⟩, _, rfl, q⟩
theorem same_tyOf {H : Hp} {v : V} : ∀ {d : D}, Rep H v d → (d = .n ∧ v = .non) ∨ (∃ k, d = .i k ∧ v = .int k) ∨ (∃ x, d = .s x ∧ v = .str x) ∨ (∃ ds a xs, d = .t ds ∧ v = .ref a ∧ H a = some (.tup xs) ∧ RepL H xs ds) ∨ (∃ ds a xs, d = .l ds ∧ v = .ref a ∧ H a = some (.lst xs) ∧ RepL H xs ds)
  | .n, r => by simp only [Rep] at r; exact .inl ⟨rfl, r⟩
  | .i k, r => by simp only [Rep] at r; exact .inr (.inl ⟨k, rfl, r⟩)
  | .s x, r => by simp only [Rep] at r; exact .inr (.inr (.inl ⟨x, rfl, r⟩))
  | .t ds, r => by simp only [Rep] at r; obtain ⟨a, xs, h1, h2, h3⟩ := r; exact .inr (.inr (.inr (.inl ⟨ds, a, xs, rfl, h1, h2, h3⟩)))
  | .l ds, r => by simp only [Rep] at r; obtain ⟨a, xs, h1, h2, h3⟩ := r; exact .inr (.inr (.inr (.inr ⟨ds, a, xs, rfl, h1, h2, h3⟩)))
theorem pop_last {α : Type} (xs : List α) (x : α) : (xs ++ [x])[(xs ++ [x]).length - 1]? = some x := by simp
theorem pop_drop {α : Type} (xs : List α) (x : α) : (xs ++ [x]).dropLast = xs := by simp
set_option maxHeartbeats 8000000 in
theorem ok_l_same (T : Txt K w mg t) : FnOk P w K mg base CX0 2 t.f_l_same t.fd_l_same ["_law_found", "_law_due"] spSame := by
  refine T.F_l_same.ok sc_l_same (fun vs H Q E h => ?_) (fun cdv A outer s H vs Q E hr h => ?_)
  · obtain ⟨v, u, d, rfl, _⟩ := h; rfl
  · obtain ⟨v, u, d, rfl, rv, ru, hsz, k⟩ := h
    refine ⟨_, (pss_cons (ps_set (i := 2) sc_l_same.nd rfl (Or.inl rfl) (pe_lst (pa_cons (pv 0) pa_nil)))
      (pss_cons (ps_set (i := 3) sc_l_same.nd rfl (Or.inl rfl) (pe_lst (pa_cons (pv 1) pa_nil)))
      (pss_cons (ps_while PassesOwn.never (pt_cmpR (op_neNil hr.units0) (pv 3) (pe_lst pa_nil) (nomark _)) (pss_cons (ps_set (i := 4) sc_l_same.nd rfl (Or.inl rfl) (pe_bm0 PySem.F.plainAttrs_list PySem.F.slot_list_pop PySem.F.type_list_pop mt_pop (pv 2)))
      (pss_cons (ps_set (i := 5) sc_l_same.nd rfl (Or.inl rfl) (pe_bm0 PySem.F.plainAttrs_list PySem.F.slot_list_pop PySem.F.type_list_pop mt_pop (pv 3)))
      (pss_one (ps_if (pt_val (pe_callB call_isi (by rfl) T.n_isinstance PyProof.Rows.Boot.«isinstance» (pa_cons (pv 5) (pa_cons (pe_tup (pa_cons (pe_bty (by rfl) T.n_list PyProof.Rows.Boot.«list») (pa_cons (pe_bty (by rfl) T.n_tuple PyProof.Rows.Boot.«tuple») pa_nil))) pa_nil)))) (pss_cons (ps_if (pt_cmpR op_ne (pe_callB call_isi (by rfl) T.n_isinstance PyProof.Rows.Boot.«isinstance» (pa_cons (pv 4) (pa_cons (pe_bty (by rfl) T.n_list PyProof.Rows.Boot.«list») pa_nil))) (pe_callB call_isi (by rfl) T.n_isinstance PyProof.Rows.Boot.«isinstance» (pa_cons (pv 5) (pa_cons (pe_bty (by rfl) T.n_list PyProof.Rows.Boot.«list») pa_nil))) (nomark _)) (pss_one (ps_ret pe_bl)) pss_nil)
      (pss_cons (ps_if (PW.pt (pw_or (pt_cmpR op_ne (pe_callB call_isi (by rfl) T.n_isinstance PyProof.Rows.Boot.«isinstance» (pa_cons (pv 4) (pa_cons (pe_bty (by rfl) T.n_tuple PyProof.Rows.Boot.«tuple») pa_nil))) (pe_callB call_isi (by rfl) T.n_isinstance PyProof.Rows.Boot.«isinstance» (pa_cons (pv 5) (pa_cons (pe_bty (by rfl) T.n_tuple PyProof.Rows.Boot.«tuple») pa_nil))) (nomark _)) (pw_or1 (pt_cmpR op_ne (pe_callB call_len_seq (by rfl) T.n_len PySem.boot_len (pa_cons (pv 4) pa_nil)) (pe_callB call_len_seq (by rfl) T.n_len PySem.boot_len (pa_cons (pv 5) pa_nil)) (nomark _))))) (pss_one (ps_ret pe_bl)) pss_nil)
      (pss_cons (ps_expr (pe_bm PySem.F.plainAttrs_list PySem.F.slot_list_extend PySem.F.type_list_extend mt_extendS (pv 2) (pa_cons (pv 4) pa_nil)))
      (pss_one (ps_expr (pe_bm PySem.F.plainAttrs_list PySem.F.slot_list_extend PySem.F.type_list_extend mt_extendS (pv 3) (pa_cons (pv 5) pa_nil))))))) (pss_one (ps_if (pt_cmp (pc_isN (pv 5))) (pss_one (ps_if (pt_cmp (pc_notN (pv 4))) (pss_one (ps_ret pe_bl)) pss_nil)) (pss_one (ps_if (pt_val (pe_callB call_isi (by rfl) T.n_isinstance PyProof.Rows.Boot.«isinstance» (pa_cons (pv 5) (pa_cons (pe_bty (by rfl) T.n_str PyProof.Rows.Boot.«str») pa_nil)))) (pss_one (ps_if (PW.pt (pw_or (pt_not (pt_val (pe_callB call_isi (by rfl) T.n_isinstance PyProof.Rows.Boot.«isinstance» (pa_cons (pv 4) (pa_cons (pe_bty (by rfl) T.n_str PyProof.Rows.Boot.«str») pa_nil))))) (pw_or1 (pt_cmpR op_ne (pv 4) (pv 5) (nomark _))))) (pss_one (ps_ret pe_bl)) pss_nil)) (pss_one (ps_if (PW.pt (pw_or (pt_not (pt_val (pe_call (ok_l_whole T) (hr.mono (by decide) : Room 1 _) (by rfl) T.m_l_whole T.F_l_whole.kp T.b_l_whole .nil pass0 (pa_cons (pv 4) pa_nil)))) (pw_or1 (pt_cmpR op_ne (pv 4) (pv 5) (nomark _))))) (pss_one (ps_ret pe_bl)) pss_nil)))))))))))
      (pss_one (ps_ret pe_bl))))), ?_⟩
    try dsimp only [cxOf, Cx.nox]
    show let Z1 : L2.TS := _; let Z2 : L2.TS := _; let Z3 : L2.TS := _; let Z4 : L2.TS := _; let Z5 : L2.TS := _; let Z6 : L2.TS := tIfS _ Z5 tNext; let Z7 : L2.TS := _; let Z8 : L2.TS := tIfS _ Z7 tNext; let Z9 : L2.TS := _; let Z10 : L2.TS := _; let Z11 : L2.TS := tSeq Z6 (tSeq Z8 (tSeq Z9 (Z10))); let Z12 : L2.TS := _; let Z13 : L2.TS := tIfS _ Z12 tNext; let Z14 : L2.TS := _; let Z15 : L2.TS := tIfS _ Z14 tNext; let Z16 : L2.TS := _; let Z17 : L2.TS := tIfS _ Z16 tNext; let Z18 : L2.TS := tIfS _ Z15 Z17; let Z19 : L2.TS := tIfS _ Z13 Z18; let Z20 : L2.TS := tIfS _ Z11 Z19; let Z21 : L2.TS := tSeq Z3 (tSeq Z4 (Z20)); let Z22 : L2.TS := tWhile _ Z21; let Z23 : L2.TS := _; let D0 : Ends := _; (tSeq Z1 (tSeq Z2 (tSeq Z22 (Z23)))) D0 _ _
    intro Z1 Z2 Z3 Z4 Z5 Z6 Z7 Z8 Z9 Z10 Z11 Z12 Z13 Z14 Z15 Z16 Z17 Z18 Z19 Z20 Z21 Z22 Z23 D0
    refine ⟨_, rfl, (by show 1 ≤ sizeLine; decide), fun L hL => ⟨_, rfl, (by show 1 ≤ sizeLine; decide), fun R hR => ?_⟩⟩
    have nLR : L ≠ R := fun e => by subst e; rw [upd_same] at hR; cases hR
    have hR0 : H R = none := by rw [upd_ne nLR.symm] at hR; exact hR
    refine ⟨fun m σ H2 => ∃ ds xs ys o1 o2, σ = [some v, some u, some (.ref L), some (.ref R), o1, o2] ∧ Same H H2 ∧ H2 L = some (.lst xs) ∧ H2 R = some (.lst ys) ∧ RepL H xs ds ∧ RepL H ys ds ∧ m = D.sizes ds ∧ D.sizes ds ≤ 1000000,
      ⟨_, [d], [v], [u], none, none, rfl, (same_new hL).trans (same_new hR), (by rw [upd_ne nLR, upd_same]), upd_same, by simp only [RepL]; exact ⟨v, [], rfl, rv, rfl⟩, by simp only [RepL]; exact ⟨u, [], rfl, ru, rfl⟩, rfl, by simp only [D.sizes]; lia⟩, ?_⟩
    rintro m σ H2 ⟨ds, xs, ys, o1, o2, rfl, s2, gL, gR, rx, ry, rfl, hb⟩
    refine ⟨_, rfl, (by show 0 ≤ sizeLine; decide), fun e he => ⟨R, e, ys, rfl, rfl, SqL.of (same_new he _ _ gR), SqL.of upd_same, _, rfl, ?_⟩⟩
    have s3 : Same H (upd H2 e (.lst [])) := s2.trans (same_new he)
    have gL3 : upd H2 e (.lst []) L = some (.lst xs) := same_new he _ _ gL
    have gR3 : upd H2 e (.lst []) R = some (.lst ys) := same_new he _ _ gR
    generalize upd H2 e (.lst []) = H3 at s3 gL3 gR3
    clear gL gR s2 he
    rcases List.eq_nil_or_concat ds with rfl | ⟨ds0, dd, rfl⟩
    · simp only [RepL] at ry
      subst ry
      refine iteFb rfl ?_
      exact k H3 s3
    · rw [List.concat_eq_append] at rx ry hb ⊢
      obtain ⟨xs0, x, rfl, rx0, rxl⟩ := RepL.last rx
      obtain ⟨ys0, y, rfl, ry0, ryl⟩ := RepL.last ry
      refine iteTb (by simp) ?_
      refine ⟨fun σ' H' => ∃ m', m' < D.sizes (ds0 ++ [dd]) ∧ ∃ ds xs ys o1 o2, σ' = [some v, some u, some (.ref L), some (.ref R), o1, o2] ∧ Same H H' ∧ H' L = some (.lst xs) ∧ H' R = some (.lst ys) ∧ RepL H xs ds ∧ RepL H ys ds ∧ m' = D.sizes ds ∧ D.sizes ds ≤ 1000000, fun σ' H' z => z, ?_⟩
      refine ⟨_, rfl, .inl ⟨rfl, _, SqL.of gL3⟩, L, _, x, rfl, rfl, gL3, pop_last _ _, ?_⟩
      rw [pop_drop]
      have gR4 : upd H3 L (.lst xs0) R = some (.lst (ys0 ++ [y])) := by rw [upd_ne nLR.symm]; exact gR3
      refine ⟨_, rfl, .inl ⟨rfl, _, SqL.of gR4⟩, R, _, y, rfl, rfl, gR4, pop_last _ _, ?_⟩
      rw [pop_drop]
      have s5 : Same H (upd (upd H3 L (.lst xs0)) R (.lst ys0)) := fun b o hbo => by
        rw [upd_ne (ne_of_none hbo hR0), upd_ne (ne_of_none hbo hL)]
        exact s3 b o hbo
      have gL5 : upd (upd H3 L (.lst xs0)) R (.lst ys0) L = some (.lst xs0) := by rw [upd_ne nLR, upd_same]
      have gR5 : upd (upd H3 L (.lst xs0)) R (.lst ys0) R = some (.lst ys0) := upd_same
      generalize upd (upd H3 L (.lst xs0)) R (.lst ys0) = H5 at s5 gL5 gR5
      have hszd : D.sizes (ds0 ++ [dd]) = D.sizes ds0 + dd.size := by rw [D.sizes_append]; simp [D.sizes]
      have go : ∀ (H6 : Hp), Same H5 H6 → ∃ m', m' < D.sizes (ds0 ++ [dd]) ∧ ∃ ds xs ys o1 o2, [some v, some u, some (.ref L), some (.ref R), some x, some y] = [some v, some u, some (.ref L), some (.ref R), o1, o2] ∧ Same H H6 ∧ H6 L = some (.lst xs) ∧ H6 R = some (.lst ys) ∧ RepL H xs ds ∧ RepL H ys ds ∧ m' = D.sizes ds ∧ D.sizes ds ≤ 1000000 := fun H6 s6 => by
        have := dd.size_pos
        exact ⟨_, by lia, ds0, xs0, ys0, _, _, rfl, s5.trans s6, s6 _ _ gL5, s6 _ _ gR5, rx0, ry0, rfl, by lia⟩
      refine ⟨_, rfl, (by show 2 ≤ sizeLine; decide), fun tt ht => ?_⟩
      have s6 : Same H5 (upd H5 tt (.tup [.ty "list", .ty "tuple"])) := same_new ht
      have h6 : upd H5 tt (.tup [.ty "list", .ty "tuple"]) tt = some (.tup [.ty "list", .ty "tuple"]) := upd_same
      generalize upd H5 tt (.tup [.ty "list", .ty "tuple"]) = H6 at s6 h6
      have sH6 := s5.trans s6
      have grow : ∀ (es : List D) (zs ws : List V), RepL H zs es → RepL H ws es → dd.size = 1 + D.sizes es → ∀ H7, Same H6 H7 → ∃ m', m' < D.sizes (ds0 ++ [dd]) ∧ ∃ ds xs ys o1 o2, [some v, some u, some (.ref L), some (.ref R), some x, some y] = [some v, some u, some (.ref L), some (.ref R), o1, o2] ∧ Same H (upd (upd H7 L (.lst (xs0 ++ zs))) R (.lst (ys0 ++ ws))) ∧ (upd (upd H7 L (.lst (xs0 ++ zs))) R (.lst (ys0 ++ ws))) L = some (.lst xs) ∧ (upd (upd H7 L (.lst (xs0 ++ zs))) R (.lst (ys0 ++ ws))) R = some (.lst ys) ∧ RepL H xs ds ∧ RepL H ys ds ∧ m' = D.sizes ds ∧ D.sizes ds ≤ 1000000 := fun es zs ws rz rw' he H7 s7 => by
        refine ⟨_, ?_, ds0 ++ es, xs0 ++ zs, ys0 ++ ws, _, _, rfl, fun b o hbo => ?_, by rw [upd_ne nLR, upd_same], upd_same, rx0.append rz, ry0.append rw', rfl, ?_⟩
        · rw [D.sizes_append]; lia
        · rw [upd_ne (ne_of_none hbo hR0), upd_ne (ne_of_none hbo hL)]
          exact s7 b o (sH6 b o hbo)
        · rw [D.sizes_append]; lia
      rcases same_tyOf rxl with ⟨rfl, rfl⟩ | ⟨k1, rfl, rfl⟩ | ⟨x1, rfl, rfl⟩ | ⟨es, a, zs, rfl, rfl, ha, rz⟩ | ⟨es, a, zs, rfl, rfl, ha, rz⟩
      · simp only [Rep] at ryl
        subst ryl
        refine ⟨_, _, _, false, rfl, .non, .inr ⟨tt, _, [.type "list", .type "tuple"], rfl, h6, rfl, kit_an⟩, _, rfl, iteF ?_⟩
        refine ⟨_, rfl, _, rfl, iteTb rfl ?_⟩
        refine ⟨_, rfl, _, rfl, iteFb rfl ?_⟩
        exact go H6 s6
      · simp only [Rep] at ryl
        subst ryl
        refine ⟨_, _, _, false, rfl, .int _, .inr ⟨tt, _, [.type "list", .type "tuple"], rfl, h6, rfl, kit_ai⟩, _, rfl, iteF ?_⟩
        refine ⟨_, rfl, _, rfl, iteFb rfl ?_⟩
        refine ⟨_, rfl, _, _, _, false, rfl, .int _, .inl ⟨_, rfl, kit_is⟩, _, rfl, iteF ?_⟩
        refine ⟨_, rfl, k1, rfl, _, rfl, iteF ?_⟩
        refine ⟨_, rfl, _, rfl, rfl, _, rfl, iteFb (by simp) ?_⟩
        exact go H6 s6
      · simp only [Rep] at ryl
        subst ryl
        refine ⟨_, _, _, false, rfl, .str _, .inr ⟨tt, _, [.type "list", .type "tuple"], rfl, h6, rfl, kit_as⟩, _, rfl, iteF ?_⟩
        refine ⟨_, rfl, _, rfl, iteFb rfl ?_⟩
        refine ⟨_, rfl, _, _, _, true, rfl, .str _, .inl ⟨_, rfl, kit_ss⟩, _, rfl, iteT ?_⟩
        refine ⟨_, rfl, _, _, _, true, rfl, .str _, .inl ⟨_, rfl, kit_ss⟩, _, rfl, iteF ?_⟩
        refine ⟨_, rfl, _, rfl, rfl, _, rfl, iteFb (by simp) ?_⟩
        exact go H6 s6
      · simp only [Rep] at ryl
        obtain ⟨a2, zs2, rfl, ha2, rz2⟩ := ryl
        have ha6 := sH6 _ _ ha
        have ha26 := sH6 _ _ ha2
        have hl1 := rz.length
        have hl2 := rz2.length
        refine ⟨_, _, _, true, rfl, .tup ha26, .inr ⟨tt, _, [.type "list", .type "tuple"], rfl, h6, rfl, kit_at⟩, _, rfl, iteT ?_⟩
        refine ⟨_, rfl, _, _, _, false, rfl, .tup ha6, .inl ⟨_, rfl, kit_tl⟩, _, rfl, _, _, _, false, rfl, .tup ha26, .inl ⟨_, rfl, kit_tl⟩, rfl, _, rfl, iteFb rfl ?_⟩
        refine ⟨_, rfl, _, _, _, true, rfl, .tup ha6, .inl ⟨_, rfl, kit_tt⟩, _, rfl, _, _, _, true, rfl, .tup ha26, .inl ⟨_, rfl, kit_tt⟩, rfl, _, rfl, iteFb rfl ?_⟩
        refine ⟨_, rfl, a, zs, rfl, .inr (SqT.of ha6), _, rfl, a2, zs2, rfl, .inr (SqT.of ha26), rfl, _, rfl, iteFb (by rw [hl1, hl2]; simp) ?_⟩
        have b1 : xs0.length + zs.length ≤ sizeLine := by
          have q1 := rx0.length
          have q2 := D.length_le_sizes ds0
          have q3 := D.length_le_sizes es
          have q4 : (D.t es).size = 1 + D.sizes es := by simp [D.size]
          have : (1000000 : Nat) ≤ sizeLine := by decide
          lia
        have b2 : ys0.length + zs2.length ≤ sizeLine := by
          have q1 := ry0.length
          have q2 := D.length_le_sizes ds0
          have q3 := D.length_le_sizes es
          have q4 : (D.t es).size = 1 + D.sizes es := by simp [D.size]
          have : (1000000 : Nat) ≤ sizeLine := by decide
          lia
        have nLa2 : a2 ≠ L := ne_of_none ha2 hL
        have gL6 := s6 _ _ gL5
        have gR6 : upd H6 L (.lst (xs0 ++ zs)) R = some (.lst ys0) := by rw [upd_ne nLR.symm]; exact s6 _ _ gR5
        refine ⟨_, rfl, .inl ⟨rfl, _, SqL.of gL6⟩, _, rfl, L, a, xs0, zs, rfl, rfl, gL6, (.inr (SqT.of ha6)), b1, ?_⟩
        refine ⟨_, rfl, .inl ⟨rfl, _, SqL.of gR6⟩, _, rfl, R, a2, ys0, zs2, rfl, rfl, gR6, (.inr (SqT.of (by rw [upd_ne nLa2]; exact ha26))), b2, ?_⟩
        exact grow es zs zs2 rz rz2 (by simp [D.size]) H6 (Same.refl _)
      · simp only [Rep] at ryl
        obtain ⟨a2, zs2, rfl, ha2, rz2⟩ := ryl
        have ha6 := sH6 _ _ ha
        have ha26 := sH6 _ _ ha2
        have hl1 := rz.length
        have hl2 := rz2.length
        refine ⟨_, _, _, true, rfl, .lst ha26, .inr ⟨tt, _, [.type "list", .type "tuple"], rfl, h6, rfl, kit_al⟩, _, rfl, iteT ?_⟩
        refine ⟨_, rfl, _, _, _, true, rfl, .lst ha6, .inl ⟨_, rfl, kit_ll⟩, _, rfl, _, _, _, true, rfl, .lst ha26, .inl ⟨_, rfl, kit_ll⟩, rfl, _, rfl, iteFb rfl ?_⟩
        refine ⟨_, rfl, _, _, _, false, rfl, .lst ha6, .inl ⟨_, rfl, kit_lt⟩, _, rfl, _, _, _, false, rfl, .lst ha26, .inl ⟨_, rfl, kit_lt⟩, rfl, _, rfl, iteFb rfl ?_⟩
        refine ⟨_, rfl, a, zs, rfl, .inl (SqL.of ha6), _, rfl, a2, zs2, rfl, .inl (SqL.of ha26), rfl, _, rfl, iteFb (by rw [hl1, hl2]; simp) ?_⟩
        have b1 : xs0.length + zs.length ≤ sizeLine := by
          have q1 := rx0.length
          have q2 := D.length_le_sizes ds0
          have q3 := D.length_le_sizes es
          have q4 : (D.l es).size = 1 + D.sizes es := by simp [D.size]
          have : (1000000 : Nat) ≤ sizeLine := by decide
          lia
        have b2 : ys0.length + zs2.length ≤ sizeLine := by
          have q1 := ry0.length
          have q2 := D.length_le_sizes ds0
          have q3 := D.length_le_sizes es
          have q4 : (D.l es).size = 1 + D.sizes es := by simp [D.size]
          have : (1000000 : Nat) ≤ sizeLine := by decide
          lia
        have nLa2 : a2 ≠ L := ne_of_none ha2 hL
        have gL6 := s6 _ _ gL5
        have gR6 : upd H6 L (.lst (xs0 ++ zs)) R = some (.lst ys0) := by rw [upd_ne nLR.symm]; exact s6 _ _ gR5
        refine ⟨_, rfl, .inl ⟨rfl, _, SqL.of gL6⟩, _, rfl, L, a, xs0, zs, rfl, rfl, gL6, (.inl (SqL.of ha6)), b1, ?_⟩
        refine ⟨_, rfl, .inl ⟨rfl, _, SqL.of gR6⟩, _, rfl, R, a2, ys0, zs2, rfl, rfl, gR6, (.inl (SqL.of (by rw [upd_ne nLa2]; exact ha26))), b2, ?_⟩
        exact grow es zs zs2 rz rz2 (by simp [D.size]) H6 (Same.refl _)
end
end K07
namespace K07
open PySem L2
noncomputable def nm0 (ns : List Int) (i : Int) : Int := (ns[i.toNat]?).getD 0
noncomputable def S0 (ns : List Int) : TS := ⟨fun _ => ⟨fun _ => .no, nm0 ns, none⟩, pg0 ns, fun _ => [], fun _ => [], []⟩
theorem nm0_map (ns : List Int) : ns.map V.int = (List.range ns.length).map fun p : Nat => V.int (nm0 ns p) := by
  refine List.ext_getElem? fun i => ?_
  rw [List.getElem?_map, List.getElem?_map]
  by_cases h : i < ns.length
  · rw [List.getElem?_range h, List.getElem?_eq_getElem h]
    simp [nm0, h]
  · rw [List.getElem?_eq_none (by lia), List.getElem?_eq_none (by simpa using h)]
    rfl
theorem rep_range (n : Nat) (v : V) : List.replicate n v = (List.range n).map fun _ => v := by
  rw [List.map_const', List.length_range]
theorem comp_new {n : Nat} {acc : Addr} {te : TE} {σ : St} {H1 : Hp} {Q : VK} {c : List V} (Pσ : St → Prop) (h0 : Pσ σ) (hacc : H1 acc = none) (hn : n ≤ 1000)
    (hg : ∀ i σ', Pσ σ' → Pσ (σ'.set 0 (some (.int i))))
    (hel : ∀ σ' H' (R : VK), Pσ σ' → Same H1 H' → (∀ l H'', H' l = none → Same H' H'' → H'' l = some (.lst c) → R (.ref l) H'') → te σ' H' R)
    (hd : ∀ (f : Nat → Addr) H', Same H1 H' → H' acc = some (.lst ((List.range n).map fun d => V.ref (f d))) → (∀ d, d < n → H1 (f d) = none ∧ f d ≠ acc ∧ H' (f d) = some (.lst c)) → (∀ d e, d < n → e < n → f d = f e → d = e) → Q (.ref acc) H') :
    CompGo (Itr 0 n) (gName 0) tYes te σ acc H1 Q := by
  have sl : sizeLine = 16777216 := by decide
  let PV1 : Nat → List V → St → Hp → Prop := fun i zs σ' H' => Pσ σ' ∧ Same H1 H' ∧ H' acc = some (.lst zs) ∧ ∃ f : Nat → Addr, zs = (List.range i).map (fun d => V.ref (f d)) ∧ (∀ d, d < i → H1 (f d) = none ∧ f d ≠ acc ∧ H' (f d) = some (.lst c)) ∧ ∀ d e, d < i → e < i → f d = f e → d = e
  refine comp_range PV1 ?_ ?_ ?_ ?_
  · exact ⟨h0, same_new hacc, upd_same, fun _ => 0, rfl, fun d hd => absurd hd (Nat.not_lt_zero _), fun d e hd => absurd hd (Nat.not_lt_zero _)⟩
  · rintro i zs σ' H' _ ⟨_, _, h, _⟩
    exact h
  · rintro i zs σ' H' hi ⟨hp, s', ha', f, rfl, hf, inj⟩
    refine gYes_if (hel _ H' _ (hg _ _ hp) s' fun l H'' hl s'' hl'' => ?_)
    have ha'' := s'' _ _ ha'
    have nal : acc ≠ l := ne_of_none ha' hl
    have hz : ((List.range i).map fun d => V.ref (f d)).length < sizeLine := by rw [List.length_map, List.length_range]; lia
    refine CStep.mk hi ha'' hz ⟨hg _ _ hp, same_upd (s'.trans s'') hacc, upd_same, setf f i l, ?_, fun d hd => ?_, fun d e hd he h => ?_⟩
    · rw [List.range_succ, List.map_append]
      congr 1
      · refine List.map_congr_left fun d hd => ?_
        rw [setf_ne _ _ (Nat.ne_of_lt (List.mem_range.mp hd))]
      · show [V.ref l] = [V.ref _]; rw [setf_same]
    · by_cases e : d = i
      · subst e
        rw [setf_same]
        exact ⟨Same.free s' hl, nal.symm, by rw [upd_ne nal.symm]; exact hl''⟩
      · rw [setf_ne _ _ e]
        obtain ⟨h1, h2, h3⟩ := hf d (by lia)
        exact ⟨h1, h2, by rw [upd_ne h2]; exact s'' _ _ h3⟩
    · have nl : ∀ d, d < i → f d ≠ l := fun d hd => ne_of_none (hf d hd).2.2 hl
      by_cases h1 : d = i
      · by_cases h2 : e = i
        · rw [h1, h2]
        · rw [h1, setf_same, setf_ne _ _ h2] at h; exact absurd h.symm (nl e (by lia))
      · by_cases h2 : e = i
        · rw [h2, setf_same, setf_ne _ _ h1] at h; exact absurd h (nl d (by lia))
        · rw [setf_ne _ _ h1, setf_ne _ _ h2] at h; exact inj d e (by lia) (by lia) h
  · rintro zs σ' H' ⟨_, s', ha', f, rfl, hf, inj⟩
    exact hd f H' s' ha' hf inj
noncomputable def oc (n : Nat) (ns : List Int) (A : Mb → Addr) : Mb → HO
  | .wishes => .lst (List.replicate n .non)
  | .rights => .lst ((List.range n).map fun d => V.ref (A (.rt d)))
  | .copies => .lst ((List.range n).map fun d => V.ref (A (.cp d)))
  | .ups => .lst ((List.range n).map fun d => V.ref (A (.up d)))
  | .downs => .lst ((List.range n).map fun d => V.ref (A (.dn d)))
  | .rt _ => .lst (List.replicate ns.length (.str "none"))
  | .cp _ => .lst (ns.map V.int)
  | .shelf p => .dK (skv (pg0 ns p) (A (.rdr p)) (A (.asq p)))
  | _ => .lst []
structure Stg (n : Nat) (ns : List Int) (H Hs : Hp) (A : Mb → Addr) (ok : Mb → Prop) (kv : List (Key × V)) (zs : List V) : Prop where
  sm : Same H Hs
  inj : ∀ x y, ok x → ok y → A x = A y → x = y
  fr : ∀ x, ok x → H (A x) = none
  ct : ∀ x, ok x → x ≠ .town → x ≠ .shelves → Hs (A x) = some (oc n ns A x)
  ot : ok .town
  os : ok .shelves
  tw : Hs (A .town) = some (.dK kv)
  sh : Hs (A .shelves) = some (.lst zs)
theorem Stg.live {n : Nat} {ns : List Int} {H Hs : Hp} {A : Mb → Addr} {ok : Mb → Prop} {kv : List (Key × V)} {zs : List V} (S : Stg n ns H Hs A ok kv zs) (x : Mb) (hx : ok x) : ∃ o, Hs (A x) = some o := by
  by_cases h1 : x = .town
  · rw [h1]; exact ⟨_, S.tw⟩
  · by_cases h2 : x = .shelves
    · rw [h2]; exact ⟨_, S.sh⟩
    · exact ⟨_, S.ct x hx h1 h2⟩
theorem Stg.same {n : Nat} {ns : List Int} {H Hs H2 : Hp} {A : Mb → Addr} {ok : Mb → Prop} {kv : List (Key × V)} {zs : List V} (S : Stg n ns H Hs A ok kv zs) (s : Same Hs H2) : Stg n ns H H2 A ok kv zs :=
  ⟨S.sm.trans s, S.inj, S.fr, fun x hx h1 h2 => s _ _ (S.ct x hx h1 h2), S.ot, S.os, s _ _ S.tw, s _ _ S.sh⟩
theorem Stg.more {n : Nat} {ns : List Int} {H Hs H2 : Hp} {A A' : Mb → Addr} {ok new : Mb → Prop} {kv kv' : List (Key × V)} {zs : List V} (S : Stg n ns H Hs A ok kv zs) (s2 : Same Hs H2) (hA : ∀ x, ok x → A' x = A x) (hoc : ∀ x, ok x → oc n ns A' x = oc n ns A x)
    (hn : ∀ x, new x → Hs (A' x) = none ∧ H2 (A' x) = some (oc n ns A' x)) (hi : ∀ x y, new x → new y → A' x = A' y → x = y) : Stg n ns H (upd H2 (A .town) (.dK kv')) A' (fun x => ok x ∨ new x) kv' zs := by
  have ntw : ∀ x, ok x → x ≠ .town → A x ≠ A .town := fun x hx h e => h (S.inj _ _ hx S.ot e)
  have nnew : ∀ x y, ok x → new y → A x ≠ A' y := fun x y hx hy e => by
    obtain ⟨o, h1⟩ := S.live x hx
    rw [e, (hn y hy).1] at h1; cases h1
  have S2 := S.same s2
  refine ⟨?_, fun x y hx hy e => ?_, fun x hx => ?_, fun x hx h1 h2 => ?_, .inl S.ot, .inl S.os, ?_, ?_⟩
  · exact same_upd (S.sm.trans s2) (S.fr _ S.ot)
  · rcases hx with hx | hx
    · rcases hy with hy | hy
      · rw [hA x hx, hA y hy] at e; exact S.inj x y hx hy e
      · rw [hA x hx] at e; exact absurd e (nnew x y hx hy)
    · rcases hy with hy | hy
      · rw [hA y hy] at e; exact absurd e.symm (nnew y x hy hx)
      · exact hi x y hx hy e
  · rcases hx with hx | hx
    · rw [hA x hx]; exact S.fr x hx
    · exact Same.free S.sm (hn x hx).1
  · rcases hx with hx | hx
    · rw [hA x hx, hoc x hx, upd_ne (ntw x hx h1)]; exact S2.ct x hx h1 h2
    · rw [upd_ne (nnew _ _ S.ot hx).symm]; exact (hn x hx).2
  · rw [hA _ S.ot, upd_same]
  · rw [hA _ S.os, upd_ne (ntw _ S.os (by intro z; cases z))]; exact S2.sh
theorem Stg.shelf {n : Nat} {ns : List Int} {H Hs H2 : Hp} {A A' : Mb → Addr} {ok new : Mb → Prop} {kv : List (Key × V)} {zs zs' : List V} (S : Stg n ns H Hs A ok kv zs) (s2 : Same Hs H2) (hA : ∀ x, ok x → A' x = A x) (hoc : ∀ x, ok x → oc n ns A' x = oc n ns A x)
    (hn : ∀ x, new x → Hs (A' x) = none ∧ H2 (A' x) = some (oc n ns A' x)) (hi : ∀ x y, new x → new y → A' x = A' y → x = y) : Stg n ns H (upd H2 (A .shelves) (.lst zs')) A' (fun x => ok x ∨ new x) kv zs' := by
  have nsh : ∀ x, ok x → x ≠ .shelves → A x ≠ A .shelves := fun x hx h e => h (S.inj _ _ hx S.os e)
  have nnew : ∀ x y, ok x → new y → A x ≠ A' y := fun x y hx hy e => by
    obtain ⟨o, h1⟩ := S.live x hx
    rw [e, (hn y hy).1] at h1; cases h1
  have S2 := S.same s2
  refine ⟨?_, fun x y hx hy e => ?_, fun x hx => ?_, fun x hx h1 h2 => ?_, .inl S.ot, .inl S.os, ?_, ?_⟩
  · exact same_upd (S.sm.trans s2) (S.fr _ S.os)
  · rcases hx with hx | hx
    · rcases hy with hy | hy
      · rw [hA x hx, hA y hy] at e; exact S.inj x y hx hy e
      · rw [hA x hx] at e; exact absurd e (nnew x y hx hy)
    · rcases hy with hy | hy
      · rw [hA y hy] at e; exact absurd e.symm (nnew y x hy hx)
      · exact hi x y hx hy e
  · rcases hx with hx | hx
    · rw [hA x hx]; exact S.fr x hx
    · exact Same.free S.sm (hn x hx).1
  · rcases hx with hx | hx
    · rw [hA x hx, hoc x hx, upd_ne (nsh x hx h2)]; exact S2.ct x hx h1 h2
    · rw [upd_ne (nnew _ _ S.os hx).symm]; exact (hn x hx).2
  · rw [hA _ S.ot, upd_ne (nsh _ S.ot (by intro z; cases z))]; exact S2.tw
  · rw [hA _ S.os, upd_same]
theorem Stg.weak {n : Nat} {ns : List Int} {H Hs : Hp} {A : Mb → Addr} {ok ok' : Mb → Prop} {kv : List (Key × V)} {zs : List V} (S : Stg n ns H Hs A ok kv zs) (h : ∀ x, ok' x → ok x) (ht : ok' .town) (hs : ok' .shelves) : Stg n ns H Hs A ok' kv zs :=
  ⟨S.sm, fun x y hx hy e => S.inj x y (h x hx) (h y hy) e, fun x hx => S.fr x (h x hx), fun x hx => S.ct x (h x hx), ht, hs, S.tw, S.sh⟩
theorem Stg.mir {n : Nat} {ns : List Int} {H Hs : Hp} {A : Mb → Addr} (S : Stg n ns H Hs A (Mb.ok n ns.length) (tkv A) ((List.range ns.length).map fun p => V.ref (A (.shelf p)))) : MirAt Hs A n ns.length (S0 ns) [] := by
  refine ⟨S.inj, fun x hx => ?_⟩
  cases x with
  | town => exact ⟨_, S.tw, rfl⟩
  | shelves => exact ⟨_, S.sh, rfl⟩
  | row => exact ⟨_, S.ct .row hx (by intro z; cases z) (by intro z; cases z), [], rfl, by simp [S0, RepL]⟩
  | sent => exact ⟨_, S.ct .sent hx (by intro z; cases z) (by intro z; cases z), [], rfl, by simp [RepL]⟩
  | wishes =>
    refine ⟨_, S.ct .wishes hx (by intro z; cases z) (by intro z; cases z), _, rfl, List.length_replicate, fun d hd => ⟨.non, ?_, rfl⟩⟩
    rw [List.getElem?_replicate, if_pos hd]
  | rights => exact ⟨_, S.ct .rights hx (by intro z; cases z) (by intro z; cases z), rfl⟩
  | copies => exact ⟨_, S.ct .copies hx (by intro z; cases z) (by intro z; cases z), rfl⟩
  | ups => exact ⟨_, S.ct .ups hx (by intro z; cases z) (by intro z; cases z), rfl⟩
  | downs => exact ⟨_, S.ct .downs hx (by intro z; cases z) (by intro z; cases z), rfl⟩
  | rt d => exact ⟨_, S.ct (.rt d) hx (by intro z; cases z) (by intro z; cases z), by show HO.lst _ = HO.lst _; rw [rep_range]; rfl⟩
  | cp d => exact ⟨_, S.ct (.cp d) hx (by intro z; cases z) (by intro z; cases z), by show HO.lst _ = HO.lst _; rw [nm0_map]; rfl⟩
  | up d => exact ⟨_, S.ct (.up d) hx (by intro z; cases z) (by intro z; cases z), [], rfl, by simp [S0, RepL]⟩
  | dn d => exact ⟨_, S.ct (.dn d) hx (by intro z; cases z) (by intro z; cases z), [], rfl, by simp [S0, RepL]⟩
  | shelf p => exact ⟨_, S.ct (.shelf p) hx (by intro z; cases z) (by intro z; cases z), rfl⟩
  | rdr p => exact ⟨_, S.ct (.rdr p) hx (by intro z; cases z) (by intro z; cases z), rfl⟩
  | asq p => exact ⟨_, S.ct (.asq p) hx (by intro z; cases z) (by intro z; cases z), [], rfl, by simp [S0, pg0, RepL]⟩
noncomputable def ok0 (x : Mb) : Prop := x = .town ∨ x = .row ∨ x = .wishes ∨ x = .shelves ∨ x = .sent
noncomputable def ok8 (n : Nat) (x : Mb) : Prop := (((ok0 x ∨ (x = .rights ∨ ∃ d, d < n ∧ x = .rt d)) ∨ (x = .copies ∨ ∃ d, d < n ∧ x = .cp d)) ∨ (x = .ups ∨ ∃ d, d < n ∧ x = .up d)) ∨ (x = .downs ∨ ∃ d, d < n ∧ x = .dn d)
noncomputable def A0 (tw row wi sh se : Addr) : Mb → Addr
  | .town => tw
  | .row => row
  | .wishes => wi
  | .shelves => sh
  | _ => se
noncomputable def A1 (A : Mb → Addr) (a : Addr) (f : Nat → Addr) : Mb → Addr
  | .rights => a
  | .rt d => f d
  | x => A x
noncomputable def A2 (A : Mb → Addr) (a : Addr) (f : Nat → Addr) : Mb → Addr
  | .copies => a
  | .cp d => f d
  | x => A x
noncomputable def A3 (A : Mb → Addr) (a : Addr) (f : Nat → Addr) : Mb → Addr
  | .ups => a
  | .up d => f d
  | x => A x
noncomputable def A4 (A : Mb → Addr) (a : Addr) (f : Nat → Addr) : Mb → Addr
  | .downs => a
  | .dn d => f d
  | x => A x
noncomputable def kv4 (row wi sh se : Addr) : List (Key × V) := [(ks "row", .ref row), (ks "wishes", .ref wi), (ks "shelves", .ref sh), (ks "sent", .ref se)]
theorem kv4_merge {row wi sh se : Addr} : mergeK [] (kv4 row wi sh se) = kv4 row wi sh se := by kernel_rfl
theorem kv5_put {row wi sh se a : Addr} : putK (kv4 row wi sh se) (ks "rights") (.ref a) = kv4 row wi sh se ++ [(ks "rights", .ref a)] := by kernel_rfl
theorem kv6_put {row wi sh se a b : Addr} : putK (kv4 row wi sh se ++ [(ks "rights", .ref a)]) (ks "copies") (.ref b) = kv4 row wi sh se ++ [(ks "rights", .ref a), (ks "copies", .ref b)] := by kernel_rfl
theorem kv7_put {row wi sh se a b c : Addr} : putK (kv4 row wi sh se ++ [(ks "rights", .ref a), (ks "copies", .ref b)]) (ks "ups") (.ref c) = kv4 row wi sh se ++ [(ks "rights", .ref a), (ks "copies", .ref b), (ks "ups", .ref c)] := by kernel_rfl
theorem kv8_put {row wi sh se a b c d : Addr} : putK (kv4 row wi sh se ++ [(ks "rights", .ref a), (ks "copies", .ref b), (ks "ups", .ref c)]) (ks "downs") (.ref d) = kv4 row wi sh se ++ [(ks "rights", .ref a), (ks "copies", .ref b), (ks "ups", .ref c), (ks "downs", .ref d)] := by kernel_rfl
theorem kv8_get {row wi sh se : Addr} {l : List (Key × V)} : valV (kv4 row wi sh se ++ l) (ks "shelves") = some (.ref sh) := by kernel_rfl
theorem one_rep (n : Nat) (v : V) : (List.replicate n [v]).flatten = List.replicate n v := by
  induction n with
  | zero => rfl
  | succ n ih => rw [List.replicate_succ, List.flatten_cons, ih, List.replicate_succ]; rfl
noncomputable def kvS (x : Int) (r q : Addr) : List (Key × V) := [(ks "number", .int x), (ks "writer", .int (-1)), (ks "readers", .ref r), (ks "asked", .ref q), (ks "missing", .int 0)]
theorem kvS_merge {x : Int} {r q : Addr} : mergeK [] (kvS x r q) = skv ⟨x, none, [], [], 0⟩ r q := by kernel_rfl
noncomputable def spTownOf : Sp := fun vs H Q _ => ∃ n l, ∃ ns : List Int, vs = [.int ((n : Nat) : Int), .ref l] ∧ H l = some (.lst (ns.map V.int)) ∧ n ≤ 1000 ∧ ns.length ≤ 1000 ∧
  ∀ A H', MirAt H' A n ns.length (S0 ns) [] → Same H H' → (∀ x : Mb, x.ok n ns.length → H (A x) = none) → Q (.ref (A .town)) H'
section
variable {P : Program} {w : World} {K : PySem.W.Frag} {mg : Str → Option Value} {base : Heap} {t : Adr}
theorem ok_l_town_of (T : Txt K w mg t) : FnOk P w K mg base CX0 1 t.f_l_town_of t.fd_l_town_of ["_law_count", "_law_numbers"] spTownOf := by
  refine T.F_l_town_of.ok sc_l_town_of (fun vs H Q E h => ?_) (fun cdv A outer s H vs Q E hr h => ?_)
  · obtain ⟨n, l, ns, rfl, _⟩ := h; rfl
  · obtain ⟨n, l, ns, rfl, hl, hn, hm, k⟩ := h
    have hu := hu_of hr
    have sl : sizeLine = 16777216 := by decide
    refine' ⟨_, ?sr, ?_⟩
    case' sr => refine' pss_cons ?b1s0x ?b1sr0x
    case' b1sr0x => refine' pss_cons ?b1s1x ?b1sr1x
    case' b1sr1x => refine' pss_cons ?b1s2x ?b1sr2x
    case' b1sr2x => refine' pss_cons ?b1s3x ?b1sr3x
    case' b1sr3x => refine' pss_cons ?b1s4x ?b1sr4x
    case' b1sr4x => refine' pss_cons ?b1s5x ?b1sr5x
    case' b1sr5x => refine' pss_one ?b1s6x
    case' b1s0x => refine' ps_set (X := _) (x := "_law_town") (e := _) (te := _) (i := 2) ?b1s0dhN ?b1s0dhi ?b1s0dhx ?b1s0de ?b1s0dhs ?b1s0dhf
    case' b1s0dhN => exact sc_l_town_of.nd
    case' b1s0dhi => rfl
    case' b1s0dhx => exact (Or.inl rfl)
    case' b1s0dhs => rfl
    case' b1s0dhf => exact .inl rfl
    case' b1s0de => refine' pe_disp (X := _) (trs := _) ?b1s0dp ?b1s0dn2 ?b1s0dn3 ?b1s0dn0 ?b1s0dn1
    case' b1s0dn2 => rfl
    case' b1s0dn3 => rfl
    case' b1s0dn0 => exact List.cons_ne_nil _ _
    case' b1s0dn1 => decide
    case' b1s0dp => refine' pps_cons (X := _) (tk := _) (tv := _) (trs := _) ?b1s0dk0 ?b1s0dv0 ?b1s0dp0x
    case' b1s0dk0 => exact pe_str
    case' b1s0dv0 => refine' (pe_lst pa_nil)
    case' b1s0dp0x => refine' pps_cons (X := _) (tk := _) (tv := _) (trs := _) ?b1s0dk1 ?b1s0dv1 ?b1s0dp1x
    case' b1s0dk1 => exact pe_str
    case' b1s0dv1 => refine' pe_op op_rep ?b1s0dv1a ?b1s0dv1b
    case' b1s0dv1a => refine' (pe_lst (pa_cons pe_non pa_nil))
    case' b1s0dv1b => refine' (pv 0)
    case' b1s0dp1x => refine' pps_cons (X := _) (tk := _) (tv := _) (trs := _) ?b1s0dk2 ?b1s0dv2 ?b1s0dp2x
    case' b1s0dk2 => exact pe_str
    case' b1s0dv2 => refine' (pe_lst pa_nil)
    case' b1s0dp2x => refine' pps_cons (X := _) (tk := _) (tv := _) (trs := _) ?b1s0dk3 ?b1s0dv3 ?b1s0dp3x
    case' b1s0dk3 => exact pe_str
    case' b1s0dv3 => refine' (pe_lst pa_nil)
    case' b1s0dp3x => exact pps_nil
    case' b1s1x => exact (ps_dput hu (pv 2) pe_str (pe_comp (compScope (xs := ["_law_k"]) (ys := ["_law_numbers"]) (js := [1]) rfl (by decide +kernel) (by decide +kernel) (by decide +kernel) (by rfl) ⟨⟨rfl, Or.inl rfl⟩, trivial⟩) rfl (pi_range1 (by rfl) T.n_range (pa_cons (pv 0) pa_nil)) (fun _ _ _ _ _ => (pg_name (i := 0) (show List.Nodup ((["_law_k"] : List Str) ++ (["_law_numbers"] : List Str) : List Str) by decide +kernel) rfl (Or.inl rfl))) (fun _ _ _ _ _ => pif_nil) (fun _ _ _ _ _ => (pe_op op_rep (pe_lst (pa_cons pe_str pa_nil)) (pe_callB (call_len_seqK (K := K) rfl) (by rfl) T.n_len PySem.boot_len (pa_cons (pv 1) pa_nil))))) (by rfl))
    case' b1s2x => exact (ps_dput hu (pv 2) pe_str (pe_comp (compScope (xs := ["_law_k"]) (ys := ["_law_numbers"]) (js := [1]) rfl (by decide +kernel) (by decide +kernel) (by decide +kernel) (by rfl) ⟨⟨rfl, Or.inl rfl⟩, trivial⟩) rfl (pi_range1 (by rfl) T.n_range (pa_cons (pv 0) pa_nil)) (fun _ _ _ _ _ => (pg_name (i := 0) (show List.Nodup ((["_law_k"] : List Str) ++ (["_law_numbers"] : List Str) : List Str) by decide +kernel) rfl (Or.inl rfl))) (fun _ _ _ _ _ => pif_nil) (fun _ _ _ _ _ => (pe_callTy (call_list_ofK (K := K) rfl) (by rfl) T.n_list PyProof.Rows.Boot.«list» (pa_cons (pv 1) pa_nil)))) (by rfl))
    case' b1s3x => exact (ps_dput hu (pv 2) pe_str (pe_comp (compScope (xs := ["_law_k"]) (ys := []) (js := []) rfl (by decide +kernel) (by decide +kernel) (by decide +kernel) (by rfl) trivial) rfl (pi_range1 (by rfl) T.n_range (pa_cons (pv 0) pa_nil)) (fun _ _ _ _ _ => (pg_name (i := 0) (show List.Nodup ((["_law_k"] : List Str) ++ ([] : List Str) : List Str) by decide +kernel) rfl (Or.inl rfl))) (fun _ _ _ _ _ => pif_nil) (fun _ _ _ _ _ => (pe_lst pa_nil))) (by rfl))
    case' b1s4x => exact (ps_dput hu (pv 2) pe_str (pe_comp (compScope (xs := ["_law_k"]) (ys := []) (js := []) rfl (by decide +kernel) (by decide +kernel) (by decide +kernel) (by rfl) trivial) rfl (pi_range1 (by rfl) T.n_range (pa_cons (pv 0) pa_nil)) (fun _ _ _ _ _ => (pg_name (i := 0) (show List.Nodup ((["_law_k"] : List Str) ++ ([] : List Str) : List Str) by decide +kernel) rfl (Or.inl rfl))) (fun _ _ _ _ _ => pif_nil) (fun _ _ _ _ _ => (pe_lst pa_nil))) (by rfl))
    case' b1s5x => refine' ps_for PassesOwn.never rfl (pi_list (pv 1)) (pg_name (i := 3) sc_l_town_of.nd rfl (Or.inl rfl)) ?b1s5b
    case' b1s5b => refine' pss_cons ?b2s0x ?b2sr0x
    case' b2sr0x => refine' pss_one ?b2s1x
    case' b2s0x => refine' ps_set (X := _) (x := "_law_shelf") (e := _) (te := _) (i := 4) ?b2s0dhN ?b2s0dhi ?b2s0dhx ?b2s0de ?b2s0dhs ?b2s0dhf
    case' b2s0dhN => exact sc_l_town_of.nd
    case' b2s0dhi => rfl
    case' b2s0dhx => exact (Or.inl rfl)
    case' b2s0dhs => rfl
    case' b2s0dhf => exact .inl rfl
    case' b2s0de => refine' pe_disp (X := _) (trs := _) ?b2s0dp ?b2s0dn2 ?b2s0dn3 ?b2s0dn0 ?b2s0dn1
    case' b2s0dn2 => rfl
    case' b2s0dn3 => rfl
    case' b2s0dn0 => exact List.cons_ne_nil _ _
    case' b2s0dn1 => decide
    case' b2s0dp => refine' pps_cons (X := _) (tk := _) (tv := _) (trs := _) ?b2s0dk0 ?b2s0dv0 ?b2s0dp0x
    case' b2s0dk0 => exact pe_str
    case' b2s0dv0 => refine' (pv 3)
    case' b2s0dp0x => refine' pps_cons (X := _) (tk := _) (tv := _) (trs := _) ?b2s0dk1 ?b2s0dv1 ?b2s0dp1x
    case' b2s0dk1 => exact pe_str
    case' b2s0dv1 => refine' (pe_un un_neg pe_int)
    case' b2s0dp1x => refine' pps_cons (X := _) (tk := _) (tv := _) (trs := _) ?b2s0dk2 ?b2s0dv2 ?b2s0dp2x
    case' b2s0dk2 => exact pe_str
    case' b2s0dv2 => refine' (pe_lst pa_nil)
    case' b2s0dp2x => refine' pps_cons (X := _) (tk := _) (tv := _) (trs := _) ?b2s0dk3 ?b2s0dv3 ?b2s0dp3x
    case' b2s0dk3 => exact pe_str
    case' b2s0dv3 => refine' (pe_lst pa_nil)
    case' b2s0dp3x => refine' pps_cons (X := _) (tk := _) (tv := _) (trs := _) ?b2s0dk4 ?b2s0dv4 ?b2s0dp4x
    case' b2s0dk4 => exact pe_str
    case' b2s0dv4 => refine' pe_int
    case' b2s0dp4x => exact pps_nil
    case' b2s1x => exact (ps_expr (pe_bm PySem.F.plainAttrs_list PySem.F.slot_list_append PySem.F.type_list_append mt_append (pe_dget hu (pv 2) pe_str (fun _ _ => rfl)) (pa_cons (pv 4) pa_nil)))
    case' b1s6x => exact (ps_ret (pv 2))
    try dsimp only [cxOf, Cx.nox]
    show let Z1 : L2.TS := _; let Z2 : L2.TS := _; let Z3 : L2.TS := _; let Z4 : L2.TS := _; let Z5 : L2.TS := _; let Z6 : L2.TS := _; let Z7 : L2.TS := _; let Z8 : L2.TS := tSeq Z6 (Z7); let Z9 : L2.TS := tFor _ _ Z8; let Z10 : L2.TS := _; let D0 : Ends := _; (tSeq Z1 (tSeq Z2 (tSeq Z3 (tSeq Z4 (tSeq Z5 (tSeq Z9 (Z10))))))) D0 _ _
    intro Z1 Z2 Z3 Z4 Z5 Z6 Z7 Z8 Z9 Z10 D0
    refine fun tw htw => ⟨(by show 0 ≤ sizeLine; decide), fun row hrow => ⟨(by show 1 ≤ sizeLine; decide), fun q0 hq0 => ⟨_, rfl, q0, (n : Int), [.non], rfl, rfl, upd_same, (by lia), (by lia), ?_, fun wi hwi => ⟨(by show 0 ≤ sizeLine; decide), fun sh hsh => ⟨(by show 0 ≤ sizeLine; decide), fun se hse => ?_⟩⟩⟩⟩⟩
    · rw [Int.toNat_natCast]; simp only [List.length_singleton]; lia
    rw [Int.toNat_natCast, one_rep] at *
    have ntr : tw ≠ row := fun z => by rw [← z, upd_same] at hrow; cases hrow
    have ntq : tw ≠ q0 := fun z => by rw [← z, upd_ne ntr, upd_same] at hq0; cases hq0
    have nrq : row ≠ q0 := fun z => by rw [← z, upd_same] at hq0; cases hq0
    have ntw : tw ≠ wi := fun z => by rw [← z, upd_ne ntq, upd_ne ntr, upd_same] at hwi; cases hwi
    have nrw : row ≠ wi := fun z => by rw [← z, upd_ne nrq, upd_same] at hwi; cases hwi
    have nqw : q0 ≠ wi := fun z => by rw [← z, upd_same] at hwi; cases hwi
    have nts : tw ≠ sh := fun z => by rw [← z, upd_ne ntw, upd_ne ntq, upd_ne ntr, upd_same] at hsh; cases hsh
    have nrs : row ≠ sh := fun z => by rw [← z, upd_ne nrw, upd_ne nrq, upd_same] at hsh; cases hsh
    have nqs : q0 ≠ sh := fun z => by rw [← z, upd_ne nqw, upd_same] at hsh; cases hsh
    have nws : wi ≠ sh := fun z => by rw [← z, upd_same] at hsh; cases hsh
    have nte : tw ≠ se := fun z => by rw [← z, upd_ne nts, upd_ne ntw, upd_ne ntq, upd_ne ntr, upd_same] at hse; cases hse
    have nre : row ≠ se := fun z => by rw [← z, upd_ne nrs, upd_ne nrw, upd_ne nrq, upd_same] at hse; cases hse
    have nqe : q0 ≠ se := fun z => by rw [← z, upd_ne nqs, upd_ne nqw, upd_same] at hse; cases hse
    have nwe : wi ≠ se := fun z => by rw [← z, upd_ne nws, upd_same] at hse; cases hse
    have nse : sh ≠ se := fun z => by rw [← z, upd_same] at hse; cases hse
    refine ⟨by rw [upd_ne nte, upd_ne nts, upd_ne ntw, upd_ne ntq, upd_ne ntr, upd_same], kv4 row wi sh se, rfl, (by show 4 ≤ 15; decide), ?_⟩
    rw [kv4_merge]
    have frow : H row = none := Lv.upd _ hrow
    have fwi : H wi = none := Lv.upd _ (Lv.upd _ (Lv.upd _ hwi))
    have fsh : H sh = none := Lv.upd _ (Lv.upd _ (Lv.upd _ (Lv.upd _ hsh)))
    have fse : H se = none := Lv.upd _ (Lv.upd _ (Lv.upd _ (Lv.upd _ (Lv.upd _ hse))))
    have G0 : Stg n ns H (upd (upd (upd (upd (upd (upd (upd H tw (.dK [])) row (.lst [])) q0 (.lst [.non])) wi (.lst (List.replicate n .non))) sh (.lst [])) se (.lst [])) tw (.dK (kv4 row wi sh se))) (A0 tw row wi sh se) ok0 (kv4 row wi sh se) [] := by
      refine ⟨?_, fun x y hx hy e => ?_, fun x hx => ?_, fun x hx h1 h2 => ?_, .inl rfl, .inr (.inr (.inr (.inl rfl))), upd_same, ?_⟩
      · refine same_upd ?_ htw
        exact (((((same_new htw).trans (same_new hrow)).trans (same_new hq0)).trans (same_new hwi)).trans (same_new hsh)).trans (same_new hse)
      · rcases hx with rfl | rfl | rfl | rfl | rfl <;> rcases hy with rfl | rfl | rfl | rfl | rfl <;> first
          | rfl
          | (exfalso; exact ntr e) | (exfalso; exact ntw e) | (exfalso; exact nts e) | (exfalso; exact nte e) | (exfalso; exact nrw e) | (exfalso; exact nrs e) | (exfalso; exact nre e) | (exfalso; exact nws e) | (exfalso; exact nwe e) | (exfalso; exact nse e)
          | (exfalso; exact ntr e.symm) | (exfalso; exact ntw e.symm) | (exfalso; exact nts e.symm) | (exfalso; exact nte e.symm) | (exfalso; exact nrw e.symm) | (exfalso; exact nrs e.symm) | (exfalso; exact nre e.symm) | (exfalso; exact nws e.symm) | (exfalso; exact nwe e.symm) | (exfalso; exact nse e.symm)
      · rcases hx with rfl | rfl | rfl | rfl | rfl
        · exact htw
        · exact frow
        · exact fwi
        · exact fsh
        · exact fse
      · rcases hx with rfl | rfl | rfl | rfl | rfl
        · exact absurd rfl h1
        · show upd _ tw _ row = _; rw [upd_ne ntr.symm, upd_ne nre, upd_ne nrs, upd_ne nrw, upd_ne nrq, upd_same]; rfl
        · show upd _ tw _ wi = _; rw [upd_ne ntw.symm, upd_ne nwe, upd_ne nws, upd_same]; rfl
        · exact absurd rfl h2
        · show upd _ tw _ se = _; rw [upd_ne nte.symm, upd_same]; rfl
      · show upd _ tw _ sh = _; rw [upd_ne nts.symm, upd_ne nse, upd_same]
    generalize upd (upd (upd (upd (upd (upd (upd H tw (.dK [])) row (.lst [])) q0 (.lst [.non])) wi (.lst (List.replicate n .non))) sh (.lst [])) se (.lst [])) tw (.dK (kv4 row wi sh se)) = H0 at G0
    clear hrow hq0 hwi hsh hse ntr ntq nrq ntw nrw nqw nts nrs nqs nws nte nre nqe nwe nse
    have nb : -(2 ^ 62) ≤ ((n : Nat) : Int) ∧ ((n : Nat) : Int) < 2 ^ 62 := ⟨by lia, by lia⟩
    refine ⟨_, rfl, (n : Int), rfl, nb.1, nb.2, fun ar har => ?_⟩
    rw [Int.toNat_natCast]
    refine comp_new (c := List.replicate ns.length (.str "none")) (fun σ' => ∃ o, σ' = [o, some (.ref l)]) ⟨_, rfl⟩ har hn (fun i σ' h => by obtain ⟨o, rfl⟩ := h; exact ⟨_, rfl⟩) (fun σ' H' R ⟨o, e⟩ s' hR => ?_) (fun f1 H1 s1 ha1 hf1 inj1 => ?_)
    · subst e
      have hl' := s' _ _ (G0.sm _ _ hl)
      refine ⟨(by show 1 ≤ sizeLine; decide), fun q hq => ⟨_, rfl, l, _, rfl, .inl (SqL.of (same_new hq _ _ hl')), q, _, [.str "none"], rfl, rfl, upd_same, (by lia), ?_, ?_, fun z hz => ?_⟩⟩
      · rw [List.length_map]; lia
      · rw [List.length_map, Int.toNat_natCast]; simp only [List.length_singleton]; lia
      · rw [List.length_map, Int.toNat_natCast, one_rep]
        exact hR z _ (Lv.upd _ hz) ((same_new hq).trans (same_new hz)) upd_same
    have gt1 : H1 tw = some (.dK _) := s1 _ _ G0.tw
    refine ⟨_, rfl, tw, _, rfl, dput gt1 (by show 4 < sizeLine; decide) kv5_put, ?_⟩
    have G1 := G0.more (A' := A1 (A0 tw row wi sh se) ar f1) (new := fun x => x = .rights ∨ ∃ d, d < n ∧ x = .rt d) (kv' := kv4 row wi sh se ++ [(ks "rights", .ref ar)]) s1 (fun x hx => by rcases hx with rfl | rfl | rfl | rfl | rfl <;> rfl) (fun x hx => by rcases hx with rfl | rfl | rfl | rfl | rfl <;> rfl)
      (fun x hx => by
        rcases hx with rfl | ⟨d, hd, rfl⟩
        · exact ⟨har, ha1⟩
        · exact ⟨(hf1 d hd).1, (hf1 d hd).2.2⟩)
      (fun x y hx hy e => by
        rcases hx with rfl | ⟨d, hd, rfl⟩ <;> rcases hy with rfl | ⟨d', hd', rfl⟩
        · rfl
        · exact absurd e.symm (hf1 d' hd').2.1
        · exact absurd e (hf1 d hd).2.1
        · rw [inj1 d d' hd hd' e])
    have G1' : Stg n ns H (upd H1 tw (.dK (kv4 row wi sh se ++ [(ks "rights", .ref ar)]))) _ _ _ [] := G1
    generalize upd H1 tw (.dK (kv4 row wi sh se ++ [(ks "rights", .ref ar)])) = H1' at G1'
    clear G1
    refine ⟨_, rfl, (n : Int), rfl, nb.1, nb.2, fun ac hac => ?_⟩
    rw [Int.toNat_natCast]
    refine comp_new (c := ns.map V.int) (fun σ' => ∃ o, σ' = [o, some (.ref l)]) ⟨_, rfl⟩ hac hn (fun i σ' h => by obtain ⟨o, rfl⟩ := h; exact ⟨_, rfl⟩) (fun σ' H' R ⟨o, e⟩ s' hR => ?_) (fun f2 H2 s2 ha2 hf2 inj2 => ?_)
    · subst e
      have hl' := s' _ _ (G1'.sm _ _ hl)
      exact ⟨_, rfl, l, _, rfl, .inl (SqL.of hl'), fun z hz => hR z _ hz (same_new hz) upd_same⟩
    have gt2 : H2 tw = some (.dK _) := s2 _ _ G1'.tw
    refine ⟨_, rfl, tw, _, rfl, dput gt2 (by show 5 < sizeLine; decide) kv6_put, ?_⟩
    have G2 := G1'.more (A' := A2 (A1 (A0 tw row wi sh se) ar f1) ac f2) (new := fun x => x = .copies ∨ ∃ d, d < n ∧ x = .cp d) (kv' := kv4 row wi sh se ++ [(ks "rights", .ref ar), (ks "copies", .ref ac)]) s2 (fun x hx => by rcases hx with (rfl | rfl | rfl | rfl | rfl) | rfl | ⟨d, _, rfl⟩ <;> rfl) (fun x hx => by rcases hx with (rfl | rfl | rfl | rfl | rfl) | rfl | ⟨d, _, rfl⟩ <;> rfl)
      (fun x hx => by
        rcases hx with rfl | ⟨d, hd, rfl⟩
        · exact ⟨hac, ha2⟩
        · exact ⟨(hf2 d hd).1, (hf2 d hd).2.2⟩)
      (fun x y hx hy e => by
        rcases hx with rfl | ⟨d, hd, rfl⟩ <;> rcases hy with rfl | ⟨d', hd', rfl⟩
        · rfl
        · exact absurd e.symm (hf2 d' hd').2.1
        · exact absurd e (hf2 d hd).2.1
        · rw [inj2 d d' hd hd' e])
    have G2' : Stg n ns H (upd H2 tw (.dK (kv4 row wi sh se ++ [(ks "rights", .ref ar), (ks "copies", .ref ac)]))) _ _ _ [] := G2
    generalize upd H2 tw (.dK (kv4 row wi sh se ++ [(ks "rights", .ref ar), (ks "copies", .ref ac)])) = H2' at G2'
    clear G2
    refine ⟨_, rfl, (n : Int), rfl, nb.1, nb.2, fun au hau => ?_⟩
    rw [Int.toNat_natCast]
    refine comp_new (c := []) (fun σ' => ∃ o, σ' = [o]) ⟨_, rfl⟩ hau hn (fun i σ' h => by obtain ⟨o, rfl⟩ := h; exact ⟨_, rfl⟩) (fun σ' H' R ⟨o, e⟩ s' hR => ?_) (fun f3 H3 s3 ha3 hf3 inj3 => ?_)
    · exact ⟨(by show 0 ≤ sizeLine; decide), fun z hz => hR z _ hz (same_new hz) upd_same⟩
    have gt3 : H3 tw = some (.dK _) := s3 _ _ G2'.tw
    refine ⟨_, rfl, tw, _, rfl, dput gt3 (by show 6 < sizeLine; decide) kv7_put, ?_⟩
    have G3 := G2'.more (A' := A3 (A2 (A1 (A0 tw row wi sh se) ar f1) ac f2) au f3) (new := fun x => x = .ups ∨ ∃ d, d < n ∧ x = .up d) (kv' := kv4 row wi sh se ++ [(ks "rights", .ref ar), (ks "copies", .ref ac), (ks "ups", .ref au)]) s3 (fun x hx => by rcases hx with ((rfl | rfl | rfl | rfl | rfl) | rfl | ⟨d, _, rfl⟩) | rfl | ⟨d, _, rfl⟩ <;> rfl) (fun x hx => by rcases hx with ((rfl | rfl | rfl | rfl | rfl) | rfl | ⟨d, _, rfl⟩) | rfl | ⟨d, _, rfl⟩ <;> rfl)
      (fun x hx => by
        rcases hx with rfl | ⟨d, hd, rfl⟩
        · exact ⟨hau, ha3⟩
        · exact ⟨(hf3 d hd).1, (hf3 d hd).2.2⟩)
      (fun x y hx hy e => by
        rcases hx with rfl | ⟨d, hd, rfl⟩ <;> rcases hy with rfl | ⟨d', hd', rfl⟩
        · rfl
        · exact absurd e.symm (hf3 d' hd').2.1
        · exact absurd e (hf3 d hd).2.1
        · rw [inj3 d d' hd hd' e])
    have G3' : Stg n ns H (upd H3 tw (.dK (kv4 row wi sh se ++ [(ks "rights", .ref ar), (ks "copies", .ref ac), (ks "ups", .ref au)]))) _ _ _ [] := G3
    generalize upd H3 tw (.dK (kv4 row wi sh se ++ [(ks "rights", .ref ar), (ks "copies", .ref ac), (ks "ups", .ref au)])) = H3' at G3'
    clear G3
    refine ⟨_, rfl, (n : Int), rfl, nb.1, nb.2, fun ad had => ?_⟩
    rw [Int.toNat_natCast]
    refine comp_new (c := []) (fun σ' => ∃ o, σ' = [o]) ⟨_, rfl⟩ had hn (fun i σ' h => by obtain ⟨o, rfl⟩ := h; exact ⟨_, rfl⟩) (fun σ' H' R ⟨o, e⟩ s' hR => ?_) (fun f4 H4 s4 ha4 hf4 inj4 => ?_)
    · exact ⟨(by show 0 ≤ sizeLine; decide), fun z hz => hR z _ hz (same_new hz) upd_same⟩
    have gt4 : H4 tw = some (.dK _) := s4 _ _ G3'.tw
    refine ⟨_, rfl, tw, _, rfl, dput gt4 (by show 7 < sizeLine; decide) kv8_put, ?_⟩
    have G4 := G3'.more (A' := A4 (A3 (A2 (A1 (A0 tw row wi sh se) ar f1) ac f2) au f3) ad f4) (new := fun x => x = .downs ∨ ∃ d, d < n ∧ x = .dn d) (kv' := kv4 row wi sh se ++ [(ks "rights", .ref ar), (ks "copies", .ref ac), (ks "ups", .ref au), (ks "downs", .ref ad)]) s4 (fun x hx => by rcases hx with (((rfl | rfl | rfl | rfl | rfl) | rfl | ⟨d, _, rfl⟩) | rfl | ⟨d, _, rfl⟩) | rfl | ⟨d, _, rfl⟩ <;> rfl) (fun x hx => by rcases hx with (((rfl | rfl | rfl | rfl | rfl) | rfl | ⟨d, _, rfl⟩) | rfl | ⟨d, _, rfl⟩) | rfl | ⟨d, _, rfl⟩ <;> rfl)
      (fun x hx => by
        rcases hx with rfl | ⟨d, hd, rfl⟩
        · exact ⟨had, ha4⟩
        · exact ⟨(hf4 d hd).1, (hf4 d hd).2.2⟩)
      (fun x y hx hy e => by
        rcases hx with rfl | ⟨d, hd, rfl⟩ <;> rcases hy with rfl | ⟨d', hd', rfl⟩
        · rfl
        · exact absurd e.symm (hf4 d' hd').2.1
        · exact absurd e (hf4 d hd).2.1
        · rw [inj4 d d' hd hd' e])
    have G4' : Stg n ns H (upd H4 tw (.dK (kv4 row wi sh se ++ [(ks "rights", .ref ar), (ks "copies", .ref ac), (ks "ups", .ref au), (ks "downs", .ref ad)]))) _ _ _ [] := G4
    generalize upd H4 tw (.dK (kv4 row wi sh se ++ [(ks "rights", .ref ar), (ks "copies", .ref ac), (ks "ups", .ref au), (ks "downs", .ref ad)])) = H4' at G4'
    clear G4
    have okB : ∀ x, ok8 n x → (((ok0 x ∨ (x = .rights ∨ ∃ d, d < n ∧ x = .rt d)) ∨ (x = .copies ∨ ∃ d, d < n ∧ x = .cp d)) ∨ (x = .ups ∨ ∃ d, d < n ∧ x = .up d)) ∨ (x = .downs ∨ ∃ d, d < n ∧ x = .dn d) := fun x hx => hx
    have G5 := G4'.weak (ok' := ok8 n) okB (.inl (.inl (.inl (.inl (.inl rfl))))) (.inl (.inl (.inl (.inl (.inr (.inr (.inr (.inl rfl))))))))
    clear G4' okB
    generalize hAB : A4 (A3 (A2 (A1 (A0 tw row wi sh se) ar f1) ac f2) au f3) ad f4 = AB at G5
    have hkv : kv4 row wi sh se ++ [(ks "rights", .ref ar), (ks "copies", .ref ac), (ks "ups", .ref au), (ks "downs", .ref ad)] = tkv AB := by rw [← hAB]; rfl
    have hABt : AB .town = tw := by rw [← hAB]; rfl
    have hABs : AB .shelves = sh := by rw [← hAB]; rfl
    refine ⟨_, rfl, l, rfl, ⟨_, SqL.of (G5.sm _ _ hl)⟩, ?_⟩
    let PV2 : Nat → St → Hp → Prop := fun i σ' H' => (∃ o3 o4, σ' = [some (.int n), some (.ref l), some (.ref tw), o3, o4]) ∧ ∃ A, (∀ x, ok8 n x → A x = AB x) ∧ Stg n ns H H' A (fun x => ok8 n x ∨ ∃ p, p < i ∧ (x = .shelf p ∨ x = .rdr p ∨ x = .asq p)) (kv4 row wi sh se ++ [(ks "rights", .ref ar), (ks "copies", .ref ac), (ks "ups", .ref au), (ks "downs", .ref ad)]) ((List.range i).map fun p => V.ref (A (.shelf p)))
    refine for_list (xs := ns.map V.int) PV2 ?_ ?_ ?_ ?_
    · refine ⟨⟨_, _, rfl⟩, AB, fun x _ => rfl, G5.weak (fun x hx => hx.elim id fun z => by obtain ⟨p, hp, _⟩ := z; exact absurd hp (Nat.not_lt_zero _)) (.inl G5.ot) (.inl G5.os)⟩
    · rintro i σ' H' _ ⟨_, A', _, G⟩
      exact SqL.of (G.sm _ _ hl)
    · rintro i y σ' H' hy ⟨⟨o3, o4, rfl⟩, A', hA', G⟩
      have hi : i < ns.length := by have := (List.getElem?_eq_some_iff.mp hy).1; simpa using this
      have hy' : y = .int ns[i] := by
        rw [List.getElem?_map, List.getElem?_eq_getElem hi] at hy
        exact (Option.some.inj hy).symm
      subst hy'
      refine fun sf hsf => ⟨_, rfl, _, rfl, ⟨(by show 0 ≤ sizeLine; decide), fun r hr => ⟨(by show 0 ≤ sizeLine; decide), fun q hq => ?_⟩⟩⟩
      have nsr : sf ≠ r := fun z => by rw [← z, upd_same] at hr; cases hr
      have nsq : sf ≠ q := fun z => by rw [← z, upd_ne nsr, upd_same] at hq; cases hq
      have nrq : r ≠ q := fun z => by rw [← z, upd_same] at hq; cases hq
      have hr0 : H' r = none := Lv.upd _ hr
      have hq0 : H' q = none := Lv.upd _ (Lv.upd _ hq)
      refine ⟨by rw [upd_ne nsq, upd_ne nsr, upd_same], kvS ns[i] r q, rfl, (by show 5 ≤ 15; decide), ?_⟩
      rw [kvS_merge]
      have hpg : pg0 ns i = ⟨ns[i], none, [], [], 0⟩ := by unfold pg0; rw [List.getElem?_eq_getElem hi]; rfl
      rw [← hpg]
      have s1 : Same H' (upd (upd (upd (upd H' sf (.dK [])) r (.lst [])) q (.lst [])) sf (.dK (skv (pg0 ns i) r q))) := same_upd (((same_new hsf).trans (same_new hr)).trans (same_new hq)) hsf
      have c1 : upd (upd (upd (upd H' sf (.dK [])) r (.lst [])) q (.lst [])) sf (.dK (skv (pg0 ns i) r q)) sf = some (.dK (skv (pg0 ns i) r q)) := upd_same
      have c2 : upd (upd (upd (upd H' sf (.dK [])) r (.lst [])) q (.lst [])) sf (.dK (skv (pg0 ns i) r q)) r = some (.lst []) := by rw [upd_ne nsr.symm, upd_ne nrq, upd_same]
      have c3 : upd (upd (upd (upd H' sf (.dK [])) r (.lst [])) q (.lst [])) sf (.dK (skv (pg0 ns i) r q)) q = some (.lst []) := by rw [upd_ne nsq.symm, upd_same]
      generalize upd (upd (upd (upd H' sf (.dK [])) r (.lst [])) q (.lst [])) sf (.dK (skv (pg0 ns i) r q)) = H2 at s1 c1 c2 c3
      have htw : A' .town = tw := by rw [hA' _ G5.ot, hABt]
      have hsh : A' .shelves = sh := by rw [hA' _ G5.os, hABs]
      have gt := s1 _ _ G.tw
      have gs := s1 _ _ G.sh
      rw [htw] at gt
      rw [hsh] at gs
      refine zd rfl (dget gt kv8_get) ⟨.inl ⟨rfl, _, SqL.of gs⟩, _, rfl, sh, _, _, rfl, rfl, gs, by rw [List.length_map, List.length_range]; lia, ?_⟩
      have hlab : ∀ x, (ok8 n x ∨ ∃ p, p < i ∧ (x = .shelf p ∨ x = .rdr p ∨ x = .asq p)) → x ≠ .shelf i ∧ x ≠ .rdr i ∧ x ≠ .asq i := by
        intro x hx
        rcases hx with hx | ⟨p, hp, hx⟩
        · refine ⟨?_, ?_, ?_⟩ <;> (intro z; subst z; simp [ok8, ok0] at hx)
        · rcases hx with rfl | rfl | rfl <;> refine ⟨?_, ?_, ?_⟩ <;> (intro z; cases z <;> exact absurd hp (Nat.lt_irrefl _))
      generalize hA2 : setL (setL (setL A' (.shelf i) sf) (.rdr i) r) (.asq i) q = A2'
      have e1 : A2' (.shelf i) = sf := by rw [← hA2]; simp [setL]
      have e2 : A2' (.rdr i) = r := by rw [← hA2]; simp [setL]
      have e3 : A2' (.asq i) = q := by rw [← hA2]; simp [setL]
      have eo : ∀ x, x ≠ .shelf i → x ≠ .rdr i → x ≠ .asq i → A2' x = A' x := fun x h1 h2 h3 => by rw [← hA2, setL_ne _ _ h3, setL_ne _ _ h2, setL_ne _ _ h1]
      have G6 := G.shelf (A' := A2') (new := fun x => x = .shelf i ∨ x = .rdr i ∨ x = .asq i) (zs' := ((List.range i).map fun p => V.ref (A' (.shelf p))) ++ [.ref sf]) s1
        (fun x hx => by obtain ⟨h1, h2, h3⟩ := hlab x hx; exact eo x h1 h2 h3)
        (fun x hx => by
          obtain ⟨h1, h2, h3⟩ := hlab x hx
          cases x with
          | shelf p =>
            have hp : p ≠ i := fun z => h1 (by rw [z])
            show HO.dK _ = HO.dK _
            rw [eo (.rdr p) (by intro z; cases z) (by intro z; cases z; exact hp rfl) (by intro z; cases z), eo (.asq p) (by intro z; cases z) (by intro z; cases z) (by intro z; cases z; exact hp rfl)]
          | rights => show HO.lst _ = HO.lst _; congr 1; exact List.map_congr_left fun d _ => by rw [eo (.rt d) (by intro z; cases z) (by intro z; cases z) (by intro z; cases z)]
          | copies => show HO.lst _ = HO.lst _; congr 1; exact List.map_congr_left fun d _ => by rw [eo (.cp d) (by intro z; cases z) (by intro z; cases z) (by intro z; cases z)]
          | ups => show HO.lst _ = HO.lst _; congr 1; exact List.map_congr_left fun d _ => by rw [eo (.up d) (by intro z; cases z) (by intro z; cases z) (by intro z; cases z)]
          | downs => show HO.lst _ = HO.lst _; congr 1; exact List.map_congr_left fun d _ => by rw [eo (.dn d) (by intro z; cases z) (by intro z; cases z) (by intro z; cases z)]
          | _ => rfl)
        (fun x hx => by
          rcases hx with rfl | rfl | rfl
          · rw [e1]; exact ⟨hsf, by rw [c1]; show some (HO.dK _) = some (HO.dK _); rw [e2, e3]⟩
          · rw [e2]; exact ⟨hr0, c2⟩
          · rw [e3]; exact ⟨hq0, c3⟩)
        (fun x y hx hy e => by
          rcases hx with rfl | rfl | rfl <;> rcases hy with rfl | rfl | rfl <;> first
            | rfl
            | (exfalso; rw [e1, e2] at e; exact nsr e) | (exfalso; rw [e1, e3] at e; exact nsq e) | (exfalso; rw [e2, e3] at e; exact nrq e)
            | (exfalso; rw [e2, e1] at e; exact nsr e.symm) | (exfalso; rw [e3, e1] at e; exact nsq e.symm) | (exfalso; rw [e3, e2] at e; exact nrq e.symm))
      rw [hsh] at G6
      refine ⟨⟨_, _, rfl⟩, A2', fun x hx => ?_, ?_⟩
      · obtain ⟨h1, h2, h3⟩ := hlab x (.inl hx)
        rw [eo x h1 h2 h3]; exact hA' x hx
      · have ez : ((List.range i).map fun p => V.ref (A' (.shelf p))) ++ [.ref sf] = (List.range (i + 1)).map fun p => V.ref (A2' (.shelf p)) := by
          rw [List.range_succ, List.map_append]
          congr 1
          · exact List.map_congr_left fun p hp => by rw [eo (.shelf p) (by intro z; cases z; exact absurd (List.mem_range.mp hp) (Nat.lt_irrefl _)) (by intro z; cases z) (by intro z; cases z)]
          · show [V.ref sf] = [V.ref _]; rw [e1]
        rw [ez] at G6 ⊢
        refine G6.weak (ok' := fun x => ok8 n x ∨ ∃ p, p < i + 1 ∧ (x = .shelf p ∨ x = .rdr p ∨ x = .asq p)) (fun x hx => ?_) (Or.inl G5.ot) (Or.inl G5.os)
        rcases hx with hx | ⟨p, hp, hx⟩
        · exact .inl (.inl hx)
        · by_cases e : p = i
          · subst e; exact .inr hx
          · exact .inl (.inr ⟨p, by lia, hx⟩)
    · rintro σ' H' ⟨⟨o3, o4, rfl⟩, A', hA', G⟩
      rw [List.length_map] at G
      have hk : kv4 row wi sh se ++ [(ks "rights", .ref ar), (ks "copies", .ref ac), (ks "ups", .ref au), (ks "downs", .ref ad)] = tkv A' := by
        rw [hkv]
        unfold tkv
        have o : ∀ x, ok8 n x → AB x = A' x := fun x hx => (hA' x hx).symm
        rw [o .row (.inl (.inl (.inl (.inl (.inr (.inl rfl)))))), o .wishes (.inl (.inl (.inl (.inl (.inr (.inr (.inl rfl))))))), o .shelves (.inl (.inl (.inl (.inl (.inr (.inr (.inr (.inl rfl)))))))), o .sent (.inl (.inl (.inl (.inl (.inr (.inr (.inr (.inr rfl)))))))), o .rights (.inl (.inl (.inl (.inr (.inl rfl))))), o .copies (.inl (.inl (.inr (.inl rfl)))), o .ups (.inl (.inr (.inl rfl))), o .downs (.inr (.inl rfl))]
      rw [hk] at G
      have okF : ∀ x : Mb, x.ok n ns.length → ok8 n x ∨ ∃ p, p < ns.length ∧ (x = .shelf p ∨ x = .rdr p ∨ x = .asq p) := by
        intro x hx
        cases x with
        | town => exact .inl (.inl (.inl (.inl (.inl (.inl rfl)))))
        | row => exact .inl (.inl (.inl (.inl (.inl (.inr (.inl rfl))))))
        | wishes => exact .inl (.inl (.inl (.inl (.inl (.inr (.inr (.inl rfl)))))))
        | shelves => exact .inl (.inl (.inl (.inl (.inl (.inr (.inr (.inr (.inl rfl))))))))
        | sent => exact .inl (.inl (.inl (.inl (.inl (.inr (.inr (.inr (.inr rfl))))))))
        | rights => exact .inl (.inl (.inl (.inl (.inr (.inl rfl)))))
        | copies => exact .inl (.inl (.inl (.inr (.inl rfl))))
        | ups => exact .inl (.inl (.inr (.inl rfl)))
        | downs => exact .inl (.inr (.inl rfl))
        | rt d => exact .inl (.inl (.inl (.inl (.inr (.inr ⟨d, hx, rfl⟩)))))
        | cp d => exact .inl (.inl (.inl (.inr (.inr ⟨d, hx, rfl⟩))))
        | up d => exact .inl (.inl (.inr (.inr ⟨d, hx, rfl⟩)))
        | dn d => exact .inl (.inr (.inr ⟨d, hx, rfl⟩))
        | shelf p => exact .inr ⟨p, hx, .inl rfl⟩
        | rdr p => exact .inr ⟨p, hx, .inr (.inl rfl)⟩
        | asq p => exact .inr ⟨p, hx, .inr (.inr rfl)⟩
      have G7 := G.weak (ok' := Mb.ok n ns.length) okF trivial trivial
      have htw : A' .town = tw := by rw [hA' _ G5.ot, hABt]
      refine ⟨_, rfl, ?_⟩
      rw [← htw]
      exact k A' H' G7.mir G7.sm G7.fr
end
end K07
namespace K07
open PySem L2
theorem vi_eq {i j : Int} (h : i = j) : decide (V.int i = V.int j) = true := decide_eq_true (by rw [h])
theorem vi_ne {i j : Int} (h : i ≠ j) : decide (V.int i = V.int j) = false := decide_eq_false fun z => h (V.int.inj z)
theorem atInt {ns : List Int} {k : Int} (h0 : 0 ≤ k) (h1 : k < (ns.length : Nat)) : ∃ z, atI (ns.map V.int) k = some (.int z) := by
  obtain ⟨j, rfl⟩ : ∃ j : Nat, k = (j : Int) := ⟨k.toNat, by lia⟩
  have hj : j < ns.length := by lia
  exact ⟨ns[j], atI_nat (by rw [List.getElem?_map, List.getElem?_eq_getElem hj]; rfl)⟩
theorem Deed.flat (x : Deed) : x.d.flat := by cases x <;> simp [Deed.d, D.flat, D.flats]
theorem deed_rep {H : Hp} {b : Addr} {x : Deed} (h : H b = some (.tup (Deed.vs x))) : Rep H (.ref b) x.d := by
  cases x with
  | look d p => simp only [Deed.d, Rep, RepL]; exact ⟨b, _, rfl, h, _, _, rfl, rfl, _, _, rfl, rfl, _, _, rfl, rfl, rfl⟩
  | put d p n => simp only [Deed.d, Rep, RepL]; exact ⟨b, _, rfl, h, _, _, rfl, rfl, _, _, rfl, rfl, _, _, rfl, rfl, _, _, rfl, rfl, rfl⟩
  | rest d p => simp only [Deed.d, Rep, RepL]; exact ⟨b, _, rfl, h, _, _, rfl, rfl, _, _, rfl, rfl, _, _, rfl, rfl, rfl⟩
  | up d => simp only [Deed.d, Rep, RepL]; exact ⟨b, _, rfl, h, _, _, rfl, rfl, _, _, rfl, rfl, rfl⟩
  | down d => simp only [Deed.d, Rep, RepL]; exact ⟨b, _, rfl, h, _, _, rfl, rfl, _, _, rfl, rfl, rfl⟩
theorem deed_tup {H : Hp} {v : V} {x : Deed} (h : Rep H v x.d) : ∃ b, v = .ref b ∧ H b = some (.tup (Deed.vs x)) := by
  cases x with
  | look d p => simp only [Deed.d, Rep, RepL] at h; obtain ⟨b, xs, rfl, hb, _, _, rfl, rfl, _, _, rfl, rfl, _, _, rfl, rfl, rfl⟩ := h; exact ⟨b, rfl, hb⟩
  | put d p n => simp only [Deed.d, Rep, RepL] at h; obtain ⟨b, xs, rfl, hb, _, _, rfl, rfl, _, _, rfl, rfl, _, _, rfl, rfl, _, _, rfl, rfl, rfl⟩ := h; exact ⟨b, rfl, hb⟩
  | rest d p => simp only [Deed.d, Rep, RepL] at h; obtain ⟨b, xs, rfl, hb, _, _, rfl, rfl, _, _, rfl, rfl, _, _, rfl, rfl, rfl⟩ := h; exact ⟨b, rfl, hb⟩
  | up d => simp only [Deed.d, Rep, RepL] at h; obtain ⟨b, xs, rfl, hb, _, _, rfl, rfl, _, _, rfl, rfl, rfl⟩ := h; exact ⟨b, rfl, hb⟩
  | down d => simp only [Deed.d, Rep, RepL] at h; obtain ⟨b, xs, rfl, hb, _, _, rfl, rfl, _, _, rfl, rfl, rfl⟩ := h; exact ⟨b, rfl, hb⟩
noncomputable def DL (H : Hp) (vs : List V) (k : Nat) : Prop := ∃ ds : List Deed, RepL H vs (ds.map Deed.d) ∧ ds.length ≤ k
theorem DL.nil (H : Hp) : DL H [] 0 := ⟨[], by simp [RepL], Nat.le_refl _⟩
theorem DL.tmono {H H' : Hp} {vs : List V} {k : Nat} (t : TupSame H H') (h : DL H vs k) : DL H' vs k := by obtain ⟨ds, r, l⟩ := h; exact ⟨ds, r.tmono t (flats_map Deed.flat _), l⟩
theorem DL.more {H : Hp} {vs : List V} {k j : Nat} (h : DL H vs k) (hk : k ≤ j) : DL H vs j := by obtain ⟨ds, r, l⟩ := h; exact ⟨ds, r, Nat.le_trans l hk⟩
theorem DL.append {H : Hp} {vs us : List V} {k j : Nat} (a : DL H vs k) (b : DL H us j) : DL H (vs ++ us) (k + j) := by
  obtain ⟨ds, r, l⟩ := a
  obtain ⟨es, r', l'⟩ := b
  exact ⟨ds ++ es, by rw [List.map_append]; exact r.append r', by rw [List.length_append]; lia⟩
theorem DL.cons {H : Hp} {us : List V} {k : Nat} {b : Addr} (x : Deed) (h : H b = some (.tup (Deed.vs x))) (r : DL H us k) : DL H (.ref b :: us) (k + 1) := by
  obtain ⟨ds, r, l⟩ := r
  refine ⟨x :: ds, ?_, by simp; lia⟩
  simp only [List.map_cons, RepL]
  exact ⟨_, _, rfl, deed_rep h, r⟩
theorem DL.one {H : Hp} {b : Addr} (x : Deed) (h : H b = some (.tup (Deed.vs x))) : DL H [.ref b] 1 := DL.cons x h (DL.nil H)
theorem DL.len {H : Hp} {vs : List V} {k : Nat} (h : DL H vs k) : vs.length ≤ k := by obtain ⟨ds, r, l⟩ := h; rw [r.length, List.length_map]; exact l
theorem cat2 {H : Hp} {d z fl : Addr} {us zs fs : List V} {Q : VK} {o : Option (Option V)} (ho : o = some (some (.ref fl))) (hd : H d = some (.lst us)) (hz : H z = some (.lst zs)) (hf : H fl = some (.lst fs)) (hl : us.length + zs.length + fs.length ≤ 16000000)
    (k : ∀ r H', Same H H' → H r = none → H' r = some (.lst (us ++ zs ++ fs)) → Q (.ref r) H') : rCat (.ref d) (.ref z) H fun x H1 => ∃ v, o = some (some v) ∧ rCat x v H1 Q := by
  have sl : sizeLine = 16777216 := by decide
  refine ⟨d, z, us, zs, rfl, rfl, hd, hz, by lia, fun p hp => ⟨_, ho, p, fl, _, fs, rfl, rfl, upd_same, same_new hp _ _ hf, by rw [List.length_append]; lia, fun q hq => ?_⟩⟩
  exact k q _ ((same_new hp).trans (same_new hq)) (Lv.upd _ hq) upd_same
noncomputable def spNums : Sp := fun vs H Q _ => ∃ c : Int, ∃ m : Nat, vs = [.int c, .int m] ∧ m ≤ 1000 ∧ ∀ l (ns : List Int) H', ns.length = m → H l = none → Same H H' → H' l = some (.lst (ns.map V.int)) → Q (.ref l) H'
noncomputable def spFirst : Sp := fun vs H Q _ => ∃ n : Nat, ∃ c : Int, vs = [.int n, .int c] ∧ n ≤ 100 ∧ ∀ l us H', H l = none → Same H H' → H' l = some (.lst us) → DL H' us (20 * n + 100) → Q (.ref l) H'
section
variable {P : Program} {w : World} {K : PySem.W.Frag} {mg : Str → Option Value} {base : Heap} {t : Adr}
theorem ok_l_numbers_of (T : Txt K w mg t) : FnOk P w K mg base CX0 1 t.f_l_numbers_of t.fd_l_numbers_of ["_law_cell", "_law_pages"] spNums := by
  refine T.F_l_numbers_of.ok sc_l_numbers_of (fun vs H Q E h => ?_) (fun cdv A outer s H vs Q E hr h => ?_)
  · obtain ⟨c, m, rfl, _⟩ := h; rfl
  · obtain ⟨c, m, rfl, hm, k⟩ := h
    have sl : sizeLine = 16777216 := by decide
    refine ⟨_, (pss_cons (ps_set (i := 2) sc_l_numbers_of.nd rfl (Or.inl rfl) (pe_op op_mod (pe_op op_mul (pv 0) pe_int) (pe_op op_pow pe_int pe_int)))
      (pss_cons (ps_set (i := 3) sc_l_numbers_of.nd rfl (Or.inr rfl) (pe_lst (pa_cons pe_int (pa_cons (pe_un un_neg pe_int) (pa_cons pe_int (pa_cons (pv 2) (pa_cons (pe_op op_sub pe_int (pv 2)) pa_nil)))))))
      (pss_one (ps_ret (pe_comp (compScope (xs := ["_law_k"]) (ys := ["_law_some", "_law_cell"]) (js := [3, 0]) rfl (by decide +kernel) (by decide +kernel) (by decide +kernel) (by rfl) ⟨⟨rfl, Or.inl rfl⟩, ⟨⟨rfl, Or.inl rfl⟩, trivial⟩⟩) rfl (pi_range1 (by rfl) T.n_range (pa_cons (pv 1) pa_nil)) (fun _ _ _ _ _ => (pg_name (i := 0) (show List.Nodup ((["_law_k"] : List Str) ++ (["_law_some", "_law_cell"] : List Str) : List Str) by decide +kernel) rfl (Or.inl rfl))) (fun _ _ _ _ _ => pif_nil) (fun _ _ _ _ _ => (pe_op op_add (pe_ix (ixR_K (K := K) (r := rIxL) ix_list rfl) (pv 1) (pe_op op_mod (pe_op op_add (pv 2) (pv 0)) pe_int) (fun _ _ => rfl)) (pe_op op_mul pe_int (pv 0))))))))), ?_⟩
    try dsimp only [cxOf, Cx.nox]
    show let Z1 : L2.TS := _; let Z2 : L2.TS := _; let Z3 : L2.TS := _; let D0 : Ends := _; (tSeq Z1 (tSeq Z2 (Z3))) D0 _ _
    intro Z1 Z2 Z3 D0
    refine ⟨_, rfl, _, _, rfl, rfl, .inr ⟨by decide, by decide⟩, _, _, rfl, rfl, ⟨by decide, by decide, by decide⟩, _, _, rfl, rfl, (show (0 : Int) < (10 : Int) ^ (30 : Int).toNat by decide), ?_⟩
    refine ⟨_, rfl, _, rfl, _, rfl, _, _, rfl, rfl, (by show 5 ≤ sizeLine; decide), fun z hz => ?_⟩
    have fact : ∃ far : Int, Same H (upd H z (.lst [.int 0, .int (-1), .int 1000000000000, .int (c * 48271 % (10 : Int) ^ (30 : Int).toNat), .int (0 - c * 48271 % (10 : Int) ^ (30 : Int).toNat)])) ∧ upd H z (.lst [.int 0, .int (-1), .int 1000000000000, .int (c * 48271 % (10 : Int) ^ (30 : Int).toNat), .int (0 - c * 48271 % (10 : Int) ^ (30 : Int).toNat)]) z = some (.lst ([0, -1, 1000000000000, far, 0 - far].map V.int)) := ⟨_, same_new hz, upd_same⟩
    obtain ⟨far, s1, hz'⟩ := fact
    have go : ∀ H1 : Hp, Same H H1 → H1 z = some (.lst ([0, -1, 1000000000000, far, 0 - far].map V.int)) → ∀ acc, H1 acc = none → CompGo (Itr 0 m) (gName 0) tYes (tOp (rI0 fun i j => V.int (i + j)) (tOp (rIxL K) (tVar 1) (tOp (rI (fun _ j => 0 < j) fun i j => V.int (i % j)) (tOp (rI0 fun i j => V.int (i + j)) (tVar 2) (tVar 0)) (tC (V.int 5)))) (tOp (rI CMul fun i j => V.int (i * j)) (tC (V.int 5)) (tVar 0))) [none, some (.ref z), some (.int c)] acc H1 Q := fun H1 s1 hz' acc hacc => ?go
    · refine ⟨_, rfl, (m : Int), rfl, (by lia), (by lia), fun acc hacc => ?_⟩
      exact go _ s1 hz' acc hacc
    let PV1 : Nat → List V → St → Hp → Prop := fun i zs σ' H' => (∃ o, σ' = [o, some (.ref z), some (.int c)]) ∧ Same H1 H' ∧ H' acc = some (.lst zs) ∧ ∃ ns : List Int, ns.length = i ∧ zs = ns.map V.int
    refine comp_range PV1 ?_ ?_ ?_ ?_
    · exact ⟨⟨_, rfl⟩, same_new hacc, upd_same, [], rfl, rfl⟩
    · rintro i zs σ' H' _ ⟨_, _, h, _⟩; exact h
    · rintro i zs σ' H' hi ⟨⟨o, rfl⟩, s', ha', ns, hl, rfl⟩
      obtain ⟨y, hy⟩ := atInt (ns := [0, -1, 1000000000000, far, 0 - far]) (k := (c + (0 + (i : Int))) % 5) (by lia) (by show _ < ((5 : Nat) : Int); lia)
      refine gYes_if ⟨_, rfl, _, rfl, _, rfl, _, _, rfl, rfl, _, _, rfl, rfl, (show (0 : Int) < 5 by decide), z, _, _, _, rfl, rfl, SqL.of (s' _ _ hz'), hy, _, rfl, _, _, rfl, rfl, .inl ⟨by decide, by decide⟩, _, _, rfl, rfl, ?_⟩
      refine CStep.mk hi ha' (by rw [List.length_map]; lia) ⟨⟨_, rfl⟩, same_upd s' hacc, upd_same, ns ++ [y + 5 * (0 + (i : Int))], by rw [List.length_append, hl]; rfl, by rw [List.map_append]; rfl⟩
    · rintro zs σ' H' ⟨_, s', ha', ns, hl, rfl⟩
      exact k acc ns H' hl (Same.free s1 hacc) (s1.trans s') ha'
theorem ok_l_first_deeds (T : Txt K w mg t) : FnOk P w K mg base CX0 1 t.f_l_first_deeds t.fd_l_first_deeds ["_law_count", "_law_cell"] spFirst := by
  refine T.F_l_first_deeds.ok sc_l_first_deeds (fun vs H Q E h => ?_) (fun cdv A outer s H vs Q E hr h => ?_)
  · obtain ⟨n, c, rfl, _⟩ := h; rfl
  · obtain ⟨n, c, rfl, hn, k⟩ := h
    have sl : sizeLine = 16777216 := by decide
    refine' ⟨_, ?sr, ?_⟩
    case' sr => refine' pss_cons ?b1s0x ?b1sr0x
    case' b1sr0x => refine' pss_cons ?b1s1x ?b1sr1x
    case' b1sr1x => refine' pss_cons ?b1s2x ?b1sr2x
    case' b1sr2x => refine' pss_cons ?b1s3x ?b1sr3x
    case' b1sr3x => refine' pss_cons ?b1s4x ?b1sr4x
    case' b1sr4x => refine' pss_cons ?b1s5x ?b1sr5x
    case' b1sr5x => refine' pss_cons ?b1s6x ?b1sr6x
    case' b1sr6x => refine' pss_cons ?b1s7x ?b1sr7x
    case' b1sr7x => refine' pss_cons ?b1s8x ?b1sr8x
    case' b1sr8x => refine' pss_cons ?b1s9x ?b1sr9x
    case' b1sr9x => refine' pss_one ?b1s10x
    case' b1s0x => exact (ps_set (i := 2) sc_l_first_deeds.nd rfl (Or.inl rfl) (pe_op op_sub (pv 0) pe_int))
    case' b1s1x => exact (ps_set (i := 3) sc_l_first_deeds.nd rfl (Or.inl rfl) (pe_lst pa_nil))
    case' b1s2x => refine' ps_for PassesOwn.never rfl (pi_range1 (by rfl) T.n_range (pa_cons (pv 0) pa_nil)) (pg_name (i := 4) sc_l_first_deeds.nd rfl (Or.inl rfl)) ?b1s2b
    case' b1s2b => refine' pss_one ?b2s0x
    case' b2s0x => exact (ps_expr (pe_bm PySem.F.plainAttrs_list PySem.F.slot_list_extend PySem.F.type_list_extend mt_extendS (pv 3) (pa_cons (pe_lst (pa_cons (pe_tup (pa_cons pe_str (pa_cons (pv 4) pa_nil))) (pa_cons (pe_tup (pa_cons pe_str (pa_cons (pv 4) pa_nil))) pa_nil))) pa_nil)))
    case' b1s3x => exact (ps_set (i := 3) sc_l_first_deeds.nd rfl (Or.inl rfl) (pe_op op_cat (pv 3) (pv 3)))
    case' b1s4x => exact (ps_set (i := 5) sc_l_first_deeds.nd rfl (Or.inl rfl) (pe_lst pa_nil))
    case' b1s5x => refine' ps_for PassesOwn.never rfl (pi_range1 (by rfl) T.n_range (pa_cons (pv 0) pa_nil)) (pg_name (i := 4) sc_l_first_deeds.nd rfl (Or.inl rfl)) ?b1s5b
    case' b1s5b => refine' pss_one ?b3s0x
    case' b3s0x => exact (ps_expr (pe_bm PySem.F.plainAttrs_list PySem.F.slot_list_extend PySem.F.type_list_extend mt_extendS (pv 5) (pa_cons (pe_lst (pa_cons (pe_tup (pa_cons pe_str (pa_cons (pv 4) (pa_cons pe_int pa_nil)))) (pa_cons (pe_tup (pa_cons pe_str (pa_cons (pv 4) pa_nil))) (pa_cons (pe_tup (pa_cons pe_str (pa_cons (pv 4) pa_nil))) pa_nil)))) pa_nil)))
    case' b1s6x => exact (ps_set (i := 5) sc_l_first_deeds.nd rfl (Or.inl rfl) (pe_op op_cat (pv 5) (pe_lst (pa_cons (pe_tup (pa_cons pe_str (pa_cons pe_int (pa_cons pe_int pa_nil)))) (pa_cons (pe_tup (pa_cons pe_str (pa_cons pe_int (pa_cons pe_int pa_nil)))) (pa_cons (pe_tup (pa_cons pe_str (pa_cons pe_int pa_nil))) (pa_cons (pe_tup (pa_cons pe_str (pa_cons pe_int pa_nil))) pa_nil)))))))
    case' b1s7x => exact (ps_set (i := 5) sc_l_first_deeds.nd rfl (Or.inl rfl) (pe_op op_cat (pe_op op_cat (pv 5) (pe_lst (pa_cons (pe_tup (pa_cons pe_str (pa_cons (pv 2) (pa_cons pe_int (pa_cons (pe_ix ix_list (pe_lst (pa_cons pe_int (pa_cons pe_int pa_nil))) (pe_op op_mod (pv 1) pe_int) (fun _ _ => rfl)) pa_nil))))) (pa_cons (pe_tup (pa_cons pe_str (pa_cons (pv 2) pa_nil))) pa_nil)))) (pv 3)))
    case' b1s8x => exact (ps_if (pt_cmpR op_eq (pe_op op_mod (pe_op op_fdiv (pv 1) pe_int) pe_int) pe_int (nomark _)) (pss_one (ps_set (i := 5) sc_l_first_deeds.nd rfl (Or.inl rfl) (pe_op op_cat (pe_op op_cat (pv 5) (pe_lst (pa_cons (pe_tup (pa_cons pe_str (pa_cons (pv 2) (pa_cons pe_int pa_nil)))) pa_nil))) (pv 3)))) pss_nil)
    case' b1s9x => exact (ps_set (i := 5) sc_l_first_deeds.nd rfl (Or.inl rfl) (pe_op op_cat (pe_op op_cat (pv 5) (pe_lst (pa_cons (pe_tup (pa_cons pe_str (pa_cons pe_int (pa_cons pe_int pa_nil)))) (pa_cons (pe_tup (pa_cons pe_str (pa_cons pe_int pa_nil))) pa_nil)))) (pv 3)))
    case' b1s10x => exact (ps_ret (pe_op op_cat (pe_op op_cat (pv 5) (pe_lst (pa_cons (pe_tup (pa_cons pe_str (pa_cons pe_int (pa_cons pe_int (pa_cons pe_int pa_nil))))) (pa_cons (pe_tup (pa_cons pe_str (pa_cons pe_int pa_nil))) pa_nil)))) (pv 3)))
    try dsimp only [cxOf, Cx.nox]
    show let Z1 : L2.TS := _; let Z2 : L2.TS := _; let Z3 : L2.TS := _; let Z4 : L2.TS := tFor _ _ Z3; let Z5 : L2.TS := _; let Z6 : L2.TS := _; let Z7 : L2.TS := _; let Z8 : L2.TS := tFor _ _ Z7; let Z9 : L2.TS := _; let Z10 : L2.TS := _; let Z11 : L2.TS := _; let Z12 : L2.TS := tIfS _ Z11 tNext; let Z13 : L2.TS := _; let Z14 : L2.TS := _; let D0 : Ends := _; (tSeq Z1 (tSeq Z2 (tSeq Z4 (tSeq Z5 (tSeq Z6 (tSeq Z8 (tSeq Z9 (tSeq Z10 (tSeq Z12 (tSeq Z13 (Z14))))))))))) D0 _ _
    intro Z1 Z2 Z3 Z4 Z5 Z6 Z7 Z8 Z9 Z10 Z11 Z12 Z13 Z14 D0
    refine ⟨_, rfl, _, _, rfl, rfl, ?_⟩
    refine ⟨(by show 0 ≤ sizeLine; decide), fun fl hfl => ?_⟩
    have nb : -(2 ^ 62) ≤ ((n : Nat) : Int) ∧ ((n : Nat) : Int) < 2 ^ 62 := ⟨by lia, by lia⟩
    refine ⟨_, rfl, (n : Int), rfl, nb.1, nb.2, ?_⟩
    rw [Int.toNat_natCast]
    let PV2 : Nat → St → Hp → Prop := fun i σ' H' => (∃ o4, σ' = [some (.int n), some (.int c), some (.int ((n : Int) - 1)), some (.ref fl), o4, none]) ∧ Same H H' ∧ ∃ us, H' fl = some (.lst us) ∧ DL H' us (2 * i)
    refine for_range PV2 ?_ ?_ ?_
    · exact ⟨⟨_, rfl⟩, same_new hfl, [], upd_same, DL.nil _⟩
    · rintro i σ' H' hi ⟨⟨o4, rfl⟩, s', us, hf', dl⟩
      refine ⟨_, rfl, .inl ⟨rfl, _, SqL.of hf'⟩, ⟨_, rfl, (by show 2 ≤ sizeLine; decide), fun b1 h1 => ⟨_, rfl, (by show 2 ≤ sizeLine; decide), fun b2 h2 => ⟨(by show 2 ≤ sizeLine; decide), fun z hz => ?_⟩⟩⟩⟩
      have sa := ((same_new h1).trans (same_new h2)).trans (same_new (o := .lst [.ref b1, .ref b2]) hz)
      have hlen := dl.len
      refine ⟨fl, z, us, _, rfl, rfl, sa _ _ hf', .inl (SqL.of upd_same), by simp only [List.length_cons, List.length_nil]; lia, ?_⟩
      have n12 : b1 ≠ b2 := fun q => by rw [← q, upd_same] at h2; cases h2
      have c1 : (upd (upd H' b1 (.tup [.str "down", .int (0 + (i : Int))])) b2 (.tup [.str "up", .int (0 + (i : Int))])) b1 = some (.tup (Deed.down (0 + (i : Int))).vs) := by rw [upd_ne n12, upd_same]; rfl
      have c2 : (upd (upd H' b1 (.tup [.str "down", .int (0 + (i : Int))])) b2 (.tup [.str "up", .int (0 + (i : Int))])) b2 = some (.tup (Deed.up (0 + (i : Int))).vs) := by rw [upd_same]; rfl
      have sz := same_new (o := .lst [.ref b1, .ref b2]) hz
      have tl := tup_lst (vs := us ++ [.ref b1, .ref b2]) (sa _ _ hf')
      refine ⟨⟨_, rfl⟩, same_upd (s'.trans sa) hfl, _, upd_same, ?_⟩
      have := ((dl.tmono (same_tup sa)).append (DL.cons _ (sz _ _ c1) (DL.one _ (sz _ _ c2)))).tmono tl
      exact this.more (by lia)
    · rintro σ' H1 ⟨⟨o4, rfl⟩, s1, us, hf1, dl1⟩
      have hlen1 := dl1.len
      refine ⟨_, rfl, _, rfl, fl, fl, us, us, rfl, rfl, hf1, hf1, by lia, fun fl2 hfl2 => ?_⟩
      have s2 := s1.trans (same_new (o := .lst (us ++ us)) hfl2)
      have dl2 : DL (upd H1 fl2 (.lst (us ++ us))) (us ++ us) (4 * n) := ((dl1.append dl1).more (by lia)).tmono (same_tup (same_new hfl2))
      have hf2 : upd H1 fl2 (.lst (us ++ us)) fl2 = some (.lst (us ++ us)) := upd_same
      generalize upd H1 fl2 (.lst (us ++ us)) = H2 at s2 dl2 hf2
      generalize us ++ us = fs at dl2 hf2
      refine ⟨(by show 0 ≤ sizeLine; decide), fun de hde => ?_⟩
      have hden : H de = none := Same.free s2 hde
      have s3 := same_new (o := .lst []) hde
      refine ⟨_, rfl, (n : Int), rfl, nb.1, nb.2, ?_⟩
      rw [Int.toNat_natCast]
      let PV3 : Nat → St → Hp → Prop := fun i σ' H' => (∃ o4, σ' = [some (.int n), some (.int c), some (.int ((n : Int) - 1)), some (.ref fl2), o4, some (.ref de)]) ∧ Same H2 H' ∧ ∃ us, H' de = some (.lst us) ∧ DL H' us (3 * i)
      refine for_range PV3 ?_ ?_ ?_
      · exact ⟨⟨_, rfl⟩, s3, [], upd_same, DL.nil _⟩
      · rintro i σ' H' hi ⟨⟨o4, rfl⟩, s', us, hf', dl⟩
        refine ⟨_, rfl, .inl ⟨rfl, _, SqL.of hf'⟩, ⟨_, rfl, (by show 3 ≤ sizeLine; decide), fun b1 h1 => ⟨_, rfl, (by show 2 ≤ sizeLine; decide), fun b2 h2 => ⟨_, rfl, (by show 2 ≤ sizeLine; decide), fun b3 h3 => ⟨(by show 3 ≤ sizeLine; decide), fun z hz => ?_⟩⟩⟩⟩⟩
        have sb2 := same_new (o := .tup [.str "up", .int (0 + (i : Int))]) h2
        have sb3 := same_new (o := .tup [.str "down", .int (0 + (i : Int))]) h3
        have sz := same_new (o := .lst [.ref b1, .ref b2, .ref b3]) hz
        have sa := (((same_new h1).trans sb2).trans sb3).trans sz
        have hlen := dl.len
        have c1 := sz _ _ (sb3 _ _ (sb2 _ _ (show upd H' b1 (.tup [.str "look", .int (0 + (i : Int)), .int 0]) b1 = some (.tup (Deed.look (0 + (i : Int)) 0).vs) from upd_same)))
        have c2 := sz _ _ (sb3 _ _ (show _ = some (.tup (Deed.up (0 + (i : Int))).vs) from upd_same))
        have c3 := sz _ _ (show _ = some (.tup (Deed.down (0 + (i : Int))).vs) from upd_same)
        refine ⟨de, z, us, _, rfl, rfl, sa _ _ hf', .inl (SqL.of upd_same), by simp only [List.length_cons, List.length_nil]; lia, ?_⟩
        have tl := tup_lst (vs := us ++ [.ref b1, .ref b2, .ref b3]) (sa _ _ hf')
        refine ⟨⟨_, rfl⟩, same_upd (s'.trans sa) hde, _, upd_same, ?_⟩
        have := ((dl.tmono (same_tup sa)).append (DL.cons _ c1 (DL.cons _ c2 (DL.one _ c3)))).tmono tl
        exact this.more (by lia)
      · rintro σ' H3 ⟨⟨o4, rfl⟩, s3', us3, hd3, dl3⟩
        have hf3 := s3' _ _ hf2
        have dlf3 := dl2.tmono (same_tup s3')
        have s03 := s2.trans s3'
        have hl3 := dl3.len
        refine ⟨_, rfl, ⟨(by show 3 ≤ sizeLine; decide), fun b1 h1 => ⟨(by show 3 ≤ sizeLine; decide), fun b2 h2 => ⟨(by show 2 ≤ sizeLine; decide), fun b3 h3 => ⟨(by show 2 ≤ sizeLine; decide), fun b4 h4 => ⟨(by show 4 ≤ sizeLine; decide), fun z hz => ?_⟩⟩⟩⟩⟩⟩
        have sb2 := same_new (o := .tup [.str "look", .int 0, .int 0]) h2
        have sb3 := same_new (o := .tup [.str "up", .int 0]) h3
        have sb4 := same_new (o := .tup [.str "down", .int 0]) h4
        have sz := same_new (o := .lst [.ref b1, .ref b2, .ref b3, .ref b4]) hz
        have sa := ((((same_new h1).trans sb2).trans sb3).trans sb4).trans sz
        have c1 := sz _ _ (sb4 _ _ (sb3 _ _ (sb2 _ _ (show upd H3 b1 (.tup [.str "rest", .int 0, .int 0]) b1 = some (.tup (Deed.rest 0 0).vs) from upd_same))))
        have c2 := sz _ _ (sb4 _ _ (sb3 _ _ (show _ = some (.tup (Deed.look 0 0).vs) from upd_same)))
        have c3 := sz _ _ (sb4 _ _ (show _ = some (.tup (Deed.up 0).vs) from upd_same))
        have c4 := sz _ _ (show _ = some (.tup (Deed.down 0).vs) from upd_same)
        refine ⟨de, z, us3, _, rfl, rfl, sa _ _ hd3, upd_same, by simp only [List.length_cons, List.length_nil]; lia, fun d4 hd4 => ?_⟩
        have s4 := same_new (o := .lst (us3 ++ [.ref b1, .ref b2, .ref b3, .ref b4])) hd4
        have dl4 := ((dl3.tmono (same_tup sa)).append (DL.cons _ c1 (DL.cons _ c2 (DL.cons _ c3 (DL.one _ c4))))).tmono (same_tup s4)
        have dlf4 := dlf3.tmono (same_tup (sa.trans s4))
        have hf4 := (sa.trans s4) _ _ hf3
        have s04 := s03.trans (sa.trans s4)
        have hd4' : upd (upd (upd (upd (upd (upd H3 b1 (.tup [.str "rest", .int 0, .int 0])) b2 (.tup [.str "look", .int 0, .int 0])) b3 (.tup [.str "up", .int 0])) b4 (.tup [.str "down", .int 0])) z (.lst [.ref b1, .ref b2, .ref b3, .ref b4])) d4 (.lst (us3 ++ [.ref b1, .ref b2, .ref b3, .ref b4])) d4 = some (.lst (us3 ++ [.ref b1, .ref b2, .ref b3, .ref b4])) := upd_same
        generalize upd (upd (upd (upd (upd (upd H3 b1 (.tup [.str "rest", .int 0, .int 0])) b2 (.tup [.str "look", .int 0, .int 0])) b3 (.tup [.str "up", .int 0])) b4 (.tup [.str "down", .int 0])) z (.lst [.ref b1, .ref b2, .ref b3, .ref b4])) d4 (.lst (us3 ++ [.ref b1, .ref b2, .ref b3, .ref b4])) = H4 at dl4 dlf4 hf4 s04 hd4'
        generalize us3 ++ [.ref b1, .ref b2, .ref b3, .ref b4] = u4 at dl4 hd4'
        clear sb2 sb3 sb4 sz sa c1 c2 c3 c4 s4 h1 h2 h3 h4 hz hd4 dl3 dlf3 hf3 s03 hd3 s3' hl3
        have hl4 := dl4.len
        have hlf := dlf4.len
        have hpk : ∃ x : Int, atI ([V.int 0, V.int 5] : List V) (c % 2) = some (.int x) := by
          have : c % 2 = 0 ∨ c % 2 = 1 := by lia
          rcases this with e | e <;> rw [e] <;> exact ⟨_, rfl⟩
        obtain ⟨px, hpx⟩ := hpk
        refine ⟨_, rfl, _, rfl, ⟨(by show 2 ≤ sizeLine; decide), fun y hy => ⟨_, rfl, _, _, rfl, rfl, (show (0 : Int) < 2 by decide), y, _, _, _, rfl, rfl, SqL.of upd_same, hpx, (by show 4 ≤ sizeLine; decide), fun b1 h1 => ⟨_, rfl, (by show 2 ≤ sizeLine; decide), fun b2 h2 => ⟨(by show 2 ≤ sizeLine; decide), fun z hz => ?_⟩⟩⟩⟩⟩
        have sy := same_new (o := .lst [.int 0, .int 5]) hy
        have sb1 := same_new (o := .tup [.str "put", .int ((n : Int) - 1), .int 0, .int px]) h1
        have sb2 := same_new (o := .tup [.str "up", .int ((n : Int) - 1)]) h2
        have sz := same_new (o := .lst [.ref b1, .ref b2]) hz
        have sa := ((sy.trans sb1).trans sb2).trans sz
        have c1 := sz _ _ (sb2 _ _ (show _ = some (.tup (Deed.put ((n : Int) - 1) 0 px).vs) from upd_same))
        have c2 := sz _ _ (show _ = some (.tup (Deed.up ((n : Int) - 1)).vs) from upd_same)
        refine cat2 rfl (sa _ _ hd4') upd_same (sa _ _ hf4) (by simp only [List.length_cons, List.length_nil]; lia) fun d5 H5 s5 hd5 hd5' => ?_
        have dl5 : DL H5 _ _ := (((dl4.tmono (same_tup sa)).append (DL.cons _ c1 (DL.one _ c2))).append (dlf4.tmono (same_tup sa))).tmono (same_tup s5)
        have dlf5 := dlf4.tmono (same_tup (sa.trans s5))
        have hf5 := (sa.trans s5) _ _ hf4
        have s05 := s04.trans (sa.trans s5)
        generalize (u4 ++ [.ref b1, .ref b2]) ++ fs = u5 at dl5 hd5'
        clear sy sb1 sb2 sz sa c1 c2 s5 hy h1 h2 hz hd5 dl4 dlf4 hf4 s04 hd4' hl4
        have hl5 := dl5.len
        try dsimp only [tNext]
        refine seq_via (fun σ' H' => ∃ o4 d6 us6, σ' = [some (.int n), some (.int c), some (.int ((n : Int) - 1)), some (.ref fl2), o4, some (.ref d6)] ∧ Same H H' ∧ H' fl2 = some (.lst fs) ∧ DL H' fs (4 * n) ∧ H' d6 = some (.lst us6) ∧ DL H' us6 (11 * n + 20)) (fun N hN => ?_) ?_
        · refine ⟨_, rfl, _, _, rfl, rfl, ⟨by decide, by decide⟩, _, _, rfl, rfl, (show (0 : Int) < 3 by decide), rfl, _, rfl, ?_⟩
          by_cases e : c / 2 % 3 = 1
          · refine iteTb (vi_eq e) ?_
            refine ⟨_, rfl, ⟨_, rfl, (by show 3 ≤ sizeLine; decide), fun b1 h1 => ⟨(by show 1 ≤ sizeLine; decide), fun z hz => ?_⟩⟩⟩
            have sb1 := same_new (o := .tup [.str "rest", .int ((n : Int) - 1), .int 0]) h1
            have sz := same_new (o := .lst [.ref b1]) hz
            have sa := sb1.trans sz
            have c1 := sz _ _ (show _ = some (.tup (Deed.rest ((n : Int) - 1) 0).vs) from upd_same)
            refine cat2 rfl (sa _ _ hd5') upd_same (sa _ _ hf5) (by simp only [List.length_cons, List.length_nil]; lia) fun d6 H6 s6 hd6 hd6' => ?_
            have dl6 : DL H6 _ _ := (((dl5.tmono (same_tup sa)).append (DL.one _ c1)).append (dlf5.tmono (same_tup sa))).tmono (same_tup s6)
            exact hN _ _ ⟨_, d6, _, rfl, s05.trans (sa.trans s6), (sa.trans s6) _ _ hf5, dlf5.tmono (same_tup (sa.trans s6)), hd6', dl6.more (by lia)⟩
          · refine iteFb (vi_ne e) ?_
            exact hN _ _ ⟨_, d5, _, rfl, s05, hf5, dlf5, hd5', dl5.more (by lia)⟩
        · rintro σ' H6 ⟨o4', d6, us6, rfl, s06, hf6, dlf6, hd6, dl6⟩
          have hl6 := dl6.len
          refine ⟨_, rfl, ⟨(by show 3 ≤ sizeLine; decide), fun b1 h1 => ⟨(by show 2 ≤ sizeLine; decide), fun b2 h2 => ⟨(by show 2 ≤ sizeLine; decide), fun z hz => ?_⟩⟩⟩⟩
          have sb1 := same_new (o := .tup [.str "look", .int 0, .int 0]) h1
          have sb2 := same_new (o := .tup [.str "up", .int 0]) h2
          have sz := same_new (o := .lst [.ref b1, .ref b2]) hz
          have sa := (sb1.trans sb2).trans sz
          have c1 := sz _ _ (sb2 _ _ (show _ = some (.tup (Deed.look 0 0).vs) from upd_same))
          have c2 := sz _ _ (show _ = some (.tup (Deed.up 0).vs) from upd_same)
          refine cat2 rfl (sa _ _ hd6) upd_same (sa _ _ hf6) (by simp only [List.length_cons, List.length_nil]; lia) fun d7 H7 s7 hd7 hd7' => ?_
          have dl7 : DL H7 _ _ := (((dl6.tmono (same_tup sa)).append (DL.cons _ c1 (DL.one _ c2))).append (dlf6.tmono (same_tup sa))).tmono (same_tup s7)
          have dlf7 := dlf6.tmono (same_tup (sa.trans s7))
          have hf7 := (sa.trans s7) _ _ hf6
          have s07 := s06.trans (sa.trans s7)
          have hl7 := dl7.len
          clear sb1 sb2 sz sa c1 c2 s7 h1 h2 hz hd7
          refine ⟨_, rfl, ⟨(by show 4 ≤ sizeLine; decide), fun e1 h1 => ⟨(by show 2 ≤ sizeLine; decide), fun e2 h2 => ⟨(by show 2 ≤ sizeLine; decide), fun z2 hz => ?_⟩⟩⟩⟩
          have sb1 := same_new (o := .tup [.str "put", .int 0, .int 0, .int 7]) h1
          have sb2 := same_new (o := .tup [.str "up", .int 0]) h2
          have sz := same_new (o := .lst [.ref e1, .ref e2]) hz
          have sa := (sb1.trans sb2).trans sz
          have c1 := sz _ _ (sb2 _ _ (show _ = some (.tup (Deed.put 0 0 7).vs) from upd_same))
          have c2 := sz _ _ (show _ = some (.tup (Deed.up 0).vs) from upd_same)
          refine cat2 rfl (sa _ _ hd7') upd_same (sa _ _ hf7) (by simp only [List.length_cons, List.length_nil]; lia) fun d8 H8 s8 hd8 hd8' => ?_
          have dl8 : DL H8 _ _ := (((dl7.tmono (same_tup sa)).append (DL.cons _ c1 (DL.one _ c2))).append (dlf7.tmono (same_tup sa))).tmono (same_tup s8)
          exact k d8 _ H8 (Same.free (s07.trans sa) hd8) (s07.trans (sa.trans s8)) hd8' (dl8.more (by lia))
end
end K07
namespace K07
open PySem L2
noncomputable def spAsked : Sp := fun vs H Q _ => ∃ l, ∃ n m : Nat, ∃ cs : List Int, vs = [.ref l, .int n, .int m] ∧ H l = some (.lst (cs.map V.int)) ∧ 0 < n ∧ n ≤ 100 ∧ 0 < m ∧ m ≤ 100 ∧ cs.length ≤ 100 ∧
  ∀ r us H', H r = none → Same H H' → H' r = some (.lst us) → DL H' us 400 → Q (.ref r) H'
noncomputable def wordsL : List V := [.str "look", .str "put", .str "up", .str "down", .str "put", .str "look", .str "rest", .str "down"]
theorem words_at {j : Int} (h0 : 0 ≤ j) (h1 : j < 8) : ∃ s : Str, atI wordsL j = some (.str s) ∧ (s = "put" ∨ s = "look" ∨ s = "rest" ∨ s = "up" ∨ s = "down") := by
  have : j = 0 ∨ j = 1 ∨ j = 2 ∨ j = 3 ∨ j = 4 ∨ j = 5 ∨ j = 6 ∨ j = 7 := by lia
  rcases this with rfl | rfl | rfl | rfl | rfl | rfl | rfl | rfl
  · exact ⟨_, rfl, .inr (.inl rfl)⟩
  · exact ⟨_, rfl, .inl rfl⟩
  · exact ⟨_, rfl, .inr (.inr (.inr (.inl rfl)))⟩
  · exact ⟨_, rfl, .inr (.inr (.inr (.inr rfl)))⟩
  · exact ⟨_, rfl, .inl rfl⟩
  · exact ⟨_, rfl, .inr (.inl rfl)⟩
  · exact ⟨_, rfl, .inr (.inr (.inl rfl))⟩
  · exact ⟨_, rfl, .inr (.inr (.inr (.inr rfl)))⟩
section
variable {P : Program} {w : World} {K : PySem.W.Frag} {mg : Str → Option Value} {base : Heap} {t : Adr}
set_option maxHeartbeats 8000000 in
theorem ok_l_asked_of (T : Txt K w mg t) : FnOk P w K mg base CX0 1 t.f_l_asked_of t.fd_l_asked_of ["_law_cells", "_law_count", "_law_pages"] spAsked := by
  refine T.F_l_asked_of.ok sc_l_asked_of (fun vs H Q E h => ?_) (fun cdv A outer s H vs Q E hr h => ?_)
  · obtain ⟨l, n, m, cs, rfl, _⟩ := h; rfl
  · obtain ⟨l, n, m, cs, rfl, hl, hn0, hn, hm0, hm, hcs, k⟩ := h
    have sl : sizeLine = 16777216 := by decide
    refine' ⟨_, ?sr, ?_⟩
    case' sr => refine' pss_cons ?b1s0x ?b1sr0x
    case' b1sr0x => refine' pss_cons ?b1s1x ?b1sr1x
    case' b1sr1x => refine' pss_cons ?b1s2x ?b1sr2x
    case' b1sr2x => refine' pss_one ?b1s3x
    case' b1s0x => exact (ps_set (i := 3) sc_l_asked_of.nd rfl (Or.inl rfl) (pe_lst (pa_cons pe_str (pa_cons pe_str (pa_cons pe_str (pa_cons pe_str (pa_cons pe_str (pa_cons pe_str (pa_cons pe_str (pa_cons pe_str pa_nil))))))))))
    case' b1s1x => exact (ps_set (i := 4) sc_l_asked_of.nd rfl (Or.inl rfl) (pe_lst pa_nil))
    case' b1s2x => refine' ps_for PassesOwn.never rfl (pi_range1 (by rfl) T.n_range (pa_cons (pe_op op_fdiv (pe_callB call_len_seq (by rfl) T.n_len PySem.boot_len (pa_cons (pv 0) pa_nil)) pe_int) pa_nil)) (pg_name (i := 5) sc_l_asked_of.nd rfl (Or.inl rfl)) ?b1s2b
    case' b1s2b => refine' pss_cons ?b2s0x ?b2sr0x
    case' b2sr0x => refine' pss_cons ?b2s1x ?b2sr1x
    case' b2sr1x => refine' pss_cons ?b2s2x ?b2sr2x
    case' b2sr2x => refine' pss_cons ?b2s3x ?b2sr3x
    case' b2sr3x => refine' pss_cons ?b2s4x ?b2sr4x
    case' b2sr4x => refine' pss_cons ?b2s5x ?b2sr5x
    case' b2sr5x => refine' pss_cons ?b2s6x ?b2sr6x
    case' b2sr6x => refine' pss_cons ?b2s7x ?b2sr7x
    case' b2sr7x => refine' pss_cons ?b2s8x ?b2sr8x
    case' b2sr8x => refine' pss_one ?b2s9x
    case' b2s0x => exact (ps_set (i := 6) sc_l_asked_of.nd rfl (Or.inl rfl) (pe_op op_add (pe_op op_fdiv (pe_ix ix_list (pv 0) (pe_op op_mul pe_int (pv 5)) (fun _ _ => rfl)) pe_int) (pv 5)))
    case' b2s1x => exact (ps_set (i := 7) sc_l_asked_of.nd rfl (Or.inl rfl) (pe_op op_add (pe_ix ix_list (pv 0) (pe_op op_add (pe_op op_mul pe_int (pv 5)) pe_int) (fun _ _ => rfl)) (pv 5)))
    case' b2s2x => exact (ps_set (i := 8) sc_l_asked_of.nd rfl (Or.inl rfl) (pe_op op_add (pe_ix ix_list (pv 0) (pe_op op_add (pe_op op_mul pe_int (pv 5)) pe_int) (fun _ _ => rfl)) (pv 5)))
    case' b2s3x => exact (ps_set (i := 9) sc_l_asked_of.nd rfl (Or.inl rfl) (pe_ix ix_list (pv 3) (pe_op op_mod (pe_op op_add (pe_ix ix_list (pv 0) (pe_op op_mul pe_int (pv 5)) (fun _ _ => rfl)) (pe_op op_mul pe_int (pv 5))) pe_int) (fun _ _ => rfl)))
    case' b2s4x => exact (ps_set (i := 10) sc_l_asked_of.nd rfl (Or.inl rfl) (pe_op op_mod (pv 6) (pv 1)))
    case' b2s5x => exact (ps_set (i := 11) sc_l_asked_of.nd rfl (Or.inl rfl) (pe_op op_mod (pv 7) (pv 2)))
    case' b2s6x => refine' ps_if (pt_cmpR op_eq (pe_op op_mod (pe_op op_fdiv (pv 8) pe_int) pe_int) pe_int (nomark _)) ?b2s6t ?b2s6f
    case' b2s6t => refine' pss_cons ?b3s0x ?b3sr0x
    case' b3sr0x => refine' pss_one ?b3s1x
    case' b3s0x => exact (ps_set (i := 12) sc_l_asked_of.nd rfl (Or.inl rfl) (pe_op op_mod (pv 6) (pe_op op_pow pe_int pe_int)))
    case' b3s1x => exact (ps_set (i := 10) sc_l_asked_of.nd rfl (Or.inl rfl) (pe_ix ix_list (pe_lst (pa_cons (pe_un un_neg pe_int) (pa_cons (pv 1) (pa_cons pe_int (pa_cons (pe_op op_sub (pe_un un_neg pe_int) (pv 12)) (pa_cons (pe_op op_add (pv 1) (pv 12)) pa_nil)))))) (pe_op op_mod (pv 6) pe_int) (fun _ _ => rfl)))
    case' b2s6f => exact pss_nil
    case' b2s7x => refine' ps_if (pt_cmpR op_eq (pe_op op_mod (pe_op op_fdiv (pv 8) pe_int) pe_int) pe_int (nomark _)) ?b2s7t ?b2s7f
    case' b2s7t => refine' pss_cons ?b4s0x ?b4sr0x
    case' b4sr0x => refine' pss_one ?b4s1x
    case' b4s0x => exact (ps_set (i := 12) sc_l_asked_of.nd rfl (Or.inl rfl) (pe_op op_mod (pv 7) (pe_op op_pow pe_int pe_int)))
    case' b4s1x => exact (ps_set (i := 11) sc_l_asked_of.nd rfl (Or.inl rfl) (pe_ix ix_list (pe_lst (pa_cons (pe_un un_neg pe_int) (pa_cons (pv 2) (pa_cons pe_int (pa_cons (pe_op op_sub (pe_un un_neg pe_int) (pv 12)) (pa_cons (pe_op op_add (pv 2) (pv 12)) pa_nil)))))) (pe_op op_mod (pv 7) pe_int) (fun _ _ => rfl)))
    case' b2s7f => exact pss_nil
    case' b2s8x => refine' ps_if (pt_cmpR op_eq (pv 9) pe_str (nomark _)) ?b2s8t ?b2s8f
    case' b2s8t => refine' pss_cons ?b5s0x ?b5sr0x
    case' b5sr0x => refine' pss_cons ?b5s1x ?b5sr1x
    case' b5sr1x => refine' pss_cons ?b5s2x ?b5sr2x
    case' b5sr2x => refine' pss_cons ?b5s3x ?b5sr3x
    case' b5sr3x => refine' pss_one ?b5s4x
    case' b5s0x => exact (ps_set (i := 13) sc_l_asked_of.nd rfl (Or.inl rfl) (pe_op op_sub (pe_op op_mod (pe_op op_add (pe_op op_fdiv (pv 7) pe_int) (pe_op op_mul pe_int (pv 5))) pe_int) pe_int))
    case' b5s1x => refine' ps_if (pt_cmpR op_gt (pv 13) pe_int (nomark _)) ?b5s1t ?b5s1f
    case' b5s1t => refine' pss_one ?b6s0x
    case' b6s0x => exact (ps_set (i := 13) sc_l_asked_of.nd rfl (Or.inl rfl) pe_int)
    case' b5s1f => refine' pss_one ?b7s0x
    case' b7s0x => exact (ps_if (pt_cmpR op_gt (pv 13) pe_int (nomark _)) (pss_one (ps_set (i := 13) sc_l_asked_of.nd rfl (Or.inl rfl) (pe_op op_add pe_int (pv 13)))) pss_nil)
    case' b5s2x => exact (ps_set (i := 14) sc_l_asked_of.nd rfl (Or.inl rfl) (pe_op op_mod (pe_op op_mul (pv 7) pe_int) (pe_op op_pow pe_int pe_int)))
    case' b5s3x => exact (ps_set (i := 13) sc_l_asked_of.nd rfl (Or.inl rfl) (pe_ix ix_list (pe_lst (pa_cons (pv 13) (pa_cons (pv 13) (pa_cons (pv 14) (pa_cons (pe_op op_sub pe_int (pv 14)) pa_nil))))) (pe_op op_mod (pv 6) pe_int) (fun _ _ => rfl)))
    case' b5s4x => exact (ps_expr (pe_bm PySem.F.plainAttrs_list PySem.F.slot_list_append PySem.F.type_list_append mt_append (pv 4) (pa_cons (pe_tup (pa_cons (pv 9) (pa_cons (pv 10) (pa_cons (pv 11) (pa_cons (pv 13) pa_nil))))) pa_nil)))
    case' b2s8f => refine' pss_one ?b8s0x
    case' b8s0x => refine' ps_if (PW.pt (pw_or (pt_cmpR op_eq (pv 9) pe_str (nomark _)) (pw_or1 (pt_cmpR op_eq (pv 9) pe_str (nomark _))))) ?b8s0t ?b8s0f
    case' b8s0t => refine' pss_cons ?b9s0x ?b9sr0x
    case' b9sr0x => refine' pss_one ?b9s1x
    case' b9s0x => exact (ps_expr (pe_bm PySem.F.plainAttrs_list PySem.F.slot_list_append PySem.F.type_list_append mt_append (pv 4) (pa_cons (pe_tup (pa_cons (pv 9) (pa_cons (pv 10) (pa_cons (pv 11) pa_nil)))) pa_nil)))
    case' b9s1x => exact (ps_if (PW.pt (pw_and (pt_cmpR op_eq (pv 9) pe_str (nomark _)) (pw_and1 (pt_cmpR op_eq (pe_op op_mod (pe_op op_fdiv (pv 7) pe_int) pe_int) pe_int (nomark _))))) (pss_one (ps_expr (pe_bm PySem.F.plainAttrs_list PySem.F.slot_list_append PySem.F.type_list_append mt_append (pv 4) (pa_cons (pe_tup (pa_cons pe_str (pa_cons (pv 10) (pa_cons (pv 11) pa_nil)))) pa_nil)))) pss_nil)
    case' b8s0f => refine' pss_one ?b10s0x
    case' b10s0x => exact (ps_expr (pe_bm PySem.F.plainAttrs_list PySem.F.slot_list_append PySem.F.type_list_append mt_append (pv 4) (pa_cons (pe_tup (pa_cons (pv 9) (pa_cons (pv 10) pa_nil))) pa_nil)))
    case' b2s9x => refine' ps_if (pt_cmpR op_lt (pe_op op_mod (pv 8) pe_int) pe_int (nomark _)) ?b2s9t ?b2s9f
    case' b2s9t => refine' pss_cons ?b11s0x ?b11sr0x
    case' b11sr0x => refine' pss_one ?b11s1x
    case' b11s0x => exact (ps_expr (pe_bm PySem.F.plainAttrs_list PySem.F.slot_list_append PySem.F.type_list_append mt_append (pv 4) (pa_cons (pe_tup (pa_cons pe_str (pa_cons (pe_op op_mod (pv 8) (pv 1)) pa_nil))) pa_nil)))
    case' b11s1x => exact (ps_expr (pe_bm PySem.F.plainAttrs_list PySem.F.slot_list_append PySem.F.type_list_append mt_append (pv 4) (pa_cons (pe_tup (pa_cons pe_str (pa_cons (pe_op op_mod (pe_op op_add (pe_op op_fdiv (pv 8) pe_int) (pv 5)) (pv 1)) pa_nil))) pa_nil)))
    case' b2s9f => exact pss_nil
    case' b1s3x => exact (ps_ret (pv 4))
    try dsimp only [cxOf, Cx.nox]
    show let Z1 : L2.TS := _; let Z2 : L2.TS := _; let Z3 : L2.TS := _; let Z4 : L2.TS := _; let Z5 : L2.TS := _; let Z6 : L2.TS := _; let Z7 : L2.TS := _; let Z8 : L2.TS := _; let Z9 : L2.TS := _; let Z10 : L2.TS := _; let Z11 : L2.TS := tSeq Z9 (Z10); let Z12 : L2.TS := tIfS _ Z11 tNext; let Z13 : L2.TS := _; let Z14 : L2.TS := _; let Z15 : L2.TS := tSeq Z13 (Z14); let Z16 : L2.TS := tIfS _ Z15 tNext; let Z17 : L2.TS := _; let Z18 : L2.TS := _; let Z19 : L2.TS := _; let Z20 : L2.TS := tIfS _ Z19 tNext; let Z21 : L2.TS := tIfS _ Z18 Z20; let Z22 : L2.TS := _; let Z23 : L2.TS := _; let Z24 : L2.TS := _; let Z25 : L2.TS := tSeq Z17 (tSeq Z21 (tSeq Z22 (tSeq Z23 (Z24)))); let Z26 : L2.TS := _; let Z27 : L2.TS := _; let Z28 : L2.TS := tIfS _ Z27 tNext; let Z29 : L2.TS := tSeq Z26 (Z28); let Z30 : L2.TS := _; let Z31 : L2.TS := tIfS _ Z29 Z30; let Z32 : L2.TS := tIfS _ Z25 Z31; let Z33 : L2.TS := _; let Z34 : L2.TS := _; let Z35 : L2.TS := tSeq Z33 (Z34); let Z36 : L2.TS := tIfS _ Z35 tNext; let Z37 : L2.TS := tSeq Z3 (tSeq Z4 (tSeq Z5 (tSeq Z6 (tSeq Z7 (tSeq Z8 (tSeq Z12 (tSeq Z16 (tSeq Z32 (Z36))))))))); let Z38 : L2.TS := tFor _ _ Z37; let Z39 : L2.TS := _; let D0 : Ends := _; (tSeq Z1 (tSeq Z2 (tSeq Z38 (Z39)))) D0 _ _
    intro Z1 Z2 Z3 Z4 Z5 Z6 Z7 Z8 Z9 Z10 Z11 Z12 Z13 Z14 Z15 Z16 Z17 Z18 Z19 Z20 Z21 Z22 Z23 Z24 Z25 Z26 Z27 Z28 Z29 Z30 Z31 Z32 Z33 Z34 Z35 Z36 Z37 Z38 Z39 D0
    refine ⟨(by show 8 ≤ sizeLine; decide), fun wl hwl => ⟨(by show 0 ≤ sizeLine; decide), fun as has => ?_⟩⟩
    have sw := same_new (o := .lst wordsL) hwl
    have nwa : wl ≠ as := fun z => by rw [← z, upd_same] at has; cases has
    have hasn : H as = none := Lv.upd _ has
    have s0 : Same H (upd (upd H wl (.lst wordsL)) as (.lst [])) := sw.trans (same_new has)
    have hw0 : upd (upd H wl (.lst wordsL)) as (.lst []) wl = some (.lst wordsL) := by rw [upd_ne nwa, upd_same]
    refine ⟨_, rfl, l, _, rfl, .inl (SqL.of (s0 _ _ hl)), _, _, rfl, rfl, ⟨by decide, by decide⟩, ((cs.length / 3 : Nat) : Int), by rw [List.length_map]; rfl, (by lia), (by lia), ?_⟩
    rw [Int.toNat_natCast]
    let PV1 : Nat → St → Hp → Prop := fun i σ' H' => (∃ o5 o6 o7 o8 o9 o10 o11 o12 o13 o14, σ' = [some (.ref l), some (.int n), some (.int m), some (.ref wl), some (.ref as), o5, o6, o7, o8, o9, o10, o11, o12, o13, o14]) ∧ Same H H' ∧ H' wl = some (.lst wordsL) ∧ ∃ us, H' as = some (.lst us) ∧ DL H' us (4 * i)
    refine for_range PV1 ?_ ?_ ?_
    · exact ⟨⟨_, _, _, _, _, _, _, _, _, _, rfl⟩, s0, hw0, [], upd_same, DL.nil _⟩
    · rintro i σ' H' hi ⟨⟨o5, o6, o7, o8, o9, o10, o11, o12, o13, o14, rfl⟩, s', hw', us, ha', dl⟩
      have hl' := s' _ _ hl
      have hul := dl.len
      obtain ⟨x0, hx0⟩ := atInt (ns := cs) (k := 3 * (0 + (i : Int))) (by lia) (by lia)
      obtain ⟨x1, hx1⟩ := atInt (ns := cs) (k := 3 * (0 + (i : Int)) + 1) (by lia) (by lia)
      obtain ⟨x2, hx2⟩ := atInt (ns := cs) (k := 3 * (0 + (i : Int)) + 2) (by lia) (by lia)
      obtain ⟨wd0, hwd, hwo⟩ := words_at (j := (x0 + 3 * (0 + (i : Int))) % 8) (by lia) (by lia)
      have M5 : CMul 3 (0 + (i : Int)) := .inl ⟨by decide, by decide⟩
      refine ⟨_, rfl, _, rfl, _, _, rfl, rfl, M5, l, _, _, _, rfl, rfl, SqL.of hl', hx0, _, _, rfl, rfl, ⟨by decide, by decide⟩, _, rfl, _, _, rfl, rfl, ?_⟩
      refine ⟨_, rfl, _, rfl, _, _, rfl, rfl, M5, _, _, rfl, rfl, l, _, _, _, rfl, rfl, SqL.of hl', hx1, _, rfl, _, _, rfl, rfl, ?_⟩
      refine ⟨_, rfl, _, rfl, _, _, rfl, rfl, M5, _, _, rfl, rfl, l, _, _, _, rfl, rfl, SqL.of hl', hx2, _, rfl, _, _, rfl, rfl, ?_⟩
      refine ⟨_, rfl, _, rfl, _, rfl, _, _, rfl, rfl, M5, l, _, _, _, rfl, rfl, SqL.of hl', hx0, _, rfl, _, _, rfl, rfl, M5, _, _, rfl, rfl, _, _, rfl, rfl, (show (0 : Int) < 8 by decide), wl, _, _, _, rfl, rfl, SqL.of hw', hwd, ?_⟩
      refine ⟨_, rfl, _, rfl, _, _, rfl, rfl, (show (0 : Int) < n by lia), ?_⟩
      refine ⟨_, rfl, _, rfl, _, _, rfl, rfl, (show (0 : Int) < m by lia), ?_⟩
      have P30 : (0 : Int) < (10 : Int) ^ (30 : Int).toNat := by decide
      try dsimp only [tNext]
      refine seq_via (fun σ' H'' => ∃ dk p12, σ' = [some (.ref l), some (.int n), some (.int m), some (.ref wl), some (.ref as), some (.int (0 + (i : Int))), some (.int (x0 / 8 + (0 + (i : Int)))), some (.int (x1 + (0 + (i : Int)))), some (.int (x2 + (0 + (i : Int)))), some (.str wd0), some (.int dk), some (.int ((x1 + (0 + (i : Int))) % (m : Int))), p12, o13, o14] ∧ Same H' H'') (fun N hN => ?_) ?_
      · refine ⟨_, rfl, _, _, rfl, rfl, ⟨by decide, by decide⟩, _, _, rfl, rfl, (show (0 : Int) < 16 by decide), rfl, _, rfl, ?_⟩
        by_cases e : (x2 + (0 + (i : Int))) / 16 % 16 = 7
        · refine iteTb (vi_eq e) ?_
          refine ⟨_, rfl, _, _, rfl, rfl, ⟨by decide, by decide, by decide⟩, _, _, rfl, rfl, P30, ?_⟩
          obtain ⟨y, hy⟩ := atInt (ns := [-1, (n : Int), 1000000000000, -2 - (x0 / 8 + (0 + (i : Int))) % (10 : Int) ^ (30 : Int).toNat, (n : Int) + (x0 / 8 + (0 + (i : Int))) % (10 : Int) ^ (30 : Int).toNat]) (k := (x0 / 8 + (0 + (i : Int))) % 5) (by lia) (by show _ < ((5 : Nat) : Int); lia)
          refine ⟨_, rfl, _, rfl, _, rfl, _, rfl, _, _, rfl, rfl, _, rfl, _, rfl, _, _, rfl, rfl, (by show 5 ≤ sizeLine; decide), fun z hz => ⟨_, rfl, _, _, rfl, rfl, (show (0 : Int) < 5 by decide), z, _, _, _, rfl, rfl, SqL.of upd_same, hy, ?_⟩⟩
          exact hN _ _ ⟨_, _, rfl, same_new hz⟩
        · refine iteFb (vi_ne e) ?_
          exact hN _ _ ⟨_, _, rfl, Same.refl _⟩
      rintro σ' H1 ⟨dk, p12, rfl, s1⟩
      try dsimp only [tNext]
      refine seq_via (fun σ' H'' => ∃ pg q12, σ' = [some (.ref l), some (.int n), some (.int m), some (.ref wl), some (.ref as), some (.int (0 + (i : Int))), some (.int (x0 / 8 + (0 + (i : Int)))), some (.int (x1 + (0 + (i : Int)))), some (.int (x2 + (0 + (i : Int)))), some (.str wd0), some (.int dk), some (.int pg), q12, o13, o14] ∧ Same H' H'') (fun N hN => ?_) ?_
      · refine ⟨_, rfl, _, _, rfl, rfl, ⟨by decide, by decide⟩, _, _, rfl, rfl, (show (0 : Int) < 16 by decide), rfl, _, rfl, ?_⟩
        by_cases e : (x2 + (0 + (i : Int))) / 16 % 16 = 11
        · refine iteTb (vi_eq e) ?_
          refine ⟨_, rfl, _, _, rfl, rfl, ⟨by decide, by decide, by decide⟩, _, _, rfl, rfl, P30, ?_⟩
          obtain ⟨y, hy⟩ := atInt (ns := [-1, (m : Int), 1000000000000, -2 - (x1 + (0 + (i : Int))) % (10 : Int) ^ (30 : Int).toNat, (m : Int) + (x1 + (0 + (i : Int))) % (10 : Int) ^ (30 : Int).toNat]) (k := (x1 + (0 + (i : Int))) % 5) (by lia) (by show _ < ((5 : Nat) : Int); lia)
          refine ⟨_, rfl, _, rfl, _, rfl, _, rfl, _, _, rfl, rfl, _, rfl, _, rfl, _, _, rfl, rfl, (by show 5 ≤ sizeLine; decide), fun z hz => ⟨_, rfl, _, _, rfl, rfl, (show (0 : Int) < 5 by decide), z, _, _, _, rfl, rfl, SqL.of upd_same, hy, ?_⟩⟩
          exact hN _ _ ⟨_, _, rfl, s1.trans (same_new hz)⟩
        · refine iteFb (vi_ne e) ?_
          exact hN _ _ ⟨_, _, rfl, s1⟩
      rintro σ' H2 ⟨pg, q12, rfl, s2⟩
      have ha2 := s2 _ _ ha'
      have dl2 := dl.tmono (same_tup s2)
      have s02 := s'.trans s2
      have hw2 := s2 _ _ hw'
      have one : ∀ (H3 : Hp) (x : Deed) (b : Addr) (us3 : List V) (j : Nat), Same H H3 → H3 wl = some (.lst wordsL) → H3 as = some (.lst us3) → DL H3 us3 j → H3 b = none → Same H (upd (upd H3 b (.tup x.vs)) as (.lst (us3 ++ [.ref b]))) ∧ upd (upd H3 b (.tup x.vs)) as (.lst (us3 ++ [.ref b])) wl = some (.lst wordsL) ∧ DL (upd (upd H3 b (.tup x.vs)) as (.lst (us3 ++ [.ref b]))) (us3 ++ [.ref b]) (j + 1) := fun H3 x b us3 j s3 hw3 ha3 dl3 hb => by
        have sb := same_new (o := .tup x.vs) hb
        have nwb : wl ≠ b := ne_of_none hw3 hb
        refine ⟨same_upd (s3.trans sb) hasn, by rw [upd_ne nwa, upd_ne nwb]; exact hw3, ?_⟩
        have tl := tup_lst (vs := us3 ++ [.ref b]) (sb _ _ ha3)
        exact ((dl3.tmono (same_tup sb)).append (DL.one x upd_same)).tmono tl
      try dsimp only [tNext]
      refine seq_via (fun σ' H'' => ∃ p13 p14 us2, σ' = [some (.ref l), some (.int n), some (.int m), some (.ref wl), some (.ref as), some (.int (0 + (i : Int))), some (.int (x0 / 8 + (0 + (i : Int)))), some (.int (x1 + (0 + (i : Int)))), some (.int (x2 + (0 + (i : Int)))), some (.str wd0), some (.int dk), some (.int pg), q12, p13, p14] ∧ Same H H'' ∧ H'' wl = some (.lst wordsL) ∧ H'' as = some (.lst us2) ∧ DL H'' us2 (4 * i + 2)) (fun N hN => ?_) ?_
      · refine ⟨_, rfl, rfl, _, rfl, ?_⟩
        rcases hwo with e | e | e | e | e
        · subst e
          refine iteTb vs_eq ?_
          refine ⟨_, rfl, _, _, rfl, rfl, ⟨by decide, by decide⟩, _, rfl, _, _, rfl, rfl, .inl ⟨by decide, by decide⟩, _, _, rfl, rfl, _, _, rfl, rfl, (show (0 : Int) < 120 by decide), _, _, rfl, rfl, ?_⟩
          try dsimp only [tNext]
          refine seq_via (fun σ' H'' => ∃ nb, σ' = [some (.ref l), some (.int n), some (.int m), some (.ref wl), some (.ref as), some (.int (0 + (i : Int))), some (.int (x0 / 8 + (0 + (i : Int)))), some (.int (x1 + (0 + (i : Int)))), some (.int (x2 + (0 + (i : Int)))), some (.str "put"), some (.int dk), some (.int pg), q12, some (.int nb), o14] ∧ H'' = H2) (fun N' hN' => ?_) ?_
          · refine ⟨_, rfl, _, _, rfl, rfl, _, rfl, ?_⟩
            by_cases e1 : (69 : Int) < ((x1 + (0 + (i : Int))) / 3 + 7 * (0 + (i : Int))) % 120 - 20
            · refine iteTb (decide_eq_true e1) ?_
              exact hN' _ _ ⟨_, rfl, rfl⟩
            · refine iteFb (decide_eq_false e1) ?_
              refine ⟨_, rfl, _, _, rfl, rfl, _, rfl, ?_⟩
              by_cases e2 : (60 : Int) < ((x1 + (0 + (i : Int))) / 3 + 7 * (0 + (i : Int))) % 120 - 20
              · refine iteTb (decide_eq_true e2) ?_
                refine ⟨_, rfl, _, _, rfl, rfl, ?_⟩
                exact hN' _ _ ⟨_, rfl, rfl⟩
              · refine iteFb (decide_eq_false e2) ?_
                exact hN' _ _ ⟨_, rfl, rfl⟩
          rintro σ' H2' ⟨nb, rfl, rfl⟩
          refine ⟨_, rfl, _, _, rfl, rfl, .inr ⟨by decide, by decide⟩, _, _, rfl, rfl, ⟨by decide, by decide, by decide⟩, _, _, rfl, rfl, P30, ?_⟩
          obtain ⟨y, hy⟩ := atInt (ns := [nb, nb, (x1 + (0 + (i : Int))) * 48271 % (10 : Int) ^ (30 : Int).toNat, 0 - (x1 + (0 + (i : Int))) * 48271 % (10 : Int) ^ (30 : Int).toNat]) (k := (x0 / 8 + (0 + (i : Int))) % 4) (by lia) (by show _ < ((4 : Nat) : Int); lia)
          refine ⟨_, rfl, _, rfl, _, rfl, _, rfl, _, _, rfl, rfl, (by show 4 ≤ sizeLine; decide), fun z hz => ⟨_, rfl, _, _, rfl, rfl, (show (0 : Int) < 4 by decide), z, _, _, _, rfl, rfl, SqL.of upd_same, hy, ?_⟩⟩
          have sz := same_new (o := .lst ([nb, nb, (x1 + (0 + (i : Int))) * 48271 % (10 : Int) ^ (30 : Int).toNat, 0 - (x1 + (0 + (i : Int))) * 48271 % (10 : Int) ^ (30 : Int).toNat].map V.int)) hz
          refine ⟨_, rfl, .inl ⟨rfl, _, SqL.of (sz _ _ ha2)⟩, _, rfl, _, rfl, _, rfl, _, rfl, (by show 4 ≤ sizeLine; decide), fun b hb => ⟨as, us, _, rfl, rfl, (same_new hb) _ _ (sz _ _ ha2), by lia, ?_⟩⟩
          obtain ⟨k1, k2, k3⟩ := one _ (.put dk pg y) b us (4 * i) (s02.trans sz) (sz _ _ hw2) (sz _ _ ha2) (dl2.tmono (same_tup sz)) hb
          exact hN _ _ ⟨_, _, _, rfl, k1, k2, upd_same, k3.more (by lia)⟩
        · subst e
          refine iteFb (vs_ne (by decide +kernel)) ?_
          refine ⟨_, rfl, rfl, _, rfl, ?_⟩
          refine iteTb vs_eq (iteT ?_)
          refine ⟨_, rfl, .inl ⟨rfl, _, SqL.of ha2⟩, _, rfl, _, rfl, _, rfl, (by show 3 ≤ sizeLine; decide), fun b hb => ⟨as, us, _, rfl, rfl, (same_new hb) _ _ ha2, by lia, ?_⟩⟩
          obtain ⟨k1, k2, k3⟩ := one _ (.look dk pg) b us (4 * i) s02 hw2 ha2 dl2 hb
          refine ⟨_, rfl, rfl, _, rfl, ?_⟩
          refine iteFb (vs_ne (by decide +kernel)) (iteF ?_)
          exact hN _ _ ⟨_, _, _, rfl, k1, k2, upd_same, k3.more (by lia)⟩
        · subst e
          refine iteFb (vs_ne (by decide +kernel)) ?_
          refine ⟨_, rfl, rfl, _, rfl, ?_⟩
          refine iteFb (vs_ne (by decide +kernel)) ?_
          refine ⟨_, rfl, rfl, _, rfl, ?_⟩
          refine iteTb vs_eq ?_
          refine ⟨_, rfl, .inl ⟨rfl, _, SqL.of ha2⟩, _, rfl, _, rfl, _, rfl, (by show 3 ≤ sizeLine; decide), fun b hb => ⟨as, us, _, rfl, rfl, (same_new hb) _ _ ha2, by lia, ?_⟩⟩
          obtain ⟨k1, k2, k3⟩ := one _ (.rest dk pg) b us (4 * i) s02 hw2 ha2 dl2 hb
          have hul3 := k3.len
          have ha3 : upd (upd H2 b (.tup (Deed.rest dk pg).vs)) as (.lst (us ++ [.ref b])) as = some (.lst (us ++ [.ref b])) := upd_same
          have go : ∀ H3 : Hp, Same H H3 → H3 wl = some (.lst wordsL) → H3 as = some (.lst (us ++ [.ref b])) → DL H3 (us ++ [.ref b]) (4 * i + 1) →
              (tIfS (tAnd (tTest (tOp rEq (tVar 9) (tC (.str "rest")))) (tTest (tOp rEq (tOp (rI (fun _ j => 0 < j) fun i j => V.int (i % j)) (tOp (rI CDiv fun i j => V.int (i / j)) (tVar 7) (tC (.int 3))) (tC (.int 2))) (tC (.int 1))))) (tDrop (tBM K "list" rAppend (tVar 4) (tCons (tTup (tCons (tC (.str "look")) (tCons (tVar 10) (tCons (tVar 11) tNil)))) tNil))) tNext) { nx := N, rt := Q } [some (.ref l), some (.int n), some (.int m), some (.ref wl), some (.ref as), some (.int (0 + (i : Int))), some (.int (x0 / 8 + (0 + (i : Int)))), some (.int (x1 + (0 + (i : Int)))), some (.int (x2 + (0 + (i : Int)))), some (.str "rest"), some (.int dk), some (.int pg), q12, o13, o14] H3 := fun H3 g1 g2 g3 g4 => by
            refine ⟨_, rfl, rfl, _, rfl, ?_⟩
            refine iteTb vs_eq ?_
            refine ⟨_, rfl, _, _, rfl, rfl, ⟨by decide, by decide⟩, _, _, rfl, rfl, (show (0 : Int) < 2 by decide), rfl, _, rfl, ?_⟩
            by_cases e3 : (x1 + (0 + (i : Int))) / 3 % 2 = 1
            · refine iteTb (vi_eq e3) ?_
              refine ⟨_, rfl, .inl ⟨rfl, _, SqL.of g3⟩, _, rfl, _, rfl, (by show 3 ≤ sizeLine; decide), fun b2 hb2 => ⟨as, _, _, rfl, rfl, (same_new hb2) _ _ g3, by lia, ?_⟩⟩
              obtain ⟨m1, m2, m3⟩ := one _ (.look dk pg) b2 _ (4 * i + 1) g1 g2 g3 g4 hb2
              exact hN _ _ ⟨_, _, _, rfl, m1, m2, upd_same, m3.more (by lia)⟩
            · refine iteFb (vi_ne e3) ?_
              exact hN _ _ ⟨_, _, _, rfl, g1, g2, g3, g4.more (by lia)⟩
          exact go _ k1 k2 ha3 k3
        · subst e
          refine iteFb (vs_ne (by decide +kernel)) ?_
          refine ⟨_, rfl, rfl, _, rfl, ?_⟩
          refine iteFb (vs_ne (by decide +kernel)) ?_
          refine ⟨_, rfl, rfl, _, rfl, ?_⟩
          refine iteFb (vs_ne (by decide +kernel)) ?_
          refine ⟨_, rfl, .inl ⟨rfl, _, SqL.of ha2⟩, _, rfl, _, rfl, (by show 2 ≤ sizeLine; decide), fun b hb => ⟨as, us, _, rfl, rfl, (same_new hb) _ _ ha2, by lia, ?_⟩⟩
          obtain ⟨k1, k2, k3⟩ := one _ (.up dk) b us (4 * i) s02 hw2 ha2 dl2 hb
          exact hN _ _ ⟨_, _, _, rfl, k1, k2, upd_same, k3.more (by lia)⟩
        · subst e
          refine iteFb (vs_ne (by decide +kernel)) ?_
          refine ⟨_, rfl, rfl, _, rfl, ?_⟩
          refine iteFb (vs_ne (by decide +kernel)) ?_
          refine ⟨_, rfl, rfl, _, rfl, ?_⟩
          refine iteFb (vs_ne (by decide +kernel)) ?_
          refine ⟨_, rfl, .inl ⟨rfl, _, SqL.of ha2⟩, _, rfl, _, rfl, (by show 2 ≤ sizeLine; decide), fun b hb => ⟨as, us, _, rfl, rfl, (same_new hb) _ _ ha2, by lia, ?_⟩⟩
          obtain ⟨k1, k2, k3⟩ := one _ (.down dk) b us (4 * i) s02 hw2 ha2 dl2 hb
          exact hN _ _ ⟨_, _, _, rfl, k1, k2, upd_same, k3.more (by lia)⟩
      rintro σ' H3 ⟨p13, p14, us3, rfl, s03, hw3, ha3, dl3⟩
      have hul3 := dl3.len
      refine ⟨_, rfl, _, _, rfl, rfl, (show (0 : Int) < 5 by decide), _, _, rfl, rfl, _, rfl, ?_⟩
      by_cases e : (x2 + (0 + (i : Int))) % 5 < 4
      · refine iteTb (decide_eq_true e) ?_
        refine ⟨_, rfl, .inl ⟨rfl, _, SqL.of ha3⟩, _, rfl, _, rfl, _, _, rfl, rfl, (show (0 : Int) < n by lia), (by show 2 ≤ sizeLine; decide), fun b hb => ⟨as, us3, _, rfl, rfl, (same_new hb) _ _ ha3, by lia, ?_⟩⟩
        obtain ⟨k1, k2, k3⟩ := one _ (.up ((x2 + (0 + (i : Int))) % (n : Int))) b us3 (4 * i + 2) s03 hw3 ha3 dl3 hb
        have hul4 := k3.len
        have ha4 : upd (upd H3 b (.tup (Deed.up ((x2 + (0 + (i : Int))) % (n : Int))).vs)) as (.lst (us3 ++ [.ref b])) as = some (.lst (us3 ++ [.ref b])) := upd_same
        refine ⟨_, rfl, .inl ⟨rfl, _, SqL.of ha4⟩, _, rfl, _, _, rfl, rfl, ⟨by decide, by decide⟩, _, rfl, _, _, rfl, rfl, _, rfl, _, _, rfl, rfl, (show (0 : Int) < n by lia), (by show 2 ≤ sizeLine; decide), fun b2 hb2 => ⟨as, us3 ++ [.ref b], _, rfl, rfl, same_new hb2 as (.lst (us3 ++ [.ref b])) upd_same, by lia, ?_⟩⟩
        obtain ⟨m1, m2, m3⟩ := one _ (.down (((x2 + (0 + (i : Int))) / 4 + (0 + (i : Int))) % (n : Int))) b2 _ (4 * i + 3) k1 k2 ha4 k3 hb2
        exact ⟨⟨_, _, _, _, _, _, _, _, _, _, rfl⟩, m1, m2, _, upd_same, m3.more (by lia)⟩
      · refine iteFb (decide_eq_false e) ?_
        exact ⟨⟨_, _, _, _, _, _, _, _, _, _, rfl⟩, s03, hw3, _, ha3, dl3.more (by lia)⟩
    · rintro σ' H' ⟨⟨o5, o6, o7, o8, o9, o10, o11, o12, o13, o14, rfl⟩, s', _, us, ha', dl⟩
      exact ⟨_, rfl, k as us H' hasn s' ha' (dl.more (by lia))⟩
end
end K07
namespace K07
open PySem L2
noncomputable def hallRun (G : Nat → PG) : List (Nat × UL) → (Nat → PG) × List (List (Nat × Let))
  | [] => (G, [])
  | (d, l) :: r => ((hallRun (setf G l.pg ((G l.pg).take l.pg d l).1) r).1, ((G l.pg).take l.pg d l).2 :: (hallRun (setf G l.pg ((G l.pg).take l.pg d l).1) r).2)
noncomputable def hallOk (m : Nat) (G : Nat → PG) : List (Nat × UL) → Prop
  | [] => True
  | (d, l) :: r => l.pg < m ∧ l.good (G l.pg) ∧ Rw (G l.pg).ask ∧ (G l.pg).mu ≤ 900000 ∧ hallOk m (setf G l.pg ((G l.pg).take l.pg d l).1) r
theorem hallRun_append (G : Nat → PG) (a b : List (Nat × UL)) : hallRun G (a ++ b) = ((hallRun (hallRun G a).1 b).1, (hallRun G a).2 ++ (hallRun (hallRun G a).1 b).2) := by
  induction a generalizing G with
  | nil => rfl
  | cons x a ih => obtain ⟨d, l⟩ := x; simp only [List.cons_append, hallRun, ih]
theorem hallOk_append {m : Nat} {G : Nat → PG} {a b : List (Nat × UL)} : hallOk m G (a ++ b) ↔ hallOk m G a ∧ hallOk m (hallRun G a).1 b := by
  induction a generalizing G with
  | nil => simp [hallOk, hallRun]
  | cons x a ih => obtain ⟨d, l⟩ := x; simp only [List.cons_append, hallOk, hallRun, ih]; exact ⟨fun h => ⟨⟨h.1, h.2.1, h.2.2.1, h.2.2.2.1, h.2.2.2.2.1⟩, h.2.2.2.2.2⟩, fun h => ⟨h.1.1, h.1.2.1, h.1.2.2.1, h.1.2.2.2.1, h.1.2.2.2.2, h.2⟩⟩
theorem hallRun_len (G : Nat → PG) (a : List (Nat × UL)) : (hallRun G a).2.length = a.length := by
  induction a generalizing G with
  | nil => rfl
  | cons x a ih => obtain ⟨d, l⟩ := x; simp [hallRun, ih]
noncomputable def comeD (x : Nat × UL) : D := .t [.i x.1, x.2.d]
noncomputable def sentD (ls : List (Nat × Let)) : D := .l (ls.map pairD)
theorem come_tup {H : Hp} {v : V} {x : Nat × UL} (h : Rep H v (comeD x)) : ∃ c b, v = .ref c ∧ H c = some (.tup [.int x.1, .ref b]) ∧ H b = some (.tup x.2.vs) := by
  obtain ⟨d, l⟩ := x
  simp only [comeD, Rep, RepL] at h
  obtain ⟨c, xs, rfl, hc, _, _, rfl, rfl, u, _, rfl, hu, rfl⟩ := h
  obtain ⟨b, us, e, hb, _⟩ := ul_cons (l := l) (r := []) (vs := [u]) (by simp only [List.map_cons, List.map_nil, RepL]; exact ⟨u, [], rfl, hu, rfl⟩)
  cases e
  exact ⟨c, b, rfl, hc, hb⟩
theorem come_flat (l : List (Nat × UL)) : D.flats (l.map comeD) := flats_map (fun x => by simp only [comeD, D.flat, D.flats]; exact ⟨trivial, UL.flat _, trivial⟩) l
theorem RepL.get {H : Hp} : ∀ {ds : List D} {vs : List V} {i : Nat} {v : V}, RepL H vs ds → vs[i]? = some v → ∃ d, ds[i]? = some d ∧ Rep H v d
  | [], _, _, _, r, h => by have := RepL.nil_inv r; subst this; simp at h
  | d :: ds, _, 0, v, r, h => by obtain ⟨u, us, rfl, r1, r2⟩ := RepL.cons_inv r; simp at h; subst h; exact ⟨d, rfl, r1⟩
  | d :: ds, _, i + 1, v, r, h => by obtain ⟨u, us, rfl, r1, r2⟩ := RepL.cons_inv r; simp at h; obtain ⟨e, h1, h2⟩ := RepL.get r2 h; exact ⟨e, by simpa using h1, h2⟩
noncomputable def LL (H : Hp) (acc : Addr) (A : Hb → Addr) (m : Nat) (zs : List V) (dss : List (List (Nat × Let))) : Prop :=
  zs.length = dss.length ∧ ∀ (i : Nat) v ds, zs[i]? = some v → dss[i]? = some ds → ∃ l vs, v = .ref l ∧ H l = some (.lst vs) ∧ l ≠ acc ∧ (∀ x : Hb, x.ok m → l ≠ A x) ∧ RepL H vs (ds.map pairD)
theorem LL.rep {H : Hp} {acc : Addr} {A : Hb → Addr} {m : Nat} : ∀ {dss : List (List (Nat × Let))} {zs : List V}, LL H acc A m zs dss → RepL H zs (dss.map sentD)
  | [], zs, h => by have : zs = [] := List.length_eq_zero_iff.mp h.1; subst this; simp [RepL]
  | ds :: dss, zs, h => by
    cases zs with
    | nil => have := h.1; simp at this
    | cons z zs =>
      obtain ⟨l, vs, rfl, h1, _, _, h2⟩ := h.2 0 z ds rfl rfl
      simp only [List.map_cons, RepL]
      refine ⟨_, _, rfl, ?_, LL.rep ⟨by have := h.1; simp at this; exact this, fun i v d h3 h4 => h.2 (i + 1) v d (by simpa using h3) (by simpa using h4)⟩⟩
      simp only [sentD, Rep]
      exact ⟨l, vs, rfl, h1, h2⟩
theorem comp_hall {K : PySem.W.Frag} {CH CP b acc : Addr} {A : Hb → Addr} {m : Nat} {G : Nat → PG} {us : List V} {cs : List (Nat × UL)} {H1 : Hp} {Q : VK} (HA : HallAt CH CP H1 A m G) (hb : H1 b = some (.lst us)) (hbn : ∀ x : Hb, x.ok m → b ≠ A x) (rp : RepL H1 us (cs.map comeD)) (hcs : cs.length ≤ 1000) (hok : hallOk m G cs) (hacc : H1 acc = none)
    (k : ∀ A' H' zs, HallAt CH CP H' A' m (hallRun G cs).1 → HF H1 H' A m → (∀ x : Hb, x.ok m → A' x = A x ∨ H1 (A' x) = none) → A' .hall = A .hall → H' acc = some (.lst zs) → RepL H' zs ((hallRun G cs).2.map sentD) → Q (.ref acc) H') :
    CompGo (Itl K b) (gTup K 2 (gCons (gName 0) (gCons (gName 1) gNil))) tYes (tMeth CH "take" (spHallTake CH CP) [] E0 (tVar 2) (tCons (tVar 0) (tCons (tVar 1) tNil))) [none, none, some (.ref (A .hall))] acc H1 Q := by
  have sl : sizeLine = 16777216 := by decide
  have hlen : us.length = cs.length := by rw [rp.length, List.length_map]
  have accn : ∀ x : Hb, x.ok m → acc ≠ A x := fun x hx z => by obtain ⟨o, e, _⟩ := HA.live x hx; rw [← z, hacc] at e; cases e
  refine comp_list (xs := us) (fun i zs σ' H' => (∃ o1 o2, σ' = [o1, o2, some (.ref (A .hall))]) ∧ ∃ A', HallAt CH CP H' A' m (hallRun G (cs.take i)).1 ∧ HF H1 H' A m ∧ (∀ x : Hb, x.ok m → A' x = A x ∨ H1 (A' x) = none) ∧ A' .hall = A .hall ∧ H' acc = some (.lst zs) ∧ (∀ x : Hb, x.ok m → acc ≠ A' x) ∧ H' b = some (.lst us) ∧ (∀ x : Hb, x.ok m → b ≠ A' x) ∧ RepL H' us (cs.map comeD) ∧ LL H' acc A' m zs (hallRun G (cs.take i)).2) ?_ ?_ ?_ ?_
  · refine ⟨⟨_, _, rfl⟩, A, HA.new hacc, HF.of_same (same_new hacc), fun x _ => .inl rfl, rfl, upd_same, accn, same_new hacc _ _ hb, hbn, rp.tmono (same_tup (same_new hacc)) (come_flat _), ?_⟩
    exact ⟨rfl, fun i v ds h => by simp at h⟩
  · rintro i zs σ' H' _ ⟨_, A', _, _, _, _, h1, _, h2, _⟩
    exact ⟨SqL.of h2, h1⟩
  · rintro i y zs σ' H' hy hi ⟨⟨o1, o2, rfl⟩, A', HA', f', mv', eh', ha', an', hb', bn', rp', ll'⟩
    obtain ⟨dd, hdd, rd⟩ := RepL.get rp' hy
    rw [List.getElem?_map] at hdd
    have hic : i < cs.length := by lia
    rw [List.getElem?_eq_getElem hic] at hdd
    have hdd' : comeD cs[i] = dd := Option.some.inj hdd
    subst hdd'
    obtain ⟨c, lb, rfl, hc, hlb⟩ := come_tup rd
    have hsplit : cs = cs.take i ++ (cs[i] :: cs.drop (i + 1)) := by rw [List.getElem_cons_drop_succ_eq_drop hic, List.take_append_drop]
    have hok' := hok
    rw [hsplit] at hok'
    have hok2 := (hallOk_append.mp hok').2
    have htk : cs.take (i + 1) = cs.take i ++ [cs[i]] := by rw [List.take_add_one, List.getElem?_eq_getElem hic]; rfl
    generalize hci : cs[i] = ci at hc hlb hok2 htk
    obtain ⟨dn, l⟩ := ci
    obtain ⟨q1, q2, q3, q4, _⟩ := hok2
    refine ⟨c, _, rfl, SqT.of hc, rfl, _, _, rfl, _, _, rfl, rfl, ?_⟩
    refine tYes_if ?_
    obtain ⟨dx, hob⟩ := HA'.ob
    rw [eh'] at hob
    refine ⟨_, rfl, A .hall, dx, _, rfl, hob, hfl_take, _, rfl, _, rfl, A', m, _, lb, l, dn, by rw [eh']; rfl, HA', hlb, q1, q2, q3, q4, fun lst A2 vs H2 hl2 HA2 f2 mv2 ln2 eh2 hl2' rp2 => ?_⟩
    have kept : ∀ (a : Addr) (o : HO), H' a = some o → (∀ x : Hb, x.ok m → a ≠ A' x) → H2 a = some o := fun a o e n => f2.kp a o e n
    have ha2 := kept acc _ ha' an'
    have hb2 := kept b _ hb' bn'
    have nn : ∀ (a : Addr) (o : HO), H' a = some o → (∀ x : Hb, x.ok m → a ≠ A' x) → ∀ x : Hb, x.ok m → a ≠ A2 x := fun a o e n x hx z => by
      rcases mv2 x hx with e2 | e2
      · rw [e2] at z; exact n x hx z
      · rw [← z, e] at e2; cases e2
    have an2 := nn acc _ ha' an'
    have t2 := f2.tups HA'
    have nla : lst ≠ acc := fun z => by rw [z, ha'] at hl2; cases hl2
    have tl := tup_lst (vs := zs ++ [.ref lst]) ha2
    have hz : zs.length < sizeLine := by rw [ll'.1, hallRun_len, List.length_take]; lia
    refine CStep.mk hi ha2 hz ?_
    have ndA : ∀ x : Hb, x.ok m → A2 x ≠ acc := fun x hx z => an2 x hx z.symm
    have er : hallRun G (cs.take (i + 1)) = (setf (hallRun G (cs.take i)).1 l.pg (((hallRun G (cs.take i)).1 l.pg).take l.pg dn l).1, (hallRun G (cs.take i)).2 ++ [(((hallRun G (cs.take i)).1 l.pg).take l.pg dn l).2]) := by rw [htk, hallRun_append]; rfl
    rw [er]
    refine ⟨⟨_, _, rfl⟩, A2, HA2.keep tl (fun x hx o e => by rw [upd_ne (ndA x hx)]; exact e), ?_, ?_, by rw [eh2, eh'], upd_same, an2, ?_, nn b _ hb' bn', (rp'.tmono t2 (come_flat _)).tmono tl (come_flat _), ?_, ?_⟩
    · refine ⟨fun a o e n => ?_, f'.lv.trans (f2.lv.trans Lv.upd)⟩
      have e1 := f'.kp a o e n
      have n1 : ∀ x : Hb, x.ok m → a ≠ A' x := fun x hx z => by
        rcases mv' x hx with e2 | e2
        · rw [e2] at z; exact n x hx z
        · rw [← z, e] at e2; cases e2
      rw [upd_ne (ne_of_none e hacc)]
      exact kept a o e1 n1
    · intro x hx
      rcases mv2 x hx with e2 | e2
      · rw [e2]; exact mv' x hx
      · exact .inr (f'.lv _ e2)
    · rw [upd_ne fun z => by rw [z, hacc] at hb; cases hb]; exact hb2
    · rw [List.length_append, List.length_append, ll'.1]; rfl
    · intro j v ds h1 h2
      by_cases hj : j < zs.length
      · rw [List.getElem?_append_left hj] at h1
        rw [List.getElem?_append_left (by rw [← ll'.1]; exact hj)] at h2
        obtain ⟨l0, v0, rfl, e1, e2, e3, e4⟩ := ll'.2 j v ds h1 h2
        exact ⟨l0, v0, rfl, by rw [upd_ne e2]; exact kept l0 _ e1 e3, e2, nn l0 _ e1 e3, (e4.tmono t2 (pairD_flat _)).tmono tl (pairD_flat _)⟩
      · have hj' : j = zs.length := by
          have := (List.getElem?_eq_some_iff.mp h1).1
          rw [List.length_append] at this; simp at this; lia
        subst hj'
        rw [List.getElem?_append_right (Nat.le_refl _), Nat.sub_self] at h1
        rw [ll'.1, List.getElem?_append_right (Nat.le_refl _), Nat.sub_self] at h2
        have h1' : V.ref lst = v := Option.some.inj h1
        have h2' : _ = ds := Option.some.inj h2
        subst h1' h2'
        exact ⟨lst, vs, rfl, by rw [upd_ne nla]; exact hl2', nla, ln2, rp2.tmono tl (pairD_flat _)⟩
  · rintro zs σ' H' ⟨_, A', HA', f', mv', eh', ha', an', hb', bn', rp', ll'⟩
    rw [hlen, List.take_length] at HA' ll'
    exact k A' H' zs HA' f' mv' eh' ha' ll'.rep
noncomputable def spTbh (CH CP : Addr) : Sp := fun vs H Q _ => ∃ A m G b us cs, vs = [.ref (A Hb.hall), .ref b] ∧ HallAt CH CP H A m G ∧ H b = some (.lst us) ∧ (∀ x : Hb, x.ok m → b ≠ A x) ∧ RepL H us (cs.map comeD) ∧ cs.length ≤ 1000 ∧ hallOk m G cs ∧
  ∀ l A' H' zs, H l = none → HallAt CH CP H' A' m (hallRun G cs).1 → HF H H' A m → (∀ x : Hb, x.ok m → A' x = A x ∨ H (A' x) = none) → A' .hall = A .hall → H' l = some (.lst zs) → RepL H' zs ((hallRun G cs).2.map sentD) → Q (.ref l) H'
section
variable {P : Program} {w : World} {K : PySem.W.Frag} {mg : Str → Option Value} {base : Heap} {t : Adr}
theorem ok_taken_by_hall (T : Txt K w mg t) : FnOk P w K mg base CX0 6 t.f_taken_by_hall t.fd_taken_by_hall ["hall", "letters"] (spTbh t.C_Hall t.C_PageLoans) := by
  refine T.F_taken_by_hall.ok sc_taken_by_hall (fun vs H Q E h => ?_) (fun cdv A outer s H vs Q E hr h => ?_)
  · obtain ⟨A, m, G, b, us, cs, rfl, _⟩ := h; rfl
  · obtain ⟨A, m, G, b, us, cs, rfl, HA, hb, hbn, rp, hcs, hok, k⟩ := h
    refine ⟨_, (pss_one (ps_ret (pe_comp (compScope (xs := ["desk", "letter"]) (ys := ["hall"]) (js := [0]) rfl (by decide +kernel) (by decide +kernel) (by decide +kernel) (by rfl) ⟨⟨rfl, Or.inl rfl⟩, trivial⟩) rfl (pi_list (pv 1)) (fun _ _ _ _ _ => (pg_tupK (K := K) (n := 2) rfl rfl (pgs_cons (pg_name (i := 0) (show List.Nodup ((["desk", "letter"] : List Str) ++ (["hall"] : List Str) : List Str) by decide +kernel) rfl (Or.inl rfl)) (pgs_cons (pg_name (i := 1) (show List.Nodup ((["desk", "letter"] : List Str) ++ (["hall"] : List Str) : List Str) by decide +kernel) rfl (Or.inl rfl)) pgs_nil)))) (fun _ _ _ _ _ => pif_nil) (fun _ _ _ _ _ => (pe_meth (pv 2) T.c_Hall T.mt_Hall_take (ok_Hall_take T) (hr.mono (by decide) : Room 5 _) T.b_Hall_take .nil pass0 (pa_cons (pv 0) (pa_cons (pv 1) pa_nil))))))), ?_⟩
    try dsimp only [cxOf, Cx.nox]
    refine ⟨_, rfl, b, rfl, ⟨_, SqL.of hb⟩, fun acc hacc => ?_⟩
    exact comp_hall HA hb hbn rp hcs hok hacc fun A' H' zs HA' f' mv' eh' ha' rz => k acc A' H' zs hacc HA' f' mv' eh' ha' rz
end
end K07
namespace K07
open PySem L2
noncomputable def spLends (CH CP : Addr) : Sp := fun vs H Q _ => ∃ A m G, ∃ p : Nat, ∃ x : Int, vs = [.ref (A Hb.hall), .int p, .int x] ∧ HallAt CH CP H A m G ∧ p < m ∧ G p = ⟨x, none, [], [], 0⟩ ∧
  ∀ A' G' H', HallAt CH CP H' A' m G' → (∀ q, q ≠ p → G' q = G q) → HF H H' A m → (∀ y : Hb, y.ok m → A' y = A y ∨ H (A' y) = none) → A' .hall = A .hall → Q (.bl true) H'
theorem lend_first (p : Nat) (x : Int) : (PG.take ⟨x, none, [], [], 0⟩ p 0 (.ask p .rd)).2 = [(0, .lend p .rd x)] := by
  simp only [PG.take, if_true]
  have h1 : (⟨x, none, [], [(0, Rt.rd)], 0⟩ : PG).ask ≠ [] := by simp
  have h2 : PG.bids ⟨x, none, [], [(0, Rt.rd)], 0⟩ p = [] := rfl
  rw [serve_lend h1 h2]
  have h3 : (PG.lent ⟨x, none, [], [(0, Rt.rd)], 0⟩).ask = [] := rfl
  rw [serve_nil h3]
  rfl
section
variable {P : Program} {w : World} {K : PySem.W.Frag} {mg : Str → Option Value} {base : Heap} {t : Adr}
theorem ok_l_lends (T : Txt K w mg t) : FnOk P w K mg base CX0 7 t.f_l_lends t.fd_l_lends ["_law_hall", "_law_page", "_law_number"] (spLends t.C_Hall t.C_PageLoans) := by
  refine T.F_l_lends.ok sc_l_lends (fun vs H Q E h => ?_) (fun cdv A outer s H vs Q E hr h => ?_)
  · obtain ⟨A, m, G, p, x, rfl, _⟩ := h; rfl
  · obtain ⟨A0, m, G, p, x, rfl, HA, hp, hG, k⟩ := h
    refine ⟨_, (pss_cons (ps_set (i := 3) sc_l_lends.nd rfl (Or.inl rfl) (pe_call (ok_taken_by_hall T) (hr.mono (by decide) : Room 6 _) (by rfl) T.m_taken_by_hall T.F_taken_by_hall.kp T.b_taken_by_hall .nil pass0 (pa_cons (pv 0) (pa_cons (pe_lst (pa_cons (pe_tup (pa_cons pe_int (pa_cons (pe_tup (pa_cons pe_str (pa_cons (pv 1) (pa_cons pe_str pa_nil)))) pa_nil))) pa_nil)) pa_nil))))
      (pss_one (ps_ret (pe_and (pe_callB call_isi (by rfl) T.n_isinstance PyProof.Rows.Boot.«isinstance» (pa_cons (pv 3) (pa_cons (pe_bty (by rfl) T.n_list PyProof.Rows.Boot.«list») pa_nil))) (pe_one (pe_call (ok_l_same T) (hr.mono (by decide) : Room 2 _) (by rfl) T.m_l_same T.F_l_same.kp T.b_l_same .nil pass0 (pa_cons (pv 3) (pa_cons (pe_lst (pa_cons (pe_lst (pa_cons (pe_tup (pa_cons pe_int (pa_cons (pe_tup (pa_cons pe_str (pa_cons (pv 1) (pa_cons pe_str (pa_cons (pv 2) pa_nil))))) pa_nil))) pa_nil)) pa_nil)) pa_nil)))))))), ?_⟩
    try dsimp only [cxOf, Cx.nox]
    show let Z1 : L2.TS := _; let Z2 : L2.TS := _; let D0 : Ends := _; (tSeq Z1 (Z2)) D0 _ _
    intro Z1 Z2 D0
    refine ⟨_, rfl, ⟨_, rfl, (by show 3 ≤ sizeLine; decide), fun b hb => ⟨(by show 2 ≤ sizeLine; decide), fun c hc => ⟨(by show 1 ≤ sizeLine; decide), fun z hz => ?_⟩⟩⟩⟩
    have sb := same_new (o := .tup [.str "ask", .int p, .str "read"]) hb
    have sc := same_new (o := .tup [.int 0, .ref b]) hc
    have sz := same_new (o := .lst [.ref c]) hz
    have sa := (sb.trans sc).trans sz
    have c1 := sz _ _ (sc _ _ (show upd H b (.tup [.str "ask", .int p, .str "read"]) b = some (.tup (UL.ask p .rd).vs) from upd_same))
    have c2 := sz _ _ (show upd (upd H b (.tup [.str "ask", .int p, .str "read"])) c (.tup [.int 0, .ref b]) c = some (.tup [.int 0, .ref b]) from upd_same)
    have hzn : H z = none := Lv.upd _ (Lv.upd _ hz)
    have zn : ∀ y : Hb, y.ok m → z ≠ A0 y := fun y hy e => by obtain ⟨o, e1, _⟩ := HA.live y hy; rw [← e, hzn] at e1; cases e1
    have hz1 : upd (upd (upd H b (.tup [.str "ask", .int p, .str "read"])) c (.tup [.int 0, .ref b])) z (.lst [.ref c]) z = some (.lst [.ref c]) := upd_same
    refine ⟨A0, m, G, z, [.ref c], [(0, .ask p .rd)], rfl, HA.same sa, hz1, zn, ?_, by simp, ⟨hp, .inl rfl, by rw [show (UL.ask p .rd).pg = p from rfl, hG]; intro y hy; simp at hy, by rw [show (UL.ask p .rd).pg = p from rfl, hG]; simp [PG.mu], trivial⟩, fun l A' H2 zs hl HA' f' mv' eh' hl' rz => ?_⟩
    · simp only [List.map_cons, List.map_nil, RepL, comeD, Rep]
      exact ⟨_, _, rfl, ⟨c, _, rfl, c2, _, _, rfl, rfl, _, _, rfl, ul_rep (l := .ask p .rd) c1, rfl⟩, rfl⟩
    have e : (hallRun G [(0, UL.ask p .rd)]).2 = [[(0, Let.lend p .rd x)]] := by
      simp only [hallRun]
      rw [show (UL.ask p .rd).pg = p from rfl, hG, lend_first]
    rw [e] at rz
    have HA'' : HallAt t.C_Hall t.C_PageLoans H2 A' m (setf G p ((G p).take p 0 (.ask p .rd)).1) := HA'
    refine ⟨_, rfl, _, _, .type "list", true, rfl, .lst hl', .inl ⟨_, rfl, kit_ll⟩, _, rfl, iteT ?_⟩
    refine ⟨_, rfl, _, rfl, _, rfl, (by show 4 ≤ sizeLine; decide), fun b2 h2 => ⟨(by show 2 ≤ sizeLine; decide), fun c3 h3 => ⟨(by show 1 ≤ sizeLine; decide), fun z1 h4 => ⟨(by show 1 ≤ sizeLine; decide), fun z2 h5 => ?_⟩⟩⟩⟩
    have t2 := same_new (o := .tup [.str "lend", .int p, .str "read", .int x]) h2
    have t3 := same_new (o := .tup [.int 0, .ref b2]) h3
    have t4 := same_new (o := .lst [.ref c3]) h4
    have t5 := same_new (o := .lst [.ref z1]) h5
    have ta := ((t2.trans t3).trans t4).trans t5
    have e2 := t5 _ _ (t4 _ _ (t3 _ _ (show upd H2 b2 (.tup [.str "lend", .int p, .str "read", .int x]) b2 = some (.tup (Let.lend p .rd x).vs) from upd_same)))
    have e3 := t5 _ _ (t4 _ _ (show upd (upd H2 b2 (.tup [.str "lend", .int p, .str "read", .int x])) c3 (.tup [.int 0, .ref b2]) c3 = some (.tup [.int 0, .ref b2]) from upd_same))
    have e4 := t5 _ _ (show upd (upd (upd H2 b2 (.tup [.str "lend", .int p, .str "read", .int x])) c3 (.tup [.int 0, .ref b2])) z1 (.lst [.ref c3]) z1 = some (.lst [.ref c3]) from upd_same)
    refine ⟨.ref l, .ref z2, .l [.l [.t [.i 0, (Let.lend p .rd x).d]]], rfl, ?_, ?_, by simp [D.size, D.sizes, Let.d], fun H3 s3 => ?_⟩
    · simp only [Rep]
      exact ⟨l, zs, rfl, ta _ _ hl', RepL.mono (Same.seqs ta) (by simpa [sentD, pairD] using rz)⟩
    · simp only [Rep, RepL]
      exact ⟨z2, _, rfl, upd_same, _, _, rfl, ⟨z1, _, rfl, e4, _, _, rfl, ⟨c3, _, rfl, e3, _, _, rfl, rfl, _, _, rfl, let_rep (l := .lend p .rd x) e2, rfl⟩, rfl⟩, rfl⟩
    · have sT := ta.trans s3
      refine k A' _ H3 (HA''.same sT) (fun q hq => setf_ne _ _ hq) ?_ (fun y hy => (mv' y hy).imp id fun e => Same.free sa e) eh'
      have f1 := (HF.of_same (A := A0) (m := m) sa).trans' f' fun y _ => .inl rfl
      exact f1.trans' (HF.of_same (A := A') sT) fun y hy => (mv' y hy).imp id fun e => Same.free sa e
end
end K07
namespace K07
open PySem L2
noncomputable def spAt (K : PySem.W.Frag) : Sp := fun vs H Q _ => ∃ (a : Addr) (ns : List Int) (k : Int), vs = [.ref a, .int k] ∧ SqL K H a (ns.map V.int) ∧ 0 ≤ k ∧ ∀ z : Int, Q (.int z) H
section
variable {P : Program} {w : World} {K : PySem.W.Frag} {mg : Str → Option Value} {base : Heap} {t : Adr}
theorem ok_l_at (T : Txt K w mg t) : FnOk P w K mg base CX0 1 t.f_l_at t.fd_l_at ["_law_script", "_law_k"] (spAt K) := by
  refine T.F_l_at.ok sc_l_at (fun vs H Q E h => ?_) (fun cdv A outer s H vs Q E hr h => ?_)
  · obtain ⟨a, ns, k, rfl, _⟩ := h; rfl
  · obtain ⟨a, ns, k, rfl, ha, hk, q⟩ := h
    refine ⟨_, (pss_cons (ps_if (pt_cmpR op_lt (pv 1) (pe_callB call_len_seq (by rfl) T.n_len PySem.boot_len (pa_cons (pv 0) pa_nil)) (nomark _)) (pss_one (ps_ret (pe_ix ix_list (pv 0) (pv 1) (fun _ _ => rfl)))) pss_nil)
      (pss_one (ps_ret pe_int))), ?_⟩
    try dsimp only [cxOf, Cx.nox]
    show let Z1 : L2.TS := _; let Z2 : L2.TS := tIfS _ Z1 tNext; let Z3 : L2.TS := _; let D0 : Ends := _; (tSeq Z2 (Z3)) D0 _ _
    intro Z1 Z2 Z3 D0
    refine ⟨_, rfl, _, rfl, a, _, rfl, .inl ha, _, _, rfl, rfl, _, rfl, ?_⟩
    by_cases h : k < ((ns.map V.int).length : Nat)
    · refine iteTb (decide_eq_true h) ?_
      obtain ⟨z, hz⟩ := atInt hk (by simpa using h)
      exact ⟨_, rfl, _, rfl, a, _, k, _, rfl, rfl, ha, hz, q z⟩
    · refine iteFb (decide_eq_false h) ?_
      exact q 0
end
theorem cnt_zero (n p : Nat) : cnt n p (fun _ => []) (fun _ => []) = 0 := by
  unfold cnt
  induction n with
  | zero => rfl
  | succ n ih => rw [sumN_succ, ih]; rfl
theorem TInv.start (n : Nat) (ns : List Int) : TInv n ns.length (S0 ns) where
  pn p _ := ⟨(fun x h => nomatch h), (fun x h => nomatch h), (fun x h => nomatch h)⟩
  am p _ := ⟨fun _ => rfl, fun _ => rfl⟩
  up d _ l h := by cases h
  dn d _ l h := by cases h
  ws d _ w h := by cases h
  ct p _ := by rw [show (S0 ns).up = fun _ => [] from rfl, show (S0 ns).dn = fun _ => [] from rfl, cnt_zero]; rfl
theorem Bd.start (ns : List Int) : Bd 0 (S0 ns) [] := ⟨fun p => Nat.le_refl _, fun d => Nat.le_refl _, Nat.le_refl _, fun d => Nat.zero_le _, Nat.zero_le _⟩
theorem Bd.sent {t : Nat} {S : TS} {se : List (Nat × Let)} (b : Bd t S se) : Bd t S [] := ⟨b.mu, b.up, b.row, b.dn, Nat.zero_le _⟩
noncomputable def FM (A : Mb → Addr) (n m : Nat) (b : Addr) : Prop := ∃ x : Mb, x.ok n m ∧ b = A x
noncomputable def FH (A : Hb → Addr) (m : Nat) (b : Addr) : Prop := ∃ x : Hb, x.ok m ∧ b = A x
noncomputable def Dj (F G : Addr → Prop) : Prop := ∀ b, F b → G b → False
noncomputable def Alv (H : Hp) (F : Addr → Prop) : Prop := ∀ b, F b → ∃ o, H b = some o
theorem Dj.symm {F G : Addr → Prop} (h : Dj F G) : Dj G F := fun b x y => h b y x
theorem Dj.move {F F' G : Addr → Prop} {H : Hp} (h : Dj F G) (m : ∀ b, F' b → F b ∨ H b = none) (l : Alv H G) : Dj F' G := fun b x y => (m b x).elim (fun z => h b z y) fun z => by
  obtain ⟨o, e⟩ := l b y; rw [z] at e; cases e
theorem Dj.new {F G : Addr → Prop} {H : Hp} (m : ∀ b, F b → H b = none) (l : Alv H G) : Dj F G := fun b x y => by
  obtain ⟨o, e⟩ := l b y; rw [m b x] at e; cases e
theorem MirAt.alv {H : Hp} {A : Mb → Addr} {n m : Nat} {S : TS} {se : List (Nat × Let)} (M : MirAt H A n m S se) : Alv H (FM A n m) := fun b ⟨x, hx, e⟩ => by obtain ⟨o, h, _⟩ := M.at_ x hx; exact ⟨o, by rw [e]; exact h⟩
theorem HallAt.alv {CH CP : Addr} {H : Hp} {A : Hb → Addr} {m : Nat} {G : Nat → PG} (M : HallAt CH CP H A m G) : Alv H (FH A m) := fun b ⟨x, hx, e⟩ => by obtain ⟨o, h, _⟩ := M.live x hx; exact ⟨o, by rw [e]; exact h⟩
theorem Mv.fm {H : Hp} {A A1 : Mb → Addr} {n m : Nat} (v : Mv H A A1 n m) : ∀ b, FM A1 n m b → FM A n m b ∨ H b = none := fun b ⟨x, hx, e⟩ => (v x hx).elim (fun z => .inl ⟨x, hx, by rw [e, z]⟩) fun z => .inr (by rw [e]; exact z.2)
theorem hv_fh {H : Hp} {A A1 : Hb → Addr} {m : Nat} (v : ∀ x : Hb, x.ok m → A1 x = A x ∨ H (A1 x) = none) : ∀ b, FH A1 m b → FH A m b ∨ H b = none := fun b ⟨x, hx, e⟩ => (v x hx).elim (fun z => .inl ⟨x, hx, by rw [e, z]⟩) fun z => .inr (by rw [e]; exact z)
noncomputable def Kp (F : Addr → Prop) (H H' : Hp) : Prop := ∀ b o, H b = some o → ¬ F b → H' b = some o
theorem MrF.fm {H H' : Hp} {A : Mb → Addr} {n m : Nat} (f : MrF H H' A n m) : Kp (FM A n m) H H' := fun b o e h => f.kp b o e fun x hx z => h ⟨x, hx, z⟩
theorem HF.fh {H H' : Hp} {A : Hb → Addr} {m : Nat} (f : HF H H' A m) : Kp (FH A m) H H' := fun b o e h => f.kp b o e fun x hx z => h ⟨x, hx, z⟩
theorem HallAt.kp {CH CP : Addr} {H H' : Hp} {A : Hb → Addr} {m : Nat} {G : Nat → PG} {F : Addr → Prop} (h : HallAt CH CP H A m G) (t : TupSame H H') (k : Kp F H H') (d : Dj F (FH A m)) : HallAt CH CP H' A m G :=
  h.keep t fun x hx o e => k _ o e fun z => d _ z ⟨x, hx, rfl⟩
theorem MirAt.kp {H H' : Hp} {A : Mb → Addr} {n m : Nat} {S : TS} {se : List (Nat × Let)} {F : Addr → Prop} (h : MirAt H A n m S se) (t : TupSame H H') (k : Kp F H H') (d : Dj F (FM A n m)) : MirAt H' A n m S se :=
  h.keep t fun x hx o e => k _ o e fun z => d _ z ⟨x, hx, rfl⟩
noncomputable def DUE (H : Hp) (F : Addr → Prop) (ys : List V) (dss : List (List (Nat × Let))) : Prop :=
  ys.length = dss.length ∧ ∀ (i : Nat) v ds, ys[i]? = some v → dss[i]? = some ds → ∃ l vs, v = .ref l ∧ H l = some (.lst vs) ∧ ¬ F l ∧ RepL H vs (ds.map pairD) ∧ ds.length ≤ 6100
theorem DUE.nil (H : Hp) (F : Addr → Prop) : DUE H F [] [] := ⟨rfl, fun i v ds h => by simp at h⟩
theorem DUE.keep {H H' : Hp} {F F' : Addr → Prop} {ys : List V} {dss : List (List (Nat × Let))} (h : DUE H F ys dss) (t : TupSame H H') (k : Kp F H H') (d : ∀ b, F' b → F b ∨ H b = none) : DUE H' F' ys dss :=
  ⟨h.1, fun i v ds e1 e2 => by
    obtain ⟨l, vs, rfl, h1, h2, h3, h4⟩ := h.2 i v ds e1 e2
    refine ⟨l, vs, rfl, k _ _ h1 h2, fun z => ?_, h3.tmono t (pairD_flat _), h4⟩
    rcases d l z with z | z
    · exact h2 z
    · rw [z] at h1; cases h1⟩
theorem DUE.snoc {H : Hp} {F : Addr → Prop} {ys : List V} {dss : List (List (Nat × Let))} {l : Addr} {vs : List V} {ds : List (Nat × Let)} (h : DUE H F ys dss) (h1 : H l = some (.lst vs)) (h2 : ¬ F l) (h3 : RepL H vs (ds.map pairD)) (h4 : ds.length ≤ 6100) : DUE H F (ys ++ [.ref l]) (dss ++ [ds]) :=
  ⟨by rw [List.length_append, List.length_append, h.1]; rfl, fun i v d e1 e2 => by
    by_cases hi : i < ys.length
    · rw [List.getElem?_append_left hi] at e1
      rw [List.getElem?_append_left (h.1 ▸ hi)] at e2
      exact h.2 i v d e1 e2
    · have e : i = ys.length := by
        have := List.getElem?_eq_some_iff.mp e1
        obtain ⟨q, _⟩ := this
        rw [List.length_append] at q
        simp at q
        lia
      subst e
      rw [List.getElem?_append_right (Nat.le_refl _)] at e1
      rw [h.1, List.getElem?_append_right (Nat.le_refl _)] at e2
      simp at e1 e2
      subst e1 e2
      exact ⟨l, vs, rfl, h1, h2, h3, h4⟩⟩
theorem DUE.rep {H : Hp} {F : Addr → Prop} : ∀ {dss : List (List (Nat × Let))} {zs : List V}, DUE H F zs dss → RepL H zs (dss.map sentD)
  | [], zs, h => by have : zs = [] := List.length_eq_zero_iff.mp h.1; subst this; simp [RepL]
  | ds :: dss, zs, h => by
    cases zs with
    | nil => have := h.1; simp at this
    | cons z zs =>
      obtain ⟨l, vs, rfl, h1, _, h2, _⟩ := h.2 0 z ds rfl rfl
      simp only [List.map_cons, RepL]
      refine ⟨_, _, rfl, ?_, DUE.rep ⟨by have := h.1; simp at this; exact this, fun i v d h3 h4 => h.2 (i + 1) v d (by simpa using h3) (by simpa using h4)⟩⟩
      simp only [sentD, Rep]
      exact ⟨l, vs, rfl, h1, h2⟩
theorem sentD_size : ∀ l : List (Nat × Let), D.sizes (l.map pairD) ≤ 20 * l.length
  | [] => by simp [D.sizes]
  | x :: l => by
    have h2 := sentD_size l
    have h1 : (pairD x).size ≤ 20 := by cases h : x.2 <;> simp [pairD, h, Let.d, D.size, D.sizes]
    simp only [List.map_cons, D.sizes, List.length_cons]
    lia
theorem sents_size : ∀ l : List (List (Nat × Let)), (∀ ds ∈ l, ds.length ≤ 6100) → D.sizes (l.map sentD) ≤ 122002 * l.length
  | [], _ => by simp [D.sizes]
  | x :: l, h => by
    have h2 := sents_size l fun ds hd => h ds (List.mem_cons_of_mem _ hd)
    have h1 := sentD_size x
    have h0 := h x (List.mem_cons_self ..)
    simp only [List.map_cons, D.sizes, List.length_cons, sentD, D.size]
    lia
theorem DUE.size {H : Hp} {F : Addr → Prop} {dss : List (List (Nat × Let))} {zs : List V} (h : DUE H F zs dss) (hl : dss.length ≤ 5) : (D.l (dss.map sentD)).size ≤ 1000000 := by
  have := sents_size dss fun ds hd => by
    obtain ⟨i, hi, e⟩ := List.getElem_of_mem hd
    have hz : i < zs.length := by rw [h.1]; exact hi
    obtain ⟨l, vs, _, _, _, _, q⟩ := h.2 i zs[i] ds (List.getElem?_eq_getElem hz) (by rw [List.getElem?_eq_getElem hi, e])
    exact q
  simp only [D.size]
  lia
theorem ints_rep (H : Hp) : ∀ ns : List Int, RepL H (ns.map V.int) (ns.map D.i)
  | [] => by simp [RepL]
  | x :: ns => by simp only [List.map_cons, RepL]; exact ⟨_, _, rfl, rfl, ints_rep H ns⟩
theorem ints_size : ∀ ns : List Int, D.sizes (ns.map D.i) ≤ 2 * ns.length
  | [] => by simp [D.sizes]
  | x :: ns => by have := ints_size ns; simp only [List.map_cons, D.sizes, D.size, List.length_cons]; lia
theorem step_pg {n m : Nat} {S : TS} {x : Deed} (h : ∀ d, x ≠ .up d) : (S.step n m x).1.pg = S.pg := by
  cases x with
  | up d => exact absurd rfl (h d)
  | down d =>
    simp only [TS.step]
    split
    · unfold TS.downD; split <;> rfl
    · rfl
  | rest d p =>
    simp only [TS.step]
    split
    · split
      · split <;> rfl
      · rfl
    · rfl
  | look d p =>
    simp only [TS.step]
    split
    · split
      · unfold TS.wish; split <;> rfl
      · rfl
    · rfl
  | put d p k =>
    simp only [TS.step]
    split
    · split
      · unfold TS.wish; split <;> rfl
      · rfl
    · rfl
end K07
namespace K07
open PySem L2
theorem pick20 (u v : Int) (hu : 1 ≤ u ∧ u ≤ 20) (hv : 1 ≤ v ∧ v ≤ 20) (b : Bool) : ∃ n : Nat, 0 < n ∧ n ≤ 20 ∧ atI [V.int u, V.int v] (if b = true then 1 else 0) = some (.int n) := by
  cases b with
  | false => exact ⟨u.toNat, by lia, by lia, by rw [Int.toNat_of_nonneg (by lia)]; rfl⟩
  | true => exact ⟨v.toNat, by lia, by lia, by rw [Int.toNat_of_nonneg (by lia)]; rfl⟩
theorem cut_ints (ns : List Int) (lo hi : Option Int) : ∃ cs : List Int, cutV (ns.map V.int) lo hi = cs.map V.int ∧ cs.length ≤ ns.length := by
  refine ⟨((ns.drop (HT.sIx (ns.map V.int).length 0 lo)).take (HT.sIx (ns.map V.int).length (ns.map V.int).length hi - HT.sIx (ns.map V.int).length 0 lo)), ?_, ?_⟩
  · unfold cutV; rw [← List.map_drop, ← List.map_take]
  · rw [List.length_take, List.length_drop]; lia
theorem hall_new {CH : Addr} {H H2 : Hp} {p dx : Addr} {A : Hb → Addr} {m : Nat} (hp : H p = none) (hdx : H dx = none) (hne : dx ≠ p) (e : A .hall = p) (hn : ∀ x : Hb, x.ok m → x ≠ .hall → (upd (upd H dx (.own p)) p (.ins CH dx [])) (A x) = none)
    (f : ∀ b o, (upd (upd H dx (.own p)) p (.ins CH dx [])) b = some o → b ≠ p → H2 b = some o) : Same H H2 ∧ ∀ b, FH A m b → H b = none := by
  have k : Same H (upd (upd H dx (.own p)) p (.ins CH dx [])) := (same_new hdx).trans (same_new (by rw [upd_ne hne.symm]; exact hp))
  refine ⟨fun b o e => f b o (k b o e) (ne_of_none e hp), fun b ⟨x, hx, q⟩ => ?_⟩
  by_cases z : x = .hall
  · rw [q, z, e]; exact hp
  · rw [q]; exact Same.free k (hn x hx z)
end K07
namespace K07
open PySem L2
theorem SqL.same {K : PySem.W.Frag} {H H' : Hp} {a : Addr} {xs : List V} (h : SqL K H a xs) (s : Same H H') : SqL K H' a xs := by
  rcases h with (h | ⟨o, h⟩) | h
  · exact .inl (.inl (s _ _ h))
  · exact .inl (.inr ⟨o, s _ _ h⟩)
  · exact .inr h
theorem Same.kp {F : Addr → Prop} {H0 H H' : Hp} (s : Same H0 H) (k : Kp F H H') (n : ∀ b, F b → H0 b = none) : Same H0 H' := fun b o e => k b o (s b o e) fun z => by rw [n b z] at e; cases e
end K07
namespace K07
open PySem L2
noncomputable def FS (sn : Prop) (A : Mb → Addr) (n m : Nat) (b : Addr) : Prop := ∃ x : Mb, x.ok n m ∧ (sn → x ≠ .sent) ∧ b = A x
noncomputable def F1 (sn : Prop) (A : Mb → Addr) (B C : Hb → Addr) (n m : Nat) (cm du : Addr) (b : Addr) : Prop := FS sn A n m b ∨ FH B m b ∨ FH C 2 b ∨ b = cm ∨ b = du
structure LP (CH CP : Addr) (n m : Nat) (C : Hb → Addr) (GC : Nat → PG) (ol kl L : Addr) (os vs : List V) (ds : List Deed) (sn : Prop) (H : Hp) (A : Mb → Addr) (B : Hb → Addr) (G : Nat → PG) (S : TS) (se : List (Nat × Let)) (cs : List (Nat × UL)) (dss : List (List (Nat × Let))) (cm du : Addr) (xs ys : List V) : Prop where
  M : MirAt H A n m S se
  HB : HallAt CH CP H B m G
  HC : HallAt CH CP H C 2 GC
  hc : H cm = some (.lst xs)
  rc : RepL H xs (cs.map comeD)
  hd : H du = some (.lst ys)
  dues : DUE H (F1 sn A B C n m cm du) ys dss
  ho : H ol = some (.lst os)
  hk : H kl = some (.lst os)
  hL : H L = some (.lst vs)
  dl : RepL H vs (ds.map Deed.d)
  ab : Dj (FM A n m) (FH B m)
  ac : Dj (FM A n m) (FH C 2)
  bc : Dj (FH B m) (FH C 2)
  la : ∀ b, b = ol ∨ b = kl ∨ b = L ∨ b = cm ∨ b = du → ¬ FM A n m b ∧ ¬ FH B m b ∧ ¬ FH C 2 b
  nd : cm ≠ du ∧ ∀ b, b = ol ∨ b = kl ∨ b = L → b ≠ cm ∧ b ≠ du
section
variable {CH CP : Addr} {n m : Nat} {C : Hb → Addr} {GC : Nat → PG} {ol kl L : Addr} {os vs : List V} {ds : List Deed} {sn : Prop} {H H' : Hp} {A A' : Mb → Addr} {B B' : Hb → Addr} {G G' : Nat → PG} {S S' : TS} {se se' : List (Nat × Let)} {cs cs' : List (Nat × UL)} {dss dss' : List (List (Nat × Let))} {cm du cm' du' : Addr} {xs ys xs' ys' : List V}
theorem deeds_flat (l : List Deed) : D.flats (l.map Deed.d) := flats_map Deed.flat l
theorem LP.lsv (h : LP CH CP n m C GC ol kl L os vs ds sn H A B G S se cs dss cm du xs ys) : ∀ b, b = ol ∨ b = kl ∨ b = L ∨ b = cm ∨ b = du → ∃ o, H b = some o := by
  rintro b (rfl | rfl | rfl | rfl | rfl)
  · exact ⟨_, h.ho⟩
  · exact ⟨_, h.hk⟩
  · exact ⟨_, h.hL⟩
  · exact ⟨_, h.hc⟩
  · exact ⟨_, h.hd⟩
theorem LP.go (h : LP CH CP n m C GC ol kl L os vs ds sn H A B G S se cs dss cm du xs ys) {F : Addr → Prop} {sn' : Prop} (t : TupSame H H') (k : Kp F H H')
    (M' : MirAt H' A' n m S' se') (HB' : HallAt CH CP H' B' m G') (mA : ∀ b, FM A' n m b → FM A n m b ∨ H b = none) (mB : ∀ b, FH B' m b → FH B m b ∨ H b = none) (mAB : Dj (FM A' n m) (FH B' m))
    (hF : ∀ b, F b → FM A n m b ∨ FH B m b) (hS : ∀ b, F b → F1 sn A B C n m cm du b) (mS : ∀ b, F1 sn' A' B' C n m cm du b → F1 sn A B C n m cm du b ∨ H b = none) : LP CH CP n m C GC ol kl L os vs ds sn' H' A' B' G' S' se' cs dss cm du xs ys := by
  have nF : ∀ b, b = ol ∨ b = kl ∨ b = L ∨ b = cm ∨ b = du → ¬ F b := fun b hb z => (hF b z).elim (h.la b hb).1 (h.la b hb).2.1
  have dC : Dj F (FH C 2) := fun b x y => (hF b x).elim (fun z => h.ac b z y) fun z => h.bc b z y
  refine ⟨M', HB', h.HC.kp t k dC, k _ _ h.hc (nF _ (by simp)), h.rc.tmono t (come_flat _), k _ _ h.hd (nF _ (by simp)), h.dues.keep t (fun b o e z => k b o e fun q => z (hS b q)) mS, k _ _ h.ho (nF _ (by simp)), k _ _ h.hk (nF _ (by simp)), k _ _ h.hL (nF _ (by simp)), h.dl.tmono t (deeds_flat _), mAB, h.ac.move mA h.HC.alv, h.bc.move mB h.HC.alv, fun b hb => ?_, h.nd⟩
  obtain ⟨o, e⟩ := h.lsv b hb
  refine ⟨fun z => ?_, fun z => ?_, (h.la b hb).2.2⟩
  · rcases mA b z with z | z
    · exact (h.la b hb).1 z
    · rw [z] at e; cases e
  · rcases mB b z with z | z
    · exact (h.la b hb).2.1 z
    · rw [z] at e; cases e
theorem F1.mono {sn sn' : Prop} {A A' : Mb → Addr} {B B' : Hb → Addr} (hA : ∀ b, FS sn' A' n m b → FS sn A n m b ∨ H b = none) (hB : ∀ b, FH B' m b → FH B m b ∨ H b = none) : ∀ b, F1 sn' A' B' C n m cm du b → F1 sn A B C n m cm du b ∨ H b = none := by
  rintro b (z | z | z)
  · exact (hA b z).imp .inl id
  · exact (hB b z).imp (fun q => .inr (.inl q)) id
  · exact .inl (.inr (.inr z))
theorem FS.fm {b : Addr} (h : FM A n m b) : FS False A n m b := by obtain ⟨x, hx, e⟩ := h; exact ⟨x, hx, False.elim, e⟩
theorem FS.fm' {b : Addr} {sn : Prop} (h : FS sn A n m b) : FM A n m b := by obtain ⟨x, hx, _, e⟩ := h; exact ⟨x, hx, e⟩
theorem LP.same (h : LP CH CP n m C GC ol kl L os vs ds sn H A B G S se cs dss cm du xs ys) (s : Same H H') : LP CH CP n m C GC ol kl L os vs ds sn H' A B G S se cs dss cm du xs ys :=
  h.go (F := fun _ => False) (same_tup s) (fun b o e _ => s b o e) (h.M.same s) (h.HB.same s) (fun b z => .inl z) (fun b z => .inl z) h.ab (fun b z => z.elim) (fun b z => z.elim) fun b z => .inl z
theorem LP.sent (h : LP CH CP n m C GC ol kl L os vs ds True H A B G S se cs dss cm du xs ys) {a : Addr} (ha : H a = none) :
    LP CH CP n m C GC ol kl L os vs ds False (upd (upd H a (.lst [])) (A .town) (.dK (tkv (setL A .sent a)))) (setL A .sent a) B G S [] cs dss cm du xs ys := by
  obtain ⟨M', f⟩ := h.M.newSent ha
  have k : Kp (fun b => b = A .town) H (upd (upd H a (.lst [])) (A .town) (.dK (tkv (setL A .sent a)))) := fun b o e z => by rw [upd_ne z, upd_ne (ne_of_none e ha)]; exact e
  have t := f.tups h.M
  have mA : ∀ b, FM (setL A .sent a) n m b → FM A n m b ∨ H b = none := fun b ⟨x, hx, e⟩ => by
    by_cases z : x = .sent
    · rw [z, setL_same] at e; exact .inr (by rw [e]; exact ha)
    · rw [setL_ne _ _ z] at e; exact .inl ⟨x, hx, e⟩
  have tw : FM A n m (A .town) := ⟨.town, trivial, rfl⟩
  refine h.go t k M' (h.HB.kp t k fun b x y => h.ab b (x ▸ tw) y) mA (fun b z => .inl z) (h.ab.move mA h.HB.alv) (fun b z => .inl (z ▸ tw)) (fun b z => .inl ⟨.town, trivial, (fun _ q => nomatch q), z⟩) (F1.mono (fun b ⟨x, hx, _, e⟩ => ?_) fun b z => .inl z)
  by_cases z : x = .sent
  · rw [z, setL_same] at e; exact .inr (by rw [e]; exact ha)
  · rw [setL_ne _ _ z] at e; exact .inl ⟨x, hx, fun _ => z, e⟩
theorem LP.town (h : LP CH CP n m C GC ol kl L os vs ds False H A B G S se cs dss cm du xs ys) (M' : MirAt H' A' n m S' se') (f : MrF H H' A n m) (v : Mv H A A' n m) : LP CH CP n m C GC ol kl L os vs ds False H' A' B G S' se' cs dss cm du xs ys := by
  have t := f.tups h.M
  refine h.go t f.fm M' (h.HB.kp t f.fm h.ab) v.fm (fun b z => .inl z) (h.ab.move v.fm h.HB.alv) (fun b z => .inl z) (fun b z => .inl (FS.fm z)) (F1.mono (fun b z => (v.fm b z.fm').imp FS.fm id) fun b z => .inl z)
theorem LP.hall (h : LP CH CP n m C GC ol kl L os vs ds sn H A B G S se cs dss cm du xs ys) (HB' : HallAt CH CP H' B' m G') (f : HF H H' B m) (v : ∀ x : Hb, x.ok m → B' x = B x ∨ H (B' x) = none) : LP CH CP n m C GC ol kl L os vs ds sn H' A B' G' S se cs dss cm du xs ys := by
  have t := f.tups h.HB
  refine h.go t f.fh (h.M.kp t f.fh h.ab.symm) HB' (fun b z => .inl z) (hv_fh v) ((h.ab.symm.move (hv_fh v) h.M.alv).symm) (fun b z => .inr z) (fun b z => .inr (.inl z)) (F1.mono (fun b z => .inl z) (hv_fh v))
theorem LP.weak (h : LP CH CP n m C GC ol kl L os vs ds False H A B G S se cs dss cm du xs ys) : LP CH CP n m C GC ol kl L os vs ds True H A B G S se cs dss cm du xs ys :=
  { h with dues := h.dues.keep (fun b xs e => e) (fun b o e _ => e) fun b z => .inl (z.elim (fun q => .inl (FS.fm q.fm')) .inr) }
theorem LP.wr {sn' : Prop} (h : LP CH CP n m C GC ol kl L os vs ds sn H A B G S se cs dss cm du xs ys) (t : TupSame H H') (k : Kp (fun b => b = cm ∨ b = du) H H') (hc : H' cm = some (.lst xs')) (rc : RepL H' xs' (cs'.map comeD)) (hd : H' du = some (.lst ys')) (dd : DUE H' (F1 sn' A B C n m cm du) ys' dss') : LP CH CP n m C GC ol kl L os vs ds sn' H' A B G S se cs' dss' cm du xs' ys' := by
  have nA : Dj (fun b => b = cm ∨ b = du) (FM A n m) := fun b x y => (h.la b (by rcases x with x | x <;> simp [x])).1 y
  have nB : Dj (fun b => b = cm ∨ b = du) (FH B m) := fun b x y => (h.la b (by rcases x with x | x <;> simp [x])).2.1 y
  have nC : Dj (fun b => b = cm ∨ b = du) (FH C 2) := fun b x y => (h.la b (by rcases x with x | x <;> simp [x])).2.2 y
  have nO : ∀ b, b = ol ∨ b = kl ∨ b = L → ¬ (b = cm ∨ b = du) := fun b hb z => z.elim (h.nd.2 b hb).1 (h.nd.2 b hb).2
  exact ⟨h.M.kp t k nA, h.HB.kp t k nB, h.HC.kp t k nC, hc, rc, hd, dd, k _ _ h.ho (nO _ (by simp)), k _ _ h.hk (nO _ (by simp)), k _ _ h.hL (nO _ (by simp)), h.dl.tmono t (deeds_flat _), h.ab, h.ac, h.bc, h.la, h.nd⟩
theorem LP.come (h : LP CH CP n m C GC ol kl L os vs ds False H A B G S se cs dss cm du xs ys) {b : Addr} {v : V} {d : Nat} {l : UL} (hb : H b = none) (rv : Rep H v l.d) (hl : se.length ≤ 6100) :
    LP CH CP n m C GC ol kl L os vs ds True (upd (upd (upd H b (.tup [.int d, v])) cm (.lst (xs ++ [.ref b]))) du (.lst (ys ++ [.ref (A .sent)]))) A B G S se (cs ++ [(d, l)]) (dss ++ [se]) cm du (xs ++ [.ref b]) (ys ++ [.ref (A .sent)]) := by
  have s1 := same_new (o := .tup [.int d, v]) hb
  have h1 := h.same s1
  have hb1 : upd H b (.tup [.int d, v]) b = some (.tup [.int d, v]) := upd_same
  have rv1 := rv.tmono (same_tup s1) (UL.flat l)
  clear h hb rv
  generalize upd H b (.tup [.int d, v]) = H1 at *
  have t2 : TupSame H1 (upd H1 cm (.lst (xs ++ [.ref b]))) := tup_lst h1.hc
  have hd2 : upd H1 cm (.lst (xs ++ [.ref b])) du = some (.lst ys) := by rw [upd_ne (Ne.symm h1.nd.1)]; exact h1.hd
  have t3 := t2.trans (tup_lst (vs := ys ++ [.ref (A .sent)]) hd2)
  have k3 : Kp (fun b => b = cm ∨ b = du) H1 (upd (upd H1 cm (.lst (xs ++ [.ref b]))) du (.lst (ys ++ [.ref (A .sent)]))) := fun c o e z => by rw [upd_ne fun q => z (.inr q), upd_ne fun q => z (.inl q)]; exact e
  have dd := h1.dues.keep (F' := F1 True A B C n m cm du) t3 (fun b o e z => k3 b o e fun q => z (.inr (.inr (.inr q)))) fun b z => .inl (z.elim (fun q => .inl (FS.fm q.fm')) .inr)
  obtain ⟨o, e1, ⟨us, e2, e3⟩⟩ := h1.M.at_ .sent trivial
  subst e2
  have fs : FM A n m (A .sent) := ⟨.sent, trivial, rfl⟩
  have ns : ¬ (A .sent = cm ∨ A .sent = du) := fun z => (h1.la _ (by rcases z with z | z <;> simp [z])).1 fs
  refine h1.wr t3 k3 ?_ ?_ upd_same (dd.snoc (k3 _ _ e1 ns) ?_ (RepL.tmono t3 (pairD_flat _) e3) hl)
  · rw [upd_ne h1.nd.1, upd_same]
  · rw [List.map_append]
    refine (h1.rc.tmono t3 (come_flat _)).snoc ?_
    simp only [comeD, Rep, RepL]
    exact ⟨b, _, rfl, t3 _ _ hb1, _, _, rfl, rfl, _, _, rfl, rv1.tmono t3 (UL.flat l), rfl⟩
  · rintro (⟨x, hx, nx, e⟩ | z | z | z)
    · exact nx trivial (h1.M.inj .sent x trivial hx e).symm
    · exact h1.ab _ fs z
    · exact h1.ac _ fs z
    · exact ns z
theorem LP.fresh (h : LP CH CP n m C GC ol kl L os vs ds sn H A B G S se cs dss cm du xs ys) {c d : Addr} (hc : H c = none) (hd : upd H c (.lst []) d = none) :
    LP CH CP n m C GC ol kl L os vs ds True (upd (upd H c (.lst [])) d (.lst [])) A B G S se [] [] c d [] [] := by
  have s := (same_new (o := .lst []) hc).trans (same_new (o := .lst []) hd)
  have hd0 : H d = none := Same.free (same_new hc) hd
  have ncd : c ≠ d := ne_of_none upd_same hd
  have nl : ∀ b, (∃ o, H b = some o) → b ≠ c ∧ b ≠ d := fun b ⟨o, e⟩ => ⟨ne_of_none e hc, ne_of_none e hd0⟩
  refine ⟨h.M.same s, h.HB.same s, h.HC.same s, by rw [upd_ne ncd, upd_same], by simp [RepL], upd_same, DUE.nil _ _, s _ _ h.ho, s _ _ h.hk, s _ _ h.hL, h.dl.tmono (same_tup s) (deeds_flat _), h.ab, h.ac, h.bc, fun b hb => ?_, ncd, fun b hb => nl b (h.lsv b (by rcases hb with z | z | z <;> simp [z]))⟩
  rcases hb with z | z | z | z
  · exact h.la b (.inl z)
  · exact h.la b (.inr (.inl z))
  · exact h.la b (.inr (.inr (.inl z)))
  · have hn : H b = none := by rcases z with z | z <;> rw [z] <;> assumption
    refine ⟨fun q => ?_, fun q => ?_, fun q => ?_⟩
    · obtain ⟨o, e⟩ := h.M.alv b q; rw [hn] at e; cases e
    · obtain ⟨o, e⟩ := h.HB.alv b q; rw [hn] at e; cases e
    · obtain ⟨o, e⟩ := h.HC.alv b q; rw [hn] at e; cases e
end
end K07
namespace K07
open PySem L2
theorem kit_st {K : PySem.W.Frag} : PySem.W.kitOne K (.type "str") (.type "tuple") = some false := by kernel_rfl
theorem test_via {tt : TT} {σ : St} {H : Hp} {Q : Bool → Hp → Prop} (R : Bool → Hp → Prop) (ha : ∀ N : Bool → Hp → Prop, (∀ c H', R c H' → N c H') → tt σ H N) (hb : ∀ c H', R c H' → Q c H') : tt σ H Q := ha _ hb
theorem deed_flat (x : Deed) : x.vs.all flatV = true := by cases x <;> rfl
theorem ul_tup {H : Hp} {v : V} {l : UL} (h : Rep H v l.d) : ∃ b xs, v = .ref b ∧ H b = some (.tup xs) := by
  cases l <;> (simp only [UL.d, Rep] at h; obtain ⟨b, xs, e, hb, _⟩ := h; exact ⟨b, xs, e, hb⟩)
theorem str_of {H : Hp} {v : V} {x : Str} (h : Rep H v (.s x)) : v = .str x := by simpa only [Rep] using h
theorem up_step {n m : Nat} {S : TS} {d : Int} (h : inR d n) : S.step n m (.up d) = S.upD d.toNat := by simp [TS.step, h]
theorem up_no {n m : Nat} {S : TS} {d : Int} (h : ¬ inR d n) : S.step n m (.up d) = (S, .s "no desk") := by simp [TS.step, h]
theorem upD_nil {S : TS} {d : Nat} (h : S.up d = []) : S.upD d = (S, .s "no letter") := by simp [TS.upD, h]
theorem upD_cons {S : TS} {d : Nat} {l : UL} {r : List UL} (h : S.up d = l :: r) : S.upD d = (S.doUp d l r, l.d) := by simp [TS.upD, h]
theorem sentB_cons {S : TS} {n : Nat} {d : Int} {l : UL} {r : List UL} (hi : inR d n) (h : S.up d.toNat = l :: r) : S.sentB n (.up d) = ((S.pg l.pg).take l.pg d.toNat l).2 := by simp [TS.sentB, hi, h]
theorem run_snoc {G : Nat → PG} {cs : List (Nat × UL)} {g : Nat → PG} {dss : List (List (Nat × Let))} (h : hallRun G cs = (g, dss)) (d : Nat) (l : UL) : hallRun G (cs ++ [(d, l)]) = (setf g l.pg ((g l.pg).take l.pg d l).1, dss ++ [((g l.pg).take l.pg d l).2]) := by
  rw [hallRun_append, h]; rfl
theorem ok_snoc {m : Nat} {G : Nat → PG} {cs : List (Nat × UL)} {g : Nat → PG} {dss : List (List (Nat × Let))} (h : hallRun G cs = (g, dss)) (hok : hallOk m G cs) {d : Nat} {l : UL} (h1 : l.pg < m) (h2 : l.good (g l.pg)) (h3 : Rw (g l.pg).ask) (h4 : (g l.pg).mu ≤ 900000) : hallOk m G (cs ++ [(d, l)]) := by
  rw [hallOk_append, h]; exact ⟨hok, h1, h2, h3, h4, trivial⟩
end K07
namespace K07
open PySem L2
theorem Alv.not {H : Hp} {F : Addr → Prop} {b : Addr} (h : Alv H F) (hb : H b = none) : ¬ F b := fun q => by obtain ⟨o, e⟩ := h b q; rw [hb] at e; cases e
end K07
namespace K07
open PySem L2
noncomputable def spLaw (K : PySem.W.Frag) : Sp := fun vs H Q _ => ∃ (a : Addr) (ns : List Int), vs = [.ref a] ∧ SqL K H a (ns.map V.int) ∧ ns.length ≤ 63 ∧ ∀ H', Q (.bl true) H'
section
variable {P : Program} {w : World} {K : PySem.W.Frag} {mg : Str → Option Value} {base : Heap} {t : Adr}
theorem ok_law (T : Txt K w mg t) : FnOk P w K mg base CX0 8 t.f_law t.fd_law ["_law_script"] (spLaw K) := by
  refine T.F_law.ok sc_law (fun vs H Q E h => ?_) (fun cdv A outer s H vs Q E hr h => ?_)
  · obtain ⟨a, ns, rfl, _⟩ := h; rfl
  · obtain ⟨a, ns, rfl, ha, hl, q⟩ := h
    have hu := hu_of hr
    refine' ⟨_, ?sr, ?_⟩
    case' sr => refine' pss_cons ?b1s0x ?b1sr0x
    case' b1sr0x => refine' pss_cons ?b1s1x ?b1sr1x
    case' b1sr1x => refine' pss_cons ?b1s2x ?b1sr2x
    case' b1sr2x => refine' pss_cons ?b1s3x ?b1sr3x
    case' b1sr3x => refine' pss_cons ?b1s4x ?b1sr4x
    case' b1sr4x => refine' pss_cons ?b1s5x ?b1sr5x
    case' b1sr5x => refine' pss_cons ?b1s6x ?b1sr6x
    case' b1sr6x => refine' pss_cons ?b1s7x ?b1sr7x
    case' b1sr7x => refine' pss_cons ?b1s8x ?b1sr8x
    case' b1sr8x => refine' pss_cons ?b1s9x ?b1sr9x
    case' b1sr9x => refine' pss_cons ?b1s10x ?b1sr10x
    case' b1sr10x => refine' pss_cons ?b1s11x ?b1sr11x
    case' b1sr11x => refine' pss_cons ?b1s12x ?b1sr12x
    case' b1sr12x => refine' pss_cons ?b1s13x ?b1sr13x
    case' b1sr13x => refine' pss_cons ?b1s14x ?b1sr14x
    case' b1sr14x => refine' pss_cons ?b1s15x ?b1sr15x
    case' b1sr15x => refine' pss_cons ?b1s16x ?b1sr16x
    case' b1sr16x => refine' pss_cons ?b1s17x ?b1sr17x
    case' b1sr17x => refine' pss_cons ?b1s18x ?b1sr18x
    case' b1sr18x => refine' pss_cons ?b1s19x ?b1sr19x
    case' b1sr19x => refine' pss_one ?b1s20x
    case' b1s0x => exact (ps_set (i := 1) sc_law.nd rfl (Or.inl rfl) (pe_call (ok_l_at T) (hr.mono (by decide) : Room 1 _) (by rfl) T.m_l_at T.F_l_at.kp T.b_l_at .nil pass0 (pa_cons (pv 0) (pa_cons pe_int pa_nil))))
    case' b1s1x => exact (ps_set (i := 2) sc_law.nd rfl (Or.inl rfl) (pe_ix ix_list (pe_lst (pa_cons (pe_op op_add pe_int (pe_op op_mod (pv 1) pe_int)) (pa_cons (pe_op op_add pe_int (pe_op op_mod (pe_op op_fdiv (pv 1) pe_int) pe_int)) pa_nil))) (pe_callTy call_int1 (by rfl) T.n_int PyProof.Rows.Boot.«int» (pa_cons (pe_cmpR op_eq (pe_op op_mod (pe_op op_fdiv (pv 1) pe_int) pe_int) pe_int (nomark _)) pa_nil)) (fun _ _ => rfl)))
    case' b1s2x => exact (ps_set (i := 3) sc_law.nd rfl (Or.inl rfl) (pe_ix ix_list (pe_lst (pa_cons (pe_op op_add pe_int (pe_op op_mod (pe_op op_fdiv (pv 1) pe_int) pe_int)) (pa_cons (pe_op op_add pe_int (pe_op op_mod (pe_op op_fdiv (pv 1) pe_int) pe_int)) pa_nil))) (pe_callTy call_int1 (by rfl) T.n_int PyProof.Rows.Boot.«int» (pa_cons (pe_cmpR op_eq (pe_op op_mod (pe_op op_fdiv (pv 1) pe_int) pe_int) pe_int (nomark _)) pa_nil)) (fun _ _ => rfl)))
    case' b1s3x => exact (ps_set (i := 4) sc_law.nd rfl (Or.inl rfl) (pe_call (ok_l_numbers_of T) (hr.mono (by decide) : Room 1 _) (by rfl) T.m_l_numbers_of T.F_l_numbers_of.kp T.b_l_numbers_of .nil pass0 (pa_cons (pe_call (ok_l_at T) (hr.mono (by decide) : Room 1 _) (by rfl) T.m_l_at T.F_l_at.kp T.b_l_at .nil pass0 (pa_cons (pv 0) (pa_cons pe_int pa_nil))) (pa_cons (pv 3) pa_nil))))
    case' b1s4x => exact (ps_set (i := 5) sc_law.nd rfl (Or.inl rfl) (pe_call (ok_l_asked_of T) (hr.mono (by decide) : Room 1 _) (by rfl) T.m_l_asked_of T.F_l_asked_of.kp T.b_l_asked_of .nil pass0 (pa_cons (pe_slice sl_list (pv 0) (po_some pe_int) po_none) (pa_cons (pv 2) (pa_cons (pv 3) pa_nil)))))
    case' b1s5x => exact (ps_if (pt_cmpR op_eq (pe_op op_mod (pe_op op_fdiv (pe_call (ok_l_at T) (hr.mono (by decide) : Room 1 _) (by rfl) T.m_l_at T.F_l_at.kp T.b_l_at .nil pass0 (pa_cons (pv 0) (pa_cons pe_int pa_nil))) pe_int) pe_int) pe_int (nomark _)) (pss_one (ps_set (i := 5) sc_law.nd rfl (Or.inl rfl) (pe_op op_cat (pe_call (ok_l_first_deeds T) (hr.mono (by decide) : Room 1 _) (by rfl) T.m_l_first_deeds T.F_l_first_deeds.kp T.b_l_first_deeds .nil pass0 (pa_cons (pv 2) (pa_cons (pe_call (ok_l_at T) (hr.mono (by decide) : Room 1 _) (by rfl) T.m_l_at T.F_l_at.kp T.b_l_at .nil pass0 (pa_cons (pv 0) (pa_cons pe_int pa_nil))) pa_nil))) (pv 5)))) pss_nil)
    case' b1s6x => exact (ps_set (i := 6) sc_law.nd rfl (Or.inl rfl) (pe_call (ok_l_town_of T) (hr.mono (by decide) : Room 1 _) (by rfl) T.m_l_town_of T.F_l_town_of.kp T.b_l_town_of .nil pass0 (pa_cons (pv 2) (pa_cons (pv 4) pa_nil))))
    case' b1s7x => exact (ps_set (i := 7) sc_law.nd rfl (Or.inl rfl) (pe_callTy call_list_of (by rfl) T.n_list PyProof.Rows.Boot.«list» (pa_cons (pv 4) pa_nil)))
    case' b1s8x => exact (ps_set (i := 8) sc_law.nd rfl (Or.inr rfl) (pe_make T.mk_Hall (ok_Hall_init T) (hr.mono (by decide) : Room 4 _) (by rfl) T.g_Hall T.b_Hall_init .nil pass0 (pa_cons (pv 7) pa_nil)))
    case' b1s9x => exact (ps_set (i := 9) sc_law.nd rfl (Or.inl rfl) (pe_make T.mk_Hall (ok_Hall_init T) (hr.mono (by decide) : Room 4 _) (by rfl) T.g_Hall T.b_Hall_init .nil pass0 (pa_cons (pe_lst (pa_cons pe_int (pa_cons pe_int pa_nil))) pa_nil)))
    case' b1s10x => exact (ps_if (pt_not (pt_val (pe_call (ok_l_same T) (hr.mono (by decide) : Room 2 _) (by rfl) T.m_l_same T.F_l_same.kp T.b_l_same .nil pass0 (pa_cons (pv 7) (pa_cons (pv 4) pa_nil))))) (pss_one (ps_ret pe_bl)) pss_nil)
    case' b1s11x => exact (ps_asg (pe_op op_add (pe_ix ix_list (pv 7) pe_int (fun _ _ => rfl)) pe_int) (pg_sub (pv 7) pe_int set_list))
    case' b1s12x => exact (ps_expr (pe_bm PySem.F.plainAttrs_list PySem.F.slot_list_append PySem.F.type_list_append mt_append (pv 7) (pa_cons pe_int pa_nil)))
    case' b1s13x => exact (ps_set (i := 10) sc_law.nd rfl (Or.inl rfl) (pe_callTy call_list_of (by rfl) T.n_list PyProof.Rows.Boot.«list» (pa_cons (pv 7) pa_nil)))
    case' b1s14x => exact (ps_if (pt_not (pt_val (pe_call (ok_l_lends T) (hr.mono (by decide) : Room 7 _) (by rfl) T.m_l_lends T.F_l_lends.kp T.b_l_lends .nil pass0 (pa_cons (pv 9) (pa_cons pe_int (pa_cons pe_int pa_nil)))))) (pss_one (ps_ret pe_bl)) pss_nil)
    case' b1s15x => exact (ps_set (i := 11) sc_law.nd rfl (Or.inl rfl) (pe_op op_mod (pe_call (ok_l_at T) (hr.mono (by decide) : Room 1 _) (by rfl) T.m_l_at T.F_l_at.kp T.b_l_at .nil pass0 (pa_cons (pv 0) (pa_cons pe_int pa_nil))) pe_int))
    case' b1s16x => exact (ps_set (i := 12) sc_law.nd rfl (Or.inl rfl) (pe_lst pa_nil))
    case' b1s17x => exact (ps_set (i := 13) sc_law.nd rfl (Or.inl rfl) (pe_lst pa_nil))
    case' b1s18x => refine' ps_for PassesOwn.never rfl (pi_list (pe_op op_cat (pv 5) (pe_lst (pa_cons (pe_tup (pa_cons pe_str (pa_cons (pe_un un_neg pe_int) pa_nil))) pa_nil)))) (pg_name (i := 14) sc_law.nd rfl (Or.inl rfl)) ?b1s18b
    case' b1s18b => refine' pss_cons ?b2s0x ?b2sr0x
    case' b2sr0x => refine' pss_cons ?b2s1x ?b2sr1x
    case' b2sr1x => refine' pss_cons ?b2s2x ?b2sr2x
    case' b2sr2x => refine' pss_one ?b2s3x
    case' b2s0x => exact (ps_dput hu (pv 6) pe_str (pe_lst pa_nil) (by rfl))
    case' b2s1x => exact (ps_set (i := 15) sc_law.nd rfl (Or.inl rfl) (pe_call (ok_l_answered T) (hr.mono (by decide) : Room 4 _) (by rfl) T.m_l_answered T.F_l_answered.kp T.b_l_answered .nil pass0 (pa_cons (pv 6) (pa_cons (pv 14) pa_nil))))
    case' b2s2x => refine' ps_if (PW.pt (pw_and (pt_cmpR op_eq (pe_ix ix_tup (pv 14) pe_int (fun _ _ => rfl)) pe_str (nomark _)) (pw_and1 (pt_val (pe_callB call_isi (by rfl) T.n_isinstance PyProof.Rows.Boot.«isinstance» (pa_cons (pv 15) (pa_cons (pe_bty (by rfl) T.n_tuple PyProof.Rows.Boot.«tuple») pa_nil))))))) ?b2s2t ?b2s2f
    case' b2s2t => refine' pss_cons ?b3s0x ?b3sr0x
    case' b3sr0x => refine' pss_one ?b3s1x
    case' b3s0x => exact (ps_expr (pe_bm PySem.F.plainAttrs_list PySem.F.slot_list_append PySem.F.type_list_append mt_append (pv 12) (pa_cons (pe_tup (pa_cons (pe_ix ix_tup (pv 14) pe_int (fun _ _ => rfl)) (pa_cons (pv 15) pa_nil))) pa_nil)))
    case' b3s1x => exact (ps_expr (pe_bm PySem.F.plainAttrs_list PySem.F.slot_list_append PySem.F.type_list_append mt_append (pv 13) (pa_cons (pe_dget hu (pv 6) pe_str (fun _ _ => rfl)) pa_nil)))
    case' b2s2f => exact pss_nil
    case' b2s3x => refine' ps_if (PW.pt (pw_or (pt_cmpR op_gt (pe_callB call_len_seq (by rfl) T.n_len PySem.boot_len (pa_cons (pv 12) pa_nil)) (pv 11) (nomark _)) (pw_or1 (pt_cmpR (op_eqSeq hr.units0) (pv 14) (pe_tup (pa_cons pe_str (pa_cons (pe_un un_neg pe_int) pa_nil))) (nomark _))))) ?b2s3t ?b2s3f
    case' b2s3t => refine' pss_cons ?b4s0x ?b4sr0x
    case' b4sr0x => refine' pss_cons ?b4s1x ?b4sr1x
    case' b4sr1x => refine' pss_cons ?b4s2x ?b4sr2x
    case' b4sr2x => refine' pss_one ?b4s3x
    case' b4s0x => refine' ps_if (pt_cmpR op_eq (pv 11) pe_int (nomark _)) ?b4s0t ?b4s0f
    case' b4s0t => refine' pss_one ?b5s0x
    case' b5s0x => exact (ps_setComp (i := 16) sc_law.nd rfl rfl (compScope (xs := ["_law_desk", "_law_one"]) (ys := ["_law_hall"]) (js := [8]) rfl (by decide +kernel) (by decide +kernel) (by decide +kernel) (by rfl) ⟨⟨rfl, Or.inl rfl⟩, trivial⟩) rfl (pi_list (pv 12)) (fun _ _ _ _ _ => (pg_tupK (K := K) (n := 2) rfl rfl (pgs_cons (pg_name (i := 0) (show List.Nodup ((["_law_desk", "_law_one"] : List Str) ++ (["_law_hall"] : List Str) : List Str) by decide +kernel) rfl (Or.inl rfl)) (pgs_cons (pg_name (i := 1) (show List.Nodup ((["_law_desk", "_law_one"] : List Str) ++ (["_law_hall"] : List Str) : List Str) by decide +kernel) rfl (Or.inl rfl)) pgs_nil)))) (fun _ _ _ _ _ => pif_nil) (fun _ _ _ _ _ => (pe_meth (pv 2) T.c_Hall T.mt_Hall_take (ok_Hall_take T) (hr.mono (by decide) : Room 5 _) T.b_Hall_take .nil pass0 (pa_cons (pv 0) (pa_cons (pv 1) pa_nil)))))
    case' b4s0f => refine' pss_one ?b6s0x
    case' b6s0x => exact (ps_set (i := 16) sc_law.nd rfl (Or.inl rfl) (pe_call (ok_taken_by_hall T) (hr.mono (by decide) : Room 6 _) (by rfl) T.m_taken_by_hall T.F_taken_by_hall.kp T.b_taken_by_hall .nil pass0 (pa_cons (pv 8) (pa_cons (pe_callTy call_list_of (by rfl) T.n_list PyProof.Rows.Boot.«list» (pa_cons (pv 12) pa_nil)) pa_nil))))
    case' b4s1x => exact (ps_if (PW.pt (pw_or (pt_not (pt_val (pe_callB call_isi (by rfl) T.n_isinstance PyProof.Rows.Boot.«isinstance» (pa_cons (pv 16) (pa_cons (pe_bty (by rfl) T.n_list PyProof.Rows.Boot.«list») pa_nil))))) (pw_or1 (pt_not (pt_val (pe_call (ok_l_same T) (hr.mono (by decide) : Room 2 _) (by rfl) T.m_l_same T.F_l_same.kp T.b_l_same .nil pass0 (pa_cons (pv 16) (pa_cons (pv 13) pa_nil)))))))) (pss_one (ps_ret pe_bl)) pss_nil)
    case' b4s2x => exact (ps_set (i := 12) sc_law.nd rfl (Or.inl rfl) (pe_lst pa_nil))
    case' b4s3x => exact (ps_set (i := 13) sc_law.nd rfl (Or.inl rfl) (pe_lst pa_nil))
    case' b2s3f => exact pss_nil
    case' b1s19x => exact (ps_if (pt_not (pt_val (pe_call (ok_l_same T) (hr.mono (by decide) : Room 2 _) (by rfl) T.m_l_same T.F_l_same.kp T.b_l_same .nil pass0 (pa_cons (pv 7) (pa_cons (pv 10) pa_nil))))) (pss_one (ps_ret pe_bl)) pss_nil)
    case' b1s20x => exact (ps_ret (pe_call (ok_l_lends T) (hr.mono (by decide) : Room 7 _) (by rfl) T.m_l_lends T.F_l_lends.kp T.b_l_lends .nil pass0 (pa_cons (pv 9) (pa_cons pe_int (pa_cons pe_int pa_nil)))))
    try dsimp only [cxOf, Cx.nox]
    show let Z1 : L2.TS := _; let Z2 : L2.TS := _; let Z3 : L2.TS := _; let Z4 : L2.TS := _; let Z5 : L2.TS := _; let Z6 : L2.TS := _; let Z7 : L2.TS := tIfS _ Z6 tNext; let Z8 : L2.TS := _; let Z9 : L2.TS := _; let Z10 : L2.TS := _; let Z11 : L2.TS := _; let Z12 : L2.TS := _; let Z13 : L2.TS := tIfS _ Z12 tNext; let Z14 : L2.TS := _; let Z15 : L2.TS := _; let Z16 : L2.TS := _; let Z17 : L2.TS := _; let Z18 : L2.TS := tIfS _ Z17 tNext; let Z19 : L2.TS := _; let Z20 : L2.TS := _; let Z21 : L2.TS := _; let Z22 : L2.TS := _; let Z23 : L2.TS := _; let Z24 : L2.TS := _; let Z25 : L2.TS := _; let Z26 : L2.TS := tSeq Z24 (Z25); let Z27 : L2.TS := tIfS _ Z26 tNext; let Z28 : L2.TS := _; let Z29 : L2.TS := _; let Z30 : L2.TS := tIfS _ Z28 Z29; let Z31 : L2.TS := _; let Z32 : L2.TS := tIfS _ Z31 tNext; let Z33 : L2.TS := _; let Z34 : L2.TS := _; let Z35 : L2.TS := tSeq Z30 (tSeq Z32 (tSeq Z33 (Z34))); let Z36 : L2.TS := tIfS _ Z35 tNext; let Z37 : L2.TS := tSeq Z22 (tSeq Z23 (tSeq Z27 (Z36))); let Z38 : L2.TS := tFor _ _ Z37; let Z39 : L2.TS := _; let Z40 : L2.TS := tIfS _ Z39 tNext; let Z41 : L2.TS := _; let D0 : Ends := _; (tSeq Z1 (tSeq Z2 (tSeq Z3 (tSeq Z4 (tSeq Z5 (tSeq Z7 (tSeq Z8 (tSeq Z9 (tSeq Z10 (tSeq Z11 (tSeq Z13 (tSeq Z14 (tSeq Z15 (tSeq Z16 (tSeq Z18 (tSeq Z19 (tSeq Z20 (tSeq Z21 (tSeq Z38 (tSeq Z40 (Z41))))))))))))))))))))) D0 _ _
    intro Z1 Z2 Z3 Z4 Z5 Z6 Z7 Z8 Z9 Z10 Z11 Z12 Z13 Z14 Z15 Z16 Z17 Z18 Z19 Z20 Z21 Z22 Z23 Z24 Z25 Z26 Z27 Z28 Z29 Z30 Z31 Z32 Z33 Z34 Z35 Z36 Z37 Z38 Z39 Z40 Z41 D0
    refine ⟨_, rfl, a, ns, 0, rfl, ha, by decide, fun z => ?_⟩
    obtain ⟨n, hn0, hn1, hn⟩ := pick20 (1 + z % 4) (9 + z / 288 % 12) (by lia) (by lia) (decide (V.int (z / 36 % 8) = V.int 1))
    obtain ⟨m, hm0, hm1, hm⟩ := pick20 (1 + z / 4 % 3) (8 + z / 288 % 13) (by lia) (by lia) (decide (V.int (z / 36 % 8) = V.int 2))
    refine ⟨_, rfl, _, _, rfl, rfl, (show (0 : Int) < 4 by decide), _, _, rfl, rfl, _, rfl, _, _, rfl, rfl, ⟨by decide, by decide⟩, _, _, rfl, rfl, (show (0 : Int) < 12 by decide), _, _, rfl, rfl, (by show 2 ≤ sizeLine; decide), fun l1 hl1 => ?_⟩
    refine ⟨_, rfl, _, _, rfl, rfl, ⟨by decide, by decide⟩, _, _, rfl, rfl, (show (0 : Int) < 8 by decide), rfl, .inr ⟨_, rfl, l1, _, _, _, rfl, rfl, SqL.of upd_same, hn, ?_⟩⟩
    refine ⟨_, rfl, _, _, rfl, rfl, ⟨by decide, by decide⟩, _, _, rfl, rfl, (show (0 : Int) < 3 by decide), _, _, rfl, rfl, _, rfl, _, _, rfl, rfl, ⟨by decide, by decide⟩, _, _, rfl, rfl, (show (0 : Int) < 13 by decide), _, _, rfl, rfl, (by show 2 ≤ sizeLine; decide), fun l2 hl2 => ?_⟩
    refine ⟨_, rfl, _, _, rfl, rfl, ⟨by decide, by decide⟩, _, _, rfl, rfl, (show (0 : Int) < 8 by decide), rfl, .inr ⟨_, rfl, l2, _, _, _, rfl, rfl, SqL.of upd_same, hm, ?_⟩⟩
    have s1 := (same_new (o := .lst [.int (1 + z % 4), .int (9 + z / 288 % 12)]) hl1).trans (same_new (o := .lst [.int (1 + z / 4 % 3), .int (8 + z / 288 % 13)]) hl2)
    generalize upd (upd H l1 (.lst [.int (1 + z % 4), .int (9 + z / 288 % 12)])) l2 (.lst [.int (1 + z / 4 % 3), .int (8 + z / 288 % 13)]) = H1 at s1
    have ha1 := SqL.same ha s1
    refine ⟨_, rfl, a, ns, 1, rfl, ha1, by decide, fun z1 => ⟨_, rfl, z1, m, rfl, by lia, fun nl nums H2 hnum hnl s2 hnl2 => ?_⟩⟩
    have s02 := s1.trans s2
    have ha2 := SqL.same ha s02
    obtain ⟨cells, hcut, hcl⟩ := cut_ints ns (some 2) none
    refine ⟨_, rfl, _, rfl, a, _, rfl, ha2, fun sl hsl => ?_⟩
    have s3 := same_new (o := .lst (cutV (ns.map V.int) (some 2) none)) hsl
    refine ⟨_, rfl, _, rfl, sl, n, m, cells, rfl, by rw [← hcut]; exact upd_same, hn0, by lia, hm0, by lia, by lia, fun al us H4 hal s4 hal4 dl4 => ?_⟩
    have s24 := s3.trans s4
    have hnl4 := s24 _ _ hnl2
    have s04 := s02.trans s24
    clear s3 s4 hsl hal
    dsimp only
    refine seq_via (fun σ' H' => ∃ al us, σ' = [some (.ref a), some (.int z), some (.int n), some (.int m), some (.ref nl), some (.ref al), none, none, none, none, none, none, none, none, none, none, none] ∧ Same H H' ∧ H' nl = some (.lst (nums.map V.int)) ∧ H' al = some (.lst us) ∧ DL H' us 900) (fun N hN => ?_) ?_
    · refine ⟨_, rfl, a, ns, 0, rfl, SqL.same ha s04, by decide, fun z2 => ⟨_, _, rfl, rfl, ⟨by decide, by decide⟩, _, _, rfl, rfl, (show (0 : Int) < 3 by decide), rfl, _, rfl, ?_⟩⟩
      by_cases e3 : z2 / 12 % 3 = 1
      · refine iteTb (vi_eq e3) ?_
        refine ⟨_, rfl, _, rfl, a, ns, 1, rfl, SqL.same ha s04, by decide, fun z3 => ⟨n, z3, rfl, by lia, fun fl fs H5 hfl s5 hfl5 dl5 => ?_⟩⟩
        have dl4' := dl4.tmono (same_tup s5)
        have l1 := dl5.len
        have l2 := dl4'.len
        have sl : sizeLine = 16777216 := by decide
        refine ⟨_, rfl, fl, al, fs, us, rfl, rfl, hfl5, s5 _ _ hal4, by lia, fun al2 hal2 => ?_⟩
        have s6 := same_new (o := .lst (fs ++ us)) hal2
        exact hN _ _ ⟨al2, fs ++ us, rfl, (s04.trans s5).trans s6, s6 _ _ (s5 _ _ hnl4), upd_same, ((dl5.append dl4').more (by lia)).tmono (same_tup s6)⟩
      · refine iteFb (vi_ne e3) ?_
        exact hN _ _ ⟨al, us, rfl, s04, hnl4, hal4, dl4.more (by lia)⟩
    · clear s1 s2 s02 s24 s04 hnl2 hnl4 hal4 dl4 ha1 ha2
      rintro σ' H5 ⟨al, us, rfl, s05, hnl5, hal5, dl5⟩
      refine ⟨_, rfl, _, rfl, n, nl, nums, rfl, hnl5, by lia, by lia, fun AM H6 M6 s6 n6 => ?_⟩
      rw [hnum] at M6 n6
      refine ⟨_, rfl, nl, _, rfl, .inl (SqL.of (s6 _ _ hnl5)), fun ol hol => ?_⟩
      have s7 := same_new (o := .lst (nums.map V.int)) hol
      have hol7 : upd H6 ol (.lst (nums.map V.int)) ol = some (.lst (nums.map V.int)) := upd_same
      generalize upd H6 ol (.lst (nums.map V.int)) = H7 at s7 hol7
      refine ⟨_, rfl, fun p dx hp hdx hne => ⟨p, dx, ol, nums, rfl, upd_same, ?_, by lia, fun AH H8 eh nh HA8 fr8 lv8 => ⟨rfl, ?_⟩⟩⟩
      · rw [upd_ne (ne_of_none hol7 hp), upd_ne (ne_of_none hol7 hdx)]; exact hol7
      obtain ⟨s8, n8⟩ := hall_new hp hdx hne eh nh fr8
      subst eh
      rw [hnum] at HA8 n8
      refine ⟨(by show 2 ≤ sizeLine; decide), fun tl htl => ?_⟩
      have s9 := same_new (o := .lst [.int 77, .int 78]) htl
      have htl9 : upd H8 tl (.lst [.int 77, .int 78]) tl = some (.lst (([77, 78] : List Int).map V.int)) := upd_same
      generalize upd H8 tl (.lst [.int 77, .int 78]) = H9 at s9 htl9
      refine fun p2 dx2 hp2 hdx2 hne2 => ⟨p2, dx2, tl, [77, 78], rfl, upd_same, ?_, by decide, fun AS H10 eh2 nh2 HA10 fr10 lv10 => ⟨rfl, ?_⟩⟩
      · rw [upd_ne (ne_of_none htl9 hp2), upd_ne (ne_of_none htl9 hdx2)]; exact htl9
      obtain ⟨s10, n10⟩ := hall_new hp2 hdx2 hne2 eh2 nh2 fr10
      subst eh2
      have M10 := M6.same ((s7.trans s8).trans (s9.trans s10))
      have HB10 := HA8.same (s9.trans s10)
      have hol8 := s8 _ _ hol7
      have hol10 := s10 _ _ (s9 _ _ hol8)
      have hnl10 := s10 _ _ (s9 _ _ (s8 _ _ (s7 _ _ (s6 _ _ hnl5))))
      have hal10 := s10 _ _ (s9 _ _ (s8 _ _ (s7 _ _ (s6 _ _ hal5))))
      have s0_10 : Same H H10 := (s05.trans s6).trans ((s7.trans s8).trans (s9.trans s10))
      have dl10 := dl5.tmono (same_tup (s6.trans ((s7.trans s8).trans (s9.trans s10))))
      have dHM : Dj (FH AH m) (FM AM n m) := Dj.new n8 (M6.same s7).alv
      have dSM : Dj (FH AS 2) (FM AM n m) := Dj.new n10 (M6.same ((s7.trans s8).trans s9)).alv
      have dSH : Dj (FH AS 2) (FH AH m) := Dj.new n10 (HA8.same s9).alv
      have oM : ¬ FM AM n m ol := fun z => by obtain ⟨o, e⟩ := M6.alv ol z; rw [hol] at e; cases e
      have oH : ¬ FH AH m ol := fun z => by rw [n8 ol z] at hol7; cases hol7
      have oS : ¬ FH AS 2 ol := fun z => by have := s9 _ _ hol8; rw [n10 ol z] at this; cases this
      have nS0 : ∀ b, FH AS 2 b → H b = none := fun b z => Same.free ((s05.trans s6).trans ((s7.trans s8).trans s9)) (n10 b z)
      have alS : ¬ FH AS 2 al := fun z => by have := s9 _ _ (s8 _ _ (s7 _ _ (s6 _ _ hal5))); rw [n10 al z] at this; cases this
      have alM : al ≠ ol := ne_of_none (s6 _ _ hal5) hol
      have hol0 : H ol = none := Same.free (s05.trans s6) hol
      clear hp hdx hne nh fr8 lv8 hp2 hdx2 hne2 nh2 fr10 lv10 htl htl9 n8 n10 M6 HA8 hol7 hol8 hol s6 s7 s8 s9 s10 hnl5 hal5 dl5 n6 s05
      refine ⟨_, rfl, _, rfl, .ref ol, .ref nl, .l (nums.map D.i), rfl, ?_, ?_, ?_, fun H11 s11 => ⟨_, rfl, iteFb rfl ?_⟩⟩
      · simp only [Rep]; exact ⟨ol, _, rfl, hol10, ints_rep _ _⟩
      · simp only [Rep]; exact ⟨nl, _, rfl, hnl10, ints_rep _ _⟩
      · have := ints_size nums; simp only [D.size]; lia
      obtain ⟨x0, hx0⟩ := atInt (ns := nums) (k := 0) (by decide) (by lia)
      have hol11 := s11 _ _ hol10
      have M11 := M10.same s11
      have HB11 := HB10.same s11
      have HC11 := HA10.same s11
      have hal11 := s11 _ _ hal10
      have dl11 := dl10.tmono (same_tup s11)
      have s0_11 := s0_10.trans s11
      clear M10 HB10 HA10 hal10 dl10 s0_10 s11 hol10 hnl10
      have hlm : (nums.map V.int).length = m := by rw [List.length_map, hnum]
      refine ⟨_, rfl, ol, _, _, _, rfl, rfl, SqL.of hol11, hx0, _, _, rfl, rfl, _, rfl, ol, _, _, 0, rfl, rfl, hol11, ?_, ?_⟩
      · unfold ixN; rw [if_pos (by decide), if_pos (by lia)]; rfl
      have k12 : Kp (fun b => b = ol) H11 (upd H11 ol (.lst ((nums.map V.int).set 0 (.int (x0 + 7))))) := fun b o e z => by rw [upd_ne z]; exact e
      have t12 : TupSame H11 (upd H11 ol (.lst ((nums.map V.int).set 0 (.int (x0 + 7))))) := tup_lst hol11
      have hol12 : upd H11 ol (.lst ((nums.map V.int).set 0 (.int (x0 + 7)))) ol = some (.lst ((nums.set 0 (x0 + 7)).map V.int)) := by rw [upd_same, List.map_set]
      have sl : sizeLine = 16777216 := by decide
      have hlo : (nums.set 0 (x0 + 7)).length = m := by rw [List.length_set, hnum]
      generalize upd H11 ol (.lst ((nums.map V.int).set 0 (.int (x0 + 7)))) = H12 at k12 t12 hol12
      generalize nums.set 0 (x0 + 7) = on at hol12 hlo
      refine ⟨_, rfl, .inl ⟨rfl, _, SqL.of hol12⟩, ol, _, .int 5, rfl, rfl, hol12, by rw [List.length_map]; lia, ?_⟩
      have k13 : Kp (fun b => b = ol) H11 (upd H12 ol (.lst (on.map V.int ++ [.int 5]))) := fun b o e z => by rw [upd_ne z]; exact k12 b o e z
      have t13 : TupSame H11 (upd H12 ol (.lst (on.map V.int ++ [.int 5]))) := t12.trans (tup_lst hol12)
      have hol13 : upd H12 ol (.lst (on.map V.int ++ [.int 5])) ol = some (.lst ((on ++ [5]).map V.int)) := by rw [upd_same, List.map_append]; rfl
      have hlo13 : (on ++ [5]).length = m + 1 := by rw [List.length_append, hlo]; rfl
      generalize upd H12 ol (.lst (on.map V.int ++ [.int 5])) = H13 at k13 t13 hol13
      generalize on ++ [5] = os at hol13 hlo13
      clear k12 t12 hol12 hol11 hx0
      have M13 := M11.kp t13 k13 (fun b x y => oM (x ▸ y))
      have HB13 := HB11.kp t13 k13 (fun b x y => oH (x ▸ y))
      have HC13 := HC11.kp t13 k13 (fun b x y => oS (x ▸ y))
      have hal13 := k13 _ _ hal11 alM
      have dl13 := dl11.tmono t13
      have s0_13 : Same H H13 := Same.kp s0_11 k13 fun b z => by rw [z]; exact hol0
      clear M11 HB11 HC11 hal11 dl11 s0_11 t13 k13
      refine ⟨_, rfl, ol, _, rfl, .inl (SqL.of hol13), fun kl hkl => ?_⟩
      have s14 := same_new (o := .lst (os.map V.int)) hkl
      have hkl14 : upd H13 kl (.lst (os.map V.int)) kl = some (.lst (os.map V.int)) := upd_same
      generalize upd H13 kl (.lst (os.map V.int)) = H14 at s14 hkl14
      have kM : ¬ FM AM n m kl := fun z => by obtain ⟨o, e⟩ := M13.alv kl z; rw [hkl] at e; cases e
      have kH : ¬ FH AH m kl := fun z => by obtain ⟨o, e⟩ := HB13.alv kl z; rw [hkl] at e; cases e
      have kS : ¬ FH AS 2 kl := fun z => by obtain ⟨o, e⟩ := HC13.alv kl z; rw [hkl] at e; cases e
      have M14 := M13.same s14
      have HB14 := HB13.same s14
      refine ⟨_, rfl, AS, 2, _, 0, 77, rfl, HC13.same s14, by decide, rfl, fun AS' GC H15 HC15 hGC f15 mv15 eh15 => ⟨_, rfl, iteFb rfl ?_⟩⟩
      have t15 := f15.tups (HC13.same s14)
      have M15 := M14.kp t15 f15.fh dSM
      have HB15 := HB14.kp t15 f15.fh dSH
      have hol15 := f15.fh _ _ (s14 _ _ hol13) oS
      have hkl15 := f15.fh _ _ hkl14 kS
      have hal15 := f15.fh _ _ (s14 _ _ hal13) alS
      have dl15 := (dl13.tmono (same_tup s14)).tmono t15
      have s0_15 : Same H H15 := Same.kp (s0_13.trans s14) f15.fh nS0
      have dSM' := dSM.move (hv_fh mv15) M14.alv
      have dSH' := dSH.move (hv_fh mv15) HB14.alv
      have oS' : ¬ FH AS' 2 ol := fun z => (hv_fh mv15 _ z).elim oS fun q => by rw [s14 _ _ hol13] at q; cases q
      have kS' : ¬ FH AS' 2 kl := fun z => (hv_fh mv15 _ z).elim kS fun q => by rw [hkl14] at q; cases q
      have hG1 : GC 1 = ⟨78, none, [], [], 0⟩ := (hGC 1 (by decide)).trans rfl
      have hkol : kl ≠ ol := fun z => by rw [z] at hkl; rw [hol13] at hkl; cases hkl
      clear M13 HB13 HC13 hal13 dl13 s0_13 s14 hkl14 hkl M14 HB14 f15 mv15 t15 hol13 alS dSM dSH oS kS nS0 hGC
      rw [← eh15]
      refine ⟨_, rfl, a, ns, 1, rfl, SqL.same ha s0_15, by decide, fun z4 => ⟨_, _, rfl, rfl, (show (0 : Int) < 4 by decide), ?_⟩⟩
      refine ⟨(by show 0 ≤ sizeLine; decide), fun cm hcm => ?_⟩
      refine ⟨(by show 0 ≤ sizeLine; decide), fun du hdu => ?_⟩
      obtain ⟨dsL, rdl, hdl⟩ := dl15
      have s16 := (same_new (o := .lst []) hcm).trans (same_new (o := .lst []) hdu)
      have hdu15 : H15 du = none := Same.free (same_new hcm) hdu
      have ncd : cm ≠ du := ne_of_none upd_same hdu
      have hcm16 : upd (upd H15 cm (.lst [])) du (.lst []) cm = some (.lst []) := by rw [upd_ne ncd, upd_same]
      have hdu16 : upd (upd H15 cm (.lst [])) du (.lst []) du = some (.lst []) := upd_same
      generalize upd (upd H15 cm (.lst [])) du (.lst []) = H16 at s16 hcm16 hdu16
      have lus := rdl.length
      rw [List.length_map] at lus
      refine ⟨_, rfl, _, rfl, (by show 2 ≤ sizeLine; decide), fun e he => ⟨(by show 1 ≤ sizeLine; decide), fun z5 hz5 => ⟨al, z5, us, _, rfl, rfl, same_new hz5 _ _ (same_new he _ _ (s16 _ _ hal15)), upd_same, (by simp only [List.length_cons, List.length_nil]; lia), fun L hL => ⟨L, rfl, ⟨_, SqL.of upd_same⟩, ?_⟩⟩⟩⟩
      have se1 := same_new (o := .tup (Deed.up (-1)).vs) he
      have se2 := same_new (o := .lst [.ref e]) hz5
      have se3 := same_new (o := .lst (us ++ [.ref e])) hL
      have s17 := (se1.trans se2).trans se3
      have hL17 : upd (upd (upd H16 e (.tup (Deed.up (-1)).vs)) z5 (.lst [.ref e])) L (.lst (us ++ [.ref e])) L = some (.lst (us ++ [.ref e])) := upd_same
      have he17 : upd (upd (upd H16 e (.tup (Deed.up (-1)).vs)) z5 (.lst [.ref e])) L (.lst (us ++ [.ref e])) e = some (.tup (Deed.up (-1)).vs) := se3 _ _ (se2 _ _ upd_same)
      have hL16 : H16 L = none := Same.free (se1.trans se2) hL
      let PV1 : Nat → St → Hp → Prop := fun i σ' H' => ∃ o14 o15 o16 A B G S se cs dss cm du xs ys, σ' = [some (.ref a), some (.int z), some (.int n), some (.int m), some (.ref nl), some (.ref al), some (.ref (A .town)), some (.ref ol), some (.ref (B .hall)), some (.ref (AS' .hall)), some (.ref kl), some (.int (z4 % 4)), some (.ref cm), some (.ref du), o14, o15, o16] ∧ LP t.C_Hall t.C_PageLoans n m AS' GC ol kl L (os.map V.int) (us ++ [.ref e]) (dsL ++ [.up (-1)]) True H' A B G S se cs dss cm du xs ys ∧ TInv n m S ∧ Bd i S [] ∧ hallOk m G cs ∧ hallRun G cs = (S.pg, dss) ∧ (cs.length : Int) ≤ z4 % 4
      refine for_list (xs := us ++ [.ref e]) PV1 ?_ ?_ ?_ ?_
      · refine ⟨none, none, none, AM, AH, pg0 nums, S0 nums, [], [], [], cm, du, [], [], rfl, ?_, hnum ▸ TInv.start n nums, Bd.start nums, trivial, rfl, by show (0 : Int) ≤ _; lia⟩
        have s1517 := s16.trans s17
        have no : ∀ b, H15 b = none → ¬ FM AM n m b ∧ ¬ FH AH m b ∧ ¬ FH AS' 2 b := fun b hb => ⟨M15.alv.not hb, HB15.alv.not hb, HC15.alv.not hb⟩
        have hL15 : H15 L = none := Same.free s16 hL16
        refine ⟨M15.same s1517, HB15.same s1517, HC15.same s1517, s17 _ _ hcm16, by simp [RepL], s17 _ _ hdu16, DUE.nil _ _, s1517 _ _ hol15, s1517 _ _ hkl15, hL17, ?_, dHM.symm, dSM'.symm, dSH'.symm, ?_, ncd, ?_⟩
        · rw [List.map_append]
          exact (rdl.tmono (same_tup s1517) (deeds_flat _)).snoc (deed_rep he17)
        · rintro b (rfl | rfl | rfl | rfl | rfl)
          · exact ⟨oM, oH, oS'⟩
          · exact ⟨kM, kH, kS'⟩
          · exact no _ hL15
          · exact no _ hcm
          · exact no _ hdu15
        · rintro b (rfl | rfl | rfl)
          · exact ⟨ne_of_none hol15 hcm, ne_of_none hol15 hdu15⟩
          · exact ⟨ne_of_none hkl15 hcm, ne_of_none hkl15 hdu15⟩
          · exact ⟨(ne_of_none hcm16 hL16).symm, (ne_of_none hdu16 hL16).symm⟩
      · rintro i σ' H' _ ⟨o14, o15, o16, A, B, G, S, se, cs, dss, cm, du, xs, ys, rfl, h, _⟩
        exact SqL.of h.hL
      · clear hcm hdu s16 hdu15 ncd hcm16 hdu16 he hz5 hL se1 se2 se3 s17 hL17 he17 hL16 rdl M15 HB15 HC15 hol15 hkl15 hal15 s0_15 dSM' dSH' oS' kS' dHM oM oH kM kH hlm hlo hlo13 hnum hcl hcut hn hm hn0 hn1 hm0 hm1 hol0 alM hkol eh15 hl
        rintro i x σ' H' hx ⟨o14, o15, o16, A, B, G, S, se, cs, dss, cm, du, xs, ys, rfl, h, I, bd, hok, hrun, hlen⟩
        obtain ⟨d', hd', rd⟩ := RepL.get h.dl hx
        rw [List.getElem?_map] at hd'
        cases hdd : (dsL ++ [Deed.up (-1)])[i]? with
        | none => rw [hdd] at hd'; cases hd'
        | some dd =>
          rw [hdd] at hd'
          cases hd'
          obtain ⟨db, rfl, hdb⟩ := deed_tup rd
          have hi : i < 902 := by
            obtain ⟨q, _⟩ := List.getElem?_eq_some_iff.mp hdd
            rw [List.length_append] at q
            simp at q
            lia
          refine ⟨(by show 0 ≤ sizeLine; decide), fun a1 ha1 => ⟨_, rfl, A .town, _, rfl, dput (same_new ha1 _ _ h.M.town) tkv_len tkv_setSent, ?_⟩⟩
          have h1 := h.sent ha1
          have hdb1 := ((h.M.newSent ha1).2.tups h.M) _ _ hdb
          have hA1 : setL A .sent a1 .town = A .town := setL_ne _ _ (by intro z; cases z)
          rw [← hA1] at h1 hdb1 ⊢
          generalize upd (upd H' a1 (.lst [])) (setL A .sent a1 .town) (.dK (tkv (setL A .sent a1))) = H1 at h1 hdb1 ⊢
          generalize setL A .sent a1 = A1 at h1 ⊢
          clear hA1 ha1 hdb rd hx hdd
          refine ⟨_, rfl, _, rfl, A1, n, m, S, [], db, dd, i, rfl, h1.M, hdb1, I, bd, by lia, fun v A2 H2 M2 f2 v2 r2 => ?_⟩
          have h2 := h1.town M2 f2 v2
          have hdb2 := (f2.tups h1.M) _ _ hdb1
          have I2 := I.step dd
          have b2 := (bd.step (n := n) (m := m) dd).sent
          rw [List.nil_append] at h2
          rw [← v2.town]
          clear M2 f2 v2 h1 hdb1 h
          dsimp only
          refine seq_via (fun σ' H' => ∃ o15 cs' dss' xs' ys', σ' = [some (.ref a), some (.int z), some (.int n), some (.int m), some (.ref nl), some (.ref al), some (.ref (A2 .town)), some (.ref ol), some (.ref (B .hall)), some (.ref (AS' .hall)), some (.ref kl), some (.int (z4 % 4)), some (.ref cm), some (.ref du), some (.ref db), o15, o16] ∧ LP t.C_Hall t.C_PageLoans n m AS' GC ol kl L (os.map V.int) (us ++ [.ref e]) (dsL ++ [.up (-1)]) True H' A2 B G (S.step n m dd).1 (S.sentB n dd) cs' dss' cm du xs' ys' ∧ hallOk m G cs' ∧ hallRun G cs' = ((S.step n m dd).1.pg, dss') ∧ (cs'.length : Int) ≤ z4 % 4 + 1 ∧ H' db = some (.tup dd.vs)) (fun N hN => ?_) ?_
          · have skip : (∀ d, dd ≠ .up d) → N [some (.ref a), some (.int z), some (.int n), some (.int m), some (.ref nl), some (.ref al), some (.ref (A2 .town)), some (.ref ol), some (.ref (B .hall)), some (.ref (AS' .hall)), some (.ref kl), some (.int (z4 % 4)), some (.ref cm), some (.ref du), some (.ref db), some v, o16] H2 := fun hn => hN _ _ ⟨_, cs, dss, xs, ys, rfl, h2.weak, hok, by rw [step_pg hn]; exact hrun, by lia, hdb2⟩
            cases dd with
            | look d p =>
              refine ⟨_, rfl, db, _, _, _, rfl, rfl, SqT.of hdb2, rfl, rfl, _, rfl, iteFb (vs_ne (by decide +kernel)) (iteFb rfl ?_)⟩
              exact skip (fun d z => nomatch z)
            | put d p k =>
              refine ⟨_, rfl, db, _, _, _, rfl, rfl, SqT.of hdb2, rfl, rfl, _, rfl, iteFb (vs_ne (by decide +kernel)) (iteFb rfl ?_)⟩
              exact skip (fun d z => nomatch z)
            | rest d p =>
              refine ⟨_, rfl, db, _, _, _, rfl, rfl, SqT.of hdb2, rfl, rfl, _, rfl, iteFb (vs_ne (by decide +kernel)) (iteFb rfl ?_)⟩
              exact skip (fun d z => nomatch z)
            | down d =>
              refine ⟨_, rfl, db, _, _, _, rfl, rfl, SqT.of hdb2, rfl, rfl, _, rfl, iteFb (vs_ne (by decide +kernel)) (iteFb rfl ?_)⟩
              exact skip (fun d z => nomatch z)
            | up d =>
              refine ⟨_, rfl, db, _, _, _, rfl, rfl, SqT.of hdb2, rfl, rfl, _, rfl, iteTb vs_eq ?_⟩
              by_cases hin : inR d n
              · cases hup : S.up d.toNat with
                | nil =>
                  rw [up_step hin, upD_nil hup] at r2 h2 hN
                  rw [str_of r2]
                  refine ⟨_, rfl, _, _, _, false, rfl, .str _, .inl ⟨_, rfl, kit_st⟩, _, rfl, iteFb rfl ?_⟩
                  exact hN _ _ ⟨_, cs, dss, xs, ys, rfl, h2.weak, hok, hrun, by lia, hdb2⟩
                | cons l r =>
                  obtain ⟨_, lp, lg, _⟩ := I.take (by obtain ⟨z1, z2⟩ := hin; lia) hup
                  have lr := (I.pn _ lp).rw
                  have lm := bd.mu l.pg
                  have ls := ((S.pg l.pg).take_mu l.pg d.toNat l).2
                  have ed : ((d.toNat : Nat) : Int) = d := Int.toNat_of_nonneg hin.1
                  rw [sentB_cons hin hup] at h2 hN
                  rw [up_step hin, upD_cons hup] at r2 h2 hN
                  obtain ⟨vb, vxs, rfl, hvb⟩ := ul_tup r2
                  refine ⟨_, rfl, _, _, _, true, rfl, .tup hvb, .inl ⟨_, rfl, kit_tt⟩, _, rfl, iteTb rfl ?_⟩
                  refine ⟨_, rfl, .inl ⟨rfl, _, SqL.of h2.hc⟩, _, rfl, db, _, _, _, rfl, rfl, SqT.of hdb2, rfl, _, rfl, (by show 2 ≤ sizeLine; decide), fun b0 hb0 => ?_⟩
                  have xl : xs.length = cs.length := by have := h2.rc.length; rw [List.length_map] at this; exact this
                  have yl : ys.length = cs.length := by rw [h2.dues.1, ← hallRun_len G cs, hrun]
                  have h3 := h2.come (b := b0) (d := d.toNat) (l := l) hb0 r2 (by lia)
                  have s3 := same_new (o := .tup [.int d, .ref vb]) hb0
                  rw [ed] at h3
                  refine ⟨cm, xs, _, rfl, rfl, s3 _ _ h2.hc, by lia, ?_⟩
                  have ncd : du ≠ cm := Ne.symm h2.nd.1
                  have ntw : A2 .town ≠ cm := fun z => (h2.la cm (by simp)).1 ⟨.town, trivial, z.symm⟩
                  have hd3 : upd (upd H2 b0 (.tup [.int d, .ref vb])) cm (.lst (xs ++ [.ref b0])) du = some (.lst ys) := by rw [upd_ne ncd]; exact s3 _ _ h2.hd
                  have ht3 : upd (upd H2 b0 (.tup [.int d, .ref vb])) cm (.lst (xs ++ [.ref b0])) (A2 .town) = some (.dK (tkv A2)) := by rw [upd_ne ntw]; exact s3 _ _ h2.M.town
                  have hdb3 := (tup_lst (vs := ys ++ [.ref (A2 .sent)]) hd3) _ _ ((tup_lst (vs := xs ++ [.ref b0]) (s3 _ _ h2.hc)) _ _ (s3 _ _ hdb2))
                  refine ⟨_, rfl, .inl ⟨rfl, _, SqL.of hd3⟩, zd rfl (dget ht3 tkv_sent) ⟨du, ys, _, rfl, rfl, hd3, by lia, ?_⟩⟩
                  exact hN _ _ ⟨_, _, _, _, _, rfl, h3, ok_snoc hrun hok lp lg lr (by lia), run_snoc hrun _ _, by rw [List.length_append]; simp only [List.length_cons, List.length_nil]; lia, hdb3⟩
              · rw [up_no hin] at r2 h2 hN
                rw [str_of r2]
                refine ⟨_, rfl, _, _, _, false, rfl, .str _, .inl ⟨_, rfl, kit_st⟩, _, rfl, iteFb rfl ?_⟩
                exact hN _ _ ⟨_, cs, dss, xs, ys, rfl, h2.weak, hok, hrun, by lia, hdb2⟩
          · rintro σ' H3 ⟨o15, cs', dss', xs', ys', rfl, h3, hok3, hrun3, hlen3, hdb3⟩
            clear h2 r2 hdb2
            generalize (S.step n m dd).1 = S' at *
            generalize S.sentB n dd = se' at *
            have xl : xs'.length = cs'.length := by have := h3.rc.length; rw [List.length_map] at this; exact this
            have dsl : dss'.length = cs'.length := by rw [← hallRun_len G cs', hrun3]
            refine test_via (tt := tOr _ _) (fun c H' => LP t.C_Hall t.C_PageLoans n m AS' GC ol kl L (os.map V.int) (us ++ [.ref e]) (dsL ++ [.up (-1)]) True H' A2 B G S' se' cs' dss' cm du xs' ys' ∧ (c = false → (cs'.length : Int) ≤ z4 % 4)) (fun N hN => ?_) ?_
            · refine ⟨_, rfl, cm, _, rfl, .inl (SqL.of h3.hc), _, rfl, _, _, rfl, rfl, _, rfl, ?_⟩
              by_cases hg : z4 % 4 < ((xs'.length : Nat) : Int)
              · exact iteTb (decide_eq_true hg) (hN _ _ ⟨h3, fun z => nomatch z⟩)
              · refine iteFb (decide_eq_false hg) ?_
                exact ⟨_, rfl, _, rfl, (by show 2 ≤ sizeLine; decide), fun e2 he2 => ⟨db, e2, _, _, rfl, rfl, SqT.of (same_new he2 _ _ hdb3), SqT.of upd_same, deed_flat dd, rfl, fun zb => ⟨_, rfl, hN _ _ ⟨h3.same (same_new he2), fun _ => by lia⟩⟩⟩⟩
            · rintro c H4 ⟨h4, hc4⟩
              cases c with
              | false =>
                refine iteFb rfl ?_
                exact ⟨_, _, _, A2, B, G, S', se', cs', dss', cm, du, xs', ys', rfl, h4, I2, b2, hok3, hrun3, hc4 rfl⟩
              | true =>
                refine iteTb rfl ?_
                refine seq_via (fun σ' H' => ∃ B' fa zs, σ' = [some (.ref a), some (.int z), some (.int n), some (.int m), some (.ref nl), some (.ref al), some (.ref (A2 .town)), some (.ref ol), some (.ref (B' .hall)), some (.ref (AS' .hall)), some (.ref kl), some (.int (z4 % 4)), some (.ref cm), some (.ref du), some (.ref db), o15, some (.ref fa)] ∧ LP t.C_Hall t.C_PageLoans n m AS' GC ol kl L (os.map V.int) (us ++ [.ref e]) (dsL ++ [.up (-1)]) True H' A2 B' S'.pg S' se' cs' dss' cm du xs' ys' ∧ H' fa = some (.lst zs) ∧ RepL H' zs (dss'.map sentD)) (fun N hN => ?_) ?_
                · refine ⟨_, rfl, rfl, _, rfl, ?_⟩
                  have hcn : ∀ x : Hb, x.ok m → cm ≠ B x := fun x hx z => (h4.la cm (by simp)).2.1 ⟨x, hx, z⟩
                  by_cases h0 : z4 % 4 = 0
                  · refine iteTb (vi_eq h0) ?_
                    refine ⟨_, rfl, cm, rfl, ⟨_, SqL.of h4.hc⟩, fun acc hacc => ?_⟩
                    refine comp_hall h4.HB h4.hc hcn h4.rc (by lia) hok3 hacc fun B' H5 zs HB5 f5 mv5 eh5 hacc5 rz => ?_
                    rw [hrun3] at HB5 rz
                    exact hN _ _ ⟨B', acc, zs, by rw [eh5]; rfl, h4.hall HB5 f5 mv5, hacc5, rz⟩
                  · refine iteFb (vi_ne h0) ?_
                    refine ⟨_, rfl, _, rfl, cm, _, rfl, .inl (SqL.of h4.hc), fun c2 hc2 => ⟨B, m, G, c2, xs', cs', rfl, h4.HB.new hc2, upd_same, (fun x hx z => h4.HB.alv.not hc2 ⟨x, hx, z⟩), h4.rc.tmono (same_tup (same_new hc2)) (come_flat _), by lia, hok3, fun fa B' H5 zs hfa HB5 f5 mv5 eh5 hfa5 rz => ?_⟩⟩
                    rw [hrun3] at HB5 rz
                    exact hN _ _ ⟨B', fa, zs, by rw [eh5]; rfl, (h4.same (same_new hc2)).hall HB5 f5 mv5, hfa5, rz⟩
                · rintro σ' H5 ⟨B', fa, zs, rfl, h5, hfa, rz⟩
                  refine ⟨_, rfl, _, _, _, true, rfl, .lst hfa, .inl ⟨_, rfl, kit_ll⟩, _, rfl, iteFb rfl ?_⟩
                  refine ⟨_, rfl, _, rfl, .ref fa, .ref du, .l (dss'.map sentD), rfl, ?_, ?_, h5.dues.size (by lia), fun H6 s6 => ⟨_, rfl, iteFb rfl ?_⟩⟩
                  · simp only [Rep]; exact ⟨fa, zs, rfl, hfa, rz⟩
                  · simp only [Rep]; exact ⟨du, ys', rfl, h5.hd, h5.dues.rep⟩
                  refine ⟨(by show 0 ≤ sizeLine; decide), fun cm2 hcm2 => ?_⟩
                  refine ⟨(by show 0 ≤ sizeLine; decide), fun du2 hdu2 => ?_⟩
                  exact ⟨_, _, _, A2, B', S'.pg, S', se', [], [], cm2, du2, [], [], rfl, (h5.same s6).fresh hcm2 hdu2, I2, b2, trivial, rfl, by show (0 : Int) ≤ _; lia⟩
      · rintro σ' H' ⟨o14, o15, o16, A, B, G, S, se, cs, dss, cm, du, xs, ys, rfl, h, _⟩
        refine ⟨_, rfl, _, rfl, .ref ol, .ref kl, .l (os.map D.i), rfl, ?_, ?_, ?_, fun H2 s2 => ⟨_, rfl, iteFb rfl ?_⟩⟩
        · simp only [Rep]; exact ⟨ol, _, rfl, h.ho, ints_rep _ _⟩
        · simp only [Rep]; exact ⟨kl, _, rfl, h.hk, ints_rep _ _⟩
        · have := ints_size os; simp only [D.size]; lia
        exact ⟨_, rfl, AS', 2, GC, 1, 78, rfl, h.HC.same s2, by decide, hG1, fun _ _ H3 _ _ _ _ _ => q H3⟩
end
end K07
namespace K07
open PySem L2
theorem all_mk {l : PySem.W.OpenLaw} {w : World} {K : PySem.W.Frag} {h : Heap} {mg : Str → Option Value} {fa : Addr} (X : K.In h) (G : h.Ns mainGlobals mg) (hfa : mg "law" = some (.ref fa))
    {C_PageLoans : Addr}
    {C_Hall : Addr}
    {f_lend_letter : Addr} {od_lend_letter an_lend_letter : Option Addr} {sl_lend_letter : Array (Option Value)} {oc_lend_letter kV_lend_letter dc_lend_letter pm_lend_letter cd_lend_letter ct_lend_letter : Value}
    {f_back_letter : Addr} {od_back_letter an_back_letter : Option Addr} {sl_back_letter : Array (Option Value)} {oc_back_letter kV_back_letter dc_back_letter pm_back_letter cd_back_letter ct_back_letter : Value}
    {f_PageLoans_init : Addr} {od_PageLoans_init an_PageLoans_init : Option Addr} {sl_PageLoans_init : Array (Option Value)} {oc_PageLoans_init kV_PageLoans_init dc_PageLoans_init pm_PageLoans_init cd_PageLoans_init ct_PageLoans_init : Value}
    {f_PageLoans_take_ask : Addr} {od_PageLoans_take_ask an_PageLoans_take_ask : Option Addr} {sl_PageLoans_take_ask : Array (Option Value)} {oc_PageLoans_take_ask kV_PageLoans_take_ask dc_PageLoans_take_ask pm_PageLoans_take_ask cd_PageLoans_take_ask ct_PageLoans_take_ask : Value}
    {f_PageLoans_take_answer : Addr} {od_PageLoans_take_answer an_PageLoans_take_answer : Option Addr} {sl_PageLoans_take_answer : Array (Option Value)} {oc_PageLoans_take_answer kV_PageLoans_take_answer dc_PageLoans_take_answer pm_PageLoans_take_answer cd_PageLoans_take_answer ct_PageLoans_take_answer : Value}
    {f_PageLoans_take_gave : Addr} {od_PageLoans_take_gave an_PageLoans_take_gave : Option Addr} {sl_PageLoans_take_gave : Array (Option Value)} {oc_PageLoans_take_gave kV_PageLoans_take_gave dc_PageLoans_take_gave pm_PageLoans_take_gave cd_PageLoans_take_gave ct_PageLoans_take_gave : Value}
    {f_PageLoans_serve : Addr} {od_PageLoans_serve an_PageLoans_serve : Option Addr} {sl_PageLoans_serve : Array (Option Value)} {oc_PageLoans_serve kV_PageLoans_serve dc_PageLoans_serve pm_PageLoans_serve cd_PageLoans_serve ct_PageLoans_serve : Value}
    {f_PageLoans_bids_for_first : Addr} {od_PageLoans_bids_for_first an_PageLoans_bids_for_first : Option Addr} {sl_PageLoans_bids_for_first : Array (Option Value)} {oc_PageLoans_bids_for_first kV_PageLoans_bids_for_first dc_PageLoans_bids_for_first pm_PageLoans_bids_for_first cd_PageLoans_bids_for_first ct_PageLoans_bids_for_first : Value}
    {f_PageLoans_lend : Addr} {od_PageLoans_lend an_PageLoans_lend : Option Addr} {sl_PageLoans_lend : Array (Option Value)} {oc_PageLoans_lend kV_PageLoans_lend dc_PageLoans_lend pm_PageLoans_lend cd_PageLoans_lend ct_PageLoans_lend : Value}
    {f_PageLoans_let_write : Addr} {od_PageLoans_let_write an_PageLoans_let_write : Option Addr} {sl_PageLoans_let_write : Array (Option Value)} {oc_PageLoans_let_write kV_PageLoans_let_write dc_PageLoans_let_write pm_PageLoans_let_write cd_PageLoans_let_write ct_PageLoans_let_write : Value}
    {f_PageLoans_let_read : Addr} {od_PageLoans_let_read an_PageLoans_let_read : Option Addr} {sl_PageLoans_let_read : Array (Option Value)} {oc_PageLoans_let_read kV_PageLoans_let_read dc_PageLoans_let_read pm_PageLoans_let_read cd_PageLoans_let_read ct_PageLoans_let_read : Value}
    {f_Hall_init : Addr} {od_Hall_init an_Hall_init : Option Addr} {sl_Hall_init : Array (Option Value)} {oc_Hall_init kV_Hall_init dc_Hall_init pm_Hall_init cd_Hall_init ct_Hall_init : Value}
    {f_Hall_take : Addr} {od_Hall_take an_Hall_take : Option Addr} {sl_Hall_take : Array (Option Value)} {oc_Hall_take kV_Hall_take dc_Hall_take pm_Hall_take cd_Hall_take ct_Hall_take : Value}
    {f_taken_by_hall : Addr} {od_taken_by_hall an_taken_by_hall : Option Addr} {sl_taken_by_hall : Array (Option Value)} {oc_taken_by_hall kV_taken_by_hall dc_taken_by_hall pm_taken_by_hall cd_taken_by_hall ct_taken_by_hall : Value}
    {f_l_whole : Addr} {od_l_whole an_l_whole : Option Addr} {sl_l_whole : Array (Option Value)} {oc_l_whole kV_l_whole dc_l_whole pm_l_whole cd_l_whole ct_l_whole : Value}
    {f_l_at : Addr} {od_l_at an_l_at : Option Addr} {sl_l_at : Array (Option Value)} {oc_l_at kV_l_at dc_l_at pm_l_at cd_l_at ct_l_at : Value}
    {f_l_same : Addr} {od_l_same an_l_same : Option Addr} {sl_l_same : Array (Option Value)} {oc_l_same kV_l_same dc_l_same pm_l_same cd_l_same ct_l_same : Value}
    {f_l_town_of : Addr} {od_l_town_of an_l_town_of : Option Addr} {sl_l_town_of : Array (Option Value)} {oc_l_town_of kV_l_town_of dc_l_town_of pm_l_town_of cd_l_town_of ct_l_town_of : Value}
    {f_l_bid : Addr} {od_l_bid an_l_bid : Option Addr} {sl_l_bid : Array (Option Value)} {oc_l_bid kV_l_bid dc_l_bid pm_l_bid cd_l_bid ct_l_bid : Value}
    {f_l_lend_out : Addr} {od_l_lend_out an_l_lend_out : Option Addr} {sl_l_lend_out : Array (Option Value)} {oc_l_lend_out kV_l_lend_out dc_l_lend_out pm_l_lend_out cd_l_lend_out ct_l_lend_out : Value}
    {f_l_serve : Addr} {od_l_serve an_l_serve : Option Addr} {sl_l_serve : Array (Option Value)} {oc_l_serve kV_l_serve dc_l_serve pm_l_serve cd_l_serve ct_l_serve : Value}
    {f_l_came_up : Addr} {od_l_came_up an_l_came_up : Option Addr} {sl_l_came_up : Array (Option Value)} {oc_l_came_up kV_l_came_up dc_l_came_up pm_l_came_up cd_l_came_up ct_l_came_up : Value}
    {f_l_enough : Addr} {od_l_enough an_l_enough : Option Addr} {sl_l_enough : Array (Option Value)} {oc_l_enough kV_l_enough dc_l_enough pm_l_enough cd_l_enough ct_l_enough : Value}
    {f_l_fulfilled : Addr} {od_l_fulfilled an_l_fulfilled : Option Addr} {sl_l_fulfilled : Array (Option Value)} {oc_l_fulfilled kV_l_fulfilled dc_l_fulfilled pm_l_fulfilled cd_l_fulfilled ct_l_fulfilled : Value}
    {f_l_came_down : Addr} {od_l_came_down an_l_came_down : Option Addr} {sl_l_came_down : Array (Option Value)} {oc_l_came_down kV_l_came_down dc_l_came_down pm_l_came_down cd_l_came_down ct_l_came_down : Value}
    {f_l_refusal_of : Addr} {od_l_refusal_of an_l_refusal_of : Option Addr} {sl_l_refusal_of : Array (Option Value)} {oc_l_refusal_of kV_l_refusal_of dc_l_refusal_of pm_l_refusal_of cd_l_refusal_of ct_l_refusal_of : Value}
    {f_l_answered : Addr} {od_l_answered an_l_answered : Option Addr} {sl_l_answered : Array (Option Value)} {oc_l_answered kV_l_answered dc_l_answered pm_l_answered cd_l_answered ct_l_answered : Value}
    {f_l_numbers_of : Addr} {od_l_numbers_of an_l_numbers_of : Option Addr} {sl_l_numbers_of : Array (Option Value)} {oc_l_numbers_of kV_l_numbers_of dc_l_numbers_of pm_l_numbers_of cd_l_numbers_of ct_l_numbers_of : Value}
    {f_l_first_deeds : Addr} {od_l_first_deeds an_l_first_deeds : Option Addr} {sl_l_first_deeds : Array (Option Value)} {oc_l_first_deeds kV_l_first_deeds dc_l_first_deeds pm_l_first_deeds cd_l_first_deeds ct_l_first_deeds : Value}
    {f_l_asked_of : Addr} {od_l_asked_of an_l_asked_of : Option Addr} {sl_l_asked_of : Array (Option Value)} {oc_l_asked_of kV_l_asked_of dc_l_asked_of pm_l_asked_of cd_l_asked_of ct_l_asked_of : Value}
    {f_l_lends : Addr} {od_l_lends an_l_lends : Option Addr} {sl_l_lends : Array (Option Value)} {oc_l_lends kV_l_lends dc_l_lends pm_l_lends cd_l_lends ct_l_lends : Value}
    {f_law : Addr} {od_law an_law : Option Addr} {sl_law : Array (Option Value)} {oc_law kV_law dc_law pm_law cd_law ct_law : Value}
    {u_NONE : Tok}
    {u_READ : Tok}
    {u_WRITE : Tok}
    (aC_PageLoans : PySem.W.nsIn K mainGlobals "PageLoans" = some (some (.ref C_PageLoans)))
    (aC_Hall : PySem.W.nsIn K mainGlobals "Hall" = some (some (.ref C_Hall)))
    (pg_PageLoans : PySem.W.plainGet K C_PageLoans Str.empty = true)
    (hd_PageLoans : PySem.W.hasDictIn K C_PageLoans = true)
    (po_PageLoans : PySem.W.plainOver K C_PageLoans = true)
    (sa_PageLoans : PySem.W.findIn K (.ref C_PageLoans) "__setattr__" = some (some (.builtin "object.__setattr__")))
    (mk_PageLoans : PySem.W.makesIn K C_PageLoans = true)
    (kc_PageLoans : PySem.W.keepIn K (.ref C_PageLoans) = true)
    (na_PageLoans_page : PySem.W.findIn K (.ref C_PageLoans) "page" = some none)
    (na_PageLoans_number : PySem.W.findIn K (.ref C_PageLoans) "number" = some none)
    (na_PageLoans_writer : PySem.W.findIn K (.ref C_PageLoans) "writer" = some none)
    (na_PageLoans_readers : PySem.W.findIn K (.ref C_PageLoans) "readers" = some none)
    (na_PageLoans_asked : PySem.W.findIn K (.ref C_PageLoans) "asked" = some none)
    (na_PageLoans_awaited : PySem.W.findIn K (.ref C_PageLoans) "awaited" = some none)
    (pg_Hall : PySem.W.plainGet K C_Hall Str.empty = true)
    (hd_Hall : PySem.W.hasDictIn K C_Hall = true)
    (po_Hall : PySem.W.plainOver K C_Hall = true)
    (sa_Hall : PySem.W.findIn K (.ref C_Hall) "__setattr__" = some (some (.builtin "object.__setattr__")))
    (mk_Hall : PySem.W.makesIn K C_Hall = true)
    (kc_Hall : PySem.W.keepIn K (.ref C_Hall) = true)
    (na_Hall_pages : PySem.W.findIn K (.ref C_Hall) "pages" = some none)
    (a_lend_letter : PySem.W.nsIn K mainGlobals "lend_letter" = some (some (.ref f_lend_letter)))
    (l_lend_letter : K.lookup f_lend_letter = some ⟨oc_lend_letter, od_lend_letter, .func (PySem.W.fnOf "lend_letter" "lend_letter" (defArgs s_lend_letter) (defBody s_lend_letter) (defScope s_lend_letter) .none kV_lend_letter dc_lend_letter pm_lend_letter an_lend_letter cd_lend_letter ct_lend_letter), sl_lend_letter⟩)
    (c_lend_letter : PySem.W.codeIn K cd_lend_letter "lend_letter" = true)
    (k_lend_letter : PySem.W.keepIn K (.ref f_lend_letter) = true)
    (a_back_letter : PySem.W.nsIn K mainGlobals "back_letter" = some (some (.ref f_back_letter)))
    (l_back_letter : K.lookup f_back_letter = some ⟨oc_back_letter, od_back_letter, .func (PySem.W.fnOf "back_letter" "back_letter" (defArgs s_back_letter) (defBody s_back_letter) (defScope s_back_letter) .none kV_back_letter dc_back_letter pm_back_letter an_back_letter cd_back_letter ct_back_letter), sl_back_letter⟩)
    (c_back_letter : PySem.W.codeIn K cd_back_letter "back_letter" = true)
    (k_back_letter : PySem.W.keepIn K (.ref f_back_letter) = true)
    (a_PageLoans_init : PySem.W.findIn K (.ref C_PageLoans) "__init__" = some (some (.ref f_PageLoans_init)))
    (i_PageLoans_init : PySem.W.isFn K (.ref f_PageLoans_init) = true)
    (l_PageLoans_init : K.lookup f_PageLoans_init = some ⟨oc_PageLoans_init, od_PageLoans_init, .func (PySem.W.fnOf "__init__" "PageLoans.__init__" (defArgs s_PageLoans_init) (defBody s_PageLoans_init) (defScope s_PageLoans_init) .none kV_PageLoans_init dc_PageLoans_init pm_PageLoans_init an_PageLoans_init cd_PageLoans_init ct_PageLoans_init), sl_PageLoans_init⟩)
    (c_PageLoans_init : PySem.W.codeIn K cd_PageLoans_init "PageLoans.__init__" = true)
    (k_PageLoans_init : PySem.W.keepIn K (.ref f_PageLoans_init) = true)
    (a_PageLoans_take_ask : PySem.W.findIn K (.ref C_PageLoans) "take_ask" = some (some (.ref f_PageLoans_take_ask)))
    (i_PageLoans_take_ask : PySem.W.isFn K (.ref f_PageLoans_take_ask) = true)
    (l_PageLoans_take_ask : K.lookup f_PageLoans_take_ask = some ⟨oc_PageLoans_take_ask, od_PageLoans_take_ask, .func (PySem.W.fnOf "take_ask" "PageLoans.take_ask" (defArgs s_PageLoans_take_ask) (defBody s_PageLoans_take_ask) (defScope s_PageLoans_take_ask) .none kV_PageLoans_take_ask dc_PageLoans_take_ask pm_PageLoans_take_ask an_PageLoans_take_ask cd_PageLoans_take_ask ct_PageLoans_take_ask), sl_PageLoans_take_ask⟩)
    (c_PageLoans_take_ask : PySem.W.codeIn K cd_PageLoans_take_ask "PageLoans.take_ask" = true)
    (k_PageLoans_take_ask : PySem.W.keepIn K (.ref f_PageLoans_take_ask) = true)
    (a_PageLoans_take_answer : PySem.W.findIn K (.ref C_PageLoans) "take_answer" = some (some (.ref f_PageLoans_take_answer)))
    (i_PageLoans_take_answer : PySem.W.isFn K (.ref f_PageLoans_take_answer) = true)
    (l_PageLoans_take_answer : K.lookup f_PageLoans_take_answer = some ⟨oc_PageLoans_take_answer, od_PageLoans_take_answer, .func (PySem.W.fnOf "take_answer" "PageLoans.take_answer" (defArgs s_PageLoans_take_answer) (defBody s_PageLoans_take_answer) (defScope s_PageLoans_take_answer) .none kV_PageLoans_take_answer dc_PageLoans_take_answer pm_PageLoans_take_answer an_PageLoans_take_answer cd_PageLoans_take_answer ct_PageLoans_take_answer), sl_PageLoans_take_answer⟩)
    (c_PageLoans_take_answer : PySem.W.codeIn K cd_PageLoans_take_answer "PageLoans.take_answer" = true)
    (k_PageLoans_take_answer : PySem.W.keepIn K (.ref f_PageLoans_take_answer) = true)
    (a_PageLoans_take_gave : PySem.W.findIn K (.ref C_PageLoans) "take_gave" = some (some (.ref f_PageLoans_take_gave)))
    (i_PageLoans_take_gave : PySem.W.isFn K (.ref f_PageLoans_take_gave) = true)
    (l_PageLoans_take_gave : K.lookup f_PageLoans_take_gave = some ⟨oc_PageLoans_take_gave, od_PageLoans_take_gave, .func (PySem.W.fnOf "take_gave" "PageLoans.take_gave" (defArgs s_PageLoans_take_gave) (defBody s_PageLoans_take_gave) (defScope s_PageLoans_take_gave) .none kV_PageLoans_take_gave dc_PageLoans_take_gave pm_PageLoans_take_gave an_PageLoans_take_gave cd_PageLoans_take_gave ct_PageLoans_take_gave), sl_PageLoans_take_gave⟩)
    (c_PageLoans_take_gave : PySem.W.codeIn K cd_PageLoans_take_gave "PageLoans.take_gave" = true)
    (k_PageLoans_take_gave : PySem.W.keepIn K (.ref f_PageLoans_take_gave) = true)
    (a_PageLoans_serve : PySem.W.findIn K (.ref C_PageLoans) "serve" = some (some (.ref f_PageLoans_serve)))
    (i_PageLoans_serve : PySem.W.isFn K (.ref f_PageLoans_serve) = true)
    (l_PageLoans_serve : K.lookup f_PageLoans_serve = some ⟨oc_PageLoans_serve, od_PageLoans_serve, .func (PySem.W.fnOf "serve" "PageLoans.serve" (defArgs s_PageLoans_serve) (defBody s_PageLoans_serve) (defScope s_PageLoans_serve) .none kV_PageLoans_serve dc_PageLoans_serve pm_PageLoans_serve an_PageLoans_serve cd_PageLoans_serve ct_PageLoans_serve), sl_PageLoans_serve⟩)
    (c_PageLoans_serve : PySem.W.codeIn K cd_PageLoans_serve "PageLoans.serve" = true)
    (k_PageLoans_serve : PySem.W.keepIn K (.ref f_PageLoans_serve) = true)
    (a_PageLoans_bids_for_first : PySem.W.findIn K (.ref C_PageLoans) "bids_for_first" = some (some (.ref f_PageLoans_bids_for_first)))
    (i_PageLoans_bids_for_first : PySem.W.isFn K (.ref f_PageLoans_bids_for_first) = true)
    (l_PageLoans_bids_for_first : K.lookup f_PageLoans_bids_for_first = some ⟨oc_PageLoans_bids_for_first, od_PageLoans_bids_for_first, .func (PySem.W.fnOf "bids_for_first" "PageLoans.bids_for_first" (defArgs s_PageLoans_bids_for_first) (defBody s_PageLoans_bids_for_first) (defScope s_PageLoans_bids_for_first) .none kV_PageLoans_bids_for_first dc_PageLoans_bids_for_first pm_PageLoans_bids_for_first an_PageLoans_bids_for_first cd_PageLoans_bids_for_first ct_PageLoans_bids_for_first), sl_PageLoans_bids_for_first⟩)
    (c_PageLoans_bids_for_first : PySem.W.codeIn K cd_PageLoans_bids_for_first "PageLoans.bids_for_first" = true)
    (k_PageLoans_bids_for_first : PySem.W.keepIn K (.ref f_PageLoans_bids_for_first) = true)
    (a_PageLoans_lend : PySem.W.findIn K (.ref C_PageLoans) "lend" = some (some (.ref f_PageLoans_lend)))
    (i_PageLoans_lend : PySem.W.isFn K (.ref f_PageLoans_lend) = true)
    (l_PageLoans_lend : K.lookup f_PageLoans_lend = some ⟨oc_PageLoans_lend, od_PageLoans_lend, .func (PySem.W.fnOf "lend" "PageLoans.lend" (defArgs s_PageLoans_lend) (defBody s_PageLoans_lend) (defScope s_PageLoans_lend) .none kV_PageLoans_lend dc_PageLoans_lend pm_PageLoans_lend an_PageLoans_lend cd_PageLoans_lend ct_PageLoans_lend), sl_PageLoans_lend⟩)
    (c_PageLoans_lend : PySem.W.codeIn K cd_PageLoans_lend "PageLoans.lend" = true)
    (k_PageLoans_lend : PySem.W.keepIn K (.ref f_PageLoans_lend) = true)
    (a_PageLoans_let_write : PySem.W.findIn K (.ref C_PageLoans) "let_write" = some (some (.ref f_PageLoans_let_write)))
    (i_PageLoans_let_write : PySem.W.isFn K (.ref f_PageLoans_let_write) = true)
    (l_PageLoans_let_write : K.lookup f_PageLoans_let_write = some ⟨oc_PageLoans_let_write, od_PageLoans_let_write, .func (PySem.W.fnOf "let_write" "PageLoans.let_write" (defArgs s_PageLoans_let_write) (defBody s_PageLoans_let_write) (defScope s_PageLoans_let_write) .none kV_PageLoans_let_write dc_PageLoans_let_write pm_PageLoans_let_write an_PageLoans_let_write cd_PageLoans_let_write ct_PageLoans_let_write), sl_PageLoans_let_write⟩)
    (c_PageLoans_let_write : PySem.W.codeIn K cd_PageLoans_let_write "PageLoans.let_write" = true)
    (k_PageLoans_let_write : PySem.W.keepIn K (.ref f_PageLoans_let_write) = true)
    (a_PageLoans_let_read : PySem.W.findIn K (.ref C_PageLoans) "let_read" = some (some (.ref f_PageLoans_let_read)))
    (i_PageLoans_let_read : PySem.W.isFn K (.ref f_PageLoans_let_read) = true)
    (l_PageLoans_let_read : K.lookup f_PageLoans_let_read = some ⟨oc_PageLoans_let_read, od_PageLoans_let_read, .func (PySem.W.fnOf "let_read" "PageLoans.let_read" (defArgs s_PageLoans_let_read) (defBody s_PageLoans_let_read) (defScope s_PageLoans_let_read) .none kV_PageLoans_let_read dc_PageLoans_let_read pm_PageLoans_let_read an_PageLoans_let_read cd_PageLoans_let_read ct_PageLoans_let_read), sl_PageLoans_let_read⟩)
    (c_PageLoans_let_read : PySem.W.codeIn K cd_PageLoans_let_read "PageLoans.let_read" = true)
    (k_PageLoans_let_read : PySem.W.keepIn K (.ref f_PageLoans_let_read) = true)
    (a_Hall_init : PySem.W.findIn K (.ref C_Hall) "__init__" = some (some (.ref f_Hall_init)))
    (i_Hall_init : PySem.W.isFn K (.ref f_Hall_init) = true)
    (l_Hall_init : K.lookup f_Hall_init = some ⟨oc_Hall_init, od_Hall_init, .func (PySem.W.fnOf "__init__" "Hall.__init__" (defArgs s_Hall_init) (defBody s_Hall_init) (defScope s_Hall_init) .none kV_Hall_init dc_Hall_init pm_Hall_init an_Hall_init cd_Hall_init ct_Hall_init), sl_Hall_init⟩)
    (c_Hall_init : PySem.W.codeIn K cd_Hall_init "Hall.__init__" = true)
    (k_Hall_init : PySem.W.keepIn K (.ref f_Hall_init) = true)
    (a_Hall_take : PySem.W.findIn K (.ref C_Hall) "take" = some (some (.ref f_Hall_take)))
    (i_Hall_take : PySem.W.isFn K (.ref f_Hall_take) = true)
    (l_Hall_take : K.lookup f_Hall_take = some ⟨oc_Hall_take, od_Hall_take, .func (PySem.W.fnOf "take" "Hall.take" (defArgs s_Hall_take) (defBody s_Hall_take) (defScope s_Hall_take) .none kV_Hall_take dc_Hall_take pm_Hall_take an_Hall_take cd_Hall_take ct_Hall_take), sl_Hall_take⟩)
    (c_Hall_take : PySem.W.codeIn K cd_Hall_take "Hall.take" = true)
    (k_Hall_take : PySem.W.keepIn K (.ref f_Hall_take) = true)
    (a_taken_by_hall : PySem.W.nsIn K mainGlobals "taken_by_hall" = some (some (.ref f_taken_by_hall)))
    (l_taken_by_hall : K.lookup f_taken_by_hall = some ⟨oc_taken_by_hall, od_taken_by_hall, .func (PySem.W.fnOf "taken_by_hall" "taken_by_hall" (defArgs s_taken_by_hall) (defBody s_taken_by_hall) (defScope s_taken_by_hall) .none kV_taken_by_hall dc_taken_by_hall pm_taken_by_hall an_taken_by_hall cd_taken_by_hall ct_taken_by_hall), sl_taken_by_hall⟩)
    (c_taken_by_hall : PySem.W.codeIn K cd_taken_by_hall "taken_by_hall" = true)
    (k_taken_by_hall : PySem.W.keepIn K (.ref f_taken_by_hall) = true)
    (a_l_whole : PySem.W.nsIn K mainGlobals "_law_whole" = some (some (.ref f_l_whole)))
    (l_l_whole : K.lookup f_l_whole = some ⟨oc_l_whole, od_l_whole, .func (PySem.W.fnOf "_law_whole" "_law_whole" (defArgs s_l_whole) (defBody s_l_whole) (defScope s_l_whole) .none kV_l_whole dc_l_whole pm_l_whole an_l_whole cd_l_whole ct_l_whole), sl_l_whole⟩)
    (c_l_whole : PySem.W.codeIn K cd_l_whole "_law_whole" = true)
    (k_l_whole : PySem.W.keepIn K (.ref f_l_whole) = true)
    (a_l_at : PySem.W.nsIn K mainGlobals "_law_at" = some (some (.ref f_l_at)))
    (l_l_at : K.lookup f_l_at = some ⟨oc_l_at, od_l_at, .func (PySem.W.fnOf "_law_at" "_law_at" (defArgs s_l_at) (defBody s_l_at) (defScope s_l_at) .none kV_l_at dc_l_at pm_l_at an_l_at cd_l_at ct_l_at), sl_l_at⟩)
    (c_l_at : PySem.W.codeIn K cd_l_at "_law_at" = true)
    (k_l_at : PySem.W.keepIn K (.ref f_l_at) = true)
    (a_l_same : PySem.W.nsIn K mainGlobals "_law_same" = some (some (.ref f_l_same)))
    (l_l_same : K.lookup f_l_same = some ⟨oc_l_same, od_l_same, .func (PySem.W.fnOf "_law_same" "_law_same" (defArgs s_l_same) (defBody s_l_same) (defScope s_l_same) .none kV_l_same dc_l_same pm_l_same an_l_same cd_l_same ct_l_same), sl_l_same⟩)
    (c_l_same : PySem.W.codeIn K cd_l_same "_law_same" = true)
    (k_l_same : PySem.W.keepIn K (.ref f_l_same) = true)
    (a_l_town_of : PySem.W.nsIn K mainGlobals "_law_town_of" = some (some (.ref f_l_town_of)))
    (l_l_town_of : K.lookup f_l_town_of = some ⟨oc_l_town_of, od_l_town_of, .func (PySem.W.fnOf "_law_town_of" "_law_town_of" (defArgs s_l_town_of) (defBody s_l_town_of) (defScope s_l_town_of) .none kV_l_town_of dc_l_town_of pm_l_town_of an_l_town_of cd_l_town_of ct_l_town_of), sl_l_town_of⟩)
    (c_l_town_of : PySem.W.codeIn K cd_l_town_of "_law_town_of" = true)
    (k_l_town_of : PySem.W.keepIn K (.ref f_l_town_of) = true)
    (a_l_bid : PySem.W.nsIn K mainGlobals "_law_bid" = some (some (.ref f_l_bid)))
    (l_l_bid : K.lookup f_l_bid = some ⟨oc_l_bid, od_l_bid, .func (PySem.W.fnOf "_law_bid" "_law_bid" (defArgs s_l_bid) (defBody s_l_bid) (defScope s_l_bid) .none kV_l_bid dc_l_bid pm_l_bid an_l_bid cd_l_bid ct_l_bid), sl_l_bid⟩)
    (c_l_bid : PySem.W.codeIn K cd_l_bid "_law_bid" = true)
    (k_l_bid : PySem.W.keepIn K (.ref f_l_bid) = true)
    (a_l_lend_out : PySem.W.nsIn K mainGlobals "_law_lend_out" = some (some (.ref f_l_lend_out)))
    (l_l_lend_out : K.lookup f_l_lend_out = some ⟨oc_l_lend_out, od_l_lend_out, .func (PySem.W.fnOf "_law_lend_out" "_law_lend_out" (defArgs s_l_lend_out) (defBody s_l_lend_out) (defScope s_l_lend_out) .none kV_l_lend_out dc_l_lend_out pm_l_lend_out an_l_lend_out cd_l_lend_out ct_l_lend_out), sl_l_lend_out⟩)
    (c_l_lend_out : PySem.W.codeIn K cd_l_lend_out "_law_lend_out" = true)
    (k_l_lend_out : PySem.W.keepIn K (.ref f_l_lend_out) = true)
    (a_l_serve : PySem.W.nsIn K mainGlobals "_law_serve" = some (some (.ref f_l_serve)))
    (l_l_serve : K.lookup f_l_serve = some ⟨oc_l_serve, od_l_serve, .func (PySem.W.fnOf "_law_serve" "_law_serve" (defArgs s_l_serve) (defBody s_l_serve) (defScope s_l_serve) .none kV_l_serve dc_l_serve pm_l_serve an_l_serve cd_l_serve ct_l_serve), sl_l_serve⟩)
    (c_l_serve : PySem.W.codeIn K cd_l_serve "_law_serve" = true)
    (k_l_serve : PySem.W.keepIn K (.ref f_l_serve) = true)
    (a_l_came_up : PySem.W.nsIn K mainGlobals "_law_came_up" = some (some (.ref f_l_came_up)))
    (l_l_came_up : K.lookup f_l_came_up = some ⟨oc_l_came_up, od_l_came_up, .func (PySem.W.fnOf "_law_came_up" "_law_came_up" (defArgs s_l_came_up) (defBody s_l_came_up) (defScope s_l_came_up) .none kV_l_came_up dc_l_came_up pm_l_came_up an_l_came_up cd_l_came_up ct_l_came_up), sl_l_came_up⟩)
    (c_l_came_up : PySem.W.codeIn K cd_l_came_up "_law_came_up" = true)
    (k_l_came_up : PySem.W.keepIn K (.ref f_l_came_up) = true)
    (a_l_enough : PySem.W.nsIn K mainGlobals "_law_enough" = some (some (.ref f_l_enough)))
    (l_l_enough : K.lookup f_l_enough = some ⟨oc_l_enough, od_l_enough, .func (PySem.W.fnOf "_law_enough" "_law_enough" (defArgs s_l_enough) (defBody s_l_enough) (defScope s_l_enough) .none kV_l_enough dc_l_enough pm_l_enough an_l_enough cd_l_enough ct_l_enough), sl_l_enough⟩)
    (c_l_enough : PySem.W.codeIn K cd_l_enough "_law_enough" = true)
    (k_l_enough : PySem.W.keepIn K (.ref f_l_enough) = true)
    (a_l_fulfilled : PySem.W.nsIn K mainGlobals "_law_fulfilled" = some (some (.ref f_l_fulfilled)))
    (l_l_fulfilled : K.lookup f_l_fulfilled = some ⟨oc_l_fulfilled, od_l_fulfilled, .func (PySem.W.fnOf "_law_fulfilled" "_law_fulfilled" (defArgs s_l_fulfilled) (defBody s_l_fulfilled) (defScope s_l_fulfilled) .none kV_l_fulfilled dc_l_fulfilled pm_l_fulfilled an_l_fulfilled cd_l_fulfilled ct_l_fulfilled), sl_l_fulfilled⟩)
    (c_l_fulfilled : PySem.W.codeIn K cd_l_fulfilled "_law_fulfilled" = true)
    (k_l_fulfilled : PySem.W.keepIn K (.ref f_l_fulfilled) = true)
    (a_l_came_down : PySem.W.nsIn K mainGlobals "_law_came_down" = some (some (.ref f_l_came_down)))
    (l_l_came_down : K.lookup f_l_came_down = some ⟨oc_l_came_down, od_l_came_down, .func (PySem.W.fnOf "_law_came_down" "_law_came_down" (defArgs s_l_came_down) (defBody s_l_came_down) (defScope s_l_came_down) .none kV_l_came_down dc_l_came_down pm_l_came_down an_l_came_down cd_l_came_down ct_l_came_down), sl_l_came_down⟩)
    (c_l_came_down : PySem.W.codeIn K cd_l_came_down "_law_came_down" = true)
    (k_l_came_down : PySem.W.keepIn K (.ref f_l_came_down) = true)
    (a_l_refusal_of : PySem.W.nsIn K mainGlobals "_law_refusal_of" = some (some (.ref f_l_refusal_of)))
    (l_l_refusal_of : K.lookup f_l_refusal_of = some ⟨oc_l_refusal_of, od_l_refusal_of, .func (PySem.W.fnOf "_law_refusal_of" "_law_refusal_of" (defArgs s_l_refusal_of) (defBody s_l_refusal_of) (defScope s_l_refusal_of) .none kV_l_refusal_of dc_l_refusal_of pm_l_refusal_of an_l_refusal_of cd_l_refusal_of ct_l_refusal_of), sl_l_refusal_of⟩)
    (c_l_refusal_of : PySem.W.codeIn K cd_l_refusal_of "_law_refusal_of" = true)
    (k_l_refusal_of : PySem.W.keepIn K (.ref f_l_refusal_of) = true)
    (a_l_answered : PySem.W.nsIn K mainGlobals "_law_answered" = some (some (.ref f_l_answered)))
    (l_l_answered : K.lookup f_l_answered = some ⟨oc_l_answered, od_l_answered, .func (PySem.W.fnOf "_law_answered" "_law_answered" (defArgs s_l_answered) (defBody s_l_answered) (defScope s_l_answered) .none kV_l_answered dc_l_answered pm_l_answered an_l_answered cd_l_answered ct_l_answered), sl_l_answered⟩)
    (c_l_answered : PySem.W.codeIn K cd_l_answered "_law_answered" = true)
    (k_l_answered : PySem.W.keepIn K (.ref f_l_answered) = true)
    (a_l_numbers_of : PySem.W.nsIn K mainGlobals "_law_numbers_of" = some (some (.ref f_l_numbers_of)))
    (l_l_numbers_of : K.lookup f_l_numbers_of = some ⟨oc_l_numbers_of, od_l_numbers_of, .func (PySem.W.fnOf "_law_numbers_of" "_law_numbers_of" (defArgs s_l_numbers_of) (defBody s_l_numbers_of) (defScope s_l_numbers_of) .none kV_l_numbers_of dc_l_numbers_of pm_l_numbers_of an_l_numbers_of cd_l_numbers_of ct_l_numbers_of), sl_l_numbers_of⟩)
    (c_l_numbers_of : PySem.W.codeIn K cd_l_numbers_of "_law_numbers_of" = true)
    (k_l_numbers_of : PySem.W.keepIn K (.ref f_l_numbers_of) = true)
    (a_l_first_deeds : PySem.W.nsIn K mainGlobals "_law_first_deeds" = some (some (.ref f_l_first_deeds)))
    (l_l_first_deeds : K.lookup f_l_first_deeds = some ⟨oc_l_first_deeds, od_l_first_deeds, .func (PySem.W.fnOf "_law_first_deeds" "_law_first_deeds" (defArgs s_l_first_deeds) (defBody s_l_first_deeds) (defScope s_l_first_deeds) .none kV_l_first_deeds dc_l_first_deeds pm_l_first_deeds an_l_first_deeds cd_l_first_deeds ct_l_first_deeds), sl_l_first_deeds⟩)
    (c_l_first_deeds : PySem.W.codeIn K cd_l_first_deeds "_law_first_deeds" = true)
    (k_l_first_deeds : PySem.W.keepIn K (.ref f_l_first_deeds) = true)
    (a_l_asked_of : PySem.W.nsIn K mainGlobals "_law_asked_of" = some (some (.ref f_l_asked_of)))
    (l_l_asked_of : K.lookup f_l_asked_of = some ⟨oc_l_asked_of, od_l_asked_of, .func (PySem.W.fnOf "_law_asked_of" "_law_asked_of" (defArgs s_l_asked_of) (defBody s_l_asked_of) (defScope s_l_asked_of) .none kV_l_asked_of dc_l_asked_of pm_l_asked_of an_l_asked_of cd_l_asked_of ct_l_asked_of), sl_l_asked_of⟩)
    (c_l_asked_of : PySem.W.codeIn K cd_l_asked_of "_law_asked_of" = true)
    (k_l_asked_of : PySem.W.keepIn K (.ref f_l_asked_of) = true)
    (a_l_lends : PySem.W.nsIn K mainGlobals "_law_lends" = some (some (.ref f_l_lends)))
    (l_l_lends : K.lookup f_l_lends = some ⟨oc_l_lends, od_l_lends, .func (PySem.W.fnOf "_law_lends" "_law_lends" (defArgs s_l_lends) (defBody s_l_lends) (defScope s_l_lends) .none kV_l_lends dc_l_lends pm_l_lends an_l_lends cd_l_lends ct_l_lends), sl_l_lends⟩)
    (c_l_lends : PySem.W.codeIn K cd_l_lends "_law_lends" = true)
    (k_l_lends : PySem.W.keepIn K (.ref f_l_lends) = true)
    (a_law : PySem.W.nsIn K mainGlobals "law" = some (some (.ref f_law)))
    (l_law : K.lookup f_law = some ⟨oc_law, od_law, .func (PySem.W.fnOf "law" "law" (defArgs s_law) (defBody s_law) (defScope s_law) .none kV_law dc_law pm_law an_law cd_law ct_law), sl_law⟩)
    (c_law : PySem.W.codeIn K cd_law "law" = true)
    (k_law : PySem.W.keepIn K (.ref f_law) = true)
    (v_NONE : PySem.W.nsIn K mainGlobals "NONE" = some (some (.str "none" u_NONE)))
    (v_READ : PySem.W.nsIn K mainGlobals "READ" = some (some (.str "read" u_READ)))
    (v_WRITE : PySem.W.nsIn K mainGlobals "WRITE" = some (some (.str "write" u_WRITE)))
    (z_len : PySem.W.nsIn K mainGlobals "len" = some none)
    (z_enumerate : PySem.W.nsIn K mainGlobals "enumerate" = some none)
    (z_isinstance : PySem.W.nsIn K mainGlobals "isinstance" = some none)
    (z_int : PySem.W.nsIn K mainGlobals "int" = some none)
    (z_bool : PySem.W.nsIn K mainGlobals "bool" = some none)
    (z_list : PySem.W.nsIn K mainGlobals "list" = some none)
    (z_tuple : PySem.W.nsIn K mainGlobals "tuple" = some none)
    (z_str : PySem.W.nsIn K mainGlobals "str" = some none)
    (z_range : PySem.W.nsIn K mainGlobals "range" = some none)
    : ∃ fd : FuncData, (∀ (s : Shared) (v : Value), BindsTo s fd ⟨[v], []⟩ [("_law_script", v)]) ∧ ∀ base : Heap, K.In base → base.Ns mainGlobals mg → FnOk l.prog w K mg base CX0 8 fa fd ["_law_script"] (spLaw K) := by
  have e := (PySem.W.mg_of X G a_law).symm.trans hfa
  cases e
  have F_lend_letter := fun_mk (st := s_lend_letter) l_lend_letter c_lend_letter k_lend_letter
  have b_lend_letter := F_lend_letter.binds (ps := ["page", "right", "number"]) fun _ _ _ _ _ _ us hl => by obtain ⟨_, _, _, rfl⟩ := len3 hl; rfl
  have F_back_letter := fun_mk (st := s_back_letter) l_back_letter c_back_letter k_back_letter
  have b_back_letter := F_back_letter.binds (ps := ["page", "right"]) fun _ _ _ _ _ _ us hl => by obtain ⟨_, _, rfl⟩ := len2 hl; rfl
  have F_PageLoans_init := fun_mk (st := s_PageLoans_init) l_PageLoans_init c_PageLoans_init k_PageLoans_init
  have b_PageLoans_init := F_PageLoans_init.binds (ps := ["self", "page", "number"]) fun _ _ _ _ _ _ us hl => by obtain ⟨_, _, _, rfl⟩ := len3 hl; rfl
  have F_PageLoans_take_ask := fun_mk (st := s_PageLoans_take_ask) l_PageLoans_take_ask c_PageLoans_take_ask k_PageLoans_take_ask
  have b_PageLoans_take_ask := F_PageLoans_take_ask.binds (ps := ["self", "desk", "right"]) fun _ _ _ _ _ _ us hl => by obtain ⟨_, _, _, rfl⟩ := len3 hl; rfl
  have F_PageLoans_take_answer := fun_mk (st := s_PageLoans_take_answer) l_PageLoans_take_answer c_PageLoans_take_answer k_PageLoans_take_answer
  have b_PageLoans_take_answer := F_PageLoans_take_answer.binds (ps := ["self", "number"]) fun _ _ _ _ _ _ us hl => by obtain ⟨_, _, rfl⟩ := len2 hl; rfl
  have F_PageLoans_take_gave := fun_mk (st := s_PageLoans_take_gave) l_PageLoans_take_gave c_PageLoans_take_gave k_PageLoans_take_gave
  have b_PageLoans_take_gave := F_PageLoans_take_gave.binds (ps := ["self", "desk", "number"]) fun _ _ _ _ _ _ us hl => by obtain ⟨_, _, _, rfl⟩ := len3 hl; rfl
  have F_PageLoans_serve := fun_mk (st := s_PageLoans_serve) l_PageLoans_serve c_PageLoans_serve k_PageLoans_serve
  have b_PageLoans_serve := F_PageLoans_serve.binds (ps := ["self"]) fun _ _ _ _ _ _ us hl => by obtain ⟨_, rfl⟩ := len1 hl; rfl
  have F_PageLoans_bids_for_first := fun_mk (st := s_PageLoans_bids_for_first) l_PageLoans_bids_for_first c_PageLoans_bids_for_first k_PageLoans_bids_for_first
  have b_PageLoans_bids_for_first := F_PageLoans_bids_for_first.binds (ps := ["self"]) fun _ _ _ _ _ _ us hl => by obtain ⟨_, rfl⟩ := len1 hl; rfl
  have F_PageLoans_lend := fun_mk (st := s_PageLoans_lend) l_PageLoans_lend c_PageLoans_lend k_PageLoans_lend
  have b_PageLoans_lend := F_PageLoans_lend.binds (ps := ["self"]) fun _ _ _ _ _ _ us hl => by obtain ⟨_, rfl⟩ := len1 hl; rfl
  have F_PageLoans_let_write := fun_mk (st := s_PageLoans_let_write) l_PageLoans_let_write c_PageLoans_let_write k_PageLoans_let_write
  have b_PageLoans_let_write := F_PageLoans_let_write.binds (ps := ["self", "desk"]) fun _ _ _ _ _ _ us hl => by obtain ⟨_, _, rfl⟩ := len2 hl; rfl
  have F_PageLoans_let_read := fun_mk (st := s_PageLoans_let_read) l_PageLoans_let_read c_PageLoans_let_read k_PageLoans_let_read
  have b_PageLoans_let_read := F_PageLoans_let_read.binds (ps := ["self", "desk"]) fun _ _ _ _ _ _ us hl => by obtain ⟨_, _, rfl⟩ := len2 hl; rfl
  have F_Hall_init := fun_mk (st := s_Hall_init) l_Hall_init c_Hall_init k_Hall_init
  have b_Hall_init := F_Hall_init.binds (ps := ["self", "numbers"]) fun _ _ _ _ _ _ us hl => by obtain ⟨_, _, rfl⟩ := len2 hl; rfl
  have F_Hall_take := fun_mk (st := s_Hall_take) l_Hall_take c_Hall_take k_Hall_take
  have b_Hall_take := F_Hall_take.binds (ps := ["self", "desk", "letter"]) fun _ _ _ _ _ _ us hl => by obtain ⟨_, _, _, rfl⟩ := len3 hl; rfl
  have F_taken_by_hall := fun_mk (st := s_taken_by_hall) l_taken_by_hall c_taken_by_hall k_taken_by_hall
  have b_taken_by_hall := F_taken_by_hall.binds (ps := ["hall", "letters"]) fun _ _ _ _ _ _ us hl => by obtain ⟨_, _, rfl⟩ := len2 hl; rfl
  have F_l_whole := fun_mk (st := s_l_whole) l_l_whole c_l_whole k_l_whole
  have b_l_whole := F_l_whole.binds (ps := ["_law_found"]) fun _ _ _ _ _ _ us hl => by obtain ⟨_, rfl⟩ := len1 hl; rfl
  have F_l_at := fun_mk (st := s_l_at) l_l_at c_l_at k_l_at
  have b_l_at := F_l_at.binds (ps := ["_law_script", "_law_k"]) fun _ _ _ _ _ _ us hl => by obtain ⟨_, _, rfl⟩ := len2 hl; rfl
  have F_l_same := fun_mk (st := s_l_same) l_l_same c_l_same k_l_same
  have b_l_same := F_l_same.binds (ps := ["_law_found", "_law_due"]) fun _ _ _ _ _ _ us hl => by obtain ⟨_, _, rfl⟩ := len2 hl; rfl
  have F_l_town_of := fun_mk (st := s_l_town_of) l_l_town_of c_l_town_of k_l_town_of
  have b_l_town_of := F_l_town_of.binds (ps := ["_law_count", "_law_numbers"]) fun _ _ _ _ _ _ us hl => by obtain ⟨_, _, rfl⟩ := len2 hl; rfl
  have F_l_bid := fun_mk (st := s_l_bid) l_l_bid c_l_bid k_l_bid
  have b_l_bid := F_l_bid.binds (ps := ["_law_town", "_law_page"]) fun _ _ _ _ _ _ us hl => by obtain ⟨_, _, rfl⟩ := len2 hl; rfl
  have F_l_lend_out := fun_mk (st := s_l_lend_out) l_l_lend_out c_l_lend_out k_l_lend_out
  have b_l_lend_out := F_l_lend_out.binds (ps := ["_law_town", "_law_page"]) fun _ _ _ _ _ _ us hl => by obtain ⟨_, _, rfl⟩ := len2 hl; rfl
  have F_l_serve := fun_mk (st := s_l_serve) l_l_serve c_l_serve k_l_serve
  have b_l_serve := F_l_serve.binds (ps := ["_law_town", "_law_page"]) fun _ _ _ _ _ _ us hl => by obtain ⟨_, _, rfl⟩ := len2 hl; rfl
  have F_l_came_up := fun_mk (st := s_l_came_up) l_l_came_up c_l_came_up k_l_came_up
  have b_l_came_up := F_l_came_up.binds (ps := ["_law_town", "_law_desk"]) fun _ _ _ _ _ _ us hl => by obtain ⟨_, _, rfl⟩ := len2 hl; rfl
  have F_l_enough := fun_mk (st := s_l_enough) l_l_enough c_l_enough k_l_enough
  have b_l_enough := F_l_enough.binds (ps := ["_law_right", "_law_wish"]) fun _ _ _ _ _ _ us hl => by obtain ⟨_, _, rfl⟩ := len2 hl; rfl
  have F_l_fulfilled := fun_mk (st := s_l_fulfilled) l_l_fulfilled c_l_fulfilled k_l_fulfilled
  have b_l_fulfilled := F_l_fulfilled.binds (ps := ["_law_town", "_law_desk", "_law_wish"]) fun _ _ _ _ _ _ us hl => by obtain ⟨_, _, _, rfl⟩ := len3 hl; rfl
  have F_l_came_down := fun_mk (st := s_l_came_down) l_l_came_down c_l_came_down k_l_came_down
  have b_l_came_down := F_l_came_down.binds (ps := ["_law_town", "_law_desk"]) fun _ _ _ _ _ _ us hl => by obtain ⟨_, _, rfl⟩ := len2 hl; rfl
  have F_l_refusal_of := fun_mk (st := s_l_refusal_of) l_l_refusal_of c_l_refusal_of k_l_refusal_of
  have b_l_refusal_of := F_l_refusal_of.binds (ps := ["_law_town", "_law_deed"]) fun _ _ _ _ _ _ us hl => by obtain ⟨_, _, rfl⟩ := len2 hl; rfl
  have F_l_answered := fun_mk (st := s_l_answered) l_l_answered c_l_answered k_l_answered
  have b_l_answered := F_l_answered.binds (ps := ["_law_town", "_law_deed"]) fun _ _ _ _ _ _ us hl => by obtain ⟨_, _, rfl⟩ := len2 hl; rfl
  have F_l_numbers_of := fun_mk (st := s_l_numbers_of) l_l_numbers_of c_l_numbers_of k_l_numbers_of
  have b_l_numbers_of := F_l_numbers_of.binds (ps := ["_law_cell", "_law_pages"]) fun _ _ _ _ _ _ us hl => by obtain ⟨_, _, rfl⟩ := len2 hl; rfl
  have F_l_first_deeds := fun_mk (st := s_l_first_deeds) l_l_first_deeds c_l_first_deeds k_l_first_deeds
  have b_l_first_deeds := F_l_first_deeds.binds (ps := ["_law_count", "_law_cell"]) fun _ _ _ _ _ _ us hl => by obtain ⟨_, _, rfl⟩ := len2 hl; rfl
  have F_l_asked_of := fun_mk (st := s_l_asked_of) l_l_asked_of c_l_asked_of k_l_asked_of
  have b_l_asked_of := F_l_asked_of.binds (ps := ["_law_cells", "_law_count", "_law_pages"]) fun _ _ _ _ _ _ us hl => by obtain ⟨_, _, _, rfl⟩ := len3 hl; rfl
  have F_l_lends := fun_mk (st := s_l_lends) l_l_lends c_l_lends k_l_lends
  have b_l_lends := F_l_lends.binds (ps := ["_law_hall", "_law_page", "_law_number"]) fun _ _ _ _ _ _ us hl => by obtain ⟨_, _, _, rfl⟩ := len3 hl; rfl
  have F_law := fun_mk (st := s_law) l_law c_law k_law
  have b_law := F_law.binds (ps := ["_law_script"]) fun _ _ _ _ _ _ us hl => by obtain ⟨_, rfl⟩ := len1 hl; rfl
  have T : Txt K w mg ⟨C_PageLoans, C_Hall, f_lend_letter, PySem.W.fnOf "lend_letter" "lend_letter" (defArgs s_lend_letter) (defBody s_lend_letter) (defScope s_lend_letter) .none kV_lend_letter dc_lend_letter pm_lend_letter an_lend_letter cd_lend_letter ct_lend_letter, f_back_letter, PySem.W.fnOf "back_letter" "back_letter" (defArgs s_back_letter) (defBody s_back_letter) (defScope s_back_letter) .none kV_back_letter dc_back_letter pm_back_letter an_back_letter cd_back_letter ct_back_letter, f_PageLoans_init, PySem.W.fnOf "__init__" "PageLoans.__init__" (defArgs s_PageLoans_init) (defBody s_PageLoans_init) (defScope s_PageLoans_init) .none kV_PageLoans_init dc_PageLoans_init pm_PageLoans_init an_PageLoans_init cd_PageLoans_init ct_PageLoans_init, f_PageLoans_take_ask, PySem.W.fnOf "take_ask" "PageLoans.take_ask" (defArgs s_PageLoans_take_ask) (defBody s_PageLoans_take_ask) (defScope s_PageLoans_take_ask) .none kV_PageLoans_take_ask dc_PageLoans_take_ask pm_PageLoans_take_ask an_PageLoans_take_ask cd_PageLoans_take_ask ct_PageLoans_take_ask, f_PageLoans_take_answer, PySem.W.fnOf "take_answer" "PageLoans.take_answer" (defArgs s_PageLoans_take_answer) (defBody s_PageLoans_take_answer) (defScope s_PageLoans_take_answer) .none kV_PageLoans_take_answer dc_PageLoans_take_answer pm_PageLoans_take_answer an_PageLoans_take_answer cd_PageLoans_take_answer ct_PageLoans_take_answer, f_PageLoans_take_gave, PySem.W.fnOf "take_gave" "PageLoans.take_gave" (defArgs s_PageLoans_take_gave) (defBody s_PageLoans_take_gave) (defScope s_PageLoans_take_gave) .none kV_PageLoans_take_gave dc_PageLoans_take_gave pm_PageLoans_take_gave an_PageLoans_take_gave cd_PageLoans_take_gave ct_PageLoans_take_gave, f_PageLoans_serve, PySem.W.fnOf "serve" "PageLoans.serve" (defArgs s_PageLoans_serve) (defBody s_PageLoans_serve) (defScope s_PageLoans_serve) .none kV_PageLoans_serve dc_PageLoans_serve pm_PageLoans_serve an_PageLoans_serve cd_PageLoans_serve ct_PageLoans_serve, f_PageLoans_bids_for_first, PySem.W.fnOf "bids_for_first" "PageLoans.bids_for_first" (defArgs s_PageLoans_bids_for_first) (defBody s_PageLoans_bids_for_first) (defScope s_PageLoans_bids_for_first) .none kV_PageLoans_bids_for_first dc_PageLoans_bids_for_first pm_PageLoans_bids_for_first an_PageLoans_bids_for_first cd_PageLoans_bids_for_first ct_PageLoans_bids_for_first, f_PageLoans_lend, PySem.W.fnOf "lend" "PageLoans.lend" (defArgs s_PageLoans_lend) (defBody s_PageLoans_lend) (defScope s_PageLoans_lend) .none kV_PageLoans_lend dc_PageLoans_lend pm_PageLoans_lend an_PageLoans_lend cd_PageLoans_lend ct_PageLoans_lend, f_PageLoans_let_write, PySem.W.fnOf "let_write" "PageLoans.let_write" (defArgs s_PageLoans_let_write) (defBody s_PageLoans_let_write) (defScope s_PageLoans_let_write) .none kV_PageLoans_let_write dc_PageLoans_let_write pm_PageLoans_let_write an_PageLoans_let_write cd_PageLoans_let_write ct_PageLoans_let_write, f_PageLoans_let_read, PySem.W.fnOf "let_read" "PageLoans.let_read" (defArgs s_PageLoans_let_read) (defBody s_PageLoans_let_read) (defScope s_PageLoans_let_read) .none kV_PageLoans_let_read dc_PageLoans_let_read pm_PageLoans_let_read an_PageLoans_let_read cd_PageLoans_let_read ct_PageLoans_let_read, f_Hall_init, PySem.W.fnOf "__init__" "Hall.__init__" (defArgs s_Hall_init) (defBody s_Hall_init) (defScope s_Hall_init) .none kV_Hall_init dc_Hall_init pm_Hall_init an_Hall_init cd_Hall_init ct_Hall_init, f_Hall_take, PySem.W.fnOf "take" "Hall.take" (defArgs s_Hall_take) (defBody s_Hall_take) (defScope s_Hall_take) .none kV_Hall_take dc_Hall_take pm_Hall_take an_Hall_take cd_Hall_take ct_Hall_take, f_taken_by_hall, PySem.W.fnOf "taken_by_hall" "taken_by_hall" (defArgs s_taken_by_hall) (defBody s_taken_by_hall) (defScope s_taken_by_hall) .none kV_taken_by_hall dc_taken_by_hall pm_taken_by_hall an_taken_by_hall cd_taken_by_hall ct_taken_by_hall, f_l_whole, PySem.W.fnOf "_law_whole" "_law_whole" (defArgs s_l_whole) (defBody s_l_whole) (defScope s_l_whole) .none kV_l_whole dc_l_whole pm_l_whole an_l_whole cd_l_whole ct_l_whole, f_l_at, PySem.W.fnOf "_law_at" "_law_at" (defArgs s_l_at) (defBody s_l_at) (defScope s_l_at) .none kV_l_at dc_l_at pm_l_at an_l_at cd_l_at ct_l_at, f_l_same, PySem.W.fnOf "_law_same" "_law_same" (defArgs s_l_same) (defBody s_l_same) (defScope s_l_same) .none kV_l_same dc_l_same pm_l_same an_l_same cd_l_same ct_l_same, f_l_town_of, PySem.W.fnOf "_law_town_of" "_law_town_of" (defArgs s_l_town_of) (defBody s_l_town_of) (defScope s_l_town_of) .none kV_l_town_of dc_l_town_of pm_l_town_of an_l_town_of cd_l_town_of ct_l_town_of, f_l_bid, PySem.W.fnOf "_law_bid" "_law_bid" (defArgs s_l_bid) (defBody s_l_bid) (defScope s_l_bid) .none kV_l_bid dc_l_bid pm_l_bid an_l_bid cd_l_bid ct_l_bid, f_l_lend_out, PySem.W.fnOf "_law_lend_out" "_law_lend_out" (defArgs s_l_lend_out) (defBody s_l_lend_out) (defScope s_l_lend_out) .none kV_l_lend_out dc_l_lend_out pm_l_lend_out an_l_lend_out cd_l_lend_out ct_l_lend_out, f_l_serve, PySem.W.fnOf "_law_serve" "_law_serve" (defArgs s_l_serve) (defBody s_l_serve) (defScope s_l_serve) .none kV_l_serve dc_l_serve pm_l_serve an_l_serve cd_l_serve ct_l_serve, f_l_came_up, PySem.W.fnOf "_law_came_up" "_law_came_up" (defArgs s_l_came_up) (defBody s_l_came_up) (defScope s_l_came_up) .none kV_l_came_up dc_l_came_up pm_l_came_up an_l_came_up cd_l_came_up ct_l_came_up, f_l_enough, PySem.W.fnOf "_law_enough" "_law_enough" (defArgs s_l_enough) (defBody s_l_enough) (defScope s_l_enough) .none kV_l_enough dc_l_enough pm_l_enough an_l_enough cd_l_enough ct_l_enough, f_l_fulfilled, PySem.W.fnOf "_law_fulfilled" "_law_fulfilled" (defArgs s_l_fulfilled) (defBody s_l_fulfilled) (defScope s_l_fulfilled) .none kV_l_fulfilled dc_l_fulfilled pm_l_fulfilled an_l_fulfilled cd_l_fulfilled ct_l_fulfilled, f_l_came_down, PySem.W.fnOf "_law_came_down" "_law_came_down" (defArgs s_l_came_down) (defBody s_l_came_down) (defScope s_l_came_down) .none kV_l_came_down dc_l_came_down pm_l_came_down an_l_came_down cd_l_came_down ct_l_came_down, f_l_refusal_of, PySem.W.fnOf "_law_refusal_of" "_law_refusal_of" (defArgs s_l_refusal_of) (defBody s_l_refusal_of) (defScope s_l_refusal_of) .none kV_l_refusal_of dc_l_refusal_of pm_l_refusal_of an_l_refusal_of cd_l_refusal_of ct_l_refusal_of, f_l_answered, PySem.W.fnOf "_law_answered" "_law_answered" (defArgs s_l_answered) (defBody s_l_answered) (defScope s_l_answered) .none kV_l_answered dc_l_answered pm_l_answered an_l_answered cd_l_answered ct_l_answered, f_l_numbers_of, PySem.W.fnOf "_law_numbers_of" "_law_numbers_of" (defArgs s_l_numbers_of) (defBody s_l_numbers_of) (defScope s_l_numbers_of) .none kV_l_numbers_of dc_l_numbers_of pm_l_numbers_of an_l_numbers_of cd_l_numbers_of ct_l_numbers_of, f_l_first_deeds, PySem.W.fnOf "_law_first_deeds" "_law_first_deeds" (defArgs s_l_first_deeds) (defBody s_l_first_deeds) (defScope s_l_first_deeds) .none kV_l_first_deeds dc_l_first_deeds pm_l_first_deeds an_l_first_deeds cd_l_first_deeds ct_l_first_deeds, f_l_asked_of, PySem.W.fnOf "_law_asked_of" "_law_asked_of" (defArgs s_l_asked_of) (defBody s_l_asked_of) (defScope s_l_asked_of) .none kV_l_asked_of dc_l_asked_of pm_l_asked_of an_l_asked_of cd_l_asked_of ct_l_asked_of, f_l_lends, PySem.W.fnOf "_law_lends" "_law_lends" (defArgs s_l_lends) (defBody s_l_lends) (defScope s_l_lends) .none kV_l_lends dc_l_lends pm_l_lends an_l_lends cd_l_lends ct_l_lends, fa, PySem.W.fnOf "law" "law" (defArgs s_law) (defBody s_law) (defScope s_law) .none kV_law dc_law pm_law an_law cd_law ct_law⟩ := ⟨⟨pg_PageLoans, hd_PageLoans, po_PageLoans, sa_PageLoans⟩,
    ⟨mk_PageLoans, a_PageLoans_init, i_PageLoans_init, kc_PageLoans⟩,
    PySem.W.mg_of X G aC_PageLoans,
    na_PageLoans_page,
    na_PageLoans_number,
    na_PageLoans_writer,
    na_PageLoans_readers,
    na_PageLoans_asked,
    na_PageLoans_awaited,
    ⟨pg_Hall, hd_Hall, po_Hall, sa_Hall⟩,
    ⟨mk_Hall, a_Hall_init, i_Hall_init, kc_Hall⟩,
    PySem.W.mg_of X G aC_Hall,
    na_Hall_pages,
    F_lend_letter,
    b_lend_letter,
    PySem.W.mg_of X G a_lend_letter,
    F_back_letter,
    b_back_letter,
    PySem.W.mg_of X G a_back_letter,
    F_PageLoans_init,
    b_PageLoans_init,
    F_PageLoans_take_ask,
    b_PageLoans_take_ask,
    ⟨a_PageLoans_take_ask, i_PageLoans_take_ask, k_PageLoans_take_ask⟩,
    F_PageLoans_take_answer,
    b_PageLoans_take_answer,
    ⟨a_PageLoans_take_answer, i_PageLoans_take_answer, k_PageLoans_take_answer⟩,
    F_PageLoans_take_gave,
    b_PageLoans_take_gave,
    ⟨a_PageLoans_take_gave, i_PageLoans_take_gave, k_PageLoans_take_gave⟩,
    F_PageLoans_serve,
    b_PageLoans_serve,
    ⟨a_PageLoans_serve, i_PageLoans_serve, k_PageLoans_serve⟩,
    F_PageLoans_bids_for_first,
    b_PageLoans_bids_for_first,
    ⟨a_PageLoans_bids_for_first, i_PageLoans_bids_for_first, k_PageLoans_bids_for_first⟩,
    F_PageLoans_lend,
    b_PageLoans_lend,
    ⟨a_PageLoans_lend, i_PageLoans_lend, k_PageLoans_lend⟩,
    F_PageLoans_let_write,
    b_PageLoans_let_write,
    ⟨a_PageLoans_let_write, i_PageLoans_let_write, k_PageLoans_let_write⟩,
    F_PageLoans_let_read,
    b_PageLoans_let_read,
    ⟨a_PageLoans_let_read, i_PageLoans_let_read, k_PageLoans_let_read⟩,
    F_Hall_init,
    b_Hall_init,
    F_Hall_take,
    b_Hall_take,
    ⟨a_Hall_take, i_Hall_take, k_Hall_take⟩,
    F_taken_by_hall,
    b_taken_by_hall,
    PySem.W.mg_of X G a_taken_by_hall,
    F_l_whole,
    b_l_whole,
    PySem.W.mg_of X G a_l_whole,
    F_l_at,
    b_l_at,
    PySem.W.mg_of X G a_l_at,
    F_l_same,
    b_l_same,
    PySem.W.mg_of X G a_l_same,
    F_l_town_of,
    b_l_town_of,
    PySem.W.mg_of X G a_l_town_of,
    F_l_bid,
    b_l_bid,
    PySem.W.mg_of X G a_l_bid,
    F_l_lend_out,
    b_l_lend_out,
    PySem.W.mg_of X G a_l_lend_out,
    F_l_serve,
    b_l_serve,
    PySem.W.mg_of X G a_l_serve,
    F_l_came_up,
    b_l_came_up,
    PySem.W.mg_of X G a_l_came_up,
    F_l_enough,
    b_l_enough,
    PySem.W.mg_of X G a_l_enough,
    F_l_fulfilled,
    b_l_fulfilled,
    PySem.W.mg_of X G a_l_fulfilled,
    F_l_came_down,
    b_l_came_down,
    PySem.W.mg_of X G a_l_came_down,
    F_l_refusal_of,
    b_l_refusal_of,
    PySem.W.mg_of X G a_l_refusal_of,
    F_l_answered,
    b_l_answered,
    PySem.W.mg_of X G a_l_answered,
    F_l_numbers_of,
    b_l_numbers_of,
    PySem.W.mg_of X G a_l_numbers_of,
    F_l_first_deeds,
    b_l_first_deeds,
    PySem.W.mg_of X G a_l_first_deeds,
    F_l_asked_of,
    b_l_asked_of,
    PySem.W.mg_of X G a_l_asked_of,
    F_l_lends,
    b_l_lends,
    PySem.W.mg_of X G a_l_lends,
    F_law,
    b_law,
    PySem.W.mg_of X G a_law,
    ⟨u_NONE, PySem.W.mg_of X G v_NONE⟩,
    ⟨u_READ, PySem.W.mg_of X G v_READ⟩,
    ⟨u_WRITE, PySem.W.mg_of X G v_WRITE⟩,
    PySem.W.mg_none_of X G z_len,
    PySem.W.mg_none_of X G z_enumerate,
    PySem.W.mg_none_of X G z_isinstance,
    PySem.W.mg_none_of X G z_int,
    PySem.W.mg_none_of X G z_bool,
    PySem.W.mg_none_of X G z_list,
    PySem.W.mg_none_of X G z_tuple,
    PySem.W.mg_none_of X G z_str,
    PySem.W.mg_none_of X G z_range⟩
  exact ⟨_, fun s v => .of_eq rfl, fun base _ _ => ok_law T⟩
theorem walk {l : PySem.W.OpenLaw} {q : Program} {loose : List Str} {XP : (Str → Option Value) → Heap → Prop} {YP : World → Heap → Prop} {d : DefRec} {K : Params → PySem.W.Frag} (hn : l.most = some 63) (hdf : d.params.defaults = [])
    (hY : ∀ (w : World) (h : Heap), YP w h → (K w.params).In h)
    (F : ∀ (w : World) (mg : Str → Option Value) (fa : Addr) (h : Heap), (K w.params).In h → h.Ns mainGlobals mg → mg d.name = some (.ref fa) →
      ∃ fd : FuncData, (∀ (s : Shared) (u : Value), BindsTo s fd ⟨[u], []⟩ [("_law_script", u)]) ∧ ∀ base : Heap, (K w.params).In base → base.Ns mainGlobals mg → FnOk l.prog w (K w.params) mg base CX0 8 fa fd ["_law_script"] (spLaw (K w.params))) :
    PySem.W.WalkO q loose XP YP l.row.toRowW d [] (fun f vs => PySem.call f vs) :=
  L2.walk_of (n := 63) (k := 8) (x := "_law_script") (CX := fun _ => CX0) (sp := fun w => spLaw (K w.params)) hn (by decide) hdf ⟨rfl, by decide, by decide⟩ hY F (fun _ _ a ns hl _ hS => ⟨a, ns, rfl, hS, hl, fun _ => rfl⟩) fun _ _ _ _ _ z => z
end K07
namespace H1
open PySem PySem.W PyProof.Rows
noncomputable abbrev pw := PySem.Challenge.pw_copydesks_k09_what_the_hall_sends
noncomputable abbrev rw_ := PySem.Challenge.rw_copydesks_k09_what_the_hall_sends
theorem said : OpenLaw.wellSaid rw_ = true := (congrFun Fast.te9446332074065402090 rw_).trans (by kernel_rfl)
noncomputable def q : Program := view pw [1, 2, 3, 4, 5, 7, 8, 9, 11, 12, 13, 14, 15, 16, 17, 18, 19, 20, 21, 22, 23, 24, 25, 26, 27, 28]
theorem dkh : (defOf q "law").isSome = true := by kernel_rfl
noncomputable def dk := ((defOf q "law").get dkh).1
noncomputable def d : DefRec := { dk with name := "law" }
theorem hdef : defOf q "law" = some (d, []) := by kernel_rfl
theorem hp : pw.theDef "law" = some (d.params, d.body, d.scope) := by kernel_rfl
theorem hk : kwWritten? d.params.kwonlyargs d.params.kw_defaults = some [] := by kernel_rfl
theorem hdf : d.params.defaults = [] := by kernel_rfl
theorem ok : (chainsOk q && opensWell pw && (frees rw_.row.toRowW && rw_.row.toRowW.within.isEmpty)) = true := by kernel_rfl
theorem op1 : opening pw = plainProg pw.main.scope.names := by kernel_rfl
theorem op2 : ∀ s, fenceModules? pw s = some s := fun s => by kernel_rfl
end H1
local macro_rules | `(tactic| o_head ($f $K $A $E)) => `(tactic| (
  refine PySem.W.holds_open (q := H1.q) (loose := []) (d := H1.d) (kwd := []) (Xt := fun s => PySem.W.xlAt H1.q [] s && PySem.W.recOk [] s) (XP := PySem.W.XL H1.q []) (Yf := fun s => List.map s.heap.get? $A) (Ya := fun w => List.map (fun p => some p.2) ($K w.params)) (YP := PySem.W.InK $K) (N := 3010) ?hl (PySem.W.InK.of (as := $A) $E) PySem.W.InK.keeps (fun s e => PySem.W.xl_of s (Bool.and_eq_true_iff.mp e).1) PySem.W.XL.keeps H1.hdef H1.hp H1.hk (fun s e => PySem.W.recFacts_of (Bool.and_eq_true_iff.mp e).2) rfl (by assumption) H1.ok ⟨rfl, rfl, rfl, rfl, rfl, by decide +kernel⟩ ?hw ?hc
  case hl =>
    refine H1.left (T₀ := H1.T0) (n₀ := 11) (life := {}) (gs₀ := #[]) (d₀ := PySem.W.boot_drawn) (k₀ := PySem.W.boot_toks) (ann := some (.ref 6)) (M := 3010) (H1.opens H1.op1 (by kernel_rfl) H1.op2) H1.sizes ?_ (by kernel_rfl)
    rw [PySem.W.Fast.te12555587260221468252, PySem.W.Fast.te14364793385576792824, PySem.W.Fast.te5800936268936201502]; intro w; kernel_rfl))
open PySem PySem.W PyProof.Rows
set_option maxRecDepth 100000 in
set_option maxHeartbeats 0 in
theorem PySem.Challenge.cw_copydesks_k09_what_the_hall_sends_holds : PySem.Challenge.rw_copydesks_k09_what_the_hall_sends.Holds := by
  w_on; refine PySem.W.holds_law H1.said fun said => ?_; k_head; (case hw => w_witness2)
  k_fill
  refine K07.walk (l := PySem.Challenge.rw_copydesks_k09_what_the_hall_sends) rfl H1.hdf (fun w h Y => Y) ?F
  case F =>
    intro w mg fa h KX G hmg
    refine' K07.all_mk KX G hmg ?aC_PageLoans ?aC_Hall ?pg_PageLoans ?hd_PageLoans ?po_PageLoans ?sa_PageLoans ?mk_PageLoans ?kc_PageLoans ?na_PageLoans_page ?na_PageLoans_number ?na_PageLoans_writer ?na_PageLoans_readers ?na_PageLoans_asked ?na_PageLoans_awaited ?pg_Hall ?hd_Hall ?po_Hall ?sa_Hall ?mk_Hall ?kc_Hall ?na_Hall_pages ?a_lend_letter ?l_lend_letter ?c_lend_letter ?k_lend_letter ?a_back_letter ?l_back_letter ?c_back_letter ?k_back_letter ?a_PageLoans_init ?i_PageLoans_init ?l_PageLoans_init ?c_PageLoans_init ?k_PageLoans_init ?a_PageLoans_take_ask ?i_PageLoans_take_ask ?l_PageLoans_take_ask ?c_PageLoans_take_ask ?k_PageLoans_take_ask ?a_PageLoans_take_answer ?i_PageLoans_take_answer ?l_PageLoans_take_answer ?c_PageLoans_take_answer ?k_PageLoans_take_answer ?a_PageLoans_take_gave ?i_PageLoans_take_gave ?l_PageLoans_take_gave ?c_PageLoans_take_gave ?k_PageLoans_take_gave ?a_PageLoans_serve ?i_PageLoans_serve ?l_PageLoans_serve ?c_PageLoans_serve ?k_PageLoans_serve ?a_PageLoans_bids_for_first ?i_PageLoans_bids_for_first ?l_PageLoans_bids_for_first ?c_PageLoans_bids_for_first ?k_PageLoans_bids_for_first ?a_PageLoans_lend ?i_PageLoans_lend ?l_PageLoans_lend ?c_PageLoans_lend ?k_PageLoans_lend ?a_PageLoans_let_write ?i_PageLoans_let_write ?l_PageLoans_let_write ?c_PageLoans_let_write ?k_PageLoans_let_write ?a_PageLoans_let_read ?i_PageLoans_let_read ?l_PageLoans_let_read ?c_PageLoans_let_read ?k_PageLoans_let_read ?a_Hall_init ?i_Hall_init ?l_Hall_init ?c_Hall_init ?k_Hall_init ?a_Hall_take ?i_Hall_take ?l_Hall_take ?c_Hall_take ?k_Hall_take ?a_taken_by_hall ?l_taken_by_hall ?c_taken_by_hall ?k_taken_by_hall ?a_l_whole ?l_l_whole ?c_l_whole ?k_l_whole ?a_l_at ?l_l_at ?c_l_at ?k_l_at ?a_l_same ?l_l_same ?c_l_same ?k_l_same ?a_l_town_of ?l_l_town_of ?c_l_town_of ?k_l_town_of ?a_l_bid ?l_l_bid ?c_l_bid ?k_l_bid ?a_l_lend_out ?l_l_lend_out ?c_l_lend_out ?k_l_lend_out ?a_l_serve ?l_l_serve ?c_l_serve ?k_l_serve ?a_l_came_up ?l_l_came_up ?c_l_came_up ?k_l_came_up ?a_l_enough ?l_l_enough ?c_l_enough ?k_l_enough ?a_l_fulfilled ?l_l_fulfilled ?c_l_fulfilled ?k_l_fulfilled ?a_l_came_down ?l_l_came_down ?c_l_came_down ?k_l_came_down ?a_l_refusal_of ?l_l_refusal_of ?c_l_refusal_of ?k_l_refusal_of ?a_l_answered ?l_l_answered ?c_l_answered ?k_l_answered ?a_l_numbers_of ?l_l_numbers_of ?c_l_numbers_of ?k_l_numbers_of ?a_l_first_deeds ?l_l_first_deeds ?c_l_first_deeds ?k_l_first_deeds ?a_l_asked_of ?l_l_asked_of ?c_l_asked_of ?k_l_asked_of ?a_l_lends ?l_l_lends ?c_l_lends ?k_l_lends ?a_law ?l_law ?c_law ?k_law ?v_NONE ?v_READ ?v_WRITE ?z_len ?z_enumerate ?z_isinstance ?z_int ?z_bool ?z_list ?z_tuple ?z_str ?z_range
    (case aC_PageLoans => k_is)
    (case aC_Hall => k_is)
    (case pg_PageLoans => k_is)
    (case hd_PageLoans => k_is)
    (case po_PageLoans => k_is)
    (case sa_PageLoans => k_is)
    (case mk_PageLoans => k_is)
    (case kc_PageLoans => k_is)
    (case na_PageLoans_page => k_is)
    (case na_PageLoans_number => k_is)
    (case na_PageLoans_writer => k_is)
    (case na_PageLoans_readers => k_is)
    (case na_PageLoans_asked => k_is)
    (case na_PageLoans_awaited => k_is)
    (case pg_Hall => k_is)
    (case hd_Hall => k_is)
    (case po_Hall => k_is)
    (case sa_Hall => k_is)
    (case mk_Hall => k_is)
    (case kc_Hall => k_is)
    (case na_Hall_pages => k_is)
    (case a_lend_letter => k_is)
    (case l_lend_letter => k_is)
    (case c_lend_letter => k_is)
    (case k_lend_letter => k_is)
    (case a_back_letter => k_is)
    (case l_back_letter => k_is)
    (case c_back_letter => k_is)
    (case k_back_letter => k_is)
    (case a_PageLoans_init => k_is)
    (case i_PageLoans_init => k_is)
    (case l_PageLoans_init => k_is)
    (case c_PageLoans_init => k_is)
    (case k_PageLoans_init => k_is)
    (case a_PageLoans_take_ask => k_is)
    (case i_PageLoans_take_ask => k_is)
    (case l_PageLoans_take_ask => k_is)
    (case c_PageLoans_take_ask => k_is)
    (case k_PageLoans_take_ask => k_is)
    (case a_PageLoans_take_answer => k_is)
    (case i_PageLoans_take_answer => k_is)
    (case l_PageLoans_take_answer => k_is)
    (case c_PageLoans_take_answer => k_is)
    (case k_PageLoans_take_answer => k_is)
    (case a_PageLoans_take_gave => k_is)
    (case i_PageLoans_take_gave => k_is)
    (case l_PageLoans_take_gave => k_is)
    (case c_PageLoans_take_gave => k_is)
    (case k_PageLoans_take_gave => k_is)
    (case a_PageLoans_serve => k_is)
    (case i_PageLoans_serve => k_is)
    (case l_PageLoans_serve => k_is)
    (case c_PageLoans_serve => k_is)
    (case k_PageLoans_serve => k_is)
    (case a_PageLoans_bids_for_first => k_is)
    (case i_PageLoans_bids_for_first => k_is)
    (case l_PageLoans_bids_for_first => k_is)
    (case c_PageLoans_bids_for_first => k_is)
    (case k_PageLoans_bids_for_first => k_is)
    (case a_PageLoans_lend => k_is)
    (case i_PageLoans_lend => k_is)
    (case l_PageLoans_lend => k_is)
    (case c_PageLoans_lend => k_is)
    (case k_PageLoans_lend => k_is)
    (case a_PageLoans_let_write => k_is)
    (case i_PageLoans_let_write => k_is)
    (case l_PageLoans_let_write => k_is)
    (case c_PageLoans_let_write => k_is)
    (case k_PageLoans_let_write => k_is)
    (case a_PageLoans_let_read => k_is)
    (case i_PageLoans_let_read => k_is)
    (case l_PageLoans_let_read => k_is)
    (case c_PageLoans_let_read => k_is)
    (case k_PageLoans_let_read => k_is)
    (case a_Hall_init => k_is)
    (case i_Hall_init => k_is)
    (case l_Hall_init => k_is)
    (case c_Hall_init => k_is)
    (case k_Hall_init => k_is)
    (case a_Hall_take => k_is)
    (case i_Hall_take => k_is)
    (case l_Hall_take => k_is)
    (case c_Hall_take => k_is)
    (case k_Hall_take => k_is)
    (case a_taken_by_hall => k_is)
    (case l_taken_by_hall => k_is)
    (case c_taken_by_hall => k_is)
    (case k_taken_by_hall => k_is)
    (case a_l_whole => k_is)
    (case l_l_whole => k_is)
    (case c_l_whole => k_is)
    (case k_l_whole => k_is)
    (case a_l_at => k_is)
    (case l_l_at => k_is)
    (case c_l_at => k_is)
    (case k_l_at => k_is)
    (case a_l_same => k_is)
    (case l_l_same => k_is)
    (case c_l_same => k_is)
    (case k_l_same => k_is)
    (case a_l_town_of => k_is)
    (case l_l_town_of => k_is)
    (case c_l_town_of => k_is)
    (case k_l_town_of => k_is)
    (case a_l_bid => k_is)
    (case l_l_bid => k_is)
    (case c_l_bid => k_is)
    (case k_l_bid => k_is)
    (case a_l_lend_out => k_is)
    (case l_l_lend_out => k_is)
    (case c_l_lend_out => k_is)
    (case k_l_lend_out => k_is)
    (case a_l_serve => k_is)
    (case l_l_serve => k_is)
    (case c_l_serve => k_is)
    (case k_l_serve => k_is)
    (case a_l_came_up => k_is)
    (case l_l_came_up => k_is)
    (case c_l_came_up => k_is)
    (case k_l_came_up => k_is)
    (case a_l_enough => k_is)
    (case l_l_enough => k_is)
    (case c_l_enough => k_is)
    (case k_l_enough => k_is)
    (case a_l_fulfilled => k_is)
    (case l_l_fulfilled => k_is)
    (case c_l_fulfilled => k_is)
    (case k_l_fulfilled => k_is)
    (case a_l_came_down => k_is)
    (case l_l_came_down => k_is)
    (case c_l_came_down => k_is)
    (case k_l_came_down => k_is)
    (case a_l_refusal_of => k_is)
    (case l_l_refusal_of => k_is)
    (case c_l_refusal_of => k_is)
    (case k_l_refusal_of => k_is)
    (case a_l_answered => k_is)
    (case l_l_answered => k_is)
    (case c_l_answered => k_is)
    (case k_l_answered => k_is)
    (case a_l_numbers_of => k_is)
    (case l_l_numbers_of => k_is)
    (case c_l_numbers_of => k_is)
    (case k_l_numbers_of => k_is)
    (case a_l_first_deeds => k_is)
    (case l_l_first_deeds => k_is)
    (case c_l_first_deeds => k_is)
    (case k_l_first_deeds => k_is)
    (case a_l_asked_of => k_is)
    (case l_l_asked_of => k_is)
    (case c_l_asked_of => k_is)
    (case k_l_asked_of => k_is)
    (case a_l_lends => k_is)
    (case l_l_lends => k_is)
    (case c_l_lends => k_is)
    (case k_l_lends => k_is)
    (case a_law => k_is)
    (case l_law => k_is)
    (case c_law => k_is)
    (case k_law => k_is)
    (case v_NONE => k_is)
    (case v_READ => k_is)
    (case v_WRITE => k_is)
    (case z_len => k_is)
    (case z_enumerate => k_is)
    (case z_isinstance => k_is)
    (case z_int => k_is)
    (case z_bool => k_is)
    (case z_list => k_is)
    (case z_tuple => k_is)
    (case z_str => k_is)
    (case z_range => k_is)
